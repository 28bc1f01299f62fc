import PyProof.Rows.All
import Wide.All
import OpenK.AllK
import Wide.FinOn
import Lean
import PyProof.EqAt
import PyProof.EqKinds
import PyProof.TupleCall
import PyProof.NeKinds
import PyProof.SumAny
import KE.KDictList
import KE.KDictOf
import PyProof.AttrMissHeap
import PyProof.Conv_int_bool
import PyProof.TupleOfStr
import PyProof.CollectIter
import PyProof.ListRange
import PyProof.DictWalks
import PyProof.ConsumeS
import PyProof.WalkInts
import PyProof.Draws
import PyProof.EnumFor
import PyProof.EnumStmt
import KE.KDictLaws
import KE.KRevIter
import KE.KDictSum
import PyProof.SeqRoads2
import PyProof.EqAt
import PyProof.EnumMake
import PyProof.ZipIter
import PySem.Challenge.RW_tryweir_k17_least_sums_told
set_option Elab.async false
set_option linter.all false
set_option maxRecDepth 100000
namespace L2
open PySem PySem.Spec PyProof.Rows
noncomputable abbrev Key:=Sum Int Str
noncomputable def zlu:Key->Value->Bool
  | .inl k,v=>Value.isInt k v
  | .inr x,v=>Value.isStrOf x v
noncomputable def zp2 (w:World):Key->Int
  | .inl k=>hashInt k
  | .inr x=>hashStr w x
theorem qJ:∀ {k:Key} {v:Value},zlu k v = true->(∃ i t,k = Sum.inl i/\v = Value.int i t)\/(∃ x t,k = Sum.inr x/\v = Value.str x t)
  | .inl i,v,h=>by
    obtain ⟨t,e⟩:=Value.isInt_shape (k:=i) (v:=v) h
    exact .inl ⟨i,t,rfl,e⟩
  | .inr x,v,h=>by
    obtain ⟨t,e⟩:=Value.isStrOf_shape (x:=x) (v:=v) h
    exact .inr ⟨x,t,rfl,e⟩
theorem zn7 (a b:Int):decide ((Sum.inl a:Key) = Sum.inl b) = (a == b):=by
  by_cases e:a = b
  · subst e;simp
  · have h:¬ (Sum.inl a:Key) = Sum.inl b:=fun q=>e (Sum.inl.inj q)
    rw [decide_eq_false h]
    exact (beq_eq_false_iff_ne.mpr e).symm
theorem zn4 (a b:Str):decide ((Sum.inr a:Key) = Sum.inr b) = decide (a = b):=by
  by_cases e:a = b
  · subst e;simp
  · have h:¬ (Sum.inr a:Key) = Sum.inr b:=fun q=>e (Sum.inr.inj q)
    rw [decide_eq_false h,decide_eq_false e]
theorem zn6 (a:Int) (b:Str):decide ((Sum.inl a:Key) = Sum.inr b) = false:=decide_eq_false (fun q=>nomatch q)
theorem zn5 (a:Str) (b:Int):decide ((Sum.inr a:Key) = Sum.inl b) = false:=decide_eq_false (fun q=>nomatch q)
noncomputable def zhS (prog:Program) (w:World):PySem.KeyKind prog w Key where
  is:=zlu
  hash:=zp2 w
  inj:=fun v a b ha hb=>by
    rcases qJ ha with ⟨i,t,rfl,rfl⟩ | ⟨x,t,rfl,rfl⟩
    · rcases qJ hb with ⟨j,u,rfl,e⟩ | ⟨y,u,rfl,e⟩
      · injection e with e1 _;rw [e1]
      · exact nomatch e
    · rcases qJ hb with ⟨j,u,rfl,e⟩ | ⟨y,u,rfl,e⟩
      · exact nomatch e
      · injection e with e1 _;rw [e1]
  byValue:=fun k v h=>by
    rcases qJ h with ⟨i,t,rfl,rfl⟩ | ⟨x,t,rfl,rfl⟩ <;> rfl
  pyHash:=fun hv h=>by
    rcases qJ hv with ⟨i,t,rfl,rfl⟩ | ⟨x,t,rfl,rfl⟩
    · exact wpAny_pyHash_int h
    · exact wpAny_pyHash_str h
  eqBool:=fun hu hv h=>by
    rcases qJ hu with ⟨i,t,rfl,rfl⟩ | ⟨x,t,rfl,rfl⟩
    · rcases qJ hv with ⟨j,u,rfl,rfl⟩ | ⟨y,u,rfl,rfl⟩
      · rw [zn7] at h;exact wpAny_eqBool_int h
      · rw [zn6] at h;exact SeqAt.EqAt.int_str i t y u _ _ _ _ h
    · rcases qJ hv with ⟨j,u,rfl,rfl⟩ | ⟨y,u,rfl,rfl⟩
      · rw [zn5] at h;exact SeqAt.EqAt.str_int x t j u _ _ _ _ h
      · rw [zn4] at h;exact wpAny_eqBool_str h
  «strs»:=fun k x t v h=>by
    rcases qJ h with ⟨i,u,rfl,e⟩ | ⟨y,u,rfl,e⟩
    · exact nomatch e
    · injection e with e1 _
      subst e1
      cases v <;> rfl
end L2
namespace L2
open PySem PySem.Spec PyProof.Rows
inductive V where
  | non | bl (b:Bool) | int (i:Int) | str (x:Str) | byt (b:Array UInt8) | flt (b:UInt64) | ref (a:Addr) | ty (n:String)
  deriving DecidableEq
noncomputable def RelV:V->Value->Prop
  | .non,u=>u = Value.none
  | .bl b,u=>u = Value.bool b
  | .int i,u=>∃ t,u = Value.int i t
  | .str x,u=>∃ t,u = Value.str x t
  | .byt b,u=>∃ t,u = Value.bytes b t
  | .flt b,u=>∃ t,u = Value.float b t
  | .ref a,u=>u = Value.ref a
  | .ty n,u=>u = Value.type n
noncomputable abbrev Vals:List V->List Value->Prop:=Paired RelV
theorem Vals.length {xs:List V} {us:List Value} (r:Vals xs us):xs.length = us.length:=Paired.length r
theorem Vals.get:∀ {xs:List V} {us:List Value} {i:Nat} {x:V},Vals xs us->xs[i]? = some x->∃ u,us[i]? = some u/\RelV x u
  | _,_,_,_,.nil,e=>by simp at e
  | _,_,0,_,.cons r _,e=>by simp at e;subst e;exact ⟨_,rfl,r⟩
  | _,_,i + 1,x,.cons _ t,e=>by
    obtain ⟨u,h1,h2⟩:=Vals.get (i:=i) (x:=x) t (by simpa using e)
    exact ⟨u,by simpa using h1,h2⟩
theorem Vals.set {x:V} {u:Value} (r:RelV x u):∀ {xs:List V} {us:List Value} (i:Nat),Vals xs us->Vals (xs.set i x) (us.set i u)
  | _,_,_,.nil=>.nil
  | _,_,0,.cons _ t=>.cons r t
  | _,_,i + 1,.cons q t=>.cons q (Vals.set r i t)
theorem Vals.append:∀ {xs ys:List V} {us ws:List Value},Vals xs us->Vals ys ws->Vals (xs ++ ys) (us ++ ws)
  | _,_,_,_,.nil,s=>s
  | _,_,_,_,.cons r t,s=>.cons r (Vals.append t s)
theorem Vals.take:∀ {xs:List V} {us:List Value} (n:Nat),Vals xs us->Vals (xs.take n) (us.take n)
  | _,_,0,_=>.nil
  | _,_,_ + 1,.nil=>.nil
  | _,_,n + 1,.cons r t=>.cons r (Vals.take n t)
theorem Vals.drop:∀ {xs:List V} {us:List Value} (n:Nat),Vals xs us->Vals (xs.drop n) (us.drop n)
  | _,_,0,r=>r
  | _,_,_ + 1,.nil=>.nil
  | _,_,n + 1,.cons _ t=>Vals.drop n t
theorem Vals.none_of:∀ {xs:List V} {us:List Value} {i:Nat},Vals xs us->xs[i]? = none->us[i]? = none:=fun {xs us i} r e=>by
  have h1:=r.length
  have h2:xs.length<=i:=List.getElem?_eq_none_iff.mp e
  exact List.getElem?_eq_none_iff.mpr (by omega)
noncomputable def RelO:Option V->Option Value->Prop
  | some v,some u=>RelV v u
  | none,none=>True
  | _,_=>False
noncomputable def KV {κ:Type}:List (κ × V)->List (κ × Value)->Prop:=Paired fun (p:κ × V) (q:κ × Value)=>p.1 = q.1/\RelV p.2 q.2
noncomputable def kV:Key->V
  | .inl i=>.int i
  | .inr x=>.str x
inductive HO where
  | lst (xs:List V)
  | tup (xs:List V)
  | dK (kvs:List (Key × V)) | dT (kvs:List (List Key × V))
  | set (S:Int->Bool) (n:Nat)
  | ins (C dx:Addr) (fs:List (Str × V))
  | own (x:Addr)
  | xd (fs:List (Str × V))
  | met (f x:Addr)
  | rng (lo hi:Int)
  | frz (o:Obj) (u:HO)
  | tbl (ps:Array Value)
  | ext (φ:Heap->Prop)
noncomputable abbrev Hp:=Addr->Option HO
noncomputable def upd (H:Hp) (a:Addr) (o:HO):Hp:=fun b=>if b = a then some o else H b
theorem zu {H:Hp} {a:Addr} {o:HO}:upd H a o a = some o:=by unfold upd;rw [if_pos rfl]
theorem zm {H:Hp} {a b:Addr} {o:HO} (h:b ≠ a):upd H a o b = H b:=by unfold upd;rw [if_neg h]
theorem ziu {H:Hp} {a b:Addr} {o u:HO} (h:H a = some o) (h':H b = some u) (d:o ≠ u):a ≠ b:=by
  intro e;subst e;rw [h] at h';exact d (Option.some.inj h')
theorem yw {H:Hp} {a b:Addr} {o:HO} (h:H a = some o) (h':H b = none):a ≠ b:=by
  intro e;subst e;rw [h] at h';cases h'
noncomputable def NoDict (h:Heap) (a:Addr):Prop:=∀ o,h.get? a = some o->o.dict = none
theorem NoDict.new {h:Heap} {its:Array Value} {n:Nat}:NoDict (h.push { cls:=.type "tuple",data:=.seq its n }) h.objs.size:=fun o e=>by
  rw [Heap.get?_push_size _ rfl] at e;cases e;rfl
section
variable (P:Program) (w:World)
noncomputable def ObjOk (H:Hp) (h:Heap) (a:Addr):HO->Prop
  | .lst xs=>xs.length<=sizeLine/\∃ (its:List Value) (n:Nat),Vals xs its/\h.get? a = some { cls:=.type "list",data:=.seq its.toArray n }
  | .tup xs=>xs.length<=sizeLine/\∃ its:List Value,Vals xs its/\IsTup h a its.toArray/\NoDict h a
  | .dK kvs=>kvs.length<=sizeLine/\(a == sysModules) = false/\∃ vs,KV kvs vs/\h.DictOf (zhS P w) a vs
  | .dT kvs=>kvs.length<=sizeLine/\(a == sysModules) = false/\∃ xs:List (List Key × Addr × Value),
      Paired (fun (p:List Key × V) (q:List Key × Addr × Value)=>p.1 = q.1/\H q.2.1 = some (.tup (p.1.map kV))/\RelV p.2 q.2.2) kvs xs /\
      ∃ o es ep,h.get? a = some o/\o.ExactDict/\o.data = .dict es ep/\es.toList = xs.map (entryOfKey (tupleKind (zhS P w)))/\(xs.map (·.1)).Nodup
  | .set S n=>h.SetOf (intKind P w) a S n
  | .ins C dx fs=>H dx = some (.own a)/\fs.length<=1000/\dx ≠ a/\h.get? a = some (PySem.W.instObj C dx) /\
      ∃ mA,h.Ns1 dx mA/\(∀ f,RelO (fs.lookup f) (mA f))/\PySem.Within mA (fs.map (·.1))
  | .own _=>∃ o,h.get? a = some o
  | .xd fs=>∃ mA,h.Ns1 a mA/\∀ f,RelO (fs.lookup f) (mA f)
  | .rng lo hi=>∃ t u v,h.get? a = some { cls:=.type "range",data:=.fields #[.int lo t,.int hi u,.int 1 v] }
  | .frz o u=>h.get? a = some o/\ObjOk H h a u
  | .tbl ps=>h.get? a = some { cls:=.none,data:=.fields ps }
  | .met f x=>h.get? a = some (PySem.W.methodObj (.ref f) (.ref x))
  | .ext φ=>φ h/\(∃ o,h.get? a = some o)/\∀ h1 h2:Heap,φ h1->(∀ o,h1.get? a = some o->h2.get? a = some o)->φ h2
noncomputable def HOk (H:Hp) (h:Heap):Prop:=∀ a o,H a = some o->ObjOk P w H h a o
end
section
variable {P:Program} {w:World} {H H':Hp} {h h':Heap} {a:Addr} {o:HO}
theorem ObjOk.lt (x:ObjOk P w H h a o):a < h.objs.size:=by
  cases o with
  | lst xs=>obtain ⟨_,_,_,_,e⟩:=x;exact Heap.lt_size e
  | tup xs=>obtain ⟨_,_,_,p,_⟩:=x;exact p.lt
  | dK kvs=>obtain ⟨_,_,_,_,o,_,_,e,_⟩:=x;exact Heap.lt_size e
  | dT kvs=>obtain ⟨_,_,_,_,o,_,_,e,_⟩:=x;exact Heap.lt_size e
  | set S n=>obtain ⟨o,_,_,_,e,_⟩:=x;exact Heap.lt_size e
  | ins C dx fs=>obtain ⟨_,_,_,e,_⟩:=x;exact Heap.lt_size e
  | own y=>obtain ⟨_,e⟩:=x;exact Heap.lt_size e
  | xd fs=>obtain ⟨_,⟨_,_,_,e,_⟩,_⟩:=x;exact Heap.lt_size e
  | rng lo hi=>obtain ⟨_,_,_,e⟩:=x;exact Heap.lt_size e
  | frz ob u=>obtain ⟨e,_⟩:=x;exact Heap.lt_size e
  | tbl ps=>exact Heap.lt_size (show h.get? a = some _ from x)
  | met f y=>exact Heap.lt_size (show h.get? a = some _ from x)
  | ext φ=>obtain ⟨_,⟨_,e⟩,_⟩:=x;exact Heap.lt_size e
theorem Paired.mapP {α β:Type} {F G:α->β->Prop}:∀ {l₁:List α} {l₂:List β},Paired F l₁ l₂->(∀ a b,F a b->G a b)->Paired G l₁ l₂
  | _,_,.nil,_=>.nil
  | _,_,.cons r t,f=>.cons (f _ _ r) (Paired.mapP t f)
theorem ObjOk.stay (x:ObjOk P w H h a o) (k:∀ b u,(b = a\/H b = some (.own a))->h.get? b = some u->h'.get? b = some u)
    (ho:∀ b,H b = some (.own a)->H' b = some (.own a)) (ht:∀ b xs,H b = some (.tup xs)->H' b = some (.tup xs)):ObjOk P w H' h' a o:=by
  induction o with
  | lst xs=>obtain ⟨z,its,n,r,e⟩:=x;exact ⟨z,its,n,r,k _ _ (.inl rfl) e⟩
  | tup xs=>obtain ⟨z,its,r,⟨ob,e,c⟩,nd⟩:=x;exact ⟨z,its,r,⟨ob,k _ _ (.inl rfl) e,c⟩,fun o q=>nd o (by rw [k _ _ (.inl rfl) e] at q;rw [e];exact q)⟩
  | dK kvs=>obtain ⟨z,y,vs,r,ob,es,ep,e,c⟩:=x;exact ⟨z,y,vs,r,ob,es,ep,k _ _ (.inl rfl) e,c⟩
  | dT kvs=>
    obtain ⟨z,y,xs,r,ob,es,ep,e,c⟩:=x
    exact ⟨z,y,xs,Paired.mapP r fun p q z=>⟨z.1,ht _ _ z.2.1,z.2.2⟩,ob,es,ep,k _ _ (.inl rfl) e,c⟩
  | set S n=>obtain ⟨ob,es,ep,t,e,c⟩:=x;exact ⟨ob,es,ep,t,k _ _ (.inl rfl) e,c⟩
  | ins C dx fs=>
    obtain ⟨d,z,ne,e,mA,⟨od,es,ep,e2,c⟩,r⟩:=x
    exact ⟨ho _ d,z,ne,k _ _ (.inl rfl) e,mA,⟨od,es,ep,k _ _ (.inr d) e2,c⟩,r⟩
  | own y=>obtain ⟨ob,e⟩:=x;exact ⟨ob,k _ _ (.inl rfl) e⟩
  | xd fs=>obtain ⟨mA,⟨od,es,ep,e,c⟩,r⟩:=x;exact ⟨mA,⟨od,es,ep,k _ _ (.inl rfl) e,c⟩,r⟩
  | rng lo hi=>obtain ⟨t,u,v,e⟩:=x;exact ⟨t,u,v,k _ _ (.inl rfl) e⟩
  | frz ob u ih=>obtain ⟨e,q⟩:=x;exact ⟨k _ _ (.inl rfl) e,ih q⟩
  | tbl ps=>
    have e:h.get? a = some { cls:=.none,data:=.fields ps }:=x
    show h'.get? a = some { cls:=.none,data:=.fields ps }
    exact k a _ (.inl rfl) e
  | met f y=>
    have e:h.get? a = some (PySem.W.methodObj (.ref f) (.ref y)):=x
    show h'.get? a = some (PySem.W.methodObj (.ref f) (.ref y))
    exact k a _ (.inl rfl) e
  | ext φ=>obtain ⟨p,⟨o,e⟩,st⟩:=x;exact ⟨st _ _ p fun o q=>k _ _ (.inl rfl) q,⟨o,k _ _ (.inl rfl) e⟩,st⟩
theorem HOk.lt (x:HOk P w H h) (e:H a = some o):a < h.objs.size:=(x a o e).lt
theorem HOk.fresh (x:HOk P w H h) (e:h.objs.size<=a):H a = none:=by
  cases q:H a with
  | none=>rfl
  | some u=>exact absurd (Nat.lt_of_lt_of_le (x.lt q) e) (Nat.lt_irrefl _)
theorem HOk.kept (x:HOk P w H h) (k:∀ b u,h.get? b = some u->h'.get? b = some u):HOk P w H h':=fun a o e=>
  (x a o e).stay (fun b u _ q=>k b u q) (fun _ q=>q) fun _ _ q=>q
theorem HOk.laid (x:HOk P w H h) (k:∀ b u,h.get? b = some u->h'.get? b = some u) (hp:h.objs.size<=a) (new:ObjOk P w (upd H a o) h' a o):HOk P w (upd H a o) h':=fun b u e=>by
  have hn:=x.fresh hp
  by_cases hb:b = a
  · subst hb;rw [zu] at e;cases e;exact new
  · rw [zm hb] at e
    exact (x b u e).stay (fun c v _ q=>k c v q) (fun c q=>by rw [zm (yw q hn)];exact q) fun c xs q=>by rw [zm (yw q hn)];exact q
end
noncomputable def Rd (H:Hp) (a:Addr) (u:HO):Prop:=H a = some u\/∃ o,H a = some (.frz o u)
theorem Rd.ok {P:Program} {w:World} {H:Hp} {h:Heap} {a:Addr} {u:HO} (r:Rd H a u) (x:HOk P w H h):ObjOk P w H h a u:=by
  rcases r with r | ⟨o,r⟩
  · exact x a u r
  · obtain ⟨_,q⟩:=x a _ r
    exact q
noncomputable def Mut:Option HO->Prop
  | some (.lst _)=>True
  | some (.dK _)=>True
  | some (.dT _)=>True
  | some (.set _ _)=>True
  | some (.ins _ _ _)=>True
  | some (.ext _)=>True
  | _=>False
section
variable {P:Program} {w:World} {H:Hp} {h h':Heap} {x e:Addr} {o':HO}
theorem HOk.write (ok:HOk P w H h) (mu:Mut (H x)) (he:e = x\/H e = some (.own x)) (k:∀ b u,b ≠ e->h.get? b = some u->h'.get? b = some u) (heo:∃ u,h'.get? e = some u)
    (new:ObjOk P w (upd H x o') h' x o'):HOk P w (upd H x o') h':=fun b u q=>by
  have nown:∀ c y,H c = some (.own y)->c ≠ x:=fun c y r z=>by subst z;rw [r] at mu;exact mu
  have ntup:∀ c xs,H c = some (.tup xs)->c ≠ x:=fun c xs r z=>by subst z;rw [r] at mu;exact mu
  by_cases hb:b = x
  · subst hb;rw [zu] at q;cases q;exact new
  · rw [zm hb] at q
    by_cases hbe:b = e
    · have q':H b = some (.own x):=by
        rcases he with z | z
        · exact absurd (hbe.trans z) hb
        · rw [hbe];exact z
      rw [q] at q';cases q'
      obtain ⟨v,hv⟩:=heo
      exact ⟨v,by rw [hbe];exact hv⟩
    · refine (ok b u q).stay (fun c v hc r=>k c v ?_ r) (fun c r=>by rw [zm (nown c b r)];exact r) fun c xs r=>by rw [zm (ntup c xs r)];exact r
      rcases hc with rfl | hc
      · exact hbe
      · rintro rfl
        rcases he with z | z
        · exact nown c b hc z
        · rw [hc] at z;cases z;exact hb rfl
end
structure Un (fs ex:List Addr) (H H':Hp) (h h':Heap):Prop where
  keep:∀ b o,h.get? b = some o->H b = none->b ∉ fs->b ∉ ex->h'.get? b = some o
  slot:∀ b o,h.get? b = some o->H b = none->b ∈ fs->b ∉ ex->∃ sl,h'.get? b = some { o with slots:=sl }
  free:∀ b o,h.get? b = some o->H b = none->b ∉ ex->H' b = none
  there:∀ b o,h.get? b = some o->b ∉ ex->∃ o',h'.get? b = some o'
  tups:∀ b xs,H b = some (.tup xs)->H' b = some (.tup xs)
  frzs:∀ b o u,H b = some (.frz o u)->H' b = some (.frz o u)
  tbls:∀ b ps,H b = some (.tbl ps)->∃ more,H' b = some (.tbl (ps ++ more))
section
variable {fs fs' ex ex':List Addr} {H H1 H2:Hp} {h h1 h2 h':Heap} {a x e:Addr} {o:HO}
theorem Un.any (u:Un fs ex H H1 h h1) {b:Addr} {ob:Obj} (q:h.get? b = some ob) (n:H b = none) (hx:b ∉ ex):∃ sl,h1.get? b = some { ob with slots:=sl }:=by
  by_cases hb:b ∈ fs
  · exact u.slot b ob q n hb hx
  · exact ⟨ob.slots,u.keep b ob q n hb hx⟩
theorem Un.kept (k:∀ b u,h.get? b = some u->h'.get? b = some u):Un fs ex H H h h':=
  ⟨fun b ob q _ _ _=>k b ob q,fun b ob q _ _ _=>⟨ob.slots,k b ob q⟩,fun _ _ _ n _=>n,fun b ob q _=>⟨ob,k b ob q⟩,fun _ _ q=>q,fun _ _ _ q=>q,fun _ ps q=>⟨#[],by rw [q];simp⟩⟩
theorem Un.refl:Un fs ex H H h h:=Un.kept fun _ _ q=>q
theorem Un.laid (k:∀ b u,h.get? b = some u->h'.get? b = some u) (hp:h.objs.size<=a) (hn:H a = none):Un fs ex H (upd H a o) h h' where
  keep:=fun b u q _ _ _=>k b u q
  slot:=fun b u q _ _ _=>⟨u.slots,k b u q⟩
  free:=fun b u q n _=>by rw [zm (Nat.ne_of_lt (Nat.lt_of_lt_of_le (Heap.lt_size q) hp))];exact n
  there:=fun b u q _=>⟨u,k b u q⟩
  tups:=fun b xs q=>by rw [zm (yw q hn)];exact q
  frzs:=fun b u xs q=>by rw [zm (yw q hn)];exact q
  tbls:=fun b ps q=>⟨#[],by rw [zm (yw q hn),q];simp⟩
theorem Un.write (mu:Mut (H x)) (he:e = x\/H e = some (.own x)) (k:∀ b u,b ≠ e->h.get? b = some u->h'.get? b = some u) (heo:∃ u,h'.get? e = some u):Un fs ex H (upd H x o) h h':=by
  have hx:∀ b,H b = none->b ≠ x:=fun b n z=>by subst z;rw [n] at mu;exact mu
  have hb:∀ b,H b = none->b ≠ e:=fun b n z=>by
    subst z
    rcases he with r | r
    · exact hx b n r
    · rw [n] at r;cases r
  have hm:∀ b u,H b = some u->¬ Mut (some u)->b ≠ x:=fun b u q nm z=>by subst z;rw [q] at mu;exact nm mu
  refine ⟨fun b u q n _ _=>k b u (hb b n) q,fun b u q n _ _=>⟨u.slots,k b u (hb b n) q⟩,fun b u q n _=>by rw [zm (hx b n)];exact n,fun b u q _=>?_,
    fun b xs q=>by rw [zm (hm b _ q fun z=>z)];exact q,fun b u xs q=>by rw [zm (hm b _ q fun z=>z)];exact q,fun b ps q=>⟨#[],by rw [zm (hm b _ q fun z=>z),q];simp⟩⟩
  by_cases hbe:b = e
  · subst hbe;exact heo
  · exact ⟨u,k b u hbe q⟩
end
noncomputable def trk (h:Heap) (H:Hp):List Addr:=(List.range h.objs.size).filter fun a=>(H a).isSome
noncomputable def zc3 (h:Heap) (H:Hp):Heap:=PySem.W.hideAll h (trk h H)
theorem zjI (h:Heap) (H:Hp):(zc3 h H).objs.size = h.objs.size:=PySem.W.hideAll_size _ _
theorem zkX {h:Heap} {H:Hp} {b:Addr} {o:Obj} (e:h.get? b = some o) (n:H b = none):(zc3 h H).get? b = some o:=
  PySem.W.hideAll_get _ e fun hm=>by
    have q:(H b).isSome = true:=(List.mem_filter.mp hm).2
    rw [n] at q;simp at q
theorem zml {h:Heap} {H:Hp} {b:Addr} {o:Obj} (e:(zc3 h H).get? b = some o):h.get? b = some o/\H b = none:=by
  have e':h.get? b = some o:=PySem.W.of_hideAll (trk h H) e
  refine ⟨e',?_⟩
  cases q:H b with
  | none=>rfl
  | some x=>
    have hm:b ∈ trk h H:=List.mem_filter.mpr ⟨List.mem_range.mpr (Heap.lt_size e'),by simp [q]⟩
    have z:(zc3 h H).get? b = none:=PySem.W.hideAll_none (trk h H) hm
    rw [z] at e;cases e
noncomputable def zm2 (g h:Heap) (L:Addr):List (Addr × Obj):=(List.range h.objs.size).filterMap fun a=>if a = L\/(g.get? a).isSome = true then none else (h.get? a).map fun o=>(a,o)
noncomputable def rest (g h:Heap) (L d:Addr):List (Addr × Obj):=(zm2 g h L).filter fun p=>decide (p.1 ≠ d)
end L2
namespace L2
open PySem PySem.Spec PyProof.Rows
structure Mod (K:PySem.W.Frag) (mg:Str->Option Value) (base:Heap):Prop where
  kin:K.In base
  glob:base.Ns mainGlobals mg
  blt:∃ mb,base.Ns builtinsNs mb/\∀ x:Str,x ≠ "__name__"->mb x = bootBuiltins x
  nolimit:base.NoLimit
structure Cx where
  prog:Program
  w:World
  K:PySem.W.Frag
  mg:Str->Option Value
  base:Heap
  A:Around
  N:List Str
  s₀:Shared
  H₀:Hp
  env:Env
  outer:List Env
  stack:List Env
  ex:List Addr
  fn:Str->Bool
  calm:Bool
  pn:List (Addr × Obj)
  xe:Value->Shared->Prop
noncomputable def frs (l:List Env):List Addr:=l.filterMap (·.frame)
noncomputable abbrev Cx.fs (X:Cx):List Addr:=frs X.outer
noncomputable def Vis (sc:Scope) (x:Str):Prop:=sc.names.lookup x = some .local\/sc.names.lookup x = some .cell\/sc.names.lookup x = some .free
noncomputable def Loc (sc:Scope) (x:Str):Prop:=sc.names.lookup x = some .local\/sc.names.lookup x = some .cell
noncomputable def Look (env:Env) (h:Heap) (m:Str->Option Value) (x:Str) (u:Value):Prop:=
  (env.kindOf x = some .local/\m x = some u)\/((env.kindOf x = some .cell\/env.kindOf x = some .free)/\∃ c,env.cells.lookup x = some c/\h.IsCell c (some u))
structure Cx.Ok (X:Cx):Prop where
  mod:Mod X.K X.mg X.base
  kind:X.env.scope.kind = .function
  glob:X.env.globals = mainGlobals
  blt:X.env.builtins = builtinsNs
  above:X.s₀.heap.objs.size<=X.env.locals
  inj:∀ x y c,X.env.cells.lookup x = some c->X.env.cells.lookup y = some c->x = y
  has:∀ x,(X.env.kindOf x = some .cell\/X.env.kindOf x = some .free)->∃ c,X.env.cells.lookup x = some c
  cab:∀ x c,X.fn x = true->X.env.cells.lookup x = some c->X.s₀.heap.objs.size<=c
  hd:X.calm = true->X.A.handled = none
  frames:X.A.frames = some X.stack
  stk:X.stack = X.outer\/(X.stack = X.env :: X.outer/\X.env.frame = some X.env.locals)
  exf:∀ b ∈ X.ex,b ≠ X.env.locals/\∀ x c,X.env.cells.lookup x = some c->c ≠ b
  bs:∀ b o,X.base.get? b = some o->X.s₀.heap.get? b = some o/\X.H₀ b = none
  bsz:X.base.objs.size<=X.s₀.heap.objs.size
  noex:∀ b o,X.base.get? b = some o->b ∉ X.ex
  exfs:∀ b ∈ X.ex,b ∉ X.fs
  funs:X.s₀.heap.FunFrames X.base X.outer
  frf:∀ b ∈ X.fs,X.H₀ b = none
structure Inv (X:Cx) (pins:List (Addr × Obj)) (σ:List (Option V)) (H:Hp) (s:Shared):Prop where
  ok:X.Ok
  os:s.os = X.s₀.os
  bare:AllBare s.gens
  base:Un X.fs X.ex X.H₀ H X.s₀.heap s.heap
  loc:∃ m,s.heap.Ns X.env.locals m/\∀ (i:Nat) (x:Str) (v:V),X.N[i]? = some x->σ[i]? = some (some v)->Vis X.env.scope x->∃ u,RelV v u/\Look X.env s.heap m x u
  cell:∀ x c,X.env.cells.lookup x = some c->∃ v,s.heap.IsCell c v
  free:H X.env.locals = none
  freeC:∀ x c,X.env.cells.lookup x = some c->H c = none
  pin:∀ p ∈ X.pn ++ pins,s.heap.get? p.1 = some p.2/\H p.1 = none/\p.1 ≠ X.env.locals/\p.1 ∉ X.fs/\∀ v,p.2.data ≠ .cell v
  hok:HOk X.prog X.w H s.heap
  len:σ.length = X.N.length
section
variable {X:Cx} {pins:List (Addr × Obj)} {σ:List (Option V)} {H H':Hp} {s:Shared} {h':Heap}
theorem Cx.Ok.nofr (ok:X.Ok) {b:Addr} {o:Obj} (e:X.base.get? b = some o):b ∉ X.fs:=fun hb=>by
  have:=(ok.funs.mem hb).1
  rw [e] at this;cases this
theorem Inv.bs (I:Inv X pins σ H s):∀ b o,X.base.get? b = some o->s.heap.get? b = some o/\H b = none:=fun b o e=>
  ⟨I.base.keep b o (I.ok.bs b o e).1 (I.ok.bs b o e).2 (I.ok.nofr e) (I.ok.noex b o e),I.base.free b o (I.ok.bs b o e).1 (I.ok.bs b o e).2 (I.ok.noex b o e)⟩
theorem Inv.bk (I:Inv X pins σ H s):∀ b o,X.base.get? b = some o->s.heap.get? b = some o:=fun b o e=>(I.bs b o e).1
theorem Inv.mod (I:Inv X pins σ H s):Mod X.K X.mg X.base:=I.ok.mod
theorem Inv.kIn (I:Inv X pins σ H s):X.K.In s.heap:=I.ok.mod.kin.keeps I.bk
theorem Inv.fr (I:Inv X pins σ H s):∃ m,Fr X.base X.env.locals s.heap m:=
  let ⟨m,hn,_⟩:=I.loc
  ⟨m,hn,I.bk,Nat.le_trans I.ok.bsz I.ok.above⟩
theorem Inv.lt (I:Inv X pins σ H s):X.env.locals < s.heap.objs.size:=let ⟨_,hn,_⟩:=I.loc;hn.lt
theorem Inv.sz (I:Inv X pins σ H s):X.s₀.heap.objs.size<=s.heap.objs.size:=Nat.le_trans I.ok.above (Nat.le_of_lt I.lt)
theorem Inv.nofs (I:Inv X pins σ H s) {a:Addr} (h:s.heap.objs.size<=a):a ∉ X.fs:=fun hb=>by
  obtain ⟨_,o,ho,_⟩:=I.ok.funs.mem hb
  exact absurd (Nat.lt_of_lt_of_le (Heap.lt_size ho) (Nat.le_trans I.sz h)) (Nat.lt_irrefl _)
theorem Inv.cne (I:Inv X pins σ H s):∀ x c,X.env.cells.lookup x = some c->c ≠ X.env.locals:=fun x c e z=>by
  obtain ⟨v,o,ho,hd⟩:=I.cell x c e
  obtain ⟨m,⟨o',es,ep,ho',hd',_⟩,_⟩:=I.loc
  rw [z,ho'] at ho;cases ho;rw [hd'] at hd;cases hd
theorem Inv.funs (I:Inv X pins σ H s):s.heap.FunFrames X.base X.outer:=by
  have all:∀ (l:List Env),(∀ b ∈ frs l,b ∈ X.fs)->X.s₀.heap.FunFrames X.base l->s.heap.FunFrames X.base l:=by
    intro l
    induction l with
    | nil=>intro _ _;trivial
    | cons env r ih=>
      intro hs hl
      obtain ⟨hk,⟨L,o,hf,hn,ho,hd⟩,hr⟩:=hl
      have hL:L ∈ X.fs:=hs L (by unfold frs;rw [List.filterMap_cons,hf];exact List.mem_cons_self)
      obtain ⟨sl,e⟩:=I.base.slot L o ho (I.ok.frf L hL) hL fun z=>I.ok.exfs L z hL
      exact ⟨hk,⟨L,_,hf,hn,e,hd⟩,ih (fun b hb=>hs b (by unfold frs;rw [List.filterMap_cons,hf];exact List.mem_cons_of_mem _ hb)) hr⟩
  exact all X.outer (fun _ hb=>hb) I.ok.funs
theorem Inv.stack (I:Inv X pins σ H s):s.heap.FunFrames X.base X.stack:=by
  rcases I.ok.stk with e | ⟨e,hf⟩
  · rw [e];exact I.funs
  · rw [e]
    obtain ⟨m,hn,_⟩:=I.loc
    refine .cons (by rw [I.ok.kind];decide) hf hn ?_ I.funs
    exact Heap.get?_none_of_le (Nat.le_trans I.ok.bsz I.ok.above)
theorem Inv.stkSub (I:Inv X pins σ H s):∀ b ∈ frs X.stack,b ∈ X.env.locals :: X.fs:=fun b hb=>by
  rcases I.ok.stk with e | ⟨e,hf⟩
  · rw [e] at hb;exact List.mem_cons_of_mem _ hb
  · rw [e] at hb
    unfold frs at hb
    rw [List.filterMap_cons,hf] at hb
    exact hb
theorem Inv.stkFree (I:Inv X pins σ H s):∀ b ∈ frs X.stack,H b = none:=fun b hb=>by
  rcases List.mem_cons.mp (I.stkSub b hb) with e | hb
  · rw [e];exact I.free
  · obtain ⟨_,o,ho,_⟩:=I.ok.funs.mem hb
    exact I.base.free b o ho (I.ok.frf b hb) fun z=>I.ok.exfs b z hb
theorem Inv.step {g':Array GenState} {t':Nat} {d':Drawn} {ch:List Addr} (I:Inv X pins σ H s)
    (hch:∀ b ∈ ch,(b ∈ X.ex\/X.s₀.heap.objs.size<=b)/\b ≠ X.env.locals/\(∀ x c,X.env.cells.lookup x = some c->c ≠ b)/\∀ p ∈ X.pn ++ pins,p.1 ≠ b)
    (keep:∀ b o,b ≠ X.env.locals->b ∉ X.fs->b ∉ ch->s.heap.get? b = some o->H b = none->h'.get? b = some o)
    (slot:∀ b o,b ≠ X.env.locals->b ∈ X.fs->b ∉ ch->s.heap.get? b = some o->H b = none->∃ sl,h'.get? b = some { o with slots:=sl }) (free:∀ b o,b ∉ ch->s.heap.get? b = some o->H b = none->H' b = none)
    (there:∀ b o,b ∉ ch->s.heap.get? b = some o->∃ o',h'.get? b = some o')
    (tups:∀ b xs,H b = some (.tup xs)->H' b = some (.tup xs)) (frzs:∀ b o u,H b = some (.frz o u)->H' b = some (.frz o u)) (tbls:∀ b ps,H b = some (.tbl ps)->∃ more,H' b = some (.tbl (ps ++ more)))
    (ns:∀ m,s.heap.Ns X.env.locals m->h'.Ns X.env.locals m) (hok:HOk X.prog X.w H' h') (hg:AllBare g') :
    Inv X pins σ H' { s with heap:=h',gens:=g',drawn:=d',toks:=t' }:=by
  have neL:∀ b o,X.s₀.heap.get? b = some o->b ≠ X.env.locals:=fun b o e=>Nat.ne_of_lt (Nat.lt_of_lt_of_le (Heap.lt_size e) I.ok.above)
  have neC:∀ b o,X.s₀.heap.get? b = some o->b ∉ X.ex->b ∉ ch:=fun b o e hx hb=>by
    rcases (hch b hb).1 with z | z
    · exact hx z
    · exact absurd (Nat.lt_of_lt_of_le (Heap.lt_size e) z) (Nat.lt_irrefl _)
  have cellK:∀ x c,X.env.cells.lookup x = some c->∀ v,s.heap.IsCell c v->h'.IsCell c v:=fun x c e v h9=>by
    obtain ⟨o,ho,hd⟩:=h9
    have nch:c ∉ ch:=fun z=>(hch c z).2.2.1 x c e rfl
    by_cases hc:c ∈ X.fs
    · obtain ⟨sl,q⟩:=slot c o (I.cne x c e) hc nch ho (I.freeC x c e)
      exact ⟨_,q,hd⟩
    · exact ⟨o,keep c o (I.cne x c e) hc nch ho (I.freeC x c e),hd⟩
  refine ⟨I.ok,I.os,hg,⟨fun b o e n hb hx=>?_,fun b o e n hb hx=>?_,fun b o e n hx=>?_,fun b o e hx=>?_,fun b xs e=>tups b xs (I.base.tups b xs e),fun b o xs e=>frzs b o xs (I.base.frzs b o xs e),fun b ps e=>?_⟩,?_,fun x c e=>?_,?_,fun x c e=>?_,fun p hp=>?_,hok,I.len⟩
  · exact keep b o (neL b o e) hb (neC b o e hx) (I.base.keep b o e n hb hx) (I.base.free b o e n hx)
  · obtain ⟨sl,e1⟩:=I.base.slot b o e n hb hx
    obtain ⟨sl',e2⟩:=slot b _ (neL b o e) hb (neC b o e hx) e1 (I.base.free b o e n hx)
    exact ⟨sl',e2⟩
  · obtain ⟨o',e1⟩:=I.base.there b o e hx
    exact free b o' (neC b o e hx) e1 (I.base.free b o e n hx)
  · obtain ⟨o',e1⟩:=I.base.there b o e hx
    exact there b o' (neC b o e hx) e1
  · obtain ⟨m1,e1⟩:=I.base.tbls b ps e
    obtain ⟨m2,e2⟩:=tbls b _ e1
    exact ⟨m1 ++ m2,by rw [e2,Array.append_assoc]⟩
  · obtain ⟨m,hn,hl⟩:=I.loc
    refine ⟨m,ns m hn,fun i x v e1 e2 e3=>?_⟩
    obtain ⟨u,r,l⟩:=hl i x v e1 e2 e3
    refine ⟨u,r,?_⟩
    rcases l with l | ⟨k,c,e,z⟩
    · exact .inl l
    · exact .inr ⟨k,c,e,cellK x c e _ z⟩
  · obtain ⟨v,z⟩:=I.cell x c e
    exact ⟨v,cellK x c e v z⟩
  · obtain ⟨m,⟨o,_,_,ho,_⟩,_⟩:=I.loc
    exact free _ o (fun z=>(hch _ z).2.1 rfl) ho I.free
  · obtain ⟨v,o,ho,hd⟩:=I.cell x c e
    exact free c o (fun z=>(hch c z).2.2.1 x c e rfl) ho (I.freeC x c e)
  · obtain ⟨e,n,ne,nf,d⟩:=I.pin p hp
    have nch:p.1 ∉ ch:=fun z=>(hch p.1 z).2.2.2 p hp rfl
    exact ⟨keep p.1 p.2 ne nf nch e n,free p.1 p.2 nch e n,ne,nf,d⟩
theorem Inv.un {t':Nat} (I:Inv X pins σ H s) (u:Un X.fs [] H H' s.heap h') (hok:HOk X.prog X.w H' h'):Inv X pins σ H' { s with heap:=h',toks:=t' }:=by
  obtain ⟨m,⟨o,es,ep,ho,r⟩,_⟩:=id I.loc
  obtain ⟨sl,hL⟩:=u.any ho I.free (by simp)
  exact I.step (g':=s.gens) (d':=s.drawn) (ch:=[]) (fun _ z=>nomatch z) (fun b o _ hb _ e n=>u.keep b o e n hb (by simp)) (fun b o _ hb _ e n=>u.slot b o e n hb (by simp)) (fun b o _ e n=>u.free b o e n (by simp)) (fun b o _ e=>u.there b o e (by simp)) u.tups u.frzs u.tbls (fun m' hm=>by
    obtain ⟨o',es',ep',ho',r'⟩:=hm
    rw [ho] at ho';cases ho'
    exact ⟨_,es',ep',hL,r'⟩) hok I.bare
theorem Inv.call {g':Array GenState} {t':Nat} {d':Drawn} {ch:List Addr} (I:Inv X pins σ H s) (u:Un (frs X.stack) ch H H' s.heap h') (hok:HOk X.prog X.w H' h') (hg:AllBare g')
    (hch:∀ b ∈ ch,(b ∈ X.ex\/X.s₀.heap.objs.size<=b)/\b ≠ X.env.locals/\(∀ x c,X.env.cells.lookup x = some c->c ≠ b)/\∀ p ∈ X.pn ++ pins,p.1 ≠ b) :
    Inv X pins σ H' { s with heap:=h',gens:=g',drawn:=d',toks:=t' }:=by
  obtain ⟨m,⟨o,es,ep,ho,r⟩,_⟩:=id I.loc
  obtain ⟨sl,hL⟩:=u.any ho I.free fun z=>(hch _ z).2.1 rfl
  exact I.step (ch:=ch) hch (fun b o hL hb hc e n=>u.keep b o e n (fun z=>(List.mem_cons.mp (I.stkSub b z)).elim hL hb) hc) (fun b o _ _ hc e n=>u.any e n hc) (fun b o hc e n=>u.free b o e n hc) (fun b o hc e=>u.there b o e hc) u.tups u.frzs u.tbls (fun m' hm=>by
    obtain ⟨o',es',ep',ho',r'⟩:=hm
    rw [ho] at ho';cases ho'
    exact ⟨_,es',ep',hL,r'⟩) hok hg
theorem Inv.turned {t':Nat} {it:Addr} (I:Inv X pins σ H s) (k:∀ b o,b ≠ it->s.heap.get? b = some o->h'.get? b = some o) (hn:H it = none) (hL:it ≠ X.env.locals)
    (h1:it ∈ X.ex\/X.s₀.heap.objs.size<=it) (h2:∀ x c,X.env.cells.lookup x = some c->c ≠ it) (h3:∀ p ∈ X.pn ++ pins,p.1 ≠ it):Inv X pins σ H { s with heap:=h',toks:=t' }:=by
  have nit:∀ b u,H b = some u->b ≠ it:=fun b u e z=>by rw [z,hn] at e;cases e
  refine I.step (g':=s.gens) (d':=s.drawn) (ch:=[it]) (fun b hb=>?_) (fun b o _ _ hc e _=>k b o (fun z=>hc (by simp [z])) e) (fun b o _ _ hc e _=>⟨o.slots,k b o (fun z=>hc (by simp [z])) e⟩) (fun _ _ _ _ n=>n)
    (fun b o hc e=>⟨o,k b o (fun z=>hc (by simp [z])) e⟩) (fun _ _ e=>e) (fun _ _ _ e=>e) (fun b ps e=>⟨#[],by rw [e];simp⟩) (fun m hm=>?_) (fun b u e=>?_) I.bare
  · have e:b = it:=by simpa using hb
    subst e
    exact ⟨h1,hL,h2,h3⟩
  · obtain ⟨o,es,ep,ho,r⟩:=hm
    exact ⟨o,es,ep,k _ o (Ne.symm hL) ho,r⟩
  · refine (I.hok b u e).stay (fun c v hc q=>k c v ?_ q) (fun _ q=>q) fun _ _ q=>q
    rcases hc with z | z
    · rw [z];exact nit b u e
    · exact nit c _ z
theorem Inv.tok (I:Inv X pins σ H s) (t:Nat):Inv X pins σ H { s with toks:=t }:=I.un (h':=s.heap) (t':=t) Un.refl I.hok
theorem Inv.kept {t':Nat} (I:Inv X pins σ H s) (k:∀ b u,s.heap.get? b = some u->h'.get? b = some u):Inv X pins σ H { s with heap:=h',toks:=t' }:=I.un (Un.kept k) (I.hok.kept k)
theorem Inv.laid {a:Addr} {o:HO} {t':Nat} (I:Inv X pins σ H s) (k:∀ b u,s.heap.get? b = some u->h'.get? b = some u) (hp:s.heap.objs.size<=a) (new:ObjOk X.prog X.w (upd H a o) h' a o) :
    Inv X pins σ (upd H a o) { s with heap:=h',toks:=t' }:=I.un (Un.laid k hp (I.hok.fresh hp)) (I.hok.laid k hp new)
theorem Inv.write {x e:Addr} {o:HO} {t':Nat} (I:Inv X pins σ H s) (mu:Mut (H x)) (he:e = x\/H e = some (.own x)) (k:∀ b u,b ≠ e->s.heap.get? b = some u->h'.get? b = some u) (heo:∃ u,h'.get? e = some u)
    (new:ObjOk X.prog X.w (upd H x o) h' x o):Inv X pins σ (upd H x o) { s with heap:=h',toks:=t' }:=I.un (Un.write mu he k heo) (I.hok.write mu he k heo new)
theorem Inv.pins_of {pins':List (Addr × Obj)} (I:Inv X pins σ H s) (h:∀ p ∈ pins',s.heap.get? p.1 = some p.2/\H p.1 = none/\p.1 ≠ X.env.locals/\p.1 ∉ X.fs/\∀ v,p.2.data ≠ .cell v):Inv X pins' σ H s:=
  ⟨I.ok,I.os,I.bare,I.base,I.loc,I.cell,I.free,I.freeC,fun p hp=>(List.mem_append.mp hp).elim (fun z=>I.pin p (List.mem_append_left _ z)) (h p),I.hok,I.len⟩
theorem zgQ {N:List Str} (hN:N.Nodup) {i j:Nat} {x:Str} (a:N[i]? = some x) (b:N[j]? = some x):i = j:=by
  obtain ⟨h1,e1⟩:=List.getElem?_eq_some_iff.mp a
  obtain ⟨h2,e2⟩:=List.getElem?_eq_some_iff.mp b
  exact (List.getElem_inj hN).mp (e1.trans e2.symm)
theorem zfN {M:Model} {A:Around} {E:Value->Shared->Prop} {i:Nat} {x:Str} {v:V} {u:Value} {Q:Unit->Shared->Prop} (I:Inv X pins σ H s) (hN:X.N.Nodup) (hi:X.N[i]? = some x) (hx:Loc X.env.scope x) (r:RelV v u)
    (h:∀ s',Inv X pins (σ.set i (some v)) H s'->(∃ a,Heap.SameBut a s.heap s'.heap/\(a = X.env.locals\/X.env.cells.lookup x = some a))->Q () s') (hf:X.fn x = true\/X.env.scope.names.lookup x = some .local:=by first | exact .inl rfl | exact .inr rfl | assumption):wpAny M A (storeName X.env x u) Q E s:=by
  obtain ⟨m,hn,hl⟩:=id I.loc
  have hcls:(X.env.scope.kind == .class || (X.env.scope.kind == .module && X.env.locals != X.env.globals)) = false:=by rw [I.ok.kind];rfl
  have hiσ:i < σ.length:=by rw [I.len];exact (List.getElem?_eq_some_iff.mp hi).1
  have cne:=I.cne
  have tracked:∀ {a:Addr} {h':Heap},(∃ o,s.heap.get? a = some o/\H a = none)->Heap.SameBut a s.heap h'->HOk X.prog X.w H h':=fun {a h'} ha hs b ob e=>by
    obtain ⟨_,_,hfree⟩:=ha
    refine (I.hok b ob e).stay (fun c w' hc q=>(hs.2 c ?_).trans q) (fun _ q=>q) fun _ _ q=>q
    rintro rfl
    rcases hc with rfl | hc
    · rw [hfree] at e;cases e
    · rw [hfree] at hc;cases hc
  rcases hx with hk | hk
  · refine wpAny_storeName_local hk hn (fun h' hn' hs=>?_) hcls
    obtain ⟨oL,_,_,hoL,_⟩:=id hn
    refine h _ ⟨I.ok,I.os,I.bare,⟨fun b o e n hb hx=>?_,fun b o e n hb hx=>?_,I.base.free,fun b o e hx=>?_,I.base.tups,I.base.frzs,I.base.tbls⟩,⟨_,hn',fun j y v' e1 e2 e3=>?_⟩,fun y c e=>?_,I.free,I.freeC,fun p hp=>?_,tracked ⟨oL,hoL,I.free⟩ hs,by simpa using I.len⟩ ⟨_,hs,.inl rfl⟩
    · exact (hs.2 b (Nat.ne_of_lt (Nat.lt_of_lt_of_le (Heap.lt_size e) I.ok.above))).trans (I.base.keep b o e n hb hx)
    · obtain ⟨sl,e1⟩:=I.base.slot b o e n hb hx
      exact ⟨sl,(hs.2 b (Nat.ne_of_lt (Nat.lt_of_lt_of_le (Heap.lt_size e) I.ok.above))).trans e1⟩
    · obtain ⟨o',e1⟩:=I.base.there b o e hx
      exact ⟨o',(hs.2 b (Nat.ne_of_lt (Nat.lt_of_lt_of_le (Heap.lt_size e) I.ok.above))).trans e1⟩
    · by_cases hj:j = i
      · subst hj
        rw [hi] at e1;cases e1
        rw [List.getElem?_set_self hiσ] at e2
        cases e2
        exact ⟨u,r,.inl ⟨hk,by simp⟩⟩
      · rw [List.getElem?_set_ne (Ne.symm hj)] at e2
        obtain ⟨u',r',q⟩:=hl j y v' e1 e2 e3
        refine ⟨u',r',?_⟩
        rcases q with ⟨k,e⟩ | ⟨k,c,e,z⟩
        · refine .inl ⟨k,?_⟩
          have:y ≠ x:=fun e=>hj (zgQ hN e1 (e ▸ hi))
          simp [this,e]
        · exact .inr ⟨k,c,e,z.sameBut hs (cne y c e)⟩
    · obtain ⟨w',z⟩:=I.cell y c e
      exact ⟨w',z.sameBut hs (cne y c e)⟩
    · obtain ⟨e,n,ne,nf,d⟩:=I.pin p hp
      exact ⟨(hs.2 p.1 ne).trans e,n,ne,nf,d⟩
  · have hfn:X.fn x = true:=by
      rcases hf with z | z
      · exact z
      · rw [z] at hk;cases hk
    obtain ⟨c,hc⟩:=I.ok.has x (.inl hk)
    obtain ⟨w',z⟩:=I.cell x c hc
    refine wpAny_storeName_cell I.ok.kind hk hc z (fun h' hc' hs=>?_)
    obtain ⟨oc,hoc,hocd⟩:=id z
    refine h { s with heap:=h' } ⟨I.ok,I.os,I.bare,⟨fun b o e n hb hx=>?_,fun b o e n hb hx=>?_,I.base.free,fun b o e hx=>?_,I.base.tups,I.base.frzs,I.base.tbls⟩,⟨m,hn.sameBut hs (Ne.symm (cne x c hc)),fun j y v' e1 e2 e3=>?_⟩,fun y c' e=>?_,I.free,I.freeC,fun p hp=>?_,tracked ⟨oc,hoc,I.freeC x c hc⟩ hs,by simpa using I.len⟩ ⟨c,hs,.inr hc⟩
    · exact (hs.2 b (Nat.ne_of_lt (Nat.lt_of_lt_of_le (Heap.lt_size e) (I.ok.cab x c hfn hc)))).trans (I.base.keep b o e n hb hx)
    · obtain ⟨sl,e1⟩:=I.base.slot b o e n hb hx
      exact ⟨sl,(hs.2 b (Nat.ne_of_lt (Nat.lt_of_lt_of_le (Heap.lt_size e) (I.ok.cab x c hfn hc)))).trans e1⟩
    · obtain ⟨o',e1⟩:=I.base.there b o e hx
      exact ⟨o',(hs.2 b (Nat.ne_of_lt (Nat.lt_of_lt_of_le (Heap.lt_size e) (I.ok.cab x c hfn hc)))).trans e1⟩
    · by_cases hj:j = i
      · subst hj
        rw [hi] at e1;cases e1
        rw [List.getElem?_set_self hiσ] at e2
        cases e2
        exact ⟨u,r,.inr ⟨.inl hk,c,hc,hc'⟩⟩
      · rw [List.getElem?_set_ne (Ne.symm hj)] at e2
        obtain ⟨u',r',q⟩:=hl j y v' e1 e2 e3
        refine ⟨u',r',?_⟩
        rcases q with q | ⟨k,c',e,z'⟩
        · exact .inl q
        · refine .inr ⟨k,c',e,z'.sameBut hs ?_⟩
          rintro rfl
          exact hj (zgQ hN e1 (I.ok.inj _ _ _ e hc ▸ hi))
    · by_cases hcc:c' = c
      · subst hcc;exact ⟨_,hc'⟩
      · obtain ⟨w2,z2⟩:=I.cell y c' e
        exact ⟨w2,z2.sameBut hs hcc⟩
    · obtain ⟨e,n,ne,nf,d⟩:=I.pin p hp
      refine ⟨(hs.2 p.1 ?_).trans e,n,ne,nf,d⟩
      intro q
      rw [q,hoc] at e
      have q':oc = p.2:=Option.some.inj e
      exact d w' (by rw [← q'];exact hocd)
theorem zcS {M:Model} {A:Around} {E:Value->Shared->Prop} {i:Nat} {x:Str} {v:V} {u:Value} {Q:Unit->Shared->Prop} (I:Inv X pins σ H s) (hN:X.N.Nodup) (hi:X.N[i]? = some x) (hx:Loc X.env.scope x) (r:RelV v u)
    (h:∀ s',Inv X pins (σ.set i (some v)) H s'->Q () s') (hf:X.fn x = true\/X.env.scope.names.lookup x = some .local:=by first | exact .inl rfl | exact .inr rfl | assumption):wpAny M A (storeName X.env x u) Q E s:=
  zfN I hN hi hx r (fun s' I' _=>h s' I') hf
theorem Inv.call' {s':Shared} {ch:List Addr} (I:Inv X pins σ H s) (ho:s'.os = s.os) (u:Un (frs X.stack) ch H H' s.heap s'.heap) (hok:HOk X.prog X.w H' s'.heap) (hg:AllBare s'.gens)
    (hch:∀ b ∈ ch,(b ∈ X.ex\/X.s₀.heap.objs.size<=b)/\b ≠ X.env.locals/\(∀ x c,X.env.cells.lookup x = some c->c ≠ b)/\∀ p ∈ X.pn ++ pins,p.1 ≠ b):Inv X pins σ H' s':=by
  obtain ⟨h',g',d',t',o'⟩:=s'
  have e:o' = s.os:=ho
  subst e
  exact I.call (g':=g') (t':=t') (d':=d') u hok hg hch
end
noncomputable abbrev XK:=Value->Option Addr->Hp->Prop
noncomputable abbrev St:=List (Option V)
noncomputable abbrev VK:=V->Hp->Prop
noncomputable abbrev TE:=St->Hp->VK->Prop
noncomputable abbrev TT:=St->Hp->(Bool->Hp->Prop)->Prop
noncomputable abbrev TA:=St->Hp->(List V->Hp->Prop)->Prop
structure Ends where
  nx:St->Hp->Prop
  rt:VK
  bk:St->Hp->Prop:=fun _ _=>False
  ct:St->Hp->Prop:=fun _ _=>False
noncomputable abbrev TS:=Ends->St->Hp->Prop
noncomputable def EP (X:Cx) (pins:List (Addr × Obj)) (σ:St) (Q:VK) (u:Value) (s':Shared):Prop:=∃ v H',Inv X pins σ H' s'/\RelV v u/\Q v H'
noncomputable def TP (X:Cx) (pins:List (Addr × Obj)) (σ:St) (Q:Bool->Hp->Prop) (b:Bool) (s':Shared):Prop:=∃ H',Inv X pins σ H' s'/\Q b H'
noncomputable def AP (X:Cx) (pins:List (Addr × Obj)) (σ:St) (Q:List V->Hp->Prop) (us:List Value) (s':Shared):Prop:=∃ vs H',Inv X pins σ H' s'/\Vals vs us/\Q vs H'
noncomputable def SP (X:Cx) (pins:List (Addr × Obj)) (D:Ends) (f:Flow) (s':Shared):Prop:=
  match f with
  | .next=>∃ σ' H',Inv X pins σ' H' s'/\D.nx σ' H'
  | .brk=>∃ σ' H',Inv X pins σ' H' s'/\D.bk σ' H'
  | .cont=>∃ σ' H',Inv X pins σ' H' s'/\D.ct σ' H'
  | .ret u=>∃ v σ' H',Inv X pins σ' H' s'/\RelV v u/\D.rt v H'
noncomputable def PE (X:Cx) (e:Expr) (t:TE):Prop:=
  ∀ (pins:List (Addr × Obj)) (s:Shared) (σ:St) (H:Hp) (Q:VK),Inv X pins σ H s->t σ H Q->wpAny (model X.prog X.w) X.A (eval e X.env) (EP X pins σ Q) X.xe s
noncomputable def PT (X:Cx) (e:Expr) (t:TT):Prop:=
  ∀ (pins:List (Addr × Obj)) (s:Shared) (σ:St) (H:Hp) (Q:Bool->Hp->Prop),Inv X pins σ H s->t σ H Q->wpAny (model X.prog X.w) X.A (isTrue e X.env (eval e X.env)) (TP X pins σ Q) X.xe s
noncomputable def PW (X:Cx) (e:Expr) (t:TT):Prop:=
  ∀ (whole:Sem Value) (pins:List (Addr × Obj)) (s:Shared) (σ:St) (H:Hp) (Q:Bool->Hp->Prop),Inv X pins σ H s->t σ H Q->wpAny (model X.prog X.w) X.A (isTrue e X.env whole) (TP X pins σ Q) X.xe s
theorem PW.pt {X:Cx} {e:Expr} {t:TT} (h:PW X e t):PT X e t:=h _
noncomputable def PA (X:Cx) (es:List Expr) (t:TA):Prop:=
  ∀ (pos:Pos) (pins:List (Addr × Obj)) (s:Shared) (σ:St) (H:Hp) (Q:List V->Hp->Prop),Inv X pins σ H s->t σ H Q->wpAny (model X.prog X.w) X.A (spliced (backTo pos (starEach es X.env))) (AP X pins σ Q) X.xe s
noncomputable def PS (X:Cx) (st:Stmt) (t:TS):Prop:=
  ∀ (pins:List (Addr × Obj)) (s:Shared) (σ:St) (H:Hp) (D:Ends),Inv X pins σ H s->t D σ H->wpAny (model X.prog X.w) X.A (exec st X.env) (SP X pins D) X.xe s
noncomputable def PSs (X:Cx) (st:List Stmt) (t:TS):Prop:=
  ∀ (pins:List (Addr × Obj)) (s:Shared) (σ:St) (H:Hp) (D:Ends),Inv X pins σ H s->t D σ H->wpAny (model X.prog X.w) X.A (execs st X.env) (SP X pins D) X.xe s
theorem thn {α:Type} {t:Sem α} {Q Q':α->Shared->Prop} {M:Model} {A:Around} {E:Value->Shared->Prop} {s:Shared} (h:wpAny M A t Q E s) (hQ:∀ a s,Q a s->Q' a s):wpAny M A t Q' E s:=wpAny_mono h hQ fun _ _ x=>x
end L2
namespace L2
open PySem PySem.Spec PyProof.Rows
section
variable {X:Cx}
theorem bin {a b:Expr} {ta tb:TE} (ha:PE X a ta) (hb:PE X b tb) {pins:List (Addr × Obj)} {s:Shared} {σ:St} {H:Hp} {R:V->V->Hp->Prop} (I:Inv X pins σ H s) (h:ta σ H fun x H1=>tb σ H1 fun y H2=>R x y H2)
    {α:Type} {Q:α->Shared->Prop} {f:Value->Value->Sem α}
    (hf:∀ v u s2 x y H2,Inv X pins σ H2 s2->RelV x v->RelV y u->R x y H2->wpAny (model X.prog X.w) X.A (f v u) Q X.xe s2) :
    wpAny (model X.prog X.w) X.A (eval a X.env) (fun v s₁=>wpAny (model X.prog X.w) X.A (eval b X.env) (fun u s₂=>wpAny (model X.prog X.w) X.A (f v u) Q X.xe s₂) X.xe s₁) X.xe s:=by
  refine thn (ha pins s σ H _ I h) fun v s1 ⟨x,H1,I1,r1,q1⟩=>?_
  refine thn (hb pins s1 σ H1 _ I1 q1) fun u s2 ⟨y,H2,I2,r2,q2⟩=>?_
  exact hf v u s2 x y H2 I2 r1 r2 q2
noncomputable def zik (i:Nat):TE:=fun σ H Q=>∃ v,σ[i]? = some (some v)/\Q v H
noncomputable def tC (v:V):TE:=fun _ H Q=>Q v H
theorem zny {i:Nat} {x:Str} {pos:Pos} (hN:X.N[i]? = some x) (hv:Vis X.env.scope x) (hd:(x == ("__debug__":Str)) = false:=by decide) (hcd:(x == ("__classdict__":Str)) = false:=by decide):PE X (.Name x pos) (zik i):=by
  intro pins s σ H Q I h
  obtain ⟨v,e,h⟩:=h
  obtain ⟨m,hn,hl⟩:=I.loc
  obtain ⟨u,r,l⟩:=hl i x v hN e hv
  have fin:EP X pins σ Q u s:=⟨v,H,I,r,h⟩
  rcases l with ⟨hk,hm⟩ | ⟨hk,c,hc,hcell⟩
  · exact wpAny_Name (wpAny_loadName_local I.ok.kind hk hn hm fin) hd
  · rcases hk with hk | hk
    · exact wpAny_Name (wpAny_loadName_cell I.ok.kind hk hc hcell fin) hd
    · exact wpAny_Name (wpAny_loadName_free I.ok.kind hk hc hcell fin hcd) hd
theorem znE {i j pos}:PE X (.Constant (.int i) j pos) (tC (.int i)):=fun _ _ _ H _ I h=>wpAny_Constant_int ⟨.int i,H,I.tok _,⟨_,rfl⟩,h⟩
theorem zpd {b j pos}:PE X (.Constant (.bool b) j pos) (tC (.bl b)):=fun _ _ _ H _ I h=>Constant_bool ⟨.bl b,H,I,rfl,h⟩
theorem znC {j pos}:PE X (.Constant .none j pos) (tC .non):=fun _ _ _ H _ I h=>Constant_none ⟨.non,H,I,rfl,h⟩
theorem znA {x j pos}:PE X (.Constant (.str x) j pos) (tC (.str x)):=fun _ _ _ H _ I h=>Calls.Constant_str ⟨.str x,H,I.tok _,⟨_,rfl⟩,h⟩
noncomputable def Gl (X:Cx) (x:Str):Prop:=X.env.kindOf x = some .globalImplicit
theorem zfv {E:Value->Shared->Prop} {pins:List (Addr × Obj)} {s:Shared} {σ:St} {H:Hp} {x:Str} {u:Value} {pos:Pos} {Q:Value->Shared->Prop} (I:Inv X pins σ H s) (hg:Gl X x) (hm:X.mg x = some u) (h:Q u s)
    (hd:(x == ("__debug__":Str)) = false:=by decide):wpAny (model X.prog X.w) X.A (eval (.Name x pos) X.env) Q E s:=
  Calls.Name_function_global I.ok.kind hg (Calls.loadGlobal_global (by rw [I.ok.glob];exact I.mod.glob.keeps I.bk) hm h) hd
theorem zb4 {E:Value->Shared->Prop} {pins:List (Addr × Obj)} {s:Shared} {σ:St} {H:Hp} {x:Str} {u:Value} {pos:Pos} {Q:Value->Shared->Prop} (I:Inv X pins σ H s) (hg:Gl X x) (hm:X.mg x = none) (hv:bootBuiltins x = some u) (h:Q u s)
    (hn:x ≠ "__name__":=by decide) (hd:(x == ("__debug__":Str)) = false:=by decide):wpAny (model X.prog X.w) X.A (eval (.Name x pos) X.env) Q E s:=by
  obtain ⟨mb,h1,h2⟩:=I.mod.blt
  exact Calls.Name_function_global I.ok.kind hg (Calls.loadGlobal_builtin (by rw [I.ok.glob];exact I.mod.glob.keeps I.bk) hm (by rw [I.ok.blt];exact h1.keeps I.bk) ((h2 x hn).trans hv) h) hd
theorem zl8 {x:Str} {v:V} {u:Value} {pos:Pos} (hg:Gl X x) (hm:X.mg x = some u) (r:RelV v u) (hd:(x == ("__debug__":Str)) = false:=by decide):PE X (.Name x pos) (tC v):=
  fun _ _ _ H _ I h=>zfv I hg hm ⟨v,H,I,r,h⟩ hd
theorem zmb {x:Str} {v:V} {u:Value} {pos:Pos} (hg:Gl X x) (hm:X.mg x = none) (hv:bootBuiltins x = some u) (r:RelV v u) (hn:x ≠ "__name__":=by decide) (hd:(x == ("__debug__":Str)) = false:=by decide):PE X (.Name x pos) (tC v):=
  fun _ _ _ H _ I h=>zb4 I hg hm hv ⟨v,H,I,r,h⟩ hn hd
variable {a b:Expr} {ta tb:TE} {pos:Pos}
noncomputable def PC (X:Cx) (op:CmpOp) (a b:Expr) (t:TE):Prop:=
  ∀ (pins:List (Addr × Obj)) (s:Shared) (σ:St) (H:Hp) (Q:VK),Inv X pins σ H s->t σ H Q->
    wpAny (model X.prog X.w) X.A (eval a X.env) (fun v s₁=>wpAny (model X.prog X.w) X.A (eval b X.env) (fun u s₂=>wpAny (model X.prog X.w) X.A (compareOp op v u) (EP X pins σ Q) X.xe s₂) X.xe s₁) X.xe s
theorem zkD (b:Expr) {op:CmpOp} (h:op ≠ .In) (h2:op ≠ .NotIn):behindInMarks op b = false:=by
  have e1:(op == CmpOp.In) = false:=by cases op <;> first | rfl | exact absurd rfl h
  have e2:(op == CmpOp.NotIn) = false:=by cases op <;> first | rfl | exact absurd rfl h2
  cases b <;> simp [behindInMarks,e1,e2]
noncomputable def tB (t:TE):TT:=fun σ H Q=>t σ H fun x H1=>∃ c,x = .bl c/\Q c H1
theorem zqu {op:CmpOp} {t:TE} (h:PC X op a b t) (h1:behindInMarks op b = false:=by first | exact zkD _ (by decide) (by decide) | rfl):PT X (.Compare a [op] [b] pos) (tB t):=by
  intro pins s σ H Q I hw
  refine wpAny_isTrue_Compare1 (thn (h pins s σ H _ I hw) fun v s1 h1=>thn h1 fun u s2 h2=>thn h2 fun c s3 ⟨x,H1,I1,r1,q1⟩=>?_) h1
  obtain ⟨d,rfl,q⟩:=q1
  cases r1
  exact wpAny_truthy_bool ⟨H1,I1,q⟩
theorem znq {e:Expr} {t:TE} (h:PE X e t) (he:∀ whole,isTrue e X.env whole = (do let v ← whole;standAt e.pos;holding [v] (truthy v)):=by intro _;rfl):PT X e (tB t):=by
  intro pins s σ H Q I hw
  refine isTrue_plain (thn (h pins s σ H _ I hw) fun v s1 ⟨x,H1,I1,r1,q1⟩=>?_) (he _)
  obtain ⟨d,rfl,q⟩:=q1
  cases r1
  exact wpAny_truthy_bool ⟨H1,I1,q⟩
variable {tA tB':TT} {rest:List Expr}
noncomputable def zpM (t u:TT):TT:=fun σ H Q=>t σ H fun c H1=>if c = true then u σ H1 Q else Q false H1
noncomputable def tOr (t u:TT):TT:=fun σ H Q=>t σ H fun c H1=>if c = true then Q true H1 else u σ H1 Q
noncomputable def zpG (t:TT):TT:=fun σ H Q=>t σ H fun c H1=>Q (!c) H1
theorem zlV (ha:PT X a tA):PW X (.BoolOp .And [a] pos) tA:=by
  intro wh pins s σ H Q I h
  refine isTrue_and (thn (ha pins s σ H Q I h) fun c s1 e=>?_)
  cases c with
  | true=>exact isTrue_and_nil e
  | false=>exact e
theorem zno (ha:PT X a tA):PW X (.BoolOp .Or [a] pos) tA:=by
  intro wh pins s σ H Q I h
  refine isTrue_or (thn (ha pins s σ H Q I h) fun c s1 e=>?_)
  cases c with
  | false=>exact isTrue_or_nil e
  | true=>exact e
theorem znp (ha:PT X a tA) (hb:PW X (.BoolOp .And (b :: rest) pos) tB'):PW X (.BoolOp .And (a :: b :: rest) pos) (zpM tA tB'):=by
  intro wh pins s σ H Q I h
  refine isTrue_and (thn (ha pins s σ H _ I h) fun c s1 ⟨H1,I1,q1⟩=>?_)
  cases c with
  | true=>exact hb wh pins s1 σ H1 Q I1 q1
  | false=>exact ⟨H1,I1,q1⟩
theorem zo7 (ha:PT X a tA) (hb:PW X (.BoolOp .Or (b :: rest) pos) tB'):PW X (.BoolOp .Or (a :: b :: rest) pos) (tOr tA tB'):=by
  intro wh pins s σ H Q I h
  refine isTrue_or (thn (ha pins s σ H _ I h) fun c s1 ⟨H1,I1,q1⟩=>?_)
  cases c with
  | true=>exact ⟨H1,I1,q1⟩
  | false=>exact hb wh pins s1 σ H1 Q I1 q1
theorem znr (ha:PT X a tA):PT X (.UnaryOp .Not a pos) (zpG tA):=by
  intro pins s σ H Q I h
  exact isTrue_not (ha pins s σ H (fun c H1=>Q (!c) H1) I h)
noncomputable def zo1 (ta tb:TE):TE:=fun σ H Q=>ta σ H fun x H1=>∃ c,x = .bl c/\if c = true then tb σ H1 Q else Q (.bl false) H1
theorem znB {op} {t:TE} (h:PE X a t):PE X (.BoolOp op [a] pos) t:=fun pins s σ H Q I hw=>BoolOp_one (h pins s σ H Q I hw)
theorem znH (ha:PE X a ta) (hb:PE X (.BoolOp .And (b :: rest) pos) tb):PE X (.BoolOp .And (a :: b :: rest) pos) (zo1 ta tb):=by
  intro pins s σ H Q I h
  refine BoolOp_and (thn (ha pins s σ H _ I h) fun v s1 ⟨x,H1,I1,r1,q1⟩=>?_)
  obtain ⟨c,rfl,q1⟩:=q1
  cases r1
  refine wpAny_truthy_bool ?_
  cases c with
  | true=>exact hb pins s1 σ H1 Q I1 q1
  | false=>exact ⟨.bl false,H1,I1,rfl,q1⟩
end
end L2
namespace L2
open PySem PySem.Spec PyProof.Rows
noncomputable def SqL (K:PySem.W.Frag) (H:Hp) (a:Addr) (xs:List V):Prop:=
  Rd H a (.lst xs) \/
    ∃ (o:Obj) (its:Array Value) (n:Nat),K.lookup a = some o/\o.cls = .type "list"/\o.dict = none/\o.data = .seq its n/\its.size<=sizeLine/\Vals xs its.toList
noncomputable def SqT (K:PySem.W.Frag) (H:Hp) (a:Addr) (xs:List V):Prop:=
  Rd H a (.tup xs) \/
    ∃ (o:Obj) (its:Array Value) (n:Nat),K.lookup a = some o/\o.cls = .type "tuple"/\o.dict = none/\o.data = .seq its n/\its.size<=sizeLine/\Vals xs its.toList
noncomputable def zqg:Value->Option V
  | .none=>some .non
  | .bool b=>some (.bl b)
  | .int i _=>some (.int i)
  | .str x _=>some (.str x)
  | .bytes b _=>some (.byt b)
  | .float b _=>some (.flt b)
  | .ref a=>some (.ref a)
  | .type n=>some (.ty n)
  | _=>none
theorem RelV.abs {x:V} {u:Value} (r:RelV x u):zqg u = some x:=by
  cases x with
  | non=>cases r;rfl
  | bl _=>cases r;rfl
  | int _=>obtain ⟨t,rfl⟩:=r;rfl
  | str _=>obtain ⟨t,rfl⟩:=r;rfl
  | byt _=>obtain ⟨t,rfl⟩:=r;rfl
  | flt _=>obtain ⟨t,rfl⟩:=r;rfl
  | ref _=>cases r;rfl
  | ty _=>cases r;rfl
theorem RelV.inj {x y:V} {u:Value} (r:RelV x u) (q:RelV y u):x = y:=Option.some.inj (r.abs.symm.trans q.abs)
theorem Vals.inj:∀ {xs ys:List V} {us:List Value},Vals xs us->Vals ys us->xs = ys
  | _,_,_,.nil,.nil=>rfl
  | _,_,_,.cons r t,.cons r' t'=>by rw [r.inj r',Vals.inj t t']
section
variable {X:Cx} {pins:List (Addr × Obj)} {σ:St} {H:Hp} {s:Shared} {a:Addr} {xs ys:List V}
theorem Inv.list (I:Inv X pins σ H s) (h:SqL X.K H a xs):∃ its:List Value,Vals xs its/\PlainL s.heap a its.toArray/\xs.length<=sizeLine:=by
  rcases h with h | ⟨o,its,n,hk,hc,hd,hs,hz,r⟩
  · obtain ⟨z,its,n,r,e⟩:=h.ok I.hok
    exact ⟨its,r,⟨_,n,e,rfl,rfl,rfl⟩,z⟩
  · refine ⟨its.toList,r,⟨o,n,I.kIn a o hk,hc,hd,by simpa using hs⟩,?_⟩
    have e:=r.length
    simp only [Array.length_toList] at e
    omega
theorem Inv.tuple (I:Inv X pins σ H s) (h:SqT X.K H a xs):∃ its:List Value,Vals xs its/\IsTup s.heap a its.toArray/\xs.length<=sizeLine:=by
  rcases h with h | ⟨o,its,n,hk,hc,_,hs,hz,r⟩
  · obtain ⟨z,its,r,p,_⟩:=h.ok I.hok
    exact ⟨its,r,p,z⟩
  · refine ⟨its.toList,r,⟨o,I.kIn a o hk,hc,n,by simpa using hs⟩,?_⟩
    have e:=r.length
    simp only [Array.length_toList] at e
    omega
theorem Inv.list_inj (I:Inv X pins σ H s) (h:SqL X.K H a xs) (h':SqL X.K H a ys):xs = ys:=by
  obtain ⟨its,r,⟨o,n,e,_,_,d⟩,_⟩:=I.list h
  obtain ⟨its',r',⟨o',n',e',_,_,d'⟩,_⟩:=I.list h'
  rw [e] at e';cases e'
  rw [d] at d'
  injection d' with d1 _
  have:its = its':=by simpa using congrArg Array.toList d1
  subst this
  exact r.inj r'
theorem Inv.tuple_inj (I:Inv X pins σ H s) (h:SqT X.K H a xs) (h':SqT X.K H a ys):xs = ys:=by
  obtain ⟨its,r,⟨o,e,_,n,d⟩,_⟩:=I.tuple h
  obtain ⟨its',r',⟨o',e',_,n',d'⟩,_⟩:=I.tuple h'
  rw [e] at e';cases e'
  rw [d] at d'
  injection d' with d1 _
  have:its = its':=by simpa using congrArg Array.toList d1
  subst this
  exact r.inj r'
end
noncomputable abbrev Cx.wish (X:Cx) (E:Value->Shared->Prop):Cx:={ X with xe:=E }
noncomputable abbrev Cx.nox (X:Cx):Cx:=X.wish fun _ _=>False
theorem Cx.Ok.wish {X:Cx} (ok:X.Ok) (E:Value->Shared->Prop):(X.wish E).Ok:=
  ⟨ok.mod,ok.kind,ok.glob,ok.blt,ok.above,ok.inj,ok.has,ok.cab,ok.hd,ok.frames,ok.stk,ok.exf,ok.bs,ok.bsz,ok.noex,ok.exfs,ok.funs,ok.frf⟩
theorem Cx.Ok.unwish {X:Cx} {E:Value->Shared->Prop} (ok:(X.wish E).Ok):X.Ok:=
  ⟨ok.mod,ok.kind,ok.glob,ok.blt,ok.above,ok.inj,ok.has,ok.cab,ok.hd,ok.frames,ok.stk,ok.exf,ok.bs,ok.bsz,ok.noex,ok.exfs,ok.funs,ok.frf⟩
section
variable {X:Cx} {pins:List (Addr × Obj)} {σ:St} {H:Hp} {s:Shared} {E:Value->Shared->Prop}
theorem Inv.wish (I:Inv X pins σ H s) (E:Value->Shared->Prop):Inv (X.wish E) pins σ H s:=⟨I.ok.wish E,I.os,I.bare,I.base,I.loc,I.cell,I.free,I.freeC,I.pin,I.hok,I.len⟩
theorem Inv.unwish (I:Inv (X.wish E) pins σ H s):Inv X pins σ H s:=⟨I.ok.unwish,I.os,I.bare,I.base,I.loc,I.cell,I.free,I.freeC,I.pin,I.hok,I.len⟩
theorem SP.unwish {D:Ends} {f:Flow} {s':Shared} (h:SP (X.wish E) pins D f s'):SP X pins D f s':=by
  cases f with
  | next=>obtain ⟨σ',H',I,q⟩:=h;exact ⟨σ',H',I.unwish,q⟩
  | brk=>obtain ⟨σ',H',I,q⟩:=h;exact ⟨σ',H',I.unwish,q⟩
  | cont=>obtain ⟨σ',H',I,q⟩:=h;exact ⟨σ',H',I.unwish,q⟩
  | ret u=>obtain ⟨v,σ',H',I,r,q⟩:=h;exact ⟨v,σ',H',I.unwish,r,q⟩
theorem PE.nox {e:Expr} {t:TE} (h:PE X.nox e t):PE X e t:=fun pins s σ H Q I hw=>
  wpAny_mono (h pins s σ H Q (I.wish _) hw) (fun _ _ ⟨v,H',I',r,q⟩=>⟨v,H',I'.unwish,r,q⟩) fun _ _ z=>False.elim z
theorem PT.nox {e:Expr} {t:TT} (h:PT X.nox e t):PT X e t:=fun pins s σ H Q I hw=>
  wpAny_mono (h pins s σ H Q (I.wish _) hw) (fun _ _ ⟨H',I',q⟩=>⟨H',I'.unwish,q⟩) fun _ _ z=>False.elim z
theorem PSs.nox {st:List Stmt} {t:TS} (h:PSs X.nox st t):PSs X st t:=fun pins s σ H D I hw=>
  wpAny_mono (h pins s σ H D (I.wish _) hw) (fun _ _ q=>q.unwish) fun _ _ z=>False.elim z
end
section
variable {X:Cx} {st:Stmt} {rest:List Stmt} {t u:TS} {e:Expr} {te:TE} {pos:Pos}
noncomputable def zoX:TS:=fun D σ H=>D.nx σ H
noncomputable def zpD (t u:TS):TS:=fun D σ H=>t { D with nx:=u D } σ H
theorem zl0:PSs X [] zoX:=fun _ _ σ H _ I h=>wpAny_execs_nil ⟨σ,H,I,h⟩
theorem zks (h1:PS X st t) (h2:PSs X rest u):PSs X (st :: rest) (zpD t u):=by
  intro pins s σ H D I h
  refine wpAny_execs_cons (thn (h1 pins s σ H { D with nx:=u D } I h) fun f s1 q=>?_)
  cases f with
  | next=>
    obtain ⟨σ',H',I',q⟩:=q
    exact h2 pins s1 σ' H' D I' q
  | ret v=>exact q
  | brk=>exact q
  | cont=>exact q
theorem zlZ (h1:PS X st t):PSs X [st] t:=by
  intro pins s σ H D I h
  refine wpAny_execs_cons (thn (h1 pins s σ H D I h) fun f s1 q=>?_)
  cases f with
  | next=>exact wpAny_execs_nil q
  | ret v=>exact q
  | brk=>exact q
  | cont=>exact q
theorem Inv.quiet {pins:List (Addr × Obj)} {σ:St} {H:Hp} {s:Shared} (I:Inv X pins σ H s):interactive X.env = false:=by simp [interactive,I.ok.kind]
noncomputable def zoZ (te:TE):TS:=fun D σ H=>te σ H fun _ H1=>D.nx σ H1
theorem zl1 (he:PE X e te) (hs:swapsWith e none pos.line X.env = pure false:=by rfl):PS X (.Expr e pos) (zoZ te):=by
  intro pins s σ H D I h
  exact wpAny_Expr_any (thn (he pins s σ H _ I h) fun v s1 ⟨x,H1,I1,r1,q1⟩=>⟨σ,H1,I1,q1⟩) I.quiet hs
noncomputable def zpE (te:TE):TS:=fun D σ H=>te σ H D.rt
theorem znt (he:PE X e te):PS X (.Return (some e) pos) (zpE te):=by
  intro pins s σ H D I h
  exact wpAny_Return_some (thn (he pins s σ H _ I h) fun v s1 ⟨x,H1,I1,r1,q1⟩=>⟨x,σ,H1,I1,r1,q1⟩)
noncomputable def zpJ (c:TT) (t u:TS):TS:=fun D σ H=>c σ H fun b H1=>if b = true then t D σ H1 else u D σ H1
theorem zo8 {c:Expr} {a b:List Stmt} {tc:TT} (hc:PT X c tc) (ha:PSs X a t) (hb:PSs X b u):PS X (.If c a b pos) (zpJ tc t u):=by
  intro pins s σ H D I h
  refine wpAny_If (thn (hc pins s σ H _ I h) fun d s1 ⟨H1,I1,q1⟩=>?_)
  cases d with
  | true=>exact ha pins s1 σ H1 D I1 q1
  | false=>exact hb pins s1 σ H1 D I1 q1
end
noncomputable abbrev TG:=V->St->Hp->(St->Hp->Prop)->Prop
noncomputable abbrev TGs:=List V->St->Hp->(St->Hp->Prop)->Prop
noncomputable def PG (X:Cx) (target:Expr) (t:TG):Prop:=
  ∀ (pins:List (Addr × Obj)) (s:Shared) (σ:St) (H:Hp) (v:V) (u:Value) (Q:St->Hp->Prop),Inv X pins σ H s->RelV v u->t v σ H Q->
    wpAny (model X.prog X.w) X.A (assign target X.env u) (fun _ s'=>∃ σ' H',Inv X pins σ' H' s'/\Q σ' H') X.xe s
noncomputable def PGs (X:Cx) (ts:List Expr) (t:TGs):Prop:=
  ∀ (pins:List (Addr × Obj)) (s:Shared) (σ:St) (H:Hp) (vs:List V) (us:List Value) (Q:St->Hp->Prop),Inv X pins σ H s->Vals vs us->t vs σ H Q->
    wpAny (model X.prog X.w) X.A (assignInOrder ((assignEach ts X.env).map (·.2)) us) (fun _ s'=>∃ σ' H',Inv X pins σ' H' s'/\Q σ' H') X.xe s
noncomputable abbrev ziZ:=V->V->V->Hp->(Hp->Prop)->Prop
noncomputable def zhu (X:Cx) (t:ziZ):Prop:=
  ∀ (pins:List (Addr × Obj)) (s:Shared) (σ:St) (H:Hp) (o i v:V) (ov iv u:Value) (Q:Hp->Prop),Inv X pins σ H s->RelV o ov->RelV i iv->RelV v u->t o i v H Q->
    wpAny (model X.prog X.w) X.A (setItem ov iv u) (fun _ s'=>∃ H',Inv X pins σ H' s'/\Q H') X.xe s
section
variable {X:Cx} {pos:Pos}
noncomputable def zgl (i:Nat):TG:=fun v σ H Q=>Q (σ.set i (some v)) H
theorem qf {i:Nat} {x:Str} (hN:X.N.Nodup) (hi:X.N[i]? = some x) (hx:Loc X.env.scope x) (hf:X.fn x = true\/X.env.scope.names.lookup x = some .local:=by first | exact .inl rfl | exact .inr rfl | assumption):PG X (.Name x pos) (zgl i):=by
  intro pins s σ H v u Q I r h
  exact wpAny_assign_Name (zcS I hN hi hx r (fun s' I'=>⟨_,H,I',h⟩) hf)
noncomputable def zqa:TGs:=fun vs σ H Q=>vs = []/\Q σ H
noncomputable def ziJ (t:TG) (u:TGs):TGs:=fun vs σ H Q=>∃ v r,vs = v :: r/\t v σ H fun σ' H'=>u r σ' H' Q
theorem zl6:PGs X [] zqa:=by
  intro pins s σ H vs us Q I r h
  obtain ⟨e,h⟩:=h
  subst e
  cases r
  exact assignInOrder_nil ⟨σ,H,I,h⟩
theorem yj {e:Expr} {es:List Expr} {t:TG} {u:TGs} (h1:PG X e t) (h2:PGs X es u)
    (hs:(assignEach (e :: es) X.env).map (·.2) = assign e X.env :: (assignEach es X.env).map (·.2):=by rfl):PGs X (e :: es) (ziJ t u):=by
  intro pins s σ H vs us Q I r h
  obtain ⟨v,vr,e1,h⟩:=h
  subst e1
  cases r with
  | cons r rr=>
    rw [hs]
    refine assignInOrder_cons (thn (h1 pins s σ H _ _ _ I r h) fun _ s1 ⟨σ1,H1,I1,q1⟩=>?_)
    exact h2 pins s1 σ1 H1 _ _ Q I1 rr q1
noncomputable def zk7 (K:PySem.W.Frag) (n:Nat) (t:TGs):TG:=fun v σ H Q=>∃ a xs,v = .ref a/\SqT K H a xs/\xs.length = n/\t xs σ H Q
theorem zF {es:List Expr} {k:Nat} {t:TGs} {n:Nat} (hc:X.calm = true) (h:PGs X es t)
    (hn:(assignEach es X.env).length = n:=by rfl) (hst:(assignEach es X.env).findIdx? (·.1) = none:=by rfl):PG X (.Tuple es k pos) (zk7 X.K n t):=by
  intro pins s σ H v u Q I r hw
  obtain ⟨a,xs,e1,hq,hl,hw⟩:=hw
  subst e1
  cases r
  obtain ⟨its,rv,ht,hz⟩:=I.tuple hq
  refine assign_Tuple_tuple (I.ok.hd hc) ht (by simp [hn,← hl,rv.length]) hst fun h' hx=>?_
  have I1:Inv X pins σ H { s with heap:=h' }:=I.kept (t':=s.toks) fun b o e=>hx b o (Nat.ne_of_lt (Heap.lt_size e)) e
  exact h pins _ σ H xs _ Q I1 (by simpa using rv) hw
noncomputable def zp9 (to ti:TE) (t:ziZ):TG:=fun v σ H Q=>to σ H fun o H1=>ti σ H1 fun i H2=>t o i v H2 fun H3=>Q σ H3
theorem znx {o i:Expr} {to ti:TE} {t:ziZ} (ho:PE X o to) (hi:PE X i ti) (hs:zhu X t)
    (ha:∀ v,assign (.Subscript o i pos) X.env v = (do
      let ov ← holding [v] (eval o X.env)
      let iv ← holding [v,ov] (eval i X.env)
      standAt pos
      holding [v,ov,iv] (setItem ov iv v)
      release [v,ov,iv] []):=by intro _;rfl):PG X (.Subscript o i pos) (zp9 to ti t):=by
  intro pins s σ H v u Q I r h
  rw [ha]
  refine wpAny_bind (wpAny_holding (thn (ho pins s σ H _ I h) fun ov s1 ⟨x,H1,I1,r1,q1⟩=>?_))
  refine wpAny_bind (wpAny_holding (thn (hi pins s1 σ H1 _ I1 q1) fun iv s2 ⟨y,H2,I2,r2,q2⟩=>?_))
  refine wpAny_bind (wpAny_standAt (wpAny_bind (wpAny_holding (thn (hs pins s2 σ H2 x y v ov iv u _ I2 r1 r2 r q2) fun _ s3 ⟨H3,I3,q3⟩=>?_))))
  exact wpAny_release ⟨σ,H3,I3,q3⟩
noncomputable def zna (te:TE) (g:TG):TS:=fun D σ H=>te σ H fun x H1=>g x σ H1 D.nx
theorem znw {tg e:Expr} {te:TE} {g:TG} (he:PE X e te) (hg:PG X tg g) (hs:swapsWithSole [tg] e pos.line X.env = pure false:=by rfl) (hw:swappedStores [tg] e X.env = pure none:=by rfl)
    (h1:(assignEach [tg] X.env).map (·.2) = [assign tg X.env]:=by rfl):PS X (.Assign [tg] e pos) (zna te g):=by
  intro pins s σ H D I h
  refine wpAny_Assign_stores (thn (he pins s σ H _ I h) fun v s1 ⟨x,H1,I1,r1,q1⟩=>?_) hs hw
  rw [h1]
  exact thn (hg pins s1 σ H1 x v _ I1 r1 q1) fun _ s2 q=>q
theorem zns {i:Nat} {x:Str} {e:Expr} {te:TE} {pos':Pos} (hN:X.N.Nodup) (hi:X.N[i]? = some x) (hx:Loc X.env.scope x) (he:PE X e te) (hs:swapsWith e (some (.Name x pos')) pos.line X.env = pure false:=by rfl) (hf:X.fn x = true\/X.env.scope.names.lookup x = some .local:=by first | exact .inl rfl | exact .inr rfl | assumption) :
    PS X (.Assign [.Name x pos'] e pos) (zna te (zgl i)):=by
  intro pins s σ H D I h
  refine wpAny_Assign_Name (thn (he pins s σ H _ I h) fun v s1 ⟨y,H1,I1,r1,q1⟩=>?_) hs
  exact zcS I1 hN hi hx r1 (fun s2 I2=>⟨_,H1,I2,q1⟩) hf
noncomputable def zpF (i j:Nat) (ta:TA):TS:=fun D σ H=>ta σ H fun vs H1=>∃ v w,vs = [v,w]/\D.nx ((σ.set i (some v)).set j (some w)) H1
theorem znu {i j:Nat} {x y:Str} {a b:Expr} {ta:TA} {px py pt:Pos} {kt k2 pt2} (hc:X.calm = true) (hN:X.N.Nodup) (hi:X.N[i]? = some x) (hj:X.N[j]? = some y) (hij:i ≠ j)
    (hx:X.env.scope.names.lookup x = some .local) (hy:X.env.scope.names.lookup y = some .local) (ha:PA X [a,b] ta)
    (hw:swappedStores [.Tuple [.Name x px,.Name y py] kt pt] (.Tuple [a,b] k2 pt2) X.env = pure (some [x,y]))
    (hs:swapsWithSole [.Tuple [.Name x px,.Name y py] kt pt] (.Tuple [a,b] k2 pt2) pos.line X.env = pure false:=by rfl) :
    PS X (.Assign [.Tuple [.Name x px,.Name y py] kt pt] (.Tuple [a,b] k2 pt2) pos) (zpF i j ta):=by
  intro pins s σ H D I h
  rw [exec_Assign_arm]
  refine wpAny_bind (wpAny_standAt ?_)
  rw [hs]
  refine wpAny_bind (wpAny_pure ?_)
  rw [if_neg (by decide)]
  refine wpAny_bind (Tuple_ (thn (ha _ pins s σ H _ I h) fun us s1 ⟨vs,H1,I1,r1,q1⟩=>?_))
  obtain ⟨v,w,e1,q1⟩:=q1
  subst e1
  obtain ⟨u1,u2,rfl,rv,rw'⟩:∃ u1 u2,us = [u1,u2]/\RelV v u1/\RelV w u2:=by
    cases r1 with
    | cons p q=>
      cases q with
      | cons p' q'=>
        cases q'
        exact ⟨_,_,rfl,p,p'⟩
  refine wpAny_newObj_type ?_ (by show 2<=sizeLine;decide)
  have I2:Inv X pins σ H1 { s1 with heap:=s1.heap.push { cls:=.type "tuple",data:=.seq [u1,u2].toArray } }:=I1.kept (t':=s1.toks) fun b o e=>Heap.get?_push_of_some _ e
  rw [hw]
  refine wpAny_bind (wpAny_pure ?_)
  show wpAny (model X.prog X.w) X.A (do rule "assign.swapped-stores";let items ← unpackItems (.ref s1.heap.objs.size) 2 none;assignInOrder [fun v=>bindName X.env y v,fun v=>bindName X.env x v] items.reverse;pure Flow.next) _ _ _
  refine wpAny_bind (wpAny_rule (wpAny_bind (unpackItems_tuple (items:=#[u1,u2]) (I.ok.hd hc) (IsTup.new s1.heap _) fun h' hx'=>?_)))
  have I3:=I2.kept (h':=h') (t':=s1.toks) fun b o e=>hx' b o (Nat.ne_of_lt (Heap.lt_size e)) e
  show wpAny _ _ (assignInOrder [fun v=>bindName X.env y v,fun v=>bindName X.env x v] [u2,u1] >>= fun _=>pure Flow.next) _ _ _
  refine wpAny_bind (assignInOrder_cons (wpAny_bindName (zcS I3 hN hj (.inl hy) rw' (fun s2 I4=>?_) (.inr hy))))
  refine assignInOrder_cons (wpAny_bindName (zcS I4 hN hi (.inl hx) rv (fun s3 I5=>assignInOrder_nil (wpAny_pure ?_)) (.inr hx)))
  rw [List.set_comm _ _ (Ne.symm hij)] at I5
  exact ⟨_,H1,I5,q1⟩
end
section
variable {X:Cx} {pos:Pos}
noncomputable def zm8 (c:TT) (tb:TS):TS:=fun D σ H=>∃ W:Nat->St->Hp->Prop,(∃ m,W m σ H)/\∀ m σ H,W m σ H->
  c σ H fun b H1=>if b = true then ∃ N:St->Hp->Prop,(∀ σ' H',N σ' H'->∃ m',m' < m/\W m' σ' H')/\tb { D with nx:=N,ct:=N,bk:=D.nx } σ H1 else D.nx σ H1
theorem zkt {c:Expr} {body:List Stmt} {tc:TT} {tb:TS} (hp:PassesOwn (model X.prog X.w) X.A X.env X.xe) (hc:PT X c tc) (hb:PSs X body tb):PS X (.While c body [] pos) (zm8 tc tb):=by
  intro pins s σ H D I h
  obtain ⟨W,⟨m0,w0⟩,turn⟩:=h
  refine wpAny_While (codeAny_whileLoop (fun n s'=>∃ σ' H',Inv X pins σ' H' s'/\W n σ' H') ?_ m0 ⟨σ,H,I,w0⟩)
  rintro n s1 ⟨σ1,H1,I1,w1⟩
  refine wpAny_passesOwn hp (thn (hc pins s1 σ1 H1 _ I1 (turn n σ1 H1 w1)) fun b s2 ⟨H2,I2,q2⟩=>?_)
  cases b with
  | true=>
    obtain ⟨N,hN,q2⟩:=q2
    rw [if_pos rfl]
    refine wpAny_passesOwn hp (thn (hb pins s2 σ1 H2 _ I2 q2) fun f s3 q3=>?_)
    cases f with
    | next=>
      obtain ⟨σ3,H3,I3,n3⟩:=q3
      obtain ⟨m',hm,w3⟩:=hN σ3 H3 n3
      exact ⟨m',hm,σ3,H3,I3,w3⟩
    | cont=>
      obtain ⟨σ3,H3,I3,n3⟩:=q3
      obtain ⟨m',hm,w3⟩:=hN σ3 H3 n3
      exact ⟨m',hm,σ3,H3,I3,w3⟩
    | brk=>exact q3
    | ret v=>exact q3
  | false=>
    rw [if_neg Bool.false_ne_true]
    exact wpAny_execs_nil ⟨σ1,H2,I2,q2⟩
end
structure It where
  go:Nat->Hp->Prop
  yld:Nat->Hp->V->Hp->Prop
  stop:Nat->Hp->Prop
noncomputable def zcg (X:Cx) (pins:List (Addr × Obj)) (H:Hp) (b:Addr):Prop:=
  H b = none/\b ≠ X.env.locals/\b ∉ X.fs/\(b ∈ X.ex\/X.s₀.heap.objs.size<=b)/\(∀ x c,X.env.cells.lookup x = some c->c ≠ b)/\∀ p ∈ X.pn ++ pins,p.1 ≠ b
theorem Inv.fpOk {X:Cx} {pins:List (Addr × Obj)} {σ:St} {H H':Hp} {s:Shared} {b:Addr} (I:Inv X pins σ H s) (hb:s.heap.objs.size<=b) (hn:H' b = none):zcg X pins H' b:=by
  refine ⟨hn,Nat.ne_of_gt (Nat.lt_of_lt_of_le I.lt hb),I.nofs hb,.inr (Nat.le_trans I.sz hb),fun x c e z=>?_,fun p hp z=>?_⟩
  · obtain ⟨v,q⟩:=I.cell x c e
    exact absurd (Nat.lt_of_lt_of_le q.lt (by rw [z];exact hb)) (Nat.lt_irrefl _)
  · exact absurd (Nat.lt_of_lt_of_le (Heap.lt_size (I.pin p hp).1) (by rw [z];exact hb)) (Nat.lt_irrefl _)
structure Turn (P:Program) (w:World) (K:PySem.W.Frag) (tg:Expr) (J:It) (fp:List Addr) (it:Addr) (tn:Nat->Heap->Prop):Prop where
  mem:it ∈ fp
  obj:∀ i h,tn i h->∀ b ∈ fp,∃ o,h.get? b = some o/\∀ v,o.data ≠ .cell v
  keep:∀ i h h',tn i h->(∀ b ∈ fp,∀ o,h.get? b = some o->h'.get? b = some o)->tn i h'
  item:∀ (X:Cx),X.prog = P->X.w = w->X.K = K->X.calm = true->∀ (i:Nat) (pins:List (Addr × Obj)) (s:Shared) (σ:St) (H:Hp) (E:Value->Shared->Prop),Inv X pins σ H s->(∀ b ∈ fp,zcg X pins H b)->tn i s.heap->J.go i H->
    wpAny (model P w) X.A (pyNext (.ref it)) (fun r s1=>∃ u,r = some u /\
      wpAny (model P w) X.A (letOwnedTupleGo tg (.ref it) u) (fun _ s2=>∃ x H',Inv X pins σ H' s2/\RelV x u/\J.yld i H x H'/\tn (i + 1) s2.heap/\∀ b ∈ fp,H' b = none) E s1) E s
  done:∀ (X:Cx),X.prog = P->X.w = w->X.K = K->X.calm = true->∀ (i:Nat) (pins:List (Addr × Obj)) (s:Shared) (σ:St) (H:Hp) (E:Value->Shared->Prop),Inv X pins σ H s->(∀ b ∈ fp,zcg X pins H b)->tn i s.heap->J.stop i H->
    wpAny (model P w) X.A (pyNext (.ref it)) (fun r s1=>r = none/\Inv X pins σ H s1) E s
  self:∀ (A:Around) (i:Nat) (s:Shared) (Q:Value->Shared->Prop) (E:Value->Shared->Prop),tn i s.heap->Q (.ref it) s->wpAny (model P w) A (pyIter (.ref it)) Q E s
noncomputable abbrev TI:=St->Hp->(It->Hp->Prop)->Prop
noncomputable def PIE (X:Cx) (pins:List (Addr × Obj)) (σ:St) (tg:Expr) (R:It->Hp->Prop) (itv:Value) (s2:Shared):Prop:=
  ∃ (it:Addr) (fp:List Addr) (tn:Nat->Heap->Prop) (J:It) (H':Hp),itv = .ref it/\Inv X pins σ H' s2/\Turn X.prog X.w X.K tg J fp it tn/\tn 0 s2.heap/\(∀ b ∈ fp,zcg X pins H' b)/\R J H'
noncomputable def PI (X:Cx) (tg iter:Expr) (wi:TI):Prop:=
  ∀ (pins:List (Addr × Obj)) (s:Shared) (σ:St) (H:Hp) (R:It->Hp->Prop),Inv X pins σ H s->wi σ H R->
    wpAny (model X.prog X.w) X.A (eval iter X.env) (fun v s1=>wpAny (model X.prog X.w) X.A (pyIter v) (PIE X pins σ tg R) X.xe s1) X.xe s
theorem ziG {M:Model} {A:Around} {E:Value->Shared->Prop} {s:Shared} {tg:Expr} {it:Addr} {u:Value} {o:Obj} {n:String} {vs:Array Value} {Q:Unit->Shared->Prop} (ho:s.heap.get? it = some o) (hc:o.cls = .type n) (hd:o.data = .fields vs)
    (hn:["enumerate","zip","dict_itemiterator","dict_reverseitemiterator","odict_iterator","itertools.zip_longest","itertools.pairwise"].contains n = false) (hQ:Q () s):wpAny M A (letOwnedTupleGo tg (.ref it) u) Q E s:=by
  unfold letOwnedTupleGo
  cases tg <;> first
    | exact wpAny_pure hQ
    | (cases u <;> first
        | exact wpAny_pure hQ
        | (refine wpAny_bind (wpAny_load ho ?_)
           rw [hc,hd]
           show wpAny M A (if (["enumerate","zip","dict_itemiterator","dict_reverseitemiterator","odict_iterator","itertools.zip_longest","itertools.pairwise"].contains n && vs[0]? == some (rawInt _)) = true then _ else _) Q E s
           rw [if_neg (by intro h;rw [hn,Bool.false_and] at h;cases h)]
           exact wpAny_pure hQ))
noncomputable def Itl (K:PySem.W.Frag) (a:Addr):It:=
  ⟨fun i H=>∃ xs x,SqL K H a xs/\xs[i]? = some x,fun i H x H'=>H' = H/\∀ xs,SqL K H a xs->xs[i]? = some x,fun i H=>∃ xs,SqL K H a xs/\xs.length<=i⟩
noncomputable def Itt (K:PySem.W.Frag) (a:Addr):It:=
  ⟨fun i H=>∃ xs x,SqT K H a xs/\xs[i]? = some x,fun i H x H'=>H' = H/\∀ xs,SqT K H a xs->xs[i]? = some x,fun i H=>∃ xs,SqT K H a xs/\xs.length<=i⟩
noncomputable def Itr (lo:Int) (n:Nat):It:=⟨fun i _=>i < n,fun i H x H'=>H' = H/\x = .int (lo + i),fun i _=>n<=i⟩
theorem zja {P:Program} {w:World} {K:PySem.W.Frag} {tg:Expr} (a it:Addr):Turn P w K tg (Itl K a) [it] it (fun i h=>h.IsListIter it a i) where
  mem:=by simp
  obj:=fun i h st b hb=>by
    have e:b = it:=by simpa using hb
    subst e
    obtain ⟨o,e,c,d⟩:=st
    exact ⟨o,e,fun v z=>by rw [d] at z;cases z⟩
  keep:=fun i h h' st k=>st.at fun o e=>k it (by simp) o e
  item:=by
    intro X hP hw hK hc i pins s σ H E I hf st hg
    subst hP hw hK
    obtain ⟨xs,x,hq,hx⟩:=hg
    obtain ⟨its,rv,p,hz⟩:=I.list hq
    obtain ⟨u,hu,ru⟩:=rv.get hx
    obtain ⟨f0,f1,f2,f3,f4,f5⟩:=hf it (by simp)
    refine wpAny_pyNext_list_item st p.isList (x:=u) (by simpa using hu) fun h' st' sb=>?_
    have I1:Inv X pins σ H { s with heap:=h' }:=I.turned (t':=s.toks) (fun b o hb e=>(sb.2 b hb).trans e) f0 f1 f3 f4 f5
    obtain ⟨o,e,c,d⟩:=id st'
    exact ⟨u,rfl,ziG (s:={ s with heap:=h' }) e c d (by decide) ⟨x,H,I1,ru,⟨rfl,fun ys hy=>by rw [I.list_inj hy hq];exact hx⟩,st',fun b hb=>(hf b hb).1⟩⟩
  done:=by
    intro X hP hw hK hc i pins s σ H E I hf st hg
    subst hP hw hK
    obtain ⟨xs,hq,hx⟩:=hg
    obtain ⟨its,rv,p,hz⟩:=I.list hq
    obtain ⟨f0,f1,f2,f3,f4,f5⟩:=hf it (by simp)
    have hl:=rv.length
    exact wpAny_pyNext_list_end (I.ok.hd hc) st p.isList (by simp;omega) fun h' eb=>⟨rfl,I.turned (t':=s.toks) (fun b o hb e=>eb b o hb e) f0 f1 f3 f4 f5⟩
  self:=fun _ _ _ _ _ st h=>wpAny_pyIter_listiter st h
theorem zif {P:Program} {w:World} {K:PySem.W.Frag} {tg:Expr} (a it:Addr):Turn P w K tg (Itt K a) [it] it (fun i h=>h.IsTupleIter it a i) where
  mem:=by simp
  obj:=fun i h st b hb=>by
    have e:b = it:=by simpa using hb
    subst e
    obtain ⟨o,e,c,d⟩:=st
    exact ⟨o,e,fun v z=>by rw [d] at z;cases z⟩
  keep:=fun i h h' st k=>st.at fun o e=>k it (by simp) o e
  item:=by
    intro X hP hw hK hc i pins s σ H E I hf st hg
    subst hP hw hK
    obtain ⟨xs,x,hq,hx⟩:=hg
    obtain ⟨its,rv,p,hz⟩:=I.tuple hq
    obtain ⟨u,hu,ru⟩:=rv.get hx
    obtain ⟨f0,f1,f2,f3,f4,f5⟩:=hf it (by simp)
    refine wpAny_pyNext_tuple_item st (show s.heap.IsTuple a its.toArray from p) (x:=u) (by simpa using hu) fun h' st' sb=>?_
    have I1:Inv X pins σ H { s with heap:=h' }:=I.turned (t':=s.toks) (fun b o hb e=>(sb.2 b hb).trans e) f0 f1 f3 f4 f5
    obtain ⟨o,e,c,d⟩:=id st'
    exact ⟨u,rfl,ziG (s:={ s with heap:=h' }) e c d (by decide) ⟨x,H,I1,ru,⟨rfl,fun ys hy=>by rw [I.tuple_inj hy hq];exact hx⟩,st',fun b hb=>(hf b hb).1⟩⟩
  done:=by
    intro X hP hw hK hc i pins s σ H E I hf st hg
    subst hP hw hK
    obtain ⟨xs,hq,hx⟩:=hg
    obtain ⟨its,rv,p,hz⟩:=I.tuple hq
    obtain ⟨f0,f1,f2,f3,f4,f5⟩:=hf it (by simp)
    have hl:=rv.length
    exact wpAny_pyNext_tuple_end (I.ok.hd hc) st (show s.heap.IsTuple a its.toArray from p) (by simp;omega) fun h' eb=>⟨rfl,I.turned (t':=s.toks) (fun b o hb e=>eb b o hb e) f0 f1 f3 f4 f5⟩
  self:=fun _ _ _ _ _ st h=>wpAny_pyIter_tupleiter st h
theorem zig {P:Program} {w:World} {K:PySem.W.Frag} {tg:Expr} (it:Addr) (lo:Int) (n:Nat):Turn P w K tg (Itr lo n) [it] it (fun i h=>IsRangeIter h it (lo + (i:Nat) * 1) ((n:Int) - (i:Nat)) 1) where
  mem:=by simp
  obj:=fun i h st b hb=>by
    have e:b = it:=by simpa using hb
    subst e
    exact ⟨_,st,fun v z=>by
      have z':Data.fields _ = Data.cell v:=z
      cases z'⟩
  keep:=fun i h h' st k=>k it (by simp) _ st
  item:=by
    intro X hP hw hK hc i pins s σ H E I hf st hg
    subst hP hw hK
    obtain ⟨f0,f1,f2,f3,f4,f5⟩:=hf it (by simp)
    have W:=Walks.range (prog:=X.prog) (w:=X.w) (I.ok.hd hc) it lo 1 n
    refine W.item i s _ _ hg st fun v h' tk hv st' kk=>?_
    obtain ⟨t,rfl⟩:=hv
    have I1:Inv X pins σ H { s with heap:=h',toks:=tk }:=I.turned (fun b o hb e=>kk b o (by simpa using hb) e) f0 f1 f3 f4 f5
    refine ⟨_,rfl,ziG (s:={ s with heap:=h',toks:=tk }) (n:="range_iterator") st' rfl rfl (by decide) ⟨.int (lo + i),H,I1,⟨t,?_⟩,⟨rfl,rfl⟩,st',fun b hb=>(hf b hb).1⟩⟩
    rw [Int.mul_one]
  done:=by
    intro X hP hw hK hc i pins s σ H E I hf st hg
    subst hP hw hK
    obtain ⟨f0,f1,f2,f3,f4,f5⟩:=hf it (by simp)
    exact wpAny_pyNext_range_end (I.ok.hd hc) st (by have:n<=i:=hg;omega) fun h' eb=>⟨rfl,I.turned (t':=s.toks) (fun b o hb e=>eb b o hb e) f0 f1 f3 f4 f5⟩
  self:=fun _ _ _ _ _ st h=>wpAny_pyIter_rangeiter st h
end L2
namespace L2
open PySem PySem.Spec PyProof.Rows
section
variable {X:Cx} {tg:Expr}
noncomputable def zlw (K:PySem.W.Frag) (tl:TE):TI:=fun σ H R=>tl σ H fun x H1=>∃ a,x = .ref a/\(∃ xs,SqL K H1 a xs)/\R (Itl K a) H1
noncomputable def zp7 (K:PySem.W.Frag) (tl:TE):TI:=fun σ H R=>tl σ H fun x H1=>∃ a,x = .ref a/\(∃ xs,SqT K H1 a xs)/\R (Itt K a) H1
theorem zfr {l:Expr} {tl:TE} (hl:PE X l tl):PI X tg l (zlw X.K tl):=by
  intro pins s σ H R I h
  refine thn (hl pins s σ H _ I h) fun v s1 ⟨x,H1,I1,r1,q1⟩=>?_
  obtain ⟨a,e,⟨xs,hq⟩,q⟩:=q1
  subst e
  cases r1
  obtain ⟨its,rv,p,hz⟩:=I1.list hq
  refine wpAny_pyIter_list p.isList ?_
  refine ⟨s1.heap.objs.size,[s1.heap.objs.size],_,_,H1,rfl,I1.kept (t':=s1.toks) fun b o e=>Heap.get?_push_of_some _ e,zja a _,⟨_,Heap.get?_push_size _ rfl,rfl,rfl⟩,fun b hb=>?_,q⟩
  have e:b = s1.heap.objs.size:=by simpa using hb
  subst e
  exact I1.fpOk (Nat.le_refl _) (I1.hok.fresh (Nat.le_refl _))
theorem zjo {l:Expr} {tl:TE} (hl:PE X l tl):PI X tg l (zp7 X.K tl):=by
  intro pins s σ H R I h
  refine thn (hl pins s σ H _ I h) fun v s1 ⟨x,H1,I1,r1,q1⟩=>?_
  obtain ⟨a,e,⟨xs,hq⟩,q⟩:=q1
  subst e
  cases r1
  obtain ⟨its,rv,p,hz⟩:=I1.tuple hq
  refine wpAny_pyIter_tuple (show s1.heap.IsTuple a its.toArray from p) ?_
  refine ⟨s1.heap.objs.size,[s1.heap.objs.size],_,_,H1,rfl,I1.kept (t':=s1.toks) fun b o e=>Heap.get?_push_of_some _ e,zif a _,⟨_,Heap.get?_push_size _ rfl,rfl,rfl⟩,fun b hb=>?_,q⟩
  have e:b = s1.heap.objs.size:=by simpa using hb
  subst e
  exact I1.fpOk (Nat.le_refl _) (I1.hok.fresh (Nat.le_refl _))
theorem zkr {pins:List (Addr × Obj)} {σ:St} {H:Hp} {s:Shared} {R:It->Hp->Prop} {E:Value->Shared->Prop} {lo hi:Int} {t u v:Tok} {tk:Nat} (I:Inv X pins σ H s) (h1:-(2 ^ 62)<=lo) (h2:lo < 2 ^ 62) (h3:-(2 ^ 62)<=hi) (h4:hi < 2 ^ 62)
    (q:R (Itr lo (hi - lo).toNat) H):wpAny (model X.prog X.w) X.A (pyIter (.ref s.heap.objs.size)) (PIE X pins σ tg R) E { s with heap:=s.heap.push { cls:=.type "range",data:=.fields #[.int lo t,.int hi u,.int 1 v] },toks:=tk }:=by
  refine wpAny_pyIter_range (IsRange.new ..) (small_one h1 h2 h3 h4) ?_
  have I1:Inv X pins σ H { s with heap:=s.heap.push { cls:=.type "range",data:=.fields #[.int lo t,.int hi u,.int 1 v] },toks:=tk }:=I.kept fun b o e=>Heap.get?_push_of_some _ e
  refine ⟨(s.heap.push { cls:=.type "range",data:=.fields #[.int lo t,.int hi u,.int 1 v] }).objs.size,[(s.heap.push { cls:=.type "range",data:=.fields #[.int lo t,.int hi u,.int 1 v] }).objs.size],_,_,H,rfl,
    I1.kept (t':=tk) fun b o e=>Heap.get?_push_of_some _ e,zig _ lo (hi - lo).toNat,?_,fun b hb=>?_,q⟩
  · have e1:lo + ((0:Nat):Int) * 1 = lo:=by simp
    have e2:(((hi - lo).toNat:Nat):Int) - ((0:Nat):Int) = Builtin.Range.rangeSize lo hi 1:=by rw [rangeSize_one];split <;> omega
    show IsRangeIter _ _ (lo + ((0:Nat):Int) * 1) ((((hi - lo).toNat:Nat):Int) - ((0:Nat):Int)) 1
    rw [e1,e2]
    exact Heap.get?_push_size _ rfl
  · have e:b = (s.heap.push { cls:=.type "range",data:=.fields #[.int lo t,.int hi u,.int 1 v] }).objs.size:=by simpa using hb
    subst e
    exact I1.fpOk (Nat.le_refl _) (I1.hok.fresh (Nat.le_refl _))
noncomputable def zpj (ta:TA):TI:=fun σ H R=>ta σ H fun vs H1=>∃ j:Int,vs = [.int j]/\-(2 ^ 62)<=j/\j < 2 ^ 62/\R (Itr 0 j.toNat) H1
theorem zjp {a:Expr} {ta:TA} {p pos:Pos} (hg:Gl X "range") (hm:X.mg "range" = none) (ha:PA X [a] ta) (hs:starEach [a] X.env = [(false,eval a X.env)]:=by rfl):PI X tg (.Call (.Name "range" p) [a] [] pos) (zpj ta):=by
  intro pins s σ H R I h
  refine Call_ (zb4 I hg hm boot_range (PyProof.Rows.callWith_type1 (thn (ha pos pins s σ H _ I h) fun us s1 ⟨vs,H1,I1,r1,q1⟩=>?_) hs rfl))
  obtain ⟨j,e,q1,q2,q⟩:=q1
  subst e
  cases r1 with
  | cons r rr=>
    cases rr
    obtain ⟨t,rfl⟩:=r
    exact call_range_1 (zkr I1 (by omega) (by omega) q1 q2 (by simpa using q))
noncomputable def zpK (wi:TI) (g:TG) (tb:TS):TS:=fun D σ H=>wi σ H fun J H1=>∃ W:Nat->Nat->St->Hp->Prop,(∃ m,W 0 m σ H1)/\∀ i m σ H,W i m σ H->
  (J.stop i H/\D.nx σ H)\/(J.go i H/\∃ N:St->Hp->Prop,(∀ σ' H',N σ' H'->∃ m',m' < m/\W (i + 1) m' σ' H')/\∀ x H',J.yld i H x H'->g x σ H' fun σ2 H2=>tb { D with nx:=N,ct:=N,bk:=D.nx } σ2 H2)
noncomputable def zcA (fp:List Addr) (h:Heap):List (Addr × Obj):=fp.filterMap fun b=>(h.get? b).map fun o=>(b,o)
theorem zaq {fp:List Addr} {h:Heap} {b:Addr} {o:Obj} (hb:b ∈ fp) (e:h.get? b = some o):(b,o) ∈ zcA fp h:=List.mem_filterMap.mpr ⟨b,hb,by rw [e];rfl⟩
theorem zju {fp:List Addr} {h:Heap} {p:Addr × Obj} (hp:p ∈ zcA fp h):p.1 ∈ fp/\h.get? p.1 = some p.2:=by
  obtain ⟨b,hb,e⟩:=List.mem_filterMap.mp hp
  cases q:h.get? b with
  | none=>rw [q] at e;cases e
  | some o=>
    rw [q] at e
    have e':(b,o) = p:=Option.some.inj e
    subst e'
    exact ⟨hb,q⟩
theorem Inv.pinned {pins:List (Addr × Obj)} {σ:St} {H:Hp} {s:Shared} {fp:List Addr} (I:Inv X pins σ H s) (hf:∀ b ∈ fp,zcg X pins H b) (ho:∀ b ∈ fp,∃ o,s.heap.get? b = some o/\∀ v,o.data ≠ .cell v):Inv X (pins ++ zcA fp s.heap) σ H s:=
  I.pins_of fun p hp=>(List.mem_append.mp hp).elim (fun z=>I.pin p (List.mem_append_right _ z)) fun z=>by
    obtain ⟨hb,e⟩:=zju z
    obtain ⟨f0,f1,f2,_⟩:=hf p.1 hb
    obtain ⟨o,e',d⟩:=ho p.1 hb
    rw [e] at e';cases e'
    exact ⟨e,f0,f1,f2,d⟩
theorem Inv.unpinned {pins pl:List (Addr × Obj)} {σ:St} {H:Hp} {s:Shared} (I:Inv X (pins ++ pl) σ H s):Inv X pins σ H s:=I.pins_of fun p hp=>I.pin p (List.mem_append_right _ (List.mem_append_left _ hp))
theorem zjm {iter:Expr} {body:List Stmt} {wi:TI} {g:TG} {tb:TS} {pos:Pos} (hp:PassesOwn (model X.prog X.w) X.A X.env X.xe) (hc:X.calm = true) (hi:PI X tg iter wi) (hg:PG X tg g) (hb:PSs X body tb)
    (hs:∀ x,foldedSetIterable iter X.env x = pure x:=by intro _;rfl):PS X (.For tg iter body [] pos) (zpK wi g tb):=by
  intro pins s σ H D I h
  refine wpAny_For (thn (hi pins s σ H _ I h) fun v s1 h1=>thn h1 fun itv s2 h2=>?_) hs
  obtain ⟨it,fp,tn,J,H2,e,I2,T,st2,f2,W,⟨m0,w0⟩,turn⟩:=h2
  subst e
  -- what stays true of the iterator's objects through the loop
  have stat:∀ {H':Hp},(∀ b ∈ fp,H' b = none)->∀ b ∈ fp,zcg X pins H' b:=fun hn b hb=>⟨hn b hb,(f2 b hb).2⟩
  refine codeAny_forLoop_any (fun n s'=>∃ i σ' H',Inv X pins σ' H' s'/\tn i s'.heap/\(∀ b ∈ fp,H' b = none)/\W i n σ' H') ?_ m0 ⟨0,σ,H2,I2,st2,fun b hb=>(f2 b hb).1,w0⟩
  rintro n s3 ⟨i,σ3,H3,I3,st3,fr3,w3⟩
  rcases turn i n σ3 H3 w3 with ⟨stop,qn⟩ | ⟨go,N,hN,step⟩
  · refine wpAny_passesOwn hp (thn (T.done X rfl rfl rfl hc i pins s3 σ3 H3 X.xe I3 (stat fr3) st3 stop) fun r s4 ⟨hr,I4⟩=>?_)
    subst hr
    exact wpAny_execs_nil ⟨σ3,H3,I4,qn⟩
  · refine wpAny_passesOwn hp (thn (T.item X rfl rfl rfl hc i pins s3 σ3 H3 X.xe I3 (stat fr3) st3 go) fun r s4 ⟨u,hr,h4⟩=>?_)
    subst hr
    refine wpAny_passesOwn hp (thn h4 fun _ s5 ⟨x,H5,I5,r5,y5,st5,fr5⟩=>?_)
    have I5':=I5.pinned (stat fr5) (T.obj _ _ st5)
    refine wpAny_passesOwn hp (thn (hg _ s5 σ3 H5 x u _ I5' r5 (step x H5 y5)) fun _ s6 ⟨σ6,H6,I6,q6⟩=>?_)
    refine wpAny_passesOwn hp (thn (hb _ s6 σ6 H6 _ I6 q6) fun f s7 q7=>?_)
    have again:∀ {σ7:St} {H7:Hp},Inv X (pins ++ zcA fp s5.heap) σ7 H7 s7->N σ7 H7->∃ m,m < n/\∃ i σ' H',Inv X pins σ' H' s7/\tn i s7.heap/\(∀ b ∈ fp,H' b = none)/\W i m σ' H':=fun {σ7 H7} I7 n7=>by
      obtain ⟨m',hm,w7⟩:=hN σ7 H7 n7
      refine ⟨m',hm,i + 1,σ7,H7,I7.unpinned,T.keep _ _ _ st5 fun b hb o e=>(I7.pin (b,o) (List.mem_append_right _ (List.mem_append_right _ (zaq hb e)))).1,fun b hb=>?_,w7⟩
      obtain ⟨o,e,d⟩:=T.obj _ _ st5 b hb
      exact (I7.pin (b,o) (List.mem_append_right _ (List.mem_append_right _ (zaq hb e)))).2.1
    cases f with
    | next=>obtain ⟨σ7,H7,I7,n7⟩:=q7;exact again I7 n7
    | cont=>obtain ⟨σ7,H7,I7,n7⟩:=q7;exact again I7 n7
    | brk=>obtain ⟨σ7,H7,I7,q7⟩:=q7;exact ⟨σ7,H7,I7.unpinned,q7⟩
    | ret v=>obtain ⟨x7,σ7,H7,I7,r7,q7⟩:=q7;exact ⟨x7,σ7,H7,I7.unpinned,r7,q7⟩
end
end L2
namespace L2
open PySem PySem.Spec PyProof.Rows
noncomputable abbrev R2:=V->V->Hp->VK->Prop
noncomputable def OpR (X:Cx) (f:Value->Value->Sem Value) (r:R2):Prop:=
  ∀ (pins:List (Addr × Obj)) (s:Shared) (σ:St) (H:Hp) (x y:V) (v u:Value) (Q:VK),Inv X pins σ H s->RelV x v->RelV y u->r x y H Q->
    wpAny (model X.prog X.w) X.A (f v u) (EP X pins σ Q) X.xe s
noncomputable def UnR (X:Cx) (f:Value->Sem Value) (r:V->Hp->VK->Prop):Prop:=
  ∀ (pins:List (Addr × Obj)) (s:Shared) (σ:St) (H:Hp) (x:V) (v:Value) (Q:VK),Inv X pins σ H s->RelV x v->r x H Q->
    wpAny (model X.prog X.w) X.A (f v) (EP X pins σ Q) X.xe s
noncomputable def CallR (X:Cx) (f:Value) (r:List V->Hp->VK->Prop):Prop:=
  ∀ (pins:List (Addr × Obj)) (s:Shared) (σ:St) (H:Hp) (xs:List V) (us:List Value) (Q:VK),Inv X pins σ H s->Vals xs us->r xs H Q->
    wpAny (model X.prog X.w) X.A (call f us) (EP X pins σ Q) X.xe s
noncomputable def tOp (r:R2) (ta tb:TE):TE:=fun σ H Q=>ta σ H fun x H1=>tb σ H1 fun y H2=>r x y H2 Q
noncomputable def tUn (r:V->Hp->VK->Prop) (ta:TE):TE:=fun σ H Q=>ta σ H fun x H1=>r x H1 Q
noncomputable def rI (C:Int->Int->Prop) (g:Int->Int->V):R2:=fun x y H Q=>∃ i j,x = .int i/\y = .int j/\C i j/\Q (g i j) H
noncomputable def rI0 (g:Int->Int->V):R2:=fun x y H Q=>∃ i j,x = .int i/\y = .int j/\Q (g i j) H
noncomputable def rU (g:Int->V):V->Hp->VK->Prop:=fun x H Q=>∃ i,x = .int i/\Q (g i) H
section
variable {X:Cx} {a b c:Expr} {ta tb tc:TE} {pos:Pos}
theorem zlm (ha:PE X a ta) (hb:PE X b tb) {pins:List (Addr × Obj)} {s:Shared} {σ:St} {H:Hp} {R:V->V->Hp->Prop} (I:Inv X pins σ H s)
    (h:ta σ H fun x H1=>tb σ H1 fun y H2=>R x y H2) {Q:Value->Shared->Prop} {f:Value->Value->Sem Value}
    (hf:∀ v u s2 x y H2,Inv X pins σ H2 s2->RelV x v->RelV y u->R x y H2->wpAny (model X.prog X.w) X.A (f v u) Q X.xe s2) :
    wpAny (model X.prog X.w) X.A (eval a X.env) (fun v s₁=>wpAny (model X.prog X.w) X.A (eval b X.env) (fun u s₂=>wpAny (model X.prog X.w) X.A (f v u) Q X.xe s₂) X.xe s₁) X.xe s:=by
  refine thn (ha pins s σ H _ I h) fun v s1 ⟨x,H1,I1,r1,q1⟩=>?_
  refine thn (hb pins s1 σ H1 _ I1 q1) fun u s2 ⟨y,H2,I2,r2,q2⟩=>?_
  exact hf v u s2 x y H2 I2 r1 r2 q2
theorem zpb {op:Operator} {r:R2} (ho:OpR X (binaryOp op) r) (ha:PE X a ta) (hb:PE X b tb):PE X (.BinOp a op b pos) (tOp r ta tb):=by
  intro pins s σ H Q I h
  exact wpAny_BinOp (zlm ha hb I h fun v u s2 x y H2 I2 rx ry q=>ho pins s2 σ H2 x y v u Q I2 rx ry q)
theorem zpa {op:UnaryOp} {r:V->Hp->VK->Prop} (ho:UnR X (unaryOp op) r) (ha:PE X a ta):PE X (.UnaryOp op a pos) (tUn r ta):=by
  intro pins s σ H Q I h
  exact UnaryOp_ (thn (ha pins s σ H _ I h) fun v s1 ⟨x,H1,I1,r1,q1⟩=>ho pins s1 σ H1 x v Q I1 r1 q1)
theorem opI {f:Value->Value->Sem Value} {C:Int->Int->Prop} {g:Int->Int->Int}
    (rule:∀ (i j:Int) (t u:Tok) (s:Shared) (Q:Value->Shared->Prop) (E:Value->Shared->Prop),C i j->Q (.int (g i j) s.toks) { s with toks:=s.toks + 1 }->wpAny (model X.prog X.w) X.A (f (.int i t) (.int j u)) Q E s) :
    OpR X f (rI C fun i j=>.int (g i j)):=by
  intro pins s σ H x y v u Q I rx ry h
  obtain ⟨i,j,rfl,rfl,hc,q⟩:=h
  obtain ⟨t,rfl⟩:=rx
  obtain ⟨t',rfl⟩:=ry
  exact rule i j t t' s _ _ hc ⟨.int (g i j),H,I.tok _,⟨_,rfl⟩,q⟩
theorem znN {f:Value->Value->Sem Value} {g:Int->Int->Int}
    (rule:∀ (i j:Int) (t u:Tok) (s:Shared) (Q:Value->Shared->Prop) (E:Value->Shared->Prop),Q (.int (g i j) s.toks) { s with toks:=s.toks + 1 }->wpAny (model X.prog X.w) X.A (f (.int i t) (.int j u)) Q E s) :
    OpR X f (rI0 fun i j=>.int (g i j)):=by
  intro pins s σ H x y v u Q I rx ry h
  obtain ⟨i,j,rfl,rfl,q⟩:=h
  obtain ⟨t,rfl⟩:=rx
  obtain ⟨t',rfl⟩:=ry
  exact rule i j t t' s _ _ ⟨.int (g i j),H,I.tok _,⟨_,rfl⟩,q⟩
theorem znO {f:Value->Value->Sem Value} {g:Int->Int->Bool}
    (rule:∀ (i j:Int) (t u:Tok) (s:Shared) (Q:Value->Shared->Prop) (E:Value->Shared->Prop),Q (.bool (g i j)) s->wpAny (model X.prog X.w) X.A (f (.int i t) (.int j u)) Q E s) :
    OpR X f (rI0 fun i j=>.bl (g i j)):=by
  intro pins s σ H x y v u Q I rx ry h
  obtain ⟨i,j,rfl,rfl,q⟩:=h
  obtain ⟨t,rfl⟩:=rx
  obtain ⟨t',rfl⟩:=ry
  exact rule i j t t' s _ _ ⟨.bl (g i j),H,I,rfl,q⟩
noncomputable def zqh (i j:Int):Prop:=0<=j/\j<=1000000/\i.natAbs < 2 ^ 64
noncomputable def CMul (i j:Int):Prop:=(-(2 ^ 64) < i/\i < 2 ^ 64)\/(-(2 ^ 64) < j/\j < 2 ^ 64)
theorem CMul.ok {i j:Int} (h:CMul i j):IntMulOk i j:=by
  rcases h with ⟨h1,h2⟩ | ⟨h1,h2⟩
  · exact .of_left (intBits_le_64 h1 h2)
  · exact .of_right (intBits_le_64 h1 h2)
theorem znM:OpR X (binaryOp .Add) (rI0 fun i j=>.int (i + j)):=znN fun _ _ _ _ _ _ _ q=>add_int q
theorem znJ:OpR X (binaryOp .Sub) (rI0 fun i j=>.int (i - j)):=znN fun _ _ _ _ _ _ _ q=>sub_int q
theorem zmh:OpR X (binaryOp .Mod) (rI (fun _ j=>j ≠ 0) fun i j=>.int (i.fmod j)):=opI fun _ _ _ _ _ _ _ hc q=>mod_int' hc q
theorem znK:OpR X (binaryOp .Pow) (rI zqh fun i j=>.int (i ^ j.toNat)):=opI fun _ _ _ _ _ _ _ hc q=>pow_int_small hc.1 hc.2.1 hc.2.2 q
theorem unI {f:Value->Sem Value} {g:Int->Int}
    (rule:∀ (i:Int) (t:Tok) (s:Shared) (Q:Value->Shared->Prop) (E:Value->Shared->Prop),Q (.int (g i) s.toks) { s with toks:=s.toks + 1 }->wpAny (model X.prog X.w) X.A (f (.int i t)) Q E s) :
    UnR X f (rU fun i=>.int (g i)):=by
  intro pins s σ H x v Q I rx h
  obtain ⟨i,rfl,q⟩:=h
  obtain ⟨t,rfl⟩:=rx
  exact rule i t s _ _ ⟨.int (g i),H,I.tok _,⟨_,rfl⟩,q⟩
theorem zm6:UnR X (unaryOp .USub) (rU fun i=>.int (-i)):=unI fun _ _ _ _ _ q=>neg_int q
end
section
variable {X:Cx} {a b c:Expr} {ta tb tc:TE} {pos:Pos}
theorem zjR {pins:List (Addr × Obj)} {σ:St} {H:Hp} {s:Shared} {Q:VK} {k k':Bool} (I:Inv X pins σ H s) (q:Q (.bl k) H) (e:k = k'):EP X pins σ Q (.bool k') s:=by
  subst e
  exact ⟨.bl k,H,I,rfl,q⟩
theorem zpe:OpR X (compareOp .Lt) (rI0 fun i j=>.bl (decide (i < j))):=znO fun _ _ _ _ _ _ _ q=>lt_int q
theorem zpf:OpR X (compareOp .Gt) (rI0 fun i j=>.bl (decide (j < i))):=znO fun _ _ _ _ _ _ _ q=>gt_int q
theorem znL:OpR X (compareOp .Is) (fun x y H Q=>y = .non/\Q (.bl (decide (x = .non))) H):=by
  intro pins s σ H x y v u Q I rx ry h
  obtain ⟨rfl,q⟩:=h
  cases ry
  refine is_none_gen (zjR I q ?_)
  cases x <;> first
    | (cases rx;rfl)
    | (obtain ⟨t,rfl⟩:=rx;rfl)
theorem zme:OpR X (compareOp .IsNot) (fun x y H Q=>y = .non/\Q (.bl (!decide (x = .non))) H):=by
  intro pins s σ H x y v u Q I rx ry h
  obtain ⟨rfl,q⟩:=h
  cases ry
  refine isnot_none_gen (zjR I q ?_)
  cases x <;> first
    | (cases rx;rfl)
    | (obtain ⟨t,rfl⟩:=rx;rfl)
theorem qo (b:Expr) {op:CmpOp} (h:op ≠ .In:=by decide) (h2:op ≠ .NotIn:=by decide):behindInMarks op b = false:=by
  have e1:(op == CmpOp.In) = false:=by cases op <;> first | rfl | exact absurd rfl h
  have e2:(op == CmpOp.NotIn) = false:=by cases op <;> first | rfl | exact absurd rfl h2
  cases b <;> simp [behindInMarks,e1,e2]
theorem zl9 {op:CmpOp} {r:R2} (ho:OpR X (compareOp op) r) (ha:PE X a ta) (hb:PE X b tb) (hm:behindInMarks op b = false):PE X (.Compare a [op] [b] pos) (tOp r ta tb):=by
  intro pins s σ H Q I h
  exact wpAny_Compare1 (zlm ha hb I h fun v u s2 x y H2 I2 rx ry q=>ho pins s2 σ H2 x y v u Q I2 rx ry q) hm
noncomputable def zoV (t:TE):TT:=fun σ H Q=>t σ H fun x H'=>∃ k,x = .bl k/\Q k H'
theorem zlY {op:CmpOp} {r:R2} (ho:OpR X (compareOp op) r) (ha:PE X a ta) (hb:PE X b tb) (hm:behindInMarks op b = false):PT X (.Compare a [op] [b] pos) (zoV (tOp r ta tb)):=by
  intro pins s σ H Q I h
  refine wpAny_isTrue_Compare1 (thn (ha pins s σ H _ I h) fun v s1 ⟨x,H1,I1,r1,q1⟩=>thn (hb pins s1 σ H1 _ I1 q1) fun u s2 ⟨y,H2,I2,r2,q2⟩=>
    thn (ho pins s2 σ H2 x y v u _ I2 r1 r2 q2) fun c s3 ⟨z,H3,I3,r3,k,e,q3⟩=>?_) hm
  subst e
  cases r3
  exact wpAny_truthy_bool ⟨H3,I3,q3⟩
theorem zcE:(sizeLine:Nat) < 2 ^ 63:=by rw [sizeLine_eq];decide
theorem zit:OpR X (binaryOp .Add) (fun x y H Q=>∃ i j,x = .str i/\y = .str j/\i.length + j.length<=sizeLine/\Q (.str (i ++ j)) H):=by
  intro pins s σ H x y v u Q I rx ry h
  obtain ⟨i,j,rfl,rfl,hz,q⟩:=h
  obtain ⟨t,rfl⟩:=rx
  obtain ⟨t',rfl⟩:=ry
  exact add_str (fun t' tk=>⟨.str (i ++ j),H,I.tok _,⟨_,rfl⟩,q⟩) hz
theorem vals1 {x:V} {us:List Value} (r:Vals [x] us):∃ u,us = [u]/\RelV x u:=by
  cases r with
  | cons r1 r2=>cases r2;exact ⟨_,rfl,r1⟩
theorem vals2 {x y:V} {us:List Value} (r:Vals [x,y] us):∃ u w',us = [u,w']/\RelV x u/\RelV y w':=by
  cases r with
  | cons r1 r2=>
    cases r2 with
    | cons r3 r4=>cases r4;exact ⟨_,_,rfl,r1,r3⟩
theorem zll:CallR X (.builtin "abs") (fun xs H Q=>∃ i,xs = [.int i]/\Q (.int (if i < 0 then -i else i)) H):=by
  intro pins s σ H xs us Q I r h
  obtain ⟨i,rfl,q⟩:=h
  obtain ⟨u,rfl,t,rfl⟩:=vals1 r
  exact call_abs_int fun u tk=>⟨.int (if i < 0 then -i else i),H,I.tok _,⟨_,rfl⟩,q⟩
theorem zka (hc:X.calm = true):CallR X (.builtin "max") (fun xs H Q=>∃ i j,xs = [.int i,.int j]/\Q (.int (if j > i then j else i)) H):=by
  intro pins s σ H xs us Q I r h
  obtain ⟨i,j,rfl,q⟩:=h
  obtain ⟨u,w',rfl,⟨t,rfl⟩,⟨t',rfl⟩⟩:=vals2 r
  refine max_two_ints (I.ok.hd hc) fun h' tk k=>⟨_,H,I.kept k,?_,q⟩
  by_cases hj:j > i
  · rw [if_pos hj,if_pos hj];exact ⟨_,rfl⟩
  · rw [if_neg hj,if_neg hj];exact ⟨_,rfl⟩
theorem zj8 (hc:X.calm = true):CallR X (.builtin "min") (fun xs H Q=>∃ i j,xs = [.int i,.int j]/\Q (.int (if j < i then j else i)) H):=by
  intro pins s σ H xs us Q I r h
  obtain ⟨i,j,rfl,q⟩:=h
  obtain ⟨u,w',rfl,⟨t,rfl⟩,⟨t',rfl⟩⟩:=vals2 r
  refine min_two_ints (I.ok.hd hc) fun h' tk k=>⟨_,H,I.kept k,?_,q⟩
  by_cases hj:j < i
  · rw [if_pos hj,if_pos hj];exact ⟨_,rfl⟩
  · rw [if_neg hj,if_neg hj];exact ⟨_,rfl⟩
end
end L2
namespace L2
open PySem PySem.Spec PyProof.Rows
structure ObjM (h:Heap) (x dx C:Addr) (mA:Str->Option Value):Prop where
  obj:h.get? x = some (PySem.W.instObj C dx)
  ns:h.Ns1 dx mA
  ne:dx ≠ x
theorem zjz {h:Heap} {dx:Addr} {mA:Str->Option Value} (n:h.Ns1 dx mA):∃ od,h.get? dx = some od/\∀ name,PySem.W.lookIn name od = some (mA name):=by
  obtain ⟨o,es,ep,ho,hd,hk,_,hm⟩:=n
  refine ⟨o,ho,fun name=>?_⟩
  have e:=hm name
  unfold nsFind findBy at e
  rw [← Array.find?_toList] at e
  unfold PySem.W.lookIn
  rw [hd]
  dsimp only
  split
  · rename_i y q
    rw [q] at e
    exact congrArg some e
  · rename_i q
    rw [q] at e
    have a:es.toList.any (·.refKey) = false:=by
      rw [List.any_eq_false]
      intro y hy
      obtain ⟨z,t,hkey⟩:=hk y (Array.mem_toList_iff.mp hy)
      simp [DictEntry.refKey,hkey]
    have a':¬ es.toList.any (·.refKey) = true:=by rw [a];exact Bool.false_ne_true
    rw [if_neg a']
    exact congrArg some e
theorem ObjM.look {h:Heap} {x dx C:Addr} {mA:Str->Option Value} (I:ObjM h x dx C mA):∃ od,PySem.W.InstAt h x (PySem.W.instObj C dx) C (some od)/\∀ name,PySem.W.lookIn name od = some (mA name):=
  let ⟨od,ho,hl⟩:=zjz I.ns
  ⟨od,⟨I.obj,rfl,rfl,ho⟩,hl⟩
section
variable {prog:Program} {w:World} {A:Around} {E:Value->Shared->Prop} {s:Shared} {K:PySem.W.Frag} {x dx C f:Addr} {mA:Str->Option Value} {name:Str} {v:Value}
theorem get_map {expr:Bool} {Q:Value->Shared->Prop} (X:K.In s.heap) (I:ObjM s.heap x dx C mA) (hg:PySem.W.plainGet K C name = true) (hh:PySem.W.hasDictIn K C = true)
    (ha:PySem.W.findIn K (.ref C) name = some none) (hv:mA name = some v) (hv':PySem.W.handedIn v = true) (h:Q v { s with toks:=s.toks + 1 }) :
    wpAny (model prog w) A (getAttr (.ref x) name expr) Q E s:=by
  obtain ⟨od,J,hl⟩:=I.look
  exact PySem.W.get_value X J (PySem.W.plainGet_of hg).1 (PySem.W.findObj_own hh ha rfl (by rw [hl,hv])) hv' h
theorem zlT {ns:List Str} {Q:Unit->Shared->Prop} (X:K.In s.heap) (I:ObjM s.heap x dx C mA)
    (hs:PySem.W.findIn K (.ref C) "__setattr__" = some (some (.builtin "object.__setattr__"))) (hp:PySem.W.plainOver K C = true) (ht:PySem.W.takerIn K C name = some none) (hh:PySem.W.hasDictIn K C = true)
    (hw:PySem.Within mA ns) (hsz:ns.length<=sizeLine)
    (h:∀ h',ObjM h' x dx C (fun y=>if y = name then some v else mA y)->Heap.SameBut dx s.heap h'->Q () { s with heap:=h',toks:=s.toks + 2 }) :
    wpAny (model prog w) A (setAttr (.ref x) name v) Q E s:=by
  obtain ⟨od,J,hl⟩:=I.look
  refine PySem.W.set_plain X J hs (PySem.W.osa_open (s:={ s with toks:=s.toks + 1 }) (r:=none) X J hp ht fun b=>?_)
  obtain ⟨cd,hc,hd'⟩:=PySem.W.any_some hh
  have hx:s.heap.get? x = some ⟨.ref C,some dx,.plain,#[]⟩:=I.obj
  refine wpAny_bind (wpAny_pure (wpAny_bind (wpAny_bind (wpAny_loadPart hx (wpAny_bind (PySem.W.Looks.here (s:={ s with toks:=s.toks + 1 }) (PySem.W.looks_clsIn X hc) ?_))))))
  rw [hd']
  refine wpAny_pure (a:=some dx) (wpAny_bind (wpAny_pure (wpAny_bind ?_)))
  refine wpAny_nsSet1 (s:={ s with toks:=s.toks + 1 }) I.ns fun h' hn2 hs2=>?_
  obtain ⟨oD,esD,epD,hoD,hdD,hcD⟩:=hn2.count (PySem.Within.cons name v hw)
  refine wpAny_bind (wpAny_lookBehind hoD (by rw [hdD];exact pastItsLine_dict (Nat.le_trans hcD (by rw [List.length_cons];omega))) ?_)
  exact wpAny_pure (h _ ⟨(hs2.2 _ (Ne.symm I.ne)).trans I.obj,hn2,I.ne⟩ hs2)
theorem zkJ {R:Result->Shared->Prop} {vs:List Value} {kw:List (Str × Value)} (X:K.In s.heap) (hm:PySem.W.makesIn K C = true)
    (hi:PySem.W.findIn K (.ref C) "__init__" = some (some (.ref f))) (hf:PySem.W.typeIn K (.ref f) = some (.type "function"))
    (h:codeAny (model prog w) (A.under (.builtin "type.__call__" ⟨.ref C :: vs,kw⟩)) (.call (.ref f) ⟨.ref (s.heap.objs.size + 1) :: vs,kw⟩) (PySem.W.InitBack (s.heap.objs.size + 1) R)
      { s with heap:=(s.heap.push PySem.W.emptyDict).push (PySem.W.instObj C s.heap.objs.size) }) :
    codeAny (model prog w) A (.call (.ref C) ⟨vs,kw⟩) R s:=by
  obtain ⟨hh,g,d,t,os⟩:=s
  exact PySem.W.make_core (PySem.W.makes_of X hm) (PySem.W.looks_findIn X hi) (fun self=>PySem.W.bind_fn X self hf) (.inl rfl) h
end
noncomputable def zV (f:Str) (v:V):List (Str × V)->List (Str × V)
  | []=>[(f,v)]
  | (g,x) :: r=>if g = f then (g,v) :: r else (g,x) :: zV f v r
theorem zei (f g:Str) (v:V):∀ fs:List (Str × V),(zV f v fs).lookup g = if g = f then some v else fs.lookup g
  | []=>by
    show List.lookup g [(f,v)] = _
    by_cases h:g = f
    · have hb:(g == f) = true:=beq_iff_eq.mpr h
      simp only [List.lookup,hb,if_pos h]
    · have hb:(g == f) = false:=beq_eq_false_iff_ne.mpr h
      simp only [List.lookup,hb,if_neg h]
  | (k,x) :: r=>by
    have ih:=zei f g v r
    rw [show zV f v ((k,x) :: r) = (if k = f then (k,v) :: r else (k,x) :: zV f v r) from rfl]
    by_cases hk:k = f
    · rw [if_pos hk]
      by_cases h:g = k
      · have hb:(g == k) = true:=beq_iff_eq.mpr h
        simp only [List.lookup,hb,if_pos (h.trans hk)]
      · have hb:(g == k) = false:=beq_eq_false_iff_ne.mpr h
        simp only [List.lookup,hb,if_neg (fun e:g = f=>h (e.trans hk.symm))]
    · rw [if_neg hk]
      by_cases h:g = k
      · have hb:(g == k) = true:=beq_iff_eq.mpr h
        simp only [List.lookup,hb,if_neg (fun e:g = f=>hk (h.symm.trans e))]
      · have hb:(g == k) = false:=beq_eq_false_iff_ne.mpr h
        simp only [List.lookup,hb]
        exact ih
theorem zdE (f:Str) (v:V):∀ fs:List (Str × V),f ∈ (zV f v fs).map (·.1)/\∀ g,g ∈ fs.map (·.1)->g ∈ (zV f v fs).map (·.1)
  | []=>⟨by simp [zV],fun g h=>by simp at h⟩
  | (k,x) :: r=>by
    obtain ⟨i1,i2⟩:=zdE f v r
    rw [show zV f v ((k,x) :: r) = (if k = f then (k,v) :: r else (k,x) :: zV f v r) from rfl]
    by_cases hk:k = f
    · rw [if_pos hk]
      subst hk
      exact ⟨by simp,fun g h=>by simpa using h⟩
    · rw [if_neg hk]
      refine ⟨?_,fun g h=>?_⟩
      · rw [List.map_cons]
        exact List.mem_cons_of_mem _ i1
      · rw [List.map_cons] at h ⊢
        rcases List.mem_cons.mp h with e | e
        · exact List.mem_cons.mpr (.inl e)
        · exact List.mem_cons_of_mem _ (i2 g e)
theorem zej (f:Str) (v:V):∀ fs:List (Str × V),(zV f v fs).length<=fs.length + 1
  | []=>by simp [zV]
  | (k,x) :: r=>by
    have ih:=zej f v r
    rw [show zV f v ((k,x) :: r) = (if k = f then (k,v) :: r else (k,x) :: zV f v r) from rfl]
    by_cases hk:k = f
    · rw [if_pos hk,List.length_cons,List.length_cons];omega
    · rw [if_neg hk,List.length_cons,List.length_cons];omega
theorem RelO.some_of {v:V} {o:Option Value} (r:RelO (some v) o):∃ u,o = some u/\RelV v u:=by
  cases o with
  | none=>exact (show False from r).elim
  | some u=>exact ⟨u,rfl,r⟩
theorem zjJ {v:V} {u:Value} (r:RelV v u):PySem.W.handedIn u = true:=by
  cases v with
  | non=>cases (show u = Value.none from r);rfl
  | bl b=>cases (show u = Value.bool b from r);rfl
  | int i=>obtain ⟨t,e⟩:=(show ∃ t,u = Value.int i t from r);cases e;rfl
  | str x=>obtain ⟨t,e⟩:=(show ∃ t,u = Value.str x t from r);cases e;rfl
  | byt b=>obtain ⟨t,e⟩:=(show ∃ t,u = Value.bytes b t from r);cases e;rfl
  | flt b=>obtain ⟨t,e⟩:=(show ∃ t,u = Value.float b t from r);cases e;rfl
  | ref a=>cases (show u = Value.ref a from r);rfl
  | ty n=>cases (show u = Value.type n from r);rfl
section
variable {P:Program} {w:World} {H H':Hp} {h h':Heap} {a C dx:Addr} {fs fs':List (Str × V)}
theorem zhY (hok:HOk P w H h) (e:H a = some (.ins C dx fs)):∃ mA,ObjM h a dx C mA/\(∀ f,RelO (fs.lookup f) (mA f))/\PySem.Within mA (fs.map (·.1))/\fs.length<=1000/\H dx = some (.own a):=by
  obtain ⟨d,z,ne,ob,mA,n,r,q⟩:=(show ObjOk P w H h a (.ins C dx fs) from hok a _ e)
  exact ⟨mA,⟨ob,n,ne⟩,r,q,z,d⟩
end
structure Cls (K:PySem.W.Frag) (C:Addr):Prop where
  pg:PySem.W.plainGet K C Str.empty = true
  hd:PySem.W.hasDictIn K C = true
  po:PySem.W.plainOver K C = true
  sa:PySem.W.findIn K (.ref C) "__setattr__" = some (some (.builtin "object.__setattr__"))
theorem Cls.get {K:PySem.W.Frag} {C:Addr} (c:Cls K C) (f:Str):PySem.W.plainGet K C f = true:=c.pg
noncomputable def NoAttr (K:PySem.W.Frag) (C:Addr) (f:Str):Prop:=PySem.W.findIn K (.ref C) f = some none
theorem NoAttr.taker {K:PySem.W.Frag} {C:Addr} {f:Str} (n:NoAttr K C f):PySem.W.takerIn K C f = some none:=by
  unfold PySem.W.takerIn
  rw [show PySem.W.findIn K (.ref C) f = some none from n]
  rfl
structure Con (K:PySem.W.Frag) (C:Addr) (f:Str) (v:V) (u:Value):Prop where
  at_:PySem.W.findIn K (.ref C) f = some (some u)
  rel:RelV v u
  get:PySem.W.specialIn K u "__get__" = some none
  cp:PySem.W.copiedNames.contains f = false
structure Meth (K:PySem.W.Frag) (C:Addr) (m:Str) (f:Addr):Prop where
  at_:PySem.W.findIn K (.ref C) m = some (some (.ref f))
  fn:PySem.W.isFn K (.ref f) = true
  kp:PySem.W.keepIn K (.ref f) = true
section
variable {X:Cx} {pins:List (Addr × Obj)} {σ:St} {H:Hp} {s:Shared} {a C dx:Addr} {fs:List (Str × V)} {f:Str} {v:V} {A:Around} {E:Value->Shared->Prop}
theorem ziH {b:Bool} {Q:Value->Shared->Prop} (I:Inv X pins σ H s) (e:H a = some (.ins C dx fs)) (c:Cls X.K C) (n:NoAttr X.K C f) (l:fs.lookup f = some v)
    (h:∀ u s',Inv X pins σ H s'->RelV v u->Q u s'):wpAny (model X.prog X.w) A (getAttr (.ref a) f b) Q E s:=by
  obtain ⟨mA,O,r,_,_,_⟩:=zhY I.hok e
  obtain ⟨u,hu,ru⟩:=RelO.some_of (v:=v) (o:=mA f) (by rw [← l];exact r f)
  exact get_map I.kIn O (c.get f) c.hd n hu (zjJ ru) (h u _ (I.tok _) ru)
theorem zim {y:V} {u:Value} {Q:Unit->Shared->Prop} (I:Inv X pins σ H s) (e:H a = some (.ins C dx fs)) (c:Cls X.K C) (n:NoAttr X.K C f) (hl:fs.length < 1000) (ry:RelV y u)
    (h:∀ s',Inv X pins σ (upd H a (.ins C dx (zV f y fs))) s'->Q () s'):wpAny (model X.prog X.w) A (setAttr (.ref a) f u) Q E s:=by
  obtain ⟨mA,O,r,wi,_,ho⟩:=zhY I.hok e
  have hz:(fs.map (·.1)).length<=sizeLine:=by rw [List.length_map,sizeLine_eq];omega
  refine zlT I.kIn O c.sa c.po n.taker c.hd wi hz fun h' O' sb=>h _ ?_
  have hd:∃ o,h'.get? dx = some o:=let ⟨o,_,_,e',_⟩:=O'.ns;⟨o,e'⟩
  refine I.write (x:=a) (e:=dx) (by rw [e];exact True.intro) (.inr ho) (fun b q hb z=>(sb.2 b hb).trans z) hd ?_
  refine ⟨by rw [zm O.ne];exact ho,?_,O.ne,O'.obj,_,O'.ns,fun g=>?_,fun g hg=>?_⟩
  · have:=zej f y fs;omega
  · show RelO ((zV f y fs).lookup g) (if g = f then some u else mA g)
    rw [zei]
    by_cases q:g = f
    · rw [if_pos q,if_pos q];exact ry
    · rw [if_neg q,if_neg q];exact r g
  · by_cases q:g = f
    · rw [q];exact (zdE f y fs).1
    · refine (zdE f y fs).2 g (wi g fun z=>hg ?_)
      show (if g = f then some u else mA g) = none
      rw [if_neg q];exact z
theorem Inv.made (I:Inv X pins σ H s):Inv X pins σ (upd (upd H s.heap.objs.size (.own (s.heap.objs.size + 1))) (s.heap.objs.size + 1) (.ins C s.heap.objs.size []))
    { s with heap:=(s.heap.push PySem.W.emptyDict).push (PySem.W.instObj C s.heap.objs.size) }:=by
  have e1:(s.heap.push PySem.W.emptyDict).get? s.heap.objs.size = some PySem.W.emptyDict:=Heap.get?_push_size s.heap rfl
  have e2:((s.heap.push PySem.W.emptyDict).push (PySem.W.instObj C s.heap.objs.size)).get? (s.heap.objs.size + 1) = some (PySem.W.instObj C s.heap.objs.size):=by
    have:=Heap.get?_push_size (s.heap.push PySem.W.emptyDict) (o:=PySem.W.instObj C s.heap.objs.size) rfl
    rwa [Heap.size_push] at this
  have e3:(s.heap.push PySem.W.emptyDict).Ns s.heap.objs.size (fun _=>none):=⟨PySem.W.emptyDict,#[],_,e1,rfl,(fun e he=>absurd he (by simp)),fun _=>rfl⟩
  have I1:=I.laid (a:=s.heap.objs.size) (o:=.own (s.heap.objs.size + 1)) (h':=s.heap.push PySem.W.emptyDict) (t':=s.toks) (fun b u q=>Heap.get?_push_of_some _ q) (Nat.le_refl _) ⟨_,e1⟩
  refine I1.laid (a:=s.heap.objs.size + 1) (o:=.ins C s.heap.objs.size []) (t':=s.toks) (fun b u q=>Heap.get?_push_of_some _ q) (Nat.le_of_eq (Heap.size_push _ _)) ?_
  have ne:s.heap.objs.size ≠ s.heap.objs.size + 1:=Nat.ne_of_lt (Nat.lt_succ_self _)
  refine ⟨by rw [zm ne,zu],Nat.zero_le _,ne,e2,fun _=>none,(Heap.Ns1.of_empty e3).at fun o q=>Heap.get?_push_of_some _ q,fun _=>True.intro,fun y hy=>absurd rfl hy⟩
theorem zm1 {prog:Program} {w:World} {env:Env} {e:Expr} {f:Str} {pos:Pos} {s:Shared} {Q:Value->Shared->Prop} (hb:attributeBase e f env (eval e env) = eval e env)
    (h:wpAny (model prog w) A (eval e env) (fun o s₁=>wpAny (model prog w) A (getAttr o f true) Q E s₁) E s):wpAny (model prog w) A (eval (.Attribute e f pos) env) Q E s:=
  Attribute_any_ h (by rw [arm_eval_Attribute,hb])
end
noncomputable def zpL (K:PySem.W.Frag) (ta:TE) (f:Str):TE:=fun σ H Q=>ta σ H fun x H1=>∃ a C dx fs v,x = .ref a/\H1 a = some (.ins C dx fs)/\Cls K C/\NoAttr K C f/\fs.lookup f = some v/\Q v H1
noncomputable def zpO (K:PySem.W.Frag) (ta tv:TE) (f:Str):TS:=fun D σ H=>tv σ H fun y H1=>ta σ H1 fun x H2=>∃ a C dx fs,x = .ref a/\H2 a = some (.ins C dx fs)/\Cls K C/\NoAttr K C f/\fs.length < 1000 /\
  D.nx σ (upd H2 a (.ins C dx (zV f y fs)))
section
variable {X:Cx} {o e value:Expr} {f:Str} {pos pos' tpos:Pos} {ta tv:TE}
theorem znF (he:PE X e ta) (hb:attributeBase e f X.env (eval e X.env) = eval e X.env):PE X (.Attribute e f pos) (zpL X.K ta f):=by
  intro pins s σ H Q I h
  refine zm1 hb (thn (he pins s σ H _ I h) fun u s1 ⟨x,H1,I1,rx,a,C,dx,fs,v,ex,ea,c,n,l,q⟩=>?_)
  subst ex
  obtain rfl:u = Value.ref a:=rx
  exact ziH I1 ea c n l fun u' s2 I2 ru=>⟨v,H1,I2,ru,q⟩
theorem znv (ha:PE X o ta) (hv:PE X value tv) (hs:swapsWith value (some (.Attribute o f pos')) pos.line X.env = pure false):PS X (.Assign [.Attribute o f pos'] value pos) (zpO X.K ta tv f):=by
  intro pins s σ H D I h
  refine plainObj_wpAny_Assign_Attribute (thn (hv pins s σ H _ I h) fun u s1 ⟨y,H1,I1,ry,q⟩=>thn (ha pins s1 σ H1 _ I1 q) fun ov s2 ⟨x,H2,I2,rx,a,C,dx,fs,ex,ea,c,n,l,q2⟩=>?_) hs
  subst ex
  obtain rfl:ov = Value.ref a:=rx
  exact zim I2 ea c n l ry fun s3 I3=>⟨σ,_,I3,q2⟩
end
section
variable {X:Cx} {pins:List (Addr × Obj)} {σ:St} {H:Hp} {s:Shared} {A:Around} {E:Value->Shared->Prop} {Q:Value->Shared->Prop} {c:Value} {b:Bool}
inductive TyOf (K:PySem.W.Frag) (H:Hp):V->Value->Prop where
  | non:TyOf K H .non (.type "NoneType")
  | bl (x:Bool):TyOf K H (.bl x) (.type "bool")
  | int (i:Int):TyOf K H (.int i) (.type "int")
  | str (x:Str):TyOf K H (.str x) (.type "str")
  | flt (x:UInt64):TyOf K H (.flt x) (.type "float")
  | lst {a:Addr} {xs:List V} (e:H a = some (.lst xs)):TyOf K H (.ref a) (.type "list")
  | frz {a:Addr} {o:Obj} {xs:List V} (e:H a = some (.frz o (.lst xs))):TyOf K H (.ref a) (.type "list")
  | tup {a:Addr} {xs:List V} (e:H a = some (.tup xs)):TyOf K H (.ref a) (.type "tuple")
  | dK {a:Addr} {kvs:List (Key × V)} (e:H a = some (.dK kvs)):TyOf K H (.ref a) (.type "dict")
  | dT {a:Addr} {kvs:List (List Key × V)} (e:H a = some (.dT kvs)):TyOf K H (.ref a) (.type "dict")
  | ins {a C dx:Addr} {fs:List (Str × V)} (e:H a = some (.ins C dx fs)) (cl:Cls K C) (ha:PySem.W.findIn K (.ref C) "__class__" = some (some (.builtin "object.__class__")))
      (hn:PySem.W.specialIn K (.builtin "object.__class__") "__get__" = some (some (.builtin "getset_descriptor.__get__"))) (htk:PySem.W.takesIn K (.builtin "object.__class__") = some true)
      (hm:PySem.W.mroIn K C (.type "object") = some true):TyOf K H (.ref a) (.ref C)
end
end L2
namespace L2
open PySem PySem.Spec PyProof.Rows
structure Room (k:Nat) (A:Around):Prop where
  hd:A.handled = none
  dp:A.depth + 3 * k + 5 < recursionLimit
  un:A.units + 16 * k + 200 < cLine
theorem Room.mono {j k:Nat} {A:Around} (r:Room k A) (h:j<=k):Room j A:=⟨r.hd,by have:=r.dp;omega,by have:=r.un;omega⟩
theorem Room.deeper {k:Nat} {A:Around} (r:Room (k + 1) A) (env:Env):Room k (A.deeper env):=
  ⟨r.hd,by have:=r.dp;show A.depth + 1 + 3 * k + 5 < _;omega,by have:=r.un;show A.units + 3 + 16 * k + 200 < _;omega⟩
theorem Room.in1 {k:Nat} {A:Around} (r:Room (k + 1) A):Room k A.in1:=
  ⟨r.hd,by have:=r.dp;show A.depth + 3 * k + 5 < _;omega,by have:=r.un;show A.units + 1 + 16 * k + 200 < _;omega⟩
theorem ziz {A:Around} {C:Addr} {us:List Value} {kw:List (Str × Value)}:(A.under (.builtin "type.__call__" ⟨.ref C :: us,kw⟩)).depth = A.depth + 1:=by
  first | rfl | simp [Around.under,Code.weight,Code.isCreation,Code.isGuard,Code.isCaller,Code.frames,Code.isFrame,guardIds]
theorem ziy {A:Around} {C:Addr} {us:List Value} {kw:List (Str × Value)}:(A.under (.builtin "type.__call__" ⟨.ref C :: us,kw⟩)).units = A.units + 1:=by
  first | rfl | simp [Around.under,Code.cUnits,Code.frames,Code.isFrame]
theorem Room.make {k:Nat} {A:Around} (r:Room (k + 1) A) (C:Addr) (us:List Value) (kw:List (Str × Value)):Room k (A.under (.builtin "type.__call__" ⟨.ref C :: us,kw⟩)):=
  ⟨r.hd,by have:=r.dp;rw [ziz];omega,by have:=r.un;rw [ziy];omega⟩
theorem Room.depth {k:Nat} {A:Around} (r:Room k A):A.depth < recursionLimit:=by have:=r.dp;omega
theorem Room.units {k:Nat} {A:Around} (r:Room k A):A.units + 64 < cLine:=by have:=r.un;omega
theorem Room.units0 {k:Nat} {A:Around} (r:Room k A):A.units < cLine:=by have:=r.un;omega
noncomputable def zpH:TA:=fun _ H Q=>Q [] H
noncomputable def zo0 (ta:TE) (tr:TA):TA:=fun σ H Q=>ta σ H fun x H1=>tr σ H1 fun xs H2=>Q (x :: xs) H2
section
variable {X:Cx} {e:Expr} {es:List Expr} {te:TE} {t:TA} {pos:Pos}
theorem znI:PA X [] zpH:=fun _ _ _ _ H Q I h=>Calls.spliced_nil ⟨[],H,I,.nil,h⟩
theorem zmc (ha:PE X e te) (hr:PA X es t) (hs:starEach (e :: es) X.env = (false,eval e X.env) :: starEach es X.env:=by rfl):PA X (e :: es) (zo0 te t):=by
  intro pos pins s σ H Q I h
  rw [hs]
  show wpAny _ _ (spliced ((false,eval e X.env) :: backTo pos (starEach es X.env))) _ _ s
  refine Calls.spliced_cons (thn (ha pins s σ H _ I h) fun u s1 ⟨x,H1,I1,r1,q1⟩=>?_)
  exact thn (hr pos pins s1 σ H1 _ I1 q1) fun us s2 ⟨xs,H2,I2,r2,q2⟩=>⟨x :: xs,H2,I2,.cons r1 r2,q2⟩
noncomputable def zpC (t:TA):TE:=fun σ H Q=>t σ H fun xs H1=>xs.length<=sizeLine/\∀ p,H1 p = none->Q (.ref p) (upd H1 p (.tup xs))
noncomputable def zpI (t:TA):TE:=fun σ H Q=>t σ H fun xs H1=>xs.length<=sizeLine/\∀ p,H1 p = none->Q (.ref p) (upd H1 p (.lst xs))
theorem znz {x1} (h:PA X es t):PE X (.Tuple es x1 pos) (zpC t):=by
  intro pins s σ H Q I hq
  refine wpAny_Tuple_spliced (thn (h pos pins s σ H _ I hq) fun us s1 ⟨xs,H1,I1,r,z,q⟩=>⟨by rw [← r.length];exact z,?_⟩)
  have hf:H1 s1.heap.objs.size = none:=I1.hok.fresh (Nat.le_refl _)
  refine ⟨.ref s1.heap.objs.size,upd H1 s1.heap.objs.size (.tup xs),I1.laid (t':=s1.toks) (fun b u e=>Heap.get?_push_of_some _ e) (Nat.le_refl _) ?_,rfl,q _ hf⟩
  exact ⟨z,us,r,⟨_,Heap.get?_push_size _ rfl,rfl,_,rfl⟩,NoDict.new⟩
theorem znD (h:PA X es t):PE X (.List es pos) (zpI t):=by
  intro pins s σ H Q I hq
  refine wpAny_List_spliced (thn (h pos pins s σ H _ I hq) fun us s1 ⟨xs,H1,I1,r,z,q⟩=>⟨by rw [← r.length];exact z,?_⟩)
  have hf:H1 s1.heap.objs.size = none:=I1.hok.fresh (Nat.le_refl _)
  refine ⟨.ref s1.heap.objs.size,upd H1 s1.heap.objs.size (.lst xs),I1.laid (t':=s1.toks) (fun b u e=>Heap.get?_push_of_some _ e) (Nat.le_refl _) ?_,rfl,q _ hf⟩
  exact ⟨z,us,0,r,Heap.get?_push_size _ rfl⟩
end
noncomputable abbrev Sp:=List V->Hp->VK->XK->Prop
noncomputable abbrev CXT:=List Env->Hp->Shared->XK->Value->Shared->Prop
structure Env0 (P:Program) (w:World) (K:PySem.W.Frag) (mg:Str->Option Value) (base:Heap) (A:Around) (outer:List Env) (s:Shared) (H:Hp):Prop where
  frames:A.frames = some outer
  mod:Mod K mg base
  bs:∀ b o,base.get? b = some o->s.heap.get? b = some o/\H b = none
  bsz:base.objs.size<=s.heap.objs.size
  funs:s.heap.FunFrames base outer
  frf:∀ b ∈ frs outer,H b = none
  hok:HOk P w H s.heap
  bare:AllBare s.gens
noncomputable def CE (outer:List Env) (P:Program) (w:World) (H:Hp) (s:Shared) (Q:VK) (u:Value) (s':Shared):Prop:=
  ∃ v H',s'.os = s.os/\AllBare s'.gens/\Un (frs outer) [] H H' s.heap s'.heap/\HOk P w H' s'.heap/\RelV v u/\Q v H'
noncomputable def CR (CX:CXT) (outer:List Env) (P:Program) (w:World) (H:Hp) (s:Shared) (Q:VK) (E:XK) (r:Result) (s':Shared):Prop:=
  match r with
  | .ok (.ret u)=>CE outer P w H s Q u s'
  | .ok _=>False
  | .error e=>CX outer H s E e s'
structure FnOk (P:Program) (w:World) (K:PySem.W.Frag) (mg:Str->Option Value) (base:Heap) (CX:CXT) (k:Nat) (f:Addr) (fd:FuncData) (ps:List Str) (sp:Sp):Prop where
  len:∀ vs H Q E,sp vs H Q E->vs.length = ps.length
  run:∀ (A:Around) (outer:List Env) (s:Shared) (H:Hp) (args:Args) (us:List Value) (vs:List V) (Q:VK) (E:XK),Room k A->Env0 P w K mg base A outer s H->BindsTo s fd args (ps.zip us)->Vals vs us->sp vs H Q E->
    codeAny (model P w) A (.call (.ref f) args) (CR CX outer P w H s Q E) s
theorem FnOk.mono {P:Program} {w:World} {K:PySem.W.Frag} {mg:Str->Option Value} {base:Heap} {CX:CXT} {j k:Nat} {f:Addr} {fd:FuncData} {ps:List Str} {sp:Sp} (F:FnOk P w K mg base CX j f fd ps sp) (h:j<=k) :
    FnOk P w K mg base CX k f fd ps sp:=⟨F.len,fun A outer s H args us vs Q E hr=>F.run A outer s H args us vs Q E (hr.mono h)⟩
theorem Env0.make {P:Program} {w:World} {K:PySem.W.Frag} {mg:Str->Option Value} {base:Heap} {A:Around} {outer:List Env} {s:Shared} {H:Hp} (e:Env0 P w K mg base A outer s H) (C:Addr) (us:List Value) (kw:List (Str × Value)) :
    Env0 P w K mg base (A.under (.builtin "type.__call__" ⟨.ref C :: us,kw⟩)) outer s H:=⟨by first | exact e.frames | (simpa [Around.under,Code.envs,Code.isFrame,pushEnvs] using e.frames),e.mod,e.bs,e.bsz,e.funs,e.frf,e.hok,e.bare⟩
section
variable {X:Cx} {pins:List (Addr × Obj)} {σ:St} {H:Hp} {s s':Shared}
theorem Inv.env0 (I:Inv X pins σ H s):Env0 X.prog X.w X.K X.mg X.base X.A X.stack s H:=
  ⟨I.ok.frames,I.ok.mod,I.bs,Nat.le_trans I.ok.bsz I.sz,I.stack,I.stkFree,I.hok,I.bare⟩
theorem Inv.after {Q:VK} {u:Value} (I:Inv X pins σ H s) (h:CE X.stack X.prog X.w H s Q u s'):EP X pins σ Q u s':=by
  obtain ⟨v,H',os,bare,un,hok,r,q⟩:=h
  obtain ⟨hh,g,d,t,os'⟩:=s'
  obtain rfl:os' = s.os:=os
  exact ⟨v,H',I.call (h':=hh) (g':=g) (d':=d) (t':=t) (ch:=[]) un hok bare (fun b z=>absurd z (by simp)),r,q⟩
end
noncomputable def zlp (sp:Sp) (dvs:List V) (E:XK) (t:TA):TE:=fun σ H Q=>t σ H fun vs H1=>sp (vs ++ dvs) H1 Q E
noncomputable def zoY (C:Addr) (sp:Sp) (dvs:List V) (E:XK) (t:TA):TE:=fun σ H Q=>t σ H fun vs H1=>∀ x dx,H1 x = none->H1 dx = none->dx ≠ x->
  sp (.ref x :: (vs ++ dvs)) (upd (upd H1 dx (.own x)) x (.ins C dx [])) (fun v H2=>v = .non/\Q (.ref x) H2) E
noncomputable def Binds (K:PySem.W.Frag) (fd:FuncData) (ps:List Str) (ds:List Value):Prop:=
  ∀ (s:Shared) (us:List Value),K.In s.heap->(us ++ ds).length = ps.length->BindsTo s fd ⟨us,[]⟩ (ps.zip (us ++ ds))
theorem Binds.all {K:PySem.W.Frag} {fd:FuncData} {ps:List Str} (h:∀ us:List Value,us.length = ps.length->bindArgs fd ⟨us,[]⟩ = pure (ps.zip us)):Binds K fd ps []:=fun s us _ hl=>by
  rw [List.append_nil] at hl ⊢
  exact .of_eq (h us hl)
noncomputable def Passes (CX:CXT) (X:Cx) (E:XK):Prop:=∀ (pins:List (Addr × Obj)) (σ:St) (H:Hp) (s:Shared) (e:Value) (s':Shared),Inv X pins σ H s->CX X.stack H s E e s'->X.xe e s'
section
variable {X:Cx} {CX:CXT} {k:Nat} {f C:Addr} {fd:FuncData} {ps:List Str} {sp:Sp} {dvs:List V} {ds:List Value} {E:XK} {x m:Str} {p pos apos:Pos} {e o:Expr} {es:List Expr} {ta:TE} {t:TA}
theorem znf {pins:List (Addr × Obj)} {σ:St} {H:Hp} {s:Shared} {Q:VK} {us:List Value} {vs:List V} (F:FnOk X.prog X.w X.K X.mg X.base CX k f fd ps sp) (hr:Room k X.A) (hb:Binds X.K fd ps ds) (hd:Vals dvs ds) (hx:Passes CX X E)
    (I:Inv X pins σ H s) (r:Vals vs us) (h:sp (vs ++ dvs) H Q E):wpAny (model X.prog X.w) X.A (call (.ref f) us) (EP X pins σ Q) X.xe s:=by
  have r2:Vals (vs ++ dvs) (us ++ ds):=r.append hd
  have hl:(us ++ ds).length = ps.length:=by rw [← r2.length];exact F.len _ _ _ _ h
  refine wpAny_call (codeAny_mono (F.run X.A X.stack s H ⟨us,[]⟩ (us ++ ds) (vs ++ dvs) Q E hr I.env0 (hb s us I.kIn hl) r2 h) fun r s' hq=>?_)
  cases r with
  | error e=>exact hx pins σ H s e s' I hq
  | ok fl=>
    cases fl with
    | ret u=>exact I.after hq
    | next=>exact False.elim hq
    | brk=>exact False.elim hq
    | cont=>exact False.elim hq
theorem zma (F:FnOk X.prog X.w X.K X.mg X.base CX k f fd ps sp) (hr:Room k X.A) (hg:Gl X x) (hm:X.mg x = some (.ref f)) (hk:PySem.W.keepIn X.K (.ref f) = true) (hb:Binds X.K fd ps ds) (hd:Vals dvs ds) (hx:Passes CX X E)
    (ha:PA X (e :: es) t) (hdb:(x == ("__debug__":Str)) = false:=by decide) (he:starEach (e :: es) X.env = (false,eval e X.env) :: starEach es X.env:=by rfl) (hpl:(backTo pos (starEach es X.env)).any (·.1) = false:=by rfl) :
    PE X (.Call (.Name x p) (e :: es) [] pos) (zlp sp dvs E t):=by
  intro pins s σ H Q I h
  refine wpAny_Call_Name_kw (zfv I hg hm ?_ hdb)
  refine PySem.W.callWith_K (h₀:=X.base) I.ok.mod.kin hk (thn (ha pos pins s σ H _ I h) fun us s1 ⟨vs,H1,I1,r,q⟩=>⟨I1.kIn,?_⟩) he hpl
  exact znf F hr hb hd hx I1 r q
structure Mk (K:PySem.W.Frag) (C f:Addr):Prop where
  makes:PySem.W.makesIn K C = true
  init:PySem.W.findIn K (.ref C) "__init__" = some (some (.ref f))
  fn:PySem.W.isFn K (.ref f) = true
  kp:PySem.W.keepIn K (.ref C) = true
theorem zkm {pins:List (Addr × Obj)} {σ:St} {H:Hp} {s:Shared} {Q:VK} {us:List Value} {vs:List V} (M:Mk X.K C f) (F:FnOk X.prog X.w X.K X.mg X.base CX k f fd ps sp) (hr:Room (k + 1) X.A) (hb:Binds X.K fd ps ds) (hd:Vals dvs ds)
    (hx:Passes CX X E) (I:Inv X pins σ H s) (r:Vals vs us)
    (h:∀ x dx,H x = none->H dx = none->dx ≠ x->sp (.ref x :: (vs ++ dvs)) (upd (upd H dx (.own x)) x (.ins C dx [])) (fun v H2=>v = .non/\Q (.ref x) H2) E) :
    wpAny (model X.prog X.w) X.A (call (.ref C) us) (EP X pins σ Q) X.xe s:=by
  have hq:=h (s.heap.objs.size + 1) s.heap.objs.size (I.hok.fresh (Nat.le_succ _)) (I.hok.fresh (Nat.le_refl _)) (Nat.ne_of_lt (Nat.lt_succ_self _))
  have I2:=Inv.made (C:=C) I
  have r2:Vals (V.ref (s.heap.objs.size + 1) :: (vs ++ dvs)) (Value.ref (s.heap.objs.size + 1) :: (us ++ ds)):=.cons rfl (r.append hd)
  have hl:(Value.ref (s.heap.objs.size + 1) :: us ++ ds).length = ps.length:=by
    have e:=r2.length
    rw [F.len _ _ _ _ hq] at e
    exact e.symm
  refine wpAny_call (zkJ (f:=f) I.kIn M.makes M.init (beq_iff_eq.mp M.fn) (codeAny_mono (F.run _ X.stack _ _ ⟨Value.ref (s.heap.objs.size + 1) :: us,[]⟩ (Value.ref (s.heap.objs.size + 1) :: (us ++ ds)) _ _ E (hr.make C us [])
    (I2.env0.make C us []) (hb _ (Value.ref (s.heap.objs.size + 1) :: us) I2.kIn hl) r2 hq) fun r s' hq'=>?_))
  cases r with
  | error e=>exact hx pins σ _ _ e s' I2 hq'
  | ok fl=>
    cases fl with
    | ret u=>
      obtain ⟨v,H',I3,rv,ev,q3⟩:=I2.after hq'
      subst ev
      exact ⟨rv,⟨V.ref (s.heap.objs.size + 1),H',I3,rfl,q3⟩⟩
    | next=>exact False.elim hq'
    | brk=>exact False.elim hq'
    | cont=>exact False.elim hq'
theorem zl7 (M:Mk X.K C f) (F:FnOk X.prog X.w X.K X.mg X.base CX k f fd ps sp) (hr:Room (k + 1) X.A) (hg:Gl X x) (hm:X.mg x = some (.ref C)) (hb:Binds X.K fd ps ds) (hd:Vals dvs ds) (hx:Passes CX X E)
    (ha:PA X (e :: es) t) (hdb:(x == ("__debug__":Str)) = false:=by decide) (he:starEach (e :: es) X.env = (false,eval e X.env) :: starEach es X.env:=by rfl) (hpl:(backTo pos (starEach es X.env)).any (·.1) = false:=by rfl) :
    PE X (.Call (.Name x p) (e :: es) [] pos) (zoY C sp dvs E t):=by
  intro pins s σ H Q I h
  refine wpAny_Call_Name_kw (zfv I hg hm ?_ hdb)
  refine PySem.W.callWith_K (h₀:=X.base) I.ok.mod.kin M.kp (thn (ha pos pins s σ H _ I h) fun us s1 ⟨vs,H1,I1,r,q⟩=>⟨I1.kIn,?_⟩) he hpl
  exact zkm M F hr hb hd hx I1 r q
end
section
variable {X:Cx} {CX:CXT} {k:Nat} {f C:Addr} {fd:FuncData} {ps ks:List Str} {sp:Sp} {E:XK} {x m:Str} {p pos apos kpos:Pos} {e o:Expr} {es:List Expr} {kws:List Keyword} {te ta:TE} {t tk:TA} {nm:Option Str}
structure KBinds (K:PySem.W.Frag) (fd:FuncData) (ps ks:List Str) (g:List Value->List Value->List Value) (gV:List V->List V->List V):Prop where
  to:∀ (s:Shared) (us ws:List Value),K.In s.heap->(g us ws).length = ps.length->BindsTo s fd ⟨us,ks.zip ws⟩ (ps.zip (g us ws))
  rel:∀ {vs:List V} {us:List Value} {zs:List V} {ws:List Value},Vals vs us->Vals zs ws->Vals (gV vs zs) (g us ws)
end
structure FnScope (N P:List Str) (sc:Scope):Prop where
  kind:sc.kind = .function
  co:sc.isCoroutine = false
  gen:sc.isGenerator = false
  nd:N.Nodup
  pre:N.take P.length = P
  par:∀ x ∈ P,sc.names.lookup x = some .local\/sc.names.lookup x = some .cell
  nofree:∀ y ∈ sc.names,y.2 ≠ .free
theorem zf3 {kindOf:Str->Option NameKind} {x:Str}:∀ {binds:List (Str × Value)} {m:Str->Option Value},(∀ v,(x,v) ∉ binds)->bindL kindOf binds m x = m x
  | [],_,_=>rfl
  | (n,v) :: r,m,h=>by
    unfold bindL
    rw [zf3 fun w hw=>h w (List.mem_cons_of_mem _ hw)]
    split
    · have:x ≠ n:=by rintro rfl;exact h v List.mem_cons_self
      simp [this]
    · rfl
theorem zf5 {kindOf:Str->Option NameKind} {x:Str}:∀ {binds:List (Str × Value)} {m:Str->Option Value},(∀ v,(x,v) ∉ binds)->bindC kindOf binds m x = m x
  | [],_,_=>rfl
  | (n,v) :: r,m,h=>by
    unfold bindC
    rw [zf5 fun w hw=>h w (List.mem_cons_of_mem _ hw)]
    split
    · rfl
    · have:x ≠ n:=by rintro rfl;exact h v List.mem_cons_self
      simp [this]
theorem zf4 {kindOf:Str->Option NameKind} {x:Str} {v:Value}:∀ {P:List Str} {vs:List Value} {i:Nat} {m:Str->Option Value},P.Nodup->P[i]? = some x->vs[i]? = some v->kindOf x = some .local->
    bindL kindOf (P.zip vs) m x = some v
  | [],_,_,_,_,h,_,_=>by simp at h
  | _ :: _,[],_,_,_,_,h,_=>by simp at h
  | p :: P,w :: vs,0,m,nd,h1,h2,hk=>by
    simp at h1 h2;subst h1;subst h2
    show bindL kindOf ((p,w) :: P.zip vs) m p = _
    unfold bindL
    rw [zf3 fun v hv=>(List.nodup_cons.mp nd).1 (List.of_mem_zip hv).1,if_pos hk]
    simp
  | p :: P,w :: vs,i + 1,m,nd,h1,h2,hk=>by
    show bindL kindOf ((p,w) :: P.zip vs) m x = _
    unfold bindL
    exact zf4 (i:=i) (List.nodup_cons.mp nd).2 (by simpa using h1) (by simpa using h2) hk
theorem zf6 {kindOf:Str->Option NameKind} {x:Str} {v:Value}:∀ {P:List Str} {vs:List Value} {i:Nat} {m:Str->Option Value},P.Nodup->P[i]? = some x->vs[i]? = some v->kindOf x ≠ some .local->
    bindC kindOf (P.zip vs) m x = some v
  | [],_,_,_,_,h,_,_=>by simp at h
  | _ :: _,[],_,_,_,_,h,_=>by simp at h
  | p :: P,w :: vs,0,m,nd,h1,h2,hk=>by
    simp at h1 h2;subst h1;subst h2
    show bindC kindOf ((p,w) :: P.zip vs) m p = _
    unfold bindC
    rw [zf5 fun v hv=>(List.nodup_cons.mp nd).1 (List.of_mem_zip hv).1,if_neg hk]
    simp
  | p :: P,w :: vs,i + 1,m,nd,h1,h2,hk=>by
    show bindC kindOf ((p,w) :: P.zip vs) m x = _
    unfold bindC
    exact zf6 (i:=i) (List.nodup_cons.mp nd).2 (by simpa using h1) (by simpa using h2) hk
noncomputable def start (N:List Str) (vs:List V):St:=vs.map some ++ List.replicate (N.length - vs.length) none
noncomputable def zbl (CX:CXT) (P:Program) (w:World) (K:PySem.W.Frag) (mg:Str->Option Value) (base:Heap) (N:List Str) (qual:Str) (scope:Scope) (f:Addr) (cd:Value) (A:Around) (outer:List Env) (s:Shared) (H:Hp) (E:XK):Cx where
  prog:=P
  w:=w
  K:=K
  mg:=mg
  base:=base
  A:=A.deeper (envOfC qual scope s.heap.objs.size f cd)
  N:=N
  s₀:=s
  H₀:=H
  env:=envOfC qual scope s.heap.objs.size f cd
  outer:=outer
  stack:=envOfC qual scope s.heap.objs.size f cd :: outer
  ex:=[]
  calm:=true
  fn:=fun _=>true
  pn:=[]
  xe:=fun e s'=>wpAny (model P w) (A.deeper (envOfC qual scope s.heap.objs.size f cd)) (leaving (envOfC qual scope s.heap.objs.size f cd) e) (fun _ s''=>CX outer H s E e s'') (fun e' s''=>CX outer H s E e' s'') s'
theorem zhk {sc:Scope} {n:Nat} {x:Str} (h:sc.names.lookup x = some .cell):∃ c,(cellsFrom n sc.names []).lookup x = some c:=by
  have q:=PySem.W.cellsFrom_some sc.names n [] (.inl h)
  exact Option.isSome_iff_exists.mp q
theorem zjG {CX:CXT} {P:Program} {w:World} {K:PySem.W.Frag} {mg:Str->Option Value} {base:Heap} {N ps:List Str} {qual:Str} {scope:Scope} {f:Addr} {cd:Value} {A:Around} {outer:List Env} {s s1:Shared} {H:Hp} {E:XK} {us:List Value} {vs:List V}
    (S:FnScope N ps scope) (hd:A.handled = none) (e0:Env0 P w K mg base A outer s H) (hl:vs.length = ps.length) (r:Vals vs us)
    (x:InCallC s s.heap.objs.size (bindL (envOfC qual scope s.heap.objs.size f cd).kindOf (ps.zip us) fun _=>none) (cellsFrom (s.heap.objs.size + 1) scope.names []) (bindC (envOfC qual scope s.heap.objs.size f cd).kindOf (ps.zip us) fun _=>none) s1) :
    Inv (zbl CX P w K mg base N qual scope f cd A outer s H E) [] (start N vs) H s1:=by
  have hpl:ps.length<=N.length:=by have:=congrArg List.length S.pre;rw [List.length_take] at this;omega
  obtain ⟨h1,tk,rfl,hk⟩:=x.done
  have noA:∀ b:Addr,b ∉ (zbl CX P w K mg base N qual scope f cd A outer s H E).ex:=fun b z=>absurd (show b ∈ ([]:List Addr) from z) (by simp)
  refine ⟨⟨e0.mod,S.kind,rfl,rfl,Nat.le_refl _,fun y z c h1 h2=>?_,fun y hy=>?_,fun y c _ h=>?_,fun _=>hd,Around.frames_deeper e0.frames,.inr ⟨rfl,rfl⟩,fun b z=>absurd z (noA b),e0.bs,e0.bsz,fun b _ _=>noA b,fun b z=>absurd z (noA b),e0.funs,e0.frf⟩,
    rfl,e0.bare,Un.kept hk,⟨_,x.toInCall.ns,fun i y v h1 h2 h3=>?_⟩,fun y c h=>⟨_,x.cell y c h⟩,e0.hok.fresh (Nat.le_refl _),fun y c h=>?_,fun p hp=>absurd (show p ∈ ([]:List (Addr × Obj)) from hp) (by simp),e0.hok.kept hk,?_⟩
  · exact name_of_addr x.apart (PySem.mem_of_lookup h1) (PySem.mem_of_lookup h2)
  · have hy:scope.names.lookup y = some .cell\/scope.names.lookup y = some .free:=hy
    rcases hy with hy | hy
    · exact zhk hy
    · exact absurd rfl (S.nofree _ (PySem.mem_of_lookup hy))
  · exact Nat.le_of_lt (x.above y c (PySem.mem_of_lookup h))
  · have hi:i < vs.length:=by
      unfold start at h2
      by_cases hi:i < vs.length
      · exact hi
      · rw [List.getElem?_append_right (by simpa using hi)] at h2
        rw [List.getElem?_replicate] at h2
        split at h2 <;> cases h2
    have ha:vs[i]? = some v:=by
      unfold start at h2
      rw [List.getElem?_append_left (by simpa using hi),List.getElem?_map] at h2
      cases e:vs[i]? with
      | none=>rw [e] at h2;cases h2
      | some a=>rw [e] at h2;cases h2;rfl
    obtain ⟨u,hu,rv⟩:=r.get ha
    have hp:ps[i]? = some y:=by
      rw [← S.pre,List.getElem?_take_of_lt (by omega)];exact h1
    have ndP:ps.Nodup:=by rw [← S.pre];exact S.nd.sublist (List.take_sublist _ _)
    refine ⟨u,rv,?_⟩
    rcases S.par y (List.mem_of_getElem? hp) with k | k
    · exact .inl ⟨k,zf4 ndP hp hu k⟩
    · obtain ⟨c,e⟩:=zhk (n:=s.heap.objs.size + 1) k
      refine .inr ⟨.inl k,c,e,?_⟩
      have q:=x.cell y c e
      rw [zf6 ndP hp hu (by show scope.names.lookup y ≠ _;rw [k];decide)] at q
      exact q
  · exact e0.hok.fresh (Nat.le_of_lt (x.above y c (PySem.mem_of_lookup h)))
  · unfold start
    show _ = N.length
    rw [List.length_append,List.length_map,List.length_replicate]
    omega
theorem zpu {CX:CXT} {P:Program} {w:World} {K:PySem.W.Frag} {mg:Str->Option Value} {base:Heap} {k:Nat} {f:Addr} {name qual:Str} {params:Arguments} {body:List Stmt} {scope:Scope} {dV kV doc pm cdv ct oc:Value} {an od:Option Addr}
    {osl:Array (Option Value)} {N ps:List Str} {sp:Sp} (lk:K.lookup f = some ⟨oc,od,.func (PySem.W.fnOf name qual params body scope dV kV doc pm an cdv ct),osl⟩) (hcd:PySem.W.codeIn K cdv qual = true) (S:FnScope N ps scope)
    (len:∀ vs H Q E,sp vs H Q E->vs.length = ps.length)
    (hbody:∀ (A:Around) (outer:List Env) (s:Shared) (H:Hp) (vs:List V) (Q:VK) (E:XK),Room k (A.deeper (envOfC qual scope s.heap.objs.size f cdv))->sp vs H Q E->
      ∃ t,PSs (zbl CX P w K mg base N qual scope f cdv A outer s H E) body t/\t { nx:=fun _ H'=>Q .non H',rt:=Q } (start N vs) H) :
    FnOk P w K mg base CX (k + 1) f (PySem.W.fnOf name qual params body scope dV kV doc pm an cdv ct) ps sp:=by
  refine ⟨len,fun A outer s H args us vs Q E hr e0 hb r hsp=>?_⟩
  have hl:=len _ _ _ _ hsp
  have KX:K.In s.heap:=e0.mod.kin.keeps fun b o e=>(e0.bs b o e).1
  have lim:s.heap.NoLimit:=e0.mod.nolimit.keeps fun b o e=>(e0.bs b o e).1
  have hkind:∀ y ∈ ps.zip us,scope.names.lookup y.1 = some .local\/(scope.names.lookup y.1 = some .cell/\((cellsFrom (s.heap.objs.size + 1) scope.names []).lookup y.1).isSome = true):=fun ⟨n,v⟩ hy=>by
    rcases S.par n (List.of_mem_zip hy).1 with q | q
    · exact .inl q
    · exact .inr ⟨q,PySem.W.cellsFrom_some _ _ _ (.inl q)⟩
  refine codeAny_call_function hr.depth (KX _ _ lk) rfl S.co S.gen rfl (PySem.W.codeRec_of KX hcd) (hb _ _ _ _ ?_)
  refine wpAny_newFunctionEnv_cells S.kind hkind fun env he s1 x=>?_
  subst he
  refine ⟨lim.keeps x.toInCall.keep,codeAny_func ?_⟩
  obtain ⟨t,ht,hq⟩:=hbody A outer s H vs Q E (hr.deeper _) hsp
  have I:Inv (zbl CX P w K mg base N qual scope f cdv A outer s H E) [] (start N vs) H s1:=zjG S hr.hd e0 hl r x
  refine wpAny_mono (ht [] s1 (start N vs) H _ I hq) (fun fl s' hs=>?_) fun e s' hs=>hs
  have fin:∀ {σ':St} {H':Hp} {v:V} {u:Value},Inv (zbl CX P w K mg base N qual scope f cdv A outer s H E) [] σ' H' s'->RelV v u->Q v H'->CE outer P w H s Q u s':=
    fun {σ' H' v u} J rv q=>⟨v,H',J.os,J.bare,J.base,J.hok,rv,q⟩
  cases fl with
  | ret u=>
    obtain ⟨v,σ',H',J,rv,q⟩:=hs
    exact fin J rv q
  | next=>
    obtain ⟨σ',H',J,q⟩:=hs
    exact fin (v:=V.non) (u:=Value.none) J rfl q
  | brk=>
    obtain ⟨_,_,_,q⟩:=hs
    exact False.elim q
  | cont=>
    obtain ⟨_,_,_,q⟩:=hs
    exact False.elim q
end L2
namespace L2
open PySem PySem.Spec PyProof.Rows
section
variable {X:Cx} {x:Str} {p pos:Pos} {e:Expr} {es:List Expr} {t:TA} {id T:String} {r:List V->Hp->VK->Prop}
noncomputable def tCB (r:List V->Hp->VK->Prop) (t:TA):TE:=fun σ H Q=>t σ H fun vs H1=>r vs H1 Q
theorem zky (hc:CallR X (.builtin id) r) (hg:Gl X x) (hm:X.mg x = none) (hv:bootBuiltins x = some (.builtin id)) (ha:PA X (e :: es) t) (hn:x ≠ "__name__":=by decide) (hdb:(x == ("__debug__":Str)) = false:=by decide)
    (he:starEach (e :: es) X.env = (false,eval e X.env) :: starEach es X.env:=by rfl) (hpl:(backTo pos (starEach es X.env)).any (·.1) = false:=by rfl):PE X (.Call (.Name x p) (e :: es) [] pos) (tCB r t):=by
  intro pins s σ H Q I h
  refine wpAny_Call_Name_kw (zb4 I hg hm hv ?_ hn hdb)
  exact PyProof.Rows.callWith_builtin1 (thn (ha pos pins s σ H _ I h) fun us s1 ⟨vs,H1,I1,r1,q1⟩=>hc pins s1 σ H1 vs us Q I1 r1 q1) he hpl
theorem zfQ (hc:CallR X (.type T) r) (hg:Gl X x) (hm:X.mg x = none) (hv:bootBuiltins x = some (.type T)) (ha:PA X (e :: es) t) (hn:x ≠ "__name__":=by decide) (hdb:(x == ("__debug__":Str)) = false:=by decide)
    (he:starEach (e :: es) X.env = (false,eval e X.env) :: starEach es X.env:=by rfl) (hpl:(backTo pos (starEach es X.env)).any (·.1) = false:=by rfl):PE X (.Call (.Name x p) (e :: es) [] pos) (tCB r t):=by
  intro pins s σ H Q I h
  refine wpAny_Call_Name_kw (zb4 I hg hm hv ?_ hn hdb)
  exact PyProof.Rows.callWith_type1 (thn (ha pos pins s σ H _ I h) fun us s1 ⟨vs,H1,I1,r1,q1⟩=>hc pins s1 σ H1 vs us Q I1 r1 q1) he hpl
end
end L2
namespace HT
open PySem PyProof.Rows
section
variable {prog:Program} {w:World} {A:Around} {E:Value->Shared->Prop} {s:Shared}
theorem zmZ {t b:Addr} {vs ws:List Value} {Q:Value->Shared->Prop} (ht:IsTup s.heap t vs.toArray) (hb:IsTup s.heap b ws.toArray) (hv:vs ≠ [])
    (h1:ws = []->Q (.ref t) s) (h2:ws ≠ []->Q (.ref s.heap.objs.size) { s with heap:=s.heap.push { cls:=.type "tuple",data:=.seq (vs ++ ws).toArray } })
    (hsz:vs.length + ws.length<=sizeLine):wpAny (model prog w) A (binaryOp .Add (.ref t) (.ref b)) Q E s:=by
  obtain ⟨⟨cls,dd,data,sl⟩,ho,hc,n,hd⟩:=id ht
  obtain ⟨⟨cls2,dd2,data2,sl2⟩,ho2,hc2,n2,hd2⟩:=id hb
  simp only at hc hd hc2 hd2
  subst hc hd hc2 hd2
  have e:vs.toArray ++ ws.toArray = (vs ++ ws).toArray:=by simp
  by_cases hw:ws = []
  · exact concat_meets ⟨_,ho,rfl⟩ ⟨_,ho2,rfl⟩ noFill_tuple_add seq_tuple_add PySem.F.slot_tuple_add PySem.F.entry_tuple_add (PySem.F.args_tuple_add_2 _ _)
      (tuple_addW1 t b vs.toArray ws.toArray n n2 dd dd2 sl sl2 (by simpa using hv) (by simp [hw])) ⟨ho,ho2,h1 hw⟩
  · refine concat_meets ⟨_,ho,rfl⟩ ⟨_,ho2,rfl⟩ noFill_tuple_add seq_tuple_add PySem.F.slot_tuple_add PySem.F.entry_tuple_add (PySem.F.args_tuple_add_2 _ _)
      (tuple_addW2 t b vs.toArray ws.toArray n n2 dd dd2 sl sl2 (by simpa using hv) (by simpa using hw) (by rw [List.size_toArray,List.size_toArray];exact hsz)) ⟨ho,ho2,?_⟩
    rw [e]
    exact h2 hw
noncomputable def sIx (n d:Nat):Option Int->Nat
  | none=>d
  | some v=>if v < 0 then (v + (n:Int)).toNat else min v.toNat n
theorem zne (n d:Nat) (hd:d<=n) (o:Option Int):sIx n d o<=n:=by
  cases o with
  | none=>exact hd
  | some v=>
    show (if v < 0 then (v + (n:Int)).toNat else min v.toNat n)<=n
    by_cases hv:v < 0
    · rw [if_pos hv];omega
    · rw [if_neg hv];exact Nat.min_le_right _ _
theorem zh7 (v:Int) (n d:Nat):(if v < 0 then max (v + (n:Int)) 0 else min v (n:Int)) = ((sIx n d (some v):Nat):Int):=by
  show (if v < 0 then max (v + (n:Int)) 0 else min v (n:Int)) = (((if v < 0 then (v + (n:Int)).toNat else min v.toNat n):Nat):Int)
  by_cases hv:v < 0
  · simp only [if_pos hv];omega
  · simp only [if_neg hv];omega
theorem ziX (lo hi:Option Int) (n:Nat):Builtin.Slice.sliceAdjust lo hi 1 (n:Int) = (((sIx n 0 lo:Nat):Int),((sIx n n hi:Nat):Int)):=by
  have h1:¬ ((1:Int) < 0):=by omega
  unfold Builtin.Slice.sliceAdjust
  simp only [h1,if_false]
  refine Prod.ext ?_ ?_
  · cases lo with
    | none=>rfl
    | some v=>exact zh7 v n 0
  · cases hi with
    | none=>rfl
    | some v=>exact zh7 v n n
theorem zis (i j:Nat):Builtin.Slice.slicePlaces (i:Int) (j:Int) 1 = j - i:=by
  unfold Builtin.Slice.slicePlaces
  have h1:(1:Int) > 0:=by omega
  simp only [h1,if_true,Int.ediv_one]
  split <;> omega
theorem zeN {v:Value} {o:Option Int} {Q:Option Int->Shared->Prop} (p:IsPart v o) (h:Q o s):wpAny (model prog w) A (Builtin.Slice.slicePartIndex v) Q E s:=by
  cases p with
  | none=>exact slicePart_none h
  | int i t=>exact slicePart_int h
theorem zbX {sl:Addr} {vl vu:Value} {lo hi:Option Int} {n:Nat} {Q:Int × Int × Nat->Shared->Prop} (hs:s.heap.IsSliceOf sl vl vu .none) (pl:IsPart vl lo) (pu:IsPart vu hi)
    (h:Q (((sIx n 0 lo:Nat):Int),1,sIx n n hi - sIx n 0 lo) s):wpAny (model prog w) A (Builtin.Slice.sliceApplied (.ref sl) (pure (n:Int))) Q E s:=by
  obtain ⟨os,hos,hcs,hds⟩:=id hs
  unfold Builtin.Slice.sliceApplied Builtin.Slice.sliceFields
  refine wpAny_bind (wpAny_bind (wpAny_field hos hds (x:=vl) rfl (wpAny_bind (wpAny_field hos hds (x:=vu) rfl (wpAny_bind (wpAny_field hos hds (x:=.none) rfl (wpAny_pure ?_)))))))
  refine wpAny_bind (slicePart_none ?_)
  show wpAny _ _ (if ((1:Int) == 0) = true then _ else _) _ _ s
  rw [if_neg (by decide)]
  refine wpAny_bind (zeN pl (wpAny_bind (zeN pu (wpAny_bind (wpAny_pure ?_)))))
  show wpAny _ _ (match Builtin.Slice.sliceAdjust lo hi 1 (n:Int) with | (lo,hi)=>pure (lo,(1:Int),Builtin.Slice.slicePlaces lo hi 1)) _ _ s
  rw [ziX lo hi n]
  show wpAny _ _ (pure (((sIx n 0 lo:Nat):Int),(1:Int),Builtin.Slice.slicePlaces ((sIx n 0 lo:Nat):Int) ((sIx n n hi:Nat):Int) 1)) _ _ s
  rw [zis]
  exact wpAny_pure h
theorem zkv (xs:Array Value) (i k:Nat):((List.range k).filterMap fun (m:Nat)=>xs[((i:Int) + (m:Int) * 1).toNat]?).toArray = ((xs.toList.drop i).take k).toArray:=by
  have e:(fun (m:Nat)=>xs[((i:Int) + (m:Int) * 1).toNat]?) = fun m=>xs[i + m]?:=by
    funext m
    have:((i:Int) + (m:Int) * 1).toNat = i + m:=by omega
    rw [this]
  rw [e]
  have:=pick_run xs i k
  rw [List.filterMap_map] at this
  have e2:((fun x=>xs[x]?) ∘ fun x=>i + x) = fun m=>xs[i + m]?:=rfl
  rw [e2] at this
  rw [this]
theorem zef {t sl:Addr} {items:Array Value} {vl vu:Value} {lo hi:Option Int} {Q:Value->Shared->Prop} (ht:IsTup s.heap t items) (hs:s.heap.IsSliceOf sl vl vu .none) (pl:IsPart vl lo) (pu:IsPart vu hi)
    (hw:¬ (sIx items.size 0 lo = 0/\sIx items.size items.size hi = items.size))
    (h:Q (.ref s.heap.objs.size) { s with heap:=s.heap.push { cls:=.type "tuple",data:=.seq ((items.toList.drop (sIx items.size 0 lo)).take (sIx items.size items.size hi - sIx items.size 0 lo)).toArray } })
    (hsz:items.size<=sizeLine):wpAny (model prog w) A (getItem (.ref t) (.ref sl)) Q E s:=by
  have htake:sizeOk (.seq ((items.toList.drop (sIx items.size 0 lo)).take (sIx items.size items.size hi - sIx items.size 0 lo)).toArray):=by
    show ((items.toList.drop (sIx items.size 0 lo)).take (sIx items.size items.size hi - sIx items.size 0 lo)).toArray.size<=sizeLine
    rw [List.size_toArray,List.length_take,List.length_drop,Array.length_toList]
    omega
  have hj:sIx items.size items.size hi<=items.size:=zne _ _ (Nat.le_refl _) hi
  obtain ⟨os,hos,hcs,hds⟩:=id hs
  have hTs:s.TypeIs (.ref sl) "slice":=⟨os,hos,hcs⟩
  unfold getItem
  try with_reducible refine wpAny_holding ?_
  first | refine wpAny_bind (wpAny_pure ?_) | skip
  refine wpAny_bind (wpAny_sequenceKey ht.typeIs (by decide) ?_)
  refine wpAny_bind (wpAny_callSpecial?_slot (name:=Str.ofString "__getitem__") ht.typeIs PyProof.Rows.slot_tuple_getitem
    (wpAny_call_entry PyProof.Rows.slot_tuple_getitem ht.typeIs entry_tuple_getitem ?_ (args_tuple_getitem _ _)))
  show wpAny _ _ (Builtin.Tuple.tupleItemsOf (.ref t) >>= _) _ _ s
  refine wpAny_bind (tupleItemsOf_ ht ?_)
  refine wpAny_bind (wpAny_typeOf hTs ?_)
  rw [if_pos (by decide)]
  refine wpAny_bind (zbX hs pl pu ?_)
  have hno:¬ ((((sIx items.size 0 lo:Nat):Int) == 0 && (1:Int) == 1 && (sIx items.size items.size hi - sIx items.size 0 lo) == items.size) = true):=by
    intro q
    rw [Bool.and_eq_true,Bool.and_eq_true] at q
    have q1:((sIx items.size 0 lo:Nat):Int) = 0:=eq_of_beq q.1.1
    have q2:sIx items.size items.size hi - sIx items.size 0 lo = items.size:=eq_of_beq q.2
    exact hw ⟨by omega,by omega⟩
  show wpAny _ _ (if (((sIx items.size 0 lo:Nat):Int) == 0 && (1:Int) == 1 && (sIx items.size items.size hi - sIx items.size 0 lo) == items.size) = true then _ else _) _ _ s
  rw [if_neg hno,zkv]
  first
    | exact wpAny_bind (m:=Builtin.Tuple.tupleExact _) (wpAny_newObj_type (wpAny_pure ⟨_,rfl,wpAny_pure h⟩) htake)
    | exact wpAny_bind (m:=Builtin.Tuple.tupleExact _) (wpAny_newObj_type (wpAny_bind (wpAny_pure (wpAny_pure ⟨_,rfl,wpAny_pure h⟩))) htake)
    | exact wpAny_bind (wpAny_bind (m:=Builtin.Tuple.tupleExact _) (wpAny_newObj_type (wpAny_pure (wpAny_pure ⟨_,rfl,wpAny_pure h⟩)) htake))
    | exact wpAny_bind (wpAny_bind (m:=Builtin.Tuple.tupleExact _) (wpAny_newObj_type (wpAny_pure ⟨_,rfl,wpAny_pure h⟩) htake))
end
end HT
namespace L2
open PySem PySem.Spec PyProof.Rows
noncomputable abbrev TO:=St->Hp->(Option Int->Hp->Prop)->Prop
noncomputable def PO (X:Cx) (e:Option Expr) (t:TO):Prop:=
  ∀ (pins:List (Addr × Obj)) (s:Shared) (σ:St) (H:Hp) (Q:Option Int->Hp->Prop),Inv X pins σ H s->t σ H Q->
    wpAny (model X.prog X.w) X.A (evalPart e X.env) (fun u s'=>∃ o H',Inv X pins σ H' s'/\IsPart u o/\Q o H') X.xe s
noncomputable def zlN:TO:=fun _ H Q=>Q none H
noncomputable def zoW (t:TE):TO:=fun σ H Q=>t σ H fun x H1=>∃ i,x = .int i/\Q (some i) H1
section
variable {X:Cx} {e:Expr} {te:TE} {lo hi:Option Expr} {tl th:TO} {pos p2:Pos}
theorem zl4:PO X none zlN:=by
  intro pins s σ H Q I h
  rw [evalPart_none]
  exact wpAny_pure ⟨none,H,I,.none,h⟩
theorem zl3 (h:PE X e te):PO X (some e) (zoW te):=by
  intro pins s σ H Q I hw
  rw [evalPart_some]
  refine thn (h pins s σ H _ I hw) fun u s1 ⟨x,H1,I1,r1,q1⟩=>?_
  obtain ⟨i,rfl,q⟩:=q1
  obtain ⟨t,rfl⟩:=r1
  exact ⟨some i,H1,I1,.int i t,q⟩
noncomputable def SlR (X:Cx) (r:V->Option Int->Option Int->Hp->VK->Prop):Prop:=
  ∀ (pins:List (Addr × Obj)) (s:Shared) (σ:St) (H:Hp) (x:V) (v vl vu:Value) (lo hi:Option Int) (sl:Addr) (Q:VK),Inv X pins σ H s->RelV x v->s.heap.IsSliceOf sl vl vu .none->IsPart vl lo->IsPart vu hi->r x lo hi H Q->
    ∃ T id,typeLookup (.type T) "__getitem__" = pure (some (.builtin id))/\s.TypeIs v T/\wpAny (model X.prog X.w) X.A (getItem v (.ref sl)) (EP X pins σ Q) X.xe s
noncomputable def tSl (r:V->Option Int->Option Int->Hp->VK->Prop) (te:TE) (tl th:TO):TE:=fun σ H Q=>te σ H fun x H1=>tl σ H1 fun l H2=>th σ H2 fun u H3=>r x l u H3 Q
theorem zkx {r:V->Option Int->Option Int->Hp->VK->Prop} (hr:SlR X r) (he:PE X e te) (hl:PO X lo tl) (hu:PO X hi th):PE X (.Subscript e (.Slice lo hi none p2) pos) (tSl r te tl th):=by
  intro pins s σ H Q I h
  refine Subscript_ (thn (he pins s σ H _ I h) fun v s1 ⟨x,H1,I1,r1,q1⟩=>?_)
  refine wpAny_Slice (thn (hl pins s1 σ H1 _ I1 q1) fun vl s2 ⟨l,H2,I2,pl,q2⟩=>thn (hu pins s2 σ H2 _ I2 q2) fun vu s3 ⟨u,H3,I3,pu,q3⟩=>?_)
  rw [evalPart_none]
  refine wpAny_pure ?_
  have I4:Inv X pins σ H3 { s3 with heap:=s3.heap.push { cls:=.type "slice",data:=.fields #[vl,vu,.none] } }:=I3.kept (t':=s3.toks) fun b ob q=>Heap.get?_push_of_some _ q
  obtain ⟨T,id,hT,ht,hg⟩:=hr pins { s3 with heap:=s3.heap.push { cls:=.type "slice",data:=.fields #[vl,vu,.none] } } σ H3 x v vl vu l u s3.heap.objs.size Q I4 r1 (Heap.IsSliceOf.new ..) pl pu q3
  show wpAny (model X.prog X.w) X.A (subscriptTail e (.Slice lo hi none p2) v (.ref s3.heap.objs.size)) (EP X pins σ Q) X.xe { s3 with heap:=s3.heap.push { cls:=.type "slice",data:=.fields #[vl,vu,.none] } }
  exact tail_any (ops:=[.ref s3.heap.objs.size,v]) ht hT hg (by with_unfolding_all rfl)
noncomputable def cutV (xs:List V) (lo hi:Option Int):List V:=(xs.drop (HT.sIx xs.length 0 lo)).take (HT.sIx xs.length xs.length hi - HT.sIx xs.length 0 lo)
theorem zem (xs:List V) (lo hi:Option Int):(cutV xs lo hi).length<=xs.length:=by
  unfold cutV
  rw [List.length_take,List.length_drop]
  omega
noncomputable def zpQ (K:PySem.W.Frag):V->Option Int->Option Int->Hp->VK->Prop:=fun x lo hi H Q=>∃ a xs,x = .ref a/\SqT K H a xs /\
  ¬ (HT.sIx xs.length 0 lo = 0/\HT.sIx xs.length xs.length hi = xs.length)/\∀ p,H p = none->Q (.ref p) (upd H p (.tup (cutV xs lo hi)))
theorem znb:SlR X (zpQ X.K):=by
  intro pins s σ H x v vl vu lo hi sl Q I rx hs pl pu h
  obtain ⟨a,xs,rfl,hx,hw,q⟩:=h
  cases rx
  obtain ⟨its,r,ht,hz⟩:=I.tuple hx
  have hlen:its.toArray.size = xs.length:=by rw [List.size_toArray];exact r.length.symm
  refine ⟨"tuple",_,PyProof.Rows.slot_tuple_getitem.lookup,ht.typeIs,?_⟩
  refine HT.zef ht hs pl pu (by rw [hlen];exact hw) ?_ (by rw [hlen];exact hz)
  rw [hlen]
  refine ⟨.ref s.heap.objs.size,_,I.laid (t':=s.toks) (o:=.tup (cutV xs lo hi)) (fun b ob q=>Heap.get?_push_of_some _ q) (Nat.le_refl _) ?_,rfl,q _ (I.hok.fresh (Nat.le_refl _))⟩
  exact ⟨Nat.le_trans (zem xs lo hi) hz,_,(r.drop (HT.sIx xs.length 0 lo)).take (HT.sIx xs.length xs.length hi - HT.sIx xs.length 0 lo),IsTup.new _ _,NoDict.new⟩
noncomputable def zo4 (K:PySem.W.Frag):R2:=fun x y H Q=>∃ a b xs ys,x = .ref a/\y = .ref b/\SqT K H a xs/\SqT K H b ys/\xs ≠ []/\xs.length + ys.length<=sizeLine /\
  (ys = []->Q (.ref a) H)/\(ys ≠ []->∀ p,H p = none->Q (.ref p) (upd H p (.tup (xs ++ ys))))
theorem Vals.nil_iff {xs:List V} {us:List Value} (r:Vals xs us):us = [] ↔ xs = []:=by
  cases r with
  | nil=>simp
  | cons _ _=>simp
theorem zmi:OpR X (binaryOp .Add) (zo4 X.K):=by
  intro pins s σ H x y v u Q I rx ry h
  obtain ⟨a,b,xs,ys,rfl,rfl,ha,hb,hx,hz,q1,q2⟩:=h
  cases rx
  cases ry
  obtain ⟨its,r1,p1,_⟩:=I.tuple ha
  obtain ⟨its2,r2,p2,_⟩:=I.tuple hb
  refine HT.zmZ p1 p2 (fun z=>hx (r1.nil_iff.mp z)) (fun z=>⟨.ref a,H,I,rfl,q1 (r2.nil_iff.mp z)⟩) (fun z=>?_) (by rw [← r1.length,← r2.length];exact hz)
  refine ⟨.ref s.heap.objs.size,_,I.laid (t':=s.toks) (o:=.tup (xs ++ ys)) (fun b ob q=>Heap.get?_push_of_some _ q) (Nat.le_refl _) ?_,rfl,q2 (fun w=>z (r2.nil_iff.mpr w)) _ (I.hok.fresh (Nat.le_refl _))⟩
  exact ⟨by rw [List.length_append];exact hz,_,r1.append r2,IsTup.new _ _,NoDict.new⟩
end
end L2
namespace L2
open PySem PySem.Spec PyProof.Rows
noncomputable def ixN (n:Nat) (i:Int):Option Nat:=if 0<=i then (if i < n then some i.toNat else none) else if -(n:Int)<=i then some (i + n).toNat else none
noncomputable def atI {α:Type} (xs:List α) (i:Int):Option α:=(ixN xs.length i).bind fun j=>xs[j]?
theorem zhX {n:Nat} {i:Int} {j:Nat} (h:ixN n i = some j):seqIndex? i n = some j/\j < n/\-(n:Int)<=i/\i < n:=by
  unfold ixN at h
  by_cases h0:0<=i
  · rw [if_pos h0] at h
    by_cases h1:i < n
    · rw [if_pos h1] at h
      have e:i.toNat = j:=Option.some.inj h
      exact ⟨by rw [seqIndex_of h0 h1,e],by omega,by omega,h1⟩
    · rw [if_neg h1] at h;cases h
  · rw [if_neg h0] at h
    by_cases h1:-(n:Int)<=i
    · rw [if_pos h1] at h
      have e:(i + n).toNat = j:=Option.some.inj h
      exact ⟨by rw [seqIndex_neg (by omega) h1,e],by omega,h1,by omega⟩
    · rw [if_neg h1] at h;cases h
theorem zfF {α:Type} {xs:List α} {i:Int} {v:α} (h:atI xs i = some v):∃ j,seqIndex? i xs.length = some j/\xs[j]? = some v/\j < xs.length/\-(xs.length:Int)<=i/\i < xs.length:=by
  unfold atI at h
  cases e:ixN xs.length i with
  | none=>rw [e] at h;cases h
  | some j=>
    rw [e] at h
    obtain ⟨h1,h2,h3,h4⟩:=zhX e
    exact ⟨j,h1,h,h2,h3,h4⟩
theorem yJ {α:Type} {xs:List α} {j:Nat} {v:α} (h:xs[j]? = some v):atI xs (j:Int) = some v:=by
  have hj:j < xs.length:=(List.getElem?_eq_some_iff.mp h).1
  have e:ixN xs.length (j:Int) = some j:=by
    unfold ixN
    rw [if_pos (by omega),if_pos (by omega)];simp
  unfold atI;rw [e];exact h
noncomputable def zfI (b:Expr):Prop:=∀ o i,subscripted b false o i = operate [o,i] (getItem o i)
noncomputable def IxR (X:Cx) (r:R2):Prop:=
  ∀ (value slice:Expr) (pins:List (Addr × Obj)) (s:Shared) (σ:St) (H:Hp) (x y:V) (v u:Value) (Q:VK),Inv X pins σ H s->RelV x v->RelV y u->r x y H Q->
    subscripted slice false v u = operate [v,u] (getItem v u)->wpAny (model X.prog X.w) X.A (subscriptTail value slice v u) (EP X pins σ Q) X.xe s
noncomputable def MtR (X:Cx) (id:String) (r:V->List V->Hp->VK->Prop):Prop:=
  ∀ (pins:List (Addr × Obj)) (s:Shared) (σ:St) (H:Hp) (x:V) (xs:List V) (v:Value) (us:List Value) (Q:VK),Inv X pins σ H s->RelV x v->Vals xs us->r x xs H Q->
    wpAny (model X.prog X.w) X.A (call (.builtin id) (v :: us)) (EP X pins σ Q) X.xe s
section
variable {X:Cx} {a b:Expr} {ta tb:TE} {pos:Pos}
theorem IxR.or {r r':R2} (h:IxR X r) (h':IxR X r'):IxR X (fun x y H Q=>r x y H Q\/r' x y H Q):=by
  intro value slice pins s σ H x y v u Q I rx ry q hs
  rcases q with q | q
  · exact h value slice pins s σ H x y v u Q I rx ry q hs
  · exact h' value slice pins s σ H x y v u Q I rx ry q hs
theorem zpc {r:R2} (hr:IxR X r) (ha:PE X a ta) (hb:PE X b tb) (hs:zfI b):PE X (.Subscript a b pos) (tOp r ta tb):=by
  intro pins s σ H Q I h
  exact Subscript_ (zlm ha hb I h fun v u s2 x y H2 I2 rx ry q=>hr a b pins s2 σ H2 x y v u Q I2 rx ry q (hs _ _))
noncomputable def znn (K:PySem.W.Frag):R2:=fun x y H Q=>∃ p xs i v,x = .ref p/\y = .int i/\SqL K H p xs/\atI xs i = some v/\Q v H
noncomputable def znl (K:PySem.W.Frag):R2:=fun x y H Q=>∃ p xs i v,x = .ref p/\y = .int i/\SqT K H p xs/\atI xs i = some v/\Q v H
noncomputable def znm:R2:=fun x y H Q=>∃ z i c,x = .str z/\y = .int i/\z.length<=sizeLine/\atI z.cps.toList i = some c/\Q (.str ⟨#[c]⟩) H
theorem zmx:IxR X (znn X.K):=by
  intro value slice pins s σ H x y v u Q I rx ry h hs
  obtain ⟨p,xs,i,z,rfl,rfl,hq,he,q⟩:=h
  cases rx
  obtain ⟨t,rfl⟩:=ry
  obtain ⟨its,r,pl,hz⟩:=I.list hq
  obtain ⟨j,h1,h2,h3,h4,h5⟩:=zfF he
  obtain ⟨w,ew,rw'⟩:=r.get h2
  have hl:=r.length
  have hn:=zcE
  have fin:EP X pins σ Q w s:=⟨z,H,I,rw',q⟩
  by_cases h0:0<=i
  · have hj:i.toNat = j:=by
      rw [seqIndex_of h0 h5] at h1
      exact Option.some.inj h1
    exact item_listR pl.isList h0 (by omega) (by rw [hj];simpa using ew) fin hs
  · have hj:(i + (its.toArray.size:Int)).toNat = j:=by
      rw [seqIndex_neg (by omega) h4] at h1
      rw [List.size_toArray,← hl]
      exact Option.some.inj h1
    exact subscriptTail_builtinR (x:=w) pl.isList.typeIs slot_list_getitem.lookup
      (wpAny_getItem_list_neg (Q:=fun r s'=>r = w/\EP X pins σ Q r s') pl.isList (by omega) (by rw [List.size_toArray] <;> omega) (by omega) (by rw [hj];simpa using ew) ⟨rfl,fin⟩) hs
theorem zn8:IxR X (znl X.K):=by
  intro value slice pins s σ H x y v u Q I rx ry h hs
  obtain ⟨p,xs,i,z,rfl,rfl,hq,he,q⟩:=h
  cases rx
  obtain ⟨t,rfl⟩:=ry
  obtain ⟨its,r,pl,hz⟩:=I.tuple hq
  obtain ⟨j,h1,h2,h3,h4,h5⟩:=zfF he
  obtain ⟨w,ew,rw'⟩:=r.get h2
  have hl:=r.length
  have hn:=zcE
  have fin:EP X pins σ Q w s:=⟨z,H,I,rw',q⟩
  exact subscriptTail_builtinR (x:=w) pl.typeIs slot_tuple_getitem.lookup
    (getItem_tuple (j:=j) (Q:=fun r s'=>r = w/\EP X pins σ Q r s') pl (by omega) (by omega) (by rw [List.size_toArray,← hl];exact h1) (by simpa using ew) ⟨rfl,fin⟩) hs
theorem zn9:IxR X znm:=by
  intro value slice pins s σ H x y v u Q I rx ry h hs
  obtain ⟨z,i,c,rfl,rfl,hz,he,q⟩:=h
  obtain ⟨t,rfl⟩:=rx
  obtain ⟨t',rfl⟩:=ry
  obtain ⟨j,h1,h2,h3,h4,h5⟩:=zfF he
  have hl:z.cps.toList.length = z.length:=by simp [Str.length]
  rw [hl] at h1 h4 h5
  have hn:=zcE
  exact tail_any (typeIs_str s z t) slot_str_getitem.lookup (getItem_str (c:=c) (by
    have e1:decide (i < -(2 ^ 63:Int)) = false:=decide_eq_false (by omega)
    have e2:decide (i ≥ 2 ^ 63) = false:=decide_eq_false (by omega)
    rw [e1,e2,Bool.or_false]) (by rw [h1];simpa using h2) ⟨.str ⟨#[c]⟩,H,I.tok _,⟨_,rfl⟩,q⟩) hs
noncomputable def rIx (K:PySem.W.Frag):R2:=fun x y H Q=>znn K x y H Q\/znl K x y H Q\/znm x y H Q
theorem zoa:IxR X (rIx X.K):=zmx.or (zn8.or zn9)
theorem zix (its:List Value) (n j:Nat) (u:Value):Obj.mapSeq (·.setIfInBounds j u) { cls:=.type "list",data:=.seq its.toArray n } = { cls:=.type "list",data:=.seq (its.set j u).toArray n }:=by
  simp [Obj.mapSeq]
theorem Inv.lst {pins:List (Addr × Obj)} {σ:St} {H:Hp} {s:Shared} {p:Addr} {xs:List V} (I:Inv X pins σ H s) (h:H p = some (.lst xs)) :
    ∃ (its:List Value) (n:Nat),Vals xs its/\s.heap.get? p = some { cls:=.type "list",data:=.seq its.toArray n }/\xs.length<=sizeLine:=by
  obtain ⟨z,its,n,r,e⟩:=I.hok p _ h
  exact ⟨its,n,r,e,z⟩
theorem Inv.lstUpd {pins:List (Addr × Obj)} {σ:St} {H:Hp} {s:Shared} {p:Addr} {xs ys:List V} {its its':List Value} {n n':Nat} {f:Obj->Obj} (I:Inv X pins σ H s) (h:H p = some (.lst xs))
    (ho:s.heap.get? p = some { cls:=.type "list",data:=.seq its.toArray n }) (hf:f { cls:=.type "list",data:=.seq its.toArray n } = { cls:=.type "list",data:=.seq its'.toArray n' }) (r:Vals ys its') (hz:ys.length<=sizeLine) (t:Nat) :
    Inv X pins σ (upd H p (.lst ys)) { s with heap:=s.heap.update p f,toks:=t }:=by
  have e:(s.heap.update p f).get? p = some { cls:=.type "list",data:=.seq its'.toArray n' }:=by
    rw [Heap.get?_update_self f ho (by rw [hf] <;> rfl),hf]
  refine I.write (x:=p) (e:=p) (by rw [h];trivial) (.inl rfl) (fun b u hb q=>(Heap.get?_update_other _ _ (Ne.symm hb)).trans q) ⟨_,e⟩ ?_
  exact ⟨hz,its',n',r,e⟩
noncomputable def zo2:V->V->V->Hp->(Hp->Prop)->Prop:=fun o i v H Q=>∃ p xs k j,o = .ref p/\i = .int k/\H p = some (.lst xs)/\ixN xs.length k = some j/\Q (upd H p (.lst (xs.set j v)))
theorem set_list:zhu X zo2:=by
  intro pins s σ H o i v ov iv u Q I ro ri rv h
  obtain ⟨p,xs,k,j,rfl,rfl,hp,hj,q⟩:=h
  cases ro
  obtain ⟨t,rfl⟩:=ri
  obtain ⟨its,n,r,ho,hz⟩:=I.lst hp
  obtain ⟨h1,h2,h3,h4⟩:=zhX hj
  have hl:=r.length
  have hn:=zcE
  have I':Inv X pins σ (upd H p (.lst (xs.set j v))) { s with heap:=s.heap.update p (Obj.mapSeq (·.setIfInBounds j u)) }:=
    I.lstUpd hp ho (zix its n j u) (r.set rv j) (by rw [List.length_set];exact hz) s.toks
  by_cases h0:0<=k
  · have hk:k.toNat = j:=by
      rw [seqIndex_of h0 h4] at h1
      exact Option.some.inj h1
    exact PySem.W.ki_setAt ho h0 (by omega) (by rw [List.size_toArray,← hl];exact h4) (by rw [hk];exact ⟨_,I',q⟩)
  · have hk:(k + (its.toArray.size:Int)).toNat = j:=by
      rw [seqIndex_neg (by omega) h3] at h1
      rw [List.size_toArray,← hl]
      exact Option.some.inj h1
    exact PySem.W.ki_setBack ho (by omega) (by rw [List.size_toArray,← hl];exact h3) (by omega) (by rw [hk];exact ⟨_,I',q⟩)
theorem zgB (lo hi:Option Int) (n:Nat):(sliceBounds lo hi none n).1 = ((HT.sIx n 0 lo:Nat):Int)/\(sliceBounds lo hi none n).2.1 = ((HT.sIx n n hi:Nat):Int)/\(sliceBounds lo hi none n).2.2 = 1:=by
  refine ⟨?_,?_,rfl⟩
  · cases lo with
    | none=>simp [sliceBounds,HT.sIx]
    | some i=>
      simp only [sliceBounds,HT.sIx,Option.getD_none,show (1:Int) > 0 by decide,if_true]
      by_cases h:i < 0
      · simp only [h,if_true] <;> omega
      · simp only [h,if_false] <;> omega
  · cases hi with
    | none=>simp [sliceBounds,HT.sIx]
    | some i=>
      simp only [sliceBounds,HT.sIx,Option.getD_none,show (1:Int) > 0 by decide,if_true]
      by_cases h:i < 0
      · simp only [h,if_true] <;> omega
      · simp only [h,if_false] <;> omega
theorem zgb (its:List Value) (lo hi:Option Int):slicePick its.toArray lo hi none = ((its.drop (HT.sIx its.length 0 lo)).take (HT.sIx its.length its.length hi - HT.sIx its.length 0 lo)).toArray:=by
  obtain ⟨h1,h2,h3⟩:=zgB lo hi its.toArray.size
  unfold slicePick
  rw [h1,h2,h3]
  simp only [sliceRange_one,pick_run,List.size_toArray] <;> rfl
noncomputable def zpR (K:PySem.W.Frag):V->Option Int->Option Int->Hp->VK->Prop:=fun x lo hi H Q=>∃ a xs,x = .ref a/\SqL K H a xs/\∀ p,H p = none->Q (.ref p) (upd H p (.lst (cutV xs lo hi)))
theorem zlS:SlR X (zpR X.K):=by
  intro pins s σ H x v vl vu lo hi sl Q I rx hs pl pu h
  obtain ⟨a,xs,rfl,hx,q⟩:=h
  cases rx
  obtain ⟨its,r,ht,hz⟩:=I.list hx
  have hlen:=r.length
  refine ⟨"list",_,slot_list_getitem.lookup,ht.isList.typeIs,?_⟩
  refine wpAny_getItem_list_slice ht.isList hs pl pu .none (by simp) ?_ (by rw [List.size_toArray] <;> omega)
  rw [zgb,← hlen]
  refine ⟨.ref s.heap.objs.size,_,I.laid (t':=s.toks) (o:=.lst (cutV xs lo hi)) (fun b ob q=>Heap.get?_push_of_some _ q) (Nat.le_refl _) ?_,rfl,q _ (I.hok.fresh (Nat.le_refl _))⟩
  exact ⟨Nat.le_trans (zem xs lo hi) hz,_,0,(r.drop (HT.sIx xs.length 0 lo)).take (HT.sIx xs.length xs.length hi - HT.sIx xs.length 0 lo),Heap.get?_push_size _ rfl⟩
noncomputable def zcn:V->Bool
  | .non=>true
  | .bl _=>true
  | .int _=>true
  | .str _=>true
  | _=>false
noncomputable def eqV:V->V->Bool
  | .non,.non=>true
  | .bl a,.bl b=>a == b
  | .bl a,.int b=>(if a then 1 else 0) == b
  | .int a,.bl b=>a == (if b then 1 else 0)
  | .int a,.int b=>a == b
  | .str a,.str b=>a == b
  | _,_=>false
theorem zjZ {A:Around} {s:Shared} {y x:V} {u v:Value} (ry:RelV y u) (rx:RelV x v) (fy:zcn y = true) (fx:zcn x = true):SeqAt.EqAt A s u v (eqV y x):=by
  cases y with
  | non=>
    cases ry
    cases x with
    | non=>cases rx;exact SeqAt.EqAt.same _
    | bl b=>cases rx;exact SeqAt.EqAt.none_bool b
    | int b=>obtain ⟨t,rfl⟩:=rx;exact SeqAt.EqAt.none_int b t
    | str b=>obtain ⟨t,rfl⟩:=rx;exact SeqAt.EqAt.none_str b t
    | _=>exact absurd (show false = true from fx) Bool.false_ne_true
  | bl a=>
    cases ry
    cases x with
    | non=>cases rx;exact SeqAt.EqAt.bool_none a
    | bl b=>cases rx;exact SeqAt.EqAt.bool_bool a b
    | int b=>obtain ⟨t,rfl⟩:=rx;exact SeqAt.EqAt.bool_int a b t
    | str b=>obtain ⟨t,rfl⟩:=rx;exact SeqAt.EqAt.bool_str a b t
    | _=>exact absurd (show false = true from fx) Bool.false_ne_true
  | int a=>
    obtain ⟨t',rfl⟩:=ry
    cases x with
    | non=>cases rx;exact SeqAt.EqAt.int_none a t'
    | bl b=>cases rx;exact SeqAt.EqAt.int_bool a t' b
    | int b=>obtain ⟨t,rfl⟩:=rx;exact SeqAt.EqAt.int_int a t' b t
    | str b=>obtain ⟨t,rfl⟩:=rx;exact SeqAt.EqAt.int_str a t' b t
    | _=>exact absurd (show false = true from fx) Bool.false_ne_true
  | str a=>
    obtain ⟨t',rfl⟩:=ry
    cases x with
    | non=>cases rx;exact SeqAt.EqAt.str_none a t'
    | bl b=>cases rx;exact SeqAt.EqAt.str_bool a t' b
    | int b=>obtain ⟨t,rfl⟩:=rx;exact SeqAt.EqAt.str_int a t' b t
    | str b=>obtain ⟨t,rfl⟩:=rx;exact SeqAt.EqAt.str_str a t' b t
    | _=>exact absurd (show false = true from fx) Bool.false_ne_true
  | _=>exact absurd (show false = true from fy) Bool.false_ne_true
theorem zhn:CallR X (.builtin "len") (fun xs H Q=>∃ p ys,xs = [.ref p]/\(SqL X.K H p ys\/SqT X.K H p ys)/\Q (.int ys.length) H):=by
  intro pins s σ H xs us Q I r h
  obtain ⟨p,ys,rfl,hq,q⟩:=h
  obtain ⟨u,rfl,rx⟩:=vals1 r
  cases rx
  have hn:=zcE
  rcases hq with hq | hq
  · obtain ⟨its,r',pl,hz⟩:=I.list hq
    have hlen:=r'.length
    exact Calls.call_len_list pl.isList (by simp only [List.size_toArray] <;> omega) ⟨.int ys.length,H,I.tok _,⟨s.toks + 1,by rw [List.size_toArray,hlen]⟩,q⟩
  · obtain ⟨its,r',pl,hz⟩:=I.tuple hq
    have hlen:=r'.length
    exact len_tuple pl (by simp only [List.size_toArray] <;> omega) ⟨.int ys.length,H,I.tok _,⟨s.toks + 1,by rw [List.size_toArray,hlen]⟩,q⟩
theorem zhm:CallR X (.builtin "len") (fun xs H Q=>∃ z,xs = [.str z]/\z.length<=sizeLine/\Q (.int z.length) H):=by
  intro pins s σ H xs us Q I r h
  obtain ⟨z,rfl,hz,q⟩:=h
  obtain ⟨u,rfl,t,rfl⟩:=vals1 r
  have hn:=zcE
  exact len_str (by omega) ⟨.int z.length,H,I.tok _,⟨_,rfl⟩,q⟩
theorem zhl:CallR X (.type "list") (fun xs H Q=>∃ p ys,xs = [.ref p]/\(SqL X.K H p ys\/SqT X.K H p ys)/\∀ l,H l = none->Q (.ref l) (upd H l (.lst ys))):=by
  intro pins s σ H xs us Q I r h
  obtain ⟨p,ys,rfl,hq,q⟩:=h
  obtain ⟨u,rfl,rx⟩:=vals1 r
  cases rx
  have fin:∀ (its:List Value),Vals ys its->ys.length<=sizeLine->∀ (h':Heap) (c':Nat),(∀ b o',s.heap.get? b = some o'->h'.get? b = some o')->
      h'.get? s.heap.objs.size = some { cls:=.type "list",dict:=none,data:=.seq its.toArray c',slots:=#[] }->EP X pins σ Q (.ref s.heap.objs.size) { s with heap:=h' }:=fun its r' hz h' c' kp e=>
    ⟨.ref s.heap.objs.size,_,I.laid (t':=s.toks) kp (Nat.le_refl _) (show ObjOk X.prog X.w _ h' _ (.lst ys) from ⟨hz,its,c',r',e⟩),rfl,q _ (I.hok.fresh (Nat.le_refl _))⟩
  rcases hq with hq | hq
  · obtain ⟨its,r',pl,hz⟩:=I.list hq
    have hlen:=r'.length
    obtain ⟨o,ho,hc,n,hd⟩:=pl.isList
    exact call_list_seq p (.inl rfl) ho hc hd (fun h' c' kp e=>fin its r' hz h' c' kp e) (by simp only [List.size_toArray] <;> omega)
  · obtain ⟨its,r',pl,hz⟩:=I.tuple hq
    have hlen:=r'.length
    obtain ⟨o,ho,hc,n,hd⟩:=pl
    exact call_list_seq p (.inr rfl) ho hc hd (fun h' c' kp e=>fin its r' hz h' c' kp e) (by simp only [List.size_toArray] <;> omega)
theorem zgd:CallR X (.type "tuple") (fun xs H Q=>∃ p ys,xs = [.ref p]/\((SqL X.K H p ys/\∀ l,H l = none->Q (.ref l) (upd H l (.tup ys)))\/(SqT X.K H p ys/\Q (.ref p) H))):=by
  intro pins s σ H xs us Q I r h
  obtain ⟨p,ys,rfl,h⟩:=h
  obtain ⟨u,rfl,rx⟩:=vals1 r
  cases rx
  rcases h with ⟨hq,q⟩ | ⟨hq,q⟩
  · obtain ⟨its,r',pl,hz⟩:=I.list hq
    have hlen:=r'.length
    refine call_tuple_list pl.isList (fun h' kp=>?_) (by simp only [List.size_toArray] <;> omega)
    have I1:Inv X pins σ H { s with heap:=h' }:=I.kept (t':=s.toks) kp
    have I2:Inv X pins σ (upd H h'.objs.size (.tup ys)) { s with heap:=h'.push { cls:=.type "tuple",data:=.seq its.toArray } }:=
      I1.laid (t':=s.toks) (fun b o e=>Heap.get?_push_of_some _ e) (Nat.le_refl _) (show ObjOk X.prog X.w _ _ _ (.tup ys) from ⟨hz,its,r',IsTup.new _ _,NoDict.new⟩)
    exact ⟨.ref h'.objs.size,_,I2,rfl,q _ (I1.hok.fresh (Nat.le_refl _))⟩
  · obtain ⟨its,r',pl,hz⟩:=I.tuple hq
    exact call_tuple_same pl ⟨.ref p,H,I,rfl,q⟩
noncomputable def tyV (K:PySem.W.Frag) (T:String) (x:V) (H:Hp):Prop:=match x with
  | .str _=>T = "str"
  | .int _=>T = "int"
  | .ref p=>(T = "list"/\∃ xs,SqL K H p xs)\/(T = "tuple"/\∃ o,K.lookup p = some o/\o.cls = .type "tuple"/\o.dict = none) \/
      (T = "dict"/\((∃ kvs,Rd H p (.dK kvs))\/∃ kvs,H p = some (.dT kvs)))\/(T = "set"/\∃ S n,H p = some (.set S n))
  | _=>False
theorem zm7 {pins:List (Addr × Obj)} {σ:St} {H:Hp} {s:Shared} {T:String} {x:V} {v:Value} (I:Inv X pins σ H s) (r:RelV x v) (ty:tyV X.K T x H) :
    s.TypeIs v T/\∀ a,v = .ref a->∃ ob,s.heap.get? a = some ob/\ob.dict = none:=by
  cases x with
  | str z=>
    obtain ⟨t,rfl⟩:=r
    cases (show T = "str" from ty)
    exact ⟨typeIs_str s z t,fun _ e=>nomatch e⟩
  | int i=>
    obtain ⟨t,rfl⟩:=r
    cases (show T = "int" from ty)
    exact ⟨typeIs_int s i t,fun _ e=>nomatch e⟩
  | ref p=>
    cases r
    rcases ty with ⟨rfl,xs,hq⟩ | ⟨rfl,o,hk,hc,hd⟩ | ⟨rfl,hk⟩ | ⟨rfl,S,n,hk⟩
    · obtain ⟨its,_,pl,_⟩:=I.list hq
      refine ⟨pl.isList.typeIs,fun a e=>?_⟩
      cases e
      obtain ⟨o,n,e,c,hd,_⟩:=pl
      exact ⟨o,e,hd⟩
    · refine ⟨⟨o,I.kIn p o hk,hc⟩,fun a e=>?_⟩
      cases e
      exact ⟨o,I.kIn _ o hk,hd⟩
    · have z:∃ o,s.heap.get? p = some o/\o.ExactDict:=by
        rcases hk with ⟨kvs,hk⟩ | ⟨kvs,hk⟩
        · obtain ⟨_,_,_,_,o,_,_,e,ex,_⟩:=(show ObjOk X.prog X.w H s.heap p (.dK kvs) from hk.ok I.hok)
          exact ⟨o,e,ex⟩
        · obtain ⟨_,_,_,_,o,_,_,e,ex,_⟩:=I.hok p _ hk
          exact ⟨o,e,ex⟩
      obtain ⟨o,e,ex⟩:=z
      refine ⟨⟨o,e,ex.1⟩,fun a e2=>?_⟩
      cases e2
      exact ⟨o,e,ex.2.1⟩
    · obtain ⟨o,_,_,_,e,ex,_⟩:=I.hok p _ hk
      refine ⟨⟨o,e,ex.1⟩,fun a e2=>?_⟩
      cases e2
      exact ⟨o,e,ex.2.1⟩
  | _=>exact False.elim ty
noncomputable def tBM (K:PySem.W.Frag) (T:String) (r:V->List V->Hp->VK->Prop) (to:TE) (t:TA):TE:=fun σ H Q=>to σ H fun x H1=>tyV K T x H1/\t σ H1 fun xs H2=>r x xs H2 Q
variable {o e:Expr} {es:List Expr} {to:TE} {t:TA} {name:Str} {apos cpos:Pos} {T id:String} {r:V->List V->Hp->VK->Prop}
theorem zgh (pa:PlainAttrs T) (slot:Slot T name id) (hty:typeOf (.builtin id) = pure (.type "method_descriptor")) (hm:MtR X id r) (ho:PE X o to) (ha:PA X (e :: es) t)
    (hbase:attributeBase o name X.env (eval o X.env) = eval o X.env:=by rfl)
    (hfew:((backTo cpos (starEach (e :: es) X.env)).all (fun x=>!x.1) && (backToKw cpos (keywordEach [] X.env)).all (fun x=>x.1.isSome)
      && decide ((e :: es).length + ([]:List Keyword).length + (if ([]:List Keyword).isEmpty then 0 else 1) < 30)) = true:=by rfl)
    (hline:(apos.endLine == cpos.line) = true:=by rfl) (hs:starEach (e :: es) X.env = (false,eval e X.env) :: starEach es X.env:=by rfl) (hplain:(backTo cpos (starEach es X.env)).any (·.1) = false:=by rfl) :
    PE X (.Call (.Attribute o name apos) (e :: es) [] cpos) (tBM X.K T r to t):=by
  intro pins s σ H Q I h
  refine wpAny_Call_method_late hbase hfew hline rfl (thn (ho pins s σ H _ I h) fun v s1 ⟨x,H1,I1,r1,ty,q1⟩=>?_)
  obtain ⟨h1,h2⟩:=zm7 I1 r1 ty
  refine ⟨T,id,pa,slot,hty,h1,h2,?_⟩
  have hA:=ha cpos pins s1 σ H1 _ I1 q1
  rw [hs] at hA ⊢
  refine Calls.callWith_builtin (by show (false || (backTo cpos (starEach es X.env)).any (·.1)) = false;rw [hplain] <;> rfl) (Calls.evalArgs_plain ?_)
  exact thn hA fun us s2 ⟨vs,H2,I2,r2,q2⟩=>hm pins s2 σ H2 x vs v us Q I2 r1 r2 q2
end
end L2
namespace L2
open PySem PySem.Spec PyProof.Rows
noncomputable def MtM (X:Cx) (id:String) (r:V->List V->Hp->VK->Prop):Prop:=
  ∀ (pins:List (Addr × Obj)) (s:Shared) (σ:St) (H:Hp) (x:V) (xs:List V) (v:Value) (us:List Value) (Q:VK),Inv X pins σ H s->RelV x v->Vals xs us->r x xs H Q->
    wpAny (model X.prog X.w) X.A (call (.builtin id) (v :: us)) (EP X pins σ Q) X.xe s
theorem Vals.one:∀ {x:V} {us:List Value},Vals [x] us->∃ u,us = [u]/\RelV x u
  | _,_,.cons r .nil=>⟨_,rfl,r⟩
theorem Vals.two:∀ {x y:V} {us:List Value},Vals [x,y] us->∃ u v,us = [u,v]/\RelV x u/\RelV y v
  | _,_,_,.cons r (.cons q .nil)=>⟨_,_,rfl,r,q⟩
theorem Vals.zero:∀ {us:List Value},Vals [] us->us = []
  | _,.nil=>rfl
theorem Vals.eraseIdx:∀ {xs:List V} {us:List Value} (i:Nat),Vals xs us->Vals (xs.eraseIdx i) (us.eraseIdx i)
  | _,_,_,.nil=>.nil
  | _,_,0,.cons _ t=>t
  | _,_,i + 1,.cons r t=>.cons r (Vals.eraseIdx i t)
theorem Vals.rep {xs:List V} {us:List Value} (h:Vals xs us):∀ k:Nat,Vals (List.replicate k xs).flatten (List.replicate k us).flatten
  | 0=>.nil
  | k + 1=>by
    rw [List.replicate_succ,List.replicate_succ,List.flatten_cons,List.flatten_cons]
    exact Vals.append h (Vals.rep h k)
theorem foldl_rep (its:List Value):∀ (k:Nat) (acc:List Value),
    List.foldl (fun x1 x2=>x1 ++ x2) acc.toArray (List.replicate k its.toArray) = (acc ++ (List.replicate k its).flatten).toArray
  | 0,acc=>by simp
  | k + 1,acc=>by
    have e:acc.toArray ++ its.toArray = (acc ++ its).toArray:=by simp
    have e2:(acc ++ its) ++ (List.replicate k its).flatten = acc ++ (List.replicate (k + 1) its).flatten:=by
      rw [List.replicate_succ,List.flatten_cons,List.append_assoc]
    rw [← e2,← foldl_rep its k (acc ++ its),← e,List.replicate_succ,List.foldl_cons]
section
variable {X:Cx} {pins:List (Addr × Obj)} {σ:St} {H:Hp} {s:Shared} {l b:Addr} {xs ys zs:List V}
theorem Inv.lset {its its':List Value} {n:Nat} {f:Array Value->Array Value} {t':Nat} (I:Inv X pins σ H s) (hH:H l = some (.lst xs))
    (e:s.heap.get? l = some { cls:=.type "list",data:=.seq its.toArray n }) (hf:f its.toArray = its'.toArray) (hv:Vals ys its') (hz:ys.length<=sizeLine) :
    Inv X pins σ (upd H l (.lst ys)) { s with heap:=s.heap.update l (Obj.mapSeq f),toks:=t' }:=by
  have q:=PySem.IsL.update e f
  rw [hf] at q
  refine I.write (x:=l) (e:=l) (by rw [hH];exact trivial) (.inl rfl) (fun b' u hb hu=>(Heap.get?_update_other s.heap (Obj.mapSeq f) (Ne.symm hb)).trans hu) ⟨_,q⟩ ?_
  exact ⟨hz,its',_,hv,q⟩
theorem Inv.lnew {its:List Value} {t':Nat} (I:Inv X pins σ H s) (hv:Vals ys its) (hz:ys.length<=sizeLine) :
    Inv X pins σ (upd H s.heap.objs.size (.lst ys)) { s with heap:=s.heap.push { cls:=.type "list",data:=.seq its.toArray },toks:=t' }:=
  I.laid (fun _ _ q=>Heap.get?_push_of_some _ q) (Nat.le_refl _) ⟨hz,its,0,hv,Heap.get?_push_size _ rfl⟩
theorem Inv.fresh (I:Inv X pins σ H s):H s.heap.objs.size = none:=I.hok.fresh (Nat.le_refl _)
theorem Inv.lstM (I:Inv X pins σ H s) (hH:H l = some (.lst xs)):xs.length<=sizeLine/\∃ (its:List Value) (n:Nat),Vals xs its/\xs.length = its.length/\s.heap.get? l = some { cls:=.type "list",data:=.seq its.toArray n }:=by
  obtain ⟨z,its,n,r,e⟩:=I.hok l _ hH
  exact ⟨z,its,n,r,r.length,e⟩
theorem zgO {n:Nat} (h:n<=sizeLine):Builtin.List.listTooLong n = false:=by
  unfold Builtin.List.listTooLong
  exact decide_eq_false (by omega)
end
section
variable {X:Cx}
noncomputable def zfo:V->List V->Hp->VK->Prop:=fun x vs H Q=>∃ l xs y,x = .ref l/\vs = [y]/\H l = some (.lst xs)/\xs.length < sizeLine/\Q .non (upd H l (.lst (xs ++ [y])))
theorem zaQ:MtM X "list.append" zfo:=by
  intro pins s σ H x vs v us Q I rx rv h
  obtain ⟨l,xs,y,rfl,rfl,hH,hz,q⟩:=h
  cases rx
  obtain ⟨u,rfl,ru⟩:=rv.one
  obtain ⟨z,its,n,r,hl,e⟩:=I.lstM hH
  refine call_meets F.slot_list_append ⟨_,e,rfl⟩ F.entry_list_append (F.args_list_append_2 _ _) (PySem.list_append l its.toArray n u (by rw [List.size_toArray];omega)) ⟨e,?_⟩
  refine ⟨.non,_,I.lset (its':=its ++ [u]) hH e (by simp) (r.append (.cons ru .nil)) ?_,rfl,q⟩
  rw [List.length_append,List.length_singleton]
  omega
theorem len_rep {α:Type} (xs:List α) (k:Nat):(List.replicate k xs).flatten.length = k * xs.length:=by
  induction k with
  | zero=>simp
  | succ k ih=>rw [List.replicate_succ,List.flatten_cons,List.length_append,ih,Nat.succ_mul,Nat.add_comm]
end
section
variable {prog:Program} {w:World} {A:Around} {E:Value->Shared->Prop} {s:Shared}
theorem zjc (its its2:List Value) (a c:Nat):its.toArray.extract 0 a ++ its2.toArray ++ its.toArray.extract c its.toArray.size = (its.take a ++ its2 ++ its.drop c).toArray:=by
  apply Array.toList_inj.mp
  first
    | (simp
       exact List.take_of_length_le (by simp))
    | simp [List.take_of_length_le]
    | simp
theorem ziV {a c n:Nat} (hac:a<=c) (hc:c<=n):sliceBounds (some (a:Int)) (some (c:Int)) none n = ((a:Int),(c:Int),1):=by
  simp only [sliceBounds,Option.getD_none]
  have h1:¬ ((a:Int) < 0):=by omega
  have h2:¬ ((c:Int) < 0):=by omega
  simp only [h1,h2,if_false,show (1:Int) > 0 by decide,if_true]
  congr 1
  · omega
  · congr 1;omega
set_option maxRecDepth 100000 in
theorem zgc {l b sl:Addr} {items new:Array Value} {n:Nat} {vl vu:Value} {a c:Nat} {Q:Unit->Shared->Prop}
    (e:s.heap.get? l = some { cls:=.type "list",data:=.seq items n }) (hb:s.heap.IsList b new) (hne:l ≠ b)
    (hs:s.heap.IsSliceOf sl vl vu .none) (pl:IsPart vl (some (a:Int))) (pu:IsPart vu (some (c:Int))) (hac:a<=c) (hc:c<=items.size)
    (hsz:items.size + new.size<=sizeLine) (h:Q () { s with heap:=s.heap.update l (Obj.mapSeq fun xs=>xs.extract 0 a ++ new ++ xs.extract c xs.size) }) :
    wpAny (model prog w) A (setItem (.ref l) (.ref sl) (.ref b)) Q E s:=by
  have hl:s.heap.IsList l items:=PySem.IsL.isList e
  obtain ⟨ob,e2,_,n2,d2⟩:=id hb
  obtain ⟨os,hos,hcs,hds⟩:=id hs
  have hTs:s.TypeIs (.ref sl) "slice":=⟨os,hos,hcs⟩
  have hstep:¬ ((rawPart none == rawInt 0) = true):=Bool.false_ne_true
  have hsame:Builtin.List.listSameRef (.ref l) (.ref b) = false:=by
    unfold Builtin.List.listSameRef
    exact beq_eq_false_iff_ne.mpr hne
  have hmax:(max (a:Int) (c:Int)).toNat = c:=by omega
  have hz':((fun xs:Array Value=>xs.extract 0 a ++ new ++ xs.extract c xs.size) items).size<=sizeLine + 1:=by
    simp only [Array.size_append,Array.size_extract]
    omega
  unfold setItem
  try with_reducible refine wpAny_holding ?_
  first | refine wpAny_bind (wpAny_pure ?_) | skip
  refine wpAny_bind (wpAny_sequenceKey hl.typeIs (by decide) ?_)
  refine wpAny_bind (wpAny_callSpecial?_slot (name:=Str.ofString "__setitem__") hl.typeIs slot_list_setitem
    (wpAny_call_entry slot_list_setitem hl.typeIs entry_list_setitem ?_ (args_list_setitem _ _ _)))
  show wpAny _ _ (Builtin.List.listSubscript? (.ref sl) >>= _) _ _ s
  refine wpAny_bind ?_
  unfold Builtin.List.listSubscript?
  refine wpAny_bind (wpAny_specialOf hTs slice_no_index ?_)
  simp only [Option.isNone_none,if_true]
  refine wpAny_pure ?_
  show wpAny _ _ (typeOf (.ref sl) >>= _) _ _ s
  refine wpAny_bind (wpAny_typeOf hTs ?_)
  first
    | rw [if_neg (by decide)]
    | refine PySem.W.KFB.if_not (by decide) ?_
  rw [listSliceParts_eq]
  refine wpAny_bind (wpAny_bind (wpAny_field hos hds (x:=.none) rfl (wpAny_bind (wpAny_listPart .none ?_))))
  rw [if_neg hstep]
  refine wpAny_bind (wpAny_field hos hds (x:=vl) rfl (wpAny_bind (wpAny_listPart pl ?_)))
  refine wpAny_bind (wpAny_field hos hds (x:=vu) rfl (wpAny_bind (wpAny_listPart pu (wpAny_pure ?_))))
  first
    | simp only [hsame,Bool.false_eq_true,if_false]
    | refine PySem.W.KFB.if_not hsame ?_
    | (dsimp only
       rw [if_neg (by rw [hsame];exact Bool.false_ne_true)])
  refine wpAny_bind (m:=Builtin.List.listAllItems (.ref b) "must assign iterable to extended slice") ?_
  unfold Builtin.List.listAllItems
  refine wpAny_bind (wpAny_typeOf hb.typeIs ?_)
  first
    | refine PySem.W.KFB.if_so (by decide) ?_
    | rw [if_pos (by decide)]
    | simp only [beq_self_eq_true,Bool.true_or,if_true]
  unfold Builtin.List.listItems
  refine wpAny_bind (wpAny_seqItems e2 d2 (wpAny_pure ?_))
  refine wpAny_bind (wpAny_bind (wpAny_seqItems e rfl (wpAny_pure ?_)))
  refine wpAny_bind (wpAny_of_eq ((sliceIndices_raw (some (a:Int)) (some (c:Int)) none items.size (by simp)).trans (congrArg (pure:Int × Int × Int->Sem (Int × Int × Int)) (ziV hac hc))) ?_)
  show wpAny _ _ (if ((1:Int) == 1) = true then _ else _) _ _ s
  rw [if_pos (by decide)]
  refine wpAny_bind (wpAny_rule ?_)
  first
    | simp only [zgO hsz,Bool.false_eq_true,if_false]
    | refine PySem.W.KFB.if_not (zgO hsz) ?_
  first | refine wpAny_bind (wpAny_pure ?_) | skip
  show wpAny _ _ (updateSeq l (fun xs=>xs.extract 0 ((a:Int)).toNat ++ new ++ xs.extract (max (a:Int) (c:Int)).toNat xs.size) >>= _) _ _ s
  rw [hmax,Int.toNat_natCast]
  refine wpAny_bind (wpAny_updateSeq (hz:=Nat.le_trans (Nat.le_add_right _ _) hsz) (_hz':=hz') e rfl ?_)
  refine wpAny_bind (wpAny_letGo ?_)
  first
    | exact wpAny_bind (wpAny_pure (wpAny_pure ⟨.none,rfl,wpAny_pure h⟩))
    | exact wpAny_pure ⟨.none,rfl,wpAny_pure h⟩
end
end L2
namespace Att
open PySem PySem.W PySem.Calls PyProof.Rows
theorem zeU {P:Params} {h:Heap}:∀ (ns:List Int) (vs:List Value),WellAll P h vs (ns.map WData.int)->IntsAre vs ns:=by
  intro ns
  induction ns with
  | nil=>
    intro vs w
    rw [List.map_nil] at w
    cases w
    exact .nil
  | cons n ns ih=>
    intro vs w
    rw [List.map_cons] at w
    cases w with
    | cons a b=>
      cases a
      exact .cons _ _ (ih _ b)
theorem zjg {l:OpenLaw} {n:Nat} (hn:l.most = some n) {P:Params} {h:Heap} {args:List WData} {vals:List Value}
    (hpre:l.row.toRowW.claim.pre args = true) (hwl:WellAll P h vals args) :
    ∃ a vs ns,vals = [Value.ref a]/\args = [WData.list (ns.map WData.int)]/\h.get? a = some { cls:=.type "list",data:=.seq vs.toArray }/\IntsAre vs ns/\ns.length<=n:=by
  have hsh:WShape.hasAll [] args [.list .int] = true:=(pre_splitW hpre).1
  have hc:l.pre.holds [] { args:=args } = true:=(pre_splitW hpre).2
  obtain ⟨d,r,rfl,h1,h2⟩:=hasAllW_cons hsh
  obtain rfl:=hasAllW_nil h2
  obtain ⟨xs,rfl,h3⟩:=hasW_list h1
  obtain ⟨ns,rfl⟩:=items_int h3
  have hlen:ns.length<=n:=by
    unfold OpenLaw.pre at hc
    have h4:(WTm.not (.lt (.lit (.int (n:Int))) (.len (.arg 0)))).holds [] { args:=[.list (ns.map .int)] } = true:=by
      have h4:=(holds_andW hc).1
      rw [hn] at h4
      exact h4
    have h5:=condW_of h4 (w_not (w_lt w_lit (w_len_list (w_arg rfl))))
    rw [List.length_map] at h5
    refine Nat.le_of_not_lt fun q=>?_
    have q':(n:Int) < ((ns.length:Nat):Int):=by omega
    first
      | (rw [decide_eq_true q'] at h5;exact absurd h5 (by decide))
      | (simp at h5;omega)
  cases hwl with
  | cons w1 w2=>
    cases w2
    cases w1 with
    | list ho hall=>exact ⟨_,_,ns,rfl,rfl,ho,zeU ns _ hall,hlen⟩
theorem zjn (l:OpenLaw) (args:List WData):l.row.toRowW.claim.post args (.bool true) args = true:=
  postW_of (r:=l.row.toRowW) (X:=(true == true))
    (show WShape.has [] (.bool true) .bool = true by first | rfl | decide | simp [WShape.has,WShape.arms,WShape.armsAll])
    (show (WTm.eq .res (.lit (.bool true))).value [] { args:=args,res:=some (.bool true),after:=args } = some (.bool (true == true)) from w_eq_bool (w_res rfl) w_lit) rfl
theorem zhC {l:OpenLaw} {n:Nat} {q:Program} {loose:List Str} {XP:(Str->Option Value)->Heap->Prop} {YP:World->Heap->Prop} {d:DefRec}
    (hn:l.most = some n) (hdf:d.params.defaults = [])
    (call:∀ (w:World) (s₀ s₁:Shared) (mg mb:Str->Option Value) (fa:Addr) (o:Obj) (pm cd doc:Value) (a:Addr) (vs:List Value) (ns:List Int),
      Ground q loose [] XP w s₀ mg mb s₁.heap->YP w s₁.heap->
      s₁.heap.get? fa = some o->o.data = .func (docDef d.name d.params d.body d.scope pm cd doc)->s₁.heap.CodeRec cd d.name->mg d.name = some (.ref fa)->
      s₁.heap.get? a = some { cls:=.type "list",data:=.seq vs.toArray }->IntsAre vs ns->ns.length<=n->s₁.gens = #[]->
      codeAny (model l.prog w) callerA (.call (.ref fa) ⟨[.ref a],[]⟩) (fun r s'=>r = .ok (.ret (.bool true))/\OldK s₁.heap s'.heap/\s'.os = s₁.os/\AllBare s'.gens) s₁) :
    WalkO q loose XP YP l.row.toRowW d [] (fun f vs=>PySem.call f vs):=by
  intro w s₀ s₁ mg mb G Y fa o pm cd doc dV kV ho hd hcd hD hmg hg args vals as hpre hlay hrd hwl hlo
  obtain rfl:dV = .none:=Dflts.none hD hdf
  obtain rfl:kV = .none:=Dflts.noKw hD
  obtain ⟨a,vs,ns,rfl,rfl,hobj,hints,hlen⟩:=zjg hn hpre hwl
  refine enter_call (codeAny_mono (call w s₀ s₁ mg mb fa o pm cd doc a vs ns G Y ho (fd_plain hd) hcd hmg hobj hints hlen hg) fun r s' hq=>?_)
  obtain ⟨rfl,h2,h3,h4⟩:=hq
  exact ⟨.inl ⟨.bool true,.bool true,[],rfl,fun _=>rfl,.bool true,zjn l _,fun _=>⟨List.Pairwise.nil,fun _ hm=>(nomatch hm)⟩⟩,h2,h3,h4⟩
end Att
namespace L2
open PySem PySem.Spec PyProof.Rows
theorem zfM:∀ {vs:List Value} {ns:List Int},IntsAre vs ns->Vals (ns.map V.int) vs
  | _,_,.nil=>.nil
  | _,_,.cons n t h=>.cons ⟨t,rfl⟩ (zfM h)
noncomputable def zi0 (H:Hp):Prop:=∀ b,H b = none\/∃ o xs,H b = some (.frz o (.lst xs))
theorem zkQ {P:Program} {w:World} {K:PySem.W.Frag} {mg mb:Str->Option Value} {CX:CXT} {k:Nat} {fa a:Addr} {fd:FuncData} {x:Str} {sp:Sp} {s₁:Shared} {vs:List Value} {ns:List Int}
    (KX:K.In s₁.heap) (hns:s₁.heap.Ns mainGlobals mg) (hb:s₁.heap.Ns builtinsNs mb) (hbb:∀ x:Str,x ≠ "__name__"->mb x = bootBuiltins x) (hlim:s₁.heap.NoLimit) (hg:s₁.gens = #[])
    (ha:s₁.heap.get? a = some { cls:=.type "list",data:=.seq vs.toArray }) (hi:IntsAre vs ns) (hl:ns.length<=sizeLine) (hr:Room k callerA)
    (F:∀ base:Heap,K.In base->base.Ns mainGlobals mg->FnOk P w K mg base CX k fa fd [x] sp) (hbind:∀ (s:Shared) (u:Value),BindsTo s fd ⟨[u],[]⟩ [(x,u)])
    (hsp:∀ H:Hp,zi0 H->SqL K H a (ns.map V.int)->sp [.ref a] H (fun v _=>v = .bl true) fun _ _ _=>False)
    (hCX:∀ H e s',CX [] H s₁ (fun _ _ _=>False) e s'->False) :
    codeAny (model P w) callerA (.call (.ref fa) ⟨[.ref a],[]⟩) (fun r s'=>r = .ok (.ret (.bool true))/\OldK s₁.heap s'.heap/\s'.os = s₁.os/\AllBare s'.gens) s₁:=by
  have rv:=zfM hi
  have lenV:=hi.length
  -- from an abstract heap in which nothing but the script may be tracked
  have core:∀ H:Hp,zi0 H->SqL K H a (ns.map V.int)->HOk P w H s₁.heap->(∀ b,H b ≠ none->b = a)->(H a ≠ none->K.lookup a = none)->
      codeAny (model P w) callerA (.call (.ref fa) ⟨[.ref a],[]⟩) (fun r s'=>r = .ok (.ret (.bool true))/\OldK s₁.heap s'.heap/\s'.os = s₁.os/\AllBare s'.gens) s₁:=by
    intro H hO hS hok hA hK
    have base_of:∀ {b:Addr} {o:Obj},s₁.heap.get? b = some o->H b = none->(zc3 s₁.heap H).get? b = some o:=fun e n=>zkX e n
    have noA:∀ {b:Addr} {o:Obj} {es:Array DictEntry} {ep:Nat},s₁.heap.get? b = some o->o.data = .dict es ep->H b = none:=fun {b o es ep} e d=>by
      cases q:H b with
      | none=>rfl
      | some u=>
        have e':b = a:=hA b (by rw [q];simp)
        subst e'
        rw [ha] at e;cases e
        have d':Data.seq vs.toArray _ = Data.dict es ep:=d
        cases d'
    have nsK:∀ {b:Addr} {m:Str->Option Value},s₁.heap.Ns b m->(zc3 s₁.heap H).Ns b m:=fun {b m} ⟨o,es,ep,e,d,r⟩=>⟨o,es,ep,base_of e (noA e d),d,r⟩
    have hKb:K.In (zc3 s₁.heap H):=fun b o e=>base_of (KX b o e) (by
      cases q:H b with
      | none=>rfl
      | some u=>
        have e':b = a:=hA b (by rw [q];simp)
        subst e'
        rw [hK (by rw [q];simp)] at e;cases e)
    have hM:Mod K mg (zc3 s₁.heap H):=⟨hKb,nsK hns,⟨mb,nsK hb,hbb⟩,let ⟨mc,h1,h2⟩:=hlim;⟨mc,nsK h1,h2⟩⟩
    have e0:Env0 P w K mg (zc3 s₁.heap H) callerA [] s₁ H:=⟨rfl,hM,fun b o e=>zml e,Nat.le_of_eq (zjI _ _),trivial,fun b hb=>absurd (show b ∈ ([]:List Addr) from hb) (by simp),hok,.of_eq hg⟩
    refine codeAny_mono ((F _ hKb (nsK hns)).run callerA [] s₁ H ⟨[.ref a],[]⟩ [.ref a] [.ref a] _ _ hr e0 (hbind s₁ (.ref a)) (.cons rfl .nil) (hsp H hO hS)) fun r s' h=>?_
    cases r with
    | error e=>exact (hCX H e s' h).elim
    | ok fl=>
      cases fl with
      | next=>exact False.elim h
      | brk=>exact False.elim h
      | cont=>exact False.elim h
      | ret u=>
        obtain ⟨v,H',os,bare,un,hok',r',q⟩:=h
        have q':v = .bl true:=q
        subst q'
        obtain rfl:u = Value.bool true:=r'
        refine ⟨rfl,OldK.of_keep fun b o e=>?_,os,bare⟩
        cases q:H b with
        | none=>exact un.keep b o e q (by intro z;exact absurd (show b ∈ ([]:List Addr) from z) (by simp)) (by simp)
        | some u=>
          rcases hO b with z | ⟨ob,xs,z⟩
          · rw [q] at z;cases z
          · have z2:=un.frzs b ob _ z
            obtain ⟨e1,_⟩:=hok b _ z
            obtain ⟨e2,_⟩:=hok' b _ z2
            rw [e] at e1;cases e1
            exact e2
  cases hk:K.lookup a with
  | some o=>
    -- the script is one of the module's own objects
    have e:=KX a o hk
    rw [ha] at e
    cases e
    refine core (fun _=>none) (fun _=>.inl rfl) (.inr ⟨_,vs.toArray,_,hk,rfl,rfl,rfl,by rw [List.size_toArray,lenV];exact hl,by simpa using rv⟩) (fun b u z=>by have z':(none:Option HO) = some u:=z;cases z') (fun b z=>absurd rfl z) fun z=>absurd rfl z
  | none=>
    refine core (fun b=>if b = a then some (.frz { cls:=.type "list",data:=.seq vs.toArray } (.lst (ns.map V.int))) else none) (fun b=>?_) (.inl (.inr ⟨{ cls:=.type "list",data:=.seq vs.toArray },if_pos rfl⟩)) (fun b u z=>?_) (fun b z=>?_) fun _=>hk
    · by_cases hb:b = a
      · exact .inr ⟨_,_,if_pos hb⟩
      · exact .inl (if_neg hb)
    · by_cases hb:b = a
      · have z':=(if_pos hb).symm.trans z
        cases z'
        subst hb
        exact ⟨ha,by rw [List.length_map];exact hl,vs,_,rv,ha⟩
      · have z':=(if_neg hb).symm.trans z
        cases z'
    · by_cases hb:b = a
      · exact hb
      · exact absurd (if_neg hb) z
end L2
namespace L2
open PySem PySem.Spec PyProof.Rows
noncomputable abbrev KOf {K:PySem.W.Frag} {h:Heap} (_:K.In h):PySem.W.Frag:=K
theorem zlL {l:PySem.W.OpenLaw} {n k:Nat} {q:Program} {loose:List Str} {XP:(Str->Option Value)->Heap->Prop} {YP:World->Heap->Prop} {d:DefRec} {K:Params->PySem.W.Frag} {CX:World->CXT} {sp:World->Sp} {x:Str}
    (hn:l.most = some n) (hn2:n<=sizeLine) (hdf:d.params.defaults = []) (hr:Room k callerA)
    (hY:∀ (w:World) (h:Heap),YP w h->(K w.params).In h)
    (F:∀ (w:World) (mg:Str->Option Value) (fa:Addr) (h:Heap),(K w.params).In h->h.Ns mainGlobals mg->mg d.name = some (.ref fa)->
      ∃ fd:FuncData,(∀ (s:Shared) (u:Value),BindsTo s fd ⟨[u],[]⟩ [(x,u)]) /\
        ∀ base:Heap,(K w.params).In base->base.Ns mainGlobals mg->FnOk l.prog w (K w.params) mg base (CX w) k fa fd [x] (sp w))
    (hsp:∀ (w:World) (H:Hp) (a:Addr) (ns:List Int),ns.length<=n->zi0 H->SqL (K w.params) H a (ns.map V.int)->sp w [.ref a] H (fun v _=>v = .bl true) fun _ _ _=>False)
    (hCX:∀ (w:World) (H:Hp) (s:Shared) (e:Value) (s':Shared),CX w [] H s (fun _ _ _=>False) e s'->False) :
    PySem.W.WalkO q loose XP YP l.row.toRowW d [] (fun f vs=>PySem.call f vs):=by
  refine Att.zhC hn hdf fun w s₀ s₁ mg mb fa o pm cd doc a vs ns G Y ho hd hcd hmg hobj hints hlen hg=>?_
  have KX:=hY w _ Y
  obtain ⟨fd,hb,hF⟩:=F w mg fa _ KX G.T.g hmg
  exact zkQ KX G.T.g G.T.b G.T.builtins G.T.nolimit hg hobj hints (Nat.le_trans hlen hn2) hr hF hb (fun H hO hS=>hsp w H a ns hlen hO hS) fun H e s'=>hCX w H s₁ e s'
theorem zkk {l:PySem.W.OpenLaw} {n k:Nat} {q:Program} {loose:List Str} {XP:(Str->Option Value)->Heap->Prop} {YP:World->Heap->Prop} {d:DefRec} {K:Params->PySem.W.Frag} {CX:CXT} {sp:PySem.W.Frag->Sp} {x:Str}
    (hn:l.most = some n) (hn2:n<=sizeLine) (hdf:d.params.defaults = []) (hr:Room k callerA)
    (hY:∀ (w:World) (h:Heap),YP w h->(K w.params).In h)
    (F:∀ (w:World) (mg:Str->Option Value) (fa:Addr) (h:Heap),(K w.params).In h->h.Ns mainGlobals mg->mg d.name = some (.ref fa)->
      ∃ fd:FuncData,(∀ (s:Shared) (u:Value),BindsTo s fd ⟨[u],[]⟩ [(x,u)]) /\
        ∀ base:Heap,(K w.params).In base->base.Ns mainGlobals mg->FnOk l.prog w (K w.params) mg base CX k fa fd [x] (sp (K w.params)))
    (hsp:∀ (K:PySem.W.Frag) (H:Hp) (a:Addr) (ns:List Int),ns.length<=n->zi0 H->SqL K H a (ns.map V.int)->sp K [.ref a] H (fun v _=>v = .bl true) fun _ _ _=>False)
    (hCX:∀ (H:Hp) (s:Shared) (e:Value) (s':Shared),CX [] H s (fun _ _ _=>False) e s'->False) :
    PySem.W.WalkO q loose XP YP l.row.toRowW d [] (fun f vs=>PySem.call f vs):=
  zlL (K:=K) (CX:=fun _=>CX) (sp:=fun w=>sp (K w.params)) hn hn2 hdf hr hY F (fun w H a ns h1 h2 h3=>hsp (K w.params) H a ns h1 h2 h3) fun _ H s e s'=>hCX H s e s'
end L2
namespace L2
open PySem PySem.Spec PyProof.Rows
noncomputable def inClass (s:Stmt) (j:Nat):Stmt:=match s with
  | .ClassDef _ _ _ body _ _ _ _ _ _ _=>body.getD j (.Pass ⟨0,0,0,0⟩)
  | _=>.Pass ⟨0,0,0,0⟩
noncomputable def z6 (s:Stmt):Arguments:=match s with
  | .FunctionDef _ a _ _ _ _ _ _ _ _=>a
  | _=>{ posonlyargs:=[],args:=[],vararg:=none,kwonlyargs:=[],kw_defaults:=[],kwarg:=none,defaults:=[] }
noncomputable def qE (s:Stmt):List Stmt:=match s with
  | .FunctionDef _ _ b _ _ _ _ _ _ _=>b
  | _=>[]
noncomputable def ze (s:Stmt):Scope:=match s with
  | .FunctionDef _ _ _ _ _ _ sc _ _ _=>sc
  | _=>{ kind:=.function,names:=[],isGenerator:=false,isCoroutine:=false }
noncomputable abbrev CX0:CXT:=fun _ _ _ _ _ _=>False
noncomputable abbrev E0:XK:=fun _ _ _=>False
theorem zls {X:Cx}:Passes CX0 X E0:=fun _ _ _ _ _ _ _ h=>h.elim
structure Fun (K:PySem.W.Frag) (x qual:Str) (st:Stmt) (f:Addr) (fd:FuncData):Prop where
  ex:∃ (oc:Value) (od:Option Addr) (kV doc pm:Value) (an:Option Addr) (cdv ct:Value) (osl:Array (Option Value)),
    fd = PySem.W.fnOf x qual (z6 st) (qE st) (ze st) .none kV doc pm an cdv ct/\K.lookup f = some ⟨oc,od,.func fd,osl⟩/\PySem.W.codeIn K cdv qual = true
  kp:PySem.W.keepIn K (.ref f) = true
section
variable {P:Program} {w:World} {K:PySem.W.Frag} {mg:Str->Option Value} {base:Heap}
theorem Fun.ok {x qual:Str} {st:Stmt} {f:Addr} {fd:FuncData} {N ps:List Str} {k:Nat} {sp:Sp} (F:Fun K x qual st f fd) (S:FnScope N ps (ze st)) (len:∀ vs H Q E,sp vs H Q E->vs.length = ps.length)
    (hbody:∀ (cdv:Value) (A:Around) (outer:List Env) (s:Shared) (H:Hp) (vs:List V) (Q:VK) (E:XK),Room k (A.deeper (envOfC qual (ze st) s.heap.objs.size f cdv))->sp vs H Q E->
      ∃ t,PSs (zbl CX0 P w K mg base N qual (ze st) f cdv A outer s H E).nox (qE st) t/\t { nx:=fun _ H'=>Q .non H',rt:=Q } (start N vs) H):FnOk P w K mg base CX0 (k + 1) f fd ps sp:=by
  obtain ⟨oc,od,kV,doc,pm,an,cdv,ct,osl,rfl,lk,hcd⟩:=F.ex
  refine zpu lk hcd S len fun A outer s H vs Q E hr hsp=>?_
  obtain ⟨t,h,q⟩:=hbody cdv A outer s H vs Q E hr hsp
  exact ⟨t,h.nox,q⟩
theorem Fun.binds {x qual:Str} {st:Stmt} {f:Addr} {fd:FuncData} {ps:List Str} (F:Fun K x qual st f fd)
    (h:∀ (kV doc pm:Value) (an:Option Addr) (cdv ct:Value) (us:List Value),us.length = ps.length->bindArgs (PySem.W.fnOf x qual (z6 st) (qE st) (ze st) .none kV doc pm an cdv ct) ⟨us,[]⟩ = pure (ps.zip us)):Binds K fd ps []:=by
  obtain ⟨oc,od,kV,doc,pm,an,cdv,ct,osl,rfl,lk,hcd⟩:=F.ex
  exact .all (h kV doc pm an cdv ct)
theorem zhc {x qual:Str} {st:Stmt} {f:Addr} {oc:Value} {od an:Option Addr} {osl:Array (Option Value)} {kV doc pm cdv ct:Value} (l:K.lookup f = some ⟨oc,od,.func (PySem.W.fnOf x qual (z6 st) (qE st) (ze st) .none kV doc pm an cdv ct),osl⟩)
    (c:PySem.W.codeIn K cdv qual = true) (k:PySem.W.keepIn K (.ref f) = true):Fun K x qual st f (PySem.W.fnOf x qual (z6 st) (qE st) (ze st) .none kV doc pm an cdv ct):=⟨⟨oc,od,kV,doc,pm,an,cdv,ct,osl,rfl,l,c⟩,k⟩
end
section
variable {X:Cx}
theorem pv (i:Nat) {x:Str} {pos:Pos} (hN:X.N[i]? = some x:=by rfl) (hv:Vis X.env.scope x:=by first | exact Or.inl rfl | exact Or.inr (Or.inl rfl) | exact Or.inr (Or.inr rfl)) (hd:(x == ("__debug__":Str)) = false:=by decide)
    (hcd:(x == ("__classdict__":Str)) = false:=by decide):PE X (.Name x pos) (zik i):=zny hN hv hd hcd
end
end L2
set_option maxHeartbeats 4000000
namespace L2
open PySem PySem.Spec PyProof.Rows
section
variable {κ:Type} [DecidableEq κ]
noncomputable def zbU (kvs:List (κ × V)) (k:κ):Option V:=(kvs.find? fun kv=>decide (kv.1 = k)).map (·.2)
noncomputable def putK (kvs:List (κ × V)) (k:κ) (v:V):List (κ × V):=
  if (kvs.any fun kv=>decide (kv.1 = k)) = true then kvs.map (fun kv=>if kv.1 = k then (kv.1,v) else kv) else kvs ++ [(k,v)]
noncomputable def zqJ (kvs:List (κ × V)) (k:κ):List (κ × V):=kvs.filter fun kv=>decide (kv.1 ≠ k)
theorem zpx {p:κ × V} {r:List (κ × V)} {k:κ} (e:p.1 = k):zbU (p :: r) k = some p.2:=by simp [zbU,List.find?_cons,e]
theorem zpy {p:κ × V} {r:List (κ × V)} {k:κ} (e:¬ p.1 = k):zbU (p :: r) k = zbU r k:=by simp [zbU,List.find?_cons,e]
theorem KV.any {kvs:List (κ × V)} {vs:List (κ × Value)} (r:KV kvs vs) (k:κ):(kvs.any fun kv=>decide (kv.1 = k)) = vs.any fun kv=>decide (kv.1 = k):=by
  unfold KV at r
  induction r with
  | nil=>rfl
  | cons h t ih=>rw [List.any_cons,List.any_cons,ih,h.1]
theorem KV.repl {kvs:List (κ × V)} {vs:List (κ × Value)} (r:KV kvs vs) (k:κ) {y:V} {u:Value} (ry:RelV y u) :
    KV (kvs.map fun kv=>if kv.1 = k then (kv.1,y) else kv) (vs.map fun kv=>if kv.1 = k then (kv.1,u) else kv):=by
  unfold KV at r ⊢
  induction r with
  | nil=>exact .nil
  | @cons p q ps qs h t ih=>
    rw [List.map_cons,List.map_cons]
    refine .cons ?_ ih
    obtain ⟨h1,h2⟩:=h
    by_cases e:p.1 = k
    · rw [if_pos e,if_pos (h1.symm.trans e)];exact ⟨h1,ry⟩
    · rw [if_neg e,if_neg (fun z=>e (h1.trans z))];exact ⟨h1,h2⟩
theorem KV.put {kvs:List (κ × V)} {vs:List (κ × Value)} (r:KV kvs vs) (k:κ) {y:V} {u:Value} (ry:RelV y u):KV (putK kvs k y) (stored vs k u):=by
  unfold putK stored
  rw [r.any k]
  by_cases e:(vs.any fun kv=>decide (kv.1 = k)) = true
  · rw [if_pos e,if_pos e];exact r.repl k ry
  · rw [if_neg e,if_neg e];exact Paired.snoc r ⟨rfl,ry⟩
end
noncomputable def zjw (kvs more:List (Key × V)):List (Key × V):=more.foldl (fun acc kv=>putK acc kv.1 kv.2) kvs
structure M1 (X:Cx) (o:Expr) (m:Str) (apos:Pos) (e:Expr) (cpos:Pos):Prop where
  base:attributeBase o m X.env (eval o X.env) = eval o X.env
  few:((backTo cpos (starEach [e] X.env)).all (fun x=>!x.1) && (backToKw cpos (keywordEach [] X.env)).all (fun x=>x.1.isSome)
    && decide (([e]:List Expr).length + ([]:List Keyword).length + (if ([]:List Keyword).isEmpty then 0 else 1) < 30)) = true
  line:(apos.endLine == cpos.line) = true
  trees:backTo cpos (starEach [e] X.env) = [(false,eval e X.env)]
structure M2 (X:Cx) (o:Expr) (m:Str) (apos:Pos) (e f:Expr) (cpos:Pos):Prop where
  base:attributeBase o m X.env (eval o X.env) = eval o X.env
  few:((backTo cpos (starEach [e,f] X.env)).all (fun x=>!x.1) && (backToKw cpos (keywordEach [] X.env)).all (fun x=>x.1.isSome)
    && decide (([e,f]:List Expr).length + ([]:List Keyword).length + (if ([]:List Keyword).isEmpty then 0 else 1) < 30)) = true
  line:(apos.endLine == cpos.line) = true
  trees:backTo cpos (starEach [e,f] X.env) = [(false,eval e X.env),(false,eval f X.env)]
end L2
namespace L2
open PySem PySem.Spec PyProof.Rows
noncomputable def Bnd (n:Nat) (i:Int):Prop:=i.natAbs < 10 ^ n
instance (n:Nat) (i:Int):Decidable (Bnd n i):=inferInstanceAs (Decidable (i.natAbs < 10 ^ n))
theorem Bnd.add {n:Nat} {i j:Int} (h:Bnd n i) (k:Bnd n j):Bnd (n + 1) (i + j):=by
  unfold Bnd at *
  have h1:=Int.natAbs_add_le i j
  rw [Nat.pow_succ]
  omega
theorem Bnd.neg {n:Nat} {i:Int} (h:Bnd n i):Bnd n (-i):=by
  unfold Bnd at *
  rw [Int.natAbs_neg];exact h
theorem zh9 {n:Nat} {i:Int} (h:Bnd n i) (hn:n<=3000):Builtin.Int.intBits i<=2 ^ 20:=by
  unfold Builtin.Int.intBits
  split
  · exact Nat.zero_le _
  · rename_i h0
    have h1:i.natAbs ≠ 0:=by
      intro z
      have:i = 0:=Int.natAbs_eq_zero.mp z
      subst this
      exact h0 rfl
    have h2:i.natAbs < 2 ^ (4 * n):=by
      have e:(2:Nat) ^ (4 * n) = 16 ^ n:=by rw [Nat.pow_mul]
      rw [e]
      exact Nat.lt_of_lt_of_le h (Nat.pow_le_pow_left (by decide) n)
    have h3:i.natAbs.log2 < 4 * n:=(Nat.log2_lt h1).mpr h2
    have:(2:Nat) ^ 20 = 1048576:=by decide
    omega
noncomputable def CMulB (i j:Int):Prop:=(∃ m n,Bnd m i/\Bnd n j/\m<=3000/\n<=3000)\/CMul i j
theorem CMulB.ok {i j:Int} (h:CMulB i j):IntMulOk i j:=by
  rcases h with ⟨m,n,h1,h2,h3,h4⟩ | h
  · exact IntMulOk.of_bits (zh9 h1 h3) (zh9 h2 h4)
  · exact h.ok
section
variable {X:Cx}
theorem zmg:OpR X (binaryOp .Mult) (rI CMulB fun i j=>.int (i * j)):=opI fun _ _ _ _ _ _ _ hc q=>mul_int q hc.ok
noncomputable def zo5 (K:PySem.W.Frag):R2:=fun x y H Q=>∃ l b xs zs,x = .ref l/\y = .ref b/\SqL K H l xs/\SqL K H b zs/\xs.length + zs.length<=sizeLine/\∀ p,H p = none->Q (.ref p) (upd H p (.lst (xs ++ zs)))
theorem zmj:OpR X (binaryOp .Add) (zo5 X.K):=by
  intro pins s σ H x y v u Q I rx ry h
  obtain ⟨l,b,xs,zs,rfl,rfl,hH,hB,hz,q⟩:=h
  cases rx
  cases ry
  obtain ⟨its,r,pl,z⟩:=I.list hH
  obtain ⟨its2,r2,pl2,z2⟩:=I.list hB
  obtain ⟨⟨cls,dd,data,sl⟩,n,ho,hc,hdi,hd⟩:=pl
  obtain ⟨⟨cls2,dd2,data2,sl2⟩,n2,ho2,hc2,hdi2,hd2⟩:=pl2
  simp only at hc hd hc2 hd2
  subst hc hd hc2 hd2
  have e1:=r.length
  have e2:=r2.length
  refine concat_meets ⟨_,ho,rfl⟩ ⟨_,ho2,rfl⟩ noFill_list_add seq_list_add PySem.F.slot_list_add PySem.F.entry_list_add (PySem.F.args_list_add_2 _ _) (list_addW l b its.toArray its2.toArray n n2 dd dd2 sl sl2 (by rw [List.size_toArray,List.size_toArray];omega)) ⟨ho,ho2,?_⟩
  have ea:its.toArray ++ its2.toArray = (its ++ its2).toArray:=by simp
  rw [ea]
  exact ⟨.ref _,_,I.lnew (t':=s.toks) (r.append r2) (by rw [List.length_append];omega),rfl,q _ I.fresh⟩
end
structure Df (K:PySem.W.Frag) (mg:Str->Option Value) (x:Str) (st:Stmt) (ps:List Str):Prop where
  ex:∃ (f:Addr) (fd:FuncData),Fun K x x st f fd/\Binds K fd ps []/\mg x = some (.ref f)
structure Cal (P:Program) (w:World) (K:PySem.W.Frag) (mg:Str->Option Value) (base:Heap) (k:Nat) (x:Str) (ps:List Str) (sp:Sp):Prop where
  ex:∃ (f:Addr) (fd:FuncData),FnOk P w K mg base CX0 k f fd ps sp/\PySem.W.keepIn K (.ref f) = true/\Binds K fd ps []/\mg x = some (.ref f)
section
variable {P:Program} {w:World} {K:PySem.W.Frag} {mg:Str->Option Value} {base:Heap}
theorem Df.ok {x:Str} {st:Stmt} {N ps:List Str} {k:Nat} {sp:Sp} (D:Df K mg x st ps) (S:FnScope N ps (ze st)) (len:∀ vs H Q E,sp vs H Q E->vs.length = ps.length)
    (hbody:∀ (f:Addr) (cdv:Value) (A:Around) (outer:List Env) (s:Shared) (H:Hp) (vs:List V) (Q:VK) (E:XK),Room k (A.deeper (envOfC x (ze st) s.heap.objs.size f cdv))->sp vs H Q E->
      ∃ t,PSs (zbl CX0 P w K mg base N x (ze st) f cdv A outer s H E).nox (qE st) t/\t { nx:=fun _ H'=>Q .non H',rt:=Q } (start N vs) H):Cal P w K mg base (k + 1) x ps sp:=by
  obtain ⟨f,fd,F,b,g⟩:=D.ex
  exact ⟨⟨f,fd,F.ok S len (hbody f),F.kp,b,g⟩⟩
theorem zA {h:Heap} (X:K.In h) (G:h.Ns mainGlobals mg) {x:Str} {st:Stmt} {ps:List Str} {f:Addr} {od an:Option Addr} {sl:Array (Option Value)} {oc kV dc pm cd ct:Value}
    (a:PySem.W.nsIn K mainGlobals x = some (some (.ref f)))
    (l:K.lookup f = some ⟨oc,od,.func (PySem.W.fnOf x x (z6 st) (qE st) (ze st) .none kV dc pm an cd ct),sl⟩) (c:PySem.W.codeIn K cd x = true) (k:PySem.W.keepIn K (.ref f) = true)
    (hb:∀ (kV doc pm:Value) (an:Option Addr) (cdv ct:Value) (us:List Value),us.length = ps.length->bindArgs (PySem.W.fnOf x x (z6 st) (qE st) (ze st) .none kV doc pm an cdv ct) ⟨us,[]⟩ = pure (ps.zip us)):Df K mg x st ps:=by
  have F:=zhc (st:=st) l c k
  exact ⟨⟨f,_,F,F.binds hb,PySem.W.mg_of X G a⟩⟩
end
section
variable {K:PySem.W.Frag} {mg:Str->Option Value}
theorem zn0 {h:Heap} (X:K.In h) (G:h.Ns mainGlobals mg) {st:Stmt} {f:Addr} {od an:Option Addr} {sl:Array (Option Value)} {oc kV dc pm cd ct:Value}
    (a:PySem.W.nsIn K mainGlobals "law" = some (some (.ref f)))
    (l:K.lookup f = some ⟨oc,od,.func (PySem.W.fnOf "law" "law" (z6 st) (qE st) (ze st) .none kV dc pm an cd ct),sl⟩) (c:PySem.W.codeIn K cd "law" = true) (k:PySem.W.keepIn K (.ref f) = true)
    (hb:∀ (kV dc pm:Value) (an:Option Addr) (cd ct:Value) (s:Shared) (u:Value),BindsTo s (PySem.W.fnOf "law" "law" (z6 st) (qE st) (ze st) .none kV dc pm an cd ct) ⟨[u],[]⟩ [("script",u)]) :
    ∃ (f:Addr) (fd:FuncData),Fun K "law" "law" st f fd/\mg "law" = some (.ref f)/\∀ (s:Shared) (u:Value),BindsTo s fd ⟨[u],[]⟩ [("script",u)]:=
  ⟨f,_,zhc (st:=st) l c k,PySem.W.mg_of X G a,fun s u=>hb _ _ _ _ _ _ s u⟩
end
section
variable {X:Cx} {k:Nat} {ps:List Str} {sp:Sp} {x:Str} {p pos:Pos} {e:Expr} {es:List Expr} {t:TA}
theorem znG (C:Cal X.prog X.w X.K X.mg X.base k x ps sp) (hr:Room k X.A) (hg:Gl X x) (ha:PA X (e :: es) t) (hdb:(x == ("__debug__":Str)) = false:=by decide)
    (he:starEach (e :: es) X.env = (false,eval e X.env) :: starEach es X.env:=by rfl) (hpl:(backTo pos (starEach es X.env)).any (·.1) = false:=by rfl) :
    PE X (.Call (.Name x p) (e :: es) [] pos) (zlp sp [] E0 t):=by
  obtain ⟨f,fd,F,kp,b,g⟩:=C.ex
  exact zma F hr hg g kp b .nil zls ha hdb he hpl
end
end L2
namespace L2
theorem Bnd.of {n:Nat} {i:Int} (h1:-(10 ^ n:Int) < i) (h2:i < 10 ^ n):Bnd n i:=by
  unfold Bnd
  have:((10 ^ n:Nat):Int) = (10:Int) ^ n:=by simp
  omega
theorem Bnd.hi {n:Nat} {i:Int} (h:Bnd n i):i < 10 ^ n:=by
  unfold Bnd at h
  have:((10 ^ n:Nat):Int) = (10:Int) ^ n:=by simp
  omega
theorem Bnd.lo {n:Nat} {i:Int} (h:Bnd n i):-(10 ^ n:Int) < i:=by
  unfold Bnd at h
  have:((10 ^ n:Nat):Int) = (10:Int) ^ n:=by simp
  omega
theorem zg3 (a b:Int):Int.gcd b (a % b) = Int.gcd a b:=by
  rw [Int.gcd_comm a b,Int.emod_def,Int.mul_comm b]
  exact Int.gcd_sub_mul_right_right b a (a / b)
theorem gcd_zero (a:Int) (h:0<=a):((Int.gcd a 0:Nat):Int) = a:=by
  rw [Int.gcd_zero_right];omega
theorem zfz (a b:Int):Int.gcd (if a < 0 then -a else a) b = Int.gcd a b:=by
  split <;> simp
theorem Bnd.gcd {n:Nat} {a b:Int} (h:0 < b) (k:Bnd n b):Bnd n ((Int.gcd a b:Nat):Int):=by
  unfold Bnd at *
  have h1:((Int.gcd a b:Nat):Int) ∣ b:=Int.gcd_dvd_right ..
  have h2:((Int.gcd a b:Nat):Int)<=b:=Int.le_of_dvd h h1
  omega
theorem zht (a:Int):0<=(if a < 0 then -a else a):=by split <;> omega
end L2
namespace L2
open PySem PySem.Spec PyProof.Rows
noncomputable abbrev zqc:List Value:=[.type "ValueError",.type "Exception",.type "BaseException",.type "object"]
structure ExcAt (K:PySem.W.Frag) (mg:Str->Option Value) (x:Str) (C:Addr):Prop where
  bound:mg x = some (.ref C)
  obj:∀ h:Heap,K.In h->∃ bm N nm q bs hdct sn sub ab col dd k0 k1 k2 k3 k5 mN,h.get? C = some (excClassObj nm q C N bs bm hdct sn sub ab col dd k0 k1 k2 k3 k5 "ValueError.__new__")/\h.Ns N mN/\mN "__init__" = none/\OwnTail h zqc bm
noncomputable def CXC (P:Program) (w:World) (C:Addr):CXT:=fun l H s E ev s'=>∃ (e t:Addr) (B:Heap) (H':Hp),ev = .ref e/\Heap.FlyingW B l e (.ref C) (.ref t) s'.heap/\s'.os = s.os/\AllBare s'.gens /\
  Un (frs l) [] H H' s.heap s'.heap/\HOk P w H' s'.heap/\(∀ b o,s'.heap.get? b = some o->b ∉ frs l->(H' b ≠ none\/∃ o',s.heap.get? b = some o')->B.get? b = some o)/\(∀ b ∈ frs l,H' b = none)/\E (.ref C) none H'
end L2
namespace L2
open PySem PySem.Spec PyProof.Rows
noncomputable abbrev Cx.suite (X:Cx) (ev:Addr):Cx:={ X with A:=X.A.mark (some (.ref ev)),calm:=false,xe:=fun _ _=>False }
section
variable {X:Cx} {pins:List (Addr × Obj)} {σ:St} {H:Hp} {s:Shared} {ev:Addr}
theorem Inv.unsuite (ok:X.Ok) (I:Inv (X.suite ev) pins σ H s):Inv X pins σ H s:=⟨ok,I.os,I.bare,I.base,I.loc,I.cell,I.free,I.freeC,I.pin,I.hok,I.len⟩
end
end L2
namespace L2
open PySem PySem.Spec PyProof.Rows
theorem zla (x:V) (f:zcn x = true):eqV x x = true:=by
  cases x with
  | non=>rfl
  | bl b=>simp [eqV]
  | int i=>simp [eqV]
  | str z=>simp [eqV]
  | _=>exact absurd (show false = true from f) Bool.false_ne_true
section
variable {X:Cx}
noncomputable def CDivS (_ j:Int):Prop:=j ≠ 0/\∃ n,Bnd n j/\n<=2000
theorem CDivS.ok {i j:Int} (h:CDivS i j):Builtin.divisionGoesByPylong i j = false:=by
  obtain ⟨h0,n,h1,h2⟩:=h
  refine PyProof.noPylong_of_log2 ?_
  have hz:j.natAbs ≠ 0:=by omega
  have e:(2:Nat) ^ (4 * n) = 16 ^ n:=by rw [Nat.pow_mul]
  have h3:j.natAbs < 2 ^ (4 * n):=by
    rw [e]
    exact Nat.lt_of_lt_of_le h1 (Nat.pow_le_pow_left (by decide) n)
  have h4:j.natAbs.log2 < 4 * n:=(Nat.log2_lt hz).mpr h3
  omega
theorem zkA:OpR X (binaryOp .FloorDiv) (rI CDivS fun i j=>.int (i.fdiv j)):=opI fun _ _ _ _ _ _ _ hc q=>floordiv_int hc.1 q (.inl hc.ok)
end
structure CalX (P:Program) (w:World) (K:PySem.W.Frag) (mg:Str->Option Value) (base:Heap) (C:Addr) (k:Nat) (x:Str) (ps:List Str) (sp:Sp):Prop where
  ex:∃ (f:Addr) (fd:FuncData),FnOk P w K mg base (CXC P w C) k f fd ps sp/\PySem.W.keepIn K (.ref f) = true/\Binds K fd ps []/\mg x = some (.ref f)
end L2
namespace L2
open PySem PySem.Spec PyProof.Rows
theorem zbQ {n:Nat} {name x:Str} {acc:List (Str × Addr)} {c:Addr} (e:((name,n) :: acc).lookup x = some c):(x = name/\c = n)\/acc.lookup x = some c:=by
  rw [List.lookup_cons] at e
  split at e
  · rename_i h;cases e;exact .inl ⟨eq_of_beq h,rfl⟩
  · exact .inr e
theorem zfa:∀ (names:List (Str × NameKind)) (n:Nat) (acc:List (Str × Addr)),(∀ x y c,acc.lookup x = some c->acc.lookup y = some c->x = y)->(∀ x c,acc.lookup x = some c->c < n)->∀ x y c,(cellsFrom n names acc).lookup x = some c->(cellsFrom n names acc).lookup y = some c->x = y
  | [],_,_,h,_,x,y,c,e1,e2=>h x y c e1 e2
  | (name,kind) :: r,n,acc,h,lt,x,y,c,e1,e2=>by
    unfold cellsFrom at e1 e2
    split at e1
    · rename_i hk
      rw [if_pos hk] at e2
      refine zfa r (n + 1) ((name,n) :: acc) (fun x y c f1 f2=>?_) (fun x c f=>?_) x y c e1 e2
      · rcases zbQ f1 with ⟨g1,g2⟩ | g1 <;> rcases zbQ f2 with ⟨g3,g4⟩ | g3
        · rw [g1,g3]
        · subst g2;exact absurd (lt _ _ g3) (Nat.lt_irrefl _)
        · subst g4;exact absurd (lt _ _ g1) (Nat.lt_irrefl _)
        · exact h x y c g1 g3
      · rcases zbQ f with ⟨g1,g2⟩ | g1
        · subst g2;exact Nat.lt_succ_self _
        · exact Nat.lt_succ_of_lt (lt _ _ g1)
    · rename_i hk
      rw [if_neg hk] at e2
      exact zfa r n acc h lt x y c e1 e2
theorem zgp {x:Str} {c:Addr}:∀ (names:List (Str × NameKind)) (n:Nat) (acc:List (Str × Addr)),(cellsFrom n names acc).lookup x = some c->acc.lookup x = some c\/n<=c
  | [],_,_,e=>.inl e
  | (name,kind) :: r,n,acc,e=>by
    unfold cellsFrom at e
    split at e
    · rcases zgp r (n + 1) _ e with f | f
      · rcases zbQ f with ⟨_,g⟩ | g
        · exact .inr (Nat.le_of_eq g.symm)
        · exact .inl g
      · exact .inr (by omega)
    · exact zgp r n acc e
theorem ziR {x:Str} {c:Addr} {lo:Nat}:∀ (names:List (Str × NameKind)) (n:Nat) (acc:List (Str × Addr)),lo<=n->(∀ c,acc.lookup x = some c->lo<=c)->(cellsFrom n names acc).lookup x = some c->lo<=c
  | [],_,_,_,h,e=>h _ e
  | (name,kind) :: r,n,acc,hn,h,e=>by
    unfold cellsFrom at e
    split at e
    · refine ziR r (n + 1) _ (Nat.le_succ_of_le hn) (fun c f=>?_) e
      rcases zbQ f with ⟨_,g⟩ | g
      · subst g;exact hn
      · exact h _ g
    · exact ziR r n acc hn h e
theorem ze8 {x:Str} {c:Addr}:∀ (names:List (Str × NameKind)) (n:Nat) (acc:List (Str × Addr)),names.lookup x = some .cell->(cellsFrom n names acc).lookup x = some c->n<=c
  | [],_,_,h,_=>by cases h
  | (name,kind) :: r,n,acc,h,e=>by
    unfold cellsFrom at e
    rw [List.lookup_cons] at h
    split at h
    · rename_i hx
      cases h
      rw [if_pos (show (NameKind.cell == NameKind.cell) = true from rfl)] at e
      refine ziR r (n + 1) _ (Nat.le_succ _) (fun c f=>?_) e
      rw [List.lookup_cons,hx] at f
      cases f;exact Nat.le_refl _
    · split at e
      · exact Nat.le_of_succ_le (ze8 r (n + 1) _ h e)
      · exact ze8 r n acc h e
theorem ze9 {x:Str}:∀ (names:List (Str × NameKind)) (n:Nat) (acc:List (Str × Addr)),(∀ y ∈ names,y.2 = .cell->y.1 ≠ x)->(cellsFrom n names acc).lookup x = acc.lookup x
  | [],_,_,_=>rfl
  | (name,kind) :: r,n,acc,h=>by
    unfold cellsFrom
    split
    · rename_i hk
      rw [ze9 r (n + 1) _ fun y hy=>h y (List.mem_cons_of_mem _ hy),List.lookup_cons]
      have:(x == name) = false:=by
        cases q:x == name with
        | false=>rfl
        | true=>exact absurd (eq_of_beq q).symm (h (name,kind) List.mem_cons_self (eq_of_beq hk))
      rw [this]
    · exact ze9 r n acc fun y hy=>h y (List.mem_cons_of_mem _ hy)
theorem zed:∀ (names:List (Str × NameKind)) (h:Heap) (acc:List (Str × Addr)),(∀ x c,acc.lookup x = some c->∃ v,h.IsCell c v)->∀ x c,(cellsFrom h.objs.size names acc).lookup x = some c->∃ v,(pushCells h names).IsCell c v
  | [],_,_,k,x,c,e=>k x c e
  | (name,kind) :: r,h,acc,k,x,c,e=>by
    unfold cellsFrom at e
    unfold pushCells
    split at e
    · rename_i hk
      rw [if_pos hk]
      refine zed r (h.push { cls:=.type "cell",data:=.cell none }) ((name,h.objs.size) :: acc) (fun x c f=>?_) x c (by rw [Heap.size_push];exact e)
      rcases zbQ f with ⟨_,g⟩ | g
      · subst g;exact ⟨none,_,Heap.get?_push_size _ rfl,rfl⟩
      · obtain ⟨v,q⟩:=k x c g
        exact ⟨v,q.keeps fun b o e=>Heap.get?_push_of_some _ e⟩
    · rename_i hk
      rw [if_neg hk]
      exact zed r h acc k x c e
theorem yZ {M:Model} {A:Around} {E:Value->Shared->Prop} {s:Shared} {scope:Scope} {globals:Addr} {cl:List (Str × Addr)} {qual:Str} {env:Env} {builtins:Addr} {Q:Env->Shared->Prop}
    (hQ:∀ h',h'.Ns s.heap.objs.size (fun _=>none)->h' = pushCells (s.heap.push { cls:=.type "dict",data:=.dict #[] }) scope.names->
      Q (newEnv scope s.heap.objs.size globals (cellsFrom (s.heap.objs.size + 1) scope.names cl) qual none .none (some env) builtins) { s with heap:=h' }) :
    wpAny M A (newFunctionEnv scope globals cl [] qual none .none (some env) builtins) Q E s:=by
  simp only [newFunctionEnv,Option.isSome_some,if_true]
  refine wpAny_bind (wpAny_alloc ?_)
  refine wpAny_bind (wpAny_layCells _ (fun name kind cells=>by cases hkc:kind == NameKind.cell <;> simp [hkc]) _ _ _ _ ?_)
  rw [show ({ s with heap:=s.heap.push { cls:=.type "dict",data:=.dict #[] } }:Shared).heap.objs.size = s.heap.objs.size + 1 from Heap.size_push ..]
  refine wpAny_bind ?_
  rw [List.forIn_nil]
  exact wpAny_pure (wpAny_pure (hQ _ ((Heap.Ns.new s.heap (.type "dict")).keeps (pushCells_keeps _ _)) rfl))
noncomputable def zeI (scope:Scope) (cl:List (Str × Addr)) (C:Addr) (env:Env):Env:={ compEnvC scope cl C env with cells:=cellsFrom (C + 1) scope.names cl }
noncomputable def Cx.block (X:Cx) (scope:Scope) (cl:List (Str × Addr)) (N:List Str) (ex:List Addr) (s0:Shared) (H0:Hp):Cx where
  prog:=X.prog
  w:=X.w
  K:=X.K
  mg:=X.mg
  base:=X.base
  A:=X.A
  N:=N
  s₀:=s0
  H₀:=H0
  env:=zeI scope cl s0.heap.objs.size X.env
  outer:=X.stack
  stack:=X.stack
  ex:=ex
  fn:=fun x=>scope.names.lookup x == some .cell
  calm:=X.calm
  pn:=[]
  xe:=fun _ _=>False
noncomputable def PTs (X:Cx) (ifs:List Expr) (t:TT):Prop:=
  ∀ (pins:List (Addr × Obj)) (s:Shared) (σ:St) (H:Hp) (Q:Bool->Hp->Prop),Inv X pins σ H s->t σ H Q->
    wpAny (model X.prog X.w) X.A (forIn ifs true fun c r=>if r = true then do let ok ← isTrue c X.env (eval c X.env);pure (ForInStep.yield ok) else pure (ForInStep.yield r)) (TP X pins σ Q) X.xe s
noncomputable def zoU:TT:=fun _ H Q=>Q true H
theorem zlX {X:Cx}:PTs X [] zoU:=fun _ _ _ H _ I h=>wpAny_tests_nil ⟨H,I,h⟩
theorem zlW {X:Cx} {c:Expr} {t:TT} (h:PT X c t):PTs X [c] t:=fun pins s σ H Q I hq=>wpAny_tests_one (h pins s σ H Q I hq)
noncomputable def zaf (tgs:List Str) (caps:List (Str × Nat)) (σ:St):St:=tgs.map (fun _=>none) ++ caps.map fun c=>(σ[c.2]?).join
noncomputable def zgg (wi:TI) (g:TG) (tc:TT) (te:TE) (σ0:St->St):TE:=fun σ H Q=>wi σ H fun J H1=>∀ D,H1 D = none->∃ W:Nat->Nat->St->Hp->Prop,(∃ m,W 0 m (σ0 σ) (upd H1 D (.lst [])))/\∀ i m σ' H',W i m σ' H'->
  (J.stop i H'/\Q (.ref D) H')\/(J.go i H'/\∃ N:St->Hp->Prop,(∀ σ'' H'',N σ'' H''->∃ m',m' < m/\W (i + 1) m' σ'' H'')/\∀ x H2,J.yld i H' x H2->g x σ' H2 fun σ2 H3=>tc σ2 H3 fun b H4=>
    if b = true then te σ2 H4 fun v H5=>∃ ys,H5 D = some (.lst ys)/\ys.length < sizeLine/\N σ2 (upd H5 D (.lst (ys ++ [v]))) else N σ2 H4)
theorem za5 {prog:Program} {w:World} {A:Around} {R:Result->Shared->Prop} {s:Shared} {elt target iter:Expr} {ifs:List Expr} {scope:Scope} {pos:Pos} {it acc:Value} {env:Env} (I:Nat->Shared->Prop)
    (turn:∀ n s,I n s->wpAny (model prog w) A (pyNext it) (fun r s₁=>match r with
      | none=>R (.ok .next) s₁
      | some v=>wpAny (model prog w) A (letOwnedTupleGo target it v) (fun _ s₁'=>wpAny (model prog w) A (assign target env v) (fun _ s₂=>
          wpAny (model prog w) A (forIn ifs true fun c r=>if r = true then do let ok ← isTrue c env (eval c env);pure (ForInStep.yield ok) else pure (ForInStep.yield r)) (fun ok s₃=>
            if ok = true then wpAny (model prog w) A (eval elt env) (fun x s₄=>
              wpAny (model prog w) A (call (.builtin "list.append") [acc,x]) (fun _ s₅=>∃ m,m < n/\I m s₅) (notedBy (model prog w) A env fun e s'=>R (.error e) s') s₄) (notedBy (model prog w) A env fun e s'=>R (.error e) s') s₃
            else ∃ m,m < n/\I m s₃) (notedBy (model prog w) A env fun e s'=>R (.error e) s') s₂) (notedBy (model prog w) A env fun e s'=>R (.error e) s') s₁') (notedBy (model prog w) A env fun e s'=>R (.error e) s') s₁) (notedBy (model prog w) A env fun e s'=>R (.error e) s') s)
    (n:Nat) (h:I n s):codeAny (model prog w) A (.compLoop (.ListComp elt [⟨target,iter,ifs,0⟩] scope pos) 0 it acc env) R s:=by
  refine codeAny_loop rfl I (fun n s hI=>?_) n h
  show wpAny _ A ((compTurn (.ListComp elt [⟨target,iter,ifs,0⟩] scope pos) 0 it acc env).onRaise (fun x=>do noteFrame x env;theTreesLotGoes x)) _ _ s
  refine wpAny_noted ?_
  rw [compTurn_list]
  refine wpAny_bind (wpAny_standAt (wpAny_bind (wpAny_mono (turn n s hI) (fun r s₁ h₁=>?_) fun _ _ h'=>h')))
  cases r with
  | none=>exact wpAny_pure h₁
  | some v=>
    refine wpAny_bind (wpAny_mono h₁ (fun _ s₁' h₁'=>?_) fun _ _ h'=>h')
    refine wpAny_bind (wpAny_mono h₁' (fun _ s₂ h₂=>wpAny_bind (wpAny_mono h₂ (fun ok s₃ h₃=>?_) fun _ _ h'=>h')) fun _ _ h'=>h')
    cases ok with
    | false=>exact wpAny_pure ⟨rfl,h₃⟩
    | true=>
      exact wpAny_bind (wpAny_bind (wpAny_mono h₃ (fun x s₄ h₄=>wpAny_bind (wpAny_mono h₄ (fun _ s₅ h₅=>wpAny_pure (wpAny_pure ⟨rfl,h₅⟩)) fun _ _ h'=>h')) fun _ _ h'=>h'))
section
variable {X:Cx}
theorem zhN {tg elt iter:Expr} {ifs:List Expr} {scope:Scope} {cl:List (Str × Addr)} {pos:Pos} {tgs:List Str} {caps:List (Str × Nat)} {wi:TI} {g:TG} {tc:TT} {te:TE}
    (hc:X.calm = true) (hi:PI X tg iter wi) (hclos:closureFor scope X.env = pure cl) (hcell:∀ y ∈ scope.names,y.2 = .cell->y.1 ∉ caps.map (·.1)) (hkind:scope.kind = .function)
    (hnames:∀ y ∈ scope.names,y.2 = .local->scope.names.lookup y.1 = some .local)
    (hcl:∀ y c,cl.lookup y = some c->X.env.cells.lookup y = some c)
    (hhas:∀ n y,((relabel scope X.env).names.lookup y = some .cell\/(relabel scope X.env).names.lookup y = some .free)->∃ c,(cellsFrom n scope.names cl).lookup y = some c)
    (hcap:∀ c ∈ caps,X.N[c.2]? = some c.1/\X.env.kindOf c.1 = some .cell/\((relabel scope X.env).names.lookup c.1 = some .cell\/(relabel scope X.env).names.lookup c.1 = some .free))
    (hg:∀ ex s0 H0,PG (X.block scope cl (tgs ++ caps.map (·.1)) ex s0 H0) tg g) (hif:∀ ex s0 H0,PTs (X.block scope cl (tgs ++ caps.map (·.1)) ex s0 H0) ifs tc) (hel:∀ ex s0 H0,PE (X.block scope cl (tgs ++ caps.map (·.1)) ex s0 H0) elt te)
    (hs:∀ x,foldedSetIterable iter X.env x = pure x:=by intro _;rfl) :
    PE X (.ListComp elt [⟨tg,iter,ifs,0⟩] scope pos) (zgg wi g tc te (zaf tgs caps)):=by
  intro pins s σ H Q I h
  rw [eval_ListComp]
  refine wpAny_comprehension_free (use:=none) rfl hs hclos hkind hnames (thn (hi pins s σ H _ I h) fun v s1 h1=>thn h1 fun itv s2 h2=>?_)
  obtain ⟨it,fp,tn,J,H2,e,I2,T,st2,f2,hrest⟩:=h2
  subst e
  -- the new list
  have hD:H2 s2.heap.objs.size = none:=I2.fresh
  obtain ⟨W,⟨m0,w0⟩,turn⟩:=hrest _ hD
  refine wpAny_newObj_type ?_ (by show 0<=sizeLine;decide)
  have I3:Inv X pins σ (upd H2 s2.heap.objs.size (.lst [])) { s2 with heap:=s2.heap.push { cls:=.type "list",data:=.seq ([]:List Value).toArray } }:=I2.lnew (t':=s2.toks) (ys:=[]) (its:=[]) .nil (by show 0<=sizeLine;decide)
  generalize hs3:({ s2 with heap:=s2.heap.push { cls:=.type "list",data:=.seq ([]:List Value).toArray } }:Shared) = s3 at I3
  have lt2:∀ b o,s2.heap.get? b = some o->s3.heap.get? b = some o:=fun b o e=>by rw [← hs3];exact Heap.get?_push_of_some _ e
  have sz3:s2.heap.objs.size < s3.heap.objs.size:=by rw [← hs3];show _ < (s2.heap.push _).objs.size;rw [Heap.size_push];exact Nat.lt_succ_self _
  have st3:tn 0 s3.heap:=T.keep 0 _ _ st2 fun b _ o e=>lt2 b o e
  have fplt:∀ b ∈ fp,b < s2.heap.objs.size:=fun b hb=>by
    obtain ⟨o,e,_⟩:=T.obj 0 _ st2 b hb
    exact Heap.lt_size e
  generalize hH3:upd H2 s2.heap.objs.size (.lst []) = H3 at I3 w0
  have fr3:∀ b ∈ fp,H3 b = none:=fun b hb=>by rw [← hH3,zm (Nat.ne_of_lt (fplt b hb))];exact (f2 b hb).1
  have nstk:∀ b ∈ fp,b ∉ frs X.stack:=fun b hb z=>by
    obtain ⟨_,n1,n2,_⟩:=f2 b hb
    rcases List.mem_cons.mp (I2.stkSub b z) with z | z
    · exact n1 z
    · exact n2 z
  refine yZ fun h4 ns4 sb4=>?_
  have keep4:∀ b o,s3.heap.get? b = some o->h4.get? b = some o:=fun b o e=>by rw [sb4];exact pushCells_keeps _ _ b o (Heap.get?_push_of_some _ e)
  have clt:∀ x c,cl.lookup x = some c->c < s3.heap.objs.size:=fun x c e=>by
    obtain ⟨v,q⟩:=I3.cell x c (hcl x c e)
    exact q.lt
  have cor:∀ x c,(cellsFrom (s3.heap.objs.size + 1) scope.names cl).lookup x = some c->cl.lookup x = some c\/s3.heap.objs.size + 1<=c:=fun x c e=>zgp _ _ _ e
  have cne:∀ b ∈ fp,∀ x c,(cellsFrom (s3.heap.objs.size + 1) scope.names cl).lookup x = some c->c ≠ b:=fun b hb x c e=>by
    rcases cor x c e with e | e
    · exact (f2 b hb).2.2.2.2.1 x c (hcl x c e)
    · exact Nat.ne_of_gt (Nat.lt_of_lt_of_le (Nat.lt_trans (fplt b hb) sz3) (Nat.le_of_succ_le e))
  have neC:∀ b ∈ fp,b ≠ s3.heap.objs.size:=fun b hb=>Nat.ne_of_lt (Nat.lt_trans (fplt b hb) sz3)
  have ok':(X.block scope cl (tgs ++ caps.map (·.1)) fp s3 H3).Ok:=
    ⟨I.ok.mod,hkind,I.ok.glob,I.ok.blt,Nat.le_refl _,zfa _ _ _ (fun x y c e1 e2=>I.ok.inj x y c (hcl x c e1) (hcl y c e2)) (fun x c e=>Nat.lt_succ_of_lt (clt x c e)),hhas _,(fun x c z e=>Nat.le_of_succ_le (ze8 _ _ _ (eq_of_beq z) e)),I.ok.hd,I.ok.frames,.inl rfl,
      fun b hb=>⟨neC b hb,cne b hb⟩,I3.bs,Nat.le_trans I.ok.bsz I3.sz,fun b o e hb=>by
        rcases (f2 b hb).2.2.2.1 with z | z
        · exact I.ok.noex b o e z
        · exact absurd (Nat.lt_of_lt_of_le (Heap.lt_size e) (Nat.le_trans I.ok.bsz z)) (Nat.lt_irrefl _),
      nstk,I3.stack,I3.stkFree⟩
  have I4:Inv (X.block scope cl (tgs ++ caps.map (·.1)) fp s3 H3) [] (zaf tgs caps σ) H3 { s3 with heap:=h4 }:=by
    refine ⟨ok',rfl,I3.bare,Un.kept keep4,⟨_,ns4,fun i x v e1 e2 e3=>?_⟩,fun x c e=>?_,I3.hok.fresh (Nat.le_refl _),fun x c e=>(cor x c e).elim (fun e=>I3.freeC x c (hcl x c e)) (fun e=>I3.hok.fresh (Nat.le_of_succ_le e)),fun p hp=>by simp [Cx.block] at hp,I3.hok.kept keep4,by simp [zaf,Cx.block]⟩
    · -- a captured name
      have hlen:(tgs.map (fun _=>(none:Option V))).length = tgs.length:=by simp
      by_cases hi:i < tgs.length
      · have:(zaf tgs caps σ)[i]? = some none:=by
          unfold zaf
          rw [List.getElem?_append_left (by simpa using hi)]
          simp [hi]
        rw [this] at e2
        cases e2
      · have e1':(tgs ++ caps.map (·.1))[i]? = some x:=e1
        rw [List.getElem?_append_right (by omega),List.getElem?_map] at e1'
        have e2':=e2
        unfold zaf at e2'
        rw [List.getElem?_append_right (by simpa using hi),hlen,List.getElem?_map] at e2'
        cases hcq:caps[i - tgs.length]? with
        | none=>rw [hcq] at e1';cases e1'
        | some cq=>
          rw [hcq] at e1' e2'
          have ex:cq.1 = x:=Option.some.inj e1'
          have ev:(σ[cq.2]?).join = some v:=Option.some.inj e2'
          obtain ⟨c1,c2,c3⟩:=hcap cq (List.mem_of_getElem? hcq)
          have ev':σ[cq.2]? = some (some v):=by
            cases q:σ[cq.2]? with
            | none=>rw [q] at ev;cases ev
            | some o=>rw [q] at ev;cases o with
              | none=>cases ev
              | some v'=>rw [show v' = v from Option.some.inj ev]
          obtain ⟨m,hn,hl⟩:=I3.loc
          obtain ⟨u,r,lk⟩:=hl cq.2 cq.1 v c1 ev' (.inr (.inl c2))
          rcases lk with ⟨k1,_⟩ | ⟨_,c,ec,icl⟩
          · rw [c2] at k1;cases k1
          · obtain ⟨c',ec'⟩:=hhas (s3.heap.objs.size + 1) cq.1 c3
            have ec2:=ec'
            rw [ze9 _ _ _ fun y hy hk hyx=>hcell y hy hk (by rw [hyx];exact List.mem_map_of_mem (List.mem_of_getElem? hcq))] at ec2
            have:=hcl _ _ ec2
            rw [ec] at this
            cases this
            refine ⟨u,r,.inr ⟨?_,c,?_,?_⟩⟩
            · rw [← ex];exact c3
            · rw [← ex];exact ec'
            · obtain ⟨o,ho,hd⟩:=icl
              exact ⟨o,keep4 _ _ ho,hd⟩
    · show ∃ v,h4.IsCell c v
      rw [sb4]
      refine zed scope.names _ cl (fun x c f=>?_) x c (by rw [Heap.size_push];exact e)
      obtain ⟨v,o,ho,hd⟩:=I3.cell x c (hcl x c f)
      exact ⟨v,o,Heap.get?_push_of_some _ ho,hd⟩
  have stat:∀ {H':Hp},(∀ b ∈ fp,H' b = none)->∀ b ∈ fp,zcg (X.block scope cl (tgs ++ caps.map (·.1)) fp s3 H3) [] H' b:=fun hn b hb=>
    ⟨hn b hb,neC b hb,nstk b hb,.inl hb,cne b hb,fun p hp=>by simp [Cx.block] at hp⟩
  have st4:tn 0 h4:=T.keep 0 _ _ st3 fun b _ o e=>keep4 b o e
  have loop:codeAny (model X.prog X.w) X.A (.compLoop (.ListComp elt [⟨tg,iter,ifs,0⟩] scope pos) 0 (.ref it) (.ref s2.heap.objs.size) (zeI scope cl s3.heap.objs.size X.env))
      (compPost (model X.prog X.w) X.A X.xe none (EP X pins σ Q) (.ref s2.heap.objs.size) s3.heap.objs.size) { s3 with heap:=h4 }:=by
    refine za5 (fun n s'=>∃ i σ' H',Inv (X.block scope cl (tgs ++ caps.map (·.1)) fp s3 H3) [] σ' H' s'/\tn i s'.heap/\(∀ b ∈ fp,H' b = none)/\W i n σ' H') ?_ m0 ⟨0,_,H3,I4,st4,fr3,w0⟩
    rintro n s5 ⟨i,σ5,H5,I5,st5,fr5,w5⟩
    rcases turn i n σ5 H5 w5 with ⟨stop,qn⟩ | ⟨go,N,hN,step⟩
    · refine wpAny_mono (T.done (X.block scope cl (tgs ++ caps.map (·.1)) fp s3 H3) rfl rfl rfl hc i [] s5 σ5 H5 (fun _ _=>False) I5 (stat fr5) st5 stop) (fun r s6 ⟨hr,I6⟩=>?_) fun _ _ z=>False.elim z
      subst hr
      obtain ⟨m6,hn6,_⟩:=I6.loc
      refine ⟨m6,hn6,fun h' sb=>?_⟩
      have nb:∀ b o,s3.heap.get? b = some o->b ≠ s3.heap.objs.size:=fun b o e=>Nat.ne_of_lt (Heap.lt_size e)
      have eqb:∀ b,b ≠ s3.heap.objs.size->h'.get? b = s6.heap.get? b:=fun b hb=>sb.2 b hb
      have uX:Un (frs X.stack) fp H3 H5 s3.heap h':=by
        have u:=I6.base
        refine ⟨fun b o e a1 a2 a3=>?_,fun b o e a1 a2 a3=>?_,u.free,fun b o e a3=>?_,u.tups,u.frzs,u.tbls⟩
        · rw [eqb b (nb b o e)];exact u.keep b o e a1 a2 a3
        · rw [eqb b (nb b o e)];exact u.slot b o e a1 a2 a3
        · rw [eqb b (nb b o e)];exact u.there b o e a3
      have hokX:HOk X.prog X.w H5 h':=fun a o e=>(I6.hok a o e).stay (fun b u hb eu=>by
        have hbC:b ≠ s3.heap.objs.size:=fun z=>by
          have hfC:H5 s3.heap.objs.size = none:=I6.free
          rcases hb with rfl | hb
          · rw [z,hfC] at e;cases e
          · rw [z,hfC] at hb;cases hb
        rw [eqb b hbC];exact eu) (fun _ q=>q) fun _ _ q=>q
      have os6:s6.os = s3.os:=I6.os
      exact ⟨.ref s2.heap.objs.size,H5,I3.call' (s':={ s6 with heap:=h' }) (ch:=fp) os6 uX hokX I6.bare (fun b hb=>⟨(f2 b hb).2.2.2.1,(f2 b hb).2.1,(f2 b hb).2.2.2.2.1,(f2 b hb).2.2.2.2.2⟩),rfl,qn⟩
    · refine wpAny_mono (T.item (X.block scope cl (tgs ++ caps.map (·.1)) fp s3 H3) rfl rfl rfl hc i [] s5 σ5 H5 (fun _ _=>False) I5 (stat fr5) st5 go) (fun r s6 ⟨u,hr,h6⟩=>?_) fun _ _ z=>False.elim z
      subst hr
      refine wpAny_mono h6 (fun _ s7 ⟨x,H7,I7,r7,y7,st7,fr7⟩=>?_) fun _ _ z=>False.elim z
      have I7':=I7.pinned (stat fr7) (T.obj _ _ st7)
      have again:∀ {s9:Shared} {σ9:St} {H9:Hp},Inv (X.block scope cl (tgs ++ caps.map (·.1)) fp s3 H3) ([] ++ zcA fp s7.heap) σ9 H9 s9->N σ9 H9->
          ∃ m,m < n/\∃ i σ' H',Inv (X.block scope cl (tgs ++ caps.map (·.1)) fp s3 H3) [] σ' H' s9/\tn i s9.heap/\(∀ b ∈ fp,H' b = none)/\W i m σ' H':=fun {s9 σ9 H9} I9 n9=>by
        obtain ⟨m',hm,w9⟩:=hN σ9 H9 n9
        refine ⟨m',hm,i + 1,σ9,H9,I9.unpinned,T.keep _ _ _ st7 fun b hb o e=>(I9.pin (b,o) (List.mem_append_right _ (List.mem_append_right _ (zaq hb e)))).1,fun b hb=>?_,w9⟩
        obtain ⟨o,e,d⟩:=T.obj _ _ st7 b hb
        exact (I9.pin (b,o) (List.mem_append_right _ (List.mem_append_right _ (zaq hb e)))).2.1
      refine wpAny_mono (hg fp s3 H3 _ s7 σ5 H7 x u _ I7' r7 (step x H7 y7)) (fun _ s8 ⟨σ8,H8,I8,q8⟩=>?_) fun _ _ z=>False.elim z
      refine wpAny_mono (hif fp s3 H3 _ s8 σ8 H8 _ I8 q8) (fun b s9 ⟨H9,I9,q9⟩=>?_) fun _ _ z=>False.elim z
      cases b with
      | false=>
        rw [if_neg Bool.false_ne_true] at q9
        rw [if_neg Bool.false_ne_true]
        exact again I9 q9
      | true=>
        rw [if_pos rfl] at q9
        rw [if_pos rfl]
        refine wpAny_mono (hel fp s3 H3 _ s9 σ8 H9 _ I9 q9) (fun xv s10 ⟨v,H10,I10,rv,ys,hy,hl,q10⟩=>?_) fun _ _ z=>False.elim z
        refine wpAny_mono (zaQ (X:=X.block scope cl (tgs ++ caps.map (·.1)) fp s3 H3) _ s10 σ8 H10 (.ref s2.heap.objs.size) [v] (.ref s2.heap.objs.size) [xv] (fun _ H11=>N σ8 H11) I10 rfl (.cons rv .nil) ⟨_,ys,v,rfl,rfl,hy,hl,q10⟩) (fun _ s11 ⟨_,H11,I11,_,q11⟩=>again I11 q11) fun _ _ z=>False.elim z
  exact codeAny_compStart_list loop (T.self _ 0 _ _ _ st4 loop)
end
end L2
namespace L2
open PySem PySem.Spec PyProof.Rows
noncomputable def Each {α:Type} (P:α->Prop):List α->Prop
  | []=>True
  | a :: l=>P a/\Each P l
theorem Each.of {α:Type} {P:α->Prop}:∀ {l:List α},Each P l->∀ a ∈ l,P a
  | _ :: _,⟨h,_⟩,_,.head _=>h
  | _ :: _,⟨_,h⟩,_,.tail _ m=>Each.of h _ m
theorem lookup_mem {l:List (Str × NameKind)} {y:Str} {k:NameKind} (h:l.lookup y = some k):(y,k) ∈ l:=by
  induction l with
  | nil=>cases h
  | cons p l ih=>
    obtain ⟨n,k'⟩:=p
    rw [List.lookup_cons] at h
    cases e:y == n with
    | true=>
      rw [e] at h
      cases h
      rw [eq_of_beq e]
      exact .head _
    | false=>
      rw [e] at h
      exact .tail _ (ih h)
theorem zoe {l:List (Str × NameKind)} {cl:List (Str × Addr)} (h:Each (fun p=>(p.2 = .cell\/p.2 = .free)->∃ c,cl.lookup p.1 = some c) l) (y:Str) (q:l.lookup y = some .cell\/l.lookup y = some .free):∃ c,cl.lookup y = some c:=by
  rcases q with q | q
  · exact h.of _ (lookup_mem q) (.inl rfl)
  · exact h.of _ (lookup_mem q) (.inr rfl)
theorem PI.or {X:Cx} {tg iter:Expr} {wi wi':TI} (h:PI X tg iter wi) (h':PI X tg iter wi'):PI X tg iter (fun σ H R=>wi σ H R\/wi' σ H R):=fun pins s σ H R I q=>q.elim (h pins s σ H R I) (h' pins s σ H R I)
end L2
namespace L2
open PySem PySem.Spec PyProof.Rows
section
variable {X:Cx}
noncomputable def zo6 (K:PySem.W.Frag):R2:=fun x y H Q=>∃ a b xs ys,x = .ref a/\y = .ref b/\SqT K H a xs/\SqT K H b ys/\xs.length + ys.length<=sizeLine /\
  (xs = []->Q (.ref b) H)/\(xs ≠ []->ys = []->Q (.ref a) H)/\(xs ≠ []->ys ≠ []->∀ p,H p = none->Q (.ref p) (upd H p (.tup (xs ++ ys))))
theorem zmk:OpR X (binaryOp .Add) (zo6 X.K):=by
  intro pins s σ H x y v u Q I rx ry h
  obtain ⟨a,b,xs,ys,rfl,rfl,ha,hb,hz,q0,q1,q2⟩:=h
  by_cases hx:xs = []
  · cases rx
    cases ry
    obtain ⟨its,r1,p1,_⟩:=I.tuple ha
    obtain ⟨its2,r2,p2,_⟩:=I.tuple hb
    obtain ⟨⟨cls,dd,data,sl⟩,ho,hc,n,hd⟩:=id p1
    obtain ⟨⟨cls2,dd2,data2,sl2⟩,ho2,hc2,n2,hd2⟩:=id p2
    simp only at hc hd hc2 hd2
    subst hc hd hc2 hd2
    have e:its = []:=r1.nil_iff.mpr hx
    exact concat_meets ⟨_,ho,rfl⟩ ⟨_,ho2,rfl⟩ noFill_tuple_add seq_tuple_add PySem.F.slot_tuple_add PySem.F.entry_tuple_add (PySem.F.args_tuple_add_2 _ _)
      (tuple_addW0 a b its.toArray its2.toArray n n2 dd dd2 sl sl2 (by simp [e])) ⟨ho,ho2,⟨.ref b,H,I,rfl,q0 hx⟩⟩
  · exact zmi pins s σ H _ _ v u Q I rx ry ⟨a,b,xs,ys,rfl,rfl,ha,hb,hx,hz,q1 hx,q2 hx⟩
end
end L2
namespace HT
open PySem PySem.Spec PyProof.Rows
section
variable {prog:Program} {w:World} {A:Around} {E:Value->Shared->Prop} {s:Shared}
theorem zdl {t sl:Addr} {items:Array Value} {vl vu:Value} {lo hi:Option Int} {Q:Value->Shared->Prop} (ht:IsTup s.heap t items) (hs:s.heap.IsSliceOf sl vl vu .none) (pl:IsPart vl lo) (pu:IsPart vu hi)
    (hw:sIx items.size 0 lo = 0/\sIx items.size items.size hi = items.size) (h:Q (.ref t) s):wpAny (model prog w) A (getItem (.ref t) (.ref sl)) Q E s:=by
  obtain ⟨os,hos,hcs,hds⟩:=id hs
  have hTs:s.TypeIs (.ref sl) "slice":=⟨os,hos,hcs⟩
  unfold getItem
  try with_reducible refine wpAny_holding ?_
  first | refine wpAny_bind (wpAny_pure ?_) | skip
  refine wpAny_bind (wpAny_sequenceKey ht.typeIs (by decide) ?_)
  refine wpAny_bind (wpAny_callSpecial?_slot (name:=Str.ofString "__getitem__") ht.typeIs PyProof.Rows.slot_tuple_getitem
    (wpAny_call_entry PyProof.Rows.slot_tuple_getitem ht.typeIs entry_tuple_getitem ?_ (args_tuple_getitem _ _)))
  show wpAny _ _ (Builtin.Tuple.tupleItemsOf (.ref t) >>= _) _ _ s
  refine wpAny_bind (tupleItemsOf_ ht ?_)
  refine wpAny_bind (wpAny_typeOf hTs ?_)
  rw [if_pos (by decide)]
  refine wpAny_bind (zbX hs pl pu ?_)
  have hyes:(((sIx items.size 0 lo:Nat):Int) == 0 && (1:Int) == 1 && (sIx items.size items.size hi - sIx items.size 0 lo) == items.size) = true:=by
    rw [hw.1,hw.2];simp
  show wpAny _ _ (if (((sIx items.size 0 lo:Nat):Int) == 0 && (1:Int) == 1 && (sIx items.size items.size hi - sIx items.size 0 lo) == items.size) = true then _ else _) _ _ s
  rw [if_pos hyes]
  refine wpAny_bind ?_
  unfold Builtin.Tuple.tupleIsExact
  refine wpAny_bind (wpAny_typeOf ht.typeIs (wpAny_pure ?_))
  rw [if_pos (by decide)]
  exact wpAny_bind (wpAny_rule (wpAny_pure ⟨_,rfl,wpAny_pure h⟩))
end
end HT
namespace L2
open PySem PySem.Spec PyProof.Rows
section
variable {X:Cx}
noncomputable def zpS (K:PySem.W.Frag):V->Option Int->Option Int->Hp->VK->Prop:=fun x lo hi H Q=>∃ a xs,x = .ref a/\SqT K H a xs /\
  ((HT.sIx xs.length 0 lo = 0/\HT.sIx xs.length xs.length hi = xs.length)->Q (.ref a) H)/\(¬ (HT.sIx xs.length 0 lo = 0/\HT.sIx xs.length xs.length hi = xs.length)->∀ p,H p = none->Q (.ref p) (upd H p (.tup (cutV xs lo hi))))
theorem zlR:SlR X (zpS X.K):=by
  intro pins s σ H x v vl vu lo hi sl Q I rx hs pl pu h
  obtain ⟨a,xs,rfl,hx,q1,q2⟩:=h
  by_cases hw:HT.sIx xs.length 0 lo = 0/\HT.sIx xs.length xs.length hi = xs.length
  · cases rx
    obtain ⟨its,r,ht,hz⟩:=I.tuple hx
    have hlen:its.toArray.size = xs.length:=by rw [List.size_toArray];exact r.length.symm
    refine ⟨"tuple",_,PyProof.Rows.slot_tuple_getitem.lookup,ht.typeIs,?_⟩
    refine HT.zdl ht hs pl pu (by rw [hlen];exact hw) ⟨.ref a,H,I,rfl,q1 hw⟩
  · exact znb pins s σ H _ v vl vu lo hi sl Q I rx hs pl pu ⟨a,xs,rfl,hx,hw,q2 hw⟩
theorem zey:fillsNumberSlot (.type "tuple") "mul" = pure false:=
  PySem.fillsNumberSlot_seq (id:="tuple.__mul__") (r:=some (.builtin "tuple.__rmul__")) PySem.F.slot_tuple_mul.lookup (by decide +kernel) PySem.F.slot_tuple_rmul.lookup (by decide +kernel)
theorem zgI:seqRepeat? (.type "tuple") = pure (some (.builtin "tuple.__mul__")):=by
  unfold seqRepeat?
  rw [PySem.seqSlot_of (T:="tuple") (name:="__mul__") (id:="tuple.__mul__") PySem.F.slot_tuple_mul.lookup (by decide +kernel),PySem.seqSlot_of (T:="tuple") (name:="__rmul__") (id:="tuple.__rmul__") PySem.F.slot_tuple_rmul.lookup (by decide +kernel)]
  rfl
theorem zfn (a:Int) (t:Tok) (l:Addr) (items:Array Value) (n:Nat) (dd:Option Addr) (sl:Array (Option Value)) :
    Meets (Builtin.«int.__rmul__» ⟨[.int a t,.ref l],[]⟩) (fun _ R s=>s.heap.get? l = some { cls:=.type "tuple",dict:=dd,data:=.seq items n,slots:=sl }/\R (.ok (.ret Value.notImplemented)) s):=
  .of_wp fun prog w A R s h=>by obtain ⟨hp,g,d,tk,os⟩:=s;obtain ⟨hl,h⟩:=h;wp_walk;exact ⟨_,rfl,h⟩
theorem zij (l:Addr) (items:Array Value) (n:Nat) (x:Int) (u:Tok) (dd:Option Addr) (sl:Array (Option Value)) (h0:items.isEmpty = false) (h1:2<=x) (h2:x < 2 ^ 63) (h3:items.size * x.toNat<=sizeLine) :
    Meets (Builtin.«tuple.__mul__» ⟨[.ref l,.int x u],[]⟩) (fun _ R s=>s.heap.get? l = some { cls:=.type "tuple",dict:=dd,data:=.seq items n,slots:=sl }/\R (.ok (.ret (Value.ref s.heap.objs.size))) { s with heap:=s.heap.push { cls:=Value.type "tuple",data:=Data.seq (List.foldl (fun x1 x2=>x1 ++ x2) #[] (List.replicate x.toNat items)) },toks:=s.toks }):=
  .of_wp fun prog w A R s h=>by
    obtain ⟨hp,g,d,tk,os⟩:=s;obtain ⟨hl,h⟩:=h
    have f1:=AutoSeq1.idx_int
    have hA:¬(decide (x < -2 ^ 63) || decide (x ≥ 2 ^ 63)) = true:=by simp;omega
    have hB:¬(items.isEmpty || x == 1) = true:=by rw [h0];simp;omega
    have hC:¬(decide (x<=0) || items.isEmpty) = true:=by rw [h0];simp;omega
    have hm:((items.size:Nat):Int) * x = ((items.size * x.toNat:Nat):Int):=by
      rw [Int.natCast_mul,Int.toNat_of_nonneg (by omega)]
    have hs2:(sizeLine:Nat)<=(2 ^ 63 - 1) / 8:=by decide
    have hD:¬((items.size:Nat):Int) * x > (2 ^ 63 - 1) / 8:=by rw [hm];omega
    have hE:¬Builtin.Tuple.tupleTooMany (((items.size:Nat):Int) * x) = true:=by
      rw [hm]
      show ¬ decide (((items.size * x.toNat:Nat):Int) > ((sizeLine:Nat):Int)) = true
      rw [decide_eq_true_iff];omega
    have hT:IsTup hp l items:=⟨_,hl,rfl,n,rfl⟩
    wp_walk using wpAny_loadPart' hl
    rw [if_neg hA]
    refine wpAny_bind (tupleItemsOf_ hT ?_)
    show wpAny _ _ (if (items.isEmpty || x == 1) = true then _ else _) _ _ _
    rw [if_neg hB]
    show wpAny _ _ (if (decide (x<=0) || items.isEmpty) = true then _ else _) _ _ _
    rw [if_neg hC]
    show wpAny _ _ (if ((items.size:Nat):Int) * x > (2 ^ 63 - 1) / 8 then _ else _) _ _ _
    rw [if_neg hD]
    show wpAny _ _ (if Builtin.Tuple.tupleTooMany (((items.size:Nat):Int) * x) = true then _ else _) _ _ _
    rw [if_neg hE]
    have hj:(List.foldl (fun x1 x2=>x1 ++ x2) #[] (List.replicate x.toNat items)).size<=sizeLine:=by
      have:=foldl_rep items.toList x.toNat []
      rw [List.nil_append,Array.toArray_toList] at this
      rw [this,List.size_toArray,len_rep,Nat.mul_comm,Array.length_toList]
      exact h3
    exact wpAny_bind (m:=Builtin.Tuple.tupleExact _) (wpAny_newObj_type (wpAny_pure ⟨_,rfl,h⟩) hj)
noncomputable def zo3 (K:PySem.W.Frag):R2:=fun x y H Q=>∃ l k xs,x = .ref l/\y = .int k/\SqT K H l xs/\xs ≠ []/\2<=k/\k < 2 ^ 63/\xs.length * k.toNat<=sizeLine /\
  ∀ p,H p = none->Q (.ref p) (upd H p (.tup (List.replicate k.toNat xs).flatten))
theorem zmd:OpR X (binaryOp .Mult) (zo3 X.K):=by
  intro pins s σ H x y v u Q I rx ry h
  obtain ⟨l,k,xs,rfl,rfl,hH,hx,h1,h2,hz,q⟩:=h
  cases rx
  obtain ⟨t,rfl⟩:=ry
  obtain ⟨its,r,pl,_⟩:=I.tuple hH
  have hl:=r.length
  obtain ⟨⟨cls,dd,data,sl⟩,ho,hc,n,hd⟩:=id pl
  simp only at hc hd
  subst hc hd
  have hlen:its.toArray.size * k.toNat<=sizeLine:=by rw [List.size_toArray,← hl];exact hz
  have hne:its.toArray.isEmpty = false:=by
    cases its with
    | nil=>exact absurd (r.nil_iff.mp rfl) hx
    | cons a b=>rfl
  have hnew:List.foldl (fun x1 x2=>x1 ++ x2) #[] (List.replicate k.toNat its.toArray) = (List.replicate k.toNat its).flatten.toArray:=by
    have:=foldl_rep its k.toNat []
    rw [List.nil_append] at this
    exact this
  refine wpAny_binaryOp_repeat_ref (T:="tuple") (U:="int") (by decide) ⟨_,ho,rfl⟩ (fun s'=>typeIs_int s' k t) zey F.fills_int_mul F.slot_int_rmul zgI F.slot_int_index.lookup
    (call_meets F.slot_int_rmul (typeIs_int s k t) F.entry_int_rmul (F.args_int_rmul_2 _ _) (zfn k t l its.toArray n dd sl)
      ⟨ho,rfl,⟨_,ho,rfl⟩,call_meets F.slot_tuple_mul ⟨_,ho,rfl⟩ F.entry_tuple_mul (F.args_tuple_mul_2 _ _) (zij l its.toArray n k t dd sl hne h1 h2 hlen) ⟨ho,?_⟩⟩)
  rw [hnew]
  refine ⟨.ref s.heap.objs.size,_,I.laid (t':=s.toks) (o:=.tup (List.replicate k.toNat xs).flatten) (fun b ob q=>Heap.get?_push_of_some _ q) (Nat.le_refl _) ?_,rfl,q _ (I.hok.fresh (Nat.le_refl _))⟩
  exact ⟨by rw [len_rep,Nat.mul_comm];exact hz,_,r.rep k.toNat,IsTup.new _ _,NoDict.new⟩
end
end L2
namespace L2
open PySem PySem.Spec PyProof.Rows
section
variable {X:Cx}
theorem zbG {i0:Nat} {y0:Str} {py spos:Pos} {tg elt iter:Expr} {ifs:List Expr} {scope:Scope} {cl:List (Str × Addr)} {pos:Pos} {tgs:List Str} {caps:List (Str × Nat)} {wi:TI} {g:TG} {tc:TT} {te:TE}
    (hc:X.calm = true) (hi:PI X tg iter wi) (hclos:closureFor scope X.env = pure cl) (hcell:∀ y ∈ scope.names,y.2 = .cell->y.1 ∉ caps.map (·.1)) (hkind:scope.kind = .function)
    (hnames:∀ y ∈ scope.names,y.2 = .local->scope.names.lookup y.1 = some .local)
    (hcl:∀ y c,cl.lookup y = some c->X.env.cells.lookup y = some c)
    (hhas:∀ n y,((relabel scope X.env).names.lookup y = some .cell\/(relabel scope X.env).names.lookup y = some .free)->∃ c,(cellsFrom n scope.names cl).lookup y = some c)
    (hcap:∀ c ∈ caps,X.N[c.2]? = some c.1/\X.env.kindOf c.1 = some .cell/\((relabel scope X.env).names.lookup c.1 = some .cell\/(relabel scope X.env).names.lookup c.1 = some .free))
    (hg:∀ ex s0 H0,PG (X.block scope cl (tgs ++ caps.map (·.1)) ex s0 H0) tg g) (hif:∀ ex s0 H0,PTs (X.block scope cl (tgs ++ caps.map (·.1)) ex s0 H0) ifs tc) (hel:∀ ex s0 H0,PE (X.block scope cl (tgs ++ caps.map (·.1)) ex s0 H0) elt te)
    (hN0:X.N.Nodup) (hi0:X.N[i0]? = some y0) (hx0:Loc X.env.scope y0)
    (hsw:swapsWith (.ListComp elt [⟨tg,iter,ifs,0⟩] scope pos) (some (.Name y0 py)) spos.line X.env = pure true:=by rfl)
    (hf0:X.fn y0 = true\/X.env.scope.names.lookup y0 = some .local:=by first | exact .inl rfl | exact .inr rfl | assumption)
    (hs:∀ x,foldedSetIterable iter X.env x = pure x:=by intro _;rfl) :
    PS X (.Assign [.Name y0 py] (.ListComp elt [⟨tg,iter,ifs,0⟩] scope pos) spos) (fun D σ H=>zgg wi g tc te (zaf tgs caps) σ H fun v H'=>D.nx (σ.set i0 (some v)) H'):=by
  intro pins s σ H DD I h
  rw [exec_Assign_Name_used _ _ _ _ hsw]
  refine wpAny_bind (wpAny_standAt (wpAny_bind ?_))
  show wpAny _ X.A (do let _ ← comprehension (.ListComp elt [⟨tg,iter,ifs,0⟩] scope pos) scope X.env _ (newList []) false (eval iter X.env) (some (assign (.Name y0 py) X.env))) _ _ s
  refine wpAny_bind (wpAny_mono (wpAny_comprehension_free (use:=some (assign (.Name y0 py) X.env)) (Q:=fun _ s'=>SP X pins DD .next s') rfl hs hclos hkind hnames
    (thn (hi pins s σ H _ I h) fun v s1 h1=>thn h1 fun itv s2 h2=>?_)) (fun _ s' hq=>wpAny_pure (wpAny_pure hq)) fun _ _ e=>e)
  obtain ⟨it,fp,tn,J,H2,e,I2,T,st2,f2,hrest⟩:=h2
  subst e
  -- the new list
  have hD:H2 s2.heap.objs.size = none:=I2.fresh
  obtain ⟨W,⟨m0,w0⟩,turn⟩:=hrest _ hD
  refine wpAny_newObj_type ?_ (by show 0<=sizeLine;decide)
  have I3:Inv X pins σ (upd H2 s2.heap.objs.size (.lst [])) { s2 with heap:=s2.heap.push { cls:=.type "list",data:=.seq ([]:List Value).toArray } }:=I2.lnew (t':=s2.toks) (ys:=[]) (its:=[]) .nil (by show 0<=sizeLine;decide)
  generalize hs3:({ s2 with heap:=s2.heap.push { cls:=.type "list",data:=.seq ([]:List Value).toArray } }:Shared) = s3 at I3
  have lt2:∀ b o,s2.heap.get? b = some o->s3.heap.get? b = some o:=fun b o e=>by rw [← hs3];exact Heap.get?_push_of_some _ e
  have sz3:s2.heap.objs.size < s3.heap.objs.size:=by rw [← hs3];show _ < (s2.heap.push _).objs.size;rw [Heap.size_push];exact Nat.lt_succ_self _
  have st3:tn 0 s3.heap:=T.keep 0 _ _ st2 fun b _ o e=>lt2 b o e
  have fplt:∀ b ∈ fp,b < s2.heap.objs.size:=fun b hb=>by
    obtain ⟨o,e,_⟩:=T.obj 0 _ st2 b hb
    exact Heap.lt_size e
  generalize hH3:upd H2 s2.heap.objs.size (.lst []) = H3 at I3 w0
  have fr3:∀ b ∈ fp,H3 b = none:=fun b hb=>by rw [← hH3,zm (Nat.ne_of_lt (fplt b hb))];exact (f2 b hb).1
  have nstk:∀ b ∈ fp,b ∉ frs X.stack:=fun b hb z=>by
    obtain ⟨_,n1,n2,_⟩:=f2 b hb
    rcases List.mem_cons.mp (I2.stkSub b z) with z | z
    · exact n1 z
    · exact n2 z
  refine yZ fun h4 ns4 sb4=>?_
  have keep4:∀ b o,s3.heap.get? b = some o->h4.get? b = some o:=fun b o e=>by rw [sb4];exact pushCells_keeps _ _ b o (Heap.get?_push_of_some _ e)
  have clt:∀ x c,cl.lookup x = some c->c < s3.heap.objs.size:=fun x c e=>by
    obtain ⟨v,q⟩:=I3.cell x c (hcl x c e)
    exact q.lt
  have cor:∀ x c,(cellsFrom (s3.heap.objs.size + 1) scope.names cl).lookup x = some c->cl.lookup x = some c\/s3.heap.objs.size + 1<=c:=fun x c e=>zgp _ _ _ e
  have cne:∀ b ∈ fp,∀ x c,(cellsFrom (s3.heap.objs.size + 1) scope.names cl).lookup x = some c->c ≠ b:=fun b hb x c e=>by
    rcases cor x c e with e | e
    · exact (f2 b hb).2.2.2.2.1 x c (hcl x c e)
    · exact Nat.ne_of_gt (Nat.lt_of_lt_of_le (Nat.lt_trans (fplt b hb) sz3) (Nat.le_of_succ_le e))
  have neC:∀ b ∈ fp,b ≠ s3.heap.objs.size:=fun b hb=>Nat.ne_of_lt (Nat.lt_trans (fplt b hb) sz3)
  have ok':(X.block scope cl (tgs ++ caps.map (·.1)) fp s3 H3).Ok:=
    ⟨I.ok.mod,hkind,I.ok.glob,I.ok.blt,Nat.le_refl _,zfa _ _ _ (fun x y c e1 e2=>I.ok.inj x y c (hcl x c e1) (hcl y c e2)) (fun x c e=>Nat.lt_succ_of_lt (clt x c e)),hhas _,(fun x c z e=>Nat.le_of_succ_le (ze8 _ _ _ (eq_of_beq z) e)),I.ok.hd,I.ok.frames,.inl rfl,
      fun b hb=>⟨neC b hb,cne b hb⟩,I3.bs,Nat.le_trans I.ok.bsz I3.sz,fun b o e hb=>by
        rcases (f2 b hb).2.2.2.1 with z | z
        · exact I.ok.noex b o e z
        · exact absurd (Nat.lt_of_lt_of_le (Heap.lt_size e) (Nat.le_trans I.ok.bsz z)) (Nat.lt_irrefl _),
      nstk,I3.stack,I3.stkFree⟩
  have I4:Inv (X.block scope cl (tgs ++ caps.map (·.1)) fp s3 H3) [] (zaf tgs caps σ) H3 { s3 with heap:=h4 }:=by
    refine ⟨ok',rfl,I3.bare,Un.kept keep4,⟨_,ns4,fun i x v e1 e2 e3=>?_⟩,fun x c e=>?_,I3.hok.fresh (Nat.le_refl _),fun x c e=>(cor x c e).elim (fun e=>I3.freeC x c (hcl x c e)) (fun e=>I3.hok.fresh (Nat.le_of_succ_le e)),fun p hp=>by simp [Cx.block] at hp,I3.hok.kept keep4,by simp [zaf,Cx.block]⟩
    · -- a captured name
      have hlen:(tgs.map (fun _=>(none:Option V))).length = tgs.length:=by simp
      by_cases hi:i < tgs.length
      · have:(zaf tgs caps σ)[i]? = some none:=by
          unfold zaf
          rw [List.getElem?_append_left (by simpa using hi)]
          simp [hi]
        rw [this] at e2
        cases e2
      · have e1':(tgs ++ caps.map (·.1))[i]? = some x:=e1
        rw [List.getElem?_append_right (by omega),List.getElem?_map] at e1'
        have e2':=e2
        unfold zaf at e2'
        rw [List.getElem?_append_right (by simpa using hi),hlen,List.getElem?_map] at e2'
        cases hcq:caps[i - tgs.length]? with
        | none=>rw [hcq] at e1';cases e1'
        | some cq=>
          rw [hcq] at e1' e2'
          have ex:cq.1 = x:=Option.some.inj e1'
          have ev:(σ[cq.2]?).join = some v:=Option.some.inj e2'
          obtain ⟨c1,c2,c3⟩:=hcap cq (List.mem_of_getElem? hcq)
          have ev':σ[cq.2]? = some (some v):=by
            cases q:σ[cq.2]? with
            | none=>rw [q] at ev;cases ev
            | some o=>rw [q] at ev;cases o with
              | none=>cases ev
              | some v'=>rw [show v' = v from Option.some.inj ev]
          obtain ⟨m,hn,hl⟩:=I3.loc
          obtain ⟨u,r,lk⟩:=hl cq.2 cq.1 v c1 ev' (.inr (.inl c2))
          rcases lk with ⟨k1,_⟩ | ⟨_,c,ec,icl⟩
          · rw [c2] at k1;cases k1
          · obtain ⟨c',ec'⟩:=hhas (s3.heap.objs.size + 1) cq.1 c3
            have ec2:=ec'
            rw [ze9 _ _ _ fun y hy hk hyx=>hcell y hy hk (by rw [hyx];exact List.mem_map_of_mem (List.mem_of_getElem? hcq))] at ec2
            have:=hcl _ _ ec2
            rw [ec] at this
            cases this
            refine ⟨u,r,.inr ⟨?_,c,?_,?_⟩⟩
            · rw [← ex];exact c3
            · rw [← ex];exact ec'
            · obtain ⟨o,ho,hd⟩:=icl
              exact ⟨o,keep4 _ _ ho,hd⟩
    · show ∃ v,h4.IsCell c v
      rw [sb4]
      refine zed scope.names _ cl (fun x c f=>?_) x c (by rw [Heap.size_push];exact e)
      obtain ⟨v,o,ho,hd⟩:=I3.cell x c (hcl x c f)
      exact ⟨v,o,Heap.get?_push_of_some _ ho,hd⟩
  have stat:∀ {H':Hp},(∀ b ∈ fp,H' b = none)->∀ b ∈ fp,zcg (X.block scope cl (tgs ++ caps.map (·.1)) fp s3 H3) [] H' b:=fun hn b hb=>
    ⟨hn b hb,neC b hb,nstk b hb,.inl hb,cne b hb,fun p hp=>by simp [Cx.block] at hp⟩
  have st4:tn 0 h4:=T.keep 0 _ _ st3 fun b _ o e=>keep4 b o e
  have loop:codeAny (model X.prog X.w) X.A (.compLoop (.ListComp elt [⟨tg,iter,ifs,0⟩] scope pos) 0 (.ref it) (.ref s2.heap.objs.size) (zeI scope cl s3.heap.objs.size X.env))
      (compPost (model X.prog X.w) X.A X.xe (some (assign (.Name y0 py) X.env)) (fun _ s'=>SP X pins DD .next s') (.ref s2.heap.objs.size) s3.heap.objs.size) { s3 with heap:=h4 }:=by
    refine za5 (fun n s'=>∃ i σ' H',Inv (X.block scope cl (tgs ++ caps.map (·.1)) fp s3 H3) [] σ' H' s'/\tn i s'.heap/\(∀ b ∈ fp,H' b = none)/\W i n σ' H') ?_ m0 ⟨0,_,H3,I4,st4,fr3,w0⟩
    rintro n s5 ⟨i,σ5,H5,I5,st5,fr5,w5⟩
    rcases turn i n σ5 H5 w5 with ⟨stop,qn⟩ | ⟨go,N,hN,step⟩
    · refine wpAny_mono (T.done (X.block scope cl (tgs ++ caps.map (·.1)) fp s3 H3) rfl rfl rfl hc i [] s5 σ5 H5 (fun _ _=>False) I5 (stat fr5) st5 stop) (fun r s6 ⟨hr,I6⟩=>?_) fun _ _ z=>False.elim z
      subst hr
      obtain ⟨m6,hn6,_⟩:=I6.loc
      have nb:∀ b o,s3.heap.get? b = some o->b ≠ s3.heap.objs.size:=fun b o e=>Nat.ne_of_lt (Heap.lt_size e)
      have uX:Un (frs X.stack) fp H3 H5 s3.heap s6.heap:=I6.base
      have os6:s6.os = s3.os:=I6.os
      have I6X:Inv X pins σ H5 s6:=I3.call' (s':=s6) (ch:=fp) os6 uX I6.hok I6.bare (fun b hb=>⟨(f2 b hb).2.2.2.1,(f2 b hb).2.1,(f2 b hb).2.2.2.2.1,(f2 b hb).2.2.2.2.2⟩)
      have hfC:H5 s3.heap.objs.size = none:=I6.free
      show wpAny _ X.A (assign (.Name y0 py) X.env (.ref s2.heap.objs.size)) _ _ s6
      refine wpAny_assign_Name (zfN I6X hN0 hi0 hx0 (v:=.ref s2.heap.objs.size) rfl (fun s7 I7 ⟨a,sa,ha⟩=>?_) hf0)
      have aC:s3.heap.objs.size ≠ a:=fun z=>by
        rcases ha with ha | ha
        · have h3:=I3.lt
          rw [ha] at z
          rw [← z] at h3
          exact Nat.lt_irrefl _ h3
        · obtain ⟨v,q⟩:=I3.cell _ _ ha
          have:=q.lt
          rw [← z] at this
          exact Nat.lt_irrefl _ this
      refine ⟨m6,hn6.sameBut sa aC,fun h' sb=>?_⟩
      have eqb:∀ b,b ≠ s3.heap.objs.size->h'.get? b = s7.heap.get? b:=fun b hb=>sb.2 b hb
      have uY:Un (frs X.stack) [s3.heap.objs.size] H5 H5 s7.heap h':=by
        refine ⟨fun b o e a1 a2 a3=>?_,fun b o e a1 a2 a3=>?_,fun _ _ _ q _=>q,fun b o e a3=>?_,fun _ _ q=>q,fun _ _ _ q=>q,fun b ps q=>⟨#[],by simpa using q⟩⟩
        · rw [eqb b (fun z=>a3 (by rw [z];exact .head _))];exact e
        · exact ⟨o.slots,by rw [eqb b (fun z=>a3 (by rw [z];exact .head _))];exact e⟩
        · exact ⟨o,by rw [eqb b (fun z=>a3 (by rw [z];exact .head _))];exact e⟩
      have hokY:HOk X.prog X.w H5 h':=fun a o e=>(I7.hok a o e).stay (fun b u hb eu=>by
        have hbC:b ≠ s3.heap.objs.size:=fun z=>by
          rcases hb with rfl | hb
          · rw [z,hfC] at e;cases e
          · rw [z,hfC] at hb;cases hb
        rw [eqb b hbC];exact eu) (fun _ q=>q) fun _ _ q=>q
      refine ⟨σ.set i0 (some (.ref s2.heap.objs.size)),H5,I7.call' (s':={ s7 with heap:=h' }) (ch:=[s3.heap.objs.size]) rfl uY hokY I7.bare (fun b hb=>?_),qn⟩
      rw [List.mem_singleton.mp hb]
      refine ⟨.inr I3.sz,Nat.ne_of_gt I3.lt,fun x c e z=>?_,fun p hp z=>?_⟩
      · obtain ⟨v,q⟩:=I3.cell x c e
        have:=q.lt
        rw [z] at this
        exact Nat.lt_irrefl _ this
      · have:=Heap.lt_size (I3.pin p hp).1
        rw [z] at this
        exact Nat.lt_irrefl _ this
    · refine wpAny_mono (T.item (X.block scope cl (tgs ++ caps.map (·.1)) fp s3 H3) rfl rfl rfl hc i [] s5 σ5 H5 (fun _ _=>False) I5 (stat fr5) st5 go) (fun r s6 ⟨u,hr,h6⟩=>?_) fun _ _ z=>False.elim z
      subst hr
      refine wpAny_mono h6 (fun _ s7 ⟨x,H7,I7,r7,y7,st7,fr7⟩=>?_) fun _ _ z=>False.elim z
      have I7':=I7.pinned (stat fr7) (T.obj _ _ st7)
      have again:∀ {s9:Shared} {σ9:St} {H9:Hp},Inv (X.block scope cl (tgs ++ caps.map (·.1)) fp s3 H3) ([] ++ zcA fp s7.heap) σ9 H9 s9->N σ9 H9->
          ∃ m,m < n/\∃ i σ' H',Inv (X.block scope cl (tgs ++ caps.map (·.1)) fp s3 H3) [] σ' H' s9/\tn i s9.heap/\(∀ b ∈ fp,H' b = none)/\W i m σ' H':=fun {s9 σ9 H9} I9 n9=>by
        obtain ⟨m',hm,w9⟩:=hN σ9 H9 n9
        refine ⟨m',hm,i + 1,σ9,H9,I9.unpinned,T.keep _ _ _ st7 fun b hb o e=>(I9.pin (b,o) (List.mem_append_right _ (List.mem_append_right _ (zaq hb e)))).1,fun b hb=>?_,w9⟩
        obtain ⟨o,e,d⟩:=T.obj _ _ st7 b hb
        exact (I9.pin (b,o) (List.mem_append_right _ (List.mem_append_right _ (zaq hb e)))).2.1
      refine wpAny_mono (hg fp s3 H3 _ s7 σ5 H7 x u _ I7' r7 (step x H7 y7)) (fun _ s8 ⟨σ8,H8,I8,q8⟩=>?_) fun _ _ z=>False.elim z
      refine wpAny_mono (hif fp s3 H3 _ s8 σ8 H8 _ I8 q8) (fun b s9 ⟨H9,I9,q9⟩=>?_) fun _ _ z=>False.elim z
      cases b with
      | false=>
        rw [if_neg Bool.false_ne_true] at q9
        rw [if_neg Bool.false_ne_true]
        exact again I9 q9
      | true=>
        rw [if_pos rfl] at q9
        rw [if_pos rfl]
        refine wpAny_mono (hel fp s3 H3 _ s9 σ8 H9 _ I9 q9) (fun xv s10 ⟨v,H10,I10,rv,ys,hy,hl,q10⟩=>?_) fun _ _ z=>False.elim z
        refine wpAny_mono (zaQ (X:=X.block scope cl (tgs ++ caps.map (·.1)) fp s3 H3) _ s10 σ8 H10 (.ref s2.heap.objs.size) [v] (.ref s2.heap.objs.size) [xv] (fun _ H11=>N σ8 H11) I10 rfl (.cons rv .nil) ⟨_,ys,v,rfl,rfl,hy,hl,q10⟩) (fun _ s11 ⟨_,H11,I11,_,q11⟩=>again I11 q11) fun _ _ z=>False.elim z
  exact codeAny_compStart_list loop (T.self _ 0 _ _ _ st4 loop)
end
end L2
namespace L2
open PySem PySem.Spec PyProof.Rows
theorem zeh (ns:List Int):∀ j,j<=ns.length->preSum (fun i=>ns.getD i 0) j = (ns.take j).sum
  | 0,_=>by simp [preSum]
  | j + 1,h=>by
    have hj:j < ns.length:=h
    unfold preSum
    rw [zeh ns j (Nat.le_of_lt hj),show ns.take (j + 1) = ns.take j ++ [ns[j]] from (by rw [List.take_succ_eq_append_getElem hj]),List.sum_append]
    simp [List.getD,hj]
theorem ints_get {ns:List Int} {its:List Value} (r:Vals (ns.map V.int) its) {i:Nat} {v:Value} (e:its[i]? = some v):∃ t,v = .int (ns.getD i 0) t:=by
  have hl:=r.length
  rw [List.length_map] at hl
  have hi:i < its.length:=(List.getElem?_eq_some_iff.mp e).1
  have eb:ns[i]? = some ns[i]:=by simp [show i < ns.length by omega]
  have em:(ns.map V.int)[i]? = some (V.int ns[i]):=by rw [List.getElem?_map,eb];rfl
  obtain ⟨u,e2,t,q⟩:=Vals.get r em
  rw [e] at e2
  cases e2
  exact ⟨t,by rw [q];simp [List.getD,eb]⟩
section
variable {X:Cx}
theorem zj6 (hc:X.calm = true):CallR X (.builtin "sum") (fun xs H Q=>∃ (p:Addr) (ns:List Int),xs = [.ref p]/\SqL X.K H p (ns.map V.int)/\Q (.int ns.sum) H):=by
  intro pins s σ H xs us Q I r h
  obtain ⟨p,ns,rfl,hq,q⟩:=h
  obtain ⟨u,rfl,rx⟩:=vals1 r
  cases rx
  obtain ⟨its,r',pl,hz⟩:=I.list hq
  have hlen:=r'.length
  rw [List.length_map] at hlen
  refine call_sum_walkAnyS (wpAny_pyIter_list pl.isList ?_)
  have hlt:p < s.heap.objs.size:=by
    obtain ⟨o,n,ho,_⟩:=pl
    exact Heap.lt_size ho
  refine ⟨s.heap.objs.size,_,_,_,_,_,_,fun i=>ns.getD i 0,rfl,(Walks.list (by exact I.ok.hd hc) _ p (Nat.ne_of_lt hlt) its.toArray).toS,⟨⟨_,Heap.get?_push_size _ rfl,rfl,rfl⟩,?_⟩,?_,fun i v e=>ints_get r' (show its[i]? = some v by simpa using e),fun s' t' hm=>?_⟩
  · obtain ⟨o,ho,c⟩:=pl.isList
    exact ⟨o,Heap.get?_push_of_some _ ho,c⟩
  · intro b hb
    rw [show ({ s with heap:=s.heap.push _ }:Shared).heap.objs.size = s.heap.objs.size + 1 from Heap.size_push ..]
    rcases List.mem_cons.mp hb with rfl | hb
    · exact Nat.lt_succ_self _
    · rw [List.mem_singleton.mp hb];exact Nat.lt_succ_of_lt hlt
  · obtain ⟨h',g',d',tk,o'⟩:=s'
    have e1:g' = s.gens:=hm.gens
    have e2:d' = s.drawn:=hm.drawn
    have e3:o' = s.os:=hm.os
    subst e1;subst e2;subst e3
    have e:preSum (fun i=>ns.getD i 0) its.toArray.size = ns.sum:=by
      rw [show its.toArray.size = ns.length by simp [hlen],zeh ns _ (Nat.le_refl _),List.take_length]
    rw [e]
    refine ⟨.int ns.sum,H,I.kept (t':=tk) (fun b o eb=>hm.heap b o (fun z=>?_) (Heap.get?_push_of_some _ eb)),⟨t',rfl⟩,q⟩
    have z':b = s.heap.objs.size:=by simpa using z
    exact absurd (Heap.lt_size eb) (by rw [z'];exact Nat.lt_irrefl _)
end
end L2
namespace FT
open PySem PySem.Spec PyProof.Rows L2
noncomputable def noStar:Expr->Bool
  | .Starred _ _=>false
  | _=>true
theorem qG {e:Expr} {es:List Expr} {env:PySem.Env} (h:noStar e = true):starEach (e :: es) env = (false,eval e env) :: starEach es env:=by
  cases e <;> first | rfl | cases h
theorem zbW {env:PySem.Env} {pos:Pos}:∀ {es:List Expr},es.all noStar = true->(backTo pos (starEach es env)).any (·.1) = false:=by
  intro es h
  have h1:(starEach es env).any (·.1) = false:=by
    induction es with
    | nil=>rfl
    | cons e es ih=>
      rw [List.all_cons,Bool.and_eq_true] at h
      rw [qG h.1,List.any_cons,ih h.2]
      rfl
  have h2:∀ l:List (Bool × Sem Value),l.any (·.1) = false->(backTo pos l).any (·.1) = false:=by
    intro l hl
    unfold backTo
    rw [List.any_map]
    exact hl
  exact h2 _ h1
end FT
namespace FT
open PySem PySem.Spec PyProof.Rows L2
inductive T where
  | non | bl (b:Bool) | int (i:Int) | str (x:Str) | ty (n:String) | tup (xs:List T) | lst (xs:List T) | ref (a:Nat) | dct (kvs:List (Key × T))
inductive Cell where
  | lst (xs:List T) | dic (kvs:List (Key × T)) | ins (C:Addr) (fs:List (Str × T))
noncomputable abbrev Mem:=List Cell
noncomputable abbrev Ev:=List (Option T)
inductive Out (β:Type) where
  | ok (b:β) (M:Mem) | exn (C:Addr) (fs:List (Str × T)) (M:Mem) | bad
noncomputable def Out.bind {β γ:Type} (o:Out β) (k:β->Mem->Out γ):Out γ:=match o with
  | .ok b M=>k b M
  | .exn C fs M=>.exn C fs M
  | .bad=>.bad
theorem qQ {β γ:Type} (b:β) (M:Mem) (k:β->Mem->Out γ):(Out.ok b M).bind k = k b M:=rfl
theorem zqf {β γ:Type} (k:β->Mem->Out γ):(Out.bad:Out β).bind k = .bad:=rfl
structure Sit where
  α:Nat->Addr
  M:Mem
  H:Hp
  hid:List Addr
noncomputable def Sit.off (S:Sit) (p:Addr):Prop:=(∀ a,a < S.M.length->S.α a ≠ p)/\p ∉ S.hid
noncomputable def KL (K:PySem.W.Frag) (a:Addr) (xs:List V):Prop:=
  ∃ (o:Obj) (its:Array Value) (n:Nat),K.lookup a = some o/\o.cls = .type "list"/\o.dict = none/\o.data = .seq its n/\its.size<=sizeLine/\Vals xs its.toList
inductive Rep (K:PySem.W.Frag) (S:Sit):T->V->Prop where
  | non:Rep K S .non .non
  | bl (b:Bool):Rep K S (.bl b) (.bl b)
  | int (i:Int):Rep K S (.int i) (.int i)
  | str (x:Str):Rep K S (.str x) (.str x)
  | ty (x:String):Rep K S (.ty x) (.ty x)
  | tup {ts:List T} {p:Addr} {vs:List V} (h:SqT K S.H p vs) (l:ts.length = vs.length) (r:∀ (i:Nat) t v,ts[i]? = some t->vs[i]? = some v->Rep K S t v):Rep K S (.tup ts) (.ref p)
  | lst {ts:List T} {p:Addr} {vs:List V} (h:(Rd S.H p (.lst vs)/\S.off p)\/KL K p vs) (l:ts.length = vs.length) (r:∀ (i:Nat) t v,ts[i]? = some t->vs[i]? = some v->Rep K S t v):Rep K S (.lst ts) (.ref p)
  | ref {a:Nat} (h:a < S.M.length):Rep K S (.ref a) (.ref (S.α a))
  | dct {kvs:List (Key × T)} {us:List (Key × V)} {p:Addr} {o:Obj} (h:S.H p = some (.frz o (.dK us))) (l:kvs.map (·.1) = us.map (·.1)) (r:∀ (i:Nat) t v,(kvs.map (·.2))[i]? = some t->(us.map (·.2))[i]? = some v->Rep K S t v):Rep K S (.dct kvs) (.ref p)
noncomputable def Reps (K:PySem.W.Frag) (S:Sit) (ts:List T) (vs:List V):Prop:=ts.length = vs.length/\∀ (i:Nat) t v,ts[i]? = some t->vs[i]? = some v->Rep K S t v
noncomputable def RepF (K:PySem.W.Frag) (S:Sit) (fs:List (Str × T)) (us:List (Str × V)):Prop:=fs.map (·.1) = us.map (·.1)/\Reps K S (fs.map (·.2)) (us.map (·.2))
noncomputable def RepK (K:PySem.W.Frag) (S:Sit) (fs:List (Key × T)) (us:List (Key × V)):Prop:=fs.map (·.1) = us.map (·.1)/\Reps K S (fs.map (·.2)) (us.map (·.2))
noncomputable def CellOk (K:PySem.W.Frag) (S:Sit) (p:Addr):Cell->Prop
  | .lst ts=>∃ vs,S.H p = some (.lst vs)/\Reps K S ts vs
  | .dic kvs=>∃ us,S.H p = some (.dK us)/\RepK K S kvs us
  | .ins C fs=>∃ dx us,S.H p = some (.ins C dx us)/\RepF K S fs us
structure MemOk (K:PySem.W.Frag) (S:Sit):Prop where
  cell:∀ a c,S.M[a]? = some c->CellOk K S (S.α a) c
  inj:∀ a b,a < S.M.length->b < S.M.length->S.α a = S.α b->a = b
  hd:∀ p ∈ S.hid,(∀ a,a < S.M.length->S.α a ≠ p)/\∃ vs,S.H p = some (.lst vs)
structure Grow (S S':Sit):Prop where
  le:S.M.length<=S'.M.length
  al:∀ a,a < S.M.length->S'.α a = S.α a
  fr:∀ a,S.M.length<=a->a < S'.M.length->S.H (S'.α a) = none
  kp:∀ b o,S.H b = some o->S.off b->S'.H b = some o
  hk:∀ p ∈ S.hid,p ∈ S'.hid/\S'.H p = S.H p
  hf:∀ p ∈ S'.hid,p ∈ S.hid\/S.H p = none
structure Stp (K:PySem.W.Frag) (S S':Sit):Prop extends Grow S S' where
  mok:MemOk K S'
section
variable {K:PySem.W.Frag} {S S' S'':Sit}
theorem MemOk.some (m:MemOk K S) {a:Nat} (h:a < S.M.length):∃ o,S.H (S.α a) = Option.some o/\Mut (Option.some o):=by
  have e:S.M[a]? = Option.some S.M[a]:=by simp [h]
  have c:=m.cell a _ e
  cases q:S.M[a] with
  | lst ts=>rw [q] at c;obtain ⟨vs,e,_⟩:=c;exact ⟨_,e,trivial⟩
  | dic ts=>rw [q] at c;obtain ⟨vs,e,_⟩:=c;exact ⟨_,e,trivial⟩
  | ins C fs=>rw [q] at c;obtain ⟨dx,vs,e,_⟩:=c;exact ⟨_,e,trivial⟩
theorem MemOk.off_of (m:MemOk K S) {p:Addr} {o:Option HO} (e:S.H p = o) (h:¬ Mut o):S.off p:=by
  refine ⟨fun a ha z=>?_,fun z=>?_⟩
  · obtain ⟨o',e',mu⟩:=m.some ha
    rw [z,e] at e'
    rw [e'] at h
    exact h mu
  · obtain ⟨_,vs,q⟩:=m.hd p z
    rw [e] at q
    rw [q] at h
    exact h trivial
theorem MemOk.off_none (m:MemOk K S) {p:Addr} (e:S.H p = none):S.off p:=m.off_of e (fun z=>z)
theorem Grow.tup (g:Grow S S') (m:MemOk K S) {p:Addr} {vs:List V} (h:SqT K S.H p vs):SqT K S'.H p vs:=by
  rcases h with (h | ⟨o,h⟩) | h
  · exact .inl (.inl (g.kp _ _ h (m.off_of h (fun z=>z))))
  · exact .inl (.inr ⟨o,g.kp _ _ h (m.off_of h (fun z=>z))⟩)
  · exact .inr h
theorem Grow.off (g:Grow S S') {p:Addr} {o:HO} (h:S.H p = some o) (f:S.off p):S'.off p:=by
  refine ⟨fun a ha z=>?_,fun z=>?_⟩
  · by_cases hl:a < S.M.length
    · rw [g.al a hl] at z;exact f.1 a hl z
    · have:=g.fr a (Nat.le_of_not_lt hl) ha
      rw [z,h] at this
      cases this
  · rcases g.hf p z with q | q
    · exact f.2 q
    · rw [h] at q;cases q
theorem Grow.rd (g:Grow S S') {p:Addr} {u:HO} (h:Rd S.H p u) (f:S.off p):Rd S'.H p u/\S'.off p:=by
  rcases h with h | ⟨o,h⟩
  · exact ⟨.inl (g.kp _ _ h f),g.off h f⟩
  · exact ⟨.inr ⟨o,g.kp _ _ h f⟩,g.off h f⟩
theorem Rep.grow (m:MemOk K S) (g:Grow S S') {t:T} {v:V} (r:Rep K S t v):Rep K S' t v:=by
  induction r with
  | non=>exact .non
  | bl b=>exact .bl b
  | int b=>exact .int b
  | str b=>exact .str b
  | ty b=>exact .ty b
  | tup h l _ ih=>exact .tup (g.tup m h) l ih
  | lst h l _ ih=>
    refine .lst ?_ l ih
    rcases h with ⟨h,f⟩ | h
    · exact .inl (g.rd h f)
    · exact .inr h
  | ref h=>rw [← g.al _ h];exact .ref (Nat.lt_of_lt_of_le h g.le)
  | dct h l _ ih=>exact .dct (g.kp _ _ h (m.off_of h (fun z=>z))) l ih
theorem Reps.grow (m:MemOk K S) (g:Grow S S') {ts:List T} {vs:List V} (r:Reps K S ts vs):Reps K S' ts vs:=⟨r.1,fun i t v e1 e2=>(r.2 i t v e1 e2).grow m g⟩
theorem RepF.grow (m:MemOk K S) (g:Grow S S') {ts:List (Str × T)} {vs:List (Str × V)} (r:RepF K S ts vs):RepF K S' ts vs:=⟨r.1,r.2.grow m g⟩
theorem RepK.grow (m:MemOk K S) (g:Grow S S') {ts:List (Key × T)} {vs:List (Key × V)} (r:RepK K S ts vs):RepK K S' ts vs:=⟨r.1,r.2.grow m g⟩
theorem Reps.nil:Reps K S [] []:=⟨rfl,fun _ _ _ e _=>by simp at e⟩
theorem Reps.cons {t:T} {v:V} {ts:List T} {vs:List V} (r:Rep K S t v) (rs:Reps K S ts vs):Reps K S (t :: ts) (v :: vs):=by
  refine ⟨by simp [rs.1],fun i a b e1 e2=>?_⟩
  cases i with
  | zero=>simp at e1 e2;subst e1;subst e2;exact r
  | succ i=>exact rs.2 i a b (by simpa using e1) (by simpa using e2)
theorem Reps.nil_inv {ts:List T} (r:Reps K S ts []):ts = []:=List.length_eq_zero_iff.mp (by rw [r.1];rfl)
theorem Reps.consT {t:T} {ts:List T} {vs:List V} (r:Reps K S (t :: ts) vs):∃ v vs',vs = v :: vs'/\Rep K S t v/\Reps K S ts vs':=by
  cases vs with
  | nil=>have:=r.1;simp at this
  | cons v vs'=>exact ⟨v,vs',rfl,r.2 0 t v rfl rfl,by have:=r.1;simpa using this,fun i a b e1 e2=>r.2 (i + 1) a b (by simpa using e1) (by simpa using e2)⟩
theorem Reps.nilT {vs:List V} (r:Reps K S [] vs):vs = []:=List.length_eq_zero_iff.mp (by rw [← r.1];rfl)
theorem Reps.app {ts ts':List T} {vs vs':List V} (r:Reps K S ts vs) (r':Reps K S ts' vs'):Reps K S (ts ++ ts') (vs ++ vs'):=by
  induction ts generalizing vs with
  | nil=>rw [r.nilT];exact r'
  | cons t ts ih=>
    obtain ⟨v,vs1,rfl,r1,r2⟩:=r.consT
    exact (ih r2).cons r1
theorem Reps.get {ts:List T} {vs:List V} (r:Reps K S ts vs) {i:Nat} {t:T} (e:ts[i]? = some t):∃ v,vs[i]? = some v/\Rep K S t v:=by
  have hi:i < vs.length:=by rw [← r.1];exact (List.getElem?_eq_some_iff.mp e).1
  have e2:vs[i]? = some vs[i]:=by simp [hi]
  exact ⟨_,e2,r.2 i t _ e e2⟩
theorem Reps.set {ts:List T} {vs:List V} (r:Reps K S ts vs) {t:T} {v:V} (q:Rep K S t v) (j:Nat):Reps K S (ts.set j t) (vs.set j v):=by
  refine ⟨by simp [r.1],fun i a b e1 e2=>?_⟩
  rw [List.getElem?_set] at e1 e2
  by_cases h:j = i
  · subst h
    by_cases hl:j < ts.length
    · rw [if_pos rfl,if_pos hl] at e1
      rw [if_pos rfl,if_pos (by rw [← r.1];exact hl)] at e2
      cases e1;cases e2;exact q
    · rw [if_pos rfl,if_neg hl] at e1;cases e1
  · rw [if_neg h] at e1 e2
    exact r.2 i a b e1 e2
theorem Reps.sub {ts:List T} {vs:List V} (r:Reps K S ts vs) (a b:Nat):Reps K S ((ts.drop a).take b) ((vs.drop a).take b):=by
  refine ⟨by simp [r.1],fun i x y e1 e2=>?_⟩
  rw [List.getElem?_take] at e1 e2
  split at e1
  · rename_i h
    rw [if_pos h] at e2
    rw [List.getElem?_drop] at e1 e2
    exact r.2 _ x y e1 e2
  · cases e1
theorem CellOk.grow (m:MemOk K S) (g:Grow S S') {p:Addr} {c:Cell} (e:S'.H p = S.H p) (h:CellOk K S p c):CellOk K S' p c:=by
  cases c with
  | lst ts=>obtain ⟨vs,q,r⟩:=h;exact ⟨vs,by rw [e];exact q,r.grow m g⟩
  | dic ts=>obtain ⟨vs,q,r⟩:=h;exact ⟨vs,by rw [e];exact q,r.grow m g⟩
  | ins C ts=>obtain ⟨dx,vs,q,r⟩:=h;exact ⟨dx,vs,by rw [e];exact q,r.grow m g⟩
theorem Stp.refl (m:MemOk K S):Stp K S S:=⟨⟨Nat.le_refl _,fun _ _=>rfl,fun a h1 h2=>absurd (Nat.lt_of_lt_of_le h2 h1) (Nat.lt_irrefl _),fun _ _ e _=>e,fun _ h=>⟨h,rfl⟩,fun _ h=>.inl h⟩,m⟩
theorem Stp.trans (a:Stp K S S') (b:Stp K S' S''):Stp K S S'':=by
  have nn:∀ p,S'.H p = none->S.H p = none:=fun p hn=>by
    cases q:S.H p with
    | none=>rfl
    | some o=>
      by_cases f:S.off p
      · rw [a.kp _ _ q f] at hn;cases hn
      · exfalso
        apply f
        refine ⟨fun c hc z=>?_,fun z=>?_⟩
        · have h3:c < S'.M.length:=Nat.lt_of_lt_of_le hc a.le
          obtain ⟨o',e',_⟩:=a.mok.some h3
          rw [a.al c hc,z,hn] at e'
          cases e'
        · rw [(a.hk p z).2,q] at hn;cases hn
  refine ⟨⟨Nat.le_trans a.le b.le,fun i hi=>(b.al i (Nat.lt_of_lt_of_le hi a.le)).trans (a.al i hi),fun i h1 h2=>?_,fun p o e f=>b.kp _ _ (a.kp _ _ e f) (a.off e f),fun p h=>⟨(b.hk p (a.hk p h).1).1,(b.hk p (a.hk p h).1).2.trans (a.hk p h).2⟩,fun p h=>?_⟩,b.mok⟩
  · by_cases hl:i < S'.M.length
    · rw [b.al i hl];exact a.fr i h1 hl
    · exact nn _ (b.fr i (Nat.le_of_not_lt hl) h2)
  · rcases b.hf p h with q | q
    · exact a.hf p q
    · exact .inr (nn p q)
theorem Stp.new (m:MemOk K S) {p:Addr} (hp:S.H p = none) (o:HO):Stp K S ⟨S.α,S.M,upd S.H p o,S.hid⟩:=by
  have g:Grow S ⟨S.α,S.M,upd S.H p o,S.hid⟩:=⟨Nat.le_refl _,fun _ _=>rfl,fun a h1 h2=>absurd (Nat.lt_of_lt_of_le h2 h1) (Nat.lt_irrefl _),fun b u e _=>by show upd S.H p o b = _;rw [zm (yw e hp)];exact e,fun q h=>⟨h,by obtain ⟨_,vs,e⟩:=m.hd q h;exact zm (yw e hp)⟩,fun q h=>.inl h⟩
  refine ⟨g,⟨fun a c e=>?_,m.inj,fun q h=>?_⟩⟩
  rotate_left
  · obtain ⟨h1,vs,e⟩:=m.hd q h
    exact ⟨h1,vs,(zm (yw e hp)).trans e⟩
  refine (m.cell a c e).grow m g ?_
  have ha:a < S.M.length:=(List.getElem?_eq_some_iff.mp e).1
  exact zm ((m.off_none hp).1 a ha)
noncomputable def Sit.more (S:Sit) (p:Addr) (o:HO) (c:Cell):Sit:=⟨fun a=>if a = S.M.length then p else S.α a,S.M ++ [c],upd S.H p o,S.hid⟩
theorem Grow.more (m:MemOk K S) {p:Addr} (hp:S.H p = none) (o:HO) (c:Cell):Grow S (S.more p o c):=by
  refine ⟨by show _<=(S.M ++ [c]).length;simp,fun a h=>if_neg (Nat.ne_of_lt h),fun a h1 h2=>?_,fun b u e _=>?_,fun q h=>⟨h,by obtain ⟨_,vs,e⟩:=m.hd q h;exact zm (yw e hp)⟩,fun q h=>.inl h⟩
  · have h3:a < (S.M ++ [c]).length:=h2
    have:a = S.M.length:=by simp at h3;omega
    show S.H (if a = S.M.length then p else S.α a) = none
    rw [if_pos this];exact hp
  · show upd S.H p o b = _;rw [zm (yw e hp)];exact e
theorem Stp.more (m:MemOk K S) {p:Addr} (hp:S.H p = none) (o:HO) (c:Cell) (hc:CellOk K (S.more p o c) p c):Stp K S (S.more p o c):=by
  have g:=Grow.more m hp o c
  refine ⟨g,⟨fun a d e=>?_,fun a b h1 h2 e=>?_,fun q h=>?_⟩⟩
  rotate_right
  · obtain ⟨h1,vs,e⟩:=m.hd q h
    refine ⟨fun a ha z=>?_,vs,(zm (yw e hp)).trans e⟩
    have z':(if a = S.M.length then p else S.α a) = q:=z
    by_cases hl:a = S.M.length
    · rw [if_pos hl] at z';rw [← z',hp] at e;cases e
    · rw [if_neg hl] at z'
      have h3:a < (S.M ++ [c]).length:=ha
      exact h1 a (by simp at h3;omega) z'
  · have e':(S.M ++ [c])[a]? = some d:=e
    by_cases ha:a < S.M.length
    · rw [List.getElem?_append_left ha] at e'
      show CellOk K _ (if a = S.M.length then p else S.α a) d
      rw [if_neg (Nat.ne_of_lt ha)]
      exact (m.cell a d e').grow m g (zm ((m.off_none hp).1 a ha))
    · rw [List.getElem?_append_right (Nat.le_of_not_lt ha)] at e'
      have h3:a - S.M.length = 0:=by
        cases q:a - S.M.length with
        | zero=>rfl
        | succ k=>rw [q] at e';simp at e'
      rw [h3] at e'
      cases e'
      show CellOk K _ (if a = S.M.length then p else S.α a) c
      rw [if_pos (by omega)]
      exact hc
  · have h1':a < (S.M ++ [c]).length:=h1
    have h2':b < (S.M ++ [c]).length:=h2
    have e':(if a = S.M.length then p else S.α a) = (if b = S.M.length then p else S.α b):=e
    simp at h1' h2'
    by_cases ha:a = S.M.length
    · by_cases hb:b = S.M.length
      · omega
      · rw [if_pos ha,if_neg hb] at e'
        exact absurd e'.symm ((m.off_none hp).1 b (by omega))
    · by_cases hb:b = S.M.length
      · rw [if_neg ha,if_pos hb] at e'
        exact absurd e' ((m.off_none hp).1 a (by omega))
      · rw [if_neg ha,if_neg hb] at e'
        exact m.inj a b (by omega) (by omega) e'
noncomputable def Sit.put (S:Sit) (a:Nat) (o:HO) (c:Cell):Sit:=⟨S.α,S.M.set a c,upd S.H (S.α a) o,S.hid⟩
theorem Grow.put (m:MemOk K S) {a:Nat} (ha:a < S.M.length) (o:HO) (c:Cell):Grow S (S.put a o c):=by
  refine ⟨by show _<=(S.M.set a c).length;simp,fun _ _=>rfl,fun b h1 h2=>?_,fun b u e f=>?_,fun q h=>⟨h,zm (Ne.symm ((m.hd q h).1 a ha))⟩,fun q h=>.inl h⟩
  · have h3:b < (S.M.set a c).length:=h2
    simp at h3
    exact absurd (Nat.lt_of_lt_of_le h3 h1) (Nat.lt_irrefl _)
  · show upd S.H (S.α a) o b = _
    rw [zm (Ne.symm (f.1 a ha))];exact e
theorem Stp.put (m:MemOk K S) {a:Nat} (ha:a < S.M.length) (o:HO) (c:Cell) (hc:CellOk K (S.put a o c) (S.α a) c):Stp K S (S.put a o c):=by
  have g:=Grow.put m ha o c
  refine ⟨g,⟨fun b d e=>?_,fun i j h1 h2 e=>?_,fun q h=>?_⟩⟩
  rotate_right
  · obtain ⟨h1,vs,e⟩:=m.hd q h
    refine ⟨fun b hb z=>?_,vs,(zm (Ne.symm (h1 a ha))).trans e⟩
    have h3:b < (S.M.set a c).length:=hb
    simp at h3
    exact h1 b h3 z
  · have e':(S.M.set a c)[b]? = some d:=e
    rw [List.getElem?_set] at e'
    by_cases h:a = b
    · subst h
      rw [if_pos rfl,if_pos ha] at e'
      cases e'
      exact hc
    · rw [if_neg h] at e'
      refine (m.cell b d e').grow m g (zm fun z=>h ?_)
      exact (m.inj b a (List.getElem?_eq_some_iff.mp e').1 ha z).symm
  · have h1':i < (S.M.set a c).length:=h1
    have h2':j < (S.M.set a c).length:=h2
    simp at h1' h2'
    exact m.inj i j h1' h2' e
end
noncomputable def EvR (K:PySem.W.Frag) (S:Sit) (στ:Ev) (σ:L2.St):Prop:=στ.length = σ.length/\∀ (i:Nat) t,στ[i]? = some (some t)->∃ v,σ[i]? = some (some v)/\Rep K S t v
class Mo (K:PySem.W.Frag) {β γ:Type} (R:Sit->β->γ->Prop):Prop where
  mo:∀ {S S' b c},MemOk K S->Stp K S S'->R S b c->R S' b c
noncomputable def UnR:Sit->Unit->Unit->Prop:=fun _ _ _=>True
noncomputable def EqR {β:Type}:Sit->β->β->Prop:=fun _ b c=>b = c
noncomputable def PrR {A AV B BV:Type} (RA:Sit->A->AV->Prop) (RB:Sit->B->BV->Prop):Sit->A × B->AV × BV->Prop:=fun S a v=>RA S a.1 v.1/\RB S a.2 v.2
instance (K):Mo K (Rep K):=⟨fun m s r=>r.grow m s.toGrow⟩
instance (K):Mo K (Reps K):=⟨fun m s r=>r.grow m s.toGrow⟩
instance (K):Mo K (EvR K):=⟨fun m s r=>⟨r.1,fun i t e=>let ⟨v,e',q⟩:=r.2 i t e;⟨v,e',q.grow m s.toGrow⟩⟩⟩
instance (K):Mo K UnR:=⟨fun _ _ r=>r⟩
instance (K) {β:Type}:Mo K (EqR (β:=β)):=⟨fun _ _ r=>r⟩
instance (K) {A AV B BV:Type} (RA:Sit->A->AV->Prop) (RB:Sit->B->BV->Prop) [Mo K RA] [Mo K RB]:Mo K (PrR RA RB):=⟨fun m s r=>⟨Mo.mo m s r.1,Mo.mo m s r.2⟩⟩
noncomputable def zoP (K:PySem.W.Frag) (S:Sit) (fs:List (Str × T)) (od:Option Addr):Prop:=(fs = []/\od = none)\/∃ d us,od = some d/\S.H d = some (.xd us)/\RepF K S fs us
noncomputable def Fin {β γ:Type} (XE:XK) (R:Sit->β->γ->Prop) (K:PySem.W.Frag) (S:Sit) (o:Out β) (Q:γ->Hp->Prop):Prop:=match o with
  | .ok b M'=>∀ S' c,S'.M = M'->Stp K S S'->R S' b c->Q c S'.H
  | .exn C fs M'=>∀ S' od,S'.M = M'->Stp K S S'->zoP K S' fs od->XE (.ref C) od S'.H
  | .bad=>False
theorem Fin.later {β γ:Type} {XE:XK} {R:Sit->β->γ->Prop} {K:PySem.W.Frag} {S S1:Sit} {o:Out β} {Q:γ->Hp->Prop} (s:Stp K S S1) (h:Fin XE R K S o Q):Fin XE R K S1 o Q:=by
  cases o with
  | ok b M'=>exact fun S' c e s' r=>h S' c e (s.trans s') r
  | exn C fs M'=>exact fun S' c e s' r=>h S' c e (s.trans s') r
  | bad=>exact h
theorem Fin.mono {β γ:Type} {XE:XK} {R:Sit->β->γ->Prop} {K:PySem.W.Frag} {S:Sit} {o:Out β} {Q Q':γ->Hp->Prop} (i:∀ c H,Q c H->Q' c H) (h:Fin XE R K S o Q):Fin XE R K S o Q':=by
  cases o with
  | ok b M'=>exact fun S' c e s' r=>i _ _ (h S' c e s' r)
  | exn C fs M'=>exact h
  | bad=>exact h
noncomputable def LN {A AV β γ:Type} (XE:XK) (R:Sit->β->γ->Prop) (K:PySem.W.Frag) (RA:Sit->A->AV->Prop) (k:A->Ev->Mem->Out β) (av:AV) (σ:L2.St) (H:Hp) (Q:γ->Hp->Prop):Prop:=
  ∃ (S:Sit) (στ:Ev) (a:A),S.H = H/\MemOk K S/\EvR K S στ σ/\RA S a av/\Fin XE R K S (k a στ S.M) Q
noncomputable def L0 {A AV β γ:Type} (XE:XK) (R:Sit->β->γ->Prop) (K:PySem.W.Frag) (RA:Sit->A->AV->Prop) (k:A->Mem->Out β) (av:AV) (H:Hp) (Q:γ->Hp->Prop):Prop:=
  ∃ (S:Sit) (a:A),S.H = H/\MemOk K S/\RA S a av/\Fin XE R K S (k a S.M) Q
section
variable {K:PySem.W.Frag} {XE:XK}
theorem LN.bind {A AV B BV β γ:Type} {R:Sit->β->γ->Prop} {RA:Sit->A->AV->Prop} {RB:Sit->B->BV->Prop} [Mo K RA] {f:A->Ev->Mem->Out B} {k:A->B->Ev->Mem->Out β} {av:AV} {σ:L2.St} {H:Hp} {Q:γ->Hp->Prop}
    (h:LN XE R K RA (fun a σ M=>(f a σ M).bind fun b M1=>k a b σ M1) av σ H Q) :
    LN XE RB K RA f av σ H (fun bv H1=>LN XE R K (PrR RA RB) (fun ab=>k ab.1 ab.2) (av,bv) σ H1 Q):=by
  obtain ⟨S,στ,a,e,m,ev,ra,fin⟩:=h
  refine ⟨S,στ,a,e,m,ev,ra,?_⟩
  replace fin:Fin XE R K S ((f a στ S.M).bind fun b M1=>k a b στ M1) Q:=fin
  cases q:f a στ S.M with
  | bad=>rw [q] at fin;exact fin
  | exn C fs M'=>rw [q] at fin;exact fin
  | ok b M1=>
    rw [q] at fin
    intro S1 c e1 s1 r1
    refine ⟨S1,στ,(a,b),rfl,s1.mok,Mo.mo m s1 ev,⟨Mo.mo m s1 ra,r1⟩,?_⟩
    rw [e1]
    exact fin.later s1
theorem LN.mono {A AV β γ:Type} {R:Sit->β->γ->Prop} {RA:Sit->A->AV->Prop} {k:A->Ev->Mem->Out β} {av:AV} {σ:L2.St} {H:Hp} {Q Q':γ->Hp->Prop} (h:LN XE R K RA k av σ H Q) (i:∀ c H,Q c H->Q' c H):LN XE R K RA k av σ H Q':=by
  obtain ⟨S,στ,a,e,m,ev,ra,fin⟩:=h
  exact ⟨S,στ,a,e,m,ev,ra,fin.mono i⟩
theorem LN.env {A AV β γ:Type} {R:Sit->β->γ->Prop} {RA:Sit->A->AV->Prop} {f:Ev->Mem->Out β} {av:AV} {σ:L2.St} {H:Hp} {Q:γ->Hp->Prop} (h:LN XE R K RA (fun _ σ M=>f σ M) av σ H Q):LN XE R K UnR (fun _ σ M=>f σ M) () σ H Q:=by
  obtain ⟨S,στ,a,e,m,ev,ra,fin⟩:=h
  exact ⟨S,στ,(),e,m,ev,trivial,fin⟩
end
noncomputable def lE (XE:XK) (K:PySem.W.Frag) (f:Ev->Mem->Out T):TE:=fun σ H Q=>LN XE (Rep K) K UnR (fun _ σ M=>f σ M) () σ H Q
noncomputable def lT (XE:XK) (K:PySem.W.Frag) (f:Ev->Mem->Out Bool):TT:=fun σ H Q=>LN XE EqR K UnR (fun _ σ M=>f σ M) () σ H Q
noncomputable def lA (XE:XK) (K:PySem.W.Frag) (f:Ev->Mem->Out (List T)):TA:=fun σ H Q=>LN XE (Reps K) K UnR (fun _ σ M=>f σ M) () σ H Q
noncomputable def GE (X:Cx) (XE:XK) (e:Expr) (f:Ev->Mem->Out T):Prop:=PE X e (lE XE X.K f)
noncomputable def GT (X:Cx) (XE:XK) (e:Expr) (f:Ev->Mem->Out Bool):Prop:=PT X e (lT XE X.K f)
noncomputable def GW (X:Cx) (XE:XK) (e:Expr) (f:Ev->Mem->Out Bool):Prop:=PW X e (lT XE X.K f)
noncomputable def GA (X:Cx) (XE:XK) (es:List Expr) (f:Ev->Mem->Out (List T)):Prop:=PA X es (lA XE X.K f)
theorem PE.imp {X:Cx} {e:Expr} {t t':TE} (h:PE X e t) (i:∀ σ H Q,t' σ H Q->t σ H Q):PE X e t':=fun pins s σ H Q I q=>h pins s σ H Q I (i σ H Q q)
theorem PT.imp {X:Cx} {e:Expr} {t t':TT} (h:PT X e t) (i:∀ σ H Q,t' σ H Q->t σ H Q):PT X e t':=fun pins s σ H Q I q=>h pins s σ H Q I (i σ H Q q)
theorem PW.imp {X:Cx} {e:Expr} {t t':TT} (h:PW X e t) (i:∀ σ H Q,t' σ H Q->t σ H Q):PW X e t':=fun whole pins s σ H Q I q=>h whole pins s σ H Q I (i σ H Q q)
theorem PA.imp {X:Cx} {e:List Expr} {t t':TA} (h:PA X e t) (i:∀ σ H Q,t' σ H Q->t σ H Q):PA X e t':=fun pos pins s σ H Q I q=>h pos pins s σ H Q I (i σ H Q q)
theorem PS.imp {X:Cx} {e:Stmt} {t t':TS} (h:PS X e t) (i:∀ D σ H,t' D σ H->t D σ H):PS X e t':=fun pins s σ H D I q=>h pins s σ H D I (i D σ H q)
theorem PSs.imp {X:Cx} {e:List Stmt} {t t':TS} (h:PSs X e t) (i:∀ D σ H,t' D σ H->t D σ H):PSs X e t':=fun pins s σ H D I q=>h pins s σ H D I (i D σ H q)
end FT
namespace FT
open PySem PySem.Spec PyProof.Rows L2
noncomputable def qa (i:Nat):Ev->Mem->Out T:=fun σ M=>match σ[i]? with
  | some (some t)=>.ok t M
  | _=>.bad
noncomputable def eC (t:T):Ev->Mem->Out T:=fun _ M=>.ok t M
noncomputable def eOp (o:T->T->Mem->Out T) (f g:Ev->Mem->Out T):Ev->Mem->Out T:=fun σ M=>(f σ M).bind fun x M1=>(g σ M1).bind fun y M2=>o x y M2
noncomputable def eUn (o:T->Mem->Out T) (f:Ev->Mem->Out T):Ev->Mem->Out T:=fun σ M=>(f σ M).bind fun x M1=>o x M1
noncomputable def blT {β:Type} (t:T) (M:Mem) (k:Bool->Mem->Out β):Out β:=match t with
  | .bl b=>k b M
  | _=>.bad
noncomputable def zp (f:Ev->Mem->Out T):Ev->Mem->Out Bool:=fun σ M=>(f σ M).bind fun x M1=>blT x M1 fun b M2=>.ok b M2
noncomputable def zdX (f g:Ev->Mem->Out Bool):Ev->Mem->Out Bool:=fun σ M=>(f σ M).bind fun c M1=>if c = true then g σ M1 else .ok false M1
noncomputable def zbd (f g:Ev->Mem->Out Bool):Ev->Mem->Out Bool:=fun σ M=>(f σ M).bind fun c M1=>if c = true then .ok true M1 else g σ M1
noncomputable def zbm (f:Ev->Mem->Out Bool):Ev->Mem->Out Bool:=fun σ M=>(f σ M).bind fun c M1=>.ok (!c) M1
noncomputable def zle (f g:Ev->Mem->Out T):Ev->Mem->Out T:=fun σ M=>(f σ M).bind fun x M1=>blT x M1 fun b M2=>if b = true then g σ M2 else .ok (.bl false) M2
noncomputable def eOr (f g:Ev->Mem->Out T):Ev->Mem->Out T:=fun σ M=>(f σ M).bind fun x M1=>blT x M1 fun b M2=>if b = true then .ok (.bl true) M2 else g σ M2
noncomputable def zqO (f:Ev->Mem->Out T):Ev->Mem->Out T:=fun σ M=>(f σ M).bind fun x M1=>blT x M1 fun b M2=>.ok (.bl (!b)) M2
noncomputable def eIf (c:Ev->Mem->Out Bool) (f g:Ev->Mem->Out T):Ev->Mem->Out T:=fun σ M=>(c σ M).bind fun b M1=>if b = true then f σ M1 else g σ M1
noncomputable def qc:Ev->Mem->Out (List T):=fun _ M=>.ok [] M
noncomputable def zb (f:Ev->Mem->Out T) (g:Ev->Mem->Out (List T)):Ev->Mem->Out (List T):=fun σ M=>(f σ M).bind fun x M1=>(g σ M1).bind fun xs M2=>.ok (x :: xs) M2
noncomputable def yD (g:Ev->Mem->Out (List T)):Ev->Mem->Out T:=fun σ M=>(g σ M).bind fun xs M1=>if xs.length<=sizeLine then .ok (.tup xs) M1 else .bad
noncomputable def zP (g:Ev->Mem->Out (List T)):Ev->Mem->Out (List T):=fun σ M=>(g σ M).bind fun xs M1=>if xs.length<=sizeLine then .ok xs M1 else .bad
noncomputable def eFz (g:Ev->Mem->Out (List T)):Ev->Mem->Out T:=fun σ M=>(g σ M).bind fun xs M1=>.ok (.lst xs) M1
noncomputable def eTk (g:Ev->Mem->Out (List T)):Ev->Mem->Out T:=fun σ M=>(g σ M).bind fun xs M1=>.ok (.ref M1.length) (M1 ++ [.lst xs])
noncomputable def yd (f:List T->Mem->Out T) (g:Ev->Mem->Out (List T)):Ev->Mem->Out T:=fun σ M=>(g σ M).bind fun ts M1=>f ts M1
noncomputable def zqC (o o':T->T->Mem->Out T) (f g h:Ev->Mem->Out T):Ev->Mem->Out T:=fun σ M=>(f σ M).bind fun x M1=>(g σ M1).bind fun y M2=>(o x y M2).bind fun z M3=>blT z M3 fun b M4=>if b = true then (h σ M4).bind fun w M5=>o' y w M5 else .ok (.bl false) M4
noncomputable def lR2 (XE:XK) (K:PySem.W.Frag) (o:T->T->Mem->Out T):R2:=fun x y H Q=>L0 XE (Rep K) K (PrR (Rep K) (Rep K)) (fun a M=>o a.1 a.2 M) (x,y) H Q
noncomputable def lR1 (XE:XK) (K:PySem.W.Frag) (o:T->Mem->Out T):V->Hp->VK->Prop:=fun x H Q=>L0 XE (Rep K) K (Rep K) o x H Q
noncomputable def lRN (XE:XK) (K:PySem.W.Frag) (o:List T->Mem->Out T):List V->Hp->VK->Prop:=fun xs H Q=>L0 XE (Rep K) K (Reps K) o xs H Q
noncomputable def FinL (XE:XK) (K:PySem.W.Frag) (S:Sit) (o:Out (List T)) (Q:VK):Prop:=match o with
  | .ok xs M'=>∀ S' p vs,S'.M = M'->Stp K S S'->S.H p = none->p ∈ S'.hid->S'.H p = some (.lst vs)->Reps K S' xs vs->Q (.ref p) S'.H
  | .exn C fs M'=>∀ S' od,S'.M = M'->Stp K S S'->zoP K S' fs od->XE (.ref C) od S'.H
  | .bad=>False
theorem FinL.later {XE:XK} {K:PySem.W.Frag} {S S1:Sit} {o:Out (List T)} {Q:VK} (s:Stp K S S1) (h:FinL XE K S o Q):FinL XE K S1 o Q:=by
  have nn:∀ p,S1.H p = none->S.H p = none:=fun p hn=>by
    cases q:S.H p with
    | none=>rfl
    | some o=>
      by_cases f:S.off p
      · rw [s.kp _ _ q f] at hn;cases hn
      · exfalso
        apply f
        refine ⟨fun c hc z=>?_,fun z=>?_⟩
        · have h3:c < S1.M.length:=Nat.lt_of_lt_of_le hc s.le
          obtain ⟨o',e',_⟩:=s.mok.some h3
          rw [s.al c hc,z,hn] at e'
          cases e'
        · rw [(s.hk p z).2,q] at hn;cases hn
  cases o with
  | ok b M'=>exact fun S' p vs e s' f=>h S' p vs e (s.trans s') (nn p f)
  | exn C fs M'=>exact fun S' c e s' r=>h S' c e (s.trans s') r
  | bad=>exact h
noncomputable def lL (XE:XK) (K:PySem.W.Frag) (f:Ev->Mem->Out (List T)):TE:=fun σ H Q=>∃ (S:Sit) (στ:Ev),S.H = H/\MemOk K S/\EvR K S στ σ/\FinL XE K S (f στ S.M) Q
noncomputable def GL (X:Cx) (XE:XK) (e:Expr) (f:Ev->Mem->Out (List T)):Prop:=PE X e (lL XE X.K f)
section
variable {K:PySem.W.Frag} {S S':Sit}
noncomputable def Sit.show (S':Sit) (h:List Addr):Sit:=⟨S'.α,S'.M,S'.H,h⟩
theorem Rep.show {h:List Addr} (sub:∀ p ∈ h,p ∈ S'.hid) {t:T} {v:V} (r:Rep K S' t v):Rep K (S'.show h) t v:=by
  induction r with
  | non=>exact .non
  | bl b=>exact .bl b
  | int b=>exact .int b
  | str b=>exact .str b
  | ty b=>exact .ty b
  | tup h l _ ih=>exact .tup h l ih
  | lst h l _ ih=>
    refine .lst ?_ l ih
    rcases h with ⟨h,f⟩ | h
    · exact .inl ⟨h,f.1,fun z=>f.2 (sub _ z)⟩
    · exact .inr h
  | ref h=>exact .ref (S:=S'.show _) h
  | dct h l _ ih=>exact .dct h l ih
theorem Reps.show {h:List Addr} (sub:∀ p ∈ h,p ∈ S'.hid) {ts:List T} {vs:List V} (r:Reps K S' ts vs):Reps K (S'.show h) ts vs:=⟨r.1,fun i t v e1 e2=>(r.2 i t v e1 e2).show sub⟩
theorem CellOk.show {h:List Addr} (sub:∀ p ∈ h,p ∈ S'.hid) {p:Addr} {c:Cell} (q:CellOk K S' p c):CellOk K (S'.show h) p c:=by
  cases c with
  | lst ts=>obtain ⟨vs,q,r⟩:=q;exact ⟨vs,q,r.show sub⟩
  | dic ts=>obtain ⟨vs,q,r⟩:=q;exact ⟨vs,q,r.1,r.2.show sub⟩
  | ins C ts=>obtain ⟨dx,vs,q,r⟩:=q;exact ⟨dx,vs,q,r.1,r.2.show sub⟩
theorem Stp.show (s:Stp K S S'):Stp K S (S'.show S.hid):=by
  have sub:∀ p ∈ S.hid,p ∈ S'.hid:=fun p h=>(s.hk p h).1
  exact ⟨⟨s.le,s.al,s.fr,s.kp,fun p h=>⟨h,(s.hk p h).2⟩,fun p h=>.inl h⟩,⟨fun a c e=>(s.mok.cell a c e).show sub,s.mok.inj,fun p h=>s.mok.hd p (sub p h)⟩⟩
theorem zfx (s:Stp K S S') {p:Addr} {vs:List V} (hn:S.H p = none) (m:MemOk K S) (hp:p ∈ S'.hid) (e:S'.H p = some (.lst vs)) {xs:List T} (r:Reps K S' xs vs):Rep K (S'.show S.hid) (.lst xs) (.ref p):=by
  have sub:∀ p ∈ S.hid,p ∈ S'.hid:=fun p h=>(s.hk p h).1
  refine .lst (.inl ⟨.inl e,(s.mok.hd p hp).1,fun z=>?_⟩) r.1 (r.show sub).2
  obtain ⟨_,us,q⟩:=m.hd p z
  rw [hn] at q
  cases q
noncomputable def Sit.track (S':Sit) (p:Addr) (xs:List T) (h:List Addr):Sit:=⟨fun a=>if a = S'.M.length then p else S'.α a,S'.M ++ [.lst xs],S'.H,h⟩
theorem Rep.track {p:Addr} {xs:List T} {hh:List Addr} (hp:p ∈ S'.hid) (sub:∀ p ∈ hh,p ∈ S'.hid) {t:T} {v:V} (r:Rep K S' t v):Rep K (S'.track p xs hh) t v:=by
  induction r with
  | non=>exact .non
  | bl b=>exact .bl b
  | int b=>exact .int b
  | str b=>exact .str b
  | ty b=>exact .ty b
  | tup h l _ ih=>exact .tup h l ih
  | lst h l _ ih=>
    refine .lst ?_ l ih
    rcases h with ⟨h,f⟩ | h
    · refine .inl ⟨h,fun a ha z=>?_,fun z=>f.2 (sub _ z)⟩
      have z':(if a = S'.M.length then p else S'.α a) = _:=z
      by_cases hl:a = S'.M.length
      · rw [if_pos hl] at z';rw [← z'] at f;exact f.2 hp
      · rw [if_neg hl] at z'
        have h3:a < (S'.M ++ [Cell.lst xs]).length:=ha
        exact f.1 a (by simp at h3;omega) z'
    · exact .inr h
  | @ref a h=>
    have:S'.α a = (S'.track p xs hh).α a:=(if_neg (Nat.ne_of_lt h)).symm
    rw [this]
    exact .ref (by show a < (S'.M ++ [Cell.lst xs]).length;simp;omega)
  | dct h l _ ih=>exact .dct h l ih
theorem Reps.track {p:Addr} {xs:List T} {h:List Addr} (hp:p ∈ S'.hid) (sub:∀ p ∈ h,p ∈ S'.hid) {ts:List T} {vs:List V} (r:Reps K S' ts vs):Reps K (S'.track p xs h) ts vs:=⟨r.1,fun i t v e1 e2=>(r.2 i t v e1 e2).track hp sub⟩
theorem CellOk.track {p:Addr} {xs:List T} {h:List Addr} (hp:p ∈ S'.hid) (sub:∀ p ∈ h,p ∈ S'.hid) {q:Addr} {c:Cell} (o:CellOk K S' q c):CellOk K (S'.track p xs h) q c:=by
  cases c with
  | lst ts=>obtain ⟨vs,q,r⟩:=o;exact ⟨vs,q,r.track hp sub⟩
  | dic ts=>obtain ⟨vs,q,r⟩:=o;exact ⟨vs,q,r.1,r.2.track hp sub⟩
  | ins C ts=>obtain ⟨dx,vs,q,r⟩:=o;exact ⟨dx,vs,q,r.1,r.2.track hp sub⟩
theorem Stp.track (s:Stp K S S') (m:MemOk K S) {p:Addr} {vs:List V} (hn:S.H p = none) (hp:p ∈ S'.hid) (e:S'.H p = some (.lst vs)) {xs:List T} (r:Reps K S' xs vs):Stp K S (S'.track p xs S.hid):=by
  have sub:∀ p ∈ S.hid,p ∈ S'.hid:=fun p h=>(s.hk p h).1
  have lt:∀ a,a < S'.M.length->(S'.track p xs S.hid).α a = S'.α a:=fun a h=>if_neg (Nat.ne_of_lt h)
  refine ⟨⟨Nat.le_trans s.le (by show _<=(S'.M ++ [Cell.lst xs]).length;simp),fun a h=>(lt a (Nat.lt_of_lt_of_le h s.le)).trans (s.al a h),fun a h1 h2=>?_,s.kp,fun p h=>⟨h,(s.hk p h).2⟩,fun p h=>.inl h⟩,⟨fun a c e2=>?_,fun a b h1 h2 e2=>?_,fun q h=>?_⟩⟩
  · by_cases hl:a < S'.M.length
    · rw [lt a hl];exact s.fr a h1 hl
    · have h3:a < (S'.M ++ [Cell.lst xs]).length:=h2
      have:a = S'.M.length:=by simp at h3;omega
      show S.H (if a = S'.M.length then p else S'.α a) = none
      rw [if_pos this];exact hn
  · have e':(S'.M ++ [Cell.lst xs])[a]? = some c:=e2
    by_cases ha:a < S'.M.length
    · rw [List.getElem?_append_left ha] at e'
      rw [lt a ha]
      exact (s.mok.cell a c e').track hp sub
    · rw [List.getElem?_append_right (Nat.le_of_not_lt ha)] at e'
      have h3:a - S'.M.length = 0:=by
        cases q:a - S'.M.length with
        | zero=>rfl
        | succ k=>rw [q] at e';simp at e'
      rw [h3] at e'
      cases e'
      show CellOk K _ (if a = S'.M.length then p else S'.α a) _
      rw [if_pos (by omega)]
      exact ⟨vs,e,r.track hp sub⟩
  · have h1':a < (S'.M ++ [Cell.lst xs]).length:=h1
    have h2':b < (S'.M ++ [Cell.lst xs]).length:=h2
    have e':(if a = S'.M.length then p else S'.α a) = (if b = S'.M.length then p else S'.α b):=e2
    simp at h1' h2'
    by_cases ha:a = S'.M.length
    · by_cases hb:b = S'.M.length
      · omega
      · rw [if_pos ha,if_neg hb] at e'
        exact absurd e'.symm ((s.mok.hd p hp).1 b (by omega))
    · by_cases hb:b = S'.M.length
      · rw [if_neg ha,if_pos hb] at e'
        exact absurd e' ((s.mok.hd p hp).1 a (by omega))
      · rw [if_neg ha,if_neg hb] at e'
        exact s.mok.inj a b (by omega) (by omega) e'
  · obtain ⟨h1,us,q1⟩:=s.mok.hd q (sub q h)
    refine ⟨fun a ha z=>?_,us,q1⟩
    have z':(if a = S'.M.length then p else S'.α a) = q:=z
    have h3:a < (S'.M ++ [Cell.lst xs]).length:=ha
    by_cases hl:a = S'.M.length
    · rw [if_pos hl] at z'
      obtain ⟨_,us2,q2⟩:=m.hd q h
      rw [← z',hn] at q2
      cases q2
    · rw [if_neg hl] at z'
      exact h1 a (by simp at h3;omega) z'
noncomputable def Sit.hide (S:Sit) (p:Addr) (vs:List V):Sit:=⟨S.α,S.M,upd S.H p (.lst vs),p :: S.hid⟩
theorem Stp.hide (m:MemOk K S) {p:Addr} (hp:S.H p = none) (vs:List V):Stp K S (S.hide p vs):=by
  have g:Grow S (S.hide p vs):=⟨Nat.le_refl _,fun _ _=>rfl,fun a h1 h2=>absurd (Nat.lt_of_lt_of_le h2 h1) (Nat.lt_irrefl _),fun b u e _=>by show upd S.H p _ b = _;rw [zm (yw e hp)];exact e,fun q h=>⟨.tail _ h,by obtain ⟨_,vs,e⟩:=m.hd q h;exact zm (yw e hp)⟩,fun q h=>by
    cases h with
    | head=>exact .inr hp
    | tail _ h=>exact .inl h⟩
  refine ⟨g,⟨fun a c e=>?_,m.inj,fun q h=>?_⟩⟩
  · have ha:a < S.M.length:=(List.getElem?_eq_some_iff.mp e).1
    exact (m.cell a c e).grow m g (zm ((m.off_none hp).1 a ha))
  · cases h with
    | head=>exact ⟨(m.off_none hp).1,vs,zu⟩
    | tail _ h=>
      obtain ⟨h1,us,e⟩:=m.hd q h
      exact ⟨h1,us,(zm (yw e hp)).trans e⟩
end
section
variable {X:Cx} {XE:XK} {a b c e:Expr} {es:List Expr} {f g h:Ev->Mem->Out T} {pos:Pos} {ga:Ev->Mem->Out (List T)}
theorem zou {i:Nat} (h:PE X e (zik i)):GE X XE e (qa i):=PE.imp h fun σ H Q h9=>by
  obtain ⟨S,στ,_,e,m,ev,_,fin⟩:=h9
  replace fin:Fin XE (Rep X.K) X.K S (qa i στ S.M) Q:=fin
  unfold qa at fin
  cases q:στ[i]? with
  | none=>rw [q] at fin;exact fin.elim
  | some o=>
    cases o with
    | none=>rw [q] at fin;exact fin.elim
    | some t=>
      rw [q] at fin
      obtain ⟨v,e2,r⟩:=ev.2 i t q
      exact ⟨v,e2,by rw [← e];exact fin S v rfl (.refl m) r⟩
theorem zbk {t:T} {v:V} (h:PE X e (tC v)) (r:∀ S,Rep X.K S t v):GE X XE e (eC t):=PE.imp h fun σ H Q h9=>by
  obtain ⟨S,στ,_,e,m,ev,_,fin⟩:=h9
  show Q v H
  rw [← e];exact fin S v rfl (.refl m) (r S)
theorem ge_int {i j}:GE X XE (.Constant (.int i) j pos) (eC (.int i)):=zbk znE fun _=>.int _
theorem zpt {i j}:GE X XE (.Constant (.bool i) j pos) (eC (.bl i)):=zbk zpd fun _=>.bl _
theorem zox {j}:GE X XE (.Constant .none j pos) (eC .non):=zbk znC fun _=>.non
theorem ge_str {i j}:GE X XE (.Constant (.str i) j pos) (eC (.str i)):=zbk znA fun _=>.str _
theorem zmR {x:Str} {n:String} (hg:Gl X x) (hm:X.mg x = none) (hv:bootBuiltins x = some (.type n)) (hn:x ≠ "__name__":=by decide) (hd:(x == ("__debug__":Str)) = false:=by decide):GE X XE (.Name x pos) (eC (.ty n)):=zbk (zmb (v:=.ty n) hg hm hv rfl hn hd) fun _=>.ty _
theorem zk4 {x:Str} {i:Int} (hg:Gl X x) (hm:∃ t,X.mg x = some (.int i t)) (hd:(x == ("__debug__":Str)) = false:=by decide):GE X XE (.Name x pos) (eC (.int i)):=by
  obtain ⟨t,hm⟩:=hm
  exact zbk (zl8 (v:=.int i) hg hm ⟨_,rfl⟩ hd) fun _=>.int _
theorem zgq {o:T->T->Mem->Out T} {K:PySem.W.Frag} {σ:L2.St} {H:Hp} {Q:VK} (h:lE XE K (eOp o f g) σ H Q):lE XE K f σ H fun x H1=>lE XE K g σ H1 fun y H2=>lR2 XE K o x y H2 Q:=
  LN.mono (LN.bind (f:=fun _ σ M=>f σ M) (k:=fun _ x σ M1=>(g σ M1).bind fun y M2=>o x y M2) (RB:=Rep K) h) fun v H1 h1=>
    LN.mono (LN.env (f:=g) (LN.bind (f:=fun _ σ M=>g σ M) (k:=fun (ax:Unit × T) y σ M2=>o ax.2 y M2) (RB:=Rep K) h1)) fun w H2 h2=>by
      obtain ⟨S,στ,a,e,m,ev,ra,fin⟩:=h2
      exact ⟨S,(a.1.2,a.2),e,m,⟨ra.1.2,ra.2⟩,fin⟩
theorem zpq {op:Operator} {o:T->T->Mem->Out T} (ho:OpR X (binaryOp op) (lR2 XE X.K o)) (ha:GE X XE a f) (hb:GE X XE b g):GE X XE (.BinOp a op b pos) (eOp o f g):=PE.imp (zpb ho ha hb) fun _ _ _ h=>zgq h
theorem zoz {op:CmpOp} {o:T->T->Mem->Out T} (ho:OpR X (compareOp op) (lR2 XE X.K o)) (ha:GE X XE a f) (hb:GE X XE b g) (hm:behindInMarks op b = false):GE X XE (.Compare a [op] [b] pos) (eOp o f g):=PE.imp (zl9 ho ha hb hm) fun _ _ _ h=>zgq h
theorem zpn {op:UnaryOp} {o:T->Mem->Out T} (ho:L2.UnR X (unaryOp op) (lR1 XE X.K o)) (ha:GE X XE a f):GE X XE (.UnaryOp op a pos) (eUn o f):=PE.imp (zpa ho ha) fun σ H Q h=>
  LN.mono (LN.bind (f:=fun _ σ M=>f σ M) (k:=fun _ x σ M1=>o x M1) (RB:=Rep X.K) h) fun v H1 h2=>by
    obtain ⟨S,στ,a,e,m,ev,ra,fin⟩:=h2
    exact ⟨S,a.2,e,m,ra.2,fin⟩
theorem zpr {o:T->T->Mem->Out T} (ho:IxR X (lR2 XE X.K o)) (ha:GE X XE a f) (hb:GE X XE b g) (hs:zfI b):GE X XE (.Subscript a b pos) (eOp o f g):=PE.imp (zpc ho ha hb hs) fun _ _ _ h=>zgq h
theorem ziW {K:PySem.W.Frag} {β γ:Type} {R:Sit->β->γ->Prop} {S:Sit} {t:T} {v:V} {M:Mem} {k:Bool->Mem->Out β} {Q:γ->Hp->Prop} (r:Rep K S t v) (h:Fin XE R K S (blT t M k) Q):∃ b,v = .bl b/\t = .bl b/\Fin XE R K S (k b M) Q:=by
  cases r with
  | bl b=>exact ⟨b,rfl,rfl,h⟩
  | _=>exact h.elim
theorem zoh (ha:GE X XE e f) (he:∀ whole,isTrue e X.env whole = (do let v ← whole;standAt e.pos;holding [v] (truthy v)):=by intro _;rfl):GT X XE e (zp f):=PT.imp (znq ha he) fun σ H Q h=>
  LN.mono (LN.bind (f:=fun _ σ M=>f σ M) (k:=fun _ x σ M1=>blT x M1 fun b M2=>.ok b M2) (RB:=Rep X.K) h) fun v H1 h2=>by
    obtain ⟨S,στ,a,e,m,ev,ra,fin⟩:=h2
    obtain ⟨b,e1,_,fin⟩:=ziW ra.2 fin
    exact ⟨b,e1,by rw [← e];exact fin S b rfl (.refl m) rfl⟩
theorem zoj {op:CmpOp} {o:T->T->Mem->Out T} (ho:OpR X (compareOp op) (lR2 XE X.K o)) (ha:GE X XE a f) (hb:GE X XE b g) (hm:behindInMarks op b = false):GT X XE (.Compare a [op] [b] pos) (zp (eOp o f g)):=PT.imp (zlY ho ha hb hm) fun σ H Q h=>by
  have h1:=LN.bind (f:=fun _ σ M=>eOp o f g σ M) (k:=fun _ x σ M1=>blT x M1 fun b M2=>.ok b M2) (RB:=Rep X.K) h
  refine zgq (LN.mono h1 fun v H1 h2=>?_)
  obtain ⟨S,στ,a,e,m,ev,ra,fin⟩:=h2
  obtain ⟨b,e1,_,fin⟩:=ziW ra.2 fin
  exact ⟨b,e1,by rw [← e];exact fin S b rfl (.refl m) rfl⟩
theorem tif {tf tg:Ev->Mem->Out Bool} {K:PySem.W.Frag} {σ:L2.St} {H:Hp} {Q:Bool->Hp->Prop} {p:Bool->Ev->Mem->Out Bool} (h:LN XE EqR K UnR (fun _ σ M=>(tf σ M).bind fun c M1=>p c σ M1) () σ H Q):lT XE K tf σ H fun c H1=>lT XE K (fun σ M=>p c σ M) σ H1 Q:=
  LN.mono (LN.bind (f:=fun _ σ M=>tf σ M) (k:=fun _ c σ M1=>p c σ M1) (RB:=EqR) h) fun c H1 h2=>by
    obtain ⟨S,στ,a,e,m,ev,ra,fin⟩:=h2
    have:a.2 = c:=ra.2
    subst this
    exact ⟨S,στ,(),e,m,ev,trivial,fin⟩
theorem zgk {K:PySem.W.Frag} {σ:L2.St} {H:Hp} {Q:Bool->Hp->Prop} {d:Bool} (h:lT XE K (fun _ M=>.ok d M) σ H Q):Q d H:=by
  obtain ⟨S,στ,a,e,m,ev,ra,fin⟩:=h
  rw [← e];exact fin S d rfl (.refl m) rfl
theorem zph {K:PySem.W.Frag} {σ:L2.St} {H:Hp} {Q:VK} {d:T} {v:V} (h:lE XE K (fun _ M=>.ok d M) σ H Q) (r:∀ S,Rep K S d v):Q v H:=by
  obtain ⟨S,στ,a,e,m,ev,ra,fin⟩:=h
  rw [← e];exact fin S v rfl (.refl m) (r S)
variable {tf tg:Ev->Mem->Out Bool} {rest:List Expr}
theorem zmA (ha:GT X XE a tf):GW X XE (.BoolOp .And [a] pos) tf:=zlV ha
theorem zof (ha:GT X XE a tf):GW X XE (.BoolOp .Or [a] pos) tf:=zno ha
theorem zog (ha:GT X XE a tf) (hb:GW X XE (.BoolOp .And (b :: rest) pos) tg):GW X XE (.BoolOp .And (a :: b :: rest) pos) (zdX tf tg):=PW.imp (znp ha hb) fun σ H Q h=>
  LN.mono (tif (tf:=tf) (tg:=tg) (p:=fun c σ M1=>if c = true then tg σ M1 else .ok false M1) h) fun c H1 h1=>by
    cases c with
    | true=>exact (if_pos rfl).mpr h1
    | false=>exact (if_neg Bool.false_ne_true).mpr (zgk h1)
theorem zpk (ha:GT X XE a tf) (hb:GW X XE (.BoolOp .Or (b :: rest) pos) tg):GW X XE (.BoolOp .Or (a :: b :: rest) pos) (zbd tf tg):=PW.imp (zo7 ha hb) fun σ H Q h=>
  LN.mono (tif (tf:=tf) (tg:=tg) (p:=fun c σ M1=>if c = true then .ok true M1 else tg σ M1) h) fun c H1 h1=>by
    cases c with
    | true=>exact (if_pos rfl).mpr (zgk h1)
    | false=>exact (if_neg Bool.false_ne_true).mpr h1
theorem GW.gt (h:GW X XE e tf):GT X XE e tf:=PW.pt h
theorem zoi (ha:GT X XE a tf):GT X XE (.UnaryOp .Not a pos) (zbm tf):=PT.imp (znr ha) fun σ H Q h=>
  LN.mono (tif (tf:=tf) (tg:=tf) (p:=fun c σ M1=>.ok (!c) M1) h) fun c H1 h1=>zgk h1
theorem zow {op} (h:GE X XE a f):GE X XE (.BoolOp op [a] pos) f:=znB h
theorem eif {K:PySem.W.Frag} {σ:L2.St} {H:Hp} {Q:VK} {p:Bool->Ev->Mem->Out T} (h:LN XE (Rep K) K UnR (fun _ σ M=>(f σ M).bind fun x M1=>blT x M1 fun b M2=>p b σ M2) () σ H Q):lE XE K f σ H fun x H1=>∃ c,x = .bl c/\lE XE K (fun σ M=>p c σ M) σ H1 Q:=
  LN.mono (LN.bind (f:=fun _ σ M=>f σ M) (k:=fun _ x σ M1=>blT x M1 fun b M2=>p b σ M2) (RB:=Rep K) h) fun c H1 h2=>by
    obtain ⟨S,στ,a,e,m,ev,ra,fin⟩:=h2
    obtain ⟨b,e1,e2,fin⟩:=ziW ra.2 fin
    exact ⟨b,e1,S,στ,(),e,m,ev,trivial,fin⟩
theorem zoB (ha:GE X XE a f) (hb:GE X XE (.BoolOp .And (b :: rest) pos) g):GE X XE (.BoolOp .And (a :: b :: rest) pos) (zle f g):=PE.imp (znH ha hb) fun σ H Q h=>
  LN.mono (eif (f:=f) (p:=fun b σ M2=>if b = true then g σ M2 else .ok (.bl false) M2) h) fun x H1 ⟨c,e,h1⟩=>⟨c,e,by
    cases c with
    | true=>exact (if_pos rfl).mpr h1
    | false=>exact (if_neg Bool.false_ne_true).mpr (zph h1 fun _=>.bl _)⟩
theorem zoC:GA X XE [] qc:=PA.imp znI fun σ H Q h9=>by
  obtain ⟨S,στ,_,e,m,ev,_,fin⟩:=h9
  show Q [] H
  rw [← e];exact fin S [] rfl (.refl m) .nil
theorem zmS (ha:GE X XE e f) (hr:GA X XE es ga) (hs:noStar e = true:=by rfl):GA X XE (e :: es) (zb f ga):=PA.imp (zmc ha hr (qG hs)) fun σ H Q h=>
  LN.mono (LN.bind (f:=fun _ σ M=>f σ M) (k:=fun _ x σ M1=>(ga σ M1).bind fun xs M2=>.ok (x :: xs) M2) (RB:=Rep X.K) h) fun v H1 h1=>
    LN.mono (LN.env (f:=ga) (LN.bind (f:=fun _ σ M=>ga σ M) (k:=fun (ax:Unit × T) ys σ M2=>.ok (ax.2 :: ys) M2) (RB:=Reps X.K) h1)) fun w H2 h2=>by
      obtain ⟨S,στ,a,e,m,ev,ra,fin⟩:=h2
      show Q (v :: w) H2
      rw [← e]
      exact fin S _ rfl (.refl m) (Reps.cons ra.1.2 ra.2)
theorem zov {x1} (h:GA X XE es ga):GE X XE (.Tuple es x1 pos) (yD ga):=PE.imp (znz h) fun σ H Q h=>
  LN.mono (LN.bind (f:=fun _ σ M=>ga σ M) (k:=fun _ xs σ M1=>if xs.length<=sizeLine then .ok (T.tup xs) M1 else .bad) (RB:=Reps X.K) h) fun v H1 h2=>by
    obtain ⟨S,στ,a,e,m,ev,ra,fin⟩:=h2
    by_cases hl:a.2.length<=sizeLine
    · replace fin:Fin XE (Rep X.K) X.K S (if a.2.length<=sizeLine then .ok (.tup a.2) S.M else .bad) Q:=fin
      rw [if_pos hl] at fin
      refine ⟨by rw [← ra.2.1];exact hl,fun p hp=>?_⟩
      subst e
      have s:=Stp.new m hp (.tup v)
      exact fin ⟨S.α,S.M,upd S.H p (.tup v),S.hid⟩ (.ref p) rfl s (.tup (.inl (.inl zu)) ra.2.1 (ra.2.grow m s.toGrow).2)
    · replace fin:Fin XE (Rep X.K) X.K S (if a.2.length<=sizeLine then .ok (.tup a.2) S.M else .bad) Q:=fin
      rw [if_neg hl] at fin
      exact fin.elim
theorem zmI (h:GA X XE es ga):GL X XE (.List es pos) (zP ga):=PE.imp (znD h) fun σ H Q h9=>by
  obtain ⟨S,στ,e,m,ev,fin⟩:=h9
  replace fin:FinL XE X.K S ((ga στ S.M).bind fun xs M1=>if xs.length<=sizeLine then .ok xs M1 else .bad) Q:=fin
  refine ⟨S,στ,(),e,m,ev,trivial,?_⟩
  show Fin XE (Reps X.K) X.K S (ga στ S.M) _
  cases q:ga στ S.M with
  | bad=>rw [q] at fin;exact fin
  | exn C fs M'=>rw [q] at fin;exact fin
  | ok xs M1=>
    rw [q] at fin
    intro S1 vs e1 s1 r1
    by_cases hl:xs.length<=sizeLine
    · replace fin:FinL XE X.K S (if xs.length<=sizeLine then .ok xs M1 else .bad) Q:=fin
      rw [if_pos hl] at fin
      refine ⟨by rw [← r1.1];exact hl,fun p hp=>?_⟩
      have s2:=Stp.hide s1.mok hp vs
      exact (fin.later s1) (S1.hide p vs) p vs e1 s2 hp (.head _) zu (r1.grow s1.mok s2.toGrow)
    · replace fin:FinL XE X.K S (if xs.length<=sizeLine then .ok xs M1 else .bad) Q:=fin
      rw [if_neg hl] at fin
      exact fin.elim
theorem zps (h:GL X XE e ga):GE X XE e (eFz ga):=PE.imp h fun σ H Q ⟨S,στ,_,e,m,ev,_,fin⟩=>⟨S,στ,e,m,ev,by
  show FinL XE X.K S (ga στ S.M) Q
  replace fin:Fin XE (Rep X.K) X.K S ((ga στ S.M).bind fun xs M1=>.ok (.lst xs) M1) Q:=fin
  cases q:ga στ S.M with
  | bad=>rw [q] at fin;exact fin
  | exn C fs M'=>rw [q] at fin;exact fin
  | ok xs M1=>
    rw [q] at fin
    intro S1 p vs e1 s1 hn hp hv r
    exact fin (S1.show S.hid) (.ref p) e1 s1.show (zfx s1 hn m hp hv r)⟩
theorem zpo (h:GL X XE e ga):GE X XE e (eTk ga):=PE.imp h fun σ H Q ⟨S,στ,_,e,m,ev,_,fin⟩=>⟨S,στ,e,m,ev,by
  show FinL XE X.K S (ga στ S.M) Q
  replace fin:Fin XE (Rep X.K) X.K S ((ga στ S.M).bind fun xs M1=>.ok (.ref M1.length) (M1 ++ [.lst xs])) Q:=fin
  cases q:ga στ S.M with
  | bad=>rw [q] at fin;exact fin
  | exn C fs M'=>rw [q] at fin;exact fin
  | ok xs M1=>
    rw [q] at fin
    intro S1 p vs e1 s1 hn hp hv r
    refine fin (S1.track p xs S.hid) (.ref p) (by show S1.M ++ _ = _;rw [e1]) (s1.track m hn hp hv r) ?_
    have this:(S1.track p xs S.hid).α S1.M.length = p:=if_pos rfl
    rw [← e1]
    have hl:S1.M.length < (S1.track p xs S.hid).M.length:=by show _ < (S1.M ++ [Cell.lst xs]).length;simp
    have r2:Rep X.K (S1.track p xs S.hid) (.ref S1.M.length) (.ref ((S1.track p xs S.hid).α S1.M.length)):=.ref hl
    rw [this] at r2
    exact r2⟩
end
end FT
namespace FT
open PySem PySem.Spec PyProof.Rows L2
inductive Fl where
  | nx (σ:Ev) | rt (t:T) | bk (σ:Ev) | ct (σ:Ev)
inductive FlV where
  | nx (σ:L2.St) | rt (v:V) | bk (σ:L2.St) | ct (σ:L2.St)
inductive FlR (K:PySem.W.Frag) (S:Sit):Fl->FlV->Prop where
  | nx {a b}:EvR K S a b->FlR K S (.nx a) (.nx b)
  | rt {a b}:Rep K S a b->FlR K S (.rt a) (.rt b)
  | bk {a b}:EvR K S a b->FlR K S (.bk a) (.bk b)
  | ct {a b}:EvR K S a b->FlR K S (.ct a) (.ct b)
noncomputable def zG (D:Ends):FlV->Hp->Prop
  | .nx σ,H=>D.nx σ H
  | .rt v,H=>D.rt v H
  | .bk σ,H=>D.bk σ H
  | .ct σ,H=>D.ct σ H
noncomputable def lS (XE:XK) (K:PySem.W.Frag) (g:Ev->Mem->Out Fl):TS:=fun D σ H=>LN XE (FlR K) K UnR (fun _ σ M=>g σ M) () σ H (zG D)
noncomputable def GS (X:Cx) (XE:XK) (st:Stmt) (g:Ev->Mem->Out Fl):Prop:=PS X st (lS XE X.K g)
noncomputable def GSs (X:Cx) (XE:XK) (st:List Stmt) (g:Ev->Mem->Out Fl):Prop:=PSs X st (lS XE X.K g)
theorem EvR.set {K:PySem.W.Frag} {S:Sit} {στ:Ev} {σ:L2.St} (r:EvR K S στ σ) {t:T} {v:V} (q:Rep K S t v) (i:Nat):EvR K S (στ.set i (some t)) (σ.set i (some v)):=by
  refine ⟨by simp [r.1],fun j u e=>?_⟩
  rw [List.getElem?_set] at e ⊢
  by_cases h:i = j
  · subst h
    by_cases hl:i < στ.length
    · rw [if_pos rfl,if_pos hl] at e
      cases e
      exact ⟨v,by rw [if_pos rfl,if_pos (by rw [← r.1];exact hl)],q⟩
    · rw [if_pos rfl,if_neg hl] at e;cases e
  · rw [if_neg h] at e
    obtain ⟨w,e2,q2⟩:=r.2 j u e
    exact ⟨w,by rw [if_neg h];exact e2,q2⟩
noncomputable def yC:Ev->Mem->Out Fl:=fun σ M=>.ok (.nx σ) M
noncomputable def zqt:Ev->Mem->Out Fl:=fun σ M=>.ok (.bk σ) M
noncomputable def zqF:Ev->Mem->Out Fl:=fun σ M=>.ok (.ct σ) M
noncomputable def zch (k:Ev->Mem->Out Fl) (fl:Fl) (M:Mem):Out Fl:=match fl with
  | .nx σ=>k σ M
  | .rt t=>.ok (.rt t) M
  | .bk σ=>.ok (.bk σ) M
  | .ct σ=>.ok (.ct σ) M
noncomputable def qe (g h:Ev->Mem->Out Fl):Ev->Mem->Out Fl:=fun σ M=>(g σ M).bind (zch h)
noncomputable def zo (f:Ev->Mem->Out T):Ev->Mem->Out Fl:=fun σ M=>(f σ M).bind fun t M1=>.ok (.rt t) M1
noncomputable def zex (f:Ev->Mem->Out T):Ev->Mem->Out Fl:=fun σ M=>(f σ M).bind fun _ M1=>.ok (.nx σ) M1
noncomputable def sIf (c:Ev->Mem->Out Bool) (g h:Ev->Mem->Out Fl):Ev->Mem->Out Fl:=fun σ M=>(c σ M).bind fun b M1=>if b = true then g σ M1 else h σ M1
noncomputable def zj (i:Nat) (f:Ev->Mem->Out T):Ev->Mem->Out Fl:=fun σ M=>(f σ M).bind fun t M1=>.ok (.nx (σ.set i (some t))) M1
noncomputable def lG (XE:XK) (K:PySem.W.Frag) (bd:T->Ev->Mem->Out Ev):TG:=fun v σ H Q=>LN XE (EvR K) K (Rep K) bd v σ H Q
noncomputable def lGs (XE:XK) (K:PySem.W.Frag) (bd:List T->Ev->Mem->Out Ev):TGs:=fun v σ H Q=>LN XE (EvR K) K (Reps K) bd v σ H Q
noncomputable def GG (X:Cx) (XE:XK) (tg:Expr) (bd:T->Ev->Mem->Out Ev):Prop:=PG X tg (lG XE X.K bd)
noncomputable def GGs (X:Cx) (XE:XK) (tg:List Expr) (bd:List T->Ev->Mem->Out Ev):Prop:=PGs X tg (lGs XE X.K bd)
noncomputable def ye (i:Nat):T->Ev->Mem->Out Ev:=fun t σ M=>.ok (σ.set i (some t)) M
noncomputable def qB:List T->Ev->Mem->Out Ev:=fun ts σ M=>match ts with
  | []=>.ok σ M
  | _=>.bad
noncomputable def yi (b:T->Ev->Mem->Out Ev) (bs:List T->Ev->Mem->Out Ev):List T->Ev->Mem->Out Ev:=fun ts σ M=>match ts with
  | t :: r=>(b t σ M).bind fun σ1 M1=>bs r σ1 M1
  | _=>.bad
noncomputable def yB (n:Nat) (bs:List T->Ev->Mem->Out Ev):T->Ev->Mem->Out Ev:=fun t σ M=>match t with
  | .tup xs=>if xs.length = n then bs xs σ M else .bad
  | _=>.bad
noncomputable def zaE (f:Ev->Mem->Out T) (b:T->Ev->Mem->Out Ev):Ev->Mem->Out Fl:=fun σ M=>(f σ M).bind fun t M1=>(b t σ M1).bind fun σ1 M2=>.ok (.nx σ1) M2
noncomputable def zdd (K:PySem.W.Frag) (S:Sit) (items:List T) (J:It):Prop:=∀ S',Stp K S S'->
  (∀ (i:Nat) t,items[i]? = some t->J.go i S'.H/\∀ x H',J.yld i S'.H x H'->∃ S'',S''.H = H'/\S''.M = S'.M/\Stp K S' S''/\Rep K S'' t x)/\∀ i,items.length<=i->J.stop i S'.H
instance (K):Mo K (zdd K):=⟨fun _ s r=>fun S' s'=>r S' (s.trans s')⟩
noncomputable def lI (XE:XK) (K:PySem.W.Frag) (f:Ev->Mem->Out (List T)):TI:=fun σ H R=>LN XE (zdd K) K UnR (fun _ σ M=>f σ M) () σ H R
noncomputable def GI (X:Cx) (XE:XK) (tg iter:Expr) (f:Ev->Mem->Out (List T)):Prop:=PI X tg iter (lI XE X.K f)
noncomputable def yL (k:Ev->Mem->Out Fl) (fl:Fl) (M:Mem):Out Fl:=match fl with
  | .nx σ=>k σ M
  | .ct σ=>k σ M
  | .bk σ=>.ok (.nx σ) M
  | .rt t=>.ok (.rt t) M
noncomputable def forL (bd:T->Ev->Mem->Out Ev) (body:Ev->Mem->Out Fl):List T->Ev->Mem->Out Fl
  | [],σ,M=>.ok (.nx σ) M
  | x :: xs,σ,M=>(bd x σ M).bind fun σ1 M1=>(body σ1 M1).bind (yL (forL bd body xs))
noncomputable def zb3 (it:Ev->Mem->Out (List T)) (bd:T->Ev->Mem->Out Ev) (body:Ev->Mem->Out Fl):Ev->Mem->Out Fl:=fun σ M=>(it σ M).bind fun xs M1=>forL bd body xs σ M1
noncomputable def whileN (c:Ev->Mem->Out Bool) (body:Ev->Mem->Out Fl):Nat->Ev->Mem->Out Fl
  | 0,_,_=>.bad
  | n + 1,σ,M=>(c σ M).bind fun b M1=>if b = true then (body σ M1).bind (yL (whileN c body n)) else .ok (.nx σ) M1
open Classical in
noncomputable def y9 (c:Ev->Mem->Out Bool) (body:Ev->Mem->Out Fl):Ev->Mem->Out Fl:=fun σ M=>if h:∃ n,whileN c body n σ M ≠ .bad then whileN c body h.choose σ M else .bad
theorem zct {c:Ev->Mem->Out Bool} {body:Ev->Mem->Out Fl}:∀ {n:Nat} {σ:Ev} {M:Mem} {r:Out Fl},whileN c body n σ M = r->r ≠ .bad->whileN c body (n + 1) σ M = r
  | 0,_,_,_,e,h=>absurd e.symm h
  | n + 1,σ,M,r,e,h=>by
    unfold whileN at e ⊢
    cases q:c σ M with
    | bad=>rw [q] at e;exact absurd e.symm h
    | exn C fs M'=>rw [q] at e;exact e
    | ok b M1=>
      rw [q] at e
      replace e:(if b = true then (body σ M1).bind (yL (whileN c body n)) else Out.ok (.nx σ) M1) = r:=e
      show (if b = true then (body σ M1).bind (yL (whileN c body (n + 1))) else Out.ok (.nx σ) M1) = r
      cases b with
      | false=>exact e
      | true=>
        rw [if_pos rfl] at e ⊢
        cases q2:body σ M1 with
        | bad=>rw [q2] at e;exact absurd e.symm h
        | exn C fs M'=>rw [q2] at e;exact e
        | ok fl M2=>
          rw [q2] at e
          cases fl with
          | nx σ2=>exact zct (n:=n) e h
          | ct σ2=>exact zct (n:=n) e h
          | bk σ2=>exact e
          | rt t=>exact e
theorem zfK {c:Ev->Mem->Out Bool} {body:Ev->Mem->Out Fl} {n k:Nat} {σ:Ev} {M:Mem} {r:Out Fl} (e:whileN c body n σ M = r) (h:r ≠ .bad):whileN c body (n + k) σ M = r:=by
  induction k with
  | zero=>exact e
  | succ k ih=>exact zct ih h
theorem zfP {c:Ev->Mem->Out Bool} {body:Ev->Mem->Out Fl} {σ:Ev} {M:Mem} {r:Out Fl} (n:Nat) (e:whileN c body n σ M = r) (h:r ≠ .bad):y9 c body σ M = r:=by
  have ex:∃ n,whileN c body n σ M ≠ .bad:=⟨n,by rw [e];exact h⟩
  unfold y9
  rw [dif_pos ex]
  have h2:=ex.choose_spec
  have e1:=zfK (k:=ex.choose) e h
  have e2:=zfK (k:=n) rfl h2
  rw [Nat.add_comm] at e2
  rw [← e2,e1]
noncomputable def zkR (XE:XK) (K:PySem.W.Frag) (st:T->T->T->Mem->Out Unit):ziZ:=fun o i v H Q=>L0 XE UnR K (PrR (PrR (Rep K) (Rep K)) (Rep K)) (fun a M=>st a.1.1 a.1.2 a.2 M) ((o,i),v) H (fun _ H'=>Q H')
noncomputable def zdb (st:T->T->T->Mem->Out Unit) (f g:Ev->Mem->Out T):T->Ev->Mem->Out Ev:=fun t σ M=>(f σ M).bind fun o M1=>(g σ M1).bind fun i M2=>(st o i t M2).bind fun _ M3=>.ok σ M3
section
variable {X:Cx} {XE:XK} {a b c e iter tg:Expr} {es:List Expr} {f g h:Ev->Mem->Out T} {pos:Pos} {ga:Ev->Mem->Out (List T)} {st:Stmt} {sts rest:List Stmt} {p q r:Ev->Mem->Out Fl} {tf:Ev->Mem->Out Bool}
theorem zmE:GSs X XE [] yC:=PSs.imp zl0 fun D σ H h9=>by
  obtain ⟨S,στ,_,e,m,ev,_,fin⟩:=h9
  show D.nx σ H
  rw [← e];exact fin S (.nx σ) rfl (.refl m) (.nx ev)
theorem zn2 {K:PySem.W.Frag} {D:Ends} {σ:L2.St} {H:Hp} (hh:lS XE K (qe p q) D σ H):lS XE K p { D with nx:=lS XE K q D } σ H:=by
  obtain ⟨S,στ,_,e,m,ev,_,fin⟩:=hh
  refine ⟨S,στ,(),e,m,ev,trivial,?_⟩
  show Fin XE (FlR K) K S (p στ S.M) _
  replace fin:Fin XE (FlR K) K S ((p στ S.M).bind (zch q)) (zG D):=fin
  cases o:p στ S.M with
  | bad=>rw [o] at fin;exact fin
  | exn C fs M'=>rw [o] at fin;exact fin
  | ok fl M1=>
    rw [o] at fin
    intro S1 cc e1 s1 r1
    cases r1 with
    | nx r1=>exact ⟨S1,_,(),rfl,s1.mok,r1,trivial,by rw [e1];exact Fin.later s1 fin⟩
    | rt r1=>exact fin S1 _ e1 s1 (.rt r1)
    | bk r1=>exact fin S1 _ e1 s1 (.bk r1)
    | ct r1=>exact fin S1 _ e1 s1 (.ct r1)
theorem zkY (h1:GS X XE st p) (h2:GSs X XE rest q):GSs X XE (st :: rest) (qe p q):=PSs.imp (zks h1 h2) fun _ _ _ hh=>zn2 hh
theorem zmD (h1:GS X XE st p):GSs X XE [st] p:=zlZ h1
theorem zol (he:GE X XE e f):GS X XE (.Return (some e) pos) (zo f):=PS.imp (znt he) fun D σ H hh=>
  LN.mono (LN.bind (f:=fun _ σ M=>f σ M) (k:=fun _ t σ M1=>.ok (Fl.rt t) M1) (RB:=Rep X.K) hh) fun v H1 h9=>by
    obtain ⟨S,στ,a,e,m,ev,ra,fin⟩:=h9
    rw [← e];exact fin S (.rt v) rfl (.refl m) (.rt ra.2)
theorem zop (he:GE X XE e f) (hs:swapsWith e none pos.line X.env = pure false:=by rfl):GS X XE (.Expr e pos) (zex f):=PS.imp (zl1 he hs) fun D σ H hh=>
  LN.mono (LN.bind (f:=fun _ σ M=>f σ M) (k:=fun _ t σ M1=>.ok (Fl.nx σ) M1) (RB:=Rep X.K) hh) fun v H1 h9=>by
    obtain ⟨S,στ,a,e,m,ev,ra,fin⟩:=h9
    show D.nx σ H1
    rw [← e];exact fin S (.nx σ) rfl (.refl m) (.nx ev)
theorem zpl (hc:GT X XE c tf) (ha:GSs X XE sts p) (hb:GSs X XE rest q):GS X XE (.If c sts rest pos) (sIf tf p q):=PS.imp (zo8 hc ha hb) fun D σ H hh=>
  LN.mono (LN.bind (f:=fun _ σ M=>tf σ M) (k:=fun _ c σ M1=>if c = true then p σ M1 else q σ M1) (RB:=EqR) hh) fun c H1 h2=>by
    obtain ⟨S,στ,a,e,m,ev,ra,fin⟩:=h2
    have:a.2 = c:=ra.2
    subst this
    replace fin:Fin XE (FlR X.K) X.K S (if a.2 = true then p στ S.M else q στ S.M) (zG D):=fin
    cases q:a.2 with
    | true=>exact (if_pos rfl).mpr ⟨S,στ,(),e,m,ev,trivial,by rw [q] at fin;exact fin⟩
    | false=>exact (if_neg Bool.false_ne_true).mpr ⟨S,στ,(),e,m,ev,trivial,by rw [q] at fin;exact fin⟩
theorem zok {i:Nat} {x:Str} {pos':Pos} (hN:X.N.Nodup) (hi:X.N[i]? = some x) (hx:Loc X.env.scope x) (he:GE X XE e f) (hs:swapsWith e (some (.Name x pos')) pos.line X.env = pure false:=by rfl) (hf:X.fn x = true\/X.env.scope.names.lookup x = some .local:=by first | exact .inl rfl | exact .inr rfl | assumption) :
    GS X XE (.Assign [.Name x pos'] e pos) (zj i f):=PS.imp (zns hN hi hx he hs hf) fun D σ H hh=>
  LN.mono (LN.bind (f:=fun _ σ M=>f σ M) (k:=fun _ t σ M1=>.ok (Fl.nx (σ.set i (some t))) M1) (RB:=Rep X.K) hh) fun v H1 h9=>by
    obtain ⟨S,στ,a,e,m,ev,ra,fin⟩:=h9
    show D.nx (σ.set i (some v)) H1
    rw [← e];exact fin S (.nx _) rfl (.refl m) (.nx (ev.set ra.2 i))
theorem PG.imp {t t':TG} (h:PG X tg t) (i:∀ v σ H Q,t' v σ H Q->t v σ H Q):PG X tg t':=fun pins s σ H v u Q I r q=>h pins s σ H v u Q I r (i v σ H Q q)
theorem PGs.imp {tgs:List Expr} {t t':TGs} (h:PGs X tgs t) (i:∀ v σ H Q,t' v σ H Q->t v σ H Q):PGs X tgs t':=fun pins s σ H v u Q I r q=>h pins s σ H v u Q I r (i v σ H Q q)
theorem zmO {i:Nat} (h:PG X tg (zgl i)):GG X XE tg (ye i):=PG.imp h fun v σ H Q h9=>by
  obtain ⟨S,στ,t,e,m,ev,ra,fin⟩:=h9
  show Q (σ.set i (some v)) H
  rw [← e];exact fin S _ rfl (.refl m) (ev.set ra i)
theorem zmN:GGs X XE [] qB:=PGs.imp zl6 fun v σ H Q h9=>by
  obtain ⟨S,στ,t,e,m,ev,ra,fin⟩:=h9
  cases t with
  | nil=>exact ⟨ra.nilT,by rw [← e];exact fin S _ rfl (.refl m) ev⟩
  | cons t r=>exact fin.elim
theorem zk3 {bd:T->Ev->Mem->Out Ev} {bs:List T->Ev->Mem->Out Ev} (h:PGs X (e :: es) (ziJ (lG XE X.K bd) (lGs XE X.K bs))):GGs X XE (e :: es) (yi bd bs):=PGs.imp h fun v σ H Q h9=>by
  obtain ⟨S,στ,t,e,m,ev,ra,fin⟩:=h9
  cases t with
  | nil=>exact fin.elim
  | cons t r=>
    obtain ⟨v1,vs,rfl,r1,r2⟩:=ra.consT
    refine ⟨v1,vs,rfl,?_⟩
    replace fin:Fin XE (EvR X.K) X.K S ((bd t στ S.M).bind fun σ1 M1=>bs r σ1 M1) Q:=fin
    refine ⟨S,στ,t,e,m,ev,r1,?_⟩
    show Fin XE (EvR X.K) X.K S (bd t στ S.M) _
    cases o:bd t στ S.M with
    | bad=>rw [o] at fin;exact fin
    | exn C fs M'=>rw [o] at fin;exact fin
    | ok σ1 M1=>
      rw [o] at fin
      intro S1 cc e1 s1 ev1
      exact ⟨S1,σ1,r,rfl,s1.mok,ev1,r2.grow m s1.toGrow,by rw [e1];exact Fin.later s1 fin⟩
theorem zos {n:Nat} {bs:List T->Ev->Mem->Out Ev} (h:PG X tg (zk7 X.K n (lGs XE X.K bs))):GG X XE tg (yB n bs):=PG.imp h fun v σ H Q h9=>by
  obtain ⟨S,στ,t,e,m,ev,ra,fin⟩:=h9
  cases ra with
  | @tup ts p vs h l r=>
    replace fin:Fin XE (EvR X.K) X.K S (if ts.length = n then bs ts στ S.M else .bad) Q:=fin
    by_cases hn:ts.length = n
    · rw [if_pos hn] at fin
      exact ⟨p,vs,rfl,by rw [← e];exact h,by rw [← l];exact hn,S,στ,ts,e,m,ev,⟨l,r⟩,fin⟩
    · rw [if_neg hn] at fin;exact fin.elim
  | _=>exact fin.elim
theorem zpg {K:PySem.W.Frag} {bd:T->Ev->Mem->Out Ev} {v:V} {σ:L2.St} {H:Hp} {D:Ends} (hh:LN XE (FlR K) K (Rep K) (fun t σ M=>(bd t σ M).bind fun σ1 M2=>.ok (Fl.nx σ1) M2) v σ H (zG D)):lG XE K bd v σ H D.nx:=by
  obtain ⟨S,στ,t,e,m,ev,ra,fin⟩:=hh
  refine ⟨S,στ,t,e,m,ev,ra,?_⟩
  replace fin:Fin XE (FlR K) K S ((bd t στ S.M).bind fun σ1 M2=>.ok (Fl.nx σ1) M2) (zG D):=fin
  cases o:bd t στ S.M with
  | bad=>rw [o] at fin;exact fin
  | exn C fs M'=>rw [o] at fin;exact fin
  | ok σ1 M1=>
    rw [o] at fin
    intro S1 cc e1 s1 ev1
    exact fin S1 (.nx cc) e1 s1 (.nx ev1)
theorem zoq {bd:T->Ev->Mem->Out Ev} (he:GE X XE e f) (hg:GG X XE tg bd) (hs:swapsWithSole [tg] e pos.line X.env = pure false:=by rfl) (hw:swappedStores [tg] e X.env = pure none:=by rfl)
    (h1:(assignEach [tg] X.env).map (·.2) = [assign tg X.env]:=by rfl):GS X XE (.Assign [tg] e pos) (zaE f bd):=PS.imp (znw he hg hs hw h1) fun D σ H hh=>
  LN.mono (LN.bind (f:=fun _ σ M=>f σ M) (k:=fun _ t σ M1=>(bd t σ M1).bind fun σ1 M2=>.ok (Fl.nx σ1) M2) (RB:=Rep X.K) hh) fun v H1 ⟨S,στ,a,e,m,ev,ra,fin⟩=>
    zpg ⟨S,στ,a.2,e,m,ev,ra.2,fin⟩
theorem PI.imp {t t':TI} (h:PI X tg iter t) (i:∀ σ H R,t' σ H R->t σ H R):PI X tg iter t':=fun pins s σ H R I q=>h pins s σ H R I (i σ H R q)
theorem zon {bd:T->Ev->Mem->Out Ev} (hp:PassesOwn (model X.prog X.w) X.A X.env X.xe) (hc:X.calm = true) (hi:GI X XE tg iter ga) (hg:GG X XE tg bd) (hb:GSs X XE sts p)
    (hs:∀ x,foldedSetIterable iter X.env x = pure x:=by intro _;rfl):GS X XE (.For tg iter sts [] pos) (zb3 ga bd p):=PS.imp (zjm hp hc hi hg hb hs) fun D σ H hh=>by
  refine LN.mono (LN.bind (f:=fun _ σ M=>ga σ M) (k:=fun _ xs σ M1=>forL bd p xs σ M1) (RB:=zdd X.K) hh) fun J H1 h1=>?_
  obtain ⟨S,στ,a,e,m,ev,ra,fin⟩:=h1
  refine ⟨fun i n σ H=>∃ S στ,S.H = H/\MemOk X.K S/\EvR X.K S στ σ/\zdd X.K S a.2 J/\n = a.2.length - i/\i<=a.2.length/\Fin XE (FlR X.K) X.K S (forL bd p (a.2.drop i) στ S.M) (zG D),⟨_,S,στ,e,m,ev,ra.2,rfl,Nat.zero_le _,fin⟩,?_⟩
  rintro i n σ1 H2 ⟨S1,στ1,e1,m1,ev1,it1,en,hi1,fin1⟩
  subst e1
  obtain ⟨it2,it3⟩:=it1 S1 (.refl m1)
  by_cases hl:i < a.2.length
  · have eq:a.2.drop i = a.2[i] :: a.2.drop (i + 1):=List.drop_eq_getElem_cons hl
    rw [eq] at fin1
    obtain ⟨go,yl⟩:=it2 i a.2[i] (by simp [hl])
    refine .inr ⟨go,fun σ' H'=>∃ S στ,S.H = H'/\MemOk X.K S/\EvR X.K S στ σ'/\zdd X.K S a.2 J/\Fin XE (FlR X.K) X.K S (forL bd p (a.2.drop (i + 1)) στ S.M) (zG D),?_,fun x H' hy=>?_⟩
    · rintro σ' H' ⟨S2,στ2,e2,m2,ev2,it4,fin2⟩
      exact ⟨a.2.length - (i + 1),by omega,S2,στ2,e2,m2,ev2,it4,rfl,hl,fin2⟩
    · obtain ⟨S2,e2,eM,s2,r2⟩:=yl x H' hy
      replace fin1:Fin XE (FlR X.K) X.K S1 ((bd a.2[i] στ1 S1.M).bind fun σ1 M1=>(p σ1 M1).bind (yL (forL bd p (a.2.drop (i + 1))))) (zG D):=fin1
      refine ⟨S2,στ1,a.2[i],e2,s2.mok,Mo.mo m1 s2 ev1,r2,?_⟩
      rw [eM]
      cases o:bd a.2[i] στ1 S1.M with
      | bad=>rw [o] at fin1;exact fin1
      | exn C fs M'=>rw [o] at fin1;exact Fin.later s2 fin1
      | ok σ3 M3=>
        rw [o] at fin1
        intro S3 σ3v e3 s3 ev3
        have s13:=s2.trans s3
        refine ⟨S3,σ3,(),rfl,s3.mok,ev3,trivial,?_⟩
        show Fin XE (FlR X.K) X.K S3 (p σ3 S3.M) _
        rw [e3]
        replace fin1:Fin XE (FlR X.K) X.K S1 ((p σ3 M3).bind (yL (forL bd p (a.2.drop (i + 1))))) (zG D):=fin1
        cases o2:p σ3 M3 with
        | bad=>rw [o2] at fin1;exact fin1
        | exn C fs M'=>rw [o2] at fin1;exact Fin.later s13 fin1
        | ok fl M4=>
          rw [o2] at fin1
          intro S4 fv e4 s4 r4
          have s14:=s13.trans s4
          cases r4 with
          | nx r4=>exact ⟨S4,_,rfl,s4.mok,r4,Mo.mo m1 s14 it1,by rw [e4];exact Fin.later s14 fin1⟩
          | ct r4=>exact ⟨S4,_,rfl,s4.mok,r4,Mo.mo m1 s14 it1,by rw [e4];exact Fin.later s14 fin1⟩
          | bk r4=>exact fin1 S4 (.nx _) e4 s14 (.nx r4)
          | rt r4=>exact fin1 S4 (.rt _) e4 s14 (.rt r4)
  · rw [List.drop_eq_nil_of_le (by omega)] at fin1
    refine .inl ⟨it3 i (by omega),?_⟩
    exact fin1 S1 (.nx σ1) rfl (.refl m1) (.nx ev1)
theorem zkZ (hp:PassesOwn (model X.prog X.w) X.A X.env X.xe) (hc:GT X XE c tf) (hb:GSs X XE sts p):GS X XE (.While c sts [] pos) (y9 tf p):=PS.imp (zkt hp hc hb) fun D σ H hh=>by
  obtain ⟨S,στ,_,e,m,ev,_,fin⟩:=hh
  replace fin:Fin XE (FlR X.K) X.K S (y9 tf p στ S.M) (zG D):=fin
  have ex:∃ n,Fin XE (FlR X.K) X.K S (whileN tf p n στ S.M) (zG D):=by
    unfold y9 at fin
    split at fin
    · exact ⟨_,fin⟩
    · exact fin.elim
  obtain ⟨n,fin⟩:=ex
  refine ⟨fun n σ H=>∃ S στ,S.H = H/\MemOk X.K S/\EvR X.K S στ σ/\Fin XE (FlR X.K) X.K S (whileN tf p n στ S.M) (zG D),⟨n,S,στ,e,m,ev,fin⟩,?_⟩
  rintro n σ1 H1 ⟨S1,στ1,e1,m1,ev1,fin1⟩
  subst e1
  cases n with
  | zero=>exact fin1.elim
  | succ n=>
    replace fin1:Fin XE (FlR X.K) X.K S1 ((tf στ1 S1.M).bind fun b M1=>if b = true then (p στ1 M1).bind (yL (whileN tf p n)) else .ok (.nx στ1) M1) (zG D):=fin1
    refine ⟨S1,στ1,(),rfl,m1,ev1,trivial,?_⟩
    show Fin XE EqR X.K S1 (tf στ1 S1.M) _
    cases o:tf στ1 S1.M with
    | bad=>rw [o] at fin1;exact fin1
    | exn C fs M'=>rw [o] at fin1;exact fin1
    | ok b M2=>
      rw [o] at fin1
      intro S2 b2 e2 s2 eb
      have eb':b = b2:=eb
      subst eb'
      replace fin1:Fin XE (FlR X.K) X.K S1 (if b = true then (p στ1 M2).bind (yL (whileN tf p n)) else .ok (.nx στ1) M2) (zG D):=fin1
      cases b with
      | false=>exact (if_neg Bool.false_ne_true).mpr (fin1 S2 (.nx σ1) e2 s2 (.nx (Mo.mo m1 s2 ev1)))
      | true=>
        refine (if_pos rfl).mpr ⟨fun σ' H'=>∃ S στ,S.H = H'/\MemOk X.K S/\EvR X.K S στ σ'/\Fin XE (FlR X.K) X.K S (whileN tf p n στ S.M) (zG D),fun σ' H' h=>⟨n,Nat.lt_succ_self _,h⟩,?_⟩
        rw [if_pos rfl] at fin1
        refine ⟨S2,στ1,(),rfl,s2.mok,Mo.mo m1 s2 ev1,trivial,?_⟩
        show Fin XE (FlR X.K) X.K S2 (p στ1 S2.M) _
        rw [e2]
        cases o2:p στ1 M2 with
        | bad=>rw [o2] at fin1;exact fin1
        | exn C fs M'=>rw [o2] at fin1;exact Fin.later s2 fin1
        | ok fl M4=>
          rw [o2] at fin1
          intro S4 fv e4 s4 r4
          have s14:=s2.trans s4
          cases r4 with
          | nx r4=>exact ⟨S4,_,rfl,s4.mok,r4,by rw [e4];exact Fin.later s14 fin1⟩
          | ct r4=>exact ⟨S4,_,rfl,s4.mok,r4,by rw [e4];exact Fin.later s14 fin1⟩
          | bk r4=>exact fin1 S4 (.nx _) e4 s14 (.nx r4)
          | rt r4=>exact fin1 S4 (.rt _) e4 s14 (.rt r4)
end
end FT
namespace FT
open PySem PySem.Spec PyProof.Rows L2
noncomputable def startT (n:Nat) (ts:List T):Ev:=ts.map some ++ List.replicate (n - ts.length) none
noncomputable def qk (p n:Nat) (g:Ev->Mem->Out Fl):List T->Mem->Out T:=fun ts M=>if ts.length = p then match g (startT n ts) M with
  | .ok (.rt t) M'=>.ok t M'
  | .ok (.nx _) M'=>.ok .non M'
  | _=>.bad else .bad
noncomputable def spT (K:PySem.W.Frag) (f:List T->Mem->Out T):Sp:=fun vs H Q E=>L0 E (Rep K) K (Reps K) f vs H Q
structure CalT (P:Program) (w:World) (K:PySem.W.Frag) (mg:Str->Option Value) (base:Heap) (k:Nat) (x:Str) (ps:List Str) (f:List T->Mem->Out T):Prop where
  cal:Cal P w K mg base k x ps (spT K f)
  nox:∀ ts M C fs M',f ts M ≠ .exn C fs M'
theorem zeP (p n:Nat) (g:Ev->Mem->Out Fl):∀ ts M C fs M',qk p n g ts M ≠ .exn C fs M':=by
  intro ts M C fs M' z
  unfold qk at z
  split at z
  · split at z <;> cases z
  · cases z
theorem EvR.start {K:PySem.W.Frag} {S:Sit} {ts:List T} {vs:List V} (r:Reps K S ts vs) {N:List Str} {n:Nat} (hn:N.length = n):EvR K S (startT n ts) (L2.start N vs):=by
  subst hn
  refine ⟨by simp [startT,L2.start,r.1],fun i t e=>?_⟩
  unfold startT at e
  unfold L2.start
  by_cases hi:i < ts.length
  · rw [List.getElem?_append_left (by simpa using hi)] at e
    rw [List.getElem?_append_left (by simpa [← r.1] using hi)]
    rw [List.getElem?_map] at e ⊢
    cases q:ts[i]? with
    | none=>rw [q] at e;cases e
    | some t'=>
      rw [q] at e
      have:t' = t:=Option.some.inj (Option.some.inj e)
      subst this
      obtain ⟨v,e2,r2⟩:=r.get q
      exact ⟨v,by rw [e2];rfl,r2⟩
  · rw [List.getElem?_append_right (by simpa using hi)] at e
    rw [List.getElem?_replicate] at e
    split at e <;> cases e
section
variable {P:Program} {w:World} {K:PySem.W.Frag} {mg:Str->Option Value} {base:Heap}
theorem zeH {X:Cx} {st:List Stmt} {g:Ev->Mem->Out Fl} {p n:Nat} {N:List Str} (hn:N.length = n) {E:XK} {vs:List V} {H:Hp} {Q:VK} (hX:X.K = K) (h:spT K (qk p n g) vs H Q E) (hb:GSs X E0 st g) :
    ∃ t,PSs X st t/\t { nx:=fun _ H'=>Q .non H',rt:=Q } (start N vs) H:=by
  subst hX
  refine ⟨_,hb,?_⟩
  obtain ⟨S,ts,e,m,r,fin⟩:=h
  refine ⟨S,startT n ts,(),e,m,EvR.start r hn,trivial,?_⟩
  show Fin E0 (FlR X.K) X.K S (g (startT n ts) S.M) _
  unfold qk at fin
  by_cases hp:ts.length = p
  · rw [if_pos hp] at fin
    cases o:g (startT n ts) S.M with
    | bad=>rw [o] at fin;exact fin
    | exn C fs M'=>rw [o] at fin;exact fin.elim
    | ok fl M1=>
      rw [o] at fin
      cases fl with
      | nx σ1=>
        intro S1 c e1 s1 r1
        cases r1 with
        | nx r1=>exact fin S1 .non e1 s1 .non
      | rt t=>
        intro S1 c e1 s1 r1
        cases r1 with
        | rt r1=>exact fin S1 _ e1 s1 r1
      | bk σ1=>exact fin.elim
      | ct σ1=>exact fin.elim
  · rw [if_neg hp] at fin;exact fin.elim
theorem zgA {p n:Nat} {g:Ev->Mem->Out Fl} {ps:List Str} (hp:ps.length = p):∀ vs H Q E,spT K (qk p n g) vs H Q E->vs.length = ps.length:=by
  intro vs H Q E ⟨S,ts,e,m,r,fin⟩
  rw [← r.1,hp]
  unfold qk at fin
  by_cases h:ts.length = p
  · exact h
  · rw [if_neg h] at fin;exact fin.elim
theorem zoM {x:Str} {st:Stmt} {N ps:List Str} {k p n:Nat} {g:Ev->Mem->Out Fl} (D:Df K mg x st ps) (Sc:FnScope N ps (ze st)) (hp:ps.length = p) (hn:N.length = n)
    (hb:∀ (f:Addr) (cdv:Value) (A:Around) (outer:List PySem.Env) (s:Shared) (H:Hp) (E:XK),Room k (A.deeper (envOfC x (ze st) s.heap.objs.size f cdv))->GSs (zbl CX0 P w K mg base N x (ze st) f cdv A outer s H E).nox E0 (qE st) g) :
    CalT P w K mg base (k + 1) x ps (qk p n g):=
  ⟨D.ok Sc (zgA hp) fun f cdv A outer s H vs Q E hr h=>zeH hn rfl h (hb f cdv A outer s H E hr),zeP _ _ _⟩
theorem znZ {st:Stmt} {N ps:List Str} {x qual:Str} {f:Addr} {fd:FuncData} {k p n:Nat} {g:Ev->Mem->Out Fl} (F:Fun K x qual st f fd) (Sc:FnScope N ps (ze st)) (hp:ps.length = p) (hn:N.length = n)
    (hb:∀ (cdv:Value) (A:Around) (outer:List PySem.Env) (s:Shared) (H:Hp) (E:XK),Room k (A.deeper (envOfC qual (ze st) s.heap.objs.size f cdv))->GSs (zbl CX0 P w K mg base N qual (ze st) f cdv A outer s H E).nox E0 (qE st) g) :
    FnOk P w K mg base CX0 (k + 1) f fd ps (spT K (qk p n g)):=
  F.ok Sc (zgA hp) fun cdv A outer s H vs Q E hr h=>zeH hn rfl h (hb cdv A outer s H E hr)
theorem zmv {f:List T->Mem->Out T} {H:Hp} {a:Addr} {ns:List Int} {M':Mem} (hS:SqL K H a (ns.map V.int)) (h:f [.lst (ns.map .int)] [] = .ok (.bl true) M'):spT K f [.ref a] H (fun v _=>v = .bl true) fun _ _ _=>False:=by
  refine ⟨⟨fun _=>0,[],H,[]⟩,[.lst (ns.map .int)],rfl,⟨fun a c e=>by simp at e,fun a b h=>absurd h (Nat.not_lt_zero _),fun p h=>by simp at h⟩,.cons (.lst (vs:=ns.map V.int) ?_ (by simp) ?_) .nil,?_⟩
  · rcases hS with h | h
    · exact .inl ⟨h,fun a h=>absurd h (Nat.not_lt_zero _),fun z=>by simp at z⟩
    · exact .inr h
  · intro i t v e1 e2
    rw [List.getElem?_map] at e1 e2
    cases q:ns[i]? with
    | none=>rw [q] at e1;cases e1
    | some z=>rw [q] at e1 e2;cases e1;cases e2;exact .int z
  · show Fin _ _ K _ (f [.lst (ns.map .int)] []) _
    rw [h]
    intro S' c e s r
    cases r
    rfl
end
section
variable {X:Cx} {XE:XK} {k:Nat} {ps:List Str} {x:Str} {p pos:Pos} {e:Expr} {es:List Expr} {ga:Ev->Mem->Out (List T)} {F:List T->Mem->Out T}
theorem zoA (C:CalT X.prog X.w X.K X.mg X.base k x ps F) (hr:Room k X.A) (hg:Gl X x) (ha:GA X XE (e :: es) ga) (hdb:(x == ("__debug__":Str)) = false:=by decide)
    (he:noStar e = true:=by rfl) (hpl:es.all noStar = true:=by rfl) :
    GE X XE (.Call (.Name x p) (e :: es) [] pos) (yd F ga):=PE.imp (znG C.cal hr hg ha hdb (qG he) (zbW hpl)) fun σ H Q hh=>
  LN.mono (LN.bind (f:=fun _ σ M=>ga σ M) (k:=fun _ ts σ M1=>F ts M1) (RB:=Reps X.K) hh) fun vs H1 h9=>by
    obtain ⟨S,στ,a,e,m,ev,ra,fin⟩:=h9
    rw [List.append_nil]
    refine ⟨S,a.2,e,m,ra.2,?_⟩
    show Fin E0 (Rep X.K) X.K S (F a.2 S.M) Q
    replace fin:Fin XE (Rep X.K) X.K S (F a.2 S.M) Q:=fin
    cases o:F a.2 S.M with
    | bad=>rw [o] at fin;exact fin
    | exn C' fs M'=>exact absurd o (C.nox _ _ _ _ _)
    | ok t M1=>rw [o] at fin;exact fin
theorem zk5 {id:String} (hc:CallR X (.builtin id) (lRN XE X.K F)) (hg:Gl X x) (hm:X.mg x = none) (hv:bootBuiltins x = some (.builtin id)) (ha:GA X XE (e :: es) ga) (hn:x ≠ "__name__":=by decide) (hdb:(x == ("__debug__":Str)) = false:=by decide)
    (he:noStar e = true:=by rfl) (hpl:es.all noStar = true:=by rfl) :
    GE X XE (.Call (.Name x p) (e :: es) [] pos) (yd F ga):=PE.imp (zky hc hg hm hv ha hn hdb (qG he) (zbW hpl)) fun σ H Q hh=>
  LN.mono (LN.bind (f:=fun _ σ M=>ga σ M) (k:=fun _ ts σ M1=>F ts M1) (RB:=Reps X.K) hh) fun vs H1 ⟨S,στ,a,e,m,ev,ra,fin⟩=>⟨S,a.2,e,m,ra.2,fin⟩
theorem zjN {id:String} (hc:CallR X (.type id) (lRN XE X.K F)) (hg:Gl X x) (hm:X.mg x = none) (hv:bootBuiltins x = some (.type id)) (ha:GA X XE (e :: es) ga) (hn:x ≠ "__name__":=by decide) (hdb:(x == ("__debug__":Str)) = false:=by decide)
    (he:noStar e = true:=by rfl) (hpl:es.all noStar = true:=by rfl) :
    GE X XE (.Call (.Name x p) (e :: es) [] pos) (yd F ga):=PE.imp (zfQ hc hg hm hv ha hn hdb (qG he) (zbW hpl)) fun σ H Q hh=>
  LN.mono (LN.bind (f:=fun _ σ M=>ga σ M) (k:=fun _ ts σ M1=>F ts M1) (RB:=Reps X.K) hh) fun vs H1 ⟨S,στ,a,e,m,ev,ra,fin⟩=>⟨S,a.2,e,m,ra.2,fin⟩
end
inductive T.lt (n:Nat):T->Prop where
  | non:T.lt n .non
  | bl (b:Bool):T.lt n (.bl b)
  | int (i:Int):T.lt n (.int i)
  | str (x:Str):T.lt n (.str x)
  | ty (x:String):T.lt n (.ty x)
  | tup {ts:List T} (h:∀ t ∈ ts,T.lt n t):T.lt n (.tup ts)
  | lst {ts:List T} (h:∀ t ∈ ts,T.lt n t):T.lt n (.lst ts)
  | ref {a:Nat} (h:a < n):T.lt n (.ref a)
  | dct {kvs:List (Key × T)} (h:∀ t ∈ kvs.map (·.2),T.lt n t):T.lt n (.dct kvs)
noncomputable def Cell.lt (n:Nat):Cell->Prop
  | .lst ts=>∀ t ∈ ts,T.lt n t
  | .dic kvs=>∀ k ∈ kvs,T.lt n k.2
  | .ins _ fs=>∀ k ∈ fs,T.lt n k.2
inductive Fz (M':Mem) (n:Nat):T->T->Prop where
  | same {t:T} (h:T.lt n t):Fz M' n t t
  | tup {ts us:List T} (l:ts.length = us.length) (h:∀ (i:Nat) t u,ts[i]? = some t->us[i]? = some u->Fz M' n t u):Fz M' n (.tup ts) (.tup us)
  | lst {ts us:List T} (l:ts.length = us.length) (h:∀ (i:Nat) t u,ts[i]? = some t->us[i]? = some u->Fz M' n t u):Fz M' n (.lst ts) (.lst us)
  | ref {a:Nat} {ts us:List T} (e:M'[a]? = some (.lst ts)) (g:n<=a) (l:ts.length = us.length) (h:∀ (i:Nat) t u,ts[i]? = some t->us[i]? = some u->Fz M' n t u):Fz M' n (.ref a) (.lst us)
theorem Rep.lt {K:PySem.W.Frag} {S:Sit} {t:T} {v:V} (r:Rep K S t v):T.lt S.M.length t:=by
  induction r with
  | non=>exact .non
  | bl b=>exact .bl b
  | int b=>exact .int b
  | str b=>exact .str b
  | ty b=>exact .ty b
  | @tup ts p vs h l _ ih=>
    refine .tup fun t ht=>?_
    obtain ⟨i,hi,rfl⟩:=List.getElem_of_mem ht
    exact ih i _ vs[i] (by simp [hi]) (by simp [← l,hi])
  | @lst ts p vs h l _ ih=>
    refine .lst fun t ht=>?_
    obtain ⟨i,hi,rfl⟩:=List.getElem_of_mem ht
    exact ih i _ vs[i] (by simp [hi]) (by simp [← l,hi])
  | ref h=>exact .ref h
  | @dct kvs us p o h l _ ih=>
    refine .dct fun t ht=>?_
    obtain ⟨i,hi,rfl⟩:=List.getElem_of_mem ht
    have hl:i < us.length:=by have:=congrArg List.length l;simp at this hi;omega
    exact ih i _ (us[i]'hl).2 (List.getElem?_eq_getElem hi) (by simp [hl])
theorem Reps.lt {K:PySem.W.Frag} {S:Sit} {ts:List T} {vs:List V} (r:Reps K S ts vs):∀ t ∈ ts,T.lt S.M.length t:=fun t ht=>by
  obtain ⟨i,hi,rfl⟩:=List.getElem_of_mem ht
  have hv:i < vs.length:=by rw [← r.1];exact hi
  exact (r.2 i _ vs[i] (by simp [hi]) (by simp [hv])).lt
theorem zhT {κ:Type} {fs:List (κ × T)} {n:Nat} (h:∀ t ∈ fs.map (·.2),T.lt n t):∀ k ∈ fs,T.lt n k.2:=fun k hk=>h _ (List.mem_map_of_mem (f:=(·.2)) hk)
theorem CellOk.lt {K:PySem.W.Frag} {S:Sit} {p:Addr} {c:Cell} (h:CellOk K S p c):Cell.lt S.M.length c:=by
  cases c with
  | lst ts=>obtain ⟨vs,_,r⟩:=h;exact r.lt
  | dic ts=>obtain ⟨vs,_,r⟩:=h;exact zhT r.2.lt
  | ins C ts=>obtain ⟨dx,vs,_,r⟩:=h;exact zhT r.2.lt
theorem T.lt.mono {n m:Nat} (h:n<=m) {t:T} (r:T.lt n t):T.lt m t:=by
  induction r with
  | non=>exact .non
  | bl b=>exact .bl b
  | int b=>exact .int b
  | str b=>exact .str b
  | ty b=>exact .ty b
  | tup _ ih=>exact .tup ih
  | lst _ ih=>exact .lst ih
  | ref g=>exact .ref (Nat.lt_of_lt_of_le g h)
  | dct _ ih=>exact .dct ih
noncomputable def Sit.cut (S:Sit) (n:Nat) (h:List Addr):Sit:=⟨S.α,S.M.take n,S.H,h⟩
section
variable {K:PySem.W.Frag} {S S':Sit} {n:Nat} {hh:List Addr}
theorem Rep.cut (hn:n<=S'.M.length) (sub:∀ p ∈ hh,p ∈ S'.hid) {t:T} {v:V} (r:Rep K S' t v) (l:T.lt n t):Rep K (S'.cut n hh) t v:=by
  have ln:(S'.cut n hh).M.length = n:=by show (S'.M.take n).length = n;simp;omega
  induction r with
  | non=>exact .non
  | bl b=>exact .bl b
  | int b=>exact .int b
  | str b=>exact .str b
  | ty b=>exact .ty b
  | @tup ts p vs h l2 _ ih=>
    cases l with
    | tup hl=>exact .tup h l2 fun i t v e1 e2=>ih i t v e1 e2 (hl t (List.mem_of_getElem? e1))
  | @lst ts p vs h l2 _ ih=>
    cases l with
    | lst hl=>
      refine .lst ?_ l2 fun i t v e1 e2=>ih i t v e1 e2 (hl t (List.mem_of_getElem? e1))
      rcases h with ⟨h,f⟩ | h
      · exact .inl ⟨h,fun a ha z=>f.1 a (by rw [ln] at ha;omega) z,fun z=>f.2 (sub _ z)⟩
      · exact .inr h
  | @ref a h=>
    cases l with
    | ref hl=>exact .ref (S:=S'.cut n hh) (by rw [ln];exact hl)
  | dct h l2 _ ih=>
    cases l with
    | dct hl=>exact .dct (S:=S'.cut n hh) h l2 fun i t v e1 e2=>ih i t v e1 e2 (hl t (List.mem_of_getElem? e1))
theorem Reps.cut (hn:n<=S'.M.length) (sub:∀ p ∈ hh,p ∈ S'.hid) {t:List T} {v:List V} (r:Reps K S' t v) (l:∀ x ∈ t,T.lt n x):Reps K (S'.cut n hh) t v:=⟨r.1,fun i t v e1 e2=>(r.2 i t v e1 e2).cut hn sub (l t (List.mem_of_getElem? e1))⟩
theorem CellOk.cut (hn:n<=S'.M.length) (sub:∀ p ∈ hh,p ∈ S'.hid) {p:Addr} {c:Cell} (r:CellOk K S' p c) (l:Cell.lt n c):CellOk K (S'.cut n hh) p c:=by
  have ms:∀ {κ:Type} {fs:List (κ × T)},(∀ k ∈ fs,T.lt n k.2)->∀ t ∈ fs.map (·.2),T.lt n t:=fun h t ht=>by
    obtain ⟨k,hk,rfl⟩:=List.mem_map.mp ht
    exact h k hk
  cases c with
  | lst ts=>obtain ⟨vs,q,r⟩:=r;exact ⟨vs,q,r.cut hn sub l⟩
  | dic ts=>obtain ⟨vs,q,r⟩:=r;exact ⟨vs,q,r.1,r.2.cut hn sub (ms l)⟩
  | ins C ts=>obtain ⟨dx,vs,q,r⟩:=r;exact ⟨dx,vs,q,r.1,r.2.cut hn sub (ms l)⟩
theorem Stp.cut (s:Stp K S S') (h1:S.M.length<=n) (h2:n<=S'.M.length) (hl:∀ (i:Nat) c,i < n->S'.M[i]? = some c->Cell.lt n c):Stp K S (S'.cut n S.hid):=by
  have sub:∀ p ∈ S.hid,p ∈ S'.hid:=fun p h=>(s.hk p h).1
  have ln:(S'.cut n S.hid).M.length = n:=by show (S'.M.take n).length = n;simp;omega
  refine ⟨⟨by rw [ln];exact h1,s.al,fun a g1 g2=>s.fr a g1 (by rw [ln] at g2;omega),s.kp,fun p h=>⟨h,(s.hk p h).2⟩,fun p h=>.inl h⟩,⟨fun a c e=>?_,fun a b g1 g2 e=>s.mok.inj a b (by rw [ln] at g1;omega) (by rw [ln] at g2;omega) e,fun p h=>?_⟩⟩
  · have e':(S'.M.take n)[a]? = some c:=e
    rw [List.getElem?_take] at e'
    split at e'
    · rename_i hi
      exact (s.mok.cell a c e').cut h2 sub (hl a c hi e')
    · cases e'
  · obtain ⟨g1,vs,g2⟩:=s.mok.hd p (sub p h)
    exact ⟨fun a ha z=>g1 a (by rw [ln] at ha;omega) z,vs,g2⟩
theorem Rep.fz (m:MemOk K S') (hn:n<=S'.M.length) (sub:∀ p ∈ hh,p ∈ S'.hid) {t u:T} (z:Fz S'.M n t u):∀ {v:V},Rep K S' t v->Rep K (S'.cut n hh) u v:=by
  have ln:(S'.cut n hh).M.length = n:=by show (S'.M.take n).length = n;simp;omega
  induction z with
  | same h=>exact fun r=>r.cut hn sub h
  | @tup ts us l _ ih=>
    intro v r
    cases r with
    | @tup _ p vs h l2 rr=>
      refine .tup h (by rw [← l];exact l2) fun i t v e1 e2=>?_
      have hi:i < ts.length:=by rw [l];exact (List.getElem?_eq_some_iff.mp e1).1
      exact ih i ts[i] t (by simp [hi]) e1 (rr i _ v (by simp [hi]) e2)
  | @lst ts us l _ ih=>
    intro v r
    cases r with
    | @lst _ p vs h l2 rr=>
      refine .lst ?_ (by rw [← l];exact l2) fun i t v e1 e2=>?_
      · rcases h with ⟨h,f⟩ | h
        · exact .inl ⟨h,fun a ha z=>f.1 a (by rw [ln] at ha;omega) z,fun z=>f.2 (sub _ z)⟩
        · exact .inr h
      · have hi:i < ts.length:=by rw [l];exact (List.getElem?_eq_some_iff.mp e1).1
        exact ih i ts[i] t (by simp [hi]) e1 (rr i _ v (by simp [hi]) e2)
  | @ref a ts us e g l _ ih=>
    intro v r
    cases r with
    | ref ha=>
      obtain ⟨vs,q,rr⟩:=m.cell a _ e
      refine .lst (vs:=vs) (.inl ⟨.inl q,fun b hb z=>?_,fun z=>?_⟩) (by rw [← l];exact rr.1) fun i t v e1 e2=>?_
      · rw [ln] at hb
        have:=m.inj b a (by omega) ha z
        omega
      · exact (m.hd _ (sub _ z)).1 a ha rfl
      · have hi:i < ts.length:=by rw [l];exact (List.getElem?_eq_some_iff.mp e1).1
        exact ih i ts[i] t (by simp [hi]) e1 (rr.2 i _ v (by simp [hi]) e2)
end
noncomputable def zid (f g:List T->Mem->Out T):Prop:=∀ ts M t' M1,(∀ c ∈ M,Cell.lt M.length c)->f ts M = .ok t' M1->∃ t M',g ts M = .ok t M'/\M.length<=M1.length/\M1.length<=M'.length/\M1 = M'.take M1.length/\(∀ (i:Nat) c,M1[i]? = some c->M[i]? = some c\/Cell.lt M1.length c)/\Fz M' M1.length t t'
theorem Cell.lt.mono {n m:Nat} (h:n<=m) {c:Cell} (r:Cell.lt n c):Cell.lt m c:=by
  cases c with
  | lst ts=>exact fun t ht=>(r t ht).mono h
  | dic ts=>exact fun t ht=>(r t ht).mono h
  | ins C ts=>exact fun t ht=>(r t ht).mono h
theorem CalT.refine {P:Program} {w:World} {K:PySem.W.Frag} {mg:Str->Option Value} {base:Heap} {k:Nat} {x:Str} {ps:List Str} {f g:List T->Mem->Out T} (C:CalT P w K mg base k x ps g) (h:zid f g) (nox:∀ ts M C fs M',f ts M ≠ .exn C fs M'):CalT P w K mg base k x ps f:=by
  refine ⟨?_,nox⟩
  obtain ⟨⟨fa,fd,F,kp,b,gg⟩⟩:=C.cal
  have key:∀ vs H Q E,spT K f vs H Q E->spT K g vs H Q E:=by
    rintro vs H Q E ⟨S,ts,e,m,r,fin⟩
    refine ⟨S,ts,e,m,r,?_⟩
    have wf:∀ c ∈ S.M,Cell.lt S.M.length c:=fun c hc=>by
      obtain ⟨i,hi,rfl⟩:=List.getElem_of_mem hc
      exact (m.cell i _ (by simp [hi])).lt
    cases o:f ts S.M with
    | bad=>rw [o] at fin;exact fin.elim
    | exn C' fs M'=>exact absurd o (nox _ _ _ _ _)
    | ok t' M1=>
      rw [o] at fin
      obtain ⟨t,M',eg,l1,l2,eM,hc,z⟩:=h ts S.M t' M1 wf o
      rw [eg]
      intro S' v e1 s r1
      have hl:∀ (i:Nat) c,i < M1.length->S'.M[i]? = some c->Cell.lt M1.length c:=fun i c hi ec=>by
        have e2:M1[i]? = some c:=by
          rw [eM,List.getElem?_take,if_pos hi,← e1];exact ec
        rcases hc i c e2 with q | q
        · exact (wf c (List.mem_of_getElem? q)).mono l1
        · exact q
      have sc:=s.cut l1 (by rw [e1];exact l2) hl
      refine fin (S'.cut M1.length S.hid) v ?_ sc ?_
      · show S'.M.take M1.length = M1
        rw [e1];exact eM.symm
      · exact Rep.fz s.mok (by rw [e1];exact l2) (fun p h=>(s.hk p h).1) (by rw [e1];exact z) r1
  refine ⟨⟨fa,fd,⟨fun vs H Q E q=>F.len vs H Q E (key _ _ _ _ q),?_⟩,kp,b,gg⟩⟩
  intro A outer s H args us vs Q E hr h0 hb hv hq
  exact F.run A outer s H args us vs Q E hr h0 hb hv (key _ _ _ _ hq)
end FT
namespace FT
open PySem PySem.Spec PyProof.Rows L2
noncomputable def yz (t:T) (M:Mem):Option (List T):=match t with
  | .lst xs=>some xs
  | .ref a=>match M[a]? with
    | some (.lst xs)=>some xs
    | _=>none
  | _=>none
noncomputable def zcV (t:T):Option (List T):=match t with
  | .lst xs=>some xs
  | .tup xs=>some xs
  | _=>none
noncomputable def zbF (t:T) (M:Mem):Option (List T):=match t with
  | .tup xs=>some xs
  | t=>yz t M
section
variable {K:PySem.W.Frag} {S:Sit} {t:T} {v:V} {xs:List T}
theorem zcD {p:Addr} {vs:List V} (h:(Rd S.H p (.lst vs)/\S.off p)\/KL K p vs):SqL K S.H p vs:=by
  rcases h with ⟨h,_⟩ | h
  · exact .inl h
  · exact .inr h
theorem yH (m:MemOk K S) (r:Rep K S t v) (e:yz t S.M = some xs):∃ p vs,v = .ref p/\SqL K S.H p vs/\Reps K S xs vs:=by
  cases r with
  | @lst ts p vs h l r=>cases e;exact ⟨p,vs,rfl,zcD h,l,r⟩
  | @ref a h=>
    unfold yz at e
    dsimp only at e
    split at e
    · rename_i ys q
      cases e
      obtain ⟨vs,q2,r2⟩:=m.cell a _ q
      exact ⟨_,vs,rfl,.inl (.inl q2),r2⟩
    · cases e
  | _=>cases e
theorem zcj (m:MemOk K S) (r:Rep K S t v) (e:zbF t S.M = some xs):∃ p vs,v = .ref p/\(SqL K S.H p vs\/SqT K S.H p vs)/\Reps K S xs vs:=by
  cases t with
  | tup ts=>
    cases e
    cases r with
    | @tup _ p vs h l r=>exact ⟨p,vs,rfl,.inr h,l,r⟩
  | lst ts=>obtain ⟨p,vs,e1,h,r2⟩:=yH m r e;exact ⟨p,vs,e1,.inl h,r2⟩
  | ref a=>obtain ⟨p,vs,e1,h,r2⟩:=yH m r e;exact ⟨p,vs,e1,.inl h,r2⟩
  | _=>cases e
end
noncomputable def zb5 (f:Ev->Mem->Out T):Ev->Mem->Out (List T):=fun σ M=>(f σ M).bind fun t M1=>match zcV t with
  | some xs=>.ok xs M1
  | none=>.bad
noncomputable def zdA (lo:Int) (n:Nat):List T:=(List.range n).map fun (k:Nat)=>T.int (lo + (k:Int))
noncomputable def zdB (ts:List T) (M1:Mem):Out (List T):=match ts with
  | [.int j]=>@ite _ (-(2 ^ 62)<=j/\j < 2 ^ 62) (Classical.propDecidable _) (.ok (zdA 0 j.toNat) M1) .bad
  | _=>.bad
noncomputable def zpP (ts:List T) (M1:Mem):Out (List T):=match ts with
  | [.int i,.int j]=>@ite _ ((-(2 ^ 62)<=i/\i < 2 ^ 62)/\(-(2 ^ 62)<=j/\j < 2 ^ 62)) (Classical.propDecidable _) (.ok (zdA i (j - i).toNat) M1) .bad
  | _=>.bad
noncomputable def yE (f:Ev->Mem->Out (List T)):Ev->Mem->Out (List T):=fun σ M=>(f σ M).bind fun ts M1=>zdB ts M1
noncomputable def zqp (f:Ev->Mem->Out (List T)):Ev->Mem->Out (List T):=fun σ M=>(f σ M).bind fun ts M1=>zpP ts M1
theorem zkT (K:PySem.W.Frag) (S:Sit) (lo:Int) (n:Nat):zdd K S (zdA lo n) (Itr lo n):=fun S' s=>by
  refine ⟨fun i t e=>?_,fun i h=>?_⟩
  · unfold zdA at e
    rw [List.getElem?_map] at e
    cases q:(List.range n)[i]? with
    | none=>rw [q] at e;cases e
    | some k=>
      rw [q] at e
      cases e
      have hi:i < n:=by have:=(List.getElem?_eq_some_iff.mp q).1;simpa using this
      have hk:k = i:=by rw [List.getElem?_range hi] at q;exact (Option.some.inj q).symm
      subst hk
      refine ⟨hi,fun x H' hy=>?_⟩
      obtain ⟨e1,e2⟩:=hy
      exact ⟨S',e1.symm,rfl,.refl s.mok,by rw [e2];exact .int _⟩
  · show n<=i
    simpa [zdA] using h
section
variable {X:Cx} {XE:XK} {a b c e iter tg:Expr} {es:List Expr} {f g h:Ev->Mem->Out T} {pos p:Pos} {ga:Ev->Mem->Out (List T)}
theorem zor (he:GE X XE e f):GI X XE tg e (zb5 f):=PI.imp (PI.or (zfr he) (zjo he)) fun σ H R h9=>by
  obtain ⟨S,στ,_,e,m,ev,_,fin⟩:=h9
  replace fin:Fin XE (zdd X.K) X.K S ((f στ S.M).bind fun t M1=>match zcV t with | some xs=>.ok xs M1 | none=>.bad) R:=fin
  cases o:f στ S.M with
  | bad=>rw [o] at fin;exact fin.elim
  | exn C fs M'=>
    rw [o] at fin
    refine .inl ⟨S,στ,(),e,m,ev,trivial,?_⟩
    show Fin XE (Rep X.K) X.K S (f στ S.M) _
    rw [o];exact fin
  | ok t M1=>
    rw [o] at fin
    cases t with
    | lst ts=>
      refine .inl ⟨S,στ,(),e,m,ev,trivial,?_⟩
      show Fin XE (Rep X.K) X.K S (f στ S.M) _
      rw [o]
      intro S1 v e1 s1 r1
      cases r1 with
      | @lst _ p vs h l r=>
        have r1:Reps X.K S1 ts vs:=⟨l,r⟩
        refine ⟨p,rfl,⟨vs,zcD h⟩,fin S1 _ e1 s1 fun S3 s3=>?_⟩
        have g3:SqL X.K S3.H p vs:=by
          rcases h with ⟨h2,f2⟩ | h2
          · exact .inl (s3.toGrow.rd h2 f2).1
          · exact .inr h2
        refine ⟨fun i t et=>?_,fun i hi=>⟨vs,g3,by rw [← l];exact hi⟩⟩
        obtain ⟨v2,ev3,r3⟩:=r1.get et
        refine ⟨⟨vs,v2,g3,ev3⟩,fun x H' hy=>?_⟩
        obtain ⟨ey,hy⟩:=hy
        have:=hy vs g3
        rw [ev3] at this
        cases this
        exact ⟨S3,ey.symm,rfl,.refl s3.mok,r3.grow s1.mok s3.toGrow⟩
    | tup ts=>
      refine .inr ⟨S,στ,(),e,m,ev,trivial,?_⟩
      show Fin XE (Rep X.K) X.K S (f στ S.M) _
      rw [o]
      intro S1 v e1 s1 r1
      cases r1 with
      | @tup _ p vs h l r=>
        have r1:Reps X.K S1 ts vs:=⟨l,r⟩
        refine ⟨p,rfl,⟨vs,h⟩,fin S1 _ e1 s1 fun S3 s3=>?_⟩
        have g3:SqT X.K S3.H p vs:=s3.toGrow.tup s1.mok h
        refine ⟨fun i t et=>?_,fun i hi=>⟨vs,g3,by rw [← l];exact hi⟩⟩
        obtain ⟨v2,ev3,r3⟩:=r1.get et
        refine ⟨⟨vs,v2,g3,ev3⟩,fun x H' hy=>?_⟩
        obtain ⟨ey,hy⟩:=hy
        have:=hy vs g3
        rw [ev3] at this
        cases this
        exact ⟨S3,ey.symm,rfl,.refl s3.mok,r3.grow s1.mok s3.toGrow⟩
    | _=>exact fin.elim
theorem zjM (hg:Gl X "range") (hm:X.mg "range" = none) (ha:GA X XE [a] ga) (hs:starEach [a] X.env = [(false,eval a X.env)]:=by rfl):GI X XE tg (.Call (.Name "range" p) [a] [] pos) (yE ga):=PI.imp (zjp hg hm ha hs) fun σ H R hh=>
  LN.mono (LN.bind (f:=fun _ σ M=>ga σ M) (k:=fun _ ts σ M1=>zdB ts M1) (RB:=Reps X.K) hh) fun vs H1 h9=>by
    obtain ⟨S,στ,a,e,m,ev,ra,fin⟩:=h9
    obtain ⟨u,ts⟩:=a
    have rr:Reps X.K S ts vs:=ra.2
    replace fin:Fin XE (zdd X.K) X.K S (zdB ts S.M) R:=fin
    unfold zdB at fin
    split at fin
    · rename_i j
      obtain ⟨v,vs',rfl,r1,r2⟩:=rr.consT
      cases r1
      rw [r2.nilT]
      split at fin
      · rename_i hj
        exact ⟨j,rfl,hj.1,hj.2,by rw [← e];exact fin S _ rfl (.refl m) (zkT _ _ _ _)⟩
      · exact fin.elim
    · exact fin.elim
end
noncomputable def qq (bd:T->Ev->Mem->Out Ev) (cond:Ev->Mem->Out Bool) (el:Ev->Mem->Out T):List T->Ev->Mem->List T->Out (List T)
  | [],_,M,acc=>.ok acc M
  | x :: xs,σ,M,acc=>(bd x σ M).bind fun σ1 M1=>(cond σ1 M1).bind fun b M2=>if b = true then (el σ1 M2).bind fun t M3=>if acc.length < sizeLine then qq bd cond el xs σ1 M3 (acc ++ [t]) else .bad else qq bd cond el xs σ1 M2 acc
noncomputable def zaK (tgs:List Str) (caps:List (Str × Nat)) (σ:Ev):Ev:=tgs.map (fun _=>none) ++ caps.map fun c=>(σ[c.2]?).join
noncomputable def qD (it:Ev->Mem->Out (List T)) (bd:T->Ev->Mem->Out Ev) (cond:Ev->Mem->Out Bool) (el:Ev->Mem->Out T) (tgs:List Str) (caps:List (Str × Nat)):Ev->Mem->Out (List T):=fun σ M=>(it σ M).bind fun xs M1=>qq bd cond el xs (zaK tgs caps σ) M1 []
noncomputable def yy:Ev->Mem->Out Bool:=fun _ M=>.ok true M
theorem EvR.cap {K:PySem.W.Frag} {S:Sit} {στ:Ev} {σ:L2.St} (r:EvR K S στ σ) (tgs:List Str) (caps:List (Str × Nat)):EvR K S (zaK tgs caps στ) (zaf tgs caps σ):=by
  refine ⟨by simp [zaK,zaf],fun i t e=>?_⟩
  unfold zaK at e
  unfold zaf
  by_cases hi:i < tgs.length
  · rw [List.getElem?_append_left (by simpa using hi)] at e
    rw [List.getElem?_map] at e
    cases q:tgs[i]? with
    | none=>rw [q] at e;cases e
    | some x=>rw [q] at e;cases e
  · rw [List.getElem?_append_right (by simpa using hi),List.getElem?_map] at e
    rw [List.getElem?_append_right (by simpa using hi),List.getElem?_map]
    simp only [List.length_map] at e ⊢
    cases q:caps[i - tgs.length]? with
    | none=>rw [q] at e;cases e
    | some cq=>
      rw [q] at e
      have e2:(στ[cq.2]?).join = some t:=Option.some.inj e
      have e3:στ[cq.2]? = some (some t):=by
        cases q2:στ[cq.2]? with
        | none=>rw [q2] at e2;cases e2
        | some o=>rw [q2] at e2;cases o with
          | none=>cases e2
          | some v'=>rw [show v' = t from Option.some.inj e2]
      obtain ⟨v,e4,r4⟩:=r.2 _ _ e3
      exact ⟨v,by show some ((σ[cq.2]?).join) = _;rw [e4];rfl,r4⟩
noncomputable def Sit.hput (S:Sit) (p:Addr) (vs:List V):Sit:=⟨S.α,S.M,upd S.H p (.lst vs),S.hid⟩
section
variable {K:PySem.W.Frag} {S S0:Sit} {p:Addr} {us:List V}
theorem Rep.hput (m:MemOk K S) (hp:p ∈ S.hid) {t:T} {v:V} (r:Rep K S t v):Rep K (S.hput p us) t v:=by
  obtain ⟨_,ws,ew⟩:=m.hd p hp
  induction r with
  | non=>exact .non
  | bl b=>exact .bl b
  | int b=>exact .int b
  | str b=>exact .str b
  | ty b=>exact .ty b
  | @tup ts q vs h l _ ih=>
    refine .tup ?_ l ih
    rcases h with (h | ⟨o,h⟩) | h
    · exact .inl (.inl ((zm (ziu h ew (by intro z;cases z))).trans h))
    · exact .inl (.inr ⟨o,(zm (ziu h ew (by intro z;cases z))).trans h⟩)
    · exact .inr h
  | @lst ts q vs h l _ ih=>
    refine .lst ?_ l ih
    rcases h with ⟨h,f⟩ | h
    · have hne:q ≠ p:=fun z=>f.2 (by rw [z];exact hp)
      refine .inl ⟨?_,f⟩
      rcases h with h | ⟨o,h⟩
      · exact .inl ((zm hne).trans h)
      · exact .inr ⟨o,(zm hne).trans h⟩
    · exact .inr h
  | ref h=>exact .ref (S:=S.hput p us) h
  | dct h l _ ih=>exact .dct (S:=S.hput p us) ((zm (ziu h ew (by intro z;cases z))).trans h) l ih
theorem Reps.hput (m:MemOk K S) (hp:p ∈ S.hid) {t:List T} {v:List V} (r:Reps K S t v):Reps K (S.hput p us) t v:=⟨r.1,fun i a b e1 e2=>(r.2 i a b e1 e2).hput m hp⟩
theorem CellOk.hput (m:MemOk K S) (hp:p ∈ S.hid) {q:Addr} {c:Cell} (hq:q ≠ p) (r:CellOk K S q c):CellOk K (S.hput p us) q c:=by
  cases c with
  | lst ts=>obtain ⟨vs,q,r⟩:=r;exact ⟨vs,(zm hq).trans q,r.hput m hp⟩
  | dic ts=>obtain ⟨vs,q,r⟩:=r;exact ⟨vs,(zm hq).trans q,r.1,r.2.hput m hp⟩
  | ins C ts=>obtain ⟨dx,vs,q,r⟩:=r;exact ⟨dx,vs,(zm hq).trans q,r.1,r.2.hput m hp⟩
theorem Stp.hput (s:Stp K S0 S) (hp:p ∈ S.hid) (hn:S0.H p = none) (m0:MemOk K S0):Stp K S0 (S.hput p us):=by
  refine ⟨⟨s.le,s.al,s.fr,fun b o e f=>(zm (yw e hn)).trans (s.kp b o e f),fun q h=>⟨(s.hk q h).1,?_⟩,s.hf⟩,⟨fun a c e=>?_,s.mok.inj,fun q h=>?_⟩⟩
  · obtain ⟨_,vs,e⟩:=m0.hd q h
    exact (zm (yw e hn)).trans (s.hk q h).2
  · exact (s.mok.cell a c e).hput s.mok hp ((s.mok.hd p hp).1 a (List.getElem?_eq_some_iff.mp e).1)
  · obtain ⟨h1,vs,e⟩:=s.mok.hd q h
    refine ⟨h1,?_⟩
    by_cases z:q = p
    · exact ⟨us,by show upd S.H p _ q = _;rw [z];exact zu⟩
    · exact ⟨vs,(zm z).trans e⟩
end
structure CB (X:Cx) (scope:Scope) (cl:List (Str × Addr)) (caps:List (Str × Nat)):Prop where
  hc:X.calm = true
  hclos:closureFor scope X.env = pure cl
  hcell:∀ y ∈ scope.names,y.2 = .cell->y.1 ∉ caps.map (·.1)
  hkind:scope.kind = .function
  hnames:∀ y ∈ scope.names,y.2 = .local->scope.names.lookup y.1 = some .local
  hcl:∀ y c,cl.lookup y = some c->X.env.cells.lookup y = some c
  hhas:∀ n y,((relabel scope X.env).names.lookup y = some .cell\/(relabel scope X.env).names.lookup y = some .free)->∃ c,(cellsFrom n scope.names cl).lookup y = some c
  hcap:∀ c ∈ caps,X.N[c.2]? = some c.1/\X.env.kindOf c.1 = some .cell/\((relabel scope X.env).names.lookup c.1 = some .cell\/(relabel scope X.env).names.lookup c.1 = some .free)
section
variable {X:Cx} {XE:XK}
theorem zeF {tgs:List Str} {caps:List (Str × Nat)} {ga:Ev->Mem->Out (List T)} {bd:T->Ev->Mem->Out Ev} {cond:Ev->Mem->Out Bool} {f:Ev->Mem->Out T} {σ:L2.St} {H:Hp} {Q:VK} (hh:lL XE X.K (qD ga bd cond f tgs caps) σ H Q) :
    zgg (lI XE X.K ga) (lG XE X.K bd) (lT XE X.K cond) (lE XE X.K f) (zaf tgs caps) σ H Q:=by
  obtain ⟨S,στ,e,m,ev,fin⟩:=hh
  replace fin:FinL XE X.K S ((ga στ S.M).bind fun xs M1=>qq bd cond f xs (zaK tgs caps στ) M1 []) Q:=fin
  refine ⟨S,στ,(),e,m,ev,trivial,?_⟩
  show Fin XE (zdd X.K) X.K S (ga στ S.M) _
  cases o:ga στ S.M with
  | bad=>rw [o] at fin;exact fin
  | exn C fs M'=>rw [o] at fin;exact fin
  | ok items M1=>
    rw [o] at fin
    replace fin:FinL XE X.K S (qq bd cond f items (zaK tgs caps στ) M1 []) Q:=fin
    intro S0 J e0 s0 it0 D hD
    have m0:=s0.mok
    have fin0:=fin.later s0
    have s1:=Stp.hide (K:=X.K) m0 hD []
    refine ⟨fun i n σ' H'=>∃ S στ acc vs,S.H = H'/\EvR X.K S στ σ'/\n = items.length - i/\i<=items.length/\D ∈ S.hid/\S.H D = some (.lst vs)/\Reps X.K S acc vs/\Stp X.K S0 S/\FinL XE X.K S0 (qq bd cond f (items.drop i) στ S.M acc) Q,
      ⟨items.length - 0,S0.hide D [],zaK tgs caps στ,[],[],rfl,(Mo.mo (K:=X.K) m0 s1 (Mo.mo (K:=X.K) m s0 ev)).cap tgs caps,rfl,Nat.zero_le _,.head _,zu,.nil,s1,by show FinL XE X.K S0 (qq bd cond f items (zaK tgs caps στ) S0.M []) Q;rw [e0];exact fin0⟩,?_⟩
    rintro i n σ1 H1 ⟨S2,στ2,acc,vs,e2,ev2,en,hi2,hid2,hD2,racc,s2,fin2⟩
    subst e2
    have m2:=s2.mok
    obtain ⟨itg,its⟩:=it0 S2 s2
    by_cases hl:i < items.length
    · have eq:items.drop i = items[i] :: items.drop (i + 1):=List.drop_eq_getElem_cons hl
      rw [eq] at fin2
      obtain ⟨go,yl⟩:=itg i items[i] (by simp [hl])
      refine .inr ⟨go,fun σ' H'=>∃ S στ acc vs,S.H = H'/\EvR X.K S στ σ'/\D ∈ S.hid/\S.H D = some (.lst vs)/\Reps X.K S acc vs/\Stp X.K S0 S/\FinL XE X.K S0 (qq bd cond f (items.drop (i + 1)) στ S.M acc) Q,?_,fun x H' hy=>?_⟩
      · rintro σ' H' ⟨S,στ,acc,vs,a1,a2,a3,a4,a5,a6,a7⟩
        exact ⟨items.length - (i + 1),by omega,S,στ,acc,vs,a1,a2,rfl,hl,a3,a4,a5,a6,a7⟩
      · obtain ⟨S3,e3,eM,s3,r3⟩:=yl x H' hy
        replace fin2:FinL XE X.K S0 ((bd items[i] στ2 S2.M).bind fun σ1 M1=>(cond σ1 M1).bind fun b M2=>if b = true then (f σ1 M2).bind fun t M3=>if acc.length < sizeLine then qq bd cond f (items.drop (i + 1)) σ1 M3 (acc ++ [t]) else .bad else qq bd cond f (items.drop (i + 1)) σ1 M2 acc) Q:=fin2
        refine ⟨S3,στ2,items[i],e3,s3.mok,Mo.mo m2 s3 ev2,r3,?_⟩
        show Fin XE (EvR X.K) X.K S3 (bd items[i] στ2 S3.M) _
        rw [eM]
        cases o1:bd items[i] στ2 S2.M with
        | bad=>rw [o1] at fin2;exact fin2
        | exn C fs M'=>rw [o1] at fin2;exact fun S' od a1 a2 a3=>fin2 S' od a1 ((s2.trans s3).trans a2) a3
        | ok σ4 M4=>
          rw [o1] at fin2
          intro S4 σ4v e4 s4 ev4
          have t4:=s3.trans s4
          replace fin2:FinL XE X.K S0 ((cond σ4 M4).bind fun b M2=>if b = true then (f σ4 M2).bind fun t M3=>if acc.length < sizeLine then qq bd cond f (items.drop (i + 1)) σ4 M3 (acc ++ [t]) else .bad else qq bd cond f (items.drop (i + 1)) σ4 M2 acc) Q:=fin2
          refine ⟨S4,σ4,(),rfl,s4.mok,ev4,trivial,?_⟩
          show Fin XE EqR X.K S4 (cond σ4 S4.M) _
          rw [e4]
          cases o2:cond σ4 M4 with
          | bad=>rw [o2] at fin2;exact fin2
          | exn C fs M'=>rw [o2] at fin2;exact fun S' od a1 a2 a3=>fin2 S' od a1 ((s2.trans t4).trans a2) a3
          | ok b M5=>
            rw [o2] at fin2
            intro S5 b5 e5 s5 eb
            have eb':b = b5:=eb
            subst eb'
            have t5:=t4.trans s5
            replace fin2:FinL XE X.K S0 (if b = true then (f σ4 M5).bind fun t M3=>if acc.length < sizeLine then qq bd cond f (items.drop (i + 1)) σ4 M3 (acc ++ [t]) else .bad else qq bd cond f (items.drop (i + 1)) σ4 M5 acc) Q:=fin2
            cases b with
            | false=>
              rw [if_neg Bool.false_ne_true] at fin2
              refine (if_neg Bool.false_ne_true).mpr ⟨S5,σ4,acc,vs,rfl,Mo.mo s4.mok s5 ev4,(t5.hk D hid2).1,by rw [(t5.hk D hid2).2];exact hD2,racc.grow m2 t5.toGrow,s2.trans t5,by rw [e5];exact fin2⟩
            | true=>
              rw [if_pos rfl] at fin2
              refine (if_pos rfl).mpr ⟨S5,σ4,(),rfl,s5.mok,Mo.mo s4.mok s5 ev4,trivial,?_⟩
              show Fin XE (Rep X.K) X.K S5 (f σ4 S5.M) _
              rw [e5]
              cases o3:f σ4 M5 with
              | bad=>rw [o3] at fin2;exact fin2
              | exn C fs M'=>rw [o3] at fin2;exact fun S' od a1 a2 a3=>fin2 S' od a1 ((s2.trans t5).trans a2) a3
              | ok t M6=>
                rw [o3] at fin2
                replace fin2:FinL XE X.K S0 (if acc.length < sizeLine then qq bd cond f (items.drop (i + 1)) σ4 M6 (acc ++ [t]) else .bad) Q:=fin2
                intro S6 v6 e6 s6 r6
                have t6:=t5.trans s6
                have hz:acc.length < sizeLine:=by
                  by_cases hz:acc.length < sizeLine
                  · exact hz
                  · rw [if_neg hz] at fin2;exact fin2.elim
                rw [if_pos hz] at fin2
                have hid6:=(t6.hk D hid2).1
                have hD6:S6.H D = some (.lst vs):=by rw [(t6.hk D hid2).2];exact hD2
                refine ⟨vs,hD6,by rw [← racc.1];exact hz,S6.hput D (vs ++ [v6]),σ4,acc ++ [t],vs ++ [v6],rfl,?_,hid6,zu,?_,(s2.trans t6).hput hid6 hD m0,by show FinL XE X.K S0 (qq bd cond f (items.drop (i + 1)) σ4 S6.M (acc ++ [t])) Q;rw [e6];exact fin2⟩
                · have ev6:EvR X.K S6 σ4 σ4v:=Mo.mo s4.mok (s5.trans s6) ev4
                  exact ⟨ev6.1,fun i t e=>let ⟨v,e',q⟩:=ev6.2 i t e;⟨v,e',q.hput s6.mok hid6⟩⟩
                · exact ((racc.grow m2 t6.toGrow).app (.cons r6 .nil)).hput s6.mok hid6
    · rw [List.drop_eq_nil_of_le (by omega)] at fin2
      refine .inl ⟨its i (by omega),?_⟩
      exact fin2 S2 D vs rfl s2 hD hid2 hD2 racc
theorem zmJ {tg elt iter:Expr} {ifs:List Expr} {scope:Scope} {cl:List (Str × Addr)} {pos:Pos} {tgs:List Str} {caps:List (Str × Nat)} {ga:Ev->Mem->Out (List T)} {bd:T->Ev->Mem->Out Ev} {cond:Ev->Mem->Out Bool} {f:Ev->Mem->Out T}
    (hi:GI X XE tg iter ga) (cb:CB X scope cl caps)
    (hg:∀ ex s0 H0,GG (X.block scope cl (tgs ++ caps.map (·.1)) ex s0 H0) XE tg bd) (hif:∀ ex s0 H0,PTs (X.block scope cl (tgs ++ caps.map (·.1)) ex s0 H0) ifs (lT XE X.K cond)) (hel:∀ ex s0 H0,GE (X.block scope cl (tgs ++ caps.map (·.1)) ex s0 H0) XE elt f)
    (hs:∀ x,foldedSetIterable iter X.env x = pure x:=by intro _;rfl) :
    GL X XE (.ListComp elt [⟨tg,iter,ifs,0⟩] scope pos) (qD ga bd cond f tgs caps):=PE.imp (zhN (tgs:=tgs) (g:=lG XE X.K bd) (tc:=lT XE X.K cond) (te:=lE XE X.K f) cb.hc hi cb.hclos cb.hcell cb.hkind cb.hnames cb.hcl cb.hhas cb.hcap hg hif hel hs) fun σ H Q hh=>zeF hh
theorem zhz {i0:Nat} {y0:Str} {py spos:Pos} {tg elt iter:Expr} {ifs:List Expr} {scope:Scope} {cl:List (Str × Addr)} {pos:Pos} {tgs:List Str} {caps:List (Str × Nat)} {ga:Ev->Mem->Out (List T)} {bd:T->Ev->Mem->Out Ev} {cond:Ev->Mem->Out Bool} {f:Ev->Mem->Out T}
    (hi:GI X XE tg iter ga) (cb:CB X scope cl caps)
    (hg:∀ ex s0 H0,GG (X.block scope cl (tgs ++ caps.map (·.1)) ex s0 H0) XE tg bd) (hif:∀ ex s0 H0,PTs (X.block scope cl (tgs ++ caps.map (·.1)) ex s0 H0) ifs (lT XE X.K cond)) (hel:∀ ex s0 H0,GE (X.block scope cl (tgs ++ caps.map (·.1)) ex s0 H0) XE elt f)
    (hN0:X.N.Nodup) (hi0:X.N[i0]? = some y0) (hx0:Loc X.env.scope y0)
    (hsw:swapsWith (.ListComp elt [⟨tg,iter,ifs,0⟩] scope pos) (some (.Name y0 py)) spos.line X.env = pure true:=by rfl)
    (hf0:X.fn y0 = true\/X.env.scope.names.lookup y0 = some .local:=by first | exact .inl rfl | exact .inr rfl | assumption)
    (hs:∀ x,foldedSetIterable iter X.env x = pure x:=by intro _;rfl) :
    GS X XE (.Assign [.Name y0 py] (.ListComp elt [⟨tg,iter,ifs,0⟩] scope pos) spos) (zj i0 (eFz (qD ga bd cond f tgs caps))):=PS.imp (zbG (tgs:=tgs) (g:=lG XE X.K bd) (tc:=lT XE X.K cond) (te:=lE XE X.K f) cb.hc hi cb.hclos cb.hcell cb.hkind cb.hnames cb.hcl cb.hhas cb.hcap hg hif hel hN0 hi0 hx0 hsw hf0 hs) fun D σ H ⟨S,στ,_,e,m,ev,_,fin⟩=>zeF ⟨S,στ,e,m,ev,by
  show FinL XE X.K S (qD ga bd cond f tgs caps στ S.M) _
  replace fin:Fin XE (FlR X.K) X.K S (((qD ga bd cond f tgs caps στ S.M).bind fun xs M1=>.ok (T.lst xs) M1).bind fun t M1=>.ok (.nx (στ.set i0 (some t))) M1) (zG D):=fin
  cases q:qD ga bd cond f tgs caps στ S.M with
  | bad=>rw [q] at fin;exact fin
  | exn C fs M'=>rw [q] at fin;exact fin
  | ok xs M1=>
    rw [q] at fin
    intro S1 p vs e1 s1 hn hp hv r
    exact fin (S1.show S.hid) (.nx (σ.set i0 (some (.ref p)))) e1 s1.show (.nx ((Mo.mo (K:=X.K) m s1.show ev).set (zfx s1 hn m hp hv r) i0))⟩
theorem zhy {i0:Nat} {y0:Str} {py spos:Pos} {tg elt iter:Expr} {ifs:List Expr} {scope:Scope} {cl:List (Str × Addr)} {pos:Pos} {tgs:List Str} {caps:List (Str × Nat)} {ga:Ev->Mem->Out (List T)} {bd:T->Ev->Mem->Out Ev} {cond:Ev->Mem->Out Bool} {f:Ev->Mem->Out T}
    (hi:GI X XE tg iter ga) (cb:CB X scope cl caps)
    (hg:∀ ex s0 H0,GG (X.block scope cl (tgs ++ caps.map (·.1)) ex s0 H0) XE tg bd) (hif:∀ ex s0 H0,PTs (X.block scope cl (tgs ++ caps.map (·.1)) ex s0 H0) ifs (lT XE X.K cond)) (hel:∀ ex s0 H0,GE (X.block scope cl (tgs ++ caps.map (·.1)) ex s0 H0) XE elt f)
    (hN0:X.N.Nodup) (hi0:X.N[i0]? = some y0) (hx0:Loc X.env.scope y0)
    (hsw:swapsWith (.ListComp elt [⟨tg,iter,ifs,0⟩] scope pos) (some (.Name y0 py)) spos.line X.env = pure true:=by rfl)
    (hf0:X.fn y0 = true\/X.env.scope.names.lookup y0 = some .local:=by first | exact .inl rfl | exact .inr rfl | assumption)
    (hs:∀ x,foldedSetIterable iter X.env x = pure x:=by intro _;rfl) :
    GS X XE (.Assign [.Name y0 py] (.ListComp elt [⟨tg,iter,ifs,0⟩] scope pos) spos) (zj i0 (eTk (qD ga bd cond f tgs caps))):=PS.imp (zbG (tgs:=tgs) (g:=lG XE X.K bd) (tc:=lT XE X.K cond) (te:=lE XE X.K f) cb.hc hi cb.hclos cb.hcell cb.hkind cb.hnames cb.hcl cb.hhas cb.hcap hg hif hel hN0 hi0 hx0 hsw hf0 hs) fun D σ H ⟨S,στ,_,e,m,ev,_,fin⟩=>zeF ⟨S,στ,e,m,ev,by
  show FinL XE X.K S (qD ga bd cond f tgs caps στ S.M) _
  replace fin:Fin XE (FlR X.K) X.K S (((qD ga bd cond f tgs caps στ S.M).bind fun xs M1=>.ok (T.ref M1.length) (M1 ++ [.lst xs])).bind fun t M1=>.ok (.nx (στ.set i0 (some t))) M1) (zG D):=fin
  cases q:qD ga bd cond f tgs caps στ S.M with
  | bad=>rw [q] at fin;exact fin
  | exn C fs M'=>rw [q] at fin;exact fin
  | ok xs M1=>
    rw [q] at fin
    intro S1 p vs e1 s1 hn hp hv r
    have st:=s1.track m hn hp hv r
    have this:(S1.track p xs S.hid).α S1.M.length = p:=if_pos rfl
    have hl:S1.M.length < (S1.track p xs S.hid).M.length:=by show _ < (S1.M ++ [Cell.lst xs]).length;simp
    have r2:Rep X.K (S1.track p xs S.hid) (.ref S1.M.length) (.ref ((S1.track p xs S.hid).α S1.M.length)):=.ref hl
    rw [this,e1] at r2
    exact fin (S1.track p xs S.hid) (.nx (σ.set i0 (some (.ref p)))) (by show S1.M ++ _ = _;rw [e1]) st (.nx ((Mo.mo (K:=X.K) m st ev).set r2 i0))⟩
theorem zmC:PTs X [] (lT XE X.K yy):=fun pins s σ H Q I h=>zlX pins s σ H Q I (zgk h)
theorem zmB {c:Expr} {tf:Ev->Mem->Out Bool} (h:GT X XE c tf):PTs X [c] (lT XE X.K tf):=zlW h
end
end FT
namespace FT
open PySem PySem.Spec PyProof.Rows L2
noncomputable def LNL {A AV:Type} (XE:XK) (K:PySem.W.Frag) (RA:Sit->A->AV->Prop) (k:A->Ev->Mem->Out (List T)) (av:AV) (σ:L2.St) (H:Hp) (Q:VK):Prop:=
  ∃ (S:Sit) (στ:Ev) (a:A),S.H = H/\MemOk K S/\EvR K S στ σ/\RA S a av/\FinL XE K S (k a στ S.M) Q
theorem LNL.bind {K:PySem.W.Frag} {XE:XK} {A AV B BV:Type} {RA:Sit->A->AV->Prop} {RB:Sit->B->BV->Prop} [Mo K RA] {f:A->Ev->Mem->Out B} {k:A->B->Ev->Mem->Out (List T)} {av:AV} {σ:L2.St} {H:Hp} {Q:VK}
    (h:LNL XE K RA (fun a σ M=>(f a σ M).bind fun b M1=>k a b σ M1) av σ H Q):LN XE RB K RA f av σ H (fun bv H1=>LNL XE K (PrR RA RB) (fun ab=>k ab.1 ab.2) (av,bv) σ H1 Q):=by
  obtain ⟨S,στ,a,e,m,ev,ra,fin⟩:=h
  refine ⟨S,στ,a,e,m,ev,ra,?_⟩
  replace fin:FinL XE K S ((f a στ S.M).bind fun b M1=>k a b στ M1) Q:=fin
  cases q:f a στ S.M with
  | bad=>rw [q] at fin;exact fin
  | exn C fs M'=>rw [q] at fin;exact fin
  | ok b M1=>
    rw [q] at fin
    intro S1 c e1 s1 r1
    refine ⟨S1,στ,(a,b),rfl,s1.mok,Mo.mo m s1 ev,⟨Mo.mo m s1 ra,r1⟩,?_⟩
    rw [e1]
    exact fin.later s1
noncomputable def L0L {A AV:Type} (XE:XK) (K:PySem.W.Frag) (RA:Sit->A->AV->Prop) (k:A->Mem->Out (List T)) (av:AV) (H:Hp) (Q:VK):Prop:=∃ (S:Sit) (a:A),S.H = H/\MemOk K S/\RA S a av/\FinL XE K S (k a S.M) Q
noncomputable def zkS (XE:XK) (K:PySem.W.Frag) (o:List T->Mem->Out (List T)):List V->Hp->VK->Prop:=fun xs H Q=>L0L XE K (Reps K) o xs H Q
noncomputable def lOp (o:T->T->Mem->Out (List T)) (f g:Ev->Mem->Out T):Ev->Mem->Out (List T):=fun σ M=>(f σ M).bind fun x M1=>(g σ M1).bind fun y M2=>o x y M2
noncomputable def zbI (F:List T->Mem->Out (List T)) (g:Ev->Mem->Out (List T)):Ev->Mem->Out (List T):=fun σ M=>(g σ M).bind fun ts M1=>F ts M1
theorem zkE {XE:XK} {K:PySem.W.Frag} {S:Sit} {xs:List T} {vs:List V} {Q:VK} (m:MemOk K S) (fin:FinL XE K S (.ok xs S.M) Q) (r:Reps K S xs vs):∀ p,S.H p = none->Q (.ref p) (upd S.H p (.lst vs)):=fun p hp=>
  fin (S.hide p vs) p vs rfl (Stp.hide m hp vs) hp (.head _) zu (r.grow m (Stp.hide m hp vs).toGrow)
section
variable {X:Cx} {XE:XK} {a b e:Expr} {es:List Expr} {f g:Ev->Mem->Out T} {pos p:Pos} {ga:Ev->Mem->Out (List T)} {x:Str}
theorem zjL {id:String} {F:List T->Mem->Out (List T)} (hc:CallR X (.type id) (zkS XE X.K F)) (hg:Gl X x) (hm:X.mg x = none) (hv:bootBuiltins x = some (.type id)) (ha:GA X XE (e :: es) ga) (hn:x ≠ "__name__":=by decide) (hdb:(x == ("__debug__":Str)) = false:=by decide)
    (he:noStar e = true:=by rfl) (hpl:es.all noStar = true:=by rfl) :
    GL X XE (.Call (.Name x p) (e :: es) [] pos) (zbI F ga):=PE.imp (zfQ hc hg hm hv ha hn hdb (qG he) (zbW hpl)) fun σ H Q ⟨S,στ,e,m,ev,fin⟩=>
  LN.mono (LNL.bind (f:=fun (_:Unit) σ M=>ga σ M) (k:=fun _ ts σ M1=>F ts M1) (RA:=UnR) (RB:=Reps X.K) ⟨S,στ,(),e,m,ev,trivial,fin⟩) fun vs H1 ⟨S,στ,a,e,m,ev,ra,fin⟩=>⟨S,a.2,e,m,ra.2,fin⟩
end
noncomputable def zaG (k:Int->Int->Mem->Out T) (x y:T) (M:Mem):Out T:=match x,y with
  | .int i,.int j=>k i j M
  | _,_=>.bad
noncomputable def Mo64 (i j:Int):Prop:=(i.natAbs < 10 ^ 3000/\j.natAbs < 10 ^ 3000)\/(-(2 ^ 64) < i/\i < 2 ^ 64)\/(-(2 ^ 64) < j/\j < 2 ^ 64)
instance (i j:Int):Decidable (Mo64 i j):=inferInstanceAs (Decidable (_\/_))
theorem Mo64.ok {i j:Int} (h:Mo64 i j):CMulB i j:=by
  rcases h with h | h
  · exact .inl ⟨3000,3000,h.1,h.2,Nat.le_refl _,Nat.le_refl _⟩
  · exact .inr h
noncomputable def zcR:T->T->Mem->Out T:=zaG fun i j M=>.ok (.int (i - j)) M
noncomputable def zbE:T->T->Mem->Out T:=zaG fun i j M=>if j ≠ 0/\j.natAbs < 10 ^ 2000 then .ok (.int (i.fdiv j)) M else .bad
noncomputable def zaF:T->T->Mem->Out T:=zaG fun i j M=>if j ≠ 0 then .ok (.int (i.fmod j)) M else .bad
noncomputable def zc1:T->T->Mem->Out T:=zaG fun i j M=>if 0<=j/\j<=1000000/\i.natAbs < 2 ^ 64 then .ok (.int (i ^ j.toNat)) M else .bad
noncomputable def ltI:T->T->Mem->Out T:=zaG fun i j M=>.ok (.bl (decide (i < j))) M
noncomputable def leI:T->T->Mem->Out T:=zaG fun i j M=>.ok (.bl (decide (i<=j))) M
noncomputable def gtI:T->T->Mem->Out T:=zaG fun i j M=>.ok (.bl (decide (j < i))) M
noncomputable def geI:T->T->Mem->Out T:=zaG fun i j M=>.ok (.bl (decide (j<=i))) M
noncomputable def zaa:T->Mem->Out T:=fun x M=>match x with
  | .int i=>.ok (.int (-i)) M
  | _=>.bad
section
variable {X:Cx} {XE:XK}
theorem zhM {K:PySem.W.Frag} {S:Sit} {i:Int} {v:V} (r:Rep K S (.int i) v):v = .int i:=by cases r;rfl
theorem zbN {fn:Value->Value->Sem Value} {r:R2} {k:Int->Int->Mem->Out T} (ho:OpR X fn r)
    (h:∀ i j S Q,MemOk X.K S->Fin XE (Rep X.K) X.K S (k i j S.M) Q->r (.int i) (.int j) S.H Q):OpR X fn (lR2 XE X.K (zaG k)):=by
  intro pins s σ H x y v u Q I rx ry ⟨S,⟨tx,ty⟩,e,m,⟨r1,r2⟩,fin⟩
  replace fin:Fin XE (Rep X.K) X.K S (zaG k tx ty S.M) Q:=fin
  unfold zaG at fin
  split at fin
  · have e1:=zhM r1
    have e2:=zhM r2
    dsimp only at e1 e2
    subst e1;subst e2;subst e
    exact ho pins s σ S.H _ _ v u Q I rx ry (h _ _ S Q m fin)
  · exact fin.elim
theorem zbM:OpR X (binaryOp .Sub) (lR2 XE X.K zcR):=zbN znJ fun i j S Q m fin=>⟨i,j,rfl,rfl,fin S _ rfl (.refl m) (.int _)⟩
theorem zcC:OpR X (binaryOp .FloorDiv) (lR2 XE X.K zbE):=zbN zkA fun i j S Q m fin=>by
  by_cases h:j ≠ 0/\j.natAbs < 10 ^ 2000
  · rw [if_pos h] at fin
    exact ⟨i,j,rfl,rfl,⟨h.1,2000,h.2,Nat.le_refl _⟩,fin S _ rfl (.refl m) (.int _)⟩
  · rw [if_neg h] at fin;exact fin.elim
theorem zap:OpR X (binaryOp .Mod) (lR2 XE X.K zaF):=zbN zmh fun i j S Q m fin=>by
  by_cases h:j ≠ 0
  · rw [if_pos h] at fin
    exact ⟨i,j,rfl,rfl,h,fin S _ rfl (.refl m) (.int _)⟩
  · rw [if_neg h] at fin;exact fin.elim
theorem zbj:OpR X (binaryOp .Pow) (lR2 XE X.K zc1):=zbN znK fun i j S Q m fin=>by
  by_cases h:0<=j/\j<=1000000/\i.natAbs < 2 ^ 64
  · rw [if_pos h] at fin
    exact ⟨i,j,rfl,rfl,h,fin S _ rfl (.refl m) (.int _)⟩
  · rw [if_neg h] at fin;exact fin.elim
theorem zaY:OpR X (compareOp .Lt) (lR2 XE X.K ltI):=zbN zpe fun i j S Q m fin=>⟨i,j,rfl,rfl,fin S _ rfl (.refl m) (.bl _)⟩
theorem zcB:OpR X (compareOp .Gt) (lR2 XE X.K gtI):=zbN zpf fun i j S Q m fin=>⟨i,j,rfl,rfl,fin S _ rfl (.refl m) (.bl _)⟩
theorem qP:L2.UnR X (unaryOp .USub) (lR1 XE X.K zaa):=by
  intro pins s σ H x v Q I rx ⟨S,t,e,m,r,fin⟩
  replace fin:Fin XE (Rep X.K) X.K S (zaa t S.M) Q:=fin
  unfold zaa at fin
  split at fin
  · cases r
    subst e
    exact zm6 pins s σ S.H _ v Q I rx ⟨_,rfl,fin S _ rfl (.refl m) (.int _)⟩
  · exact fin.elim
noncomputable def isB:T->T->Mem->Out T:=fun x y M=>match x,y with
  | .bl a,.bl b=>.ok (.bl (a == b)) M
  | _,_=>.bad
noncomputable def zpi:T->T->Mem->Out T:=fun x y M=>match x,y with
  | .bl a,.bl b=>.ok (.bl (a != b)) M
  | _,_=>.bad
noncomputable def zkB:T->Bool
  | .non=>true
  | _=>false
noncomputable def isN:T->T->Mem->Out T:=fun x y M=>match y with
  | .non=>.ok (.bl (zkB x)) M
  | _=>.bad
noncomputable def zd4:T->T->Mem->Out T:=fun x y M=>match y with
  | .non=>.ok (.bl (!zkB x)) M
  | _=>.bad
theorem zgP {K:PySem.W.Frag} {S:Sit} {t:T} {v:V} (r:Rep K S t v):decide (v = .non) = zkB t:=by
  cases r <;> first | rfl | exact decide_eq_false (by intro z;cases z)
theorem zd1:OpR X (compareOp .Is) (lR2 XE X.K isN):=by
  intro pins s σ H x y v u Q I rx ry ⟨S,⟨tx,ty⟩,e,m,⟨r1,r2⟩,fin⟩
  replace fin:Fin XE (Rep X.K) X.K S (isN tx ty S.M) Q:=fin
  unfold isN at fin
  split at fin
  · cases r2;subst e
    exact znL pins s σ S.H _ _ v u Q I rx ry ⟨rfl,by rw [zgP r1];exact fin S _ rfl (.refl m) (.bl _)⟩
  · exact fin.elim
theorem zjt:OpR X (compareOp .IsNot) (lR2 XE X.K zd4):=by
  intro pins s σ H x y v u Q I rx ry ⟨S,⟨tx,ty⟩,e,m,⟨r1,r2⟩,fin⟩
  replace fin:Fin XE (Rep X.K) X.K S (zd4 tx ty S.M) Q:=fin
  unfold zd4 at fin
  split at fin
  · cases r2;subst e
    exact zme pins s σ S.H _ _ v u Q I rx ry ⟨rfl,by rw [zgP r1];exact fin S _ rfl (.refl m) (.bl _)⟩
  · exact fin.elim
noncomputable def zc4 (M:Mem):T->T->Option T
  | .tup xs,.int i=>atI xs i
  | .lst xs,.int i=>atI xs i
  | .ref a,.int i=>match M[a]? with
    | some (.lst xs)=>atI xs i
    | _=>none
  | _,_=>none
noncomputable def zbi (o:Option T) (M:Mem):Out T:=match o with
  | some t=>.ok t M
  | none=>.bad
noncomputable def ixT:T->T->Mem->Out T:=fun x y M=>zbi (zc4 M x y) M
theorem Reps.atI {K:PySem.W.Frag} {S:Sit} {ts:List T} {vs:List V} (r:Reps K S ts vs) {i:Int} {t:T} (e:L2.atI ts i = some t):∃ v,L2.atI vs i = some v/\Rep K S t v:=by
  unfold L2.atI at e ⊢
  rw [← r.1]
  cases q:ixN ts.length i with
  | none=>rw [q] at e;cases e
  | some j=>
    rw [q] at e
    obtain ⟨v,e2,r2⟩:=r.get (show ts[j]? = some t from e)
    exact ⟨v,e2,r2⟩
theorem zmP {K:PySem.W.Frag} {S:Sit} {tx ty t:T} {x y:V} (m:MemOk K S) (r1:Rep K S tx x) (r2:Rep K S ty y) (e:zc4 S.M tx ty = some t) :
    ∃ p vs i v,x = .ref p/\y = .int i/\(SqL K S.H p vs\/SqT K S.H p vs)/\L2.atI vs i = some v/\Rep K S t v:=by
  unfold zc4 at e
  split at e
  · cases r2
    cases r1 with
    | @tup _ p vs h l r=>
      obtain ⟨v,e2,r3⟩:=Reps.atI ⟨l,r⟩ e
      exact ⟨p,vs,_,v,rfl,rfl,.inr h,e2,r3⟩
  · cases r2
    cases r1 with
    | @lst _ p vs h l r=>
      obtain ⟨v,e2,r3⟩:=Reps.atI ⟨l,r⟩ e
      exact ⟨p,vs,_,v,rfl,rfl,.inl (zcD h),e2,r3⟩
  · split at e
    · rename_i q
      cases r2
      cases r1 with
      | ref h=>
        obtain ⟨vs,q2,r⟩:=m.cell _ _ q
        obtain ⟨v,e2,r3⟩:=Reps.atI r e
        exact ⟨_,vs,_,v,rfl,rfl,.inl (.inl (.inl q2)),e2,r3⟩
    · cases e
  · cases e
theorem zhP {K:PySem.W.Frag} {S:Sit} {o:Option T} {Q:VK} (fin:Fin XE (Rep K) K S (zbi o S.M) Q):∃ t,o = some t/\Fin XE (Rep K) K S (.ok t S.M) Q:=by
  unfold zbi at fin
  split at fin
  · exact ⟨_,rfl,fin⟩
  · exact fin.elim
theorem qr:IxR X (lR2 XE X.K ixT):=by
  intro va sl pins s σ H x y v u Q I rx ry ⟨S,⟨tx,ty⟩,e,m,⟨r1,r2⟩,fin⟩ hs
  obtain ⟨t,et,fin⟩:=zhP (show Fin XE (Rep X.K) X.K S (zbi (zc4 S.M tx ty) S.M) Q from fin)
  obtain ⟨p,vs,i,w,e1,e2,hq,ea,r3⟩:=zmP m r1 r2 et
  dsimp only at e1 e2
  subst e1;subst e2;subst e
  refine zoa va sl pins s σ S.H _ _ v u Q I rx ry ?_ hs
  rcases hq with hq | hq
  · exact .inl ⟨p,vs,i,w,rfl,rfl,hq,ea,fin S w rfl (.refl m) r3⟩
  · exact .inr (.inl ⟨p,vs,i,w,rfl,rfl,hq,ea,fin S w rfl (.refl m) r3⟩)
noncomputable def qt (k:T->Mem->Out T) (ts:List T) (M:Mem):Out T:=match ts with
  | [t]=>k t M
  | _=>.bad
noncomputable def call2 (k:T->T->Mem->Out T) (ts:List T) (M:Mem):Out T:=match ts with
  | [t,u]=>k t u M
  | _=>.bad
theorem zcc {F:Value} {k:T->Mem->Out T} (h:∀ (pins:List (Addr × Obj)) (s:Shared) (σ:L2.St) (S:Sit) (t:T) (x:V) (v:Value) (Q:VK),Inv X pins σ S.H s->RelV x v->MemOk X.K S->Rep X.K S t x->Fin XE (Rep X.K) X.K S (k t S.M) Q->wpAny (model X.prog X.w) X.A (call F [v]) (EP X pins σ Q) X.xe s):CallR X F (lRN XE X.K (qt k)):=by
  intro pins s σ H xs us Q I r ⟨S,ts,e,m,rs,fin⟩
  subst e
  replace fin:Fin XE (Rep X.K) X.K S (qt k ts S.M) Q:=fin
  unfold qt at fin
  split at fin
  · obtain ⟨v,vs,rfl,r1,r2⟩:=rs.consT
    rw [r2.nilT] at r
    obtain ⟨u,rfl,rx⟩:=vals1 r
    exact h pins s σ S _ v u Q I rx m r1 fin
  · exact fin.elim
theorem zeG {F:Value} {k:T->T->Mem->Out T} (h:∀ (pins:List (Addr × Obj)) (s:Shared) (σ:L2.St) (S:Sit) (t1 t2:T) (x1 x2:V) (v1 v2:Value) (Q:VK),Inv X pins σ S.H s->RelV x1 v1->RelV x2 v2->MemOk X.K S->Rep X.K S t1 x1->Rep X.K S t2 x2->Fin XE (Rep X.K) X.K S (k t1 t2 S.M) Q->wpAny (model X.prog X.w) X.A (call F [v1,v2]) (EP X pins σ Q) X.xe s):CallR X F (lRN XE X.K (call2 k)):=by
  intro pins s σ H xs us Q I r ⟨S,ts,e,m,rs,fin⟩
  subst e
  replace fin:Fin XE (Rep X.K) X.K S (call2 k ts S.M) Q:=fin
  unfold call2 at fin
  split at fin
  · obtain ⟨v,vs,rfl,r1,r2⟩:=rs.consT
    obtain ⟨v2,vs2,rfl,r3,r4⟩:=r2.consT
    rw [r4.nilT] at r
    obtain ⟨u,w,rfl,rx,ry⟩:=vals2 r
    exact h pins s σ S _ _ v v2 u w Q I rx ry m r1 r3 fin
  · exact fin.elim
noncomputable def zM:T->Mem->Out T:=fun t M=>match t with
  | .str z=>if z.length<=sizeLine then .ok (.int z.length) M else .bad
  | t=>match zbF t M with
    | some xs=>.ok (.int xs.length) M
    | none=>.bad
theorem yI:CallR X (.builtin "len") (lRN XE X.K (qt zM)):=zcc fun pins s σ S t x v Q I rx m r fin=>by
  unfold zM at fin
  split at fin
  · cases r
    split at fin
    · rename_i hz
      exact zhm pins s σ S.H _ _ Q I (.cons rx .nil) ⟨_,rfl,hz,fin S _ rfl (.refl m) (.int _)⟩
    · exact fin.elim
  · split at fin
    · rename_i xs q
      obtain ⟨p,vs,rfl,hq,rs⟩:=zcj m r q
      exact zhn pins s σ S.H _ _ Q I (.cons rx .nil) ⟨p,vs,rfl,hq,by rw [← rs.1];exact fin S _ rfl (.refl m) (.int _)⟩
    · exact fin.elim
noncomputable def zfG:T->Mem->Out T:=fun t M=>match t with
  | .int i=>.ok (.int (if i < 0 then -i else i)) M
  | _=>.bad
theorem zdQ:CallR X (.builtin "abs") (lRN XE X.K (qt zfG)):=zcc fun pins s σ S t x v Q I rx m r fin=>by
  unfold zfG at fin
  split at fin
  · cases r
    exact zll pins s σ S.H _ _ Q I (.cons rx .nil) ⟨_,rfl,fin S _ rfl (.refl m) (.int _)⟩
  · exact fin.elim
noncomputable def ziw:T->T->Mem->Out T:=zaG fun i j M=>.ok (.int (if j > i then j else i)) M
noncomputable def ziv:T->T->Mem->Out T:=zaG fun i j M=>.ok (.int (if j < i then j else i)) M
theorem zj9 (hc:X.calm = true):CallR X (.builtin "max") (lRN XE X.K (call2 ziw)):=zeG fun pins s σ S t1 t2 x1 x2 v1 v2 Q I rx ry m r1 r2 fin=>by
  unfold ziw zaG at fin
  split at fin
  · cases r1;cases r2
    exact zka hc pins s σ S.H _ _ Q I (.cons rx (.cons ry .nil)) ⟨_,_,rfl,fin S _ rfl (.refl m) (.int _)⟩
  · exact fin.elim
theorem zj7 (hc:X.calm = true):CallR X (.builtin "min") (lRN XE X.K (call2 ziv)):=zeG fun pins s σ S t1 t2 x1 x2 v1 v2 Q I rx ry m r1 r2 fin=>by
  unfold ziv zaG at fin
  split at fin
  · cases r1;cases r2
    exact zj8 hc pins s σ S.H _ _ Q I (.cons rx (.cons ry .nil)) ⟨_,_,rfl,fin S _ rfl (.refl m) (.int _)⟩
  · exact fin.elim
noncomputable def z9:T->Mem->Out T:=fun t M=>match zbF t M with
  | some xs=>.ok (.tup xs) M
  | none=>.bad
theorem zax:CallR X (.type "tuple") (lRN XE X.K (qt z9)):=zcc fun pins s σ S t x v Q I rx m r fin=>by
  unfold z9 at fin
  split at fin
  · rename_i xs q
    obtain ⟨p,vs,rfl,hq,rs⟩:=zcj m r q
    refine zgd pins s σ S.H _ _ Q I (.cons rx .nil) ⟨p,vs,rfl,?_⟩
    rcases hq with hq | hq
    · refine .inl ⟨hq,fun l hl=>?_⟩
      have s2:=Stp.new m hl (.tup vs)
      exact fin ⟨S.α,S.M,upd S.H l (.tup vs),S.hid⟩ (.ref l) rfl s2 (.tup (.inl (.inl zu)) rs.1 (rs.grow m s2.toGrow).2)
    · exact .inr ⟨hq,fin S _ rfl (.refl m) (.tup hq rs.1 rs.2)⟩
  · exact fin.elim
noncomputable def z7:List T->Mem->Out (List T):=fun ts M=>match ts with
  | [t]=>match zbF t M with
    | some xs=>.ok xs M
    | none=>.bad
  | _=>.bad
theorem za7:CallR X (.type "list") (zkS XE X.K z7):=by
  intro pins s σ H xs us Q I r ⟨S,ts,e,m,rs,fin⟩
  subst e
  replace fin:FinL XE X.K S (z7 ts S.M) Q:=fin
  unfold z7 at fin
  split at fin
  · split at fin
    · rename_i t ys q
      obtain ⟨v,vs,rfl,r1,r2⟩:=rs.consT
      rw [r2.nilT] at r
      obtain ⟨p,ws,rfl,hq,rs2⟩:=zcj m r1 q
      exact zhl pins s σ S.H _ us Q I r ⟨p,ws,rfl,hq,zkE m fin rs2⟩
    · exact fin.elim
  · exact fin.elim
noncomputable def zaM (x:T) (ts:List T) (M:Mem):Out T:=match x,ts with
  | .ref a,[t]=>match M[a]? with
    | some (.lst xs)=>if xs.length < sizeLine then .ok .non (M.set a (.lst (xs ++ [t]))) else .bad
    | _=>.bad
  | _,_=>.bad
noncomputable def zcv (o i t:T) (M:Mem):Out Unit:=match o,i with
  | .ref a,.int k=>match M[a]? with
    | some (.lst xs)=>match ixN xs.length k with
      | some j=>.ok () (M.set a (.lst (xs.set j t)))
      | none=>.bad
    | _=>.bad
  | _,_=>.bad
theorem zfp {K:PySem.W.Frag} {S:Sit} (m:MemOk K S) {a:Nat} {c:Cell} (e:S.M[a]? = some c) {ts:List T} {vs:List V} (r:Reps K S ts vs):Stp K S (S.put a (.lst vs) (.lst ts)):=by
  have ha:a < S.M.length:=(List.getElem?_eq_some_iff.mp e).1
  exact Stp.put m ha _ _ ⟨vs,zu,r.grow m (Grow.put m ha _ _)⟩
theorem zdY:zhu X (zkR XE X.K zcv):=by
  intro pins s σ H o i v ov iv u Q I ro ri rv ⟨S,⟨⟨to,ti⟩,tv⟩,e,m,⟨⟨r1,r2⟩,r3⟩,fin⟩
  subst e
  replace fin:Fin XE UnR X.K S (zcv to ti tv S.M) (fun _ H'=>Q H'):=fin
  unfold zcv at fin
  split at fin
  · split at fin
    · rename_i a k _ xs q
      split at fin
      · rename_i j qj
        cases r1
        cases r2
        obtain ⟨vs,q2,rs⟩:=m.cell _ _ q
        refine set_list pins s σ S.H _ _ v ov iv u Q I ro ri rv ⟨S.α a,vs,k,j,rfl,rfl,q2,by rw [← rs.1];exact qj,?_⟩
        exact fin (S.put a (.lst (vs.set j v)) (.lst (xs.set j tv))) () rfl (zfp m q (rs.set r3 j)) trivial
      · exact fin.elim
    · exact fin.elim
  · exact fin.elim
theorem zot {o i:Expr} {f g:Ev->Mem->Out T} {pos:Pos} {st:T->T->T->Mem->Out Unit} (ho:GE X XE o f) (hi:GE X XE i g) (hs:zhu X (zkR XE X.K st))
    (ha:∀ v,assign (.Subscript o i pos) X.env v = (do
      let ov ← holding [v] (eval o X.env)
      let iv ← holding [v,ov] (eval i X.env)
      standAt pos
      holding [v,ov,iv] (setItem ov iv v)
      release [v,ov,iv] []):=by intro _;rfl):GG X XE (.Subscript o i pos) (zdb st f g):=PG.imp (znx ho hi hs ha) fun v σ H Q hh=>by
  have h1:LN XE (EvR X.K) X.K (Rep X.K) (fun t σ M=>(f σ M).bind fun o M1=>(g σ M1).bind fun i M2=>(st o i t M2).bind fun _ M3=>.ok σ M3) v σ H Q:=hh
  refine LN.mono (LN.env (f:=f) (LN.bind (f:=fun _ σ M=>f σ M) (k:=fun t o σ M1=>(g σ M1).bind fun i M2=>(st o i t M2).bind fun _ M3=>.ok σ M3) (RB:=Rep X.K) h1)) fun ov H1 h2=>?_
  refine LN.mono (LN.env (f:=g) (LN.bind (f:=fun _ σ M=>g σ M) (k:=fun (to:T × T) i σ M2=>(st to.2 i to.1 M2).bind fun _ M3=>.ok σ M3) (RB:=Rep X.K) h2)) fun iv H2 h3=>?_
  obtain ⟨S,στ,a,e,m,ev,ra,fin⟩:=h3
  refine ⟨S,((a.1.2,a.2),a.1.1),e,m,⟨⟨ra.1.2,ra.2⟩,ra.1.1⟩,?_⟩
  show Fin XE UnR X.K S (st a.1.2 a.2 a.1.1 S.M) _
  replace fin:Fin XE (EvR X.K) X.K S ((st a.1.2 a.2 a.1.1 S.M).bind fun _ M3=>.ok στ M3) Q:=fin
  cases o:st a.1.2 a.2 a.1.1 S.M with
  | bad=>rw [o] at fin;exact fin
  | exn C fs M'=>rw [o] at fin;exact fin
  | ok b M1=>
    rw [o] at fin
    intro S1 c e1 s1 _
    exact fin S1 σ e1 s1 (Mo.mo m s1 ev)
noncomputable def zac (x:T) (M:Mem):Out T:=match yz x M with
  | some _=>.ok x M
  | none=>.bad
noncomputable def zc8 (F:T->List T->Mem->Out T) (f:Ev->Mem->Out T) (g:Ev->Mem->Out (List T)):Ev->Mem->Out T:=fun σ M=>(f σ M).bind fun x M1=>(g σ M1).bind fun ts M2=>F x ts M2
theorem ge_app {o e:Expr} {f:Ev->Mem->Out T} {ga:Ev->Mem->Out (List T)} {apos cpos:Pos} (h:PE X (.Call (.Attribute o "append" apos) [e] [] cpos) (tBM X.K "list" zfo (lE XE X.K f) (lA XE X.K ga))):GE X XE (.Call (.Attribute o "append" apos) [e] [] cpos) (zc8 zaM (eUn zac f) ga):=PE.imp h fun σ H Q hh=>by
  obtain ⟨S,στ,_,e0,m,ev,_,fin⟩:=hh
  replace fin:Fin XE (Rep X.K) X.K S (((f στ S.M).bind fun x M1=>zac x M1).bind fun x M1=>(ga στ M1).bind fun ts M2=>zaM x ts M2) Q:=fin
  refine ⟨S,στ,(),e0,m,ev,trivial,?_⟩
  show Fin XE (Rep X.K) X.K S (f στ S.M) _
  cases o1:f στ S.M with
  | bad=>rw [o1] at fin;exact fin
  | exn C fs M'=>rw [o1] at fin;exact fin
  | ok x M1=>
    rw [o1] at fin
    intro S1 v e1 s1 r1
    replace fin:Fin XE (Rep X.K) X.K S ((zac x M1).bind fun x M1=>(ga στ M1).bind fun ts M2=>zaM x ts M2) Q:=fin
    unfold zac at fin
    cases q:yz x M1 with
    | none=>rw [q] at fin;exact fin.elim
    | some xs=>
      rw [q] at fin
      replace fin:Fin XE (Rep X.K) X.K S ((ga στ M1).bind fun ts M2=>zaM x ts M2) Q:=fin
      obtain ⟨p,vs,rfl,hq,_⟩:=yH s1.mok r1 (by rw [e1];exact q)
      refine ⟨.inl ⟨rfl,vs,hq⟩,S1,στ,(),rfl,s1.mok,Mo.mo m s1 ev,trivial,?_⟩
      show Fin XE (Reps X.K) X.K S1 (ga στ S1.M) _
      rw [e1]
      cases o2:ga στ M1 with
      | bad=>rw [o2] at fin;exact fin
      | exn C fs M'=>rw [o2] at fin;exact Fin.later s1 fin
      | ok ts M2=>
        rw [o2] at fin
        intro S2 ws e2 s2 r2
        replace fin:Fin XE (Rep X.K) X.K S (zaM x ts M2) Q:=fin
        have fin2:=Fin.later (s1.trans s2) fin
        unfold zaM at fin2
        split at fin2
        · split at fin2
          · rename_i a t _ ys qy
            split at fin2
            · rename_i hz
              obtain ⟨w,ws',rfl,r3,r4⟩:=r2.consT
              rw [r4.nilT]
              have r1':=r1.grow s1.mok s2.toGrow
              cases r1' with
              | ref ha2=>
              obtain ⟨us,q3,rs⟩:=s2.mok.cell a _ (by rw [e2];exact qy)
              refine ⟨S2.α a,us,w,rfl,rfl,q3,by rw [← rs.1];exact hz,?_⟩
              exact fin2 (S2.put a (.lst (us ++ [w])) (.lst (ys ++ [t]))) .non (by show S2.M.set a _ = _;rw [e2]) (zfp s2.mok (by rw [e2];exact qy) (rs.app (.cons r3 .nil))) .non
            · exact fin2.elim
          · exact fin2.elim
        · exact fin2.elim
end
end FT
namespace FT
open PySem PySem.Spec PyProof.Rows L2
noncomputable def zda (xs:List T) (lo hi:Option Int):List T:=(xs.drop (HT.sIx xs.length 0 lo)).take (HT.sIx xs.length xs.length hi - HT.sIx xs.length 0 lo)
theorem Reps.cutV {K:PySem.W.Frag} {S:Sit} {ts:List T} {vs:List V} (r:Reps K S ts vs) (lo hi:Option Int):Reps K S (zda ts lo hi) (L2.cutV vs lo hi):=by
  unfold zda L2.cutV
  rw [← r.1]
  exact r.sub _ _
theorem ziO {xs:List T} {lo hi:Option Int} (h:HT.sIx xs.length 0 lo = 0/\HT.sIx xs.length xs.length hi = xs.length):zda xs lo hi = xs:=by
  unfold zda
  rw [h.1,h.2]
  simp
theorem zft {XE:XK} {K:PySem.W.Frag} {S:Sit} {xs:List T} {vs:List V} {Q:VK} (m:MemOk K S) (fin:Fin XE (Rep K) K S (.ok (.tup xs) S.M) Q) (r:Reps K S xs vs):∀ p,S.H p = none->Q (.ref p) (upd S.H p (.tup vs)):=fun p hp=>by
  have s2:=Stp.new m hp (.tup vs)
  exact fin ⟨S.α,S.M,upd S.H p (.tup vs),S.hid⟩ (.ref p) rfl s2 (.tup (.inl (.inl zu)) r.1 (r.grow m s2.toGrow).2)
theorem zhQ {XE:XK} {K:PySem.W.Frag} {S:Sit} {xs:List T} {vs:List V} {Q:VK} (m:MemOk K S) (fin:Fin XE (Rep K) K S (.ok (.lst xs) S.M) Q) (r:Reps K S xs vs):∀ p,S.H p = none->Q (.ref p) (upd S.H p (.lst vs)):=fun p hp=>by
  have s2:=Stp.new m hp (.lst vs)
  exact fin ⟨S.α,S.M,upd S.H p (.lst vs),S.hid⟩ (.ref p) rfl s2 (.lst (.inl ⟨.inl zu,m.off_none hp⟩) r.1 (r.grow m s2.toGrow).2)
noncomputable def zz:T->T->Mem->Out T:=fun x y M=>match x,y with
  | .int i,.int j=>.ok (.int (i + j)) M
  | .str a,.str b=>if a.length + b.length<=sizeLine then .ok (.str (a ++ b)) M else .bad
  | .tup xs,.tup ys=>if xs.length + ys.length<=sizeLine then .ok (.tup (xs ++ ys)) M else .bad
  | x,y=>match yz x M,yz y M with
    | some xs,some ys=>if xs.length + ys.length<=sizeLine then .ok (.lst (xs ++ ys)) M else .bad
    | _,_=>.bad
noncomputable def qm:T->T->Mem->Out T:=fun x y M=>match x,y with
  | .int i,.int j=>if Mo64 i j then .ok (.int (i * j)) M else .bad
  | .tup xs,.int k=>if xs ≠ []/\2<=k/\k < 2 ^ 63/\xs.length * k.toNat<=sizeLine then .ok (.tup (List.replicate k.toNat xs).flatten) M else .bad
  | _,_=>.bad
section
variable {X:Cx} {XE:XK}
theorem yx:OpR X (binaryOp .Add) (lR2 XE X.K zz):=by
  intro pins s σ H x y v u Q I rx ry ⟨S,⟨tx,ty⟩,e,m,⟨r1,r2⟩,fin⟩
  subst e
  replace fin:Fin XE (Rep X.K) X.K S (zz tx ty S.M) Q:=fin
  unfold zz at fin
  split at fin
  · cases r1;cases r2
    exact znM pins s σ S.H _ _ v u Q I rx ry ⟨_,_,rfl,rfl,fin S _ rfl (.refl m) (.int _)⟩
  · cases r1;cases r2
    split at fin
    · rename_i hz
      exact zit pins s σ S.H _ _ v u Q I rx ry ⟨_,_,rfl,rfl,hz,fin S _ rfl (.refl m) (.str _)⟩
    · exact fin.elim
  · split at fin
    · rename_i hz
      cases r1 with
      | @tup _ p vs h l r=>
      cases r2 with
      | @tup _ p2 vs2 h2 l2 rr2=>
      have r1:Reps X.K S _ vs:=⟨l,r⟩
      have r2:Reps X.K S _ vs2:=⟨l2,rr2⟩
      refine zmk pins s σ S.H _ _ v u Q I rx ry ⟨p,p2,vs,vs2,rfl,rfl,h,h2,by rw [← l,← l2];exact hz,fun e=>?_,fun e1 e2=>?_,fun e1 e2=>zft m fin (r1.app r2)⟩
      · subst e
        rw [r1.nil_inv,List.nil_append] at fin
        exact fin S _ rfl (.refl m) (.tup h2 l2 rr2)
      · subst e2
        rw [r2.nil_inv,List.append_nil] at fin
        exact fin S _ rfl (.refl m) (.tup h l r)
    · exact fin.elim
  · split at fin
    · rename_i xs ys q1 q2
      split at fin
      · rename_i hz
        obtain ⟨p,vs,e1,h1,s1⟩:=yH m r1 q1
        obtain ⟨p2,vs2,e2,h2,s2⟩:=yH m r2 q2
        dsimp only at e1 e2
        subst e1;subst e2
        exact zmj pins s σ S.H _ _ v u Q I rx ry ⟨p,p2,vs,vs2,rfl,rfl,h1,h2,by rw [← s1.1,← s2.1];exact hz,zhQ m fin (s1.app s2)⟩
      · exact fin.elim
    · exact fin.elim
theorem Reps.rep {K:PySem.W.Frag} {S:Sit} {ts:List T} {vs:List V} (r:Reps K S ts vs) (n:Nat):Reps K S (List.replicate n ts).flatten (List.replicate n vs).flatten:=by
  induction n with
  | zero=>exact .nil
  | succ n ih=>rw [List.replicate_succ,List.replicate_succ,List.flatten_cons,List.flatten_cons];exact r.app ih
theorem yr:OpR X (binaryOp .Mult) (lR2 XE X.K qm):=by
  intro pins s σ H x y v u Q I rx ry ⟨S,⟨tx,ty⟩,e,m,⟨r1,r2⟩,fin⟩
  subst e
  replace fin:Fin XE (Rep X.K) X.K S (qm tx ty S.M) Q:=fin
  unfold qm at fin
  split at fin
  · cases r1;cases r2
    split at fin
    · rename_i h
      exact zmg pins s σ S.H _ _ v u Q I rx ry ⟨_,_,rfl,rfl,h.ok,fin S _ rfl (.refl m) (.int _)⟩
    · exact fin.elim
  · split at fin
    · rename_i h
      cases r2
      cases r1 with
      | @tup _ p vs hq l r=>
      have r1:Reps X.K S _ vs:=⟨l,r⟩
      exact zmd pins s σ S.H _ _ v u Q I rx ry ⟨p,_,vs,rfl,rfl,hq,fun z=>h.1 (by subst z;exact r1.nil_inv),h.2.1,h.2.2.1,by rw [← l];exact h.2.2.2,zft m fin (r1.rep _)⟩
    · exact fin.elim
  · exact fin.elim
noncomputable def lO (XE:XK) (K:PySem.W.Frag) (f:Ev->Mem->Out (Option Int)):TO:=fun σ H Q=>LN XE EqR K UnR (fun _ σ M=>f σ M) () σ H Q
noncomputable def GO (X:Cx) (XE:XK) (e:Option Expr) (f:Ev->Mem->Out (Option Int)):Prop:=PO X e (lO XE X.K f)
noncomputable def zgi:Ev->Mem->Out (Option Int):=fun _ M=>.ok none M
noncomputable def zkV (x:T) (M:Mem):Out (Option Int):=match x with
  | .int i=>.ok (some i) M
  | _=>.bad
noncomputable def zd2 (f:Ev->Mem->Out T):Ev->Mem->Out (Option Int):=fun σ M=>(f σ M).bind zkV
theorem PO.imp {e:Option Expr} {t t':TO} (h:PO X e t) (i:∀ σ H Q,t' σ H Q->t σ H Q):PO X e t':=fun pins s σ H Q I q=>h pins s σ H Q I (i σ H Q q)
theorem zmH:GO X XE none zgi:=PO.imp zl4 fun σ H Q h9=>by
  obtain ⟨S,στ,_,e,m,ev,_,fin⟩:=h9
  show Q none H
  rw [← e];exact fin S none rfl (.refl m) rfl
theorem zmG {e:Expr} {f:Ev->Mem->Out T} (h:GE X XE e f):GO X XE (some e) (zd2 f):=PO.imp (zl3 h) fun σ H Q hh=>
  LN.mono (LN.bind (f:=fun _ σ M=>f σ M) (k:=fun _ x σ M1=>zkV x M1) (RB:=Rep X.K) hh) fun v H1 h9=>by
    obtain ⟨S,στ,a,e,m,ev,ra,fin⟩:=h9
    obtain ⟨u,t⟩:=a
    have r:Rep X.K S t v:=ra.2
    replace fin:Fin XE EqR X.K S (zkV t S.M) Q:=fin
    cases r with
    | int i=>exact ⟨i,rfl,by rw [← e];exact fin S (some i) rfl (.refl m) rfl⟩
    | _=>exact fin.elim
noncomputable def zdM (x:T) (lo hi:Option Int) (M:Mem):Out T:=match x with
  | .tup xs=>.ok (.tup (zda xs lo hi)) M
  | x=>match yz x M with
    | some xs=>.ok (.lst (zda xs lo hi)) M
    | none=>.bad
noncomputable def eSl (f:Ev->Mem->Out T) (p q:Ev->Mem->Out (Option Int)):Ev->Mem->Out T:=fun σ M=>(f σ M).bind fun x M1=>(p σ M1).bind fun lo M2=>(q σ M2).bind fun hi M3=>zdM x lo hi M3
noncomputable def zp0 (XE:XK) (K:PySem.W.Frag):V->Option Int->Option Int->Hp->VK->Prop:=fun x lo hi H Q=>∃ S t,S.H = H/\MemOk K S/\Rep K S t x/\Fin XE (Rep K) K S (zdM t lo hi S.M) Q
theorem zpN:SlR X (zp0 XE X.K):=by
  intro pins s σ H x v vl vu lo hi sl Q I rx hs pl pu ⟨S,t,e,m,r,fin⟩
  subst e
  unfold zdM at fin
  split at fin
  · cases r with
    | @tup _ p vs h l r=>
    have r1:Reps X.K S _ vs:=⟨l,r⟩
    refine zlR pins s σ S.H _ v vl vu lo hi sl Q I rx hs pl pu ⟨p,vs,rfl,h,fun w=>?_,fun w=>zft m fin (r1.cutV lo hi)⟩
    rw [ziO (by rw [l];exact w)] at fin
    exact fin S _ rfl (.refl m) (.tup h l r)
  · split at fin
    · rename_i xs q
      obtain ⟨p,vs,e1,h1,s1⟩:=yH m r q
      subst e1
      exact zlS pins s σ S.H _ v vl vu lo hi sl Q I rx hs pl pu ⟨p,vs,rfl,h1,zhQ m fin (s1.cutV lo hi)⟩
    · exact fin.elim
theorem zpp {e:Expr} {lo hi:Option Expr} {f:Ev->Mem->Out T} {p q:Ev->Mem->Out (Option Int)} {p2 pos:Pos} (he:GE X XE e f) (hl:GO X XE lo p) (hu:GO X XE hi q):GE X XE (.Subscript e (.Slice lo hi none p2) pos) (eSl f p q):=PE.imp (zkx zpN he hl hu) fun σ H Q hh=>
  LN.mono (LN.bind (f:=fun _ σ M=>f σ M) (k:=fun _ x σ M1=>(p σ M1).bind fun lo M2=>(q σ M2).bind fun hi M3=>zdM x lo hi M3) (RB:=Rep X.K) hh) fun v H1 h1=>
    LN.mono (LN.env (f:=p) (LN.bind (f:=fun _ σ M=>p σ M) (k:=fun (ax:Unit × T) lo σ M2=>(q σ M2).bind fun hi M3=>zdM ax.2 lo hi M3) (RB:=EqR) h1)) fun l H2 h2=>
      LN.mono (LN.env (f:=q) (LN.bind (f:=fun _ σ M=>q σ M) (k:=fun (ax:(Unit × T) × Option Int) hi σ M3=>zdM ax.1.2 ax.2 hi M3) (RB:=EqR) h2)) fun w H3 h9=>by
        obtain ⟨S,στ,a,e,m,ev,ra,fin⟩:=h9
        have e1:a.1.2 = l:=ra.1.2
        have e2:a.2 = w:=ra.2
        exact ⟨S,a.1.1.2,e,m,ra.1.1.2,by rw [← e1,← e2];exact fin⟩
noncomputable def zn3 (T U:String):Option Bool:=if (Value.type T == Value.type U) = true then some true else if PySem.W.kitMeta U = true then (PySem.fastBuiltinMro T).map (·.contains (.type U)) else none
noncomputable def tyN (t:T) (M:Mem):Option String:=match t with
  | .non=>some "NoneType" | .bl _=>some "bool" | .int _=>some "int" | .str _=>some "str" | .tup _=>some "tuple" | .lst _=>some "list"
  | .ref a=>match M[a]? with
    | some (.lst _)=>some "list"
    | some (.dic _)=>some "dict"
    | _=>none
  | _=>none
noncomputable def zlv (n U:String):Bool:=n == U || (n == "bool" && U == "int")
noncomputable def zge:List String:=["NoneType","bool","int","str","tuple","list","dict"]
theorem zmw:∀ n ∈ zge,∀ U ∈ zge,U ≠ "NoneType"->zn3 n U = some (zlv n U):=by decide +kernel
noncomputable def y4:T->T->Mem->Out T:=fun t u M=>match u with
  | .ty U=>match tyN t M with
    | some n=>if U ∈ zge/\U ≠ "NoneType" then .ok (.bl (zlv n U)) M else .bad
    | none=>.bad
  | _=>.bad
theorem zlM {t:T} {M:Mem} {n:String} (h:tyN t M = some n):n ∈ zge:=by
  unfold tyN at h
  split at h <;> first | (cases h;decide) | (split at h <;> first | (cases h;decide) | (cases h)) | cases h
theorem zkU {pins:List (Addr × Obj)} {s:Shared} {σ:L2.St} {S:Sit} {t:T} {x:V} {u:Value} {U n:String} {b:Bool} {Q:Value->Shared->Prop} {E:Value->Shared->Prop} (I:L2.Inv X pins σ S.H s) (m:MemOk X.K S) (rx:RelV x u) (r:Rep X.K S t x) (hn:tyN t S.M = some n) (e:zn3 n U = some b) (h:∀ tk,Q (.bool b) { s with toks:=tk }) :
    wpAny (model X.prog X.w) X.A (call (.builtin "isinstance") [u,.type U]) Q E s:=by
  have e':PySem.W.kitOne X.K (.type n) (.type U) = some b:=e
  cases r with
  | non=>cases hn;cases (show u = Value.none from rx);exact PySem.W.kia_one PySem.W.kitx_none I.kIn True.intro e' (fun z=>nomatch z) h
  | bl y=>cases hn;cases (show u = Value.bool y from rx);exact PySem.W.kia_one PySem.W.kitx_bool I.kIn True.intro e' (fun z=>nomatch z) h
  | int i=>cases hn;obtain ⟨t,q⟩:=(show ∃ t,u = Value.int i t from rx);cases q;exact PySem.W.kia_one PySem.W.kitx_int I.kIn True.intro e' (fun z=>nomatch z) h
  | str y=>cases hn;obtain ⟨t,q⟩:=(show ∃ t,u = Value.str y t from rx);cases q;exact PySem.W.kia_one PySem.W.kitx_str I.kIn True.intro e' (fun z=>nomatch z) h
  | ty y=>cases hn
  | @tup ts p vs hq l r=>
    cases hn
    cases (show u = Value.ref p from rx)
    obtain ⟨its,_,pl,_⟩:=I.tuple hq
    obtain ⟨o,h1,h2,_⟩:=pl
    exact PySem.W.kia_one PySem.W.kitx_tuple I.kIn ⟨o,h1,h2⟩ e' (fun z=>nomatch z) h
  | @lst ts p vs hq l r=>
    cases hn
    cases (show u = Value.ref p from rx)
    obtain ⟨its,_,pl,_⟩:=I.list (zcD hq)
    obtain ⟨o,h1,h2⟩:=pl.isList
    exact PySem.W.kia_one PySem.W.kitx_list I.kIn ⟨o,h1,h2.1⟩ e' (fun z=>nomatch z) h
  | @ref a ha=>
    cases (show u = Value.ref _ from rx)
    unfold tyN at hn
    dsimp only at hn
    split at hn
    · rename_i ts q
      cases hn
      obtain ⟨vs,q2,_⟩:=m.cell a _ q
      obtain ⟨_,_,n,_,h1⟩:=(show ObjOk X.prog X.w S.H s.heap (S.α a) (.lst vs) from I.hok _ _ q2)
      exact PySem.W.kia_one PySem.W.kitx_list I.kIn ⟨_,h1,rfl⟩ e' (fun z=>nomatch z) h
    · rename_i ts q
      cases hn
      obtain ⟨vs,q2,_⟩:=m.cell a _ q
      obtain ⟨_,_,vs2,_,p⟩:=(show ObjOk X.prog X.w S.H s.heap (S.α a) (.dK vs) from I.hok _ _ q2)
      obtain ⟨o,es,ep,h1,h2,_⟩:=p
      exact PySem.W.kia_one PySem.W.kitx_dict I.kIn ⟨o,h1,h2.1⟩ e' (fun z=>nomatch z) h
    · cases hn
  | dct h l r=>cases hn
theorem zag:CallR X (.builtin "isinstance") (lRN XE X.K (call2 y4)):=zeG fun pins s σ S t1 t2 x1 x2 v1 v2 Q I rx ry m r1 r2 fin=>by
  unfold y4 at fin
  split at fin
  · rename_i U
    split at fin
    · rename_i n hn
      split at fin
      · rename_i hU
        cases r2
        cases ry
        exact zkU I m rx r1 hn (zmw n (zlM hn) U hU.1 hU.2) fun tk=>⟨.bl _,S.H,I.tok tk,rfl,fin S _ rfl (.refl m) (.bl _)⟩
      · exact fin.elim
    · exact fin.elim
  · exact fin.elim
end
end FT
namespace FT
open PySem PySem.Spec PyProof.Rows L2
noncomputable def zbY:T->Bool
  | .non=>true
  | .bl _=>true
  | .int _=>true
  | .str _=>true
  | _=>false
noncomputable def eqS:T->T->Bool
  | .non,.non=>true
  | .bl a,.bl b=>a == b
  | .bl a,.int b=>(if a then 1 else 0) == b
  | .int a,.bl b=>a == (if b then 1 else 0)
  | .int a,.int b=>a == b
  | .str a,.str b=>a == b
  | _,_=>false
noncomputable def eqL (f:T->T->Option Bool):List T->List T->Option Bool
  | [],[]=>some true
  | [],_ :: _=>some false
  | _ :: _,[]=>some false
  | x :: xs,y :: ys=>match f x y,eqL f xs ys with
    | some a,some b=>some (a && b)
    | _,_=>none
noncomputable def eqD (M:Mem):Nat->T->T->Option Bool
  | d,.tup xs,.tup ys=>match d with
    | 0=>none
    | d + 1=>eqL (eqD M d) xs ys
  | d,x,y=>if (zbY x && zbY y) = true then some (eqS x y) else match d,yz x M,yz y M with
    | d + 1,some xs,some ys=>if xs.length = ys.length then eqL (eqD M d) xs ys else some false
    | _,_,_=>none
noncomputable def eqA:T->T->Mem->Out T:=fun x y M=>match eqD M 20 x y with
  | some b=>.ok (.bl b) M
  | none=>.bad
noncomputable def neA:T->T->Mem->Out T:=fun x y M=>match eqD M 20 x y with
  | some b=>.ok (.bl (!b)) M
  | none=>.bad
theorem zc7 {f:T->T->Option Bool}:∀ {xs ys:List T} {b:Bool},eqL f xs ys = some b->
    ∃ e:Nat->Bool,(∀ j x y,xs[j]? = some x->ys[j]? = some y->f x y = some (e j))/\b = ((List.range (min xs.length ys.length)).all e && xs.length == ys.length)
  | [],[],b,h=>by cases h;exact ⟨fun _=>true,fun j x y e1=>by simp at e1,by simp⟩
  | [],_ :: _,b,h=>by cases h;exact ⟨fun _=>true,fun j x y e1=>by simp at e1,by simp⟩
  | _ :: _,[],b,h=>by cases h;exact ⟨fun _=>true,fun j x y _ e1=>by simp at e1,by simp⟩
  | x :: xs,y :: ys,b,h=>by
    unfold eqL at h
    cases q1:f x y with
    | none=>rw [q1] at h;cases h
    | some a=>
      cases q2:eqL f xs ys with
      | none=>rw [q1,q2] at h;cases h
      | some c=>
        rw [q1,q2] at h
        cases h
        obtain ⟨e,h1,h2⟩:=zc7 q2
        refine ⟨fun j=>match j with | 0=>a | j + 1=>e j,fun j u v e1 e2=>?_,?_⟩
        · cases j with
          | zero=>simp at e1 e2;subst e1;subst e2;exact q1
          | succ j=>exact h1 j u v (by simpa using e1) (by simpa using e2)
        · rw [h2]
          have:min (x :: xs).length (y :: ys).length = min xs.length ys.length + 1:=by simp only [List.length_cons];omega
          rw [this,List.range_succ_eq_map,List.all_cons,List.all_map]
          simp [Bool.and_assoc,Function.comp_def]
section
variable {X:Cx} {XE:XK} {pins:List (Addr × Obj)} {s:Shared} {σ:L2.St} {S:Sit}
theorem zY {K:PySem.W.Frag} {t:T} {v:V} (r:Rep K S t v) (h:zbY t = true):zcn v = true:=by
  cases r <;> first | rfl | (exact absurd (show false = true from h) Bool.false_ne_true)
theorem zgn {K:PySem.W.Frag} {t u:T} {v w:V} (r:Rep K S t v) (q:Rep K S u w) (h:zbY t = true) (h2:zbY u = true):eqS t u = eqV v w:=by
  cases r <;> first | (exact absurd (show false = true from h) Bool.false_ne_true) | (cases q <;> first | rfl | (exact absurd (show false = true from h2) Bool.false_ne_true))
theorem zhK {K:PySem.W.Frag} {t u:T} {v:V} (r:Rep K S t v) (q:Rep K S u v) (h:zbY t = true) (h2:zbY u = true):eqS t u = true:=by
  rw [zgn r q h h2]
  exact zla v (zY r h)
theorem zlb (I:L2.Inv X pins σ S.H s) (m:MemOk X.K S):∀ (d:Nat) {t u:T} {v:V} {b:Bool},Rep X.K S t v->Rep X.K S u v->eqD S.M d t u = some b->b = true:=by
  intro d
  induction d with
  | zero=>
    intro t u v b r q h
    unfold eqD at h
    split at h
    · cases h
    · split at h
      · rename_i hs
        rw [Bool.and_eq_true] at hs
        cases h
        exact zhK r q hs.1 hs.2
      · cases h
  | succ d ih=>
    have key:∀ {xs ys:List T} {vs:List V} {b:Bool},Reps X.K S xs vs->Reps X.K S ys vs->eqL (eqD S.M d) xs ys = some b->b = true:=by
      intro xs ys vs b r q h
      obtain ⟨e,h1,h2⟩:=zc7 h
      rw [h2,r.1,q.1]
      simp only [Nat.min_self,beq_self_eq_true,Bool.and_true,List.all_eq_true,List.mem_range]
      intro j hj
      have hx:j < xs.length:=by rw [r.1];exact hj
      have hy:j < ys.length:=by rw [q.1];exact hj
      have ex:xs[j]? = some xs[j]:=by simp [hx]
      have ey:ys[j]? = some ys[j]:=by simp [hy]
      have ev:vs[j]? = some vs[j]:=by simp [hj]
      exact ih (r.2 j _ _ ex ev) (q.2 j _ _ ey ev) (h1 j _ _ ex ey)
    intro t u v b r q h
    unfold eqD at h
    split at h
    · cases r with
      | @tup _ p vs h1 l1 r1=>
      cases q with
      | @tup _ _ vs2 h2 l2 r2=>
      have:=I.tuple_inj h1 h2
      subst this
      exact key ⟨l1,r1⟩ ⟨l2,r2⟩ h
    · split at h
      · rename_i hs
        rw [Bool.and_eq_true] at hs
        cases h
        exact zhK r q hs.1 hs.2
      · split at h
        · rename_i d' xs ys hd q1 q2
          cases hd
          obtain ⟨p,vs,e1,hq1,s1⟩:=yH m r q1
          obtain ⟨p2,vs2,e2,hq2,s2⟩:=yH m q q2
          rw [e1] at e2
          cases e2
          have:=I.list_inj hq1 hq2
          subst this
          rw [if_pos (by rw [s1.1,s2.1])] at h
          exact key s1 s2 h
        · cases h
theorem zjY (I:L2.Inv X pins σ S.H s) (m:MemOk X.K S):∀ (d:Nat) {A:Around} {t u:T} {v w:V} {x y:Value} {b:Bool},A.units + d < cLine->RelV v x->RelV w y->Rep X.K S t v->Rep X.K S u w->eqD S.M d t u = some b->SeqAt.EqAt A s x y b:=by
  intro d
  induction d with
  | zero=>
    intro A t u v w x y b hu rx ry r q h
    unfold eqD at h
    split at h
    · cases h
    · split at h
      · rename_i hs
        rw [Bool.and_eq_true] at hs
        cases h
        rw [zgn r q hs.1 hs.2]
        exact zjZ rx ry (zY r hs.1) (zY q hs.2)
      · cases h
  | succ d ih=>
    have key:∀ {A:Around} {xs ys:List T} {vs ws:List V} {us zs:List Value} {b:Bool},A.units + d < cLine->Reps X.K S xs vs->Reps X.K S ys ws->Vals vs us->Vals ws zs->eqL (eqD S.M d) xs ys = some b->
        ∃ e:Nat->Bool,(∀ j (h1:j < us.toArray.size) (h2:j < zs.toArray.size),SeqAt.EqAt A s us.toArray[j] zs.toArray[j] (e j))/\b = ((List.range (min us.toArray.size zs.toArray.size)).all e && us.toArray.size == zs.toArray.size):=by
      intro A xs ys vs ws us zs b hu r q hv hw h
      obtain ⟨e,h1,h2⟩:=zc7 h
      have l1:us.length = xs.length:=by rw [← hv.length,r.1]
      have l2:zs.length = ys.length:=by rw [← hw.length,q.1]
      refine ⟨e,fun j g1 g2=>?_,by rw [h2,List.size_toArray,List.size_toArray,l1,l2]⟩
      have g1':j < us.length:=by simpa using g1
      have g2':j < zs.length:=by simpa using g2
      have ex:xs[j]? = some (xs[j]'(by omega)):=List.getElem?_eq_getElem (by omega)
      have ey:ys[j]? = some (ys[j]'(by omega)):=List.getElem?_eq_getElem (by omega)
      obtain ⟨v,ev,rv⟩:=r.get ex
      obtain ⟨w,ew,rw'⟩:=q.get ey
      obtain ⟨a,ea,ra⟩:=Vals.get hv ev
      obtain ⟨c,ec,rc⟩:=Vals.get hw ew
      have:us.toArray[j] = a:=by
        rw [List.getElem_toArray];rw [List.getElem?_eq_getElem g1'] at ea;exact Option.some.inj ea
      rw [this]
      have:zs.toArray[j] = c:=by
        rw [List.getElem_toArray];rw [List.getElem?_eq_getElem g2'] at ec;exact Option.some.inj ec
      rw [this]
      exact ih hu ra rc rv rw' (h1 j _ _ ex ey)
    intro A t u v w x y b hu rx ry r q h
    have hsame:v = w->b = true:=fun z=>by subst z;exact zlb I m (d + 1) r q h
    unfold eqD at h
    split at h
    · cases r with
      | @tup _ p vs h1 l1 r1=>
      cases q with
      | @tup _ p2 vs2 h2 l2 r2=>
      cases rx
      cases ry
      by_cases hp:p = p2
      · subst hp
        rw [hsame rfl]
        exact SeqAt.EqAt.same _
      · obtain ⟨its,ri,pl,_⟩:=I.tuple h1
        obtain ⟨its2,ri2,pl2,_⟩:=I.tuple h2
        obtain ⟨e,he,eb⟩:=key (A:=A.in1) (by show A.units + 1 + d < cLine;omega) ⟨l1,r1⟩ ⟨l2,r2⟩ ri ri2 h
        rw [eb]
        exact SeqAt.EqAt.of_refs hp (SeqAt.RcAt.tuples pl pl2 (by omega) he)
    · split at h
      · rename_i hs
        rw [Bool.and_eq_true] at hs
        cases h
        rw [zgn r q hs.1 hs.2]
        exact zjZ rx ry (zY r hs.1) (zY q hs.2)
      · split at h
        · rename_i d' xs ys hd q1 q2
          cases hd
          obtain ⟨p,vs,e1,hq1,s1⟩:=yH m r q1
          obtain ⟨p2,vs2,e2,hq2,s2⟩:=yH m q q2
          subst e1
          subst e2
          cases rx
          cases ry
          by_cases hp:p = p2
          · subst hp
            rw [hsame rfl]
            exact SeqAt.EqAt.same _
          · obtain ⟨its,ri,pl,_⟩:=I.list hq1
            obtain ⟨its2,ri2,pl2,_⟩:=I.list hq2
            have lz:its.length = xs.length:=by rw [← ri.length,s1.1]
            have lz2:its2.length = ys.length:=by rw [← ri2.length,s2.1]
            by_cases hl:xs.length = ys.length
            · rw [if_pos hl] at h
              obtain ⟨e,he,eb⟩:=key (A:=A.in1) (by show A.units + 1 + d < cLine;omega) s1 s2 ri ri2 h
              have hsz:its.toArray.size = its2.toArray.size:=by simp [lz,lz2,hl]
              rw [eb,hsz,Nat.min_self,beq_self_eq_true,Bool.and_true,← hsz]
              exact SeqAt.EqAt.of_refs hp (SeqAt.RcAt.lists pl.isList pl2.isList hsz (by omega) he)
            · rw [if_neg hl] at h
              cases h
              exact SeqAt.EqAt.of_refs hp (SeqAt.RcAt.lists_lengths pl.isList pl2.isList (by simp [lz,lz2,hl]) (by omega))
        · cases h
theorem znk {A:Around} {y x:V} {u v:Value} (ry:RelV y u) (rx:RelV x v) (fy:zcn y = true) (fx:zcn x = true):SeqAt.RcAt A s u v (eqV y x):=by
  cases y with
  | non=>
    cases ry
    cases x with
    | non=>cases rx;exact SeqAt.RcAt.none_none
    | bl b=>cases rx;exact SeqAt.RcAt.none_bool b
    | int b=>obtain ⟨t,rfl⟩:=rx;exact SeqAt.RcAt.none_int b t
    | str b=>obtain ⟨t,rfl⟩:=rx;exact SeqAt.RcAt.none_str b t
    | _=>exact absurd (show false = true from fx) Bool.false_ne_true
  | bl a=>
    cases ry
    cases x with
    | non=>cases rx;exact SeqAt.RcAt.bool_none a
    | bl b=>cases rx;exact SeqAt.RcAt.bool_bool a b
    | int b=>obtain ⟨t,rfl⟩:=rx;exact SeqAt.RcAt.bool_int a b t
    | str b=>obtain ⟨t,rfl⟩:=rx;exact SeqAt.RcAt.bool_str a b t
    | _=>exact absurd (show false = true from fx) Bool.false_ne_true
  | int a=>
    obtain ⟨t',rfl⟩:=ry
    cases x with
    | non=>cases rx;exact SeqAt.RcAt.int_none a t'
    | bl b=>cases rx;exact SeqAt.RcAt.int_bool a t' b
    | int b=>obtain ⟨t,rfl⟩:=rx;exact SeqAt.RcAt.int_int a t' b t
    | str b=>obtain ⟨t,rfl⟩:=rx;exact SeqAt.RcAt.int_str a t' b t
    | _=>exact absurd (show false = true from fx) Bool.false_ne_true
  | str a=>
    obtain ⟨t',rfl⟩:=ry
    cases x with
    | non=>cases rx;exact SeqAt.RcAt.str_none a t'
    | bl b=>cases rx;exact SeqAt.RcAt.str_bool a t' b
    | int b=>obtain ⟨t,rfl⟩:=rx;exact SeqAt.RcAt.str_int a t' b t
    | str b=>obtain ⟨t,rfl⟩:=rx;exact SeqAt.RcAt.str_str a t' b t
    | _=>exact absurd (show false = true from fx) Bool.false_ne_true
  | _=>exact absurd (show false = true from fy) Bool.false_ne_true
theorem zkq {A:Around} {y x:V} {u v:Value} (ry:RelV y u) (rx:RelV x v) (fy:zcn y = true) (fx:zcn x = true):SeqAt.RcNeAt A s u v (!eqV y x):=by
  cases y with
  | non=>
    cases ry
    cases x with
    | non=>cases rx;exact SeqAt.RcNeAt.none_none
    | bl b=>cases rx;exact SeqAt.RcNeAt.none_bool b
    | int b=>obtain ⟨t,rfl⟩:=rx;exact SeqAt.RcNeAt.none_int b t
    | str b=>obtain ⟨t,rfl⟩:=rx;exact SeqAt.RcNeAt.none_str b t
    | _=>exact absurd (show false = true from fx) Bool.false_ne_true
  | bl a=>
    cases ry
    cases x with
    | non=>cases rx;exact SeqAt.RcNeAt.bool_none a
    | bl b=>cases rx;exact SeqAt.RcNeAt.bool_bool a b
    | int b=>obtain ⟨t,rfl⟩:=rx;exact SeqAt.RcNeAt.bool_int a b t
    | str b=>obtain ⟨t,rfl⟩:=rx;exact SeqAt.RcNeAt.bool_str a b t
    | _=>exact absurd (show false = true from fx) Bool.false_ne_true
  | int a=>
    obtain ⟨t',rfl⟩:=ry
    cases x with
    | non=>cases rx;exact SeqAt.RcNeAt.int_none a t'
    | bl b=>cases rx;exact SeqAt.RcNeAt.int_bool a t' b
    | int b=>obtain ⟨t,rfl⟩:=rx;exact SeqAt.RcNeAt.int_int a t' b t
    | str b=>obtain ⟨t,rfl⟩:=rx;exact SeqAt.RcNeAt.int_str a t' b t
    | _=>exact absurd (show false = true from fx) Bool.false_ne_true
  | str a=>
    obtain ⟨t',rfl⟩:=ry
    cases x with
    | non=>cases rx;exact SeqAt.RcNeAt.str_none a t'
    | bl b=>cases rx;exact SeqAt.RcNeAt.str_bool a t' b
    | int b=>obtain ⟨t,rfl⟩:=rx;exact SeqAt.RcNeAt.str_int a t' b t
    | str b=>obtain ⟨t,rfl⟩:=rx;exact SeqAt.RcNeAt.str_str a t' b t
    | _=>exact absurd (show false = true from fx) Bool.false_ne_true
  | _=>exact absurd (show false = true from fy) Bool.false_ne_true
theorem zjX (I:L2.Inv X pins σ S.H s) (m:MemOk X.K S) (d:Nat) {t u:T} {v w:V} {x y:Value} {b:Bool} {A:Around} (hu:A.units + d < cLine) (rx:RelV v x) (ry:RelV w y) (r:Rep X.K S t v) (q:Rep X.K S u w) (h:eqD S.M d t u = some b):SeqAt.RcAt A s x y b/\SeqAt.RcNeAt A s x y (!b):=by
  have at_:∀ {A:Around} {d:Nat} {xs ys:List T} {vs ws:List V} {us zs:List Value} {b:Bool},A.units + d < cLine->Reps X.K S xs vs->Reps X.K S ys ws->Vals vs us->Vals ws zs->eqL (eqD S.M d) xs ys = some b->
        ∃ e:Nat->Bool,(∀ j (h1:j < us.toArray.size) (h2:j < zs.toArray.size),SeqAt.EqAt A s us.toArray[j] zs.toArray[j] (e j))/\b = ((List.range (min us.toArray.size zs.toArray.size)).all e && us.toArray.size == zs.toArray.size):=by
    intro A d xs ys vs ws us zs b hu r q hv hw h
    obtain ⟨e,h1,h2⟩:=zc7 h
    have l1:us.length = xs.length:=by rw [← hv.length,r.1]
    have l2:zs.length = ys.length:=by rw [← hw.length,q.1]
    refine ⟨e,fun j g1 g2=>?_,by rw [h2,List.size_toArray,List.size_toArray,l1,l2]⟩
    have g1':j < us.length:=by simpa using g1
    have g2':j < zs.length:=by simpa using g2
    have ex:xs[j]? = some (xs[j]'(by omega)):=List.getElem?_eq_getElem (by omega)
    have ey:ys[j]? = some (ys[j]'(by omega)):=List.getElem?_eq_getElem (by omega)
    obtain ⟨v,ev,rv⟩:=r.get ex
    obtain ⟨w,ew,rw'⟩:=q.get ey
    obtain ⟨a,ea,ra⟩:=Vals.get hv ev
    obtain ⟨c,ec,rc⟩:=Vals.get hw ew
    have:us.toArray[j] = a:=by
      rw [List.getElem_toArray];rw [List.getElem?_eq_getElem g1'] at ea;exact Option.some.inj ea
    rw [this]
    have:zs.toArray[j] = c:=by
      rw [List.getElem_toArray];rw [List.getElem?_eq_getElem g2'] at ec;exact Option.some.inj ec
    rw [this]
    exact zjY I m d hu ra rc rv rw' (h1 j _ _ ex ey)
  unfold eqD at h
  split at h
  · split at h
    · cases h
    · rename_i d
      cases r with
      | @tup _ p vs h1 l1 r1=>
      cases q with
      | @tup _ p2 vs2 h2 l2 r2=>
      cases rx
      cases ry
      obtain ⟨its,ri,pl,_⟩:=I.tuple h1
      obtain ⟨its2,ri2,pl2,_⟩:=I.tuple h2
      obtain ⟨e,he,eb⟩:=at_ (A:=A.in1) (by show A.units + 1 + d < cLine;omega) ⟨l1,r1⟩ ⟨l2,r2⟩ ri ri2 h
      rw [eb]
      exact ⟨SeqAt.RcAt.tuples pl pl2 (by omega) he,SeqAt.RcNeAt.tuples pl pl2 (by omega) he⟩
  · split at h
    · rename_i hs
      rw [Bool.and_eq_true] at hs
      cases h
      rw [zgn r q hs.1 hs.2]
      exact ⟨znk rx ry (zY r hs.1) (zY q hs.2),zkq rx ry (zY r hs.1) (zY q hs.2)⟩
    · split at h
      · rename_i d' xs ys q1 q2
        obtain ⟨p,vs,e1,hq1,s1⟩:=yH m r q1
        obtain ⟨p2,vs2,e2,hq2,s2⟩:=yH m q q2
        subst e1
        subst e2
        cases rx
        cases ry
        obtain ⟨its,ri,pl,_⟩:=I.list hq1
        obtain ⟨its2,ri2,pl2,_⟩:=I.list hq2
        have lz:its.length = xs.length:=by rw [← ri.length,s1.1]
        have lz2:its2.length = ys.length:=by rw [← ri2.length,s2.1]
        by_cases hl:xs.length = ys.length
        · rw [if_pos hl] at h
          obtain ⟨e,he,eb⟩:=at_ (A:=A.in1) (by show A.units + 1 + d' < cLine;omega) s1 s2 ri ri2 h
          have hsz:its.toArray.size = its2.toArray.size:=by simp [lz,lz2,hl]
          rw [eb,hsz,Nat.min_self,beq_self_eq_true,Bool.and_true,← hsz]
          exact ⟨SeqAt.RcAt.lists pl.isList pl2.isList hsz (by omega) he,SeqAt.RcNeAt.lists pl.isList pl2.isList hsz (by omega) he⟩
        · rw [if_neg hl] at h
          cases h
          exact ⟨SeqAt.RcAt.lists_lengths pl.isList pl2.isList (by simp [lz,lz2,hl]) (by omega),SeqAt.RcNeAt.lists_lengths pl.isList pl2.isList (by simp [lz,lz2,hl]) (by omega)⟩
      · cases h
theorem zbs (hu:X.A.units + 64 < cLine):OpR X (compareOp .Eq) (lR2 XE X.K eqA):=by
  intro pins s σ H x y v u Q I rx ry ⟨S,⟨tx,ty⟩,e,m,⟨r1,r2⟩,fin⟩
  subst e
  replace fin:Fin XE (Rep X.K) X.K S (eqA tx ty S.M) Q:=fin
  unfold eqA at fin
  split at fin
  · rename_i b q
    exact (zjX I m 20 (A:=X.A) (by omega) rx ry r1 r2 q).1 _ _ _ _ ⟨.bl b,S.H,I,rfl,fin S _ rfl (.refl m) (.bl _)⟩
  · exact fin.elim
theorem zaw (hu:X.A.units + 64 < cLine):OpR X (compareOp .NotEq) (lR2 XE X.K neA):=by
  intro pins s σ H x y v u Q I rx ry ⟨S,⟨tx,ty⟩,e,m,⟨r1,r2⟩,fin⟩
  subst e
  replace fin:Fin XE (Rep X.K) X.K S (neA tx ty S.M) Q:=fin
  unfold neA at fin
  split at fin
  · rename_i b q
    exact (zjX I m 20 (A:=X.A) (by omega) rx ry r1 r2 q).2 _ _ _ _ ⟨.bl (!b),S.H,I,rfl,fin S _ rfl (.refl m) (.bl _)⟩
  · exact fin.elim
noncomputable def inA:T->T->Mem->Out T:=fun x y M=>match zbF y M with
  | some ys=>if (zbY x && ys.all zbY) = true then .ok (.bl (ys.any fun y=>eqS y x)) M else .bad
  | none=>.bad
end
section
variable {X:Cx} {XE:XK}
noncomputable def zdF:List T->Option (List Int)
  | []=>some []
  | .int b :: r=>(zdF r).map (b :: ·)
  | _=>none
theorem zgX {K:PySem.W.Frag} {S:Sit}:∀ {ts:List T} {vs:List V} {bs:List Int},zdF ts = some bs->Reps K S ts vs->vs = bs.map V.int
  | [],vs,bs,e,r=>by cases e;exact r.nilT
  | .int b :: ts,vs,bs,e,r=>by
    unfold zdF at e
    obtain ⟨v,vs',rfl,r1,r2⟩:=r.consT
    cases q:zdF ts with
    | none=>rw [q] at e;cases e
    | some bs'=>
      rw [q] at e
      cases e
      cases r1
      rw [zgX q r2];rfl
  | .non :: _,_,_,e,_=>by cases e
  | .bl _ :: _,_,_,e,_=>by cases e
  | .str _ :: _,_,_,e,_=>by cases e
  | .ty _ :: _,_,_,e,_=>by cases e
  | .tup _ :: _,_,_,e,_=>by cases e
  | .lst _ :: _,_,_,e,_=>by cases e
  | .ref _ :: _,_,_,e,_=>by cases e
noncomputable def sumK:T->Mem->Out T:=fun t M=>match yz t M with
  | some xs=>match zdF xs with
    | some bs=>.ok (.int bs.sum) M
    | none=>.bad
  | none=>.bad
theorem zdP (hc:X.calm = true):CallR X (.builtin "sum") (lRN XE X.K (qt sumK)):=zcc fun pins s σ S t x v Q I rx m r fin=>by
  unfold sumK at fin
  split at fin
  · rename_i xs q
    split at fin
    · rename_i bs q2
      obtain ⟨p,vs,rfl,hq,rs⟩:=yH m r q
      rw [zgX q2 rs] at hq
      exact zj6 hc pins s σ S.H _ _ Q I (.cons rx .nil) ⟨p,bs,rfl,hq,fin S _ rfl (.refl m) (.int _)⟩
    · exact fin.elim
  · exact fin.elim
end
end FT
namespace FT
open PySem L2
noncomputable def zkp (o:Out Fl):Out T:=match o with
  | .ok (.rt t) M'=>.ok t M'
  | .ok (.nx _) M'=>.ok .non M'
  | _=>.bad
theorem zjj {p n:Nat} {g:Ev->Mem->Out Fl} {ts:List T} {M:Mem} (h:ts.length = p):qk p n g ts M = zkp (g (startT n ts) M):=by
  unfold qk
  rw [if_pos h]
  rfl
theorem zql {t:T} {M:Mem}:zkp (.ok (.rt t) M) = .ok t M:=rfl
theorem zqm {σ:Ev} {M:Mem}:zkp (.ok (.nx σ) M) = .ok .non M:=rfl
theorem zkb {β:Type} {b:Bool} {M:Mem} {k:Bool->Mem->Out β}:blT (.bl b) M k = k b M:=rfl
theorem zh {k:Ev->Mem->Out Fl} {σ:Ev} {M:Mem}:zch k (.nx σ) M = k σ M:=rfl
theorem zpz {k:Ev->Mem->Out Fl} {t:T} {M:Mem}:zch k (.rt t) M = .ok (.rt t) M:=rfl
theorem zpB {k:Ev->Mem->Out Fl} {σ:Ev} {M:Mem}:zch k (.bk σ) M = .ok (.bk σ) M:=rfl
theorem zpA {k:Ev->Mem->Out Fl} {σ:Ev} {M:Mem}:zch k (.ct σ) M = .ok (.ct σ) M:=rfl
theorem zkL {k:Ev->Mem->Out Fl} {σ:Ev} {M:Mem}:yL k (.nx σ) M = k σ M:=rfl
theorem zpV {k:Ev->Mem->Out Fl} {t:T} {M:Mem}:yL k (.rt t) M = .ok (.rt t) M:=rfl
theorem zpY {k:Ev->Mem->Out Fl} {σ:Ev} {M:Mem}:yL k (.bk σ) M = .ok (.nx σ) M:=rfl
theorem zpW {k:Ev->Mem->Out Fl} {σ:Ev} {M:Mem}:yL k (.ct σ) M = k σ M:=rfl
theorem zjO {bd:T->Ev->Mem->Out Ev} {body:Ev->Mem->Out Fl} {x:T} {xs:List T} {σ:Ev} {M:Mem}:forL bd body (x :: xs) σ M = (bd x σ M).bind fun σ1 M1=>(body σ1 M1).bind (yL (forL bd body xs)):=rfl
theorem zh8 {k:T->Mem->Out T} {t:T} {M:Mem}:qt k [t] M = k t M:=rfl
theorem zqq {k:T->T->Mem->Out T} {t u:T} {M:Mem}:call2 k [t,u] M = k t u M:=rfl
theorem zqs {i j:Int} {M:Mem}:zz (.int i) (.int j) M = .ok (.int (i + j)) M:=rfl
theorem zqi {i j:Int} {M:Mem}:zcR (.int i) (.int j) M = .ok (.int (i - j)) M:=rfl
theorem zfu {i j:Int} {M:Mem} (h:Mo64 i j):qm (.int i) (.int j) M = .ok (.int (i * j)) M:=if_pos h
theorem zec {i j:Int} {M:Mem} (h:j ≠ 0/\j.natAbs < 10 ^ 2000):zbE (.int i) (.int j) M = .ok (.int (i.fdiv j)) M:=if_pos h
theorem zd3 {i j:Int} {M:Mem} (h:j ≠ 0):zaF (.int i) (.int j) M = .ok (.int (i.fmod j)) M:=if_pos h
theorem zqn {i j:Int} {M:Mem} (h:0<=j/\j<=1000000/\i.natAbs < 2 ^ 64):zc1 (.int i) (.int j) M = .ok (.int (i ^ j.toNat)) M:=if_pos h
theorem zqx {i j:Int} {M:Mem}:ltI (.int i) (.int j) M = .ok (.bl (decide (i < j))) M:=rfl
theorem zqy {i j:Int} {M:Mem}:leI (.int i) (.int j) M = .ok (.bl (decide (i<=j))) M:=rfl
theorem zjK {i j:Int} {M:Mem}:gtI (.int i) (.int j) M = .ok (.bl (decide (j < i))) M:=rfl
theorem zqA {i j:Int} {M:Mem}:geI (.int i) (.int j) M = .ok (.bl (decide (j<=i))) M:=rfl
theorem zqv {i:Int} {M:Mem}:zaa (.int i) M = .ok (.int (-i)) M:=rfl
theorem zqo {i j:Int} {M:Mem}:ziw (.int i) (.int j) M = .ok (.int (if j > i then j else i)) M:=rfl
theorem zqB {i j:Int} {M:Mem}:eqA (.int i) (.int j) M = .ok (.bl (i == j)) M:=rfl
theorem zqw {i j:Int} {M:Mem}:neA (.int i) (.int j) M = .ok (.bl (!(i == j))) M:=rfl
theorem zqz {a b:Bool} {M:Mem}:isB (.bl a) (.bl b) M = .ok (.bl (a == b)) M:=rfl
theorem zp4 {a b:Bool} {M:Mem}:zpi (.bl a) (.bl b) M = .ok (.bl (a != b)) M:=rfl
theorem zmy {a:Nat} {xs:List T} {i:Int} {t:T} {M:Mem} (e:M[a]? = some (.lst xs)) (h:atI xs i = some t):ixT (.ref a) (.int i) M = .ok t M:=by
  show zbi (match M[a]? with | some (.lst xs)=>atI xs i | _=>none) M = _
  rw [e]
  show zbi (atI xs i) M = _
  rw [h];rfl
theorem yJ {α:Type} {xs:List α} {n:Nat}:atI xs (n:Int) = xs[n]?:=by
  unfold atI ixN
  by_cases h:n < xs.length
  · simp [h]
  · simp [h]
theorem zqN {α:Type} {x:α} {l:List α}:atI (x :: l) 0 = some x:=by have:=yJ (xs:=x :: l) (n:=0);exact this
theorem zqM {α:Type} {x y:α} {l:List α}:atI (x :: y :: l) 1 = some y:=by have:=yJ (xs:=x :: y :: l) (n:=1);exact this
theorem zqL {α:Type} {x y z:α} {l:List α}:atI (x :: y :: z :: l) 2 = some z:=by have:=yJ (xs:=x :: y :: z :: l) (n:=2);exact this
theorem zqK {α:Type} {x y z w:α} {l:List α}:atI (x :: y :: z :: w :: l) 3 = some w:=by have:=yJ (xs:=x :: y :: z :: w :: l) (n:=3);exact this
theorem zqI {n:Nat}:ixN (n + 1) 0 = some 0:=by unfold ixN;simp
theorem zqH {n:Nat}:ixN (n + 2) 1 = some 1:=by unfold ixN;simp;omega
theorem zqG {n:Nat}:ixN (n + 3) 2 = some 2:=by unfold ixN;simp;omega
theorem zdc {a:Nat} {xs:List T} {t:T} {M:Mem} (e:M[a]? = some (.lst xs)) (h:xs.length < sizeLine):zaM (.ref a) [t] M = .ok .non (M.set a (.lst (xs ++ [t]))):=by
  unfold zaM
  simp only [e,if_pos h]
theorem zbH {a:Nat} {xs:List T} {M:Mem} (e:M[a]? = some (.lst xs)):zac (.ref a) M = .ok (.ref a) M:=by
  unfold zac yz
  simp only [e]
theorem zeK {a:Nat} {xs:List T} {M:Mem} (e:M[a]? = some (.lst xs)):z9 (.ref a) M = .ok (.tup xs) M:=by
  unfold z9 zbF yz
  simp only [e]
theorem znh {j:Int} {M:Mem} (h:-(2 ^ 62)<=j/\j < 2 ^ 62):zdB [.int j] M = .ok (zdA 0 j.toNat) M:=if_pos h
theorem zqD {i:Int} {M:Mem}:zbE (.int i) (.int 8) M = .ok (.int (i.fdiv 8)) M:=zec ⟨by decide,Nat.lt_of_lt_of_le (show (8:Int).natAbs < 10 ^ 1 by decide) (Nat.pow_le_pow_right (by decide) (by decide))⟩
theorem Mo64.of {i j:Int} (m n:Nat) (hm:m<=3000) (hn:n<=3000) (h1:i.natAbs < 10 ^ m) (h2:j.natAbs < 10 ^ n):Mo64 i j:=
  .inl ⟨Nat.lt_of_lt_of_le h1 (Nat.pow_le_pow_right (by decide) hm),Nat.lt_of_lt_of_le h2 (Nat.pow_le_pow_right (by decide) hn)⟩
theorem zdD {i j:Int} {M:Mem} (h:-(2 ^ 64) < i/\i < 2 ^ 64):qm (.int i) (.int j) M = .ok (.int (i * j)) M:=zfu (.inr (.inl h))
theorem znS {i j:Int} {M:Mem} (h:-(2 ^ 64) < j/\j < 2 ^ 64):qm (.int i) (.int j) M = .ok (.int (i * j)) M:=zfu (.inr (.inr h))
theorem ziL {j:Int} (n:Nat) (hn:n<=2000) (h0:j ≠ 0) (h:j.natAbs < 10 ^ n):j ≠ 0/\j.natAbs < 10 ^ 2000:=⟨h0,Nat.lt_of_lt_of_le h (Nat.pow_le_pow_right (by decide) hn)⟩
structure Po where
  a:Int
  b:Int
  c:Int
noncomputable def Po.cell (p:Po):Cell:=.lst [.int p.a,.int p.b,.int p.c]
noncomputable def Po.dig (p:Po) (base:Int):Int:=if 0 < p.a then p.a % base else
  let mixed:=(p.b + 7919 * (p.c + 1)) % 1000000007
  let stir:=(mixed + 11) * (mixed + 48271) % 998244353
  (stir * stir % 2147483647 / 8) % base
noncomputable def Po.nxt (p:Po) (base:Int):Po:=if 0 < p.a then ⟨p.a / base,p.b,p.c⟩ else ⟨p.a,p.b,p.c + 1⟩
noncomputable def Po.new (cell:Int):Po:=⟨if cell - 10 ^ 18 > 0 then cell - 10 ^ 18 else 0,cell % 10 ^ 18,0⟩
theorem Po.dig_lo (p:Po) {base:Int} (h:0 < base):0<=p.dig base:=by
  unfold Po.dig
  split
  · exact Int.emod_nonneg _ (by omega)
  · exact Int.emod_nonneg _ (by omega)
theorem Po.dig_hi (p:Po) {base:Int} (h:0 < base):p.dig base < base:=by
  unfold Po.dig
  split
  · exact Int.emod_lt_of_pos _ h
  · exact Int.emod_lt_of_pos _ h
end FT
namespace FT
open PySem L2
theorem zgV {xs:List T} {M:Mem}:zM (.tup xs) M = .ok (.int xs.length) M:=rfl
theorem zpZ {xs:List T} {M:Mem}:zM (.lst xs) M = .ok (.int xs.length) M:=rfl
theorem zkO {a:Nat} {xs:List T} {M:Mem} (e:M[a]? = some (.lst xs)):zM (.ref a) M = .ok (.int xs.length) M:=by
  unfold zM zbF yz
  simp only [e]
theorem zqr {xs ys:List T} {M:Mem} (h:xs.length + ys.length<=sizeLine):zz (.tup xs) (.tup ys) M = .ok (.tup (xs ++ ys)) M:=if_pos h
theorem zbR {xs ys:List T} {M:Mem} (h:xs.length + ys.length<=sizeLine):zz (.lst xs) (.lst ys) M = .ok (.lst (xs ++ ys)) M:=if_pos h
end FT
namespace FT
open PySem PySem.Spec PyProof.Rows L2
noncomputable def zp1:T->Option Key
  | .int i=>some (.inl i)
  | .str x=>some (.inr x)
  | _=>none
noncomputable def zlD (t:T) (M:Mem):Option (List (Key × T)):=match t with
  | .ref a=>match M[a]? with
    | some (.dic kvs)=>some kvs
    | _=>none
  | .dct kvs=>some kvs
  | _=>none
noncomputable def zc9 (kvs:List (Key × T)) (k:Key):Option T:=(kvs.find? fun kv=>decide (kv.1 = k)).map (·.2)
noncomputable def ziN (kvs:List (Key × T)) (k:Key) (t:T):List (Key × T):=
  if (kvs.any fun kv=>decide (kv.1 = k)) = true then kvs.map (fun kv=>if kv.1 = k then (kv.1,t) else kv) else kvs ++ [(k,t)]
section
variable {K:PySem.W.Frag} {S:Sit}
theorem RepK.nilT {us:List (Key × V)} (r:RepK K S [] us):us = []:=by
  have:=r.1
  simpa using this.symm
theorem RepK.nil:RepK K S [] []:=⟨rfl,.nil⟩
theorem RepK.consT {p:Key × T} {kvs:List (Key × T)} {us:List (Key × V)} (r:RepK K S (p :: kvs) us):∃ u us',us = (p.1,u) :: us'/\Rep K S p.2 u/\RepK K S kvs us':=by
  cases us with
  | nil=>have:=r.1;simp at this
  | cons q us=>
    obtain ⟨h1,h2⟩:=r
    rw [List.map_cons,List.map_cons] at h1 h2
    injection h1 with e1 e2
    obtain ⟨v,vs,e3,r1,r2⟩:=h2.consT
    injection e3 with e3 e4
    refine ⟨q.2,us,?_,?_,e2,?_⟩
    · rw [e1]
    · rw [e3];exact r1
    · rw [e4];exact r2
theorem RepK.cons {k:Key} {t:T} {u:V} {kvs:List (Key × T)} {us:List (Key × V)} (q:Rep K S t u) (r:RepK K S kvs us):RepK K S ((k,t) :: kvs) ((k,u) :: us):=
  ⟨by rw [List.map_cons,List.map_cons,r.1],by rw [List.map_cons,List.map_cons];exact r.2.cons q⟩
theorem RepK.look (k:Key):∀ {kvs:List (Key × T)} {us:List (Key × V)},RepK K S kvs us->(zc9 kvs k = none/\zbU us k = none)\/∃ t v,zc9 kvs k = some t/\zbU us k = some v/\Rep K S t v
  | [],us,r=>by rw [r.nilT];exact .inl ⟨rfl,rfl⟩
  | p :: kvs,us,r=>by
    obtain ⟨u,us',rfl,r1,r2⟩:=r.consT
    by_cases h:p.1 = k
    · refine .inr ⟨p.2,u,?_,?_,r1⟩
      · simp [zc9,List.find?_cons,h]
      · simp [zbU,List.find?_cons,h]
    · have e1:zc9 (p :: kvs) k = zc9 kvs k:=by simp [zc9,List.find?_cons,h]
      have e2:zbU ((p.1,u) :: us') k = zbU us' k:=by simp [zbU,List.find?_cons,h]
      rw [e1,e2]
      exact RepK.look k r2
theorem RepK.any (k:Key):∀ {kvs:List (Key × T)} {us:List (Key × V)},RepK K S kvs us->(kvs.any fun kv=>decide (kv.1 = k)) = us.any fun kv=>decide (kv.1 = k)
  | [],us,r=>by rw [r.nilT];rfl
  | p :: kvs,us,r=>by
    obtain ⟨u,us',rfl,r1,r2⟩:=r.consT
    rw [List.any_cons,List.any_cons,RepK.any k r2]
theorem RepK.repl (k:Key) {t:T} {v:V} (q:Rep K S t v):∀ {kvs:List (Key × T)} {us:List (Key × V)},RepK K S kvs us->RepK K S (kvs.map (fun kv=>if kv.1 = k then (kv.1,t) else kv)) (us.map (fun kv=>if kv.1 = k then (kv.1,v) else kv))
  | [],us,r=>by rw [r.nilT];exact .nil
  | p :: kvs,us,r=>by
    obtain ⟨u,us',rfl,r1,r2⟩:=r.consT
    rw [List.map_cons,List.map_cons]
    by_cases h:p.1 = k
    · rw [if_pos h,if_pos h]
      exact (RepK.repl k q r2).cons q
    · rw [if_neg h,if_neg h]
      exact (RepK.repl k q r2).cons r1
theorem RepK.snoc (k:Key) {t:T} {v:V} (q:Rep K S t v):∀ {kvs:List (Key × T)} {us:List (Key × V)},RepK K S kvs us->RepK K S (kvs ++ [(k,t)]) (us ++ [(k,v)])
  | [],us,r=>by rw [r.nilT];exact RepK.nil.cons q
  | p :: kvs,us,r=>by
    obtain ⟨u,us',rfl,r1,r2⟩:=r.consT
    exact (RepK.snoc k q r2).cons r1
theorem RepK.put (k:Key) {t:T} {v:V} (q:Rep K S t v) {kvs:List (Key × T)} {us:List (Key × V)} (r:RepK K S kvs us):RepK K S (ziN kvs k t) (putK us k v):=by
  unfold ziN putK
  rw [r.any k]
  split
  · exact r.repl k q
  · exact r.snoc k q
end
section
variable {X:Cx} {XE:XK}
noncomputable def inD:T->T->Mem->Out T:=fun x y M=>match zlD y M with
  | some kvs=>match zp1 x with
    | some k=>.ok (.bl (zc9 kvs k).isSome) M
    | none=>.bad
  | none=>inA x y M
noncomputable def ziC:T->Mem->Out T:=fun t M=>match zlD t M with
  | some kvs=>.ok (.int kvs.length) M
  | none=>zM t M
end
end FT
namespace FT
open PySem PySem.Spec PyProof.Rows L2
noncomputable def insI (x:Int):List Int->List Int
  | []=>[x]
  | y :: ys=>if x<=y then x :: y :: ys else y :: insI x ys
theorem insI_perm (x:Int):∀ ys,(insI x ys).Perm (x :: ys)
  | []=>.refl _
  | y :: ys=>by
    unfold insI
    split
    · exact .refl _
    · exact ((insI_perm x ys).cons y).trans (.swap x y ys)
theorem Reps.ints {K:PySem.W.Frag} {S:Sit}:∀ ns:List Int,Reps K S (ns.map T.int) (ns.map V.int)
  | []=>.nil
  | n :: ns=>(Reps.ints ns).cons (.int n)
noncomputable def tK:Key->T
  | .inl i=>.int i
  | .inr x=>.str x
theorem zm9 {K:PySem.W.Frag} {S:Sit} (k:Key):Rep K S (tK k) (kV k):=by
  cases k with
  | inl i=>exact .int i
  | inr x=>exact .str x
theorem Reps.keys {K:PySem.W.Frag} {S:Sit}:∀ ks:List Key,Reps K S (ks.map tK) (ks.map kV)
  | []=>.nil
  | k :: ks=>(Reps.keys ks).cons (zm9 k)
section
variable {X:Cx} {XE:XK}
noncomputable def zeC:T->Mem->Out T:=fun t M=>match t with
  | .bl b=>.ok (.int (if b then 1 else 0)) M
  | _=>.bad
theorem zf2:CallR X (.type "int") (lRN XE X.K (qt zeC)):=zcc fun pins s σ S t x v Q I rx m r fin=>by
  unfold zeC at fin
  split at fin
  · cases r
    cases (show v = Value.bool _ from rx)
    exact call_int_bool ⟨.int _,S.H,I.tok _,⟨_,rfl⟩,fin S _ rfl (.refl m) (.int _)⟩
  · exact fin.elim
end
end FT
namespace FT
open PySem PySem.Spec PyProof.Rows L2
noncomputable def SubL (m:List (Str × Addr)):List (Str × Addr)->Prop
  | []=>True
  | c :: l=>m.lookup c.1 = some c.2/\SubL m l
theorem zgS:∀ {l m:List (Str × Addr)},SubL m l->∀ x a,l.lookup x = some a->m.lookup x = some a
  | [],_,_,_,_,h=>by cases h
  | (y,b) :: l,m,g,x,a,h=>by
    rw [List.lookup_cons] at h
    split at h
    · rename_i e
      cases h
      rw [eq_of_beq e]
      exact g.1
    · exact zgS g.2 x a h
end FT
namespace FT
open PySem PySem.Spec PyProof.Rows L2
noncomputable def zj1 (kvs prs:List (Key × T)):List (Key × T):=prs.foldl (fun acc kv=>ziN acc kv.1 kv.2) kvs
theorem RepK.merge {K:PySem.W.Frag} {S:Sit}:∀ {prs:List (Key × T)} {us:List (Key × V)} {kvs:List (Key × T)} {ws:List (Key × V)},RepK K S prs us->RepK K S kvs ws->RepK K S (zj1 kvs prs) (zjw ws us)
  | [],us,kvs,ws,r,q=>by rw [r.nilT];exact q
  | p :: prs,us,kvs,ws,r,q=>by
    obtain ⟨u,us',rfl,r1,r2⟩:=r.consT
    show RepK K S (zj1 (ziN kvs p.1 p.2) prs) (zjw (putK ws p.1 u) us')
    exact RepK.merge r2 (q.put p.1 r1)
end FT
namespace FT
open PySem PySem.Spec PyProof.Rows L2
noncomputable def forR (bd:T->Ev->Mem->Out Ev) (body:Ev->Mem->Out Fl) (a:Nat):Nat->Nat->Ev->Mem->Out Fl
  | 0,i,σ,M=>match M[a]? with
    | some (.lst xs)=>if xs.length<=i then .ok (.nx σ) M else .bad
    | _=>.bad
  | n + 1,i,σ,M=>match M[a]? with
    | some (.lst xs)=>match xs[i]? with
      | some x=>(bd x σ M).bind fun σ1 M1=>(body σ1 M1).bind (yL (forR bd body a n (i + 1)))
      | none=>.ok (.nx σ) M
    | _=>.bad
noncomputable def zqE (bd:T->Ev->Mem->Out Ev) (body:Ev->Mem->Out Fl) (t:T) (σ:Ev) (M:Mem):Out Fl:=match t with
  | .ref a=>match M[a]? with
    | some (.lst xs)=>forR bd body a xs.length 0 σ M
    | _=>.bad
  | _=>.bad
theorem zk8 {bd:T->Ev->Mem->Out Ev} {body:Ev->Mem->Out Fl} {a:Nat} {xs:List T} (P:Nat->Ev->Mem->Prop) (hP:∀ k σ M,P k σ M->M[a]? = some (.lst xs))
    (t:∀ k x σ M,xs[k]? = some x->P k σ M->∃ σ' M',((bd x σ M).bind fun σ1 M1=>body σ1 M1) = .ok (.nx σ') M'/\P (k + 1) σ' M'):∀ n i,i + n = xs.length->∀ σ M,P i σ M->∃ σ' M',forR bd body a n i σ M = .ok (.nx σ') M'/\P xs.length σ' M'
  | 0,i,hi,σ,M,h=>by
    have hM:=hP i σ M h
    refine ⟨σ,M,?_,by rw [← hi];exact h⟩
    unfold forR
    rw [hM]
    exact if_pos (by omega)
  | n + 1,i,hi,σ,M,h=>by
    have hM:=hP i σ M h
    have hx:xs[i]? = some xs[i]:=by simp [show i < xs.length by omega]
    obtain ⟨σ1,M1,e1,h1⟩:=t i _ σ M hx h
    obtain ⟨σ2,M2,e2,h2⟩:=zk8 P hP t n (i + 1) (by omega) σ1 M1 h1
    refine ⟨σ2,M2,?_,h2⟩
    unfold forR
    rw [hM]
    simp only [hx]
    cases q:bd xs[i] σ M with
    | bad=>rw [q] at e1;cases e1
    | exn C fs M'=>rw [q] at e1;cases e1
    | ok σ3 M3=>
      rw [q] at e1
      replace e1:body σ3 M3 = .ok (.nx σ1) M1:=e1
      show (body σ3 M3).bind (yL (forR bd body a n (i + 1))) = _
      rw [e1]
      exact e2
end FT
namespace L2
open PySem PySem.Spec PySem.W PyProof.Rows
theorem KV.get_val {κ:Type}:∀ {kvs:List (κ × V)} {vs:List (κ × Value)} {i:Nat} {k:κ} {v:Value},KV kvs vs->vs[i]? = some (k,v)->∃ u,(kvs.map (·.2))[i]? = some u/\RelV u v
  | _,_,_,_,_,.nil,e=>by simp at e
  | _,_,0,_,_,.cons r _,e=>by simp at e;subst e;exact ⟨_,rfl,r.2⟩
  | _,_,i + 1,k,v,.cons _ t,e=>by
    obtain ⟨u,h1,h2⟩:=KV.get_val (i:=i) (k:=k) (v:=v) t (by simpa using e)
    exact ⟨u,by simpa using h1,h2⟩
end L2
namespace L2
open PySem PySem.Spec PySem.W PyProof.Rows
section
variable {prog:Program} {w:World} {A:Around} {E:Value->Shared->Prop} {s:Shared}
theorem zdp {q t:Addr} {i:Nat} {items:Array Value} {x:Value} {Q:Value->Shared->Prop} (hit:s.heap.IsTupleIter q t i) (ht:s.heap.IsTuple t items) (hx:items[i]? = some x)
    (hQ:∀ k,k.IsTupleIter q t (i + 1)->Heap.SameBut q s.heap k->Q x { s with heap:=k }):wpAny (model prog w) A (Builtin.SmallTypes.nextOf (.ref q)) Q E s:=by
  obtain ⟨o,ho,cc,dd⟩:=id hit
  obtain ⟨o2,ho2,_,n2,dd2⟩:=ht
  unfold Builtin.SmallTypes.nextOf
  refine wpAny_bind (wpAny_callSpecial?_slot (name:=Str.ofString "__next__") hit.typeIs PySem.F.slot_tuple_iterator_next (wpAny_call_entry PySem.F.slot_tuple_iterator_next hit.typeIs PySem.F.entry_tuple_iterator_next ?_ (PySem.F.args_tuple_iterator_next_1 _)))
  refine (show wpAny _ _ (field (.ref q) 0 >>= _) _ _ s from wpAny_bind (wpAny_field ho dd (x:=.ref t) rfl ?_))
  refine (show wpAny _ _ (if (Value.ref t == Value.none) = true then _ else _) _ _ s from ?_)
  rw [if_neg (show ¬ (Value.ref t == Value.none) = true from Bool.false_ne_true)]
  refine (show wpAny _ _ (field (.ref q) 1 >>= _) _ _ s from wpAny_bind (wpAny_field ho dd (x:=.int i 0) rfl ?_))
  refine (show wpAny _ _ (seqItems? (.ref t) >>= _) _ _ s from wpAny_bind (wpAny_seqItems ho2 dd2 ?_))
  simp only [hx,Int.toNat_natCast]
  refine wpAny_bind (wpAny_setField ho dd (by simp) (wpAny_pure ⟨_,rfl,wpAny_pure (hQ _ ⟨_,Heap.get?_update_self _ ho (Obj.isFreed_of_fields (Obj.data_mapFields dd _)),(Obj.cls_mapFields ..).trans cc,?_⟩ (Heap.SameBut.update ..))⟩))
  rw [Obj.data_mapFields dd]
  simp [rawInt]
theorem zcu {q t:Addr} {i:Nat} {items:Array Value} {Q:Value->Shared->Prop} (hh:A.handled = none) (hit:s.heap.IsTupleIter q t i) (ht:s.heap.IsTuple t items) (hx:items[i]? = none)
    (hE:∀ k e,Heap.ExtBut q s.heap k->(∃ o,k.get? e = some o/\o.cls = .type "StopIteration")->E (.ref e) { s with heap:=k }):wpAny (model prog w) A (Builtin.SmallTypes.nextOf (.ref q)) Q E s:=by
  obtain ⟨o,ho,cc,dd⟩:=id hit
  obtain ⟨o2,ho2,_,n2,dd2⟩:=ht
  unfold Builtin.SmallTypes.nextOf
  refine wpAny_bind (wpAny_callSpecial?_slot (name:=Str.ofString "__next__") hit.typeIs PySem.F.slot_tuple_iterator_next (wpAny_call_entry PySem.F.slot_tuple_iterator_next hit.typeIs PySem.F.entry_tuple_iterator_next ?_ (PySem.F.args_tuple_iterator_next_1 _)))
  refine (show wpAny _ _ (field (.ref q) 0 >>= _) _ _ s from wpAny_bind (wpAny_field ho dd (x:=.ref t) rfl ?_))
  refine (show wpAny _ _ (if (Value.ref t == Value.none) = true then _ else _) _ _ s from ?_)
  rw [if_neg (show ¬ (Value.ref t == Value.none) = true from Bool.false_ne_true)]
  refine (show wpAny _ _ (field (.ref q) 1 >>= _) _ _ s from wpAny_bind (wpAny_field ho dd (x:=.int i 0) rfl ?_))
  refine (show wpAny _ _ (seqItems? (.ref t) >>= _) _ _ s from wpAny_bind (wpAny_seqItems ho2 dd2 ?_))
  simp only [hx,Int.toNat_natCast]
  refine wpAny_bind (wpAny_rule (wpAny_bind (wpAny_setField ho dd (by simp) ?_)))
  refine (show wpAny _ _ (newExc (.type "StopIteration") [] >>= _) _ _ _ from wpAny_bind ?_)
  simp only [newTuple,newExc]
  refine wpAny_bind (wpAny_newObj_type (wpAny_bind (m:=firstArgMember _ _) (wpAny_of_eq (a:=Value.none) (by first | rfl | (simp only [firstArgMember];rfl)) (wpAny_newObj_type ?_ (by size_fits)))) (by size_fits))
  simp only [raiseNew]
  refine wpAny_bind (wpAny_handled ?_)
  first | rw [show A.in1.handled = none from hh] | rw [hh]
  exact wpAny_bind (wpAny_pure (wpAny_throw (hE _ _ (((Heap.SameBut.update ..).extBut.push _).push _) ⟨_,Heap.get?_push_size _ rfl,rfl⟩)))
theorem zhA (hh:A.handled = none) (q t:Addr) (hne:t ≠ q) (items:Array Value):Draws prog w A q [q,t] items.size (fun i v=>items[i]? = some v) (fun i h=>h.IsTupleIter q t i/\h.IsTuple t items) where
  live:=fun _ _ st=>let ⟨o,ho,_⟩:=st.1;⟨o,ho⟩
  frame:=fun _ _ _ st hk=>⟨st.1.at fun o e=>hk q (by simp) o e,let ⟨o,ho,r⟩:=st.2;⟨o,hk t (by simp) o ho,r⟩⟩
  item:=fun i s Q E hi st hQ=>zdp st.1 st.2 (x:=items[i]) (by simp [hi]) fun k a b=>hQ _ k s.toks (by simp [hi]) ⟨a,let ⟨o,ho,r⟩:=st.2;⟨o,(b.2 t hne).trans ho,r⟩⟩ b
  done:=fun s Q E st hE=>zcu hh st.1 st.2 (by simp) hE
end
end L2
namespace L2
open PySem PySem.Spec PySem.W PyProof.Rows
noncomputable abbrev zgf (l:Addr):Obj:={ cls:=.type "tuple_iterator",data:=.fields #[.ref l,.int 0 0] }
noncomputable abbrev zlA (q:Addr):Obj:={ cls:=.type "enumerate",data:=.fields #[.none,.bool false,.ref q,rawInt 0,.none,.none] }
theorem zhx (l:Addr) (items:Array Value):Meets (Builtin.«enumerate.__new__» ⟨[.type "enumerate",.ref l],[]⟩) (fun _ R s=>s.heap.IsTuple l items/\R (.ok (.ret (.ref (s.heap.push (zgf l)).objs.size))) { s with heap:=(s.heap.push (zgf l)).push (zlA s.heap.objs.size) }):=
  .of_wp fun prog w A R s h=>by
    obtain ⟨hp,g,d,tk,os⟩:=s
    obtain ⟨ht,h⟩:=h
    have se:=sub_enumerate
    obtain ⟨⟨cl,di,da,sl⟩,ho,hc,n,hd⟩:=id ht
    simp only at hc hd
    subst hc hd
    wp_walk using AutoSeq1.wpAny_loadPart' ho
    refine wpAny_stack_any fun st=>wpAny_pure ?_
    split
    · rename_i c _ _ _ _ _
      cases (c == Value.type "enumerate") <;> (wp_walk using AutoSeq1.wpAny_loadPart' ho,wpAny_pyIter_tuple ht;exact ⟨_,rfl,h⟩)
    · wp_walk using AutoSeq1.wpAny_loadPart' ho,wpAny_pyIter_tuple ht
      exact ⟨_,rfl,h⟩
section
variable {prog:Program} {w:World} {A:Around} {E:Value->Shared->Prop} {s:Shared}
theorem ziT {l:Addr} {items:Array Value} {Q:Value->Shared->Prop} (hl:s.heap.IsTuple l items)
    (h:∀ k,IsEnum k (s.heap.objs.size + 1) s.heap.objs.size 0 .none->k.IsTupleIter s.heap.objs.size l 0->k.objs.size = s.heap.objs.size + 2->(∀ b o,s.heap.get? b = some o->k.get? b = some o)->Q (.ref (s.heap.objs.size + 1)) { s with heap:=k }) :
    wpAny (model prog w) A (call (.type "enumerate") [.ref l]) Q E s:=by
  have hz:(s.heap.push (zgf l)).objs.size = s.heap.objs.size + 1:=Heap.size_push ..
  have he:IsEnum ((s.heap.push (zgf l)).push (zlA s.heap.objs.size)) (s.heap.objs.size + 1) s.heap.objs.size 0 .none:=by
    rw [← hz];exact Heap.get?_push_size _ rfl
  refine callType_new PySem.F.called_enumerate (by decide) (PySem.F.typeCall_enumerate_1 _) (PySem.F.newCall_enumerate_1 _) (fun obj=>PySem.F.args_object_init_2 obj _) PySem.F.entry_enumerate_new (zhx l items) ⟨hl,?_⟩
  show _/\_
  rw [hz]
  exact ⟨⟨_,he,rfl⟩,h _ he ⟨_,Heap.get?_push_of_some _ (Heap.get?_push_size _ rfl),rfl,rfl⟩ (by rw [Heap.size_push,hz]) fun b o e=>Heap.get?_push_of_some _ (Heap.get?_push_of_some _ e)⟩
end
end L2
namespace L2
open PySem PySem.Spec PySem.W PyProof.Rows
section
variable {X:Cx} {pins:List (Addr × Obj)} {σ:St} {H:Hp} {s:Shared} {h':Heap}
theorem Inv.turned2 {t':Nat} {e it:Addr} (I:Inv X pins σ H s) (k:∀ b o,b ≠ e->b ≠ it->s.heap.get? b = some o->h'.get? b = some o) (fe:zcg X pins H e) (fi:zcg X pins H it):Inv X pins σ H { s with heap:=h',toks:=t' }:=by
  have ne:∀ b u,H b = some u->b ≠ e:=fun b u q z=>by rw [z,fe.1] at q;cases q
  have ni:∀ b u,H b = some u->b ≠ it:=fun b u q z=>by rw [z,fi.1] at q;cases q
  have kk:∀ b o,b ∉ [e,it]->s.heap.get? b = some o->h'.get? b = some o:=fun b o hc q=>k b o (fun z=>hc (by simp [z])) (fun z=>hc (by simp [z])) q
  refine I.step (g':=s.gens) (d':=s.drawn) (ch:=[e,it]) (fun b hb=>?_) (fun b o _ _ hc q _=>kk b o hc q) (fun b o _ _ hc q _=>⟨o.slots,kk b o hc q⟩) (fun _ _ _ _ n=>n)
    (fun b o hc q=>⟨o,kk b o hc q⟩) (fun _ _ q=>q) (fun _ _ _ q=>q) (fun b ps q=>⟨#[],by rw [q];simp⟩) (fun m hm=>?_) (fun b u q=>?_) I.bare
  · rcases List.mem_cons.mp hb with z | z
    · subst z;exact ⟨fe.2.2.2.1,fe.2.1,fe.2.2.2.2.1,fe.2.2.2.2.2⟩
    · have z:=List.mem_singleton.mp z
      subst z;exact ⟨fi.2.2.2.1,fi.2.1,fi.2.2.2.2.1,fi.2.2.2.2.2⟩
  · obtain ⟨o,es,ep,ho,r⟩:=hm
    exact ⟨o,es,ep,k _ o (Ne.symm fe.2.1) (Ne.symm fi.2.1) ho,r⟩
  · refine (I.hok b u q).stay (fun c v hc z=>k c v ?_ ?_ z) (fun _ z=>z) fun _ _ z=>z
    · rcases hc with z | z
      · rw [z];exact ne b u q
      · exact ne c _ z
    · rcases hc with z | z
      · rw [z];exact ni b u q
      · exact ni c _ z
end
noncomputable def Ite (K:PySem.W.Frag) (a:Addr):It:=
  ⟨fun i H=>∃ xs x,SqT K H a xs/\xs[i]? = some x,fun i H y H'=>∃ p x,H p = none/\y = .ref p/\H' = upd H p (.tup [.int (i:Int),x])/\∀ xs,SqT K H a xs->xs[i]? = some x,fun i H=>∃ xs,SqT K H a xs/\xs.length<=i⟩
theorem zih {P:Program} {w:World} {K:PySem.W.Frag} {elts:List Expr} {x1} {pos:Pos} (a e it:Addr) (hne:e ≠ it) (hae:a ≠ e) (hai:a ≠ it) :
    Turn P w K (.Tuple elts x1 pos) (Ite K a) [e,it] e (fun i h=>(∃ old,IsEnum h e it i old)/\h.IsTupleIter it a i) where
  mem:=by simp
  obj:=fun i h st b hb=>by
    rcases List.mem_cons.mp hb with z | z
    · subst z
      obtain ⟨old,q⟩:=st.1
      exact ⟨_,q,fun v z=>by cases z⟩
    · have z:=List.mem_singleton.mp z
      subst z
      obtain ⟨o,q,c,d⟩:=st.2
      exact ⟨o,q,fun v z=>by rw [d] at z;cases z⟩
  keep:=fun i h k st kk=>⟨let ⟨old,q⟩:=st.1;⟨old,kk e (by simp) _ q⟩,st.2.at fun o q=>kk it (by simp) o q⟩
  item:=by
    intro X hP hw hK hc i pins s σ H E I hf st hg
    subst hP hw hK
    obtain ⟨xs,x,hq,hx⟩:=hg
    obtain ⟨its,rv,p,hz⟩:=I.tuple hq
    obtain ⟨u,hu,ru⟩:=rv.get hx
    obtain ⟨⟨old,he⟩,hi⟩:=st
    have hl:i < its.toArray.size:=by simpa using (List.getElem?_eq_some_iff.mp hu).1
    have D:=zhA (prog:=X.prog) (w:=X.w) (A:=X.A.in1) (by exact I.ok.hd hc) it a hai its.toArray
    refine wpAny_pyNext_enum_itemD D he ⟨hi,show s.heap.IsTuple a its.toArray from p⟩ hl hne (by simp [hne,Ne.symm hae]) fun y k tk hy out st' htup hsz hk=>?_
    have hy':y = u:=by
      have:its[i]? = some y:=by simpa using hy
      rw [hu] at this
      exact (Option.some.inj this).symm
    subst hy'
    refine ⟨.ref s.heap.objs.size,rfl,wpAny_letOwnedTupleGo_enum (s:={ s with heap:=k,toks:=tk + 1 }) out fun k2 en2 sb=>?_⟩
    have fe:=hf e (by simp)
    have fi:=hf it (by simp)
    have eS:e ≠ s.heap.objs.size:=Nat.ne_of_lt (Heap.lt_size he)
    have iS:it ≠ s.heap.objs.size:=by
      obtain ⟨o,q,_⟩:=hi
      exact Nat.ne_of_lt (Heap.lt_size q)
    have IA:=I.laid (h':=s.heap.push { cls:=.type "tuple",data:=.seq #[.int i tk,y] }) (t':=tk + 1) (a:=s.heap.objs.size) (o:=.tup [.int (i:Int),x]) (fun b o q=>Heap.get?_push_of_some _ q) (Nat.le_refl _) (show ObjOk X.prog X.w _ _ _ (.tup [.int (i:Int),x]) from ⟨by show 2<=sizeLine;rw [sizeLine_eq];omega,[.int i tk,y],.cons ⟨tk,rfl⟩ (.cons ru .nil),by have:=IsTup.new s.heap #[.int i tk,y];simpa using this,NoDict.new⟩)
    have up:∀ b,b ≠ s.heap.objs.size->(upd H s.heap.objs.size (.tup [.int (i:Int),x])) b = H b:=fun b hb=>if_neg hb
    have IB:=IA.turned2 (t':=tk + 1) (h':=k2) (e:=e) (it:=it) (fun b o hbe hbi q=>by
      rcases Heap.get?_push_cases q with ⟨z1,z2⟩ | q
      · subst z1;subst z2
        exact (sb.2 _ (Ne.symm eS)).trans htup
      · exact (sb.2 b hbe).trans (hk b o hbe hbi q)) ⟨by rw [up e eS];exact fe.1,fe.2⟩ ⟨by rw [up it iS];exact fi.1,fi.2⟩
    refine ⟨.ref s.heap.objs.size,_,IB,rfl,⟨s.heap.objs.size,x,I.hok.fresh (Nat.le_refl _),rfl,rfl,fun ys hys=>by rw [I.tuple_inj hys hq];exact hx⟩,⟨⟨_,by push_cast at en2 ⊢;exact en2⟩,?_⟩,fun b hb=>?_⟩
    · obtain ⟨o,q,r⟩:=st'.1
      exact ⟨o,(sb.2 it (Ne.symm hne)).trans q,r⟩
    · rcases List.mem_cons.mp hb with z | z
      · subst z;rw [up _ eS];exact fe.1
      · have z:=List.mem_singleton.mp z
        subst z;rw [up _ iS];exact fi.1
  done:=by
    intro X hP hw hK hc i pins s σ H E I hf st hg
    subst hP hw hK
    obtain ⟨xs,hq,hx⟩:=hg
    obtain ⟨its,rv,p,hz⟩:=I.tuple hq
    obtain ⟨⟨old,he⟩,hi⟩:=st
    obtain ⟨f0,f1,f2,f3,f4,f5⟩:=hf it (by simp)
    have hl:=rv.length
    have D:Draws X.prog X.w X.A.in1 it [it,a] i (fun _ _=>True) (fun j h=>j = i/\h.IsTupleIter it a i/\h.IsTuple a its.toArray):={
      live:=fun _ _ st=>let ⟨o,ho,_⟩:=st.2.1;⟨o,ho⟩
      frame:=fun _ _ _ st hk=>⟨st.1,st.2.1.at fun o q=>hk it (by simp) o q,let ⟨o,ho,r⟩:=st.2.2;⟨o,hk a (by simp) o ho,r⟩⟩
      item:=fun j s Q E hj st hQ=>absurd st.1 (Nat.ne_of_lt hj)
      done:=fun s Q E st hE=>zcu (by exact I.ok.hd hc) st.2.1 st.2.2 (by simp;omega) hE }
    exact wpAny_pyNext_enum_endD D he ⟨rfl,hi,show s.heap.IsTuple a its.toArray from p⟩ fun k eb=>⟨rfl,I.turned (t':=s.toks) (fun b o hb q=>eb b o hb q) f0 f1 f3 f4 f5⟩
  self:=fun _ _ _ _ _ st h=>let ⟨_,q⟩:=st.1;wpAny_pyIter_enum q h
section
variable {X:Cx}
noncomputable def zp8 (K:PySem.W.Frag) (tl:TE):TI:=fun σ H R=>tl σ H fun x H1=>∃ a,x = .ref a/\(∃ xs,SqT K H1 a xs)/\R (Ite K a) H1
theorem zkw {l:Expr} {tl:TE} {elts:List Expr} {x1} {tp p pos:Pos} (hg:Gl X "enumerate") (hm:X.mg "enumerate" = none) (hl:PE X l tl) (hs:starEach [l] X.env = [(false,eval l X.env)]:=by rfl) :
    PI X (.Tuple elts x1 tp) (.Call (.Name "enumerate" p) [l] [] pos) (zp8 X.K tl):=by
  intro pins s σ H R I h
  refine Call_ (zb4 I hg hm (show bootBuiltins "enumerate" = some (.type "enumerate") by decide +kernel) (PyProof.Rows.callWith_type1 ?_ hs rfl))
  rw [hs]
  refine Calls.spliced_cons (thn (hl pins s σ H _ I h) fun v s1 ⟨x,H1,I1,r1,q1⟩=>Calls.spliced_nil ?_)
  obtain ⟨a,e,⟨xs,hq⟩,q⟩:=q1
  subst e
  cases r1
  obtain ⟨its,rv,pt,hz⟩:=I1.tuple hq
  have ha:a < s1.heap.objs.size:=by
    obtain ⟨o,ho,_⟩:=pt
    exact Heap.lt_size ho
  refine ziT (show s1.heap.IsTuple a its.toArray from pt) fun k en ti hsz hk=>?_
  refine wpAny_pyIter_enum en ?_
  refine ⟨s1.heap.objs.size + 1,[s1.heap.objs.size + 1,s1.heap.objs.size],_,_,H1,rfl,I1.kept (t':=s1.toks) hk,zih a _ _ (Nat.ne_of_gt (Nat.lt_succ_self _)) (Nat.ne_of_lt (Nat.lt_succ_of_lt ha)) (Nat.ne_of_lt ha),⟨⟨_,en⟩,ti⟩,fun b hb=>?_,q⟩
  rcases List.mem_cons.mp hb with z | z
  · subst z;exact I1.fpOk (Nat.le_succ _) (I1.hok.fresh (Nat.le_succ _))
  · have z:=List.mem_singleton.mp z
    subst z;exact I1.fpOk (Nat.le_refl _) (I1.hok.fresh (Nat.le_refl _))
end
end L2
namespace FT
open PySem PySem.Spec PyProof.Rows L2
noncomputable def enT (ts:List T):List T:=ts.mapIdx fun i t=>.tup [.int (i:Int),t]
end FT
namespace FT
open PySem PySem.Spec PyProof.Rows L2
noncomputable def zd9 (M:Mem) (x:T):List T->Option (List Bool)
  | []=>some []
  | t :: ts=>match eqD M 20 t x,zd9 M x ts with
    | some b,some bs=>some (b :: bs)
    | _,_=>none
noncomputable def inN:T->T->Mem->Out T:=fun x y M=>match zbF y M with
  | some ys=>match zd9 M x ys with
    | some bs=>.ok (.bl (bs.any id)) M
    | none=>.bad
  | none=>.bad
noncomputable def zfs:T->T->Mem->Out T:=fun x y M=>match zbF y M with
  | some ys=>match zd9 M x ys with
    | some bs=>.ok (.bl (!bs.any id)) M
    | none=>.bad
  | none=>.bad
theorem zf1 {M:Mem} {x:T}:∀ {ts:List T} {bs:List Bool},zd9 M x ts = some bs->bs.length = ts.length/\∀ (i:Nat) t b,ts[i]? = some t->bs[i]? = some b->eqD M 20 t x = some b
  | [],bs,h=>by cases h;exact ⟨rfl,fun i t b e=>by simp at e⟩
  | t :: ts,bs,h=>by
    unfold zd9 at h
    split at h
    · rename_i b bs' q1 q2
      cases h
      obtain ⟨l,g⟩:=zf1 q2
      refine ⟨by simp [l],fun i u c e1 e2=>?_⟩
      cases i with
      | zero=>cases (show some t = some u from e1);cases (show some b = some c from e2);exact q1
      | succ i=>exact g i u c (by simpa using e1) (by simpa using e2)
    · cases h
section
variable {X:Cx} {XE:XK} {pins:List (Addr × Obj)} {s:Shared} {σ:L2.St} {S:Sit}
open Classical in
theorem zhg (I:L2.Inv X pins σ S.H s) (m:MemOk X.K S) (hu:X.A.units + 64 < cLine) {x:T} {v:V} {u:Value} (rx:RelV v u) (r:Rep X.K S x v) {ts:List T} {vs:List V} {its:List Value} (rs:Reps X.K S ts vs) (rv:Vals vs its) {bs:List Bool} (h:zd9 S.M x ts = some bs) :
    ∃ e:Value->Bool,(∀ y,y ∈ its.toArray->SeqAt.EqAt X.A.in1 s y u (e y))/\its.toArray.any e = bs.any id:=by
  obtain ⟨hl,g⟩:=zf1 h
  have l1:its.length = bs.length:=by rw [← rv.length,← rs.1,hl]
  have at_:∀ (j:Nat) (y:Value) (b:Bool),its[j]? = some y->bs[j]? = some b->SeqAt.EqAt X.A.in1 s y u b:=fun j y b e1 e2=>by
    have hj:j < ts.length:=by rw [← hl];exact (List.getElem?_eq_some_iff.mp e2).1
    have et:ts[j]? = some ts[j]:=by simp [hj]
    obtain ⟨w,ew,rw'⟩:=rs.get et
    obtain ⟨y',ey,ry⟩:=rv.get ew
    rw [e1] at ey
    cases ey
    exact zjY I m 20 (A:=X.A.in1) (by show X.A.units + 1 + 20 < cLine;omega) ry rx rw' r (g j _ b et e2)
  refine ⟨fun y=>decide (∃ j:Nat,its[j]? = some y/\bs[j]? = some true),fun y hy=>?_,?_⟩
  · by_cases hc:∃ j:Nat,its[j]? = some y/\bs[j]? = some true
    · show SeqAt.EqAt X.A.in1 s y u (decide (∃ j:Nat,its[j]? = some y/\bs[j]? = some true))
      rw [decide_eq_true hc]
      obtain ⟨j,e1,e2⟩:=hc
      exact at_ j y true e1 e2
    · show SeqAt.EqAt X.A.in1 s y u (decide (∃ j:Nat,its[j]? = some y/\bs[j]? = some true))
      rw [decide_eq_false hc]
      obtain ⟨j,hj,e1⟩:=List.getElem_of_mem (show y ∈ its by simpa using hy)
      have ej:its[j]? = some y:=by rw [List.getElem?_eq_getElem hj,e1]
      have hb:bs[j]? = some bs[j]:=by simp [show j < bs.length by omega]
      cases q:bs[j]'(by omega) with
      | true=>exact absurd ⟨j,ej,by rw [hb,q]⟩ hc
      | false=>exact at_ j y false ej (by rw [hb,q])
  · rw [Bool.eq_iff_iff]
    simp only [List.any_toArray,List.any_eq_true,id,decide_eq_true_eq]
    constructor
    · rintro ⟨y,_,j,_,e2⟩
      exact ⟨true,List.mem_of_getElem? e2,rfl⟩
    · rintro ⟨b,hb,rfl⟩
      obtain ⟨j,hj,e1⟩:=List.getElem_of_mem hb
      have hj2:j < its.length:=by omega
      exact ⟨its[j],List.getElem_mem hj2,j,by simp [hj2],by simp [hj,e1]⟩
theorem zmf (hu:X.A.units + 64 < cLine):OpR X (compareOp .NotIn) (lR2 XE X.K zfs):=by
  intro pins s σ H x y v u Q I rx ry ⟨S,⟨tx,ty⟩,e,m,⟨r1,r2⟩,fin⟩
  subst e
  replace fin:Fin XE (Rep X.K) X.K S (zfs tx ty S.M) Q:=fin
  unfold zfs at fin
  split at fin
  · rename_i ys q
    split at fin
    · rename_i bs qb
      obtain ⟨p,vs,e1,hq,rs⟩:=zcj m r2 q
      dsimp only at e1
      subst e1
      cases ry
      rcases hq with hq | hq
      · obtain ⟨its,rv,pl,hz⟩:=I.list hq
        obtain ⟨e,h1,h2⟩:=zhg I m hu rx r1 rs rv qb
        exact SeqAt.notIn_listAt e pl.isList h1 ⟨.bl _,S.H,I,rfl,by rw [h2];exact fin S _ rfl (.refl m) (.bl _)⟩
      · obtain ⟨its,rv,pl,hz⟩:=I.tuple hq
        obtain ⟨e,h1,h2⟩:=zhg I m hu rx r1 rs rv qb
        exact SeqAt.notIn_tupleAt e pl h1 ⟨.bl _,S.H,I,rfl,by rw [h2];exact fin S _ rfl (.refl m) (.bl _)⟩
    · exact fin.elim
  · exact fin.elim
end
end FT
namespace L2
open PySem PySem.Spec PySem.W PyProof.Rows
section
variable {X:Cx} {pins:List (Addr × Obj)} {σ:St} {H:Hp} {s:Shared} {l:Addr} {us:List (Key × V)}
theorem Inv.freeze (I:Inv X pins σ H s) (e:H l = some (.dK us)):∃ ob,Inv X pins σ (upd H l (.frz ob (.dK us))) s:=by
  obtain ⟨z,hs,vs,rel,o,es,ep,ho,r⟩:=(show ObjOk X.prog X.w H s.heap l (.dK us) from I.hok l _ e)
  exact ⟨o,I.write (x:=l) (e:=l) (o:=.frz o (.dK us)) (h':=s.heap) (t':=s.toks) (by rw [e];trivial) (.inl rfl) (fun b u _ q=>q) ⟨o,ho⟩ ⟨ho,z,hs,vs,rel,o,es,ep,ho,r⟩⟩
end
noncomputable def zqb (Q:VK):VK:=fun v H'=>∃ l us,v = .ref l/\H' l = some (.dK us)/\∀ ob,Q v (upd H' l (.frz ob (.dK us)))
theorem CallR.frz {X:Cx} {f:Value} {r:List V->Hp->VK->Prop} (h:CallR X f r):CallR X f (fun xs H Q=>r xs H (zqb Q)):=by
  intro pins s σ H xs us Q I rv hr
  refine wpAny_mono (h pins s σ H xs us _ I rv hr) (fun v s' ⟨x,H',I',r',l,us',ex,e,q⟩=>?_) fun _ _ z=>z
  obtain ⟨ob,I2⟩:=I'.freeze e
  exact ⟨x,_,I2,r',q ob⟩
end L2
namespace FT
open PySem PySem.Spec PyProof.Rows L2
noncomputable def zbh (f:Str) (v:T):List (Str × T)->List (Str × T)
  | []=>[(f,v)]
  | (g,x) :: r=>if g = f then (g,v) :: r else (g,x) :: zbh f v r
section
variable {K:PySem.W.Frag} {S:Sit}
theorem RepF.nil:RepF K S [] []:=⟨rfl,.nil⟩
theorem RepF.nilT {us:List (Str × V)} (r:RepF K S [] us):us = []:=by
  have:=r.1
  simpa using this.symm
theorem RepF.consT {p:Str × T} {fs:List (Str × T)} {us:List (Str × V)} (r:RepF K S (p :: fs) us):∃ u us',us = (p.1,u) :: us'/\Rep K S p.2 u/\RepF K S fs us':=by
  cases us with
  | nil=>have:=r.1;simp at this
  | cons q us'=>
    have h1:=r.1
    simp only [List.map_cons,List.cons.injEq] at h1
    obtain ⟨v,vs,e,r1,r2⟩:=(show Reps K S (p.2 :: fs.map (·.2)) (q.2 :: us'.map (·.2)) from r.2).consT
    cases e
    exact ⟨q.2,us',by rw [h1.1],r1,h1.2,r2⟩
theorem RepF.cons {g:Str} {t:T} {u:V} {fs:List (Str × T)} {us:List (Str × V)} (q:Rep K S t u) (r:RepF K S fs us):RepF K S ((g,t) :: fs) ((g,u) :: us):=⟨by simp [r.1],r.2.cons q⟩
theorem RepF.look (f:Str):∀ {fs:List (Str × T)} {us:List (Str × V)},RepF K S fs us->∀ {t:T},fs.lookup f = some t->∃ v,us.lookup f = some v/\Rep K S t v
  | [],us,r,t,e=>by cases e
  | (g,x) :: fs,us,r,t,e=>by
    obtain ⟨u,us',rfl,r1,r2⟩:=r.consT
    rw [List.lookup_cons] at e ⊢
    cases h:f == g with
    | true=>rw [h] at e;cases e;exact ⟨u,rfl,r1⟩
    | false=>rw [h] at e;exact RepF.look f r2 e
theorem RepF.put (f:Str) {t:T} {v:V} (q:Rep K S t v):∀ {fs:List (Str × T)} {us:List (Str × V)},RepF K S fs us->RepF K S (zbh f t fs) (zV f v us)
  | [],us,r=>by rw [r.nilT];exact RepF.cons q .nil
  | (g,x) :: fs,us,r=>by
    obtain ⟨u,us',rfl,r1,r2⟩:=r.consT
    unfold zbh zV
    by_cases h:g = f
    · rw [if_pos h,if_pos h];exact RepF.cons q r2
    · rw [if_neg h,if_neg h];exact RepF.cons r1 (RepF.put f q r2)
theorem RepF.len {fs:List (Str × T)} {us:List (Str × V)} (r:RepF K S fs us):fs.length = us.length:=by
  have:=congrArg List.length r.1
  simpa using this
end
noncomputable def zb7 (Cs:List Addr) (f:Str) (x:T) (M:Mem):Out T:=match x with
  | .ref a=>match M[a]? with
    | some (.ins C fs)=>if C ∈ Cs then zbi (fs.lookup f) M else .bad
    | _=>.bad
  | _=>.bad
noncomputable def qC (Cs:List Addr) (f:Str) (g:Ev->Mem->Out T):Ev->Mem->Out T:=fun σ M=>(g σ M).bind fun x M1=>zb7 Cs f x M1
noncomputable def zep (Cs:List Addr) (f:Str) (x y:T) (M:Mem):Out Unit:=match x with
  | .ref a=>match M[a]? with
    | some (.ins C fs)=>if C ∈ Cs/\fs.length < 1000 then .ok () (M.set a (.ins C (zbh f y fs))) else .bad
    | _=>.bad
  | _=>.bad
noncomputable def zc0 (Cs:List Addr) (f:Str) (fo fv:Ev->Mem->Out T):Ev->Mem->Out Fl:=fun σ M=>(fv σ M).bind fun y M1=>(fo σ M1).bind fun x M2=>(zep Cs f x y M2).bind fun _ M3=>.ok (.nx σ) M3
section
variable {X:Cx} {XE:XK} {Cs:List Addr} {f:Str}
theorem zoy {e:Expr} {g:Ev->Mem->Out T} {pos:Pos} (hC:∀ C ∈ Cs,Cls X.K C/\NoAttr X.K C f) (he:GE X XE e g) (hb:attributeBase e f X.env (eval e X.env) = eval e X.env:=by rfl):GE X XE (.Attribute e f pos) (qC Cs f g):=PE.imp (znF he hb) fun σ H Q hh=>
  LN.mono (LN.bind (f:=fun _ σ M=>g σ M) (k:=fun _ x σ M1=>zb7 Cs f x M1) (RB:=Rep X.K) hh) fun v H1 h9=>by
    obtain ⟨S,στ,a,e,m,ev,ra,fin⟩:=h9
    obtain ⟨u0,t⟩:=a
    subst e
    have rt:Rep X.K S t v:=ra.2
    replace fin:Fin XE (Rep X.K) X.K S (zb7 Cs f t S.M) Q:=fin
    unfold zb7 at fin
    split at fin
    · rename_i a
      split at fin
      · rename_i C fs q
        split at fin
        · rename_i hc
          obtain ⟨t,et,fin⟩:=zhP fin
          cases rt
          obtain ⟨dx,us,h1,rf⟩:=m.cell _ _ q
          obtain ⟨w,ew,rw'⟩:=rf.look f et
          exact ⟨S.α a,C,dx,us,w,rfl,h1,(hC C hc).1,(hC C hc).2,ew,fin S w rfl (.refl m) rw'⟩
        · exact fin.elim
      · exact fin.elim
    · exact fin.elim
theorem zoo {o value:Expr} {fo fv:Ev->Mem->Out T} {pos pos':Pos} (hC:∀ C ∈ Cs,Cls X.K C/\NoAttr X.K C f) (ho:GE X XE o fo) (hv:GE X XE value fv) (hs:swapsWith value (some (.Attribute o f pos')) pos.line X.env = pure false:=by rfl) :
    GS X XE (.Assign [.Attribute o f pos'] value pos) (zc0 Cs f fo fv):=PS.imp (znv ho hv hs) fun D σ H hh=>by
  refine LN.mono (LN.bind (f:=fun _ σ M=>fv σ M) (k:=fun _ y σ M1=>(fo σ M1).bind fun x M2=>(zep Cs f x y M2).bind fun _ M3=>.ok (Fl.nx σ) M3) (RB:=Rep X.K) hh) fun yv H1 h1=>?_
  refine LN.mono (LN.env (f:=fo) (LN.bind (f:=fun _ σ M=>fo σ M) (k:=fun (a:Unit × T) x σ M2=>(zep Cs f x a.2 M2).bind fun _ M3=>.ok (Fl.nx σ) M3) (RB:=Rep X.K) h1)) fun xv H2 h2=>?_
  obtain ⟨S,στ,⟨⟨u0,y⟩,x⟩,e,m,ev,⟨⟨hu0,ry⟩,rx⟩,fin⟩:=h2
  subst e
  dsimp only at ry rx
  replace fin:Fin XE (FlR X.K) X.K S ((zep Cs f x y S.M).bind fun _ M3=>.ok (Fl.nx στ) M3) (zG D):=fin
  unfold zep at fin
  split at fin
  · rename_i a
    split at fin
    · rename_i C fs q
      split at fin
      · rename_i hc
        cases rx
        obtain ⟨dx,us,h3,rf⟩:=m.cell _ _ q
        have ha:a < S.M.length:=(List.getElem?_eq_some_iff.mp q).1
        refine ⟨S.α a,C,dx,us,rfl,h3,(hC C hc.1).1,(hC C hc.1).2,by rw [← rf.len];exact hc.2,?_⟩
        have s1:=Stp.put m ha (.ins C dx (zV f yv us)) (.ins C (zbh f y fs)) ⟨dx,_,zu,(rf.put f ry).grow m (Grow.put m ha _ _)⟩
        exact fin (S.put a (.ins C dx (zV f yv us)) (.ins C (zbh f y fs))) (.nx σ) rfl s1 (.nx (Mo.mo m s1 ev))
      · exact fin.elim
    · exact fin.elim
  · exact fin.elim
end
structure MakT (P:Program) (w:World) (K:PySem.W.Frag) (mg:Str->Option Value) (base:Heap) (k:Nat) (x:Str) (C:Addr) (ps:List Str) (f:List T->Mem->Out T):Prop where
  ex:∃ (fI:Addr) (fd:FuncData),Mk K C fI/\FnOk P w K mg base CX0 k fI fd ps (spT K f)/\Binds K fd ps []/\mg x = some (.ref C)
  nox:∀ ts M C fs M',f ts M ≠ .exn C fs M'
structure Di (K:PySem.W.Frag) (mg:Str->Option Value) (x qual:Str) (C:Addr) (st:Stmt) (ps:List Str):Prop where
  ex:∃ (fI:Addr) (fd:FuncData),Mk K C fI/\Fun K "__init__" qual st fI fd/\Binds K fd ps []/\mg x = some (.ref C)
theorem znT {P:Program} {w:World} {K:PySem.W.Frag} {mg:Str->Option Value} {base:Heap} {x qual:Str} {C:Addr} {st:Stmt} {N ps:List Str} {k p n:Nat} {g:Ev->Mem->Out Fl} (D:Di K mg x qual C st ps) (Sc:FnScope N ps (ze st)) (hp:ps.length = p) (hn:N.length = n)
    (hb:∀ (f:Addr) (cdv:Value) (A:Around) (outer:List PySem.Env) (s:Shared) (H:Hp) (E:XK),Room k (A.deeper (envOfC qual (ze st) s.heap.objs.size f cdv))->GSs (zbl CX0 P w K mg base N qual (ze st) f cdv A outer s H E).nox E0 (qE st) g) :
    MakT P w K mg base (k + 1) x C ps (qk p n g):=by
  obtain ⟨fI,fd,M,F,b,e⟩:=D.ex
  exact ⟨⟨fI,fd,M,F.ok Sc (zgA hp) fun cdv A outer s H vs Q E hr h=>zeH hn rfl h (hb fI cdv A outer s H E hr),b,e⟩,zeP _ _ _⟩
noncomputable def zkC (a:Nat) (t:T) (M:Mem):Out T:=match t with
  | .non=>.ok (.ref a) M
  | _=>.bad
noncomputable def zea (C:Addr) (F:List T->Mem->Out T) (ga:Ev->Mem->Out (List T)):Ev->Mem->Out T:=fun σ M=>(ga σ M).bind fun ts M1=>(F (.ref M1.length :: ts) (M1 ++ [.ins C []])).bind fun t M2=>zkC M1.length t M2
section
variable {X:Cx} {XE:XK} {k:Nat} {ps:List Str} {x:Str} {C:Addr} {p pos:Pos} {e:Expr} {es:List Expr} {ga:Ev->Mem->Out (List T)} {F:List T->Mem->Out T}
theorem zmQ (M:MakT X.prog X.w X.K X.mg X.base k x C ps F) (hr:Room (k + 1) X.A) (hg:Gl X x) (ha:GA X XE (e :: es) ga) (hdb:(x == ("__debug__":Str)) = false:=by decide) (he:noStar e = true:=by rfl) (hpl:es.all noStar = true:=by rfl) :
    GE X XE (.Call (.Name x p) (e :: es) [] pos) (zea C F ga):=by
  obtain ⟨fI,fd,Mk1,Fo,b,hm⟩:=M.ex
  refine PE.imp (zl7 Mk1 Fo hr hg hm b .nil zls ha hdb (qG he) (zbW hpl)) fun σ H Q hh=>?_
  refine LN.mono (LN.bind (f:=fun _ σ M=>ga σ M) (k:=fun _ ts σ M1=>(F (T.ref M1.length :: ts) (M1 ++ [Cell.ins C []])).bind fun t M2=>zkC M1.length t M2) (RB:=Reps X.K) (R:=Rep X.K) hh) fun vs H1 ⟨S,στ,a,e,m,ev,ra,fin⟩=>?_
  obtain ⟨u0,ts⟩:=a
  subst e
  intro y dx hy hdx hne
  rw [List.append_nil]
  replace ra:Reps X.K S ts vs:=ra.2
  replace fin:Fin XE (Rep X.K) X.K S ((F (.ref S.M.length :: ts) (S.M ++ [.ins C []])).bind fun t M2=>zkC S.M.length t M2) Q:=fin
  have s1:=Stp.new m hdx (.own y)
  have hy1:(upd S.H dx (.own y)) y = none:=by rw [zm (Ne.symm hne)];exact hy
  have s2:Stp X.K ⟨S.α,S.M,upd S.H dx (.own y),S.hid⟩ (Sit.more ⟨S.α,S.M,upd S.H dx (.own y),S.hid⟩ y (.ins C dx []) (.ins C [])):=Stp.more s1.mok hy1 _ _ ⟨dx,[],zu,.nil⟩
  have s12:=s1.trans s2
  have al:(Sit.more ⟨S.α,S.M,upd S.H dx (.own y),S.hid⟩ y (.ins C dx []) (.ins C [])).α S.M.length = y:=if_pos rfl
  have h0:S.M.length < (S.M ++ [Cell.ins C []]).length:=by simp
  have r0:Rep X.K (Sit.more ⟨S.α,S.M,upd S.H dx (.own y),S.hid⟩ y (.ins C dx []) (.ins C [])) (.ref S.M.length) (.ref y):=by
    have:=Rep.ref (K:=X.K) (S:=Sit.more ⟨S.α,S.M,upd S.H dx (.own y),S.hid⟩ y (.ins C dx []) (.ins C [])) (a:=S.M.length) h0
    rw [al] at this
    exact this
  refine ⟨_,.ref S.M.length :: ts,rfl,s2.mok,(ra.grow m s12.toGrow).cons r0,?_⟩
  show Fin E0 (Rep X.K) X.K _ (F (.ref S.M.length :: ts) (S.M ++ [.ins C []])) _
  cases o:F (.ref S.M.length :: ts) (S.M ++ [.ins C []]) with
  | bad=>rw [o] at fin;exact fin.elim
  | exn C' fs M'=>exact absurd o (M.nox _ _ _ _ _)
  | ok t M2=>
    rw [o] at fin
    intro S3 c e3 s3 r3
    cases t with
    | non=>
      cases r3
      exact ⟨rfl,fin S3 (.ref y) e3 (s12.trans s3) (r0.grow s2.mok s3.toGrow)⟩
    | _=>exact fin.elim
end
end FT
namespace FT
open PySem PySem.Spec PyProof.Rows L2
theorem yu {P:Addr->Prop}:∀ C ∈ ([]:List Addr),P C:=fun C h=>by simp at h
theorem zr {P:Addr->Prop} {a:Addr} {l:List Addr} (h:P a) (r:∀ C ∈ l,P C):∀ C ∈ a :: l,P C:=fun C hc=>by
  rcases List.mem_cons.mp hc with rfl | hc
  · exact h
  · exact r C hc
noncomputable def za6 (K:PySem.W.Frag) (x:Str):Addr:=match PySem.W.nsIn K mainGlobals x with
  | some (some (.ref a))=>a
  | _=>0
theorem zfE {K:PySem.W.Frag} {x:Str} {C:Addr} (a:PySem.W.nsIn K mainGlobals x = some (some (.ref C))):za6 K x = C:=by
  unfold za6
  rw [a]
theorem zgj {K:PySem.W.Frag} {x f:Str} {C:Addr} (a:PySem.W.nsIn K mainGlobals x = some (some (.ref C))) (n:PySem.W.findIn K (.ref C) f = some none):NoAttr K (za6 K x) f:=by
  rw [zfE a];exact n
theorem zoL {K:PySem.W.Frag} {x:Str} {C:Addr} (a:PySem.W.nsIn K mainGlobals x = some (some (.ref C))) (pg:PySem.W.plainGet K C Str.empty = true) (hd:PySem.W.hasDictIn K C = true) (po:PySem.W.plainOver K C = true)
    (sa:PySem.W.findIn K (.ref C) "__setattr__" = some (some (.builtin "object.__setattr__"))):Cls K (za6 K x):=by
  rw [zfE a];exact ⟨pg,hd,po,sa⟩
theorem zpw {K:PySem.W.Frag} {mg:Str->Option Value} {h:Heap} (X:K.In h) (G:h.Ns mainGlobals mg) {x qual:Str} {st:Stmt} {ps:List Str} {C fI:Addr} {od an:Option Addr} {sl:Array (Option Value)} {oc kV dc pm cd ct:Value}
    (a:PySem.W.nsIn K mainGlobals x = some (some (.ref C))) (a1:PySem.W.findIn K (.ref C) "__init__" = some (some (.ref fI))) (i1:PySem.W.isFn K (.ref fI) = true)
    (l1:K.lookup fI = some ⟨oc,od,.func (PySem.W.fnOf "__init__" qual (z6 st) (qE st) (ze st) .none kV dc pm an cd ct),sl⟩) (c1:PySem.W.codeIn K cd qual = true) (k1:PySem.W.keepIn K (.ref fI) = true) (mk:PySem.W.makesIn K C = true) (kc:PySem.W.keepIn K (.ref C) = true)
    (hb:∀ (kV doc pm:Value) (an:Option Addr) (cdv ct:Value) (us:List Value),us.length = ps.length->bindArgs (PySem.W.fnOf "__init__" qual (z6 st) (qE st) (ze st) .none kV doc pm an cdv ct) ⟨us,[]⟩ = pure (ps.zip us)):Di K mg x qual (za6 K x) st ps:=by
  have F:=zhc (st:=st) l1 c1 k1
  rw [zfE a]
  exact ⟨⟨fI,_,⟨mk,a1,i1,kc⟩,F,F.binds hb,PySem.W.mg_of X G a⟩⟩
end FT
namespace L2
open PySem PySem.Spec PySem.W PyProof.Rows
section
variable {prog:Program} {w:World} {A:Around} {E:Value->Shared->Prop} {s:Shared}
theorem zhB (hh:A.handled = none) (q t:Addr) (hne:t ≠ q) (items:Array Value):Draws prog w A q [q,t] items.size (fun i v=>items[i]? = some v) (fun i h=>h.IsListIter q t i/\h.IsList t items) where
  live:=fun _ _ st=>let ⟨o,ho,_⟩:=st.1;⟨o,ho⟩
  frame:=fun _ _ _ st hk=>⟨st.1.at fun o e=>hk q (by simp) o e,let ⟨o,ho,r⟩:=st.2;⟨o,hk t (by simp) o ho,r⟩⟩
  item:=fun i s Q E hi st hQ=>wpAny_nextOf_list_item st.1 st.2 (x:=items[i]) (by simp [hi]) fun k a b=>hQ _ k s.toks (by simp [hi]) ⟨a,let ⟨o,ho,r⟩:=st.2;⟨o,(b.2 t hne).trans ho,r⟩⟩ b
  done:=fun s Q E st hE=>wpAny_nextOf_list_end hh st.1 st.2 (by simp) hE
end
section
variable {prog:Program} {w:World} {A:Around} {E:Value->Shared->Prop} {s:Shared}
theorem ziU {l:Addr} {items:Array Value} {Q:Value->Shared->Prop} (hl:s.heap.IsList l items)
    (h:∀ k,IsEnum k (s.heap.objs.size + 1) s.heap.objs.size 0 .none->k.IsListIter s.heap.objs.size l 0->k.objs.size = s.heap.objs.size + 2->(∀ b o,s.heap.get? b = some o->k.get? b = some o)->Q (.ref (s.heap.objs.size + 1)) { s with heap:=k }) :
    wpAny (model prog w) A (call (.type "enumerate") [.ref l]) Q E s:=call_enumerate_list hl h
end
noncomputable def ItL (K:PySem.W.Frag) (a:Addr):It:=
  ⟨fun i H=>∃ xs x,SqL K H a xs/\xs[i]? = some x,fun i H y H'=>∃ p x,H p = none/\y = .ref p/\H' = upd H p (.tup [.int (i:Int),x])/\∀ xs,SqL K H a xs->xs[i]? = some x,fun i H=>∃ xs,SqL K H a xs/\xs.length<=i⟩
theorem zii {P:Program} {w:World} {K:PySem.W.Frag} {elts:List Expr} {x1} {pos:Pos} (a e it:Addr) (hne:e ≠ it) (hae:a ≠ e) (hai:a ≠ it) :
    Turn P w K (.Tuple elts x1 pos) (ItL K a) [e,it] e (fun i h=>(∃ old,IsEnum h e it i old)/\h.IsListIter it a i) where
  mem:=by simp
  obj:=fun i h st b hb=>by
    rcases List.mem_cons.mp hb with z | z
    · subst z
      obtain ⟨old,q⟩:=st.1
      exact ⟨_,q,fun v z=>by cases z⟩
    · have z:=List.mem_singleton.mp z
      subst z
      obtain ⟨o,q,c,d⟩:=st.2
      exact ⟨o,q,fun v z=>by rw [d] at z;cases z⟩
  keep:=fun i h k st kk=>⟨let ⟨old,q⟩:=st.1;⟨old,kk e (by simp) _ q⟩,st.2.at fun o q=>kk it (by simp) o q⟩
  item:=by
    intro X hP hw hK hc i pins s σ H E I hf st hg
    subst hP hw hK
    obtain ⟨xs,x,hq,hx⟩:=hg
    obtain ⟨its,rv,p,hz⟩:=I.list hq
    obtain ⟨u,hu,ru⟩:=rv.get hx
    obtain ⟨⟨old,he⟩,hi⟩:=st
    have hl:i < its.toArray.size:=by simpa using (List.getElem?_eq_some_iff.mp hu).1
    have D:=zhB (prog:=X.prog) (w:=X.w) (A:=X.A.in1) (by exact I.ok.hd hc) it a hai its.toArray
    refine wpAny_pyNext_enum_itemD D he ⟨hi,p.isList⟩ hl hne (by simp [hne,Ne.symm hae]) fun y k tk hy out st' htup hsz hk=>?_
    have hy':y = u:=by
      have:its[i]? = some y:=by simpa using hy
      rw [hu] at this
      exact (Option.some.inj this).symm
    subst hy'
    refine ⟨.ref s.heap.objs.size,rfl,wpAny_letOwnedTupleGo_enum (s:={ s with heap:=k,toks:=tk + 1 }) out fun k2 en2 sb=>?_⟩
    have fe:=hf e (by simp)
    have fi:=hf it (by simp)
    have eS:e ≠ s.heap.objs.size:=Nat.ne_of_lt (Heap.lt_size he)
    have iS:it ≠ s.heap.objs.size:=by
      obtain ⟨o,q,_⟩:=hi
      exact Nat.ne_of_lt (Heap.lt_size q)
    have IA:=I.laid (h':=s.heap.push { cls:=.type "tuple",data:=.seq #[.int i tk,y] }) (t':=tk + 1) (a:=s.heap.objs.size) (o:=.tup [.int (i:Int),x]) (fun b o q=>Heap.get?_push_of_some _ q) (Nat.le_refl _) (show ObjOk X.prog X.w _ _ _ (.tup [.int (i:Int),x]) from ⟨by show 2<=sizeLine;rw [sizeLine_eq];omega,[.int i tk,y],.cons ⟨tk,rfl⟩ (.cons ru .nil),by have:=IsTup.new s.heap #[.int i tk,y];simpa using this,NoDict.new⟩)
    have up:∀ b,b ≠ s.heap.objs.size->(upd H s.heap.objs.size (.tup [.int (i:Int),x])) b = H b:=fun b hb=>if_neg hb
    have IB:=IA.turned2 (t':=tk + 1) (h':=k2) (e:=e) (it:=it) (fun b o hbe hbi q=>by
      rcases Heap.get?_push_cases q with ⟨z1,z2⟩ | q
      · subst z1;subst z2
        exact (sb.2 _ (Ne.symm eS)).trans htup
      · exact (sb.2 b hbe).trans (hk b o hbe hbi q)) ⟨by rw [up e eS];exact fe.1,fe.2⟩ ⟨by rw [up it iS];exact fi.1,fi.2⟩
    refine ⟨.ref s.heap.objs.size,_,IB,rfl,⟨s.heap.objs.size,x,I.hok.fresh (Nat.le_refl _),rfl,rfl,fun ys hys=>by rw [I.list_inj hys hq];exact hx⟩,⟨⟨_,by push_cast at en2 ⊢;exact en2⟩,?_⟩,fun b hb=>?_⟩
    · obtain ⟨o,q,r⟩:=st'.1
      exact ⟨o,(sb.2 it (Ne.symm hne)).trans q,r⟩
    · rcases List.mem_cons.mp hb with z | z
      · subst z;rw [up _ eS];exact fe.1
      · have z:=List.mem_singleton.mp z
        subst z;rw [up _ iS];exact fi.1
  done:=by
    intro X hP hw hK hc i pins s σ H E I hf st hg
    subst hP hw hK
    obtain ⟨xs,hq,hx⟩:=hg
    obtain ⟨its,rv,p,hz⟩:=I.list hq
    obtain ⟨⟨old,he⟩,hi⟩:=st
    obtain ⟨f0,f1,f2,f3,f4,f5⟩:=hf it (by simp)
    have hl:=rv.length
    have D:Draws X.prog X.w X.A.in1 it [it,a] i (fun _ _=>True) (fun j h=>j = i/\h.IsListIter it a i/\h.IsList a its.toArray):={
      live:=fun _ _ st=>let ⟨o,ho,_⟩:=st.2.1;⟨o,ho⟩
      frame:=fun _ _ _ st hk=>⟨st.1,st.2.1.at fun o q=>hk it (by simp) o q,let ⟨o,ho,r⟩:=st.2.2;⟨o,hk a (by simp) o ho,r⟩⟩
      item:=fun j s Q E hj st hQ=>absurd st.1 (Nat.ne_of_lt hj)
      done:=fun s Q E st hE=>wpAny_nextOf_list_end (by exact I.ok.hd hc) st.2.1 st.2.2 (by simp;omega) hE }
    exact wpAny_pyNext_enum_endD D he ⟨rfl,hi,p.isList⟩ fun k eb=>⟨rfl,I.turned (t':=s.toks) (fun b o hb q=>eb b o hb q) f0 f1 f3 f4 f5⟩
  self:=fun _ _ _ _ _ st h=>let ⟨_,q⟩:=st.1;wpAny_pyIter_enum q h
section
variable {X:Cx}
noncomputable def zod (K:PySem.W.Frag) (tl:TE):TI:=fun σ H R=>tl σ H fun x H1=>∃ a,x = .ref a/\(∃ xs,SqL K H1 a xs)/\R (ItL K a) H1
theorem zgM {l:Expr} {tl:TE} {elts:List Expr} {x1} {tp p pos:Pos} (hg:Gl X "enumerate") (hm:X.mg "enumerate" = none) (hl:PE X l tl) (hs:starEach [l] X.env = [(false,eval l X.env)]:=by rfl) :
    PI X (.Tuple elts x1 tp) (.Call (.Name "enumerate" p) [l] [] pos) (zod X.K tl):=by
  intro pins s σ H R I h
  refine Call_ (zb4 I hg hm (show bootBuiltins "enumerate" = some (.type "enumerate") by decide +kernel) (PyProof.Rows.callWith_type1 ?_ hs rfl))
  rw [hs]
  refine Calls.spliced_cons (thn (hl pins s σ H _ I h) fun v s1 ⟨x,H1,I1,r1,q1⟩=>Calls.spliced_nil ?_)
  obtain ⟨a,e,⟨xs,hq⟩,q⟩:=q1
  subst e
  cases r1
  obtain ⟨its,rv,pt,hz⟩:=I1.list hq
  have ha:a < s1.heap.objs.size:=by
    obtain ⟨o,ho,_⟩:=pt.isList
    exact Heap.lt_size ho
  refine ziU pt.isList fun k en ti hsz hk=>?_
  refine wpAny_pyIter_enum en ?_
  refine ⟨s1.heap.objs.size + 1,[s1.heap.objs.size + 1,s1.heap.objs.size],_,_,H1,rfl,I1.kept (t':=s1.toks) hk,zii a _ _ (Nat.ne_of_gt (Nat.lt_succ_self _)) (Nat.ne_of_lt (Nat.lt_succ_of_lt ha)) (Nat.ne_of_lt ha),⟨⟨_,en⟩,ti⟩,fun b hb=>?_,q⟩
  rcases List.mem_cons.mp hb with z | z
  · subst z;exact I1.fpOk (Nat.le_succ _) (I1.hok.fresh (Nat.le_succ _))
  · have z:=List.mem_singleton.mp z
    subst z;exact I1.fpOk (Nat.le_refl _) (I1.hok.fresh (Nat.le_refl _))
end
end L2
namespace L2
open PySem PySem.Spec PySem.W PyProof.Rows
section
variable {X:Cx} {pins:List (Addr × Obj)} {σ:St} {H:Hp} {s:Shared} {h':Heap}
theorem Inv.turnedN {t':Nat} {l:List Addr} (I:Inv X pins σ H s) (k:∀ b o,b ∉ l->s.heap.get? b = some o->h'.get? b = some o) (f:∀ e ∈ l,zcg X pins H e):Inv X pins σ H { s with heap:=h',toks:=t' }:=by
  have ne:∀ b u,H b = some u->b ∉ l:=fun b u q z=>by rw [(f b z).1] at q;cases q
  refine I.step (g':=s.gens) (d':=s.drawn) (ch:=l) (fun b hb=>?_) (fun b o _ _ hc q _=>k b o hc q) (fun b o _ _ hc q _=>⟨o.slots,k b o hc q⟩) (fun _ _ _ _ n=>n)
    (fun b o hc q=>⟨o,k b o hc q⟩) (fun _ _ q=>q) (fun _ _ _ q=>q) (fun b ps q=>⟨#[],by rw [q];simp⟩) (fun m hm=>?_) (fun b u q=>?_) I.bare
  · have fe:=f b hb
    exact ⟨fe.2.2.2.1,fe.2.1,fe.2.2.2.2.1,fe.2.2.2.2.2⟩
  · obtain ⟨o,es,ep,ho,r⟩:=hm
    exact ⟨o,es,ep,k _ o (fun z=>(f _ z).2.1 rfl) ho,r⟩
  · refine (I.hok b u q).stay (fun c v hc z=>k c v ?_ z) (fun _ z=>z) fun _ _ z=>z
    rcases hc with z | z
    · rw [z];exact ne b u q
    · exact ne c _ z
end
end L2
namespace FT
open PySem PySem.Spec PyProof.Rows L2
noncomputable def yT:List T->List T->List T
  | x :: xs,y :: ys=>.tup [x,y] :: yT xs ys
  | _,_=>[]
theorem zgt:∀ (xs ys:List T) (i:Nat) (t:T),(yT xs ys)[i]? = some t->∃ x y,xs[i]? = some x/\ys[i]? = some y/\t = .tup [x,y]
  | [],ys,i,t,h=>by simp [yT] at h
  | x :: xs,[],i,t,h=>by simp [yT] at h
  | x :: xs,y :: ys,i,t,h=>by
    cases i with
    | zero=>exact ⟨x,y,rfl,rfl,(Option.some.inj h).symm⟩
    | succ i=>
      obtain ⟨a,b,h1,h2,h3⟩:=zgt xs ys i t (by simpa [yT] using h)
      exact ⟨a,b,by simpa using h1,by simpa using h2,h3⟩
theorem zgs:∀ (xs ys:List T),(yT xs ys).length = min xs.length ys.length
  | [],ys=>by simp [yT]
  | x :: xs,[]=>by simp [yT]
  | x :: xs,y :: ys=>by simp [yT,zgs xs ys]
section
variable {X:Cx} {XE:XK}
theorem zjx {K:PySem.W.Frag} {S1 S3:Sit} (s3:Stp K S1 S3) {p:Addr} {vs:List V} (h:(Rd S1.H p (.lst vs)/\S1.off p)\/KL K p vs):SqL K S3.H p vs:=by
  rcases h with ⟨h2,f2⟩ | h2
  · exact .inl (s3.toGrow.rd h2 f2).1
  · exact .inr h2
end
end FT
namespace FT
open PySem PySem.Spec PyProof.Rows L2
noncomputable abbrev Gd:=List (Nat × List T)
noncomputable def qY (G:Gd) (M:Mem):Prop:=∀ g ∈ G,M[g.1]? = some (.lst g.2)
noncomputable def gdK {β:Type} (G:Gd) (M:Mem) (o:Out β):Out β:=@ite _ (qY G M) (Classical.propDecidable _) o .bad
theorem zbu {β:Type} {G:Gd} {M:Mem} {o:Out β} (h:qY G M):gdK G M o = o:=if_pos h
theorem zaI (M:Mem):qY [] M:=fun g h=>by simp at h
theorem zaH {a:Nat} {xs:List T} {M:Mem} (h:M[a]? = some (.lst xs)):qY [(a,xs)] M:=fun g hg=>by rw [List.mem_singleton.mp hg];exact h
noncomputable def ItG (K:PySem.W.Frag) (S:Sit) (items:List T × Gd) (J:It):Prop:=∀ S',Stp K S S'->qY items.2 S'.M->
  (∀ (i:Nat) t,items.1[i]? = some t->J.go i S'.H/\∀ x H',J.yld i S'.H x H'->∃ S'',S''.H = H'/\S''.M = S'.M/\Stp K S' S''/\Rep K S'' t x)/\∀ i,items.1.length<=i->J.stop i S'.H
instance (K):Mo K (ItG K):=⟨fun _ s r=>fun S' s'=>r S' (s.trans s')⟩
noncomputable def lIG (XE:XK) (K:PySem.W.Frag) (f:Ev->Mem->Out (List T × Gd)):TI:=fun σ H R=>LN XE (ItG K) K UnR (fun _ σ M=>f σ M) () σ H R
noncomputable def GIG (X:Cx) (XE:XK) (tg iter:Expr) (f:Ev->Mem->Out (List T × Gd)):Prop:=PI X tg iter (lIG XE X.K f)
noncomputable def forG (G:Gd) (bd:T->Ev->Mem->Out Ev) (body:Ev->Mem->Out Fl):List T->Ev->Mem->Out Fl
  | [],σ,M=>gdK G M (.ok (.nx σ) M)
  | x :: xs,σ,M=>gdK G M ((bd x σ M).bind fun σ1 M1=>(body σ1 M1).bind (yL (forG G bd body xs)))
noncomputable def zT (it:Ev->Mem->Out (List T × Gd)) (bd:T->Ev->Mem->Out Ev) (body:Ev->Mem->Out Fl):Ev->Mem->Out Fl:=fun σ M=>(it σ M).bind fun xs M1=>forG xs.2 bd body xs.1 σ M1
noncomputable def zD (G:Gd) (bd:T->Ev->Mem->Out Ev) (cond:Ev->Mem->Out Bool) (el:Ev->Mem->Out T):List T->Ev->Mem->List T->Out (List T)
  | [],_,M,acc=>gdK G M (.ok acc M)
  | x :: xs,σ,M,acc=>gdK G M ((bd x σ M).bind fun σ1 M1=>(cond σ1 M1).bind fun b M2=>if b = true then (el σ1 M2).bind fun t M3=>if acc.length < sizeLine then zD G bd cond el xs σ1 M3 (acc ++ [t]) else .bad else zD G bd cond el xs σ1 M2 acc)
noncomputable def qv (it:Ev->Mem->Out (List T × Gd)) (bd:T->Ev->Mem->Out Ev) (cond:Ev->Mem->Out Bool) (el:Ev->Mem->Out T) (tgs:List Str) (caps:List (Str × Nat)):Ev->Mem->Out (List T):=fun σ M=>(it σ M).bind fun xs M1=>zD xs.2 bd cond el xs.1 (zaK tgs caps σ) M1 []
theorem Fin.gd {β γ:Type} {XE:XK} {R:Sit->β->γ->Prop} {K:PySem.W.Frag} {S:Sit} {G:Gd} {M:Mem} {o:Out β} {Q:γ->Hp->Prop} (h:Fin XE R K S (gdK G M o) Q):qY G M/\Fin XE R K S o Q:=by
  by_cases g:qY G M
  · rw [zbu g] at h;exact ⟨g,h⟩
  · rw [show gdK G M o = .bad from if_neg g] at h;exact h.elim
theorem FinL.gd {XE:XK} {K:PySem.W.Frag} {S:Sit} {G:Gd} {M:Mem} {o:Out (List T)} {Q:VK} (h:FinL XE K S (gdK G M o) Q):qY G M/\FinL XE K S o Q:=by
  by_cases g:qY G M
  · rw [zbu g] at h;exact ⟨g,h⟩
  · rw [show gdK G M o = .bad from if_neg g] at h;exact h.elim
theorem zjP {XE:XK} {K:PySem.W.Frag} {S:Sit} {G:Gd} {bd:T->Ev->Mem->Out Ev} {p:Ev->Mem->Out Fl} {xs:List T} {σ:Ev} {M:Mem} {Q:FlV->Hp->Prop} (h:Fin XE (FlR K) K S (forG G bd p xs σ M) Q):qY G M:=by
  cases xs with
  | nil=>exact (Fin.gd h).1
  | cons x xs=>exact (Fin.gd h).1
theorem ziP {XE:XK} {K:PySem.W.Frag} {S:Sit} {G:Gd} {bd:T->Ev->Mem->Out Ev} {c:Ev->Mem->Out Bool} {f:Ev->Mem->Out T} {xs acc:List T} {σ:Ev} {M:Mem} {Q:VK} (h:FinL XE K S (zD G bd c f xs σ M acc) Q):qY G M:=by
  cases xs with
  | nil=>exact (FinL.gd h).1
  | cons x xs=>exact (FinL.gd h).1
section
variable {X:Cx} {XE:XK} {a b c e iter tg:Expr} {es:List Expr} {pos pp:Pos} {sts:List Stmt} {p:Ev->Mem->Out Fl} {ga:Ev->Mem->Out (List T × Gd)}
theorem zmF {bd:T->Ev->Mem->Out Ev} (hp:PassesOwn (model X.prog X.w) X.A X.env X.xe) (hc:X.calm = true) (hi:GIG X XE tg iter ga) (hg:GG X XE tg bd) (hb:GSs X XE sts p)
    (hs:∀ x,foldedSetIterable iter X.env x = pure x:=by intro _;rfl):GS X XE (.For tg iter sts [] pos) (zT ga bd p):=PS.imp (zjm hp hc hi hg hb hs) fun D σ H hh=>by
  refine LN.mono (LN.bind (f:=fun _ σ M=>ga σ M) (k:=fun _ xs σ M1=>forG xs.2 bd p xs.1 σ M1) (RB:=ItG X.K) hh) fun J H1 h1=>?_
  obtain ⟨S,στ,a,e,m,ev,ra,fin⟩:=h1
  refine ⟨fun i n σ H=>∃ S στ,S.H = H/\MemOk X.K S/\EvR X.K S στ σ/\ItG X.K S a.2 J/\n = a.2.1.length - i/\i<=a.2.1.length/\Fin XE (FlR X.K) X.K S (forG a.2.2 bd p (a.2.1.drop i) στ S.M) (zG D),⟨_,S,στ,e,m,ev,ra.2,rfl,Nat.zero_le _,fin⟩,?_⟩
  rintro i n σ1 H2 ⟨S1,στ1,e1,m1,ev1,it1,en,hi1,fin1⟩
  subst e1
  have hgd:=zjP fin1
  obtain ⟨it2,it3⟩:=it1 S1 (.refl m1) hgd
  by_cases hl:i < a.2.1.length
  · have eq:a.2.1.drop i = a.2.1[i] :: a.2.1.drop (i + 1):=List.drop_eq_getElem_cons hl
    rw [eq] at fin1
    replace fin1:=(Fin.gd fin1).2
    obtain ⟨go,yl⟩:=it2 i a.2.1[i] (by simp [hl])
    refine .inr ⟨go,fun σ' H'=>∃ S στ,S.H = H'/\MemOk X.K S/\EvR X.K S στ σ'/\ItG X.K S a.2 J/\Fin XE (FlR X.K) X.K S (forG a.2.2 bd p (a.2.1.drop (i + 1)) στ S.M) (zG D),?_,fun x H' hy=>?_⟩
    · rintro σ' H' ⟨S2,στ2,e2,m2,ev2,it4,fin2⟩
      exact ⟨a.2.1.length - (i + 1),by omega,S2,στ2,e2,m2,ev2,it4,rfl,hl,fin2⟩
    · obtain ⟨S2,e2,eM,s2,r2⟩:=yl x H' hy
      replace fin1:Fin XE (FlR X.K) X.K S1 ((bd a.2.1[i] στ1 S1.M).bind fun σ1 M1=>(p σ1 M1).bind (yL (forG a.2.2 bd p (a.2.1.drop (i + 1))))) (zG D):=fin1
      refine ⟨S2,στ1,a.2.1[i],e2,s2.mok,Mo.mo m1 s2 ev1,r2,?_⟩
      rw [eM]
      cases o:bd a.2.1[i] στ1 S1.M with
      | bad=>rw [o] at fin1;exact fin1
      | exn C fs M'=>rw [o] at fin1;exact Fin.later s2 fin1
      | ok σ3 M3=>
        rw [o] at fin1
        intro S3 σ3v e3 s3 ev3
        have s13:=s2.trans s3
        refine ⟨S3,σ3,(),rfl,s3.mok,ev3,trivial,?_⟩
        show Fin XE (FlR X.K) X.K S3 (p σ3 S3.M) _
        rw [e3]
        replace fin1:Fin XE (FlR X.K) X.K S1 ((p σ3 M3).bind (yL (forG a.2.2 bd p (a.2.1.drop (i + 1))))) (zG D):=fin1
        cases o2:p σ3 M3 with
        | bad=>rw [o2] at fin1;exact fin1
        | exn C fs M'=>rw [o2] at fin1;exact Fin.later s13 fin1
        | ok fl M4=>
          rw [o2] at fin1
          intro S4 fv e4 s4 r4
          have s14:=s13.trans s4
          cases r4 with
          | nx r4=>exact ⟨S4,_,rfl,s4.mok,r4,Mo.mo m1 s14 it1,by rw [e4];exact Fin.later s14 fin1⟩
          | ct r4=>exact ⟨S4,_,rfl,s4.mok,r4,Mo.mo m1 s14 it1,by rw [e4];exact Fin.later s14 fin1⟩
          | bk r4=>exact fin1 S4 (.nx _) e4 s14 (.nx r4)
          | rt r4=>exact fin1 S4 (.rt _) e4 s14 (.rt r4)
  · rw [List.drop_eq_nil_of_le (by omega)] at fin1
    replace fin1:=(Fin.gd fin1).2
    refine .inl ⟨it3 i (by omega),?_⟩
    exact fin1 S1 (.nx σ1) rfl (.refl m1) (.nx ev1)
theorem zdN {tgs:List Str} {caps:List (Str × Nat)} {ga:Ev->Mem->Out (List T × Gd)} {bd:T->Ev->Mem->Out Ev} {cond:Ev->Mem->Out Bool} {f:Ev->Mem->Out T} {σ:L2.St} {H:Hp} {Q:VK} (hh:lL XE X.K (qv ga bd cond f tgs caps) σ H Q) :
    zgg (lIG XE X.K ga) (lG XE X.K bd) (lT XE X.K cond) (lE XE X.K f) (zaf tgs caps) σ H Q:=by
  obtain ⟨S,στ,e,m,ev,fin⟩:=hh
  replace fin:FinL XE X.K S ((ga στ S.M).bind fun xs M1=>zD xs.2 bd cond f xs.1 (zaK tgs caps στ) M1 []) Q:=fin
  refine ⟨S,στ,(),e,m,ev,trivial,?_⟩
  show Fin XE (ItG X.K) X.K S (ga στ S.M) _
  cases o:ga στ S.M with
  | bad=>rw [o] at fin;exact fin
  | exn C fs M'=>rw [o] at fin;exact fin
  | ok items M1=>
    rw [o] at fin
    replace fin:FinL XE X.K S (zD items.2 bd cond f items.1 (zaK tgs caps στ) M1 []) Q:=fin
    intro S0 J e0 s0 it0 D hD
    have m0:=s0.mok
    have fin0:=fin.later s0
    have s1:=Stp.hide (K:=X.K) m0 hD []
    refine ⟨fun i n σ' H'=>∃ S στ acc vs,S.H = H'/\EvR X.K S στ σ'/\n = items.1.length - i/\i<=items.1.length/\D ∈ S.hid/\S.H D = some (.lst vs)/\Reps X.K S acc vs/\Stp X.K S0 S/\FinL XE X.K S0 (zD items.2 bd cond f (items.1.drop i) στ S.M acc) Q,
      ⟨items.1.length - 0,S0.hide D [],zaK tgs caps στ,[],[],rfl,(Mo.mo (K:=X.K) m0 s1 (Mo.mo (K:=X.K) m s0 ev)).cap tgs caps,rfl,Nat.zero_le _,.head _,zu,.nil,s1,by show FinL XE X.K S0 (zD items.2 bd cond f items.1 (zaK tgs caps στ) S0.M []) Q;rw [e0];exact fin0⟩,?_⟩
    rintro i n σ1 H1 ⟨S2,στ2,acc,vs,e2,ev2,en,hi2,hid2,hD2,racc,s2,fin2⟩
    subst e2
    have m2:=s2.mok
    have hgd:=ziP fin2
    obtain ⟨itg,its⟩:=it0 S2 s2 hgd
    by_cases hl:i < items.1.length
    · have eq:items.1.drop i = items.1[i] :: items.1.drop (i + 1):=List.drop_eq_getElem_cons hl
      rw [eq] at fin2
      replace fin2:=(FinL.gd fin2).2
      obtain ⟨go,yl⟩:=itg i items.1[i] (by simp [hl])
      refine .inr ⟨go,fun σ' H'=>∃ S στ acc vs,S.H = H'/\EvR X.K S στ σ'/\D ∈ S.hid/\S.H D = some (.lst vs)/\Reps X.K S acc vs/\Stp X.K S0 S/\FinL XE X.K S0 (zD items.2 bd cond f (items.1.drop (i + 1)) στ S.M acc) Q,?_,fun x H' hy=>?_⟩
      · rintro σ' H' ⟨S,στ,acc,vs,a1,a2,a3,a4,a5,a6,a7⟩
        exact ⟨items.1.length - (i + 1),by omega,S,στ,acc,vs,a1,a2,rfl,hl,a3,a4,a5,a6,a7⟩
      · obtain ⟨S3,e3,eM,s3,r3⟩:=yl x H' hy
        replace fin2:FinL XE X.K S0 ((bd items.1[i] στ2 S2.M).bind fun σ1 M1=>(cond σ1 M1).bind fun b M2=>if b = true then (f σ1 M2).bind fun t M3=>if acc.length < sizeLine then zD items.2 bd cond f (items.1.drop (i + 1)) σ1 M3 (acc ++ [t]) else .bad else zD items.2 bd cond f (items.1.drop (i + 1)) σ1 M2 acc) Q:=fin2
        refine ⟨S3,στ2,items.1[i],e3,s3.mok,Mo.mo m2 s3 ev2,r3,?_⟩
        show Fin XE (EvR X.K) X.K S3 (bd items.1[i] στ2 S3.M) _
        rw [eM]
        cases o1:bd items.1[i] στ2 S2.M with
        | bad=>rw [o1] at fin2;exact fin2
        | exn C fs M'=>rw [o1] at fin2;exact fun S' od a1 a2 a3=>fin2 S' od a1 ((s2.trans s3).trans a2) a3
        | ok σ4 M4=>
          rw [o1] at fin2
          intro S4 σ4v e4 s4 ev4
          have t4:=s3.trans s4
          replace fin2:FinL XE X.K S0 ((cond σ4 M4).bind fun b M2=>if b = true then (f σ4 M2).bind fun t M3=>if acc.length < sizeLine then zD items.2 bd cond f (items.1.drop (i + 1)) σ4 M3 (acc ++ [t]) else .bad else zD items.2 bd cond f (items.1.drop (i + 1)) σ4 M2 acc) Q:=fin2
          refine ⟨S4,σ4,(),rfl,s4.mok,ev4,trivial,?_⟩
          show Fin XE EqR X.K S4 (cond σ4 S4.M) _
          rw [e4]
          cases o2:cond σ4 M4 with
          | bad=>rw [o2] at fin2;exact fin2
          | exn C fs M'=>rw [o2] at fin2;exact fun S' od a1 a2 a3=>fin2 S' od a1 ((s2.trans t4).trans a2) a3
          | ok b M5=>
            rw [o2] at fin2
            intro S5 b5 e5 s5 eb
            have eb':b = b5:=eb
            subst eb'
            have t5:=t4.trans s5
            replace fin2:FinL XE X.K S0 (if b = true then (f σ4 M5).bind fun t M3=>if acc.length < sizeLine then zD items.2 bd cond f (items.1.drop (i + 1)) σ4 M3 (acc ++ [t]) else .bad else zD items.2 bd cond f (items.1.drop (i + 1)) σ4 M5 acc) Q:=fin2
            cases b with
            | false=>
              rw [if_neg Bool.false_ne_true] at fin2
              refine (if_neg Bool.false_ne_true).mpr ⟨S5,σ4,acc,vs,rfl,Mo.mo s4.mok s5 ev4,(t5.hk D hid2).1,by rw [(t5.hk D hid2).2];exact hD2,racc.grow m2 t5.toGrow,s2.trans t5,by rw [e5];exact fin2⟩
            | true=>
              rw [if_pos rfl] at fin2
              refine (if_pos rfl).mpr ⟨S5,σ4,(),rfl,s5.mok,Mo.mo s4.mok s5 ev4,trivial,?_⟩
              show Fin XE (Rep X.K) X.K S5 (f σ4 S5.M) _
              rw [e5]
              cases o3:f σ4 M5 with
              | bad=>rw [o3] at fin2;exact fin2
              | exn C fs M'=>rw [o3] at fin2;exact fun S' od a1 a2 a3=>fin2 S' od a1 ((s2.trans t5).trans a2) a3
              | ok t M6=>
                rw [o3] at fin2
                replace fin2:FinL XE X.K S0 (if acc.length < sizeLine then zD items.2 bd cond f (items.1.drop (i + 1)) σ4 M6 (acc ++ [t]) else .bad) Q:=fin2
                intro S6 v6 e6 s6 r6
                have t6:=t5.trans s6
                have hz:acc.length < sizeLine:=by
                  by_cases hz:acc.length < sizeLine
                  · exact hz
                  · rw [if_neg hz] at fin2;exact fin2.elim
                rw [if_pos hz] at fin2
                have hid6:=(t6.hk D hid2).1
                have hD6:S6.H D = some (.lst vs):=by rw [(t6.hk D hid2).2];exact hD2
                refine ⟨vs,hD6,by rw [← racc.1];exact hz,S6.hput D (vs ++ [v6]),σ4,acc ++ [t],vs ++ [v6],rfl,?_,hid6,zu,?_,(s2.trans t6).hput hid6 hD m0,by show FinL XE X.K S0 (zD items.2 bd cond f (items.1.drop (i + 1)) σ4 S6.M (acc ++ [t])) Q;rw [e6];exact fin2⟩
                · have ev6:EvR X.K S6 σ4 σ4v:=Mo.mo s4.mok (s5.trans s6) ev4
                  exact ⟨ev6.1,fun i t e=>let ⟨v,e',q⟩:=ev6.2 i t e;⟨v,e',q.hput s6.mok hid6⟩⟩
                · exact ((racc.grow m2 t6.toGrow).app (.cons r6 .nil)).hput s6.mok hid6
    · rw [List.drop_eq_nil_of_le (by omega)] at fin2
      replace fin2:=(FinL.gd fin2).2
      refine .inl ⟨its i (by omega),?_⟩
      exact fin2 S2 D vs rfl s2 hD hid2 hD2 racc
theorem zk0 {tg elt iter:Expr} {ifs:List Expr} {scope:Scope} {cl:List (Str × Addr)} {pos:Pos} {tgs:List Str} {caps:List (Str × Nat)} {ga:Ev->Mem->Out (List T × Gd)} {bd:T->Ev->Mem->Out Ev} {cond:Ev->Mem->Out Bool} {f:Ev->Mem->Out T}
    (hi:GIG X XE tg iter ga) (cb:CB X scope cl caps)
    (hg:∀ ex s0 H0,GG (X.block scope cl (tgs ++ caps.map (·.1)) ex s0 H0) XE tg bd) (hif:∀ ex s0 H0,PTs (X.block scope cl (tgs ++ caps.map (·.1)) ex s0 H0) ifs (lT XE X.K cond)) (hel:∀ ex s0 H0,GE (X.block scope cl (tgs ++ caps.map (·.1)) ex s0 H0) XE elt f)
    (hs:∀ x,foldedSetIterable iter X.env x = pure x:=by intro _;rfl) :
    GL X XE (.ListComp elt [⟨tg,iter,ifs,0⟩] scope pos) (qv ga bd cond f tgs caps):=PE.imp (zhN (tgs:=tgs) (g:=lG XE X.K bd) (tc:=lT XE X.K cond) (te:=lE XE X.K f) cb.hc hi cb.hclos cb.hcell cb.hkind cb.hnames cb.hcl cb.hhas cb.hcap hg hif hel hs) fun σ H Q hh=>zdN hh
theorem zg1 {i0:Nat} {y0:Str} {py spos:Pos} {tg elt iter:Expr} {ifs:List Expr} {scope:Scope} {cl:List (Str × Addr)} {pos:Pos} {tgs:List Str} {caps:List (Str × Nat)} {ga:Ev->Mem->Out (List T × Gd)} {bd:T->Ev->Mem->Out Ev} {cond:Ev->Mem->Out Bool} {f:Ev->Mem->Out T}
    (hi:GIG X XE tg iter ga) (cb:CB X scope cl caps)
    (hg:∀ ex s0 H0,GG (X.block scope cl (tgs ++ caps.map (·.1)) ex s0 H0) XE tg bd) (hif:∀ ex s0 H0,PTs (X.block scope cl (tgs ++ caps.map (·.1)) ex s0 H0) ifs (lT XE X.K cond)) (hel:∀ ex s0 H0,GE (X.block scope cl (tgs ++ caps.map (·.1)) ex s0 H0) XE elt f)
    (hN0:X.N.Nodup) (hi0:X.N[i0]? = some y0) (hx0:Loc X.env.scope y0)
    (hsw:swapsWith (.ListComp elt [⟨tg,iter,ifs,0⟩] scope pos) (some (.Name y0 py)) spos.line X.env = pure true:=by rfl)
    (hf0:X.fn y0 = true\/X.env.scope.names.lookup y0 = some .local:=by first | exact .inl rfl | exact .inr rfl | assumption)
    (hs:∀ x,foldedSetIterable iter X.env x = pure x:=by intro _;rfl) :
    GS X XE (.Assign [.Name y0 py] (.ListComp elt [⟨tg,iter,ifs,0⟩] scope pos) spos) (zj i0 (eFz (qv ga bd cond f tgs caps))):=PS.imp (zbG (tgs:=tgs) (g:=lG XE X.K bd) (tc:=lT XE X.K cond) (te:=lE XE X.K f) cb.hc hi cb.hclos cb.hcell cb.hkind cb.hnames cb.hcl cb.hhas cb.hcap hg hif hel hN0 hi0 hx0 hsw hf0 hs) fun D σ H ⟨S,στ,_,e,m,ev,_,fin⟩=>zdN ⟨S,στ,e,m,ev,by
  show FinL XE X.K S (qv ga bd cond f tgs caps στ S.M) _
  replace fin:Fin XE (FlR X.K) X.K S (((qv ga bd cond f tgs caps στ S.M).bind fun xs M1=>.ok (T.lst xs) M1).bind fun t M1=>.ok (.nx (στ.set i0 (some t))) M1) (zG D):=fin
  cases q:qv ga bd cond f tgs caps στ S.M with
  | bad=>rw [q] at fin;exact fin
  | exn C fs M'=>rw [q] at fin;exact fin
  | ok xs M1=>
    rw [q] at fin
    intro S1 p vs e1 s1 hn hp hv r
    exact fin (S1.show S.hid) (.nx (σ.set i0 (some (.ref p)))) e1 s1.show (.nx ((Mo.mo (K:=X.K) m s1.show ev).set (zfx s1 hn m hp hv r) i0))⟩
theorem zg0 {i0:Nat} {y0:Str} {py spos:Pos} {tg elt iter:Expr} {ifs:List Expr} {scope:Scope} {cl:List (Str × Addr)} {pos:Pos} {tgs:List Str} {caps:List (Str × Nat)} {ga:Ev->Mem->Out (List T × Gd)} {bd:T->Ev->Mem->Out Ev} {cond:Ev->Mem->Out Bool} {f:Ev->Mem->Out T}
    (hi:GIG X XE tg iter ga) (cb:CB X scope cl caps)
    (hg:∀ ex s0 H0,GG (X.block scope cl (tgs ++ caps.map (·.1)) ex s0 H0) XE tg bd) (hif:∀ ex s0 H0,PTs (X.block scope cl (tgs ++ caps.map (·.1)) ex s0 H0) ifs (lT XE X.K cond)) (hel:∀ ex s0 H0,GE (X.block scope cl (tgs ++ caps.map (·.1)) ex s0 H0) XE elt f)
    (hN0:X.N.Nodup) (hi0:X.N[i0]? = some y0) (hx0:Loc X.env.scope y0)
    (hsw:swapsWith (.ListComp elt [⟨tg,iter,ifs,0⟩] scope pos) (some (.Name y0 py)) spos.line X.env = pure true:=by rfl)
    (hf0:X.fn y0 = true\/X.env.scope.names.lookup y0 = some .local:=by first | exact .inl rfl | exact .inr rfl | assumption)
    (hs:∀ x,foldedSetIterable iter X.env x = pure x:=by intro _;rfl) :
    GS X XE (.Assign [.Name y0 py] (.ListComp elt [⟨tg,iter,ifs,0⟩] scope pos) spos) (zj i0 (eTk (qv ga bd cond f tgs caps))):=PS.imp (zbG (tgs:=tgs) (g:=lG XE X.K bd) (tc:=lT XE X.K cond) (te:=lE XE X.K f) cb.hc hi cb.hclos cb.hcell cb.hkind cb.hnames cb.hcl cb.hhas cb.hcap hg hif hel hN0 hi0 hx0 hsw hf0 hs) fun D σ H ⟨S,στ,_,e,m,ev,_,fin⟩=>zdN ⟨S,στ,e,m,ev,by
  show FinL XE X.K S (qv ga bd cond f tgs caps στ S.M) _
  replace fin:Fin XE (FlR X.K) X.K S (((qv ga bd cond f tgs caps στ S.M).bind fun xs M1=>.ok (T.ref M1.length) (M1 ++ [.lst xs])).bind fun t M1=>.ok (.nx (στ.set i0 (some t))) M1) (zG D):=fin
  cases q:qv ga bd cond f tgs caps στ S.M with
  | bad=>rw [q] at fin;exact fin
  | exn C fs M'=>rw [q] at fin;exact fin
  | ok xs M1=>
    rw [q] at fin
    intro S1 p vs e1 s1 hn hp hv r
    have st:=s1.track m hn hp hv r
    have this:(S1.track p xs S.hid).α S1.M.length = p:=if_pos rfl
    have hl:S1.M.length < (S1.track p xs S.hid).M.length:=by show _ < (S1.M ++ [Cell.lst xs]).length;simp
    have r2:Rep X.K (S1.track p xs S.hid) (.ref S1.M.length) (.ref ((S1.track p xs S.hid).α S1.M.length)):=.ref hl
    rw [this,e1] at r2
    exact fin (S1.track p xs S.hid) (.nx (σ.set i0 (some (.ref p)))) (by show S1.M ++ _ = _;rw [e1]) st (.nx ((Mo.mo (K:=X.K) m st ev).set r2 i0))⟩
end
end FT
namespace FT
open PySem PySem.Spec PyProof.Rows L2
noncomputable def yS (t:T) (M:Mem):Option (List T × Gd):=match t with
  | .lst xs=>some (xs,[])
  | .ref a=>match M[a]? with
    | some (.lst xs)=>some (xs,[(a,xs)])
    | _=>none
  | _=>none
theorem zbO {K:PySem.W.Frag} {S:Sit} (m:MemOk K S) {t:T} {v:V} (r:Rep K S t v) {xs:List T} {G:Gd} (e:yS t S.M = some (xs,G)):∃ p vs,v = .ref p/\SqL K S.H p vs/\∀ S3,Stp K S S3->qY G S3.M->∃ vs3,SqL K S3.H p vs3/\Reps K S3 xs vs3:=by
  unfold yS at e
  split at e
  · cases e
    cases r with
    | @lst _ p vs h l rr=>
      refine ⟨p,vs,rfl,zcD h,fun S3 s3 _=>⟨vs,zjx s3 h,?_⟩⟩
      exact (show Reps K S xs vs from ⟨l,rr⟩).grow m s3.toGrow
  · rename_i a
    split at e
    · rename_i ys q
      cases e
      cases r with
      | ref ha=>
        obtain ⟨vs,h1,r1⟩:=m.cell a _ q
        refine ⟨S.α a,vs,rfl,.inl (.inl h1),fun S3 s3 g=>?_⟩
        obtain ⟨vs3,h3,r3⟩:=s3.mok.cell a _ (g (a,xs) (.head _))
        rw [s3.al a ha] at h3
        exact ⟨vs3,.inl (.inl h3),r3⟩
    · cases e
  · cases e
noncomputable def y8 (f:Ev->Mem->Out T):Ev->Mem->Out (List T × Gd):=fun σ M=>(f σ M).bind fun t M1=>match yS t M1 with
  | some g=>.ok g M1
  | none=>.bad
noncomputable def zaZ (f:Ev->Mem->Out T):Ev->Mem->Out (List T × Gd):=fun σ M=>(f σ M).bind fun t M1=>match yS t M1 with
  | some g=>.ok (enT g.1,g.2) M1
  | none=>.bad
section
variable {X:Cx} {XE:XK}
theorem zmM {e tg:Expr} {f:Ev->Mem->Out T} (he:GE X XE e f):GIG X XE tg e (y8 f):=PI.imp (zfr he) fun σ H R hh=>
  LN.mono (LN.bind (f:=fun _ σ M=>f σ M) (k:=fun _ t σ M1=>match yS t M1 with | some g=>.ok g M1 | none=>.bad) (RB:=Rep X.K) hh) fun v H1 h9=>by
    obtain ⟨S,στ,a,e,m,ev,ra,fin⟩:=h9
    obtain ⟨u,t⟩:=a
    subst e
    have rt:Rep X.K S t v:=ra.2
    replace fin:Fin XE (ItG X.K) X.K S (match yS t S.M with | some g=>.ok g S.M | none=>.bad) R:=fin
    cases q:yS t S.M with
    | none=>rw [q] at fin;exact fin.elim
    | some g=>
      rw [q] at fin
      obtain ⟨xs,G⟩:=g
      obtain ⟨p,vs,rfl,h1,h2⟩:=zbO m rt q
      refine ⟨p,rfl,⟨vs,h1⟩,fin S _ rfl (.refl m) fun S3 s3 gd=>?_⟩
      obtain ⟨vs3,g3,r3⟩:=h2 S3 s3 gd
      refine ⟨fun i t et=>?_,fun i hi=>⟨vs3,g3,by rw [← r3.1];exact hi⟩⟩
      obtain ⟨v2,ev3,rv⟩:=r3.get et
      refine ⟨⟨vs3,v2,g3,ev3⟩,fun x H' hy=>?_⟩
      obtain ⟨ey,hy⟩:=hy
      have:=hy vs3 g3
      rw [ev3] at this
      cases this
      exact ⟨S3,ey.symm,rfl,.refl s3.mok,rv⟩
theorem zk2 {l:Expr} {f:Ev->Mem->Out T} {elts:List Expr} {x1} {tp p pos:Pos} (hg:Gl X "enumerate") (hm:X.mg "enumerate" = none) (he:GE X XE l f) (hs:noStar l = true:=by rfl) :
    GIG X XE (.Tuple elts x1 tp) (.Call (.Name "enumerate" p) [l] [] pos) (zaZ f):=PI.imp (zgM hg hm he (qG hs)) fun σ H R hh=>
  LN.mono (LN.bind (f:=fun _ σ M=>f σ M) (k:=fun _ t σ M1=>match yS t M1 with | some g=>.ok (enT g.1,g.2) M1 | none=>.bad) (RB:=Rep X.K) hh) fun v H1 h9=>by
    obtain ⟨S,στ,a,e,m,ev,ra,fin⟩:=h9
    obtain ⟨u,t⟩:=a
    subst e
    have rt:Rep X.K S t v:=ra.2
    replace fin:Fin XE (ItG X.K) X.K S (match yS t S.M with | some g=>.ok (enT g.1,g.2) S.M | none=>.bad) R:=fin
    cases q:yS t S.M with
    | none=>rw [q] at fin;exact fin.elim
    | some g=>
      rw [q] at fin
      obtain ⟨xs,G⟩:=g
      obtain ⟨p,vs,rfl,h1,h2⟩:=zbO m rt q
      refine ⟨p,rfl,⟨vs,h1⟩,fin S _ rfl (.refl m) fun S3 s3 gd=>?_⟩
      obtain ⟨vs3,g3,r3⟩:=h2 S3 s3 gd
      refine ⟨fun i t et=>?_,fun i hi=>⟨vs3,g3,by rw [← r3.1];simpa [enT] using hi⟩⟩
      unfold enT at et
      rw [List.getElem?_mapIdx] at et
      obtain ⟨t0,et0,rfl⟩:=Option.map_eq_some_iff.mp et
      obtain ⟨v2,ev3,rv⟩:=r3.get et0
      refine ⟨⟨vs3,v2,g3,ev3⟩,fun x H' hy=>?_⟩
      obtain ⟨q,y,hq,rfl,rfl,hy⟩:=hy
      have:=hy vs3 g3
      rw [ev3] at this
      cases this
      have s4:=Stp.new s3.mok hq (.tup [.int (i:Int),v2])
      refine ⟨⟨S3.α,S3.M,upd S3.H q (.tup [.int (i:Int),v2]),S3.hid⟩,rfl,rfl,s4,?_⟩
      have rr:Reps X.K ⟨S3.α,S3.M,upd S3.H q (.tup [.int (i:Int),v2]),S3.hid⟩ [.int (i:Int),t0] [.int (i:Int),v2]:=.cons (.int _) (.cons (rv.grow s3.mok s4.toGrow) .nil)
      exact .tup (.inl (.inl zu)) rr.1 rr.2
end
end FT
namespace L2
open PySem PySem.Spec PySem.W PyProof.Rows
noncomputable def SI (b:Bool) (h:Heap) (q t:Addr) (k:Nat):Prop:=match b with
  | true=>h.IsTupleIter q t k
  | false=>h.IsListIter q t k
noncomputable def SS (b:Bool) (h:Heap) (t:Addr) (xs:Array Value):Prop:=match b with
  | true=>h.IsTuple t xs
  | false=>h.IsList t xs
section
variable {b:Bool} {h h':Heap} {q t:Addr} {k:Nat} {xs:Array Value}
theorem SI.mv (x:SI b h q t k) (g:∀ o,h.get? q = some o->h'.get? q = some o):SI b h' q t k:=by
  cases b
  · exact Heap.IsListIter.at x g
  · exact Heap.IsTupleIter.at x g
theorem SS.mv (x:SS b h t xs) (g:∀ o,h.get? t = some o->h'.get? t = some o):SS b h' t xs:=by
  cases b
  · obtain ⟨o,ho,r⟩:=(x:h.IsList t xs);exact ⟨o,g o ho,r⟩
  · obtain ⟨o,ho,r⟩:=(x:h.IsTuple t xs);exact ⟨o,g o ho,r⟩
theorem SI.ob (x:SI b h q t k):∃ o,h.get? q = some o/\∀ v,o.data ≠ .cell v:=by
  cases b
  · obtain ⟨o,e,c,d⟩:=(x:h.IsListIter q t k);exact ⟨o,e,fun v z=>by rw [d] at z;cases z⟩
  · obtain ⟨o,e,c,d⟩:=(x:h.IsTupleIter q t k);exact ⟨o,e,fun v z=>by rw [d] at z;cases z⟩
theorem SS.lt (x:SS b h t xs):t < h.objs.size:=by
  cases b
  · obtain ⟨o,ho,r⟩:=(x:h.IsList t xs);exact Heap.lt_size ho
  · obtain ⟨o,ho,r⟩:=(x:h.IsTuple t xs);exact Heap.lt_size ho
end
section
variable {prog:Program} {w:World} {A:Around} {E:Value->Shared->Prop} {s:Shared}
theorem zhH {b:Bool} {q t:Addr} {i:Nat} {items:Array Value} {x:Value} {Q:Value->Shared->Prop} (hit:SI b s.heap q t i) (ht:SS b s.heap t items) (hx:items[i]? = some x)
    (hQ:∀ k,SI b k q t (i + 1)->Heap.SameBut q s.heap k->Q x { s with heap:=k }):wpAny (model prog w) A (Builtin.SmallTypes.nextOf (.ref q)) Q E s:=by
  cases b
  · exact wpAny_nextOf_list_item hit ht hx hQ
  · exact zdp hit ht hx hQ
theorem zjd {b:Bool} {q t:Addr} {i:Nat} {items:Array Value} {Q:Value->Shared->Prop} (hh:A.handled = none) (hit:SI b s.heap q t i) (ht:SS b s.heap t items) (hx:items[i]? = none)
    (hE:∀ k e,Heap.ExtBut q s.heap k->(∃ o,k.get? e = some o/\o.cls = .type "StopIteration")->E (.ref e) { s with heap:=k }):wpAny (model prog w) A (Builtin.SmallTypes.nextOf (.ref q)) Q E s:=by
  cases b
  · exact wpAny_nextOf_list_end hh hit ht hx hE
  · exact zcu hh hit ht hx hE
theorem zhD {b1 b2:Bool} {z TI TO i1 i2 l1 l2:Addr} {k1 k2:Nat} {xs ys:Array Value} {a b:Value} {Q:Fin->Shared->Prop} (hh:A.handled = none) (D:ZipApart z TI TO i1 i2 l1 l2)
    (hz:IsZip s.heap z TI TO .none) (hTI:IsPair s.heap TI (.ref i1) (.ref i2)) (hTO:IsPair s.heap TO a b)
    (h1:SI b1 s.heap i1 l1 k1) (h2:SI b2 s.heap i2 l2 k2) (hl1:SS b1 s.heap l1 xs) (hl2:SS b2 s.heap l2 ys)
    (hE:(xs[k1]? = none\/ys[k2]? = none)->∀ h' e,(∀ c o,c ≠ z->c ≠ TO->c ≠ i1->c ≠ i2->s.heap.get? c = some o->h'.get? c = some o)->(∃ o,h'.get? e = some o/\o.cls = .type "StopIteration")->E (.ref e) { s with heap:=h' })
    (hQ:∀ x y,xs[k1]? = some x->ys[k2]? = some y->∀ h',IsZip h' z TI TO (rawInt s.heap.objs.size)->IsPair h' TO x y->SI b1 h' i1 l1 (k1 + 1)->SI b2 h' i2 l2 (k2 + 1)->IsPair h' s.heap.objs.size x y->h'.objs.size = s.heap.objs.size + 1->
      (∀ c o,c ≠ z->c ≠ TO->c ≠ i1->c ≠ i2->s.heap.get? c = some o->h'.get? c = some o)->Q (.done (.ret (.ref s.heap.objs.size))) { s with heap:=h' }) :
    wpAny (model prog w) A (Builtin.«zip.__next__» ⟨[.ref z],[]⟩) Q E s:=by
  show wpAny _ _ (field (.ref z) 2 >>= _) _ _ _
  refine wpAny_bind (wpAny_field hz rfl (x:=.bool false) rfl ?_)
  show wpAny _ _ (field (.ref z) 3 >>= _) _ _ _
  refine wpAny_bind (wpAny_field hz rfl (x:=.ref TI) rfl (wpAny_bind (wpAny_seqItems hTI rfl ?_)))
  show wpAny _ _ (Builtin.SmallTypes.ownedTupleIsFree (.ref z) >>= _) _ _ _
  refine wpAny_bind ?_
  unfold Builtin.SmallTypes.ownedTupleIsFree
  refine wpAny_bind (wpAny_field hz rfl (x:=.none) rfl (wpAny_pure ?_))
  simp only [if_true]
  refine wpAny_bind (wpAny_rule (wpAny_bind (wpAny_field hz rfl (x:=.ref TO) rfl (wpAny_bind (wpAny_setField_rec hz (by simp) fun m1 hz1 s1=>?_)))))
  replace hz1:IsZip m1 z TI TO .ellipsis:=hz1
  refine wpAny_bind ?_
  simp only [List.zipIdx_cons,List.zipIdx_nil,List.forIn_cons,List.forIn_nil]
  refine wpAny_bind (wpAny_bind (wpAny_onRaise ?_))
  show wpAny _ _ (Builtin.SmallTypes.nextOf (.ref i1) >>= _) _ _ _
  have a1:SI b1 m1 i1 l1 k1:=h1.mv fun o e=>s1.extBut _ o D.i1z e
  have c1:SS b1 m1 l1 xs:=hl1.mv fun o e=>s1.extBut _ o D.l1z e
  cases hx:xs[k1]? with
  | none=>
    refine wpAny_bind (zjd hh a1 c1 hx fun m2 e s2 he=>?_)
    obtain ⟨oe,q1,q2⟩:=he
    have hz2:IsZip m2 z TI TO .ellipsis:=s2 _ _ D.i1z.symm hz1
    have ez:e ≠ z:=fun x=>by subst x;rw [hz2] at q1;cases q1;simp at q2
    exact wpAny_setField_rec hz2 (by simp) fun m3 _ s3=>hE (.inl hx) m3 e (fun c o n1 _ n3 _ x=>s3.extBut _ _ n1 (s2 _ _ n3 (s1.extBut _ _ n1 x))) ⟨oe,s3.extBut _ _ ez q1,q2⟩
  | some x=>
    refine wpAny_bind (zhH a1 c1 hx fun m2 g1 s2=>wpAny_pure ?_)
    have hTO2:IsPair m2 TO a b:=s2.extBut _ _ D.TOi1 (s1.extBut _ _ D.TOz hTO)
    refine wpAny_bind (wpAny_seqItems hTO2 rfl (wpAny_bind (wpAny_updateSeq_pair hTO2 fun m3 hTO3 s3=>?_)))
    replace hTO3:IsPair m3 TO x b:=hTO3
    refine wpAny_bind (wpAny_letGo (wpAny_pure ?_))
    refine wpAny_bind (wpAny_bind (wpAny_onRaise ?_))
    show wpAny _ _ (Builtin.SmallTypes.nextOf (.ref i2) >>= _) _ _ _
    have up3:∀ c o,c ≠ z->c ≠ TO->c ≠ i1->s.heap.get? c = some o->m3.get? c = some o:=fun c o n1 n2 n3 e=>s3.extBut _ _ n2 (s2.extBut _ _ n3 (s1.extBut _ _ n1 e))
    have a2:SI b2 m3 i2 l2 k2:=h2.mv fun o e=>up3 _ o D.i2z D.TOi2.symm D.i12.symm e
    have c2:SS b2 m3 l2 ys:=hl2.mv fun o e=>up3 _ o D.l2z D.l2TO D.l2i1 e
    have hz3:IsZip m3 z TI TO .ellipsis:=s3.extBut _ _ D.TOz.symm (s2.extBut _ _ D.i1z.symm hz1)
    cases hy:ys[k2]? with
    | none=>
      refine wpAny_bind (zjd hh a2 c2 hy fun m4 e s4 he=>?_)
      obtain ⟨oe,q1,q2⟩:=he
      have hz4:IsZip m4 z TI TO .ellipsis:=s4 _ _ D.i2z.symm hz3
      have ez:e ≠ z:=fun x=>by subst x;rw [hz4] at q1;cases q1;simp at q2
      exact wpAny_setField_rec hz4 (by simp) fun m5 _ s5=>hE (.inr hy) m5 e (fun c o n1 n2 n3 n4 x=>s5.extBut _ _ n1 (s4 _ _ n4 (up3 c o n1 n2 n3 x))) ⟨oe,s5.extBut _ _ ez q1,q2⟩
    | some y=>
      refine wpAny_bind (zhH a2 c2 hy fun m4 g2 s4=>wpAny_pure ?_)
      have hTO4:IsPair m4 TO x b:=s4.extBut _ _ D.TOi2 hTO3
      refine wpAny_bind (wpAny_seqItems hTO4 rfl (wpAny_bind (wpAny_updateSeq_pair hTO4 fun m5 hTO5 s5=>?_)))
      replace hTO5:IsPair m5 TO x y:=hTO5
      refine wpAny_bind (wpAny_letGo (wpAny_pure (wpAny_pure ?_)))
      refine wpAny_bind (wpAny_seqItems hTO5 rfl (wpAny_bind (wpAny_newTuple ?_)))
      have sz:m5.objs.size = s.heap.objs.size:=by rw [s5.1,s4.1,s3.1,s2.1,s1.1]
      have hz5:IsZip m5 z TI TO .ellipsis:=s5.extBut _ _ D.TOz.symm (s4.extBut _ _ D.i2z.symm hz3)
      have zlt:z < m5.objs.size:=Heap.lt_size hz5
      show wpAny _ _ (Builtin.SmallTypes.ownedTupleHandOut (.ref z) (.ref m5.objs.size) >>= _) _ _ _
      refine wpAny_bind ?_
      unfold Builtin.SmallTypes.ownedTupleHandOut
      have hz6:IsZip (m5.push { cls:=.type "tuple",data:=.seq #[x,y] }) z TI TO .ellipsis:=Heap.get?_push_of_some _ hz5
      refine wpAny_bind (wpAny_setField_rec hz6 (by simp) fun m7 hz7 s7=>?_)
      replace hz7:IsZip m7 z TI TO (rawInt m5.objs.size):=hz7
      refine wpAny_setField_rec hz7 (by simp) fun m8 hz8 s8=>?_
      replace hz8:IsZip m8 z TI TO (rawInt m5.objs.size):=hz8
      have up:∀ c o,c ≠ z->m5.get? c = some o->m8.get? c = some o:=fun c o n1 e=>s8.extBut _ _ n1 (s7.extBut _ _ n1 (Heap.get?_push_of_some _ e))
      have tp:IsPair m8 m5.objs.size x y:=s8.extBut _ _ (Nat.ne_of_gt zlt) (s7.extBut _ _ (Nat.ne_of_gt zlt) (Heap.get?_push_size _ rfl))
      have z8:m8.objs.size = m5.objs.size + 1:=by rw [s8.1,s7.1,Heap.size_push]
      rw [sz] at hz8 tp z8
      refine wpAny_pure ?_
      show Q (.done (.ret (.ref m5.objs.size))) _
      rw [sz]
      refine hQ x y hx hy m8 hz8 (up _ _ D.TOz hTO5) ?_ ?_ tp z8 fun c o n1 n2 n3 n4 e=>up c o n1 (s5.extBut _ _ n2 (s4.extBut _ _ n4 (up3 c o n1 n2 n3 e)))
      · exact g1.mv fun o e=>up _ o D.i1z (s5.extBut _ _ D.TOi1.symm (s4.extBut _ _ D.i12 (s3.extBut _ _ D.TOi1.symm e)))
      · exact g2.mv fun o e=>up _ o D.i2z (s5.extBut _ _ D.TOi2.symm e)
theorem zlF {b1 b2:Bool} {z TI TO i1 i2 l1 l2:Addr} {k1 k2:Nat} {xs ys:Array Value} {x y a b:Value} {Q:Option Value->Shared->Prop} (hh:A.handled = none) (D:ZipApart z TI TO i1 i2 l1 l2)
    (hz:IsZip s.heap z TI TO .none) (hTI:IsPair s.heap TI (.ref i1) (.ref i2)) (hTO:IsPair s.heap TO a b)
    (h1:SI b1 s.heap i1 l1 k1) (h2:SI b2 s.heap i2 l2 k2) (hl1:SS b1 s.heap l1 xs) (hl2:SS b2 s.heap l2 ys) (hx:xs[k1]? = some x) (hy:ys[k2]? = some y)
    (hQ:∀ h',IsZip h' z TI TO (rawInt s.heap.objs.size)->IsPair h' TO x y->SI b1 h' i1 l1 (k1 + 1)->SI b2 h' i2 l2 (k2 + 1)->IsPair h' s.heap.objs.size x y->h'.objs.size = s.heap.objs.size + 1->
      (∀ c o,c ≠ z->c ≠ TO->c ≠ i1->c ≠ i2->s.heap.get? c = some o->h'.get? c = some o)->Q (some (.ref s.heap.objs.size)) { s with heap:=h' }) :
    wpAny (model prog w) A (pyNext (.ref z)) Q E s:=by
  have hT:s.TypeIs (.ref z) "zip":=⟨_,hz,rfl⟩
  unfold pyNext
  refine wpAny_bind (wpAny_attempt (wpAny_callSpecial?_slot (name:=Str.ofString "__next__") hT PySem.F.slot_zip_next (wpAny_call_entry PySem.F.slot_zip_next hT PySem.F.entry_zip_next ?_ (PySem.F.args_zip_next_1 _))))
  refine zhD (by first | exact hh | rfl) D hz hTI hTO h1 h2 hl1 hl2 (fun g=>?_) fun x' y' ex ey h' a1 a2 a3 a4 a5 a6 a7=>?_
  · rcases g with g | g
    · rw [hx] at g;cases g
    · rw [hy] at g;cases g
  · rw [hx] at ex;rw [hy] at ey
    cases ex;cases ey
    exact ⟨_,rfl,wpAny_pure (hQ h' a1 a2 a3 a4 a5 a6 a7)⟩
theorem zm3 {b1 b2:Bool} {z TI TO i1 i2 l1 l2:Addr} {k1 k2:Nat} {xs ys:Array Value} {a b:Value} {Q:Option Value->Shared->Prop} (hh:A.handled = none) (D:ZipApart z TI TO i1 i2 l1 l2)
    (hz:IsZip s.heap z TI TO .none) (hTI:IsPair s.heap TI (.ref i1) (.ref i2)) (hTO:IsPair s.heap TO a b)
    (h1:SI b1 s.heap i1 l1 k1) (h2:SI b2 s.heap i2 l2 k2) (hl1:SS b1 s.heap l1 xs) (hl2:SS b2 s.heap l2 ys) (hend:xs[k1]? = none\/ys[k2]? = none)
    (hQ:∀ h',(∀ c o,c ≠ z->c ≠ TO->c ≠ i1->c ≠ i2->s.heap.get? c = some o->h'.get? c = some o)->Q none { s with heap:=h' }):wpAny (model prog w) A (pyNext (.ref z)) Q E s:=by
  have hT:s.TypeIs (.ref z) "zip":=⟨_,hz,rfl⟩
  unfold pyNext
  refine wpAny_bind (wpAny_attempt (wpAny_callSpecial?_slot (name:=Str.ofString "__next__") hT PySem.F.slot_zip_next (wpAny_call_entry PySem.F.slot_zip_next hT PySem.F.entry_zip_next ?_ (PySem.F.args_zip_next_1 _))))
  refine zhD (by first | exact hh | rfl) D hz hTI hTO h1 h2 hl1 hl2 (fun _ h' e hk he=>?_) fun x y ex ey _ _ _ _ _ _ _ _=>?_
  · obtain ⟨o,ho,hc⟩:=he
    exact wpAny_bind (wpAny_isInstance (T:="StopIteration") (b:=true) ⟨o,ho,hc⟩ isSubtype_stop (wpAny_pure (hQ _ hk)))
  · rcases hend with g | g
    · rw [ex] at g;cases g
    · rw [ey] at g;cases g
end
noncomputable abbrev zci (b:Bool) (l:Addr):Obj:=match b with
  | true=>{ cls:=.type "tuple_iterator",data:=.fields #[.ref l,.int 0 0] }
  | false=>{ cls:=.type "list_iterator",data:=.fields #[.ref l,.int 0 0] }
noncomputable abbrev zs1 (b:Bool) (h:Heap) (l1:Addr):Heap:=h.push (zci b l1)
noncomputable abbrev zs2 (b b':Bool) (h:Heap) (l1 l2:Addr):Heap:=(zs1 b h l1).push (zci b' l2)
noncomputable abbrev zs3 (b b':Bool) (h:Heap) (l1 l2:Addr):Heap:=(zs2 b b' h l1 l2).push { cls:=.type "tuple",data:=.seq #[.ref h.objs.size,.ref (zs1 b h l1).objs.size] }
noncomputable abbrev zs4 (b b':Bool) (h:Heap) (l1 l2:Addr):Heap:=(zs3 b b' h l1 l2).push { cls:=.type "tuple",data:=.seq #[.none,.none] }
noncomputable abbrev zs5 (b b':Bool) (h:Heap) (l1 l2:Addr):Heap:=(zs4 b b' h l1 l2).push { cls:=.type "zip",data:=.fields #[.none,.bool false,.bool false,.ref (zs2 b b' h l1 l2).objs.size,.ref (zs3 b b' h l1 l2).objs.size] }
theorem zkH (b b':Bool) (l1 l2:Addr) (xs ys:Array Value):Meets (Builtin.«zip.__new__» ⟨[.type "zip",.ref l1,.ref l2],[]⟩) (fun _ R s=>SS b s.heap l1 xs/\SS b' s.heap l2 ys/\R (.ok (.ret (.ref (zs4 b b' s.heap l1 l2).objs.size))) { s with heap:=zs5 b b' s.heap l1 l2 }):=
  .of_wp fun prog w A R s h=>by
    obtain ⟨hp,g,d,tk,os⟩:=s
    obtain ⟨h1,h2,h⟩:=h
    have se:=sub_zip
    have p2:SS b' (hp.push (zci b l1)) l2 ys:=h2.mv fun o e=>Heap.get?_push_of_some _ e
    cases b <;> cases b'
    · have q1:Heap.IsList (Shared.heap ⟨hp,g,d,tk,os⟩) l1 xs:=h1
      have q2:Heap.IsList (Shared.heap ⟨hp.push (zci false l1),g,d,tk,os⟩) l2 ys:=p2
      wp_walk using wpAny_pyIter_list q1,wpAny_pyIter_list q2
      exact ⟨_,rfl,h⟩
    · have q1:Heap.IsList (Shared.heap ⟨hp,g,d,tk,os⟩) l1 xs:=h1
      have q2:Heap.IsTuple (Shared.heap ⟨hp.push (zci false l1),g,d,tk,os⟩) l2 ys:=p2
      wp_walk using wpAny_pyIter_list q1,wpAny_pyIter_tuple q2
      exact ⟨_,rfl,h⟩
    · have q1:Heap.IsTuple (Shared.heap ⟨hp,g,d,tk,os⟩) l1 xs:=h1
      have q2:Heap.IsList (Shared.heap ⟨hp.push (zci true l1),g,d,tk,os⟩) l2 ys:=p2
      wp_walk using wpAny_pyIter_tuple q1,wpAny_pyIter_list q2
      exact ⟨_,rfl,h⟩
    · have q1:Heap.IsTuple (Shared.heap ⟨hp,g,d,tk,os⟩) l1 xs:=h1
      have q2:Heap.IsTuple (Shared.heap ⟨hp.push (zci true l1),g,d,tk,os⟩) l2 ys:=p2
      wp_walk using wpAny_pyIter_tuple q1,wpAny_pyIter_tuple q2
      exact ⟨_,rfl,h⟩
section
variable {prog:Program} {w:World} {A:Around} {E:Value->Shared->Prop} {s:Shared}
theorem zjf (b:Bool) (h:Heap) (l:Addr):SI b (h.push (zci b l)) h.objs.size l 0:=by
  cases b
  · exact ⟨_,Heap.get?_push_size _ rfl,rfl,rfl⟩
  · exact ⟨_,Heap.get?_push_size _ rfl,rfl,rfl⟩
theorem zm0 {b b':Bool} {l1 l2:Addr} {xs ys:Array Value} {Q:Value->Shared->Prop} (hl1:SS b s.heap l1 xs) (hl2:SS b' s.heap l2 ys)
    (h:∀ h',IsZip h' (s.heap.objs.size + 4) (s.heap.objs.size + 2) (s.heap.objs.size + 3) .none->IsPair h' (s.heap.objs.size + 2) (.ref s.heap.objs.size) (.ref (s.heap.objs.size + 1))->
      IsPair h' (s.heap.objs.size + 3) .none .none->SI b h' s.heap.objs.size l1 0->SI b' h' (s.heap.objs.size + 1) l2 0->
      (∀ c o,s.heap.get? c = some o->h'.get? c = some o)->Q (.ref (s.heap.objs.size + 4)) { s with heap:=h' }) :
    wpAny (model prog w) A (call (.type "zip") [.ref l1,.ref l2]) Q E s:=by
  refine callType_new PySem.F.called_zip (by decide) (PySem.F.typeCall_zip_2 _ _) (PySem.F.newCall_zip_2 _ _) (fun obj=>PySem.F.args_object_init_3 obj _ _) PySem.F.entry_zip_new (zkH b b' l1 l2 xs ys) ⟨hl1,hl2,?_⟩
  have e1:(zs1 b s.heap l1).objs.size = s.heap.objs.size + 1:=Heap.size_push ..
  have e2:(zs2 b b' s.heap l1 l2).objs.size = s.heap.objs.size + 2:=by rw [Heap.size_push,e1]
  have e3:(zs3 b b' s.heap l1 l2).objs.size = s.heap.objs.size + 3:=by rw [Heap.size_push,e2]
  have e4:(zs4 b b' s.heap l1 l2).objs.size = s.heap.objs.size + 4:=by rw [Heap.size_push,e3]
  have g5:IsZip (zs5 b b' s.heap l1 l2) (zs4 b b' s.heap l1 l2).objs.size (zs2 b b' s.heap l1 l2).objs.size (zs3 b b' s.heap l1 l2).objs.size .none:=Heap.get?_push_size _ rfl
  have g4:IsPair (zs5 b b' s.heap l1 l2) (zs3 b b' s.heap l1 l2).objs.size .none .none:=Heap.get?_push_of_some _ (Heap.get?_push_size _ rfl)
  have g3:IsPair (zs5 b b' s.heap l1 l2) (zs2 b b' s.heap l1 l2).objs.size (.ref s.heap.objs.size) (.ref (zs1 b s.heap l1).objs.size):=Heap.get?_push_of_some _ (Heap.get?_push_of_some _ (Heap.get?_push_size _ rfl))
  have g2:SI b' (zs5 b b' s.heap l1 l2) (zs1 b s.heap l1).objs.size l2 0:=(zjf b' (zs1 b s.heap l1) l2).mv fun o e=>Heap.get?_push_of_some _ (Heap.get?_push_of_some _ (Heap.get?_push_of_some _ e))
  have g1:SI b (zs5 b b' s.heap l1 l2) s.heap.objs.size l1 0:=(zjf b s.heap l1).mv fun o e=>Heap.get?_push_of_some _ (Heap.get?_push_of_some _ (Heap.get?_push_of_some _ (Heap.get?_push_of_some _ e)))
  show _/\_
  rw [e4,e2,e3] at g5
  rw [e3] at g4
  rw [e2,e1] at g3
  rw [e1] at g2
  rw [e4]
  refine ⟨⟨_,g5,rfl⟩,h _ g5 g3 g4 g1 g2 fun c o e=>Heap.get?_push_of_some _ (Heap.get?_push_of_some _ (Heap.get?_push_of_some _ (Heap.get?_push_of_some _ (Heap.get?_push_of_some _ e))))⟩
end
end L2
namespace L2
open PySem PySem.Spec PySem.W PyProof.Rows
noncomputable def SqX (K:PySem.W.Frag) (H:Hp) (b:Bool) (a:Addr) (xs:List V):Prop:=match b with
  | true=>SqT K H a xs
  | false=>SqL K H a xs
section
variable {X:Cx} {pins:List (Addr × Obj)} {σ:St} {H:Hp} {s:Shared} {b:Bool} {a:Addr} {xs ys:List V}
theorem Inv.seqX (I:Inv X pins σ H s) (h:SqX X.K H b a xs):∃ its:List Value,Vals xs its/\SS b s.heap a its.toArray:=by
  cases b
  · obtain ⟨its,rv,p,_⟩:=I.list h
    exact ⟨its,rv,p.isList⟩
  · obtain ⟨its,rv,p,_⟩:=I.tuple h
    exact ⟨its,rv,p⟩
theorem Inv.seqX_inj (I:Inv X pins σ H s) (h:SqX X.K H b a xs) (h':SqX X.K H b a ys):xs = ys:=by
  cases b
  · exact I.list_inj h h'
  · exact I.tuple_inj h h'
end
noncomputable def ItX (K:PySem.W.Frag) (b b':Bool) (a c:Addr):It:=
  ⟨fun i H=>∃ xs x ys y,SqX K H b a xs/\xs[i]? = some x/\SqX K H b' c ys/\ys[i]? = some y,
   fun i H v H'=>∃ p x y,H p = none/\v = .ref p/\H' = upd H p (.tup [x,y])/\(∀ xs,SqX K H b a xs->xs[i]? = some x)/\∀ ys,SqX K H b' c ys->ys[i]? = some y,
   fun i H=>∃ xs ys,SqX K H b a xs/\SqX K H b' c ys/\(xs.length<=i\/ys.length<=i)⟩
theorem zi9 {P:Program} {w:World} {K:PySem.W.Frag} {elts:List Expr} {x1} {pos:Pos} (b b':Bool) (a c z TI TO i1 i2:Addr) (D:ZipApart z TI TO i1 i2 a c) :
    Turn P w K (.Tuple elts x1 pos) (ItX K b b' a c) [z,TI,TO,i1,i2] z (fun i h=>IsZip h z TI TO .none/\IsPair h TI (.ref i1) (.ref i2)/\(∃ u v,IsPair h TO u v)/\SI b h i1 a i/\SI b' h i2 c i) where
  mem:=by simp
  obj:=fun i h st d hd=>by
    obtain ⟨h1,h2,⟨u,v,h3⟩,h4,h5⟩:=st
    simp only [List.mem_cons,List.mem_singleton,List.not_mem_nil,or_false] at hd
    rcases hd with rfl | rfl | rfl | rfl | rfl
    · exact ⟨_,h1,fun v z=>by cases z⟩
    · exact ⟨_,h2,fun v z=>by cases z⟩
    · exact ⟨_,h3,fun v z=>by cases z⟩
    · exact h4.ob
    · exact h5.ob
  keep:=fun i h k st kk=>by
    obtain ⟨h1,h2,⟨u,v,h3⟩,h4,h5⟩:=st
    exact ⟨kk z (by simp) _ h1,kk TI (by simp) _ h2,⟨u,v,kk TO (by simp) _ h3⟩,h4.mv fun o q=>kk i1 (by simp) o q,h5.mv fun o q=>kk i2 (by simp) o q⟩
  item:=by
    intro X hP hw hK hc i pins s σ H E I hf st hg
    subst hP hw hK
    obtain ⟨xs,x,ys,y,hq1,hx,hq2,hy⟩:=hg
    obtain ⟨its1,rv1,p1⟩:=I.seqX hq1
    obtain ⟨its2,rv2,p2⟩:=I.seqX hq2
    obtain ⟨u1,hu1,ru1⟩:=rv1.get hx
    obtain ⟨u2,hu2,ru2⟩:=rv2.get hy
    obtain ⟨h1,h2,⟨u,v,h3⟩,h4,h5⟩:=st
    refine zlF (I.ok.hd hc) D h1 h2 h3 h4 h5 p1 p2 (x:=u1) (y:=u2) (by simpa using hu1) (by simpa using hu2) fun k g1 g2 g3 g4 g5 hsz hk=>?_
    refine ⟨.ref s.heap.objs.size,rfl,wpAny_letOwnedTupleGo_zip (s:={ s with heap:=k }) g1 fun k2 en2 sb=>?_⟩
    have zS:z ≠ s.heap.objs.size:=Nat.ne_of_lt (Heap.lt_size h1)
    have TS:TI ≠ s.heap.objs.size:=Nat.ne_of_lt (Heap.lt_size h2)
    have OS:TO ≠ s.heap.objs.size:=Nat.ne_of_lt (Heap.lt_size h3)
    have iS:i1 ≠ s.heap.objs.size:=by obtain ⟨o,q,_⟩:=h4.ob;exact Nat.ne_of_lt (Heap.lt_size q)
    have jS:i2 ≠ s.heap.objs.size:=by obtain ⟨o,q,_⟩:=h5.ob;exact Nat.ne_of_lt (Heap.lt_size q)
    have IA:=I.laid (h':=s.heap.push { cls:=.type "tuple",data:=.seq #[u1,u2] }) (t':=s.toks) (a:=s.heap.objs.size) (o:=.tup [x,y]) (fun b o q=>Heap.get?_push_of_some _ q) (Nat.le_refl _) (show ObjOk X.prog X.w _ _ _ (.tup [x,y]) from ⟨by show 2<=sizeLine;rw [sizeLine_eq];omega,[u1,u2],.cons ru1 (.cons ru2 .nil),by have:=IsTup.new s.heap #[u1,u2];simpa using this,NoDict.new⟩)
    have up:∀ b,b ≠ s.heap.objs.size->(upd H s.heap.objs.size (.tup [x,y])) b = H b:=fun b hb=>if_neg hb
    have fr:∀ c ∈ [z,TI,TO,i1,i2],c ≠ s.heap.objs.size:=fun c hc=>by
      simp only [List.mem_cons,List.mem_singleton,List.not_mem_nil,or_false] at hc
      rcases hc with rfl | rfl | rfl | rfl | rfl <;> assumption
    have IB:=IA.turnedN (t':=s.toks) (h':=k2) (l:=[z,TI,TO,i1,i2]) (fun c o hcl q=>by
      have hcz:c ≠ z:=fun e=>hcl (by simp [e])
      have hcO:c ≠ TO:=fun e=>hcl (by simp [e])
      have hc1:c ≠ i1:=fun e=>hcl (by simp [e])
      have hc2:c ≠ i2:=fun e=>hcl (by simp [e])
      rcases Heap.get?_push_cases q with ⟨z1,z2⟩ | q
      · subst z1;subst z2
        exact (sb.2 _ (Ne.symm zS)).trans g5
      · exact (sb.2 c hcz).trans (hk c o hcz hcO hc1 hc2 q)) (fun c hc=>⟨by rw [up c (fr c hc)];exact (hf c hc).1,(hf c hc).2⟩)
    refine ⟨.ref s.heap.objs.size,_,IB,rfl,⟨s.heap.objs.size,x,y,I.hok.fresh (Nat.le_refl _),rfl,rfl,fun zs hzs=>by rw [I.seqX_inj hzs hq1];exact hx,fun zs hzs=>by rw [I.seqX_inj hzs hq2];exact hy⟩,⟨en2,?_,⟨u1,u2,?_⟩,?_,?_⟩,fun c hc=>by rw [up c (fr c hc)];exact (hf c hc).1⟩
    · exact (sb.2 TI D.TIz).trans (hk TI _ D.TIz D.TITO D.TIi1 D.TIi2 h2)
    · exact (sb.2 TO D.TOz).trans g2
    · exact g3.mv fun o q=>(sb.2 i1 D.i1z).trans q
    · exact g4.mv fun o q=>(sb.2 i2 D.i2z).trans q
  done:=by
    intro X hP hw hK hc i pins s σ H E I hf st hg
    subst hP hw hK
    obtain ⟨xs,ys,hq1,hq2,hend⟩:=hg
    obtain ⟨its1,rv1,p1⟩:=I.seqX hq1
    obtain ⟨its2,rv2,p2⟩:=I.seqX hq2
    obtain ⟨h1,h2,⟨u,v,h3⟩,h4,h5⟩:=st
    have l1:=rv1.length
    have l2:=rv2.length
    refine zm3 (I.ok.hd hc) D h1 h2 h3 h4 h5 p1 p2 (hend.imp (fun q=>by simp;omega) (fun q=>by simp;omega)) fun k hk=>⟨rfl,?_⟩
    refine I.turnedN (t':=s.toks) (l:=[z,TI,TO,i1,i2]) (fun c o hcl q=>hk c o (fun e=>hcl (by simp [e])) (fun e=>hcl (by simp [e])) (fun e=>hcl (by simp [e])) (fun e=>hcl (by simp [e])) q) hf
  self:=fun _ _ _ _ _ st h=>wpAny_pyIter_zip st.1 h
section
variable {X:Cx}
noncomputable def zaA (K:PySem.W.Frag) (tl:TA):TI:=fun σ H R=>tl σ H fun vs H1=>∃ b b' a c,vs = [.ref a,.ref c]/\(∃ xs,SqX K H1 b a xs)/\(∃ ys,SqX K H1 b' c ys)/\R (ItX K b b' a c) H1
theorem zl5 {l m:Expr} {tl:TA} {elts:List Expr} {x1} {tp p pos:Pos} (hg:Gl X "zip") (hm:X.mg "zip" = none) (hl:PA X [l,m] tl) (hs:starEach [l,m] X.env = [(false,eval l X.env),(false,eval m X.env)]:=by rfl) (hs2:starEach [m] X.env = [(false,eval m X.env)]:=by rfl) :
    PI X (.Tuple elts x1 tp) (.Call (.Name "zip" p) [l,m] [] pos) (zaA X.K tl):=by
  intro pins s σ H R I h
  refine Call_ (zb4 I hg hm (show bootBuiltins "zip" = some (.type "zip") by decide +kernel) (PyProof.Rows.callWith_type1 (thn (hl pos pins s σ H _ I h) fun us s1 ⟨vs,H1,I1,r1,q1⟩=>?_) (by rw [hs,hs2]) (by rw [hs2];rfl)))
  obtain ⟨b,b',a,c,e,⟨xs,hq1⟩,⟨ys,hq2⟩,q⟩:=q1
  subst e
  cases r1 with
  | cons r rr=>
    cases rr with
    | cons r' rr=>
      cases rr
      cases r
      cases r'
      obtain ⟨its1,rv1,p1⟩:=I1.seqX hq1
      obtain ⟨its2,rv2,p2⟩:=I1.seqX hq2
      have ha:a < s1.heap.objs.size:=p1.lt
      have hb:c < s1.heap.objs.size:=p2.lt
      generalize hS:s1.heap.objs.size = S at ha hb
      refine zm0 p1 p2 fun k g1 g2 g3 g4 g5 hk=>?_
      rw [hS] at g1 g2 g3 g4 g5 ⊢
      refine wpAny_pyIter_zip g1 ?_
      have ha':@LT.lt Nat instLTNat a S:=ha
      have hb':@LT.lt Nat instLTNat c S:=hb
      have D:ZipApart (S + 4) (S + 2) (S + 3) S (S + 1) a c:=by
        refine ⟨?_,?_,?_,?_,?_,?_,?_,?_,?_,?_,?_,?_,?_,?_,?_,?_,?_,?_⟩ <;> (intro z;have z':(_:Nat) = _:=z;omega)
      refine ⟨S + 4,[S + 4,S + 2,S + 3,S,S + 1],_,_,H1,rfl,I1.kept (t':=s1.toks) hk,zi9 b b' a c _ _ _ _ _ D,⟨g1,g2,⟨_,_,g3⟩,g4,g5⟩,fun d hd=>?_,q⟩
      have hd2:s1.heap.objs.size<=d:=by
        rw [hS]
        simp only [List.mem_cons,List.mem_singleton,List.not_mem_nil,or_false] at hd
        rcases hd with e | e | e | e | e <;> (rw [e];first | exact Nat.le_refl _ | exact Nat.le_add_right _ _)
      exact I1.fpOk hd2 (I1.hok.fresh hd2)
end
end L2
namespace FT
open PySem PySem.Spec PyProof.Rows L2
noncomputable def zC (t:T) (M:Mem):Option (List T × Gd):=match t with
  | .tup xs=>some (xs,[])
  | t=>yS t M
theorem zhJ {K:PySem.W.Frag} {S:Sit} (m:MemOk K S) {t:T} {v:V} (r:Rep K S t v) {xs:List T} {G:Gd} (e:zC t S.M = some (xs,G)):∃ b p vs,v = .ref p/\SqX K S.H b p vs/\∀ S3,Stp K S S3->qY G S3.M->∃ vs3,SqX K S3.H b p vs3/\Reps K S3 xs vs3:=by
  cases t with
  | tup ts=>
    cases e
    cases r with
    | @tup _ p vs h l rr=>exact ⟨true,p,vs,rfl,h,fun S3 s3 _=>⟨vs,s3.toGrow.tup m h,(show Reps K S xs vs from ⟨l,rr⟩).grow m s3.toGrow⟩⟩
  | lst ts=>obtain ⟨p,vs,e1,h1,h2⟩:=zbO m r e;exact ⟨false,p,vs,e1,h1,h2⟩
  | ref a=>obtain ⟨p,vs,e1,h1,h2⟩:=zbO m r e;exact ⟨false,p,vs,e1,h1,h2⟩
  | _=>cases e
noncomputable def zpX (ts:List T) (M:Mem):Out (List T × Gd):=match ts with
  | [t,u]=>match zC t M,zC u M with
    | some g,some h=>.ok (yT g.1 h.1,g.2 ++ h.2) M
    | _,_=>.bad
  | _=>.bad
noncomputable def zaA (ga:Ev->Mem->Out (List T)):Ev->Mem->Out (List T × Gd):=fun σ M=>(ga σ M).bind fun ts M1=>zpX ts M1
section
variable {X:Cx} {XE:XK}
theorem zmK {l l':Expr} {ga:Ev->Mem->Out (List T)} {elts:List Expr} {x1} {tp p pos:Pos} (hg:Gl X "zip") (hm:X.mg "zip" = none) (ha:GA X XE [l,l'] ga) (hs:noStar l = true:=by rfl) (hs2:noStar l' = true:=by rfl) :
    GIG X XE (.Tuple elts x1 tp) (.Call (.Name "zip" p) [l,l'] [] pos) (FT.zaA ga):=PI.imp (zl5 hg hm ha (by rw [qG hs,qG hs2];rfl) (qG hs2)) fun σ H R hh=>
  LN.mono (LN.bind (f:=fun _ σ M=>ga σ M) (k:=fun _ ts σ M1=>zpX ts M1) (RB:=Reps X.K) hh) fun vs H1 h9=>by
    obtain ⟨S,στ,a,e,m,ev,ra,fin⟩:=h9
    obtain ⟨u,ts⟩:=a
    subst e
    have rr:Reps X.K S ts vs:=ra.2
    replace fin:Fin XE (ItG X.K) X.K S (zpX ts S.M) R:=fin
    unfold zpX at fin
    split at fin
    · rename_i t t'
      split at fin
      · rename_i g h qg qh
        obtain ⟨xs,G⟩:=g
        obtain ⟨ys,G'⟩:=h
        obtain ⟨v1,vs1,rfl,r1,r2⟩:=rr.consT
        obtain ⟨v2,vs2,rfl,r3,r4⟩:=r2.consT
        rw [r4.nilT]
        obtain ⟨b1,p1,us1,rfl,h1,k1⟩:=zhJ m r1 qg
        obtain ⟨b2,p2,us2,rfl,h2,k2⟩:=zhJ m r3 qh
        refine ⟨b1,b2,p1,p2,rfl,⟨us1,h1⟩,⟨us2,h2⟩,fin S _ rfl (.refl m) fun S3 s3 gd=>?_⟩
        obtain ⟨w1,g1,e1⟩:=k1 S3 s3 (fun z hz=>gd z (List.mem_append_left _ hz))
        obtain ⟨w2,g2,e2⟩:=k2 S3 s3 (fun z hz=>gd z (List.mem_append_right _ hz))
        refine ⟨fun i t et=>?_,fun i hi=>⟨w1,w2,g1,g2,by have:=e1.1;have:=e2.1;have hi':(yT xs ys).length<=i:=hi;rw [zgs] at hi';omega⟩⟩
        obtain ⟨x,y,hx,hy,rfl⟩:=zgt xs ys i t et
        obtain ⟨z1,ew1,rw1⟩:=e1.get hx
        obtain ⟨z2,ew2,rw2⟩:=e2.get hy
        refine ⟨⟨w1,z1,w2,z2,g1,ew1,g2,ew2⟩,fun z H' hz=>?_⟩
        obtain ⟨q,x',y',hq,rfl,rfl,hx',hy'⟩:=hz
        have a1:=hx' w1 g1
        have a2:=hy' w2 g2
        rw [ew1] at a1
        rw [ew2] at a2
        cases a1
        cases a2
        have s4:=Stp.new s3.mok hq (.tup [z1,z2])
        refine ⟨⟨S3.α,S3.M,upd S3.H q (.tup [z1,z2]),S3.hid⟩,rfl,rfl,s4,?_⟩
        have rr:Reps X.K ⟨S3.α,S3.M,upd S3.H q (.tup [z1,z2]),S3.hid⟩ [x,y] [z1,z2]:=.cons (rw1.grow s3.mok s4.toGrow) (.cons (rw2.grow s3.mok s4.toGrow) .nil)
        exact .tup (.inl (.inl zu)) rr.1 rr.2
      · exact fin.elim
    · exact fin.elim
end
end FT
namespace FT
open PySem PySem.Spec PyProof.Rows L2
noncomputable def zeV (f:Ev->Mem->Out T):Ev->Mem->Out (List T × Gd):=fun σ M=>(f σ M).bind fun t M1=>match zC t M1 with
  | some g=>.ok g M1
  | none=>.bad
noncomputable def zeX (f:Ev->Mem->Out T):Ev->Mem->Out (List T × Gd):=fun σ M=>(f σ M).bind fun t M1=>match zC t M1 with
  | some g=>.ok (enT g.1,g.2) M1
  | none=>.bad
section
variable {X:Cx} {XE:XK}
theorem zmL {e tg:Expr} {f:Ev->Mem->Out T} (he:GE X XE e f):GIG X XE tg e (zeV f):=PI.imp (PI.or (zfr he) (zjo he)) fun σ H R h9=>by
  obtain ⟨S,στ,_,e,m,ev,_,fin⟩:=h9
  replace fin:Fin XE (ItG X.K) X.K S ((f στ S.M).bind fun t M1=>match zC t M1 with | some g=>.ok g M1 | none=>.bad) R:=fin
  cases o:f στ S.M with
  | bad=>rw [o] at fin;exact fin.elim
  | exn C fs M'=>
    rw [o] at fin
    refine .inl ⟨S,στ,(),e,m,ev,trivial,?_⟩
    show Fin XE (Rep X.K) X.K S (f στ S.M) _
    rw [o];exact fin
  | ok t M1=>
    rw [o] at fin
    replace fin:Fin XE (ItG X.K) X.K S (match zC t M1 with | some g=>.ok g M1 | none=>.bad) R:=fin
    have lists:(∀ g,zC t M1 = some g->yS t M1 = some g)->zlw X.K (lE XE X.K f) σ H R:=fun hg=>by
      refine ⟨S,στ,(),e,m,ev,trivial,?_⟩
      show Fin XE (Rep X.K) X.K S (f στ S.M) _
      rw [o]
      intro S1 v e1 s1 r1
      cases q:zC t M1 with
      | none=>rw [q] at fin;exact fin.elim
      | some g=>
        rw [q] at fin
        obtain ⟨xs,G⟩:=g
        obtain ⟨p,vs,rfl,h1,h2⟩:=zbO s1.mok r1 (by rw [e1];exact hg _ q)
        refine ⟨p,rfl,⟨vs,h1⟩,fin S1 _ e1 s1 fun S3 s3 gd=>?_⟩
        obtain ⟨vs3,g3,r3⟩:=h2 S3 s3 gd
        refine ⟨fun i t et=>?_,fun i hi=>⟨vs3,g3,by rw [← r3.1];exact hi⟩⟩
        obtain ⟨v2,ev3,rv⟩:=r3.get et
        refine ⟨⟨vs3,v2,g3,ev3⟩,fun x H' hy=>?_⟩
        obtain ⟨ey,hy⟩:=hy
        have:=hy vs3 g3
        rw [ev3] at this
        cases this
        exact ⟨S3,ey.symm,rfl,.refl s3.mok,rv⟩
    cases t with
    | tup ts=>
      refine .inr ⟨S,στ,(),e,m,ev,trivial,?_⟩
      show Fin XE (Rep X.K) X.K S (f στ S.M) _
      rw [o]
      intro S1 v e1 s1 r1
      cases r1 with
      | @tup _ p vs h l r=>
        have r1:Reps X.K S1 ts vs:=⟨l,r⟩
        replace fin:Fin XE (ItG X.K) X.K S (.ok (ts,[]) M1) R:=fin
        refine ⟨p,rfl,⟨vs,h⟩,fin S1 _ e1 s1 fun S3 s3 gd=>?_⟩
        have g3:SqT X.K S3.H p vs:=s3.toGrow.tup s1.mok h
        refine ⟨fun i t et=>?_,fun i hi=>⟨vs,g3,by rw [← l];exact hi⟩⟩
        obtain ⟨v2,ev3,r3⟩:=r1.get et
        refine ⟨⟨vs,v2,g3,ev3⟩,fun x H' hy=>?_⟩
        obtain ⟨ey,hy⟩:=hy
        have:=hy vs g3
        rw [ev3] at this
        cases this
        exact ⟨S3,ey.symm,rfl,.refl s3.mok,r3.grow s1.mok s3.toGrow⟩
    | _=>exact .inl (lists fun g h=>h)
theorem zk1 {l:Expr} {f:Ev->Mem->Out T} {elts:List Expr} {x1} {tp p pos:Pos} (hg:Gl X "enumerate") (hm:X.mg "enumerate" = none) (he:GE X XE l f) (hs:noStar l = true:=by rfl) :
    GIG X XE (.Tuple elts x1 tp) (.Call (.Name "enumerate" p) [l] [] pos) (zeX f):=PI.imp (PI.or (zgM hg hm he (qG hs)) (zkw hg hm he (qG hs))) fun σ H R h9=>by
  obtain ⟨S,στ,_,e,m,ev,_,fin⟩:=h9
  replace fin:Fin XE (ItG X.K) X.K S ((f στ S.M).bind fun t M1=>match zC t M1 with | some g=>.ok (enT g.1,g.2) M1 | none=>.bad) R:=fin
  have lists:(∀ t M1 g,f στ S.M = .ok t M1->zC t M1 = some g->yS t M1 = some g)->zod X.K (lE XE X.K f) σ H R:=fun hgg=>by
    refine ⟨S,στ,(),e,m,ev,trivial,?_⟩
    show Fin XE (Rep X.K) X.K S (f στ S.M) _
    cases o:f στ S.M with
    | bad=>rw [o] at fin;exact fin.elim
    | exn C fs M'=>rw [o] at fin;exact fin
    | ok t M1=>
      rw [o] at fin
      replace fin:Fin XE (ItG X.K) X.K S (match zC t M1 with | some g=>.ok (enT g.1,g.2) M1 | none=>.bad) R:=fin
      intro S1 v e1 s1 r1
      cases q:zC t M1 with
      | none=>rw [q] at fin;exact fin.elim
      | some g=>
        rw [q] at fin
        obtain ⟨xs,G⟩:=g
        obtain ⟨p,vs,rfl,h1,h2⟩:=zbO s1.mok r1 (by rw [e1];exact hgg _ _ _ o q)
        refine ⟨p,rfl,⟨vs,h1⟩,fin S1 _ e1 s1 fun S3 s3 gd=>?_⟩
        obtain ⟨vs3,g3,r3⟩:=h2 S3 s3 gd
        refine ⟨fun i t et=>?_,fun i hi=>⟨vs3,g3,by rw [← r3.1];simpa [enT] using hi⟩⟩
        unfold enT at et
        rw [List.getElem?_mapIdx] at et
        obtain ⟨t0,et0,rfl⟩:=Option.map_eq_some_iff.mp et
        obtain ⟨v2,ev3,rv⟩:=r3.get et0
        refine ⟨⟨vs3,v2,g3,ev3⟩,fun x H' hy=>?_⟩
        obtain ⟨q,y,hq,rfl,rfl,hy⟩:=hy
        have:=hy vs3 g3
        rw [ev3] at this
        cases this
        have s4:=Stp.new s3.mok hq (.tup [.int (i:Int),v2])
        refine ⟨⟨S3.α,S3.M,upd S3.H q (.tup [.int (i:Int),v2]),S3.hid⟩,rfl,rfl,s4,?_⟩
        have rr:Reps X.K ⟨S3.α,S3.M,upd S3.H q (.tup [.int (i:Int),v2]),S3.hid⟩ [.int (i:Int),t0] [.int (i:Int),v2]:=.cons (.int _) (.cons (rv.grow s3.mok s4.toGrow) .nil)
        exact .tup (.inl (.inl zu)) rr.1 rr.2
  cases o:f στ S.M with
  | bad=>rw [o] at fin;exact fin.elim
  | exn C fs M'=>exact .inl (lists fun t M1 g h=>by rw [o] at h;cases h)
  | ok t M1=>
    cases t with
    | tup ts=>
      rw [o] at fin
      refine .inr ⟨S,στ,(),e,m,ev,trivial,?_⟩
      show Fin XE (Rep X.K) X.K S (f στ S.M) _
      rw [o]
      intro S1 v e1 s1 r1
      cases r1 with
      | @tup _ p vs h l r=>
        have r1:Reps X.K S1 ts vs:=⟨l,r⟩
        replace fin:Fin XE (ItG X.K) X.K S (.ok (enT ts,[]) M1) R:=fin
        refine ⟨p,rfl,⟨vs,h⟩,fin S1 _ e1 s1 fun S3 s3 gd=>?_⟩
        have g3:SqT X.K S3.H p vs:=s3.toGrow.tup s1.mok h
        refine ⟨fun i t et=>?_,fun i hi=>⟨vs,g3,by rw [← l];simpa [enT] using hi⟩⟩
        unfold enT at et
        rw [List.getElem?_mapIdx] at et
        obtain ⟨t0,et0,rfl⟩:=Option.map_eq_some_iff.mp et
        obtain ⟨v2,ev3,r3⟩:=r1.get et0
        refine ⟨⟨vs,v2,g3,ev3⟩,fun x H' hy=>?_⟩
        obtain ⟨q,y,hq,rfl,rfl,hy⟩:=hy
        have:=hy vs g3
        rw [ev3] at this
        cases this
        have s4:=Stp.new s3.mok hq (.tup [.int (i:Int),v2])
        have r4:=(r3.grow s1.mok s3.toGrow).grow s3.mok s4.toGrow
        refine ⟨⟨S3.α,S3.M,upd S3.H q (.tup [.int (i:Int),v2]),S3.hid⟩,rfl,rfl,s4,?_⟩
        have rr:Reps X.K ⟨S3.α,S3.M,upd S3.H q (.tup [.int (i:Int),v2]),S3.hid⟩ [.int (i:Int),t0] [.int (i:Int),v2]:=.cons (.int _) (.cons r4 .nil)
        exact .tup (.inl (.inl zu)) rr.1 rr.2
    | _=>exact .inl (lists fun t M1 g h h2=>by rw [o] at h;cases h;exact h2)
end
end FT
namespace L2
open PySem PySem.Spec PyProof.Rows
noncomputable abbrev TSl:=V->Option Int->Option Int->V->Hp->(Hp->Prop)->Prop
noncomputable def PSl (X:Cx) (t:TSl):Prop:=
  ∀ (pins:List (Addr × Obj)) (s:Shared) (σ:St) (H:Hp) (o v:V) (ov vl vu u:Value) (lo hi:Option Int) (sl:Addr) (Q:Hp->Prop),Inv X pins σ H s->RelV o ov->s.heap.IsSliceOf sl vl vu .none->IsPart vl lo->IsPart vu hi->RelV v u->t o lo hi v H Q->
    wpAny (model X.prog X.w) X.A (setItem ov (.ref sl) u) (fun _ s'=>∃ H',Inv X pins σ H' s'/\Q H') X.xe s
noncomputable def gSl (to:TE) (tl th:TO) (t:TSl):TG:=fun v σ H Q=>to σ H fun o H1=>tl σ H1 fun l H2=>th σ H2 fun u H3=>t o l u v H3 fun H4=>Q σ H4
section
variable {X:Cx} {pos p2:Pos} {o:Expr} {lo hi:Option Expr} {to:TE} {tl th:TO} {t:TSl}
theorem zo9 (ho:PE X o to) (hl:PO X lo tl) (hu:PO X hi th) (hs:PSl X t)
    (ha:∀ v,assign (.Subscript o (.Slice lo hi none p2) pos) X.env v = (do
      let ov ← holding [v] (eval o X.env)
      let iv ← holding [v,ov] (eval (.Slice lo hi none p2) X.env)
      standAt pos
      holding [v,ov,iv] (setItem ov iv v)
      release [iv,v,ov] []):=by intro _;rfl):PG X (.Subscript o (.Slice lo hi none p2) pos) (gSl to tl th t):=by
  intro pins s σ H v u Q I r h
  rw [ha]
  refine wpAny_bind (wpAny_holding (thn (ho pins s σ H _ I h) fun ov s1 ⟨x,H1,I1,r1,q1⟩=>?_))
  refine wpAny_bind (wpAny_holding (wpAny_Slice (thn (hl pins s1 σ H1 _ I1 q1) fun vl s2 ⟨l,H2,I2,pl,q2⟩=>thn (hu pins s2 σ H2 _ I2 q2) fun vu s3 ⟨w,H3,I3,pu,q3⟩=>?_)))
  rw [evalPart_none]
  have I4:Inv X pins σ H3 { s3 with heap:=s3.heap.push { cls:=.type "slice",data:=.fields #[vl,vu,.none] } }:=I3.kept (t':=s3.toks) fun b ob q=>Heap.get?_push_of_some _ q
  refine wpAny_pure (wpAny_bind (wpAny_standAt (wpAny_bind (wpAny_holding (thn (hs pins _ σ H3 x v ov vl vu u l w _ _ I4 r1 (Heap.IsSliceOf.new ..) pl pu r q3) fun _ s5 ⟨H5,I5,q5⟩=>?_)))))
  exact wpAny_release ⟨σ,H5,I5,q5⟩
end
end L2
namespace FT
open PySem PySem.Spec PyProof.Rows L2
noncomputable def zbn (o:T) (lo hi:Option Int) (t:T) (M:Mem):Out Unit:=match o,lo,hi,t with
  | .ref a,some i,some j,.lst ys=>match M[a]? with
    | some (.lst xs)=>@ite _ (0<=i/\i<=j/\j<=(xs.length:Int)/\xs.length + ys.length<=sizeLine) (Classical.propDecidable _) (.ok () (M.set a (.lst (xs.take i.toNat ++ ys ++ xs.drop j.toNat)))) .bad
    | _=>.bad
  | _,_,_,_=>.bad
noncomputable def bSl (f:Ev->Mem->Out T) (p q:Ev->Mem->Out (Option Int)):T->Ev->Mem->Out Ev:=fun t σ M=>(f σ M).bind fun o M1=>(p σ M1).bind fun lo M2=>(q σ M2).bind fun hi M3=>(zbn o lo hi t M3).bind fun _ M4=>.ok σ M4
section
variable {X:Cx} {XE:XK}
noncomputable def zn1 (XE:XK) (K:PySem.W.Frag):TSl:=fun o lo hi v H Q=>∃ S to tv,S.H = H/\MemOk K S/\Rep K S to o/\Rep K S tv v/\Fin XE UnR K S (zbn to lo hi tv S.M) (fun _ H'=>Q H')
theorem znd:PSl X (zn1 XE X.K):=by
  intro pins s σ H o v ov vl vu u lo hi sl Q I ro hs pl pu rv ⟨S,to,tv,e,m,r1,r3,fin⟩
  subst e
  unfold zbn at fin
  split at fin
  · rename_i a i j ys
    split at fin
    · rename_i xs q
      split at fin
      · rename_i hc
        obtain ⟨h0,hij,hj,hz⟩:=hc
        cases r1
        obtain ⟨vs,q2,rs⟩:=m.cell _ _ q
        cases r3 with
        | @lst _ p ws hw l r=>
          have re:Reps X.K S ys ws:=⟨l,r⟩
          cases ro
          cases rv
          obtain ⟨wits,wr,⟨ob,n2,e2,c2,_,d2⟩,wz⟩:=I.list (zcD hw)
          obtain ⟨z,its,n,vr,vl',e1⟩:=I.lstM q2
          have hne:S.α a ≠ p:=by
            rcases hw with ⟨_,f⟩ | ⟨ob,_,_,hk,_⟩
            · exact f.1 a (List.getElem?_eq_some_iff.mp q).1
            · intro z
              have hn:=(I.bs _ _ (I.ok.mod.kin _ _ hk)).2
              rw [← z,q2] at hn
              cases hn
          obtain ⟨i',rfl⟩:=Int.eq_ofNat_of_zero_le h0
          obtain ⟨j',rfl⟩:=Int.eq_ofNat_of_zero_le (Int.le_trans h0 hij)
          simp only [Int.toNat_natCast] at fin
          have hl1:=rs.1
          have hl3:=vr.length
          have hl4:=wr.length
          refine zgc (a:=i') (c:=j') e1 ⟨ob,e2,c2,n2,d2⟩ hne hs pl pu (by omega) (by rw [List.size_toArray];omega) (by rw [List.size_toArray,List.size_toArray];omega) ?_
          refine ⟨_,I.lset (its':=its.take i' ++ wits ++ its.drop j') (t':=s.toks) q2 e1 (zjc its wits i' j') (Vals.append (Vals.append (vr.take _) wr) (vr.drop _)) ?_,?_⟩
          · rw [List.length_append,List.length_append,List.length_take,List.length_drop]
            omega
          · refine fin (S.put a (.lst (vs.take i' ++ ws ++ vs.drop j')) (.lst (xs.take i' ++ ys ++ xs.drop j'))) () rfl (zfp m q ?_) trivial
            have t1:=rs.sub 0 i'
            have t2:=rs.sub j' xs.length
            simp only [List.drop_zero] at t1
            rw [List.take_of_length_le (by simp),List.take_of_length_le (by simp;omega)] at t2
            exact (t1.app re).app t2
      · exact fin.elim
    · exact fin.elim
  · exact fin.elim
theorem zpm {o:Expr} {lo hi:Option Expr} {f:Ev->Mem->Out T} {p q:Ev->Mem->Out (Option Int)} {p2 pos:Pos} (ho:GE X XE o f) (hl:GO X XE lo p) (hu:GO X XE hi q)
    (ha:∀ v,assign (.Subscript o (.Slice lo hi none p2) pos) X.env v = (do
      let ov ← holding [v] (eval o X.env)
      let iv ← holding [v,ov] (eval (.Slice lo hi none p2) X.env)
      standAt pos
      holding [v,ov,iv] (setItem ov iv v)
      release [iv,v,ov] []):=by intro _;rfl):GG X XE (.Subscript o (.Slice lo hi none p2) pos) (bSl f p q):=PG.imp (zo9 ho hl hu znd ha) fun v σ H Q hh=>by
  have h1:LN XE (EvR X.K) X.K (Rep X.K) (bSl f p q) v σ H Q:=hh
  refine LN.mono (LN.env (f:=f) (LN.bind (f:=fun _ σ M=>f σ M) (k:=fun t o σ M1=>(p σ M1).bind fun lo M2=>(q σ M2).bind fun hi M3=>(zbn o lo hi t M3).bind fun _ M4=>.ok σ M4) (RB:=Rep X.K) h1)) fun ov H1 h2=>?_
  refine LN.mono (LN.env (f:=p) (LN.bind (f:=fun _ σ M=>p σ M) (k:=fun (to:T × T) lo σ M2=>(q σ M2).bind fun hi M3=>(zbn to.2 lo hi to.1 M3).bind fun _ M4=>.ok σ M4) (RB:=EqR) h2)) fun lv H2 h3=>?_
  refine LN.mono (LN.env (f:=q) (LN.bind (f:=fun _ σ M=>q σ M) (k:=fun (to:(T × T) × Option Int) hi σ M3=>(zbn to.1.2 to.2 hi to.1.1 M3).bind fun _ M4=>.ok σ M4) (RB:=EqR) h3)) fun uv H3 h4=>?_
  obtain ⟨S,στ,a,e,m,ev,ra,fin⟩:=h4
  have e1:a.1.2 = lv:=ra.1.2
  have e2:a.2 = uv:=ra.2
  refine ⟨S,a.1.1.2,a.1.1.1,e,m,ra.1.1.2,ra.1.1.1,?_⟩
  rw [← e1,← e2]
  replace fin:Fin XE (EvR X.K) X.K S ((zbn a.1.1.2 a.1.2 a.2 a.1.1.1 S.M).bind fun _ M3=>.ok στ M3) Q:=fin
  cases o:zbn a.1.1.2 a.1.2 a.2 a.1.1.1 S.M with
  | bad=>rw [o] at fin;exact fin
  | exn C fs M'=>rw [o] at fin;exact fin
  | ok b M1=>
    rw [o] at fin
    intro S1 c e1 s1 _
    exact fin S1 σ e1 s1 (Mo.mo m s1 ev)
end
noncomputable def zeb (f:List T->Mem->Out T):List T->Mem->Out T:=fun ts M=>match f ts M with
  | .ok v M'=>@ite _ (M'.take M.length = M/\T.lt 0 v) (Classical.propDecidable _) (.ok v M) .bad
  | _=>.bad
theorem zlh (f:List T->Mem->Out T):zid (zeb f) f:=by
  intro ts M t' M1 _ e
  unfold zeb at e
  split at e
  · rename_i v M' q
    split at e
    · rename_i hc
      cases e
      have hl:M.length<=M'.length:=by
        have:=congrArg List.length hc.1
        rw [List.length_take] at this
        omega
      exact ⟨_,_,q,Nat.le_refl _,hl,hc.1.symm,fun i c e=>.inl e,.same (hc.2.mono (Nat.zero_le _))⟩
    · cases e
  · cases e
theorem zli (f:List T->Mem->Out T):∀ ts M C fs M',zeb f ts M ≠ .exn C fs M':=by
  intro ts M C fs M' e
  unfold zeb at e
  split at e
  · split at e <;> cases e
  · cases e
noncomputable def zgN (i j:Nat) (ts:List T) (σ:Ev) (M:Mem):Out Fl:=match ts with
  | [v,w]=>.ok (.nx ((σ.set i (some v)).set j (some w))) M
  | _=>.bad
noncomputable def zir (i j:Nat) (ga:Ev->Mem->Out (List T)):Ev->Mem->Out Fl:=fun σ M=>(ga σ M).bind fun ts M1=>zgN i j ts σ M1
section
variable {X:Cx} {XE:XK} {pos:Pos}
theorem zom {i j:Nat} {x y:Str} {a b:Expr} {ga:Ev->Mem->Out (List T)} {px py pt:Pos} {kt k2 pt2} (hc:X.calm = true) (hN:X.N.Nodup) (hi:X.N[i]? = some x) (hj:X.N[j]? = some y) (hij:i ≠ j)
    (hx:X.env.scope.names.lookup x = some .local) (hy:X.env.scope.names.lookup y = some .local) (ha:GA X XE [a,b] ga)
    (hw:swappedStores [.Tuple [.Name x px,.Name y py] kt pt] (.Tuple [a,b] k2 pt2) X.env = pure (some [x,y]):=by rfl)
    (hs:swapsWithSole [.Tuple [.Name x px,.Name y py] kt pt] (.Tuple [a,b] k2 pt2) pos.line X.env = pure false:=by rfl) :
    GS X XE (.Assign [.Tuple [.Name x px,.Name y py] kt pt] (.Tuple [a,b] k2 pt2) pos) (zir i j ga):=PS.imp (znu hc hN hi hj hij hx hy ha hw hs) fun D σ H hh=>
  LN.mono (LN.bind (f:=fun _ σ M=>ga σ M) (k:=fun _ ts σ M1=>zgN i j ts σ M1) (RB:=Reps X.K) hh) fun vs H1 h9=>by
    obtain ⟨S,στ,a,e,m,ev,ra,fin⟩:=h9
    obtain ⟨u,ts⟩:=a
    replace fin:Fin XE (FlR X.K) X.K S (zgN i j ts στ S.M) (zG D):=fin
    have r:Reps X.K S ts vs:=ra.2
    clear ra
    unfold zgN at fin
    split at fin
    · rename_i v w
      obtain ⟨v1,vs1,rfl,r1,r2⟩:=r.consT
      obtain ⟨w1,vs2,rfl,r3,r4⟩:=r2.consT
      have:=r4.nilT
      subst this
      refine ⟨v1,w1,rfl,?_⟩
      rw [← e]
      exact fin S _ rfl (.refl m) (.nx ((ev.set r1 i).set r3 j))
    · exact fin.elim
end
end FT
namespace FT
open PySem PySem.Spec PyProof.Rows L2
structure WE (X:Cx) (XE:XK) (e:Expr) (f:Ev->Mem->Out T):Prop where
  pe:GE X XE e f
structure WT (X:Cx) (XE:XK) (e:Expr) (f:Ev->Mem->Out Bool):Prop where
  pe:GT X XE e f
structure WW (X:Cx) (XE:XK) (e:Expr) (f:Ev->Mem->Out Bool):Prop where
  pe:GW X XE e f
structure WA (X:Cx) (XE:XK) (e:List Expr) (f:Ev->Mem->Out (List T)):Prop where
  pe:GA X XE e f
structure WSs (X:Cx) (XE:XK) (e:List Stmt) (f:Ev->Mem->Out Fl):Prop where
  pe:GSs X XE e f
structure WS (X:Cx) (XE:XK) (e:Stmt) (f:Ev->Mem->Out Fl):Prop where
  pe:GS X XE e f
structure WL (X:Cx) (XE:XK) (e:Expr) (f:Ev->Mem->Out (List T)):Prop where
  pe:GL X XE e f
structure WGs (X:Cx) (XE:XK) (e:List Expr) (f:List T->Ev->Mem->Out Ev):Prop where
  pe:GGs X XE e f
structure WG (X:Cx) (XE:XK) (e:Expr) (f:T->Ev->Mem->Out Ev):Prop where
  pe:GG X XE e f
structure WO (X:Cx) (XE:XK) (e:Option Expr) (f:Ev->Mem->Out (Option Int)):Prop where
  pe:GO X XE e f
structure WI (X:Cx) (XE:XK) (tg iter:Expr) (f:Ev->Mem->Out (List T)):Prop where
  pe:GI X XE tg iter f
structure WIG (X:Cx) (XE:XK) (tg iter:Expr) (f:Ev->Mem->Out (List T × Gd)):Prop where
  pe:GIG X XE tg iter f
section
variable {X:Cx} {XE:XK} {a b c e:Expr} {es:List Expr} {f g h:Ev->Mem->Out T} {pos:Pos} {ga:Ev->Mem->Out (List T)}
theorem za {i:Nat} (h:PE X e (zik i)):WE X XE e (qa i):=⟨zou h⟩
theorem zc {i j}:WE X XE (.Constant (.int i) j pos) (eC (.int i)):=⟨ge_int ⟩
theorem zR {i j}:WE X XE (.Constant (.bool i) j pos) (eC (.bl i)):=⟨zpt ⟩
theorem zU {j}:WE X XE (.Constant .none j pos) (eC .non):=⟨zox ⟩
theorem z4 {i j}:WE X XE (.Constant (.str i) j pos) (eC (.str i)):=⟨ge_str ⟩
theorem zbT {x:Str} {n:String} (hg:Gl X x) (hm:X.mg x = none) (hv:bootBuiltins x = some (.type n)) (hn:x ≠ "__name__":=by decide) (hd:(x == ("__debug__":Str)) = false:=by decide):WE X XE (.Name x pos) (eC (.ty n)):=⟨zmR hg hm hv hn hd⟩
theorem zfL {x:Str} {i:Int} (hg:Gl X x) (hm:∃ t,X.mg x = some (.int i t)) (hd:(x == ("__debug__":Str)) = false:=by decide):WE X XE (.Name x pos) (eC (.int i)):=⟨zk4 hg hm hd⟩
theorem yf {op:Operator} {o:T->T->Mem->Out T} (ho:OpR X (binaryOp op) (lR2 XE X.K o)) (ha:WE X XE a f) (hb:WE X XE b g):WE X XE (.BinOp a op b pos) (eOp o f g):=⟨zpq ho ha.pe hb.pe⟩
theorem zcy {op:CmpOp} {o:T->T->Mem->Out T} (ho:OpR X (compareOp op) (lR2 XE X.K o)) (ha:WE X XE a f) (hb:WE X XE b g) (hm:behindInMarks op b = false):WE X XE (.Compare a [op] [b] pos) (eOp o f g):=⟨zoz ho ha.pe hb.pe hm⟩
theorem qZ {op:UnaryOp} {o:T->Mem->Out T} (ho:L2.UnR X (unaryOp op) (lR1 XE X.K o)) (ha:WE X XE a f):WE X XE (.UnaryOp op a pos) (eUn o f):=⟨zpn ho ha.pe⟩
theorem yk {o:T->T->Mem->Out T} (ho:IxR X (lR2 XE X.K o)) (ha:WE X XE a f) (hb:WE X XE b g) (hs:zfI b):WE X XE (.Subscript a b pos) (eOp o f g):=⟨zpr ho ha.pe hb.pe hs⟩
theorem zal (ha:WE X XE e f) (he:∀ whole,isTrue e X.env whole = (do let v ← whole;standAt e.pos;holding [v] (truthy v)):=by intro _;rfl):WT X XE e (zp f):=⟨zoh ha.pe he⟩
theorem zn {op:CmpOp} {o:T->T->Mem->Out T} (ho:OpR X (compareOp op) (lR2 XE X.K o)) (ha:WE X XE a f) (hb:WE X XE b g) (hm:behindInMarks op b = false):WT X XE (.Compare a [op] [b] pos) (zp (eOp o f g)):=⟨zoj ho ha.pe hb.pe hm⟩
variable {tf tg:Ev->Mem->Out Bool} {rest:List Expr}
theorem zgv (ha:WT X XE a tf):WW X XE (.BoolOp .And [a] pos) tf:=⟨zmA ha.pe⟩
theorem zaN (ha:WT X XE a tf):WW X XE (.BoolOp .Or [a] pos) tf:=⟨zof ha.pe⟩
theorem zhE (ha:WT X XE a tf) (hb:WW X XE (.BoolOp .And (b :: rest) pos) tg):WW X XE (.BoolOp .And (a :: b :: rest) pos) (zdX tf tg):=⟨zog ha.pe hb.pe⟩
theorem zbq (ha:WT X XE a tf) (hb:WW X XE (.BoolOp .Or (b :: rest) pos) tg):WW X XE (.BoolOp .Or (a :: b :: rest) pos) (zbd tf tg):=⟨zpk ha.pe hb.pe⟩
theorem WW.gt (h:WW X XE e tf):WT X XE e tf:=⟨GW.gt h.pe⟩
theorem zbb (ha:WT X XE a tf):WT X XE (.UnaryOp .Not a pos) (zbm tf):=⟨zoi ha.pe⟩
theorem zlJ {op} (h:WE X XE a f):WE X XE (.BoolOp op [a] pos) f:=⟨zow h.pe⟩
theorem zlK (ha:WE X XE a f) (hb:WE X XE (.BoolOp .And (b :: rest) pos) g):WE X XE (.BoolOp .And (a :: b :: rest) pos) (zle f g):=⟨zoB ha.pe hb.pe⟩
theorem yb :WA X XE [] qc:=⟨zoC ⟩
theorem ya (ha:WE X XE e f) (hr:WA X XE es ga) (hs:noStar e = true:=by rfl):WA X XE (e :: es) (zb f ga):=⟨zmS ha.pe hr.pe hs⟩
theorem qp {x1} (h:WA X XE es ga):WE X XE (.Tuple es x1 pos) (yD ga):=⟨zov h.pe⟩
theorem yG (h:WA X XE es ga):WL X XE (.List es pos) (zP ga):=⟨zmI h.pe⟩
theorem qw (h:WL X XE e ga):WE X XE e (eFz ga):=⟨zps h.pe⟩
theorem zdo (h:WL X XE e ga):WE X XE e (eTk ga):=⟨zpo h.pe⟩
end
section
variable {X:Cx} {XE:XK} {a b c e iter tg:Expr} {es:List Expr} {f g h:Ev->Mem->Out T} {pos:Pos} {ga:Ev->Mem->Out (List T)} {st:Stmt} {sts rest:List Stmt} {p q r:Ev->Mem->Out Fl} {tf:Ev->Mem->Out Bool}
theorem yn :WSs X XE [] yC:=⟨zmE ⟩
theorem yc (h1:WS X XE st p) (h2:WSs X XE rest q):WSs X XE (st :: rest) (qe p q):=⟨zkY h1.pe h2.pe⟩
theorem zd (h1:WS X XE st p):WSs X XE [st] p:=⟨zmD h1.pe⟩
theorem zi (he:WE X XE e f):WS X XE (.Return (some e) pos) (zo f):=⟨zol he.pe⟩
theorem zdV (he:WE X XE e f) (hs:swapsWith e none pos.line X.env = pure false:=by rfl):WS X XE (.Expr e pos) (zex f):=⟨zop he.pe hs⟩
theorem zv (hc:WT X XE c tf) (ha:WSs X XE sts p) (hb:WSs X XE rest q):WS X XE (.If c sts rest pos) (sIf tf p q):=⟨zpl hc.pe ha.pe hb.pe⟩
theorem zg {i:Nat} {x:Str} {pos':Pos} (hN:X.N.Nodup) (hi:X.N[i]? = some x) (hx:Loc X.env.scope x) (he:WE X XE e f) (hs:swapsWith e (some (.Name x pos')) pos.line X.env = pure false:=by rfl) (hf:X.fn x = true\/X.env.scope.names.lookup x = some .local:=by first | exact .inl rfl | exact .inr rfl | assumption):WS X XE (.Assign [.Name x pos'] e pos) (zj i f):=⟨zok hN hi hx he.pe hs hf⟩
theorem zf {i:Nat} (h:PG X tg (zgl i)):WG X XE tg (ye i):=⟨zmO h⟩
theorem zw :WGs X XE [] qB:=⟨zmN ⟩
theorem yh {bd:T->Ev->Mem->Out Ev} {bs:List T->Ev->Mem->Out Ev} (h:PGs X (e :: es) (ziJ (lG XE X.K bd) (lGs XE X.K bs))):WGs X XE (e :: es) (yi bd bs):=⟨zk3 h⟩
theorem yA {n:Nat} {bs:List T->Ev->Mem->Out Ev} (h:PG X tg (zk7 X.K n (lGs XE X.K bs))):WG X XE tg (yB n bs):=⟨zos h⟩
theorem yP {bd:T->Ev->Mem->Out Ev} (he:WE X XE e f) (hg:WG X XE tg bd) (hs:swapsWithSole [tg] e pos.line X.env = pure false:=by rfl) (hw:swappedStores [tg] e X.env = pure none:=by rfl) (h1:(assignEach [tg] X.env).map (·.2) = [assign tg X.env]:=by rfl):WS X XE (.Assign [tg] e pos) (zaE f bd):=⟨zoq he.pe hg.pe hs hw h1⟩
theorem zam {bd:T->Ev->Mem->Out Ev} (hp:PassesOwn (model X.prog X.w) X.A X.env X.xe) (hc:X.calm = true) (hi:WI X XE tg iter ga) (hg:WG X XE tg bd) (hb:WSs X XE sts p) (hs:∀ x,foldedSetIterable iter X.env x = pure x:=by intro _;rfl):WS X XE (.For tg iter sts [] pos) (zb3 ga bd p):=⟨zon hp hc hi.pe hg.pe hb.pe hs⟩
theorem zdm (hp:PassesOwn (model X.prog X.w) X.A X.env X.xe) (hc:WT X XE c tf) (hb:WSs X XE sts p):WS X XE (.While c sts [] pos) (y9 tf p):=⟨zkZ hp hc.pe hb.pe⟩
end
section
variable {X:Cx} {XE:XK} {k:Nat} {ps:List Str} {x:Str} {p pos:Pos} {e:Expr} {es:List Expr} {ga:Ev->Mem->Out (List T)} {F:List T->Mem->Out T}
theorem yg (C:CalT X.prog X.w X.K X.mg X.base k x ps F) (hr:Room k X.A) (hg:Gl X x) (ha:WA X XE (e :: es) ga) (hdb:(x == ("__debug__":Str)) = false:=by decide) (he:noStar e = true:=by rfl) (hpl:es.all noStar = true:=by rfl):WE X XE (.Call (.Name x p) (e :: es) [] pos) (yd F ga):=⟨zoA C hr hg ha.pe hdb he hpl⟩
theorem yo {id:String} (hc:CallR X (.builtin id) (lRN XE X.K F)) (hg:Gl X x) (hm:X.mg x = none) (hv:bootBuiltins x = some (.builtin id)) (ha:WA X XE (e :: es) ga) (hn:x ≠ "__name__":=by decide) (hdb:(x == ("__debug__":Str)) = false:=by decide) (he:noStar e = true:=by rfl) (hpl:es.all noStar = true:=by rfl):WE X XE (.Call (.Name x p) (e :: es) [] pos) (yd F ga):=⟨zk5 hc hg hm hv ha.pe hn hdb he hpl⟩
theorem qX {id:String} (hc:CallR X (.type id) (lRN XE X.K F)) (hg:Gl X x) (hm:X.mg x = none) (hv:bootBuiltins x = some (.type id)) (ha:WA X XE (e :: es) ga) (hn:x ≠ "__name__":=by decide) (hdb:(x == ("__debug__":Str)) = false:=by decide) (he:noStar e = true:=by rfl) (hpl:es.all noStar = true:=by rfl):WE X XE (.Call (.Name x p) (e :: es) [] pos) (yd F ga):=⟨zjN hc hg hm hv ha.pe hn hdb he hpl⟩
end
section
variable {X:Cx} {XE:XK} {a b c e iter tg:Expr} {es:List Expr} {f g h:Ev->Mem->Out T} {pos p:Pos} {ga:Ev->Mem->Out (List T)}
theorem zaO (he:WE X XE e f):WI X XE tg e (zb5 f):=⟨zor he.pe⟩
theorem yF (hg:Gl X "range") (hm:X.mg "range" = none) (ha:WA X XE [a] ga) (hs:starEach [a] X.env = [(false,eval a X.env)]:=by rfl):WI X XE tg (.Call (.Name "range" p) [a] [] pos) (yE ga):=⟨zjM hg hm ha.pe hs⟩
end
section
variable {X:Cx} {XE:XK}
theorem zaD {tg elt iter:Expr} {ifs:List Expr} {scope:Scope} {cl:List (Str × Addr)} {pos:Pos} {tgs:List Str} {caps:List (Str × Nat)} {ga:Ev->Mem->Out (List T)} {bd:T->Ev->Mem->Out Ev} {cond:Ev->Mem->Out Bool} {f:Ev->Mem->Out T} (hi:WI X XE tg iter ga) (cb:CB X scope cl caps) (hg:∀ ex s0 H0,WG (X.block scope cl (tgs ++ caps.map (·.1)) ex s0 H0) XE tg bd) (hif:∀ ex s0 H0,PTs (X.block scope cl (tgs ++ caps.map (·.1)) ex s0 H0) ifs (lT XE X.K cond)) (hel:∀ ex s0 H0,WE (X.block scope cl (tgs ++ caps.map (·.1)) ex s0 H0) XE elt f) (hs:∀ x,foldedSetIterable iter X.env x = pure x:=by intro _;rfl):WL X XE (.ListComp elt [⟨tg,iter,ifs,0⟩] scope pos) (qD ga bd cond f tgs caps):=⟨zmJ hi.pe cb (fun ex s0 H0=>(hg ex s0 H0).pe) hif (fun ex s0 H0=>(hel ex s0 H0).pe) hs⟩
theorem zgw {i0:Nat} {y0:Str} {py spos:Pos} {tg elt iter:Expr} {ifs:List Expr} {scope:Scope} {cl:List (Str × Addr)} {pos:Pos} {tgs:List Str} {caps:List (Str × Nat)} {ga:Ev->Mem->Out (List T)} {bd:T->Ev->Mem->Out Ev} {cond:Ev->Mem->Out Bool} {f:Ev->Mem->Out T} (hi:WI X XE tg iter ga) (cb:CB X scope cl caps) (hg:∀ ex s0 H0,WG (X.block scope cl (tgs ++ caps.map (·.1)) ex s0 H0) XE tg bd) (hif:∀ ex s0 H0,PTs (X.block scope cl (tgs ++ caps.map (·.1)) ex s0 H0) ifs (lT XE X.K cond)) (hel:∀ ex s0 H0,WE (X.block scope cl (tgs ++ caps.map (·.1)) ex s0 H0) XE elt f) (hN0:X.N.Nodup) (hi0:X.N[i0]? = some y0) (hx0:Loc X.env.scope y0) (hsw:swapsWith (.ListComp elt [⟨tg,iter,ifs,0⟩] scope pos) (some (.Name y0 py)) spos.line X.env = pure true:=by rfl) (hf0:X.fn y0 = true\/X.env.scope.names.lookup y0 = some .local:=by first | exact .inl rfl | exact .inr rfl | assumption) (hs:∀ x,foldedSetIterable iter X.env x = pure x:=by intro _;rfl):WS X XE (.Assign [.Name y0 py] (.ListComp elt [⟨tg,iter,ifs,0⟩] scope pos) spos) (zj i0 (eFz (qD ga bd cond f tgs caps))):=⟨zhz hi.pe cb (fun ex s0 H0=>(hg ex s0 H0).pe) hif (fun ex s0 H0=>(hel ex s0 H0).pe) hN0 hi0 hx0 hsw hf0 hs⟩
theorem zbS {i0:Nat} {y0:Str} {py spos:Pos} {tg elt iter:Expr} {ifs:List Expr} {scope:Scope} {cl:List (Str × Addr)} {pos:Pos} {tgs:List Str} {caps:List (Str × Nat)} {ga:Ev->Mem->Out (List T)} {bd:T->Ev->Mem->Out Ev} {cond:Ev->Mem->Out Bool} {f:Ev->Mem->Out T} (hi:WI X XE tg iter ga) (cb:CB X scope cl caps) (hg:∀ ex s0 H0,WG (X.block scope cl (tgs ++ caps.map (·.1)) ex s0 H0) XE tg bd) (hif:∀ ex s0 H0,PTs (X.block scope cl (tgs ++ caps.map (·.1)) ex s0 H0) ifs (lT XE X.K cond)) (hel:∀ ex s0 H0,WE (X.block scope cl (tgs ++ caps.map (·.1)) ex s0 H0) XE elt f) (hN0:X.N.Nodup) (hi0:X.N[i0]? = some y0) (hx0:Loc X.env.scope y0) (hsw:swapsWith (.ListComp elt [⟨tg,iter,ifs,0⟩] scope pos) (some (.Name y0 py)) spos.line X.env = pure true:=by rfl) (hf0:X.fn y0 = true\/X.env.scope.names.lookup y0 = some .local:=by first | exact .inl rfl | exact .inr rfl | assumption) (hs:∀ x,foldedSetIterable iter X.env x = pure x:=by intro _;rfl):WS X XE (.Assign [.Name y0 py] (.ListComp elt [⟨tg,iter,ifs,0⟩] scope pos) spos) (zj i0 (eTk (qD ga bd cond f tgs caps))):=⟨zhy hi.pe cb (fun ex s0 H0=>(hg ex s0 H0).pe) hif (fun ex s0 H0=>(hel ex s0 H0).pe) hN0 hi0 hx0 hsw hf0 hs⟩
theorem qA :PTs X [] (lT XE X.K yy):=zmC 
theorem zki {c:Expr} {tf:Ev->Mem->Out Bool} (h:WT X XE c tf):PTs X [c] (lT XE X.K tf):=zmB h.pe
end
section
variable {X:Cx} {XE:XK} {a b e:Expr} {es:List Expr} {f g:Ev->Mem->Out T} {pos p:Pos} {ga:Ev->Mem->Out (List T)} {x:Str}
theorem zaT {id:String} {F:List T->Mem->Out (List T)} (hc:CallR X (.type id) (zkS XE X.K F)) (hg:Gl X x) (hm:X.mg x = none) (hv:bootBuiltins x = some (.type id)) (ha:WA X XE (e :: es) ga) (hn:x ≠ "__name__":=by decide) (hdb:(x == ("__debug__":Str)) = false:=by decide) (he:noStar e = true:=by rfl) (hpl:es.all noStar = true:=by rfl):WL X XE (.Call (.Name x p) (e :: es) [] pos) (zbI F ga):=⟨zjL hc hg hm hv ha.pe hn hdb he hpl⟩
end
section
variable {X:Cx} {XE:XK}
theorem zbK {o i:Expr} {f g:Ev->Mem->Out T} {pos:Pos} {st:T->T->T->Mem->Out Unit} (ho:WE X XE o f) (hi:WE X XE i g) (hs:zhu X (zkR XE X.K st)) (ha:∀ v,assign (.Subscript o i pos) X.env v = (do
      let ov ← holding [v] (eval o X.env)
      let iv ← holding [v,ov] (eval i X.env)
      standAt pos
      holding [v,ov,iv] (setItem ov iv v)
      release [v,ov,iv] []):=by intro _;rfl):WG X XE (.Subscript o i pos) (zdb st f g):=⟨zot ho.pe hi.pe hs ha⟩
theorem zdW {o e:Expr} {f:Ev->Mem->Out T} {ga:Ev->Mem->Out (List T)} {apos cpos:Pos} (h:PE X (.Call (.Attribute o "append" apos) [e] [] cpos) (tBM X.K "list" zfo (lE XE X.K f) (lA XE X.K ga))):WE X XE (.Call (.Attribute o "append" apos) [e] [] cpos) (zc8 zaM (eUn zac f) ga):=⟨ge_app h⟩
end
section
variable {X:Cx} {XE:XK}
theorem zgx :WO X XE none zgi:=⟨zmH ⟩
theorem zcO {e:Expr} {f:Ev->Mem->Out T} (h:WE X XE e f):WO X XE (some e) (zd2 f):=⟨zmG h.pe⟩
theorem zi5 {e:Expr} {lo hi:Option Expr} {f:Ev->Mem->Out T} {p q:Ev->Mem->Out (Option Int)} {p2 pos:Pos} (he:WE X XE e f) (hl:WO X XE lo p) (hu:WO X XE hi q):WE X XE (.Subscript e (.Slice lo hi none p2) pos) (eSl f p q):=⟨zpp he.pe hl.pe hu.pe⟩
end
section
variable {X:Cx} {XE:XK} {Cs:List Addr} {f:Str}
theorem zE {e:Expr} {g:Ev->Mem->Out T} {pos:Pos} (hC:∀ C ∈ Cs,Cls X.K C/\NoAttr X.K C f) (he:WE X XE e g) (hb:attributeBase e f X.env (eval e X.env) = eval e X.env:=by rfl):WE X XE (.Attribute e f pos) (qC Cs f g):=⟨zoy hC he.pe hb⟩
theorem zdU {o value:Expr} {fo fv:Ev->Mem->Out T} {pos pos':Pos} (hC:∀ C ∈ Cs,Cls X.K C/\NoAttr X.K C f) (ho:WE X XE o fo) (hv:WE X XE value fv) (hs:swapsWith value (some (.Attribute o f pos')) pos.line X.env = pure false:=by rfl):WS X XE (.Assign [.Attribute o f pos'] value pos) (zc0 Cs f fo fv):=⟨zoo hC ho.pe hv.pe hs⟩
end
section
variable {X:Cx} {XE:XK} {k:Nat} {ps:List Str} {x:Str} {C:Addr} {p pos:Pos} {e:Expr} {es:List Expr} {ga:Ev->Mem->Out (List T)} {F:List T->Mem->Out T}
theorem zgy (M:MakT X.prog X.w X.K X.mg X.base k x C ps F) (hr:Room (k + 1) X.A) (hg:Gl X x) (ha:WA X XE (e :: es) ga) (hdb:(x == ("__debug__":Str)) = false:=by decide) (he:noStar e = true:=by rfl) (hpl:es.all noStar = true:=by rfl):WE X XE (.Call (.Name x p) (e :: es) [] pos) (zea C F ga):=⟨zmQ M hr hg ha.pe hdb he hpl⟩
end
section
variable {X:Cx} {XE:XK} {a b c e iter tg:Expr} {es:List Expr} {pos pp:Pos} {sts:List Stmt} {p:Ev->Mem->Out Fl} {ga:Ev->Mem->Out (List T × Gd)}
theorem zaC {bd:T->Ev->Mem->Out Ev} (hp:PassesOwn (model X.prog X.w) X.A X.env X.xe) (hc:X.calm = true) (hi:WIG X XE tg iter ga) (hg:WG X XE tg bd) (hb:WSs X XE sts p) (hs:∀ x,foldedSetIterable iter X.env x = pure x:=by intro _;rfl):WS X XE (.For tg iter sts [] pos) (zT ga bd p):=⟨zmF hp hc hi.pe hg.pe hb.pe hs⟩
theorem zbr {tg elt iter:Expr} {ifs:List Expr} {scope:Scope} {cl:List (Str × Addr)} {pos:Pos} {tgs:List Str} {caps:List (Str × Nat)} {ga:Ev->Mem->Out (List T × Gd)} {bd:T->Ev->Mem->Out Ev} {cond:Ev->Mem->Out Bool} {f:Ev->Mem->Out T} (hi:WIG X XE tg iter ga) (cb:CB X scope cl caps) (hg:∀ ex s0 H0,WG (X.block scope cl (tgs ++ caps.map (·.1)) ex s0 H0) XE tg bd) (hif:∀ ex s0 H0,PTs (X.block scope cl (tgs ++ caps.map (·.1)) ex s0 H0) ifs (lT XE X.K cond)) (hel:∀ ex s0 H0,WE (X.block scope cl (tgs ++ caps.map (·.1)) ex s0 H0) XE elt f) (hs:∀ x,foldedSetIterable iter X.env x = pure x:=by intro _;rfl):WL X XE (.ListComp elt [⟨tg,iter,ifs,0⟩] scope pos) (qv ga bd cond f tgs caps):=⟨zk0 hi.pe cb (fun ex s0 H0=>(hg ex s0 H0).pe) hif (fun ex s0 H0=>(hel ex s0 H0).pe) hs⟩
theorem zde {i0:Nat} {y0:Str} {py spos:Pos} {tg elt iter:Expr} {ifs:List Expr} {scope:Scope} {cl:List (Str × Addr)} {pos:Pos} {tgs:List Str} {caps:List (Str × Nat)} {ga:Ev->Mem->Out (List T × Gd)} {bd:T->Ev->Mem->Out Ev} {cond:Ev->Mem->Out Bool} {f:Ev->Mem->Out T} (hi:WIG X XE tg iter ga) (cb:CB X scope cl caps) (hg:∀ ex s0 H0,WG (X.block scope cl (tgs ++ caps.map (·.1)) ex s0 H0) XE tg bd) (hif:∀ ex s0 H0,PTs (X.block scope cl (tgs ++ caps.map (·.1)) ex s0 H0) ifs (lT XE X.K cond)) (hel:∀ ex s0 H0,WE (X.block scope cl (tgs ++ caps.map (·.1)) ex s0 H0) XE elt f) (hN0:X.N.Nodup) (hi0:X.N[i0]? = some y0) (hx0:Loc X.env.scope y0) (hsw:swapsWith (.ListComp elt [⟨tg,iter,ifs,0⟩] scope pos) (some (.Name y0 py)) spos.line X.env = pure true:=by rfl) (hf0:X.fn y0 = true\/X.env.scope.names.lookup y0 = some .local:=by first | exact .inl rfl | exact .inr rfl | assumption) (hs:∀ x,foldedSetIterable iter X.env x = pure x:=by intro _;rfl):WS X XE (.Assign [.Name y0 py] (.ListComp elt [⟨tg,iter,ifs,0⟩] scope pos) spos) (zj i0 (eFz (qv ga bd cond f tgs caps))):=⟨zg1 hi.pe cb (fun ex s0 H0=>(hg ex s0 H0).pe) hif (fun ex s0 H0=>(hel ex s0 H0).pe) hN0 hi0 hx0 hsw hf0 hs⟩
theorem zga {i0:Nat} {y0:Str} {py spos:Pos} {tg elt iter:Expr} {ifs:List Expr} {scope:Scope} {cl:List (Str × Addr)} {pos:Pos} {tgs:List Str} {caps:List (Str × Nat)} {ga:Ev->Mem->Out (List T × Gd)} {bd:T->Ev->Mem->Out Ev} {cond:Ev->Mem->Out Bool} {f:Ev->Mem->Out T} (hi:WIG X XE tg iter ga) (cb:CB X scope cl caps) (hg:∀ ex s0 H0,WG (X.block scope cl (tgs ++ caps.map (·.1)) ex s0 H0) XE tg bd) (hif:∀ ex s0 H0,PTs (X.block scope cl (tgs ++ caps.map (·.1)) ex s0 H0) ifs (lT XE X.K cond)) (hel:∀ ex s0 H0,WE (X.block scope cl (tgs ++ caps.map (·.1)) ex s0 H0) XE elt f) (hN0:X.N.Nodup) (hi0:X.N[i0]? = some y0) (hx0:Loc X.env.scope y0) (hsw:swapsWith (.ListComp elt [⟨tg,iter,ifs,0⟩] scope pos) (some (.Name y0 py)) spos.line X.env = pure true:=by rfl) (hf0:X.fn y0 = true\/X.env.scope.names.lookup y0 = some .local:=by first | exact .inl rfl | exact .inr rfl | assumption) (hs:∀ x,foldedSetIterable iter X.env x = pure x:=by intro _;rfl):WS X XE (.Assign [.Name y0 py] (.ListComp elt [⟨tg,iter,ifs,0⟩] scope pos) spos) (zj i0 (eTk (qv ga bd cond f tgs caps))):=⟨zg0 hi.pe cb (fun ex s0 H0=>(hg ex s0 H0).pe) hif (fun ex s0 H0=>(hel ex s0 H0).pe) hN0 hi0 hx0 hsw hf0 hs⟩
end
section
variable {X:Cx} {XE:XK}
theorem zbc {e tg:Expr} {f:Ev->Mem->Out T} (he:WE X XE e f):WIG X XE tg e (y8 f):=⟨zmM he.pe⟩
theorem zdn {l:Expr} {f:Ev->Mem->Out T} {elts:List Expr} {x1} {tp p pos:Pos} (hg:Gl X "enumerate") (hm:X.mg "enumerate" = none) (he:WE X XE l f) (hs:noStar l = true:=by rfl):WIG X XE (.Tuple elts x1 tp) (.Call (.Name "enumerate" p) [l] [] pos) (zaZ f):=⟨zk2 hg hm he.pe hs⟩
end
section
variable {X:Cx} {XE:XK}
theorem zcP {l l':Expr} {ga:Ev->Mem->Out (List T)} {elts:List Expr} {x1} {tp p pos:Pos} (hg:Gl X "zip") (hm:X.mg "zip" = none) (ha:WA X XE [l,l'] ga) (hs:noStar l = true:=by rfl) (hs2:noStar l' = true:=by rfl):WIG X XE (.Tuple elts x1 tp) (.Call (.Name "zip" p) [l,l'] [] pos) (FT.zaA ga):=⟨zmK hg hm ha.pe hs hs2⟩
end
section
variable {X:Cx} {XE:XK}
theorem zkj {e tg:Expr} {f:Ev->Mem->Out T} (he:WE X XE e f):WIG X XE tg e (zeV f):=⟨zmL he.pe⟩
theorem zi4 {l:Expr} {f:Ev->Mem->Out T} {elts:List Expr} {x1} {tp p pos:Pos} (hg:Gl X "enumerate") (hm:X.mg "enumerate" = none) (he:WE X XE l f) (hs:noStar l = true:=by rfl):WIG X XE (.Tuple elts x1 tp) (.Call (.Name "enumerate" p) [l] [] pos) (zeX f):=⟨zk1 hg hm he.pe hs⟩
end
section
variable {X:Cx} {XE:XK}
theorem zm5 {o:Expr} {lo hi:Option Expr} {f:Ev->Mem->Out T} {p q:Ev->Mem->Out (Option Int)} {p2 pos:Pos} (ho:WE X XE o f) (hl:WO X XE lo p) (hu:WO X XE hi q) (ha:∀ v,assign (.Subscript o (.Slice lo hi none p2) pos) X.env v = (do
      let ov ← holding [v] (eval o X.env)
      let iv ← holding [v,ov] (eval (.Slice lo hi none p2) X.env)
      standAt pos
      holding [v,ov,iv] (setItem ov iv v)
      release [iv,v,ov] []):=by intro _;rfl):WG X XE (.Subscript o (.Slice lo hi none p2) pos) (bSl f p q):=⟨zpm ho.pe hl.pe hu.pe ha⟩
end
section
variable {X:Cx} {XE:XK} {pos:Pos}
theorem zlI {i j:Nat} {x y:Str} {a b:Expr} {ga:Ev->Mem->Out (List T)} {px py pt:Pos} {kt k2 pt2} (hc:X.calm = true) (hN:X.N.Nodup) (hi:X.N[i]? = some x) (hj:X.N[j]? = some y) (hij:i ≠ j) (hx:X.env.scope.names.lookup x = some .local) (hy:X.env.scope.names.lookup y = some .local) (ha:WA X XE [a,b] ga) (hw:swappedStores [.Tuple [.Name x px,.Name y py] kt pt] (.Tuple [a,b] k2 pt2) X.env = pure (some [x,y]):=by rfl) (hs:swapsWithSole [.Tuple [.Name x px,.Name y py] kt pt] (.Tuple [a,b] k2 pt2) pos.line X.env = pure false:=by rfl):WS X XE (.Assign [.Tuple [.Name x px,.Name y py] kt pt] (.Tuple [a,b] k2 pt2) pos) (zir i j ga):=⟨zom hc hN hi hj hij hx hy ha.pe hw hs⟩
end
section
variable {P:Program} {w:World} {K:PySem.W.Frag} {mg:Str->Option Value} {base:Heap}
theorem yq {x:Str} {st:Stmt} {N ps:List Str} {k p n:Nat} {g:Ev->Mem->Out Fl} (D:Df K mg x st ps) (Sc:FnScope N ps (ze st)) (hp:ps.length = p) (hn:N.length = n)
    (hb:∀ (f:Addr) (cdv:Value) (A:Around) (outer:List PySem.Env) (s:Shared) (H:Hp) (E:XK),Room k (A.deeper (envOfC x (ze st) s.heap.objs.size f cdv))->WSs (zbl CX0 P w K mg base N x (ze st) f cdv A outer s H E).nox E0 (qE st) g) :
    CalT P w K mg base (k + 1) x ps (qk p n g):=zoM D Sc hp hn fun f cdv A outer s H E hr=>(hb f cdv A outer s H E hr).pe
theorem zlH {st:Stmt} {N ps:List Str} {x qual:Str} {f:Addr} {fd:FuncData} {k p n:Nat} {g:Ev->Mem->Out Fl} (F:Fun K x qual st f fd) (Sc:FnScope N ps (ze st)) (hp:ps.length = p) (hn:N.length = n)
    (hb:∀ (cdv:Value) (A:Around) (outer:List PySem.Env) (s:Shared) (H:Hp) (E:XK),Room k (A.deeper (envOfC qual (ze st) s.heap.objs.size f cdv))->WSs (zbl CX0 P w K mg base N qual (ze st) f cdv A outer s H E).nox E0 (qE st) g) :
    FnOk P w K mg base CX0 (k + 1) f fd ps (spT K (qk p n g)):=znZ F Sc hp hn fun cdv A outer s H E hr=>(hb cdv A outer s H E hr).pe
theorem zlG {x qual:Str} {C:Addr} {st:Stmt} {N ps:List Str} {k p n:Nat} {g:Ev->Mem->Out Fl} (D:Di K mg x qual C st ps) (Sc:FnScope N ps (ze st)) (hp:ps.length = p) (hn:N.length = n)
    (hb:∀ (f:Addr) (cdv:Value) (A:Around) (outer:List PySem.Env) (s:Shared) (H:Hp) (E:XK),Room k (A.deeper (envOfC qual (ze st) s.heap.objs.size f cdv))->WSs (zbl CX0 P w K mg base N qual (ze st) f cdv A outer s H E).nox E0 (qE st) g) :
    MakT P w K mg base (k + 1) x C ps (qk p n g):=znT D Sc hp hn fun f cdv A outer s H E hr=>(hb f cdv A outer s H E hr).pe
end
end FT
namespace FT
open PySem L2
noncomputable def Ok {β:Type} (o:Out β) (Q:β->Mem->Prop):Prop:=∃ b M,o = .ok b M/\Q b M
theorem Ok.ret {β:Type} {b:β} {M:Mem} {Q:β->Mem->Prop} (h:Q b M):Ok (.ok b M) Q:=⟨b,M,rfl,h⟩
theorem Ok.of {β:Type} {o:Out β} {b:β} {M:Mem} {Q:β->Mem->Prop} (e:o = .ok b M) (h:Q b M):Ok o Q:=⟨b,M,e,h⟩
theorem Ok.bind {β γ:Type} {o:Out β} {k:β->Mem->Out γ} {P:β->Mem->Prop} {Q:γ->Mem->Prop} (h:Ok o P) (g:∀ b M,P b M->Ok (k b M) Q):Ok (o.bind k) Q:=by
  obtain ⟨b,M,e,p⟩:=h
  rw [e]
  exact g b M p
theorem Ok.mono {β:Type} {o:Out β} {P Q:β->Mem->Prop} (h:Ok o P) (g:∀ b M,P b M->Q b M):Ok o Q:=by
  obtain ⟨b,M,e,p⟩:=h
  exact ⟨b,M,e,g b M p⟩
theorem zaL {β γ δ:Type} {o:Out β} {k:β->Mem->Out γ} {l:γ->Mem->Out δ}:(o.bind k).bind l = o.bind fun b M=>(k b M).bind l:=by cases o <;> rfl
theorem zqe {β γ:Type} {p:Prop} [Decidable p] {x y:Out β} {k:β->Mem->Out γ}:(if p then x else y).bind k = if p then x.bind k else y.bind k:=by split <;> rfl
theorem zqd {β γ:Type} {t:T} {M:Mem} {k:Bool->Mem->Out β} {l:β->Mem->Out γ}:(blT t M k).bind l = blT t M fun b M=>(k b M).bind l:=by cases t <;> rfl
noncomputable def zgH (fl:Fl) (M:Mem):Out T:=match fl with
  | .rt t=>.ok t M
  | .nx _=>.ok .non M
  | _=>.bad
theorem zqj {t:T} {M:Mem}:zgH (.rt t) M = .ok t M:=rfl
theorem zqk {σ:Ev} {M:Mem}:zgH (.nx σ) M = .ok .non M:=rfl
theorem ym {p n:Nat} {g:Ev->Mem->Out Fl} {ts:List T} {M:Mem} {Q:T->Mem->Prop} (h:ts.length = p) (k:Ok ((g (startT n ts) M).bind zgH) Q):Ok (qk p n g ts M) Q:=by
  obtain ⟨b,M1,e,q⟩:=k
  refine ⟨b,M1,?_,q⟩
  rw [zjj h]
  cases r:g (startT n ts) M with
  | bad=>rw [r] at e;cases e
  | exn C fs M'=>rw [r] at e;cases e
  | ok fl M'=>
    rw [r] at e
    cases fl with
    | rt t=>exact e
    | nx σ=>exact e
    | bk σ=>cases e
    | ct σ=>cases e
noncomputable def Fr (S:List Nat) (M M':Mem):Prop:=M.length<=M'.length/\∀ i,i < M.length->i ∉ S->M'[i]? = M[i]?
theorem Fr.refl (S:List Nat) (M:Mem):Fr S M M:=⟨Nat.le_refl _,fun _ _ _=>rfl⟩
theorem Fr.trans {S:List Nat} {A B C:Mem} (h:Fr S A B) (g:Fr S B C):Fr S A C:=⟨Nat.le_trans h.1 g.1,fun i hi hs=>by rw [g.2 i (Nat.lt_of_lt_of_le hi h.1) hs,h.2 i hi hs]⟩
theorem Fr.tr {S S':List Nat} {A B C:Mem} (h:Fr S A B) (g:Fr S' B C) (s:∀ i ∈ S',i ∈ S\/A.length<=i):Fr S A C:=⟨Nat.le_trans h.1 g.1,fun i hi hs=>by
  rw [g.2 i (Nat.lt_of_lt_of_le hi h.1) (fun z=>by rcases s i z with a | a;exact hs a;omega),h.2 i hi hs]⟩
theorem Fr.get {S:List Nat} {M M':Mem} (h:Fr S M M') {i:Nat} {c:Cell} (e:M[i]? = some c) (hs:i ∉ S):M'[i]? = some c:=by
  rw [h.2 i (List.getElem?_eq_some_iff.mp e).1 hs];exact e
theorem Fr.get0 {M M':Mem} (h:Fr [] M M') {i:Nat} {c:Cell} (e:M[i]? = some c):M'[i]? = some c:=h.get e (by simp)
theorem Fr.sub {S S':List Nat} {M M':Mem} (h:Fr S M M') (s:∀ i ∈ S,i ∈ S'\/M.length<=i):Fr S' M M':=⟨h.1,fun i hi hs=>h.2 i hi fun z=>by
  rcases s i z with a | a
  · exact hs a
  · omega⟩
theorem Fr.app (M:Mem) (l:List Cell):Fr [] M (M ++ l):=⟨by simp,fun i hi _=>by rw [List.getElem?_append_left hi]⟩
theorem Fr.set (M:Mem) (a:Nat) (c:Cell):Fr [a] M (M.set a c):=⟨by simp,fun i _ hs=>by rw [List.getElem?_set,if_neg (by simp at hs;omega)]⟩
theorem Fr.mono {S:List Nat} {M M':Mem} (h:Fr [] M M'):Fr S M M':=h.sub (fun i hi=>by simp at hi)
theorem zdG {M:Mem} {i:Nat} {c:Cell} (e:M[i]? = some c):i < M.length:=(List.getElem?_eq_some_iff.mp e).1
theorem zJ {M:Mem} {c:Cell}:(M ++ [c])[M.length]? = some c:=List.getElem?_concat_length
theorem get_set {M:Mem} {a:Nat} {c c':Cell} (e:M[a]? = some c):(M.set a c')[a]? = some c':=by
  rw [List.getElem?_set,if_pos rfl,if_pos (zdG e)]
theorem Ok.loop {bd:T->Ev->Mem->Out Ev} {body:Ev->Mem->Out Fl} {α:Type} {r:α->T} (P:Nat->Ev->Mem->Prop) {R:T->Mem->Prop}:∀ (xs:List α) (i:Nat) {σ:Ev} {M:Mem},
    P i σ M->(∀ (k:Nat) x σ M,xs[k]? = some x->P (i + k) σ M->Ok ((bd (r x) σ M).bind fun σ1 M1=>body σ1 M1) fun fl M'=>(∃ σ',(fl = .nx σ'\/fl = .ct σ')/\P (i + k + 1) σ' M')\/(∃ σ',fl = .bk σ'/\P (i + xs.length) σ' M')\/∃ t,fl = .rt t/\R t M')->
    Ok (forL bd body (xs.map r) σ M) fun fl M'=>(∃ σ',fl = .nx σ'/\P (i + xs.length) σ' M')\/∃ t,fl = .rt t/\R t M'
  | [],i,σ,M,h,_=>⟨.nx σ,M,rfl,.inl ⟨σ,rfl,h⟩⟩
  | x :: xs,i,σ,M,h,t=>by
    obtain ⟨fl,M1,e1,h1⟩:=t 0 x σ M rfl h
    rw [List.map_cons,zjO]
    cases q:bd (r x) σ M with
    | bad=>rw [q] at e1;cases e1
    | exn C fs M'=>rw [q] at e1;cases e1
    | ok σ3 M3=>
      rw [q] at e1
      replace e1:body σ3 M3 = .ok fl M1:=e1
      show Ok ((body σ3 M3).bind (yL (forL bd body (xs.map r)))) _
      rw [e1]
      have go:∀ σ1,P (i + 1) σ1 M1->Ok (forL bd body (xs.map r) σ1 M1) fun fl M'=>(∃ σ',fl = .nx σ'/\P (i + (x :: xs).length) σ' M')\/∃ t,fl = .rt t/\R t M':=fun σ1 h1=>by
        have ih:=Ok.loop (R:=R) P xs (i + 1) (bd:=bd) (body:=body) h1 (fun k y σ M hk hp=>by
          have:=t (k + 1) y σ M (by simpa using hk) (by rw [show i + (k + 1) = i + 1 + k by omega];exact hp)
          rw [show i + (k + 1) + 1 = i + 1 + k + 1 by omega,List.length_cons,show i + (xs.length + 1) = i + 1 + xs.length by omega] at this
          exact this)
        rw [List.length_cons,show i + (xs.length + 1) = i + 1 + xs.length by omega]
        exact ih
      rcases h1 with ⟨σ1,h1 | h1,h2⟩ | ⟨σ1,h1,h2⟩ | ⟨u,h1,h2⟩
      · rw [h1];exact go σ1 h2
      · rw [h1];exact go σ1 h2
      · rw [h1];exact ⟨.nx σ1,M1,rfl,.inl ⟨σ1,rfl,h2⟩⟩
      · rw [h1];exact ⟨.rt u,M1,rfl,.inr ⟨u,rfl,h2⟩⟩
theorem Ok.for {bd:T->Ev->Mem->Out Ev} {body:Ev->Mem->Out Fl} {α:Type} {r:α->T} (P:Nat->Ev->Mem->Prop) {xs:List α} {σ:Ev} {M:Mem}
    (h:P 0 σ M) (t:∀ (k:Nat) x σ M,xs[k]? = some x->P k σ M->Ok ((bd (r x) σ M).bind fun σ1 M1=>body σ1 M1) fun fl M'=>∃ σ',fl = .nx σ'/\P (k + 1) σ' M') :
    Ok (forL bd body (xs.map r) σ M) fun fl M'=>∃ σ',fl = .nx σ'/\P xs.length σ' M':=by
  refine (Ok.loop (R:=fun _ _=>False) P xs 0 h (fun k x σ M hk hp=>?_)).mono ?_
  · rw [Nat.zero_add] at hp
    refine (t k x σ M hk hp).mono ?_
    rintro fl M' ⟨σ',e,q⟩
    exact .inl ⟨σ',.inl e,by rw [Nat.zero_add];exact q⟩
  · rintro fl M' (⟨σ',e,q⟩ | ⟨t,_,f⟩)
    · exact ⟨σ',e,by rw [Nat.zero_add] at q;exact q⟩
    · exact f.elim
theorem Ok.comp {bd:T->Ev->Mem->Out Ev} {cond:Ev->Mem->Out Bool} {el:Ev->Mem->Out T} {α:Type} {r:α->T} (P:Nat->List T->Ev->Mem->Prop):∀ (xs:List α) {σ:Ev} {M:Mem} (i:Nat) (acc:List T),
    P i acc σ M->acc.length + xs.length<=sizeLine->(∀ (k:Nat) x σ M acc,xs[k]? = some x->P (i + k) acc σ M->Ok ((bd (r x) σ M).bind fun σ1 M1=>(cond σ1 M1).bind fun b M2=>if b = true then (el σ1 M2).bind fun t M3=>.ok (some t,σ1) M3 else .ok (none,σ1) M2) fun o M'=>P (i + k + 1) (match o.1 with | some t=>acc ++ [t] | none=>acc) o.2 M')->
    Ok (qq bd cond el (xs.map r) σ M acc) fun ts M'=>∃ σ',P (i + xs.length) ts σ' M'
  | [],σ,M,i,acc,h,_,_=>⟨acc,M,by simp [qq],σ,h⟩
  | x :: xs,σ,M,i,acc,h,hl,t=>by
    obtain ⟨o,M1,e1,h1⟩:=t 0 x σ M acc rfl h
    rw [List.length_cons] at hl
    rw [List.map_cons]
    unfold qq
    have go:∀ acc σ1 M1,acc.length + xs.length<=sizeLine->P (i + 1) acc σ1 M1->Ok (qq bd cond el (xs.map r) σ1 M1 acc) fun ts M'=>∃ σ',P (i + (x :: xs).length) ts σ' M':=fun acc σ1 M1 hl h1=>by
      have ih:=Ok.comp P xs (i + 1) acc (bd:=bd) (cond:=cond) (el:=el) h1 hl (fun k y σ M acc hk hp=>by
        have:=t (k + 1) y σ M acc (by simpa using hk) (by rw [show i + (k + 1) = i + 1 + k by omega];exact hp)
        rw [show i + (k + 1) + 1 = i + 1 + k + 1 by omega] at this
        exact this)
      rw [List.length_cons,show i + (xs.length + 1) = i + 1 + xs.length by omega]
      exact ih
    cases q:bd (r x) σ M with
    | bad=>rw [q] at e1;cases e1
    | exn C fs M'=>rw [q] at e1;cases e1
    | ok σ3 M3=>
      rw [q] at e1
      replace e1:((cond σ3 M3).bind fun b M2=>if b = true then (el σ3 M2).bind fun t M3=>.ok (some t,σ3) M3 else .ok (none,σ3) M2) = .ok o M1:=e1
      show Ok ((cond σ3 M3).bind _) _
      cases q2:cond σ3 M3 with
      | bad=>rw [q2] at e1;cases e1
      | exn C fs M'=>rw [q2] at e1;cases e1
      | ok b M4=>
        rw [q2] at e1
        cases b with
        | false=>
          replace e1:(Out.ok (none,σ3) M4:Out (Option T × Ev)) = .ok o M1:=e1
          cases e1
          exact go acc σ3 _ (by omega) h1
        | true=>
          replace e1:((el σ3 M4).bind fun t M3=>.ok (some t,σ3) M3) = .ok o M1:=e1
          show Ok ((el σ3 M4).bind _) _
          cases q3:el σ3 M4 with
          | bad=>rw [q3] at e1;cases e1
          | exn C fs M'=>rw [q3] at e1;cases e1
          | ok u M5=>
            rw [q3] at e1
            replace e1:(Out.ok (some u,σ3) M5:Out (Option T × Ev)) = .ok o M1:=e1
            cases e1
            show Ok (if acc.length < sizeLine then _ else _) _
            rw [if_pos (by omega)]
            exact go (acc ++ [u]) σ3 _ (by rw [List.length_append,List.length_cons,List.length_nil];omega) h1
end FT
namespace FT
open PySem L2
theorem Ok.whileN {c:Ev->Mem->Out Bool} {body:Ev->Mem->Out Fl} (P:Ev->Mem->Prop) (μ:Ev->Mem->Nat) {Q:Ev->Mem->Prop} {R:T->Mem->Prop}
    (t:∀ σ M,P σ M->Ok (c σ M) fun b M1=>(b = true/\Ok (body σ M1) fun fl M2=>(∃ σ',(fl = .nx σ'\/fl = .ct σ')/\P σ' M2/\μ σ' M2 < μ σ M)\/(∃ σ',fl = .bk σ'/\Q σ' M2)\/∃ t,fl = .rt t/\R t M2)\/(b = false/\Q σ M1)) :
    ∀ (n:Nat) (σ:Ev) (M:Mem),μ σ M < n->P σ M->Ok (whileN c body n σ M) fun fl M'=>(∃ σ',fl = .nx σ'/\Q σ' M')\/∃ t,fl = .rt t/\R t M'
  | 0,_,_,hn,_=>absurd hn (by omega)
  | n + 1,σ,M,hn,h=>by
    obtain ⟨b,M1,e,r⟩:=t σ M h
    unfold FT.whileN
    rw [e]
    rcases r with ⟨rfl,fl,M2,e2,r⟩ | ⟨rfl,q⟩
    · show Ok ((body σ M1).bind _) _
      rw [e2]
      rcases r with ⟨σ1,h1 | h1,h2,h3⟩ | ⟨σ1,h1,h2⟩ | ⟨u,h1,h2⟩
      · rw [h1];exact Ok.whileN P μ t n σ1 M2 (by omega) h2
      · rw [h1];exact Ok.whileN P μ t n σ1 M2 (by omega) h2
      · rw [h1];exact ⟨.nx σ1,M2,rfl,.inl ⟨σ1,rfl,h2⟩⟩
      · rw [h1];exact ⟨.rt u,M2,rfl,.inr ⟨u,rfl,h2⟩⟩
    · exact ⟨.nx σ,M1,rfl,.inl ⟨σ,rfl,q⟩⟩
theorem Ok.while {c:Ev->Mem->Out Bool} {body:Ev->Mem->Out Fl} {σ:Ev} {M:Mem} (P:Ev->Mem->Prop) (μ:Ev->Mem->Nat) {Q:Ev->Mem->Prop} {R:T->Mem->Prop} (h:P σ M)
    (t:∀ σ M,P σ M->Ok (c σ M) fun b M1=>(b = true/\Ok (body σ M1) fun fl M2=>(∃ σ',(fl = .nx σ'\/fl = .ct σ')/\P σ' M2/\μ σ' M2 < μ σ M)\/(∃ σ',fl = .bk σ'/\Q σ' M2)\/∃ t,fl = .rt t/\R t M2)\/(b = false/\Q σ M1)) :
    Ok (y9 c body σ M) fun fl M'=>(∃ σ',fl = .nx σ'/\Q σ' M')\/∃ t,fl = .rt t/\R t M':=by
  obtain ⟨fl,M',e,r⟩:=Ok.whileN P μ t (μ σ M + 1) σ M (by omega) h
  exact ⟨fl,M',zfP _ e (by simp),r⟩
end FT
namespace FT
open PySem L2
noncomputable def rgI (n:Nat):List Int:=(List.range n).map fun (k:Nat)=>(k:Int)
theorem zao (n:Nat):(rgI n).length = n:=by simp [rgI]
theorem zcz {n k:Nat} {x:Int} (h:(rgI n)[k]? = some x):k < n/\x = k:=by
  unfold rgI at h
  rw [List.getElem?_map] at h
  cases q:(List.range n)[k]? with
  | none=>rw [q] at h;cases h
  | some j=>
    rw [q] at h
    have hk:k < n:=by have:=(List.getElem?_eq_some_iff.mp q).1;simpa using this
    rw [List.getElem?_range hk] at q
    cases q
    exact ⟨hk,(Option.some.inj h).symm⟩
theorem zko (n:Nat):zdA 0 n = (rgI n).map .int:=by
  unfold zdA rgI
  rw [List.map_map]
  congr 1
  funext k
  simp
theorem zan {j:Int} {M:Mem} (h:-(2 ^ 62)<=j/\j < 2 ^ 62):zdB [.int j] M = .ok ((rgI j.toNat).map .int) M:=by rw [znh h,zko]
theorem zeT {n:Nat} {x:Int} (h:0<=x/\x < n):ixN n x = some x.toNat:=by
  unfold ixN
  rw [if_pos (by omega)]
  simp
  try omega
theorem Ok.filt {bd:T->Ev->Mem->Out Ev} {cond:Ev->Mem->Out Bool} {el:Ev->Mem->Out T} {M:Mem} {α:Type} {r:α->T} (I:Ev->Prop) (c:α->Bool) (f:α->T) {xs:List α} {σ:Ev} (h:I σ) (hl:xs.length<=1000000)
    (t:∀ x σ,x ∈ xs->I σ->∃ σ1,bd (r x) σ M = .ok σ1 M/\I σ1/\cond σ1 M = .ok (c x) M/\(c x = true->el σ1 M = .ok (f x) M)):qq bd cond el (xs.map r) σ M [] = .ok ((xs.filter c).map f) M:=by
  have key:∀ (xs:List α) (σ:Ev) (acc:List T),(∀ x σ,x ∈ xs->I σ->∃ σ1,bd (r x) σ M = .ok σ1 M/\I σ1/\cond σ1 M = .ok (c x) M/\(c x = true->el σ1 M = .ok (f x) M))->I σ->acc.length + xs.length<=sizeLine->qq bd cond el (xs.map r) σ M acc = .ok (acc ++ (xs.filter c).map f) M:=by
    intro xs
    induction xs with
    | nil=>intro σ acc _ _ _;simp [qq]
    | cons x xs ih=>
      intro σ acc t h hl
      obtain ⟨σ1,e1,h1,e2,e3⟩:=t x σ (.head _) h
      rw [List.length_cons] at hl
      rw [List.map_cons]
      unfold qq
      rw [e1]
      show ((cond σ1 M).bind _) = _
      rw [e2]
      cases hc:c x with
      | true=>
        have ih:=ih σ1 (acc ++ [f x]) (fun y σ hy=>t y σ (.tail _ hy)) h1 (by rw [List.length_append,List.length_cons,List.length_nil];omega)
        show ((el σ1 M).bind _) = _
        rw [e3 hc]
        show (if acc.length < sizeLine then qq bd cond el (xs.map r) σ1 M (acc ++ [f x]) else .bad) = _
        rw [if_pos (by omega),ih,List.filter_cons_of_pos hc]
        simp
      | false=>
        have ih:=ih σ1 acc (fun y σ hy=>t y σ (.tail _ hy)) h1 (by omega)
        show qq bd cond el (xs.map r) σ1 M acc = _
        rw [ih,List.filter_cons_of_neg (by rw [hc];exact Bool.false_ne_true)]
  have:=key xs σ [] t h (by rw [List.length_nil,Nat.zero_add];exact Nat.le_trans hl (by decide))
  rw [this,List.nil_append]
theorem Ok.mapc {bd:T->Ev->Mem->Out Ev} {el:Ev->Mem->Out T} {M:Mem} {α:Type} {r:α->T} (I:Ev->Prop) (f:α->T) {xs:List α} {σ:Ev} (h:I σ) (hl:xs.length<=1000000)
    (t:∀ x σ,x ∈ xs->I σ->∃ σ1,bd (r x) σ M = .ok σ1 M/\I σ1/\el σ1 M = .ok (f x) M):qq bd yy el (xs.map r) σ M [] = .ok (xs.map f) M:=by
  have:=Ok.filt (cond:=yy) I (fun _=>true) f h hl (fun x σ hx hs=>by
    obtain ⟨σ1,a,b,c⟩:=t x σ hx hs
    exact ⟨σ1,a,b,rfl,fun _=>c⟩)
  rw [this,List.filter_eq_self.mpr (fun _ _=>rfl)]
theorem zfS {a:Nat} {xs:List T} {M:Mem} (e:M[a]? = some (.lst xs)):yz (.ref a) M = some xs:=by
  unfold yz
  simp only [e]
end FT
namespace FT
open PySem L2
theorem Ok.loopG {G:Gd} {bd:T->Ev->Mem->Out Ev} {body:Ev->Mem->Out Fl} {α:Type} {r:α->T} (P:Nat->Ev->Mem->Prop) {R:T->Mem->Prop} (hG:∀ i σ M,P i σ M->qY G M):∀ (xs:List α) (i:Nat) {σ:Ev} {M:Mem},
    P i σ M->(∀ (k:Nat) x σ M,xs[k]? = some x->P (i + k) σ M->Ok ((bd (r x) σ M).bind fun σ1 M1=>body σ1 M1) fun fl M'=>(∃ σ',(fl = .nx σ'\/fl = .ct σ')/\P (i + k + 1) σ' M')\/(∃ σ',fl = .bk σ'/\P (i + xs.length) σ' M')\/∃ t,fl = .rt t/\R t M')->
    Ok (forG G bd body (xs.map r) σ M) fun fl M'=>(∃ σ',fl = .nx σ'/\P (i + xs.length) σ' M')\/∃ t,fl = .rt t/\R t M'
  | [],i,σ,M,h,_=>⟨.nx σ,M,by rw [List.map_nil];unfold forG;exact zbu (hG _ _ _ h),.inl ⟨σ,rfl,h⟩⟩
  | x :: xs,i,σ,M,h,t=>by
    obtain ⟨fl,M1,e1,h1⟩:=t 0 x σ M rfl h
    rw [List.map_cons]
    unfold forG
    rw [zbu (hG _ _ _ h)]
    cases q:bd (r x) σ M with
    | bad=>rw [q] at e1;cases e1
    | exn C fs M'=>rw [q] at e1;cases e1
    | ok σ3 M3=>
      rw [q] at e1
      replace e1:body σ3 M3 = .ok fl M1:=e1
      show Ok ((body σ3 M3).bind (yL (forG G bd body (xs.map r)))) _
      rw [e1]
      have go:∀ σ1,P (i + 1) σ1 M1->Ok (forG G bd body (xs.map r) σ1 M1) fun fl M'=>(∃ σ',fl = .nx σ'/\P (i + (x :: xs).length) σ' M')\/∃ t,fl = .rt t/\R t M':=fun σ1 h1=>by
        have ih:=Ok.loopG (R:=R) P hG xs (i + 1) (bd:=bd) (body:=body) h1 (fun k y σ M hk hp=>by
          have:=t (k + 1) y σ M (by simpa using hk) (by rw [show i + (k + 1) = i + 1 + k by omega];exact hp)
          rw [show i + (k + 1) + 1 = i + 1 + k + 1 by omega,List.length_cons,show i + (xs.length + 1) = i + 1 + xs.length by omega] at this
          exact this)
        rw [List.length_cons,show i + (xs.length + 1) = i + 1 + xs.length by omega]
        exact ih
      rcases h1 with ⟨σ1,h1 | h1,h2⟩ | ⟨σ1,h1,h2⟩ | ⟨u,h1,h2⟩
      · rw [h1];exact go σ1 h2
      · rw [h1];exact go σ1 h2
      · rw [h1];exact ⟨.nx σ1,M1,rfl,.inl ⟨σ1,rfl,h2⟩⟩
      · rw [h1];exact ⟨.rt u,M1,rfl,.inr ⟨u,rfl,h2⟩⟩
theorem Ok.forG {G:Gd} {bd:T->Ev->Mem->Out Ev} {body:Ev->Mem->Out Fl} {α:Type} {r:α->T} (P:Nat->Ev->Mem->Prop) {xs:List α} {σ:Ev} {M:Mem} (hG:∀ i σ M,P i σ M->qY G M)
    (h:P 0 σ M) (t:∀ (k:Nat) x σ M,xs[k]? = some x->P k σ M->Ok ((bd (r x) σ M).bind fun σ1 M1=>body σ1 M1) fun fl M'=>∃ σ',fl = .nx σ'/\P (k + 1) σ' M') :
    Ok (forG G bd body (xs.map r) σ M) fun fl M'=>∃ σ',fl = .nx σ'/\P xs.length σ' M':=by
  refine (Ok.loopG (R:=fun _ _=>False) P hG xs 0 h (fun k x σ M hk hp=>?_)).mono ?_
  · rw [Nat.zero_add] at hp
    refine (t k x σ M hk hp).mono ?_
    rintro fl M' ⟨σ',e,q⟩
    exact .inl ⟨σ',.inl e,by rw [Nat.zero_add];exact q⟩
  · rintro fl M' (⟨σ',e,q⟩ | ⟨t,_,f⟩)
    · exact ⟨σ',e,by rw [Nat.zero_add] at q;exact q⟩
    · exact f.elim
end FT
namespace My
open PySem L2 FT
noncomputable def top (i:Nat):Stmt:=PySem.Challenge.pw_tryweir_k17_least_sums_told.main.body.getD i (.Pass ⟨0,0,0,0⟩)
noncomputable abbrev zeu:Stmt:=top 21
noncomputable abbrev zet:Stmt:=top 22
noncomputable abbrev zes:Stmt:=top 23
noncomputable abbrev zcW:Stmt:=top 24
noncomputable abbrev zcx:Stmt:=top 25
noncomputable abbrev zfm:Stmt:=top 26
noncomputable abbrev zbC:Stmt:=top 7
noncomputable abbrev zbD:Stmt:=inClass (top 5) 0
noncomputable abbrev zbg:Stmt:=top 6
noncomputable abbrev zds:Stmt:=top 8
noncomputable abbrev zbB:Stmt:=top 9
noncomputable abbrev zew:Stmt:=top 1
noncomputable abbrev zer:Stmt:=top 2
noncomputable abbrev zcw:Stmt:=top 15
noncomputable abbrev zb0:Stmt:=top 16
noncomputable abbrev zcY:Stmt:=top 10
noncomputable abbrev zb2:Stmt:=top 11
noncomputable abbrev zcZ:Stmt:=top 12
noncomputable abbrev zdy:Stmt:=top 13
noncomputable abbrev zbe:Stmt:=top 14
noncomputable abbrev zbZ:Stmt:=top 17
noncomputable abbrev zb1:Stmt:=top 18
noncomputable abbrev zfl:Stmt:=top 31
noncomputable abbrev zbf:Stmt:=top 32
noncomputable abbrev zdv:Stmt:=top 33
noncomputable abbrev zev:Stmt:=top 20
noncomputable abbrev zdu:Stmt:=top 34
noncomputable abbrev zdt:Stmt:=top 27
noncomputable abbrev zdw:Stmt:=top 28
noncomputable abbrev zcX:Stmt:=top 29
noncomputable abbrev zdx:Stmt:=top 30
noncomputable abbrev ziq:Stmt:=top 35
structure Txt (K:PySem.W.Frag) (mg:Str->Option Value) (k_Corner:Addr):Prop where
  cls_Corner:Cls K k_Corner
  na_Corner_bottom:NoAttr K k_Corner "bottom"
  na_Corner_chosen:NoAttr K k_Corner "chosen"
  na_Corner_lines:NoAttr K k_Corner "lines"
  na_Corner_point:NoAttr K k_Corner "point"
  n_max:mg "max" = none
  n_range:mg "range" = none
  n_tuple:mg "tuple" = none
  n_enumerate:mg "enumerate" = none
  n_sum:mg "sum" = none
  n_len:mg "len" = none
  n_abs:mg "abs" = none
  n_zip:mg "zip" = none
  n_list:mg "list" = none
  n_isinstance:mg "isinstance" = none
  n_int:mg "int" = none
  n_bool:mg "bool" = none
  n_min:mg "min" = none
  c_AHEAD:∃ t,mg "AHEAD" = some (.int 2 t)
theorem boot_max:bootBuiltins "max" = some (.builtin "max"):=by decide +kernel
theorem boot_range:bootBuiltins "range" = some (.type "range"):=by decide +kernel
theorem boot_tuple:bootBuiltins "tuple" = some (.type "tuple"):=by decide +kernel
theorem boot_sum:bootBuiltins "sum" = some (.builtin "sum"):=by decide +kernel
theorem boot_len:bootBuiltins "len" = some (.builtin "len"):=by decide +kernel
theorem boot_abs:bootBuiltins "abs" = some (.builtin "abs"):=by decide +kernel
theorem boot_list:bootBuiltins "list" = some (.type "list"):=by decide +kernel
theorem boot_isinstance:bootBuiltins "isinstance" = some (.builtin "isinstance"):=by decide +kernel
theorem boot_int:bootBuiltins "int" = some (.type "int"):=by decide +kernel
theorem boot_bool:bootBuiltins "bool" = some (.type "bool"):=by decide +kernel
theorem boot_min:bootBuiltins "min" = some (.builtin "min"):=by decide +kernel
end My
theorem FT.nc_l {k:PySem.NameKind} {P:Prop} (e:(k == .cell || k == .free) = false) (h:k = .cell\/k = .free):P:=by
  rcases h with rfl | rfl
  · exact absurd e (by decide)
  · exact absurd e (by decide)
open PySem L2 FT in
local macro_rules | `(tactic| bv_omega) => `(tactic| exact ⟨rfl, rfl, by decide +kernel, rfl, by decide +kernel, by first | exact (fun _ _ h => h) | exact zgS (by repeat (first | exact True.intro | refine ⟨rfl, ?_⟩)), fun _ => zoe (by repeat (first | exact True.intro | (refine ⟨?_, ?_⟩; first | exact (fun _ => ⟨_, rfl⟩) | exact nc_l rfl | exact (fun h => h.elim (fun h => nomatch h) (fun h => nomatch h))))), by repeat (first | exact List.forall_mem_nil _ | refine List.forall_mem_cons.mpr ⟨⟨rfl, rfl, by first | exact .inl rfl | exact .inr rfl⟩, ?_⟩)⟩)
namespace My
open PySem L2 FT
noncomputable def zg9 (k_Corner:Addr):Ev->Mem->Out Fl:=
  (zo (eTk (zP (zb (yd (call2 ziw) (zb (eC (.int 0)) (zb (eOp zcR (qa 0) (eOp zc1 (eC (.int 10)) (eC (.int 18)))) qc))) (zb (eOp zaF (qa 0) (eOp zc1 (eC (.int 10)) (eC (.int 18)))) (zb (eC (.int 0)) qc))))))
noncomputable def zb9 (k_Corner:Addr):List FT.T->Mem->Out FT.T:=qk 1 1 (zg9 k_Corner)
section
variable {P:Program} {w:World} {K:PySem.W.Frag} {mg:Str->Option Value} {base:Heap} {k_Corner:Addr}
theorem zjh:FnScope ["cell"] ["cell"] (ze zeu):=⟨rfl,rfl,rfl,by decide +kernel,rfl,by decide +kernel,by decide +kernel⟩
theorem zcd (D:Df K mg "_law_left" zeu ["cell"]) (T:Txt K mg k_Corner) :CalT P w K mg base 1 "_law_left" ["cell"] (zb9 k_Corner):=
  yq D zjh rfl rfl (fun f cdv A outer s H E hr=>(zd (zi (zdo (yG (ya (yo (zj9 rfl) rfl T.n_max boot_max (ya zc (ya (yf zbM (za (pv 0)) (yf zbj zc zc)) yb))) (ya (yf zap (za (pv 0)) (yf zbj zc zc)) (ya zc yb))))))))
end
end My
namespace My
open PySem L2 FT
noncomputable def zg8 (k_Corner:Addr):Ev->Mem->Out Fl:=
  (qe (sIf (zp (eOp gtI (eOp ixT (qa 0) (eC (.int 0))) (eC (.int 0)))) (qe (zj 2 (eOp zaF (eOp ixT (qa 0) (eC (.int 0))) (qa 1)))
  (qe (zaE (eOp zbE (eOp ixT (qa 0) (eC (.int 0))) (qa 1)) (zdb zcv (qa 0) (eC (.int 0))))
  (zo (qa 2)))) yC)
  (qe (zaE (eOp zz (eOp ixT (qa 0) (eC (.int 2))) (eC (.int 1))) (zdb zcv (qa 0) (eC (.int 2))))
  (qe (zj 3 (eOp zaF (eOp zz (eOp ixT (qa 0) (eC (.int 1))) (eOp qm (eC (.int 7919)) (eOp ixT (qa 0) (eC (.int 2))))) (eC (.int 1000000007))))
  (qe (zj 4 (eOp zaF (eOp qm (eOp zz (qa 3) (eC (.int 11))) (eOp zz (qa 3) (eC (.int 48271)))) (eC (.int 998244353))))
  (zo (eOp zaF (eOp zbE (eOp zaF (eOp qm (qa 4) (qa 4)) (eC (.int 2147483647))) (eC (.int 8))) (qa 1)))))))
noncomputable def zt (k_Corner:Addr):List FT.T->Mem->Out FT.T:=qk 2 5 (zg8 k_Corner)
section
variable {P:Program} {w:World} {K:PySem.W.Frag} {mg:Str->Option Value} {base:Heap} {k_Corner:Addr}
theorem zcl:FnScope ["pool","base","digit","mixed","stir"] ["pool","base"] (ze zet):=⟨rfl,rfl,rfl,by decide +kernel,rfl,by decide +kernel,by decide +kernel⟩
theorem yp (D:Df K mg "_law_next" zet ["pool","base"]) (T:Txt K mg k_Corner) :CalT P w K mg base 1 "_law_next" ["pool","base"] (zt k_Corner):=
  yq D zcl rfl rfl (fun f cdv A outer s H E hr=>(yc (zv (zn zcB (yk qr (za (pv 0)) zc (fun _ _=>rfl)) zc (qo _)) (yc (zg (i:=2) zcl.nd rfl (Or.inl rfl) (yf zap (yk qr (za (pv 0)) zc (fun _ _=>rfl)) (za (pv 1))))
    (yc (yP (yf zcC (yk qr (za (pv 0)) zc (fun _ _=>rfl)) (za (pv 1))) (zbK (za (pv 0)) zc zdY))
    (zd (zi (za (pv 2)))))) yn)
    (yc (yP (yf yx (yk qr (za (pv 0)) zc (fun _ _=>rfl)) zc) (zbK (za (pv 0)) zc zdY))
    (yc (zg (i:=3) zcl.nd rfl (Or.inl rfl) (yf zap (yf yx (yk qr (za (pv 0)) zc (fun _ _=>rfl)) (yf yr zc (yk qr (za (pv 0)) zc (fun _ _=>rfl)))) zc))
    (yc (zg (i:=4) zcl.nd rfl (Or.inl rfl) (yf zap (yf yr (yf yx (za (pv 3)) zc) (yf yx (za (pv 3)) zc)) zc))
    (zd (zi (yf zap (yf zcC (yf zap (yf yr (za (pv 4)) (za (pv 4))) zc) zc) (za (pv 1))))))))))
end
end My
namespace My
open PySem L2 FT
noncomputable def zf8 (k_Corner:Addr):Ev->Mem->Out Fl:=
  (zj 2 (eOp zz (eOp qm (qa 2) (eOp zc1 (eC (.int 2)) (eC (.int 28)))) (yd (zt k_Corner) (zb (qa 0) (zb (eOp zc1 (eC (.int 2)) (eC (.int 28))) qc)))))
noncomputable def zg7 (k_Corner:Addr):Ev->Mem->Out Fl:=
  (qe (sIf (zp (eOp ltI (qa 1) (eOp zc1 (eC (.int 10)) (eC (.int 8))))) (zo (yd (zt k_Corner) (zb (qa 0) (zb (qa 1) qc)))) yC)
  (qe (zj 2 (eC (.int 0)))
  (qe (zb3 (yE (zb (eC (.int 4)) qc)) (ye 3) (zf8 k_Corner))
  (zo (eOp zaF (qa 2) (qa 1))))))
noncomputable def zZ (k_Corner:Addr):List FT.T->Mem->Out FT.T:=qk 2 4 (zg7 k_Corner)
section
variable {P:Program} {w:World} {K:PySem.W.Frag} {mg:Str->Option Value} {base:Heap} {k_Corner:Addr}
theorem zck:FnScope ["pool","base","found","k"] ["pool","base"] (ze zes):=⟨rfl,rfl,rfl,by decide +kernel,rfl,by decide +kernel,by decide +kernel⟩
theorem qS (D:Df K mg "_law_wide" zes ["pool","base"]) (T:Txt K mg k_Corner) (yp:CalT P w K mg base 1 "_law_next" ["pool","base"] (zt k_Corner)):CalT P w K mg base 2 "_law_wide" ["pool","base"] (zZ k_Corner):=
  yq D zck rfl rfl (fun f cdv A outer s H E hr=>(yc (zv (zn zaY (za (pv 1)) (yf zbj zc zc) (qo _)) (zd (zi (yg yp (hr.mono (by decide)) rfl (ya (za (pv 0)) (ya (za (pv 1)) yb))))) yn)
    (yc (zg (i:=2) zck.nd rfl (Or.inl rfl) zc)
    (yc (zam PassesOwn.never rfl (yF rfl T.n_range (ya zc yb)) (zf (qf (i:=3) zck.nd rfl (by first | exact Or.inl rfl | exact Or.inr rfl))) (zd (zg (i:=2) zck.nd rfl (Or.inl rfl) (yf yx (yf yr (za (pv 2)) (yf zbj zc zc)) (yg yp (hr.mono (by decide)) rfl (ya (za (pv 0)) (ya (yf zbj zc zc) yb)))))))
    (zd (zi (yf zap (za (pv 2)) (za (pv 1)))))))))
end
end My
namespace My
open PySem L2 FT
noncomputable def zeZ (k_Corner:Addr):Ev->Mem->Out Fl:=
  (qe (sIf (zp (eOp eqA (qa 2) (eC (.int 0)))) (zo (eOp zcR (yd (zZ k_Corner) (zb (qa 0) (zb (eOp zz (eOp qm (eC (.int 2)) (qa 1)) (eC (.int 1))) qc))) (qa 1))) yC)
  (zo (eOp zcR (yd (zZ k_Corner) (zb (qa 0) (zb (eOp zz (qa 1) (eC (.int 1))) qc))) (eOp qm (eOp ixT (eFz (zP (zb (eC (.int 0)) (zb (eC (.int 0)) (zb (eC (.int 0)) (zb (eC (.int 1)) qc)))))) (yd (zt k_Corner) (zb (qa 0) (zb (eC (.int 4)) qc)))) (yd (zZ k_Corner) (zb (qa 0) (zb (eOp zz (qa 1) (eC (.int 1))) qc)))))))
noncomputable def zas (k_Corner:Addr):List FT.T->Mem->Out FT.T:=qk 3 3 (zeZ k_Corner)
section
variable {P:Program} {w:World} {K:PySem.W.Frag} {mg:Str->Option Value} {base:Heap} {k_Corner:Addr}
theorem zhv:FnScope ["pool","size","sort"] ["pool","size","sort"] (ze zcW):=⟨rfl,rfl,rfl,by decide +kernel,rfl,by decide +kernel,by decide +kernel⟩
theorem zau (D:Df K mg "_law_number" zcW ["pool","size","sort"]) (T:Txt K mg k_Corner) (qS:CalT P w K mg base 2 "_law_wide" ["pool","base"] (zZ k_Corner)) (yp:CalT P w K mg base 1 "_law_next" ["pool","base"] (zt k_Corner)):CalT P w K mg base 3 "_law_number" ["pool","size","sort"] (zas k_Corner):=
  yq D zhv rfl rfl (fun f cdv A outer s H E hr=>(yc (zv (zn (zbs hr.units) (za (pv 2)) zc (qo _)) (zd (zi (yf zbM (yg qS (hr.mono (by decide)) rfl (ya (za (pv 0)) (ya (yf yx (yf yr zc (za (pv 1))) zc) yb))) (za (pv 1))))) yn)
    (zd (zi (yf zbM (yg qS (hr.mono (by decide)) rfl (ya (za (pv 0)) (ya (yf yx (za (pv 1)) zc) yb))) (yf yr (yk qr (qw (yG (ya zc (ya zc (ya zc (ya zc yb)))))) (yg yp (hr.mono (by decide)) rfl (ya (za (pv 0)) (ya zc yb))) (fun _ _=>rfl)) (yg qS (hr.mono (by decide)) rfl (ya (za (pv 0)) (ya (yf yx (za (pv 1)) zc) yb)))))))))
end
end My
namespace My
open PySem L2 FT
noncomputable def zdS (k_Corner:Addr):Ev->Mem->Out Fl:=
  (qe (zj 7 (yd (qt z9) (zb (eFz (qD (yE (zb (qa 1) qc)) (ye 0) yy (yd (zas k_Corner) (zb (qa 1) (zb (qa 2) (zb (qa 3) qc)))) ["k"] [("pool",0),("bound",3),("sort",4)])) qc)))
  (zex (zc8 zaM (eUn zac (qa 5)) (zb (yD (zb (qa 7) (zb (yd (zas k_Corner) (zb (qa 0) (zb (qa 3) (zb (yd (zt k_Corner) (zb (qa 0) (zb (eC (.int 2)) qc))) qc)))) qc))) qc))))
noncomputable def zel (k_Corner:Addr):Ev->Mem->Out Fl:=
  (qe (zj 3 (eOp ixT (eFz (zP (zb (eC (.int 2)) (zb (eC (.int 4)) (zb (eC (.int 10)) (zb (eOp zc1 (eC (.int 10)) (eC (.int 30))) qc)))))) (yd (zt k_Corner) (zb (qa 0) (zb (eC (.int 4)) qc)))))
  (qe (zj 4 (yd (zt k_Corner) (zb (qa 0) (zb (eC (.int 2)) qc))))
  (qe (zj 5 (eTk (zP qc)))
  (qe (zb3 (yE (zb (qa 2) qc)) (ye 6) (zdS k_Corner))
  (zo (qa 5))))))
noncomputable def zbp (k_Corner:Addr):List FT.T->Mem->Out FT.T:=qk 3 8 (zel k_Corner)
section
variable {P:Program} {w:World} {K:PySem.W.Frag} {mg:Str->Option Value} {base:Heap} {k_Corner:Addr}
theorem qU:FnScope ["pool","size","many","bound","sort","found","turn","numbers"] ["pool","size","many"] (ze zcx):=⟨rfl,rfl,rfl,by decide +kernel,rfl,by decide +kernel,by decide +kernel⟩
theorem zay (D:Df K mg "_law_demands" zcx ["pool","size","many"]) (T:Txt K mg k_Corner) (yp:CalT P w K mg base 1 "_law_next" ["pool","base"] (zt k_Corner)) (zau:CalT P w K mg base 3 "_law_number" ["pool","size","sort"] (zas k_Corner)):CalT P w K mg base 4 "_law_demands" ["pool","size","many"] (zbp k_Corner):=
  yq D qU rfl rfl (fun f cdv A outer s H E hr=>(yc (zg (i:=3) qU.nd rfl (Or.inr rfl) (yk qr (qw (yG (ya zc (ya zc (ya zc (ya (yf zbj zc zc) yb)))))) (yg yp (hr.mono (by decide)) rfl (ya (za (pv 0)) (ya zc yb))) (fun _ _=>rfl)))
    (yc (zg (i:=4) qU.nd rfl (Or.inr rfl) (yg yp (hr.mono (by decide)) rfl (ya (za (pv 0)) (ya zc yb))))
    (yc (zg (i:=5) qU.nd rfl (Or.inl rfl) (zdo (yG yb)))
    (yc (zam PassesOwn.never rfl (yF rfl T.n_range (ya (za (pv 2)) yb)) (zf (qf (i:=6) qU.nd rfl (by first | exact Or.inl rfl | exact Or.inr rfl))) (yc (zg (i:=7) qU.nd rfl (Or.inl rfl) (qX zax rfl T.n_tuple boot_tuple (ya (qw (zaD (tgs:=["k"]) (caps:=[("pool",0),("bound",3),("sort",4)]) (yF rfl T.n_range (ya (za (pv 1)) yb)) (by bv_omega) (fun _ _ _=>(zf (qf (i:=0) (show (["k","pool","bound","sort"]:List Str).Nodup by decide +kernel) rfl (by first | exact Or.inl rfl | exact Or.inr rfl)))) (fun _ _ _=>qA) (fun _ _ _=>(yg zau (hr.mono (by decide)) rfl (ya (za (pv 1)) (ya (za (pv 2)) (ya (za (pv 3)) yb))))))) yb)))
    (zd (zdV (zdW (zgh PySem.F.plainAttrs_list PySem.F.slot_list_append PySem.F.type_list_append zaQ (WE.pe (za (pv 5))) (WA.pe (ya (qp (ya (za (pv 7)) (ya (yg zau (hr.mono (by decide)) rfl (ya (za (pv 0)) (ya (za (pv 3)) (ya (yg yp (hr.mono (by decide)) rfl (ya (za (pv 0)) (ya zc yb))) yb)))) yb))) yb))))))))
    (zd (zi (za (pv 5)))))))))
end
end My
namespace My
open PySem L2 FT
noncomputable def zh0 (k_Corner:Addr):Ev->Mem->Out Fl:=
  (qe (zj 2 (eOp ixT (eFz (zP (zb (eC (.int 1)) (zb (eC (.int 3)) (zb (eC (.int 9)) (zb (eOp zc1 (eC (.int 10)) (eC (.int 30))) qc)))))) (yd (zt k_Corner) (zb (qa 0) (zb (eC (.int 4)) qc)))))
  (zo (yd (qt z9) (zb (eFz (qD (yE (zb (qa 1) qc)) (ye 0) yy (yd (zZ k_Corner) (zb (qa 1) (zb (eOp zz (qa 2) (eC (.int 1))) qc))) ["k"] [("pool",0),("bound",2)])) qc))))
noncomputable def zd7 (k_Corner:Addr):List FT.T->Mem->Out FT.T:=qk 2 3 (zh0 k_Corner)
section
variable {P:Program} {w:World} {K:PySem.W.Frag} {mg:Str->Option Value} {base:Heap} {k_Corner:Addr}
theorem zgF:FnScope ["pool","size","bound"] ["pool","size"] (ze zfm):=⟨rfl,rfl,rfl,by decide +kernel,rfl,by decide +kernel,by decide +kernel⟩
theorem zcK (D:Df K mg "_law_aim" zfm ["pool","size"]) (T:Txt K mg k_Corner) (yp:CalT P w K mg base 1 "_law_next" ["pool","base"] (zt k_Corner)) (qS:CalT P w K mg base 2 "_law_wide" ["pool","base"] (zZ k_Corner)):CalT P w K mg base 3 "_law_aim" ["pool","size"] (zd7 k_Corner):=
  yq D zgF rfl rfl (fun f cdv A outer s H E hr=>(yc (zg (i:=2) zgF.nd rfl (Or.inr rfl) (yk qr (qw (yG (ya zc (ya zc (ya zc (ya (yf zbj zc zc) yb)))))) (yg yp (hr.mono (by decide)) rfl (ya (za (pv 0)) (ya zc yb))) (fun _ _=>rfl)))
    (zd (zi (qX zax rfl T.n_tuple boot_tuple (ya (qw (zaD (tgs:=["k"]) (caps:=[("pool",0),("bound",2)]) (yF rfl T.n_range (ya (za (pv 1)) yb)) (by bv_omega) (fun _ _ _=>(zf (qf (i:=0) (show (["k","pool","bound"]:List Str).Nodup by decide +kernel) rfl (by first | exact Or.inl rfl | exact Or.inr rfl)))) (fun _ _ _=>qA) (fun _ _ _=>(yg qS (hr.mono (by decide)) rfl (ya (za (pv 1)) (ya (yf yx (za (pv 2)) zc) yb)))))) yb))))))
end
end My
namespace My
open PySem L2 FT
noncomputable def zcN (k_Corner:Addr):Ev->Mem->Out Fl:=
  (qe (zj 5 (eFz (qv (zeX (qa 3)) (yB 2 (yi (ye 0) (yi (ye 1) qB))) (zp (eOp neA (qa 1) (eC (.int 0)))) (yD (zb (qa 0) (zb (qa 1) qc))) ["unknown","number"] [])))
  (zex (zc8 zaM (eUn zac (qa 2)) (zb (yD (zb (qa 5) (zb (qa 4) (zb (yd (qt sumK) (zb (eFz (qD (zb5 (qa 5)) (yB 2 (yi (ye 0) (yi (ye 1) qB))) yy (eOp qm (qa 1) (qa 1)) ["unknown","number"] [])) qc)) qc)))) qc))))
noncomputable def zcL (k_Corner:Addr):Ev->Mem->Out Fl:=
  (zex (zc8 zaM (eUn zac (qa 2)) (zb (yD (zb (eFz (zP (zb (yD (zb (qa 6) (zb (eC (.int 1)) qc))) qc))) (zb (eC (.int 0)) (zb (eC (.int 1)) qc)))) qc)))
noncomputable def zdg (k_Corner:Addr):Ev->Mem->Out Fl:=
  (qe (zj 2 (eTk (zP qc)))
  (qe (zT (zeV (qa 0)) (yB 2 (yi (ye 3) (yi (ye 4) qB))) (zcN k_Corner))
  (qe (zb3 (yE (zb (qa 1) qc)) (ye 6) (zcL k_Corner))
  (zo (qa 2)))))
noncomputable def zaB (k_Corner:Addr):List FT.T->Mem->Out FT.T:=qk 2 7 (zdg k_Corner)
section
variable {P:Program} {w:World} {K:PySem.W.Frag} {mg:Str->Option Value} {base:Heap} {k_Corner:Addr}
theorem yN:FnScope ["demands","size","every","numbers","least","parts","unknown"] ["demands","size"] (ze zbC):=⟨rfl,rfl,rfl,by decide +kernel,rfl,by decide +kernel,by decide +kernel⟩
theorem z3 (D:Df K mg "all_demands" zbC ["demands","size"]) (T:Txt K mg k_Corner) :CalT P w K mg base 1 "all_demands" ["demands","size"] (zaB k_Corner):=
  yq D yN rfl rfl (fun f cdv A outer s H E hr=>(yc (zg (i:=2) yN.nd rfl (Or.inl rfl) (zdo (yG yb)))
    (yc (zaC PassesOwn.never rfl (zkj (za (pv 0))) (yA (zF rfl (WGs.pe (yh (yj (WG.pe (zf (qf (i:=3) yN.nd rfl (by first | exact Or.inl rfl | exact Or.inr rfl)))) (WGs.pe (yh (yj (WG.pe (zf (qf (i:=4) yN.nd rfl (by first | exact Or.inl rfl | exact Or.inr rfl)))) (WGs.pe zw))))))))) (yc (zde (i0:=5) (tgs:=["unknown","number"]) (caps:=[]) (zi4 rfl T.n_enumerate (za (pv 3))) (by bv_omega) (fun _ _ _=>(yA (zF rfl (WGs.pe (yh (yj (WG.pe (zf (qf (i:=0) (show (["unknown","number"]:List Str).Nodup by decide +kernel) rfl (by first | exact Or.inl rfl | exact Or.inr rfl)))) (WGs.pe (yh (yj (WG.pe (zf (qf (i:=1) (show (["unknown","number"]:List Str).Nodup by decide +kernel) rfl (by first | exact Or.inl rfl | exact Or.inr rfl)))) (WGs.pe zw)))))))))) (fun _ _ _=>(zki (zn (zaw hr.units) (za (pv 1)) zc (qo _)))) (fun _ _ _=>(qp (ya (za (pv 0)) (ya (za (pv 1)) yb)))) yN.nd rfl (Or.inl rfl))
    (zd (zdV (zdW (zgh PySem.F.plainAttrs_list PySem.F.slot_list_append PySem.F.type_list_append zaQ (WE.pe (za (pv 2))) (WA.pe (ya (qp (ya (za (pv 5)) (ya (za (pv 4)) (ya (yo (zdP rfl) rfl T.n_sum boot_sum (ya (qw (zaD (tgs:=["unknown","number"]) (caps:=[]) (zaO (za (pv 5))) (by bv_omega) (fun _ _ _=>(yA (zF rfl (WGs.pe (yh (yj (WG.pe (zf (qf (i:=0) (show (["unknown","number"]:List Str).Nodup by decide +kernel) rfl (by first | exact Or.inl rfl | exact Or.inr rfl)))) (WGs.pe (yh (yj (WG.pe (zf (qf (i:=1) (show (["unknown","number"]:List Str).Nodup by decide +kernel) rfl (by first | exact Or.inl rfl | exact Or.inr rfl)))) (WGs.pe zw)))))))))) (fun _ _ _=>qA) (fun _ _ _=>(yf yr (za (pv 1)) (za (pv 1)))))) yb)) yb)))) yb))))))))
    (yc (zam PassesOwn.never rfl (yF rfl T.n_range (ya (za (pv 1)) yb)) (zf (qf (i:=6) yN.nd rfl (by first | exact Or.inl rfl | exact Or.inr rfl))) (zd (zdV (zdW (zgh PySem.F.plainAttrs_list PySem.F.slot_list_append PySem.F.type_list_append zaQ (WE.pe (za (pv 2))) (WA.pe (ya (qp (ya (qw (yG (ya (qp (ya (za (pv 6)) (ya zc yb))) yb))) (ya zc (ya zc yb)))) yb)))))))
    (zd (zi (za (pv 2))))))))
end
end My
namespace My
open PySem L2 FT
noncomputable def zdh (k_Corner:Addr):Ev->Mem->Out Fl:=
  (qe (zc0 [k_Corner] "chosen" (qa 0) (qa 1))
  (qe (zc0 [k_Corner] "point" (qa 0) (qa 2))
  (qe (zc0 [k_Corner] "lines" (qa 0) (qa 3))
  (zc0 [k_Corner] "bottom" (qa 0) (qa 4)))))
noncomputable def qF (k_Corner:Addr):List FT.T->Mem->Out FT.T:=qk 5 5 (zdh k_Corner)
section
variable {P:Program} {w:World} {K:PySem.W.Frag} {mg:Str->Option Value} {base:Heap} {k_Corner:Addr}
theorem zfk:FnScope ["self","chosen","point","lines","bottom"] ["self","chosen","point","lines","bottom"] (ze zbD):=⟨rfl,rfl,rfl,by decide +kernel,rfl,by decide +kernel,by decide +kernel⟩
theorem zab (D:Di K mg "Corner" "Corner.__init__" k_Corner zbD ["self","chosen","point","lines","bottom"]) (T:Txt K mg k_Corner) :MakT P w K mg base 1 "Corner" k_Corner ["self","chosen","point","lines","bottom"] (qF k_Corner):=
  zlG D zfk rfl rfl (fun f cdv A outer s H E hr=>(yc (zdU (zr ⟨T.cls_Corner,T.na_Corner_chosen⟩ yu) (za (pv 0)) (za (pv 1)))
    (yc (zdU (zr ⟨T.cls_Corner,T.na_Corner_point⟩ yu) (za (pv 0)) (za (pv 2)))
    (yc (zdU (zr ⟨T.cls_Corner,T.na_Corner_lines⟩ yu) (za (pv 0)) (za (pv 3)))
    (zd (zdU (zr ⟨T.cls_Corner,T.na_Corner_bottom⟩ yu) (za (pv 0)) (za (pv 4))))))))
end
end My
namespace My
open PySem L2 FT
noncomputable def zcs (k_Corner:Addr):Ev->Mem->Out Fl:=
  (qe (zj 5 (eTk (qD (yE (zb (qa 2) qc)) (ye 0) yy (eC (.int 0)) ["unknown"] [])))
  (qe (zaE (eC (.int 1)) (zdb zcv (qa 5) (qa 4)))
  (zex (zc8 zaM (eUn zac (qa 3)) (zb (eOp zz (eFz (zP (zb (eOp ixT (qa 1) (qa 4)) (zb (eC (.int 1)) qc)))) (qa 5)) qc)))))
noncomputable def zcH (k_Corner:Addr):Ev->Mem->Out Fl:=
  (qe (zj 2 (yd (qt zM) (zb (qa 1) qc)))
  (qe (zj 3 (eTk (zP qc)))
  (qe (zb3 (yE (zb (qa 2) qc)) (ye 4) (zcs k_Corner))
  (qe (zj 6 (eFz (qD (yE (zb (qa 2) qc)) (ye 0) yy (eOp zz (qa 1) (qa 0)) ["own"] [("demand_count",0)])))
  (zo (zea k_Corner (qF k_Corner) (zb (qa 6) (zb (eFz (qD (yE (zb (qa 2) qc)) (ye 0) yy (eC (.int 0)) ["own"] [])) (zb (qa 3) (zb (eC (.int 1)) qc))))))))))
noncomputable def zat (k_Corner:Addr):List FT.T->Mem->Out FT.T:=qk 2 7 (zcH k_Corner)
section
variable {P:Program} {w:World} {K:PySem.W.Frag} {mg:Str->Option Value} {base:Heap} {k_Corner:Addr}
theorem zL:FnScope ["demand_count","aim","size","lines","own","way","chosen"] ["demand_count","aim"] (ze zbg):=⟨rfl,rfl,rfl,by decide +kernel,rfl,by decide +kernel,by decide +kernel⟩
theorem yW (D:Df K mg "first_corner" zbg ["demand_count","aim"]) (T:Txt K mg k_Corner) (zab:MakT P w K mg base 1 "Corner" k_Corner ["self","chosen","point","lines","bottom"] (qF k_Corner)):CalT P w K mg base 3 "first_corner" ["demand_count","aim"] (zat k_Corner):=
  yq D zL rfl rfl (fun f cdv A outer s H E hr=>(yc (zg (i:=2) zL.nd rfl (Or.inl rfl) (yo yI rfl T.n_len boot_len (ya (za (pv 1)) yb)))
    (yc (zg (i:=3) zL.nd rfl (Or.inl rfl) (zdo (yG yb)))
    (yc (zam PassesOwn.never rfl (yF rfl T.n_range (ya (za (pv 2)) yb)) (zf (qf (i:=4) zL.nd rfl (by first | exact Or.inl rfl | exact Or.inr rfl))) (yc (zbS (i0:=5) (tgs:=["unknown"]) (caps:=[]) (yF rfl T.n_range (ya (za (pv 2)) yb)) (by bv_omega) (fun _ _ _=>(zf (qf (i:=0) (show (["unknown"]:List Str).Nodup by decide +kernel) rfl (by first | exact Or.inl rfl | exact Or.inr rfl)))) (fun _ _ _=>qA) (fun _ _ _=>zc) zL.nd rfl (Or.inl rfl))
    (yc (yP zc (zbK (za (pv 5)) (za (pv 4)) zdY))
    (zd (zdV (zdW (zgh PySem.F.plainAttrs_list PySem.F.slot_list_append PySem.F.type_list_append zaQ (WE.pe (za (pv 3))) (WA.pe (ya (yf yx (qw (yG (ya (yk qr (za (pv 1)) (za (pv 4)) (fun _ _=>rfl)) (ya zc yb)))) (za (pv 5))) yb)))))))))
    (yc (zgw (i0:=6) (tgs:=["own"]) (caps:=[("demand_count",0)]) (yF rfl T.n_range (ya (za (pv 2)) yb)) (by bv_omega) (fun _ _ _=>(zf (qf (i:=0) (show (["own","demand_count"]:List Str).Nodup by decide +kernel) rfl (by first | exact Or.inl rfl | exact Or.inr rfl)))) (fun _ _ _=>qA) (fun _ _ _=>(yf yx (za (pv 1)) (za (pv 0)))) zL.nd rfl (Or.inl rfl))
    (zd (zi (zgy zab (hr.mono (by decide)) rfl (ya (za (pv 6)) (ya (qw (zaD (tgs:=["own"]) (caps:=[]) (yF rfl T.n_range (ya (za (pv 2)) yb)) (by bv_omega) (fun _ _ _=>(zf (qf (i:=0) (show (["own"]:List Str).Nodup by decide +kernel) rfl (by first | exact Or.inl rfl | exact Or.inr rfl)))) (fun _ _ _=>qA) (fun _ _ _=>zc))) (ya (za (pv 3)) (ya zc yb))))))))))))
end
end My
namespace My
open PySem L2 FT
noncomputable def zfV (k_Corner:Addr):Ev->Mem->Out Fl:=
  (qe (zj 2 (qC [k_Corner] "point" (qa 1)))
  (zo (eOp zcR (eOp qm (eOp ixT (qa 0) (eC (.int 1))) (qC [k_Corner] "bottom" (qa 1))) (yd (qt sumK) (zb (eFz (qD (zb5 (eOp ixT (qa 0) (eC (.int 0)))) (yB 2 (yi (ye 0) (yi (ye 1) qB))) yy (eOp qm (qa 1) (eOp ixT (qa 2) (qa 0))) ["unknown","number"] [("point",2)])) qc)))))
noncomputable def zad (k_Corner:Addr):List FT.T->Mem->Out FT.T:=qk 2 3 (zfV k_Corner)
section
variable {P:Program} {w:World} {K:PySem.W.Frag} {mg:Str->Option Value} {base:Heap} {k_Corner:Addr}
theorem zeO:FnScope ["demand","corner","point"] ["demand","corner"] (ze zds):=⟨rfl,rfl,rfl,by decide +kernel,rfl,by decide +kernel,by decide +kernel⟩
theorem yX (D:Df K mg "lack_of" zds ["demand","corner"]) (T:Txt K mg k_Corner) :CalT P w K mg base 1 "lack_of" ["demand","corner"] (zad k_Corner):=
  yq D zeO rfl rfl (fun f cdv A outer s H E hr=>(yc (zg (i:=2) zeO.nd rfl (Or.inr rfl) (zE (zr ⟨T.cls_Corner,T.na_Corner_point⟩ yu) (za (pv 1))))
    (zd (zi (yf zbM (yf yr (yk qr (za (pv 0)) zc (fun _ _=>rfl)) (zE (zr ⟨T.cls_Corner,T.na_Corner_bottom⟩ yu) (za (pv 1)))) (yo (zdP rfl) rfl T.n_sum boot_sum (ya (qw (zaD (tgs:=["unknown","number"]) (caps:=[("point",2)]) (zaO (yk qr (za (pv 0)) zc (fun _ _=>rfl))) (by bv_omega) (fun _ _ _=>(yA (zF rfl (WGs.pe (yh (yj (WG.pe (zf (qf (i:=0) (show (["unknown","number","point"]:List Str).Nodup by decide +kernel) rfl (by first | exact Or.inl rfl | exact Or.inr rfl)))) (WGs.pe (yh (yj (WG.pe (zf (qf (i:=1) (show (["unknown","number","point"]:List Str).Nodup by decide +kernel) rfl (by first | exact Or.inl rfl | exact Or.inr rfl)))) (WGs.pe zw)))))))))) (fun _ _ _=>qA) (fun _ _ _=>(yf yr (za (pv 1)) (yk qr (za (pv 2)) (za (pv 0)) (fun _ _=>rfl)))))) yb)))))))
end
end My
namespace My
open PySem L2 FT
noncomputable def zcM (k_Corner:Addr):Ev->Mem->Out Fl:=
  (qe (zj 6 (yd (zad k_Corner) (zb (qa 5) (zb (qa 1) qc))))
  (sIf (zdX (zp (eOp gtI (qa 6) (eC (.int 0)))) (zbd (zp (eOp isN (qa 2) (eC .non))) (zp (eOp gtI (eOp qm (eOp qm (qa 6) (qa 6)) (eOp ixT (eOp ixT (qa 0) (qa 2)) (eC (.int 2)))) (eOp qm (eOp qm (qa 3) (qa 3)) (eOp ixT (qa 5) (eC (.int 2)))))))) (qe (zj 2 (qa 4))
  (zj 3 (qa 6))) yC))
noncomputable def zdf (k_Corner:Addr):Ev->Mem->Out Fl:=
  (qe (zj 2 (eC .non))
  (qe (zj 3 (eC (.int 0)))
  (qe (zT (zaZ (qa 0)) (yB 2 (yi (ye 4) (yi (ye 5) qB))) (zcM k_Corner))
  (zo (qa 2)))))
noncomputable def y2 (k_Corner:Addr):List FT.T->Mem->Out FT.T:=qk 2 7 (zdf k_Corner)
section
variable {P:Program} {w:World} {K:PySem.W.Frag} {mg:Str->Option Value} {base:Heap} {k_Corner:Addr}
theorem zH:FnScope ["every","corner","worst","worst_lack","number","demand","lack"] ["every","corner"] (ze zbB):=⟨rfl,rfl,rfl,by decide +kernel,rfl,by decide +kernel,by decide +kernel⟩
theorem yQ (D:Df K mg "most_broken" zbB ["every","corner"]) (T:Txt K mg k_Corner) (yX:CalT P w K mg base 1 "lack_of" ["demand","corner"] (zad k_Corner)):CalT P w K mg base 2 "most_broken" ["every","corner"] (y2 k_Corner):=
  yq D zH rfl rfl (fun f cdv A outer s H E hr=>(yc (zg (i:=2) zH.nd rfl (Or.inl rfl) zU)
    (yc (zg (i:=3) zH.nd rfl (Or.inl rfl) zc)
    (yc (zaC PassesOwn.never rfl (zdn rfl T.n_enumerate (za (pv 0))) (yA (zF rfl (WGs.pe (yh (yj (WG.pe (zf (qf (i:=4) zH.nd rfl (by first | exact Or.inl rfl | exact Or.inr rfl)))) (WGs.pe (yh (yj (WG.pe (zf (qf (i:=5) zH.nd rfl (by first | exact Or.inl rfl | exact Or.inr rfl)))) (WGs.pe zw))))))))) (yc (zg (i:=6) zH.nd rfl (Or.inl rfl) (yg yX (hr.mono (by decide)) rfl (ya (za (pv 5)) (ya (za (pv 1)) yb))))
    (zd (zv (WW.gt (zhE (zn zcB (za (pv 6)) zc (qo _)) (zgv (WW.gt (zbq (zn zd1 (za (pv 2)) zU (qo _)) (zaN (zn zcB (yf yr (yf yr (za (pv 6)) (za (pv 6))) (yk qr (yk qr (za (pv 0)) (za (pv 2)) (fun _ _=>rfl)) zc (fun _ _=>rfl))) (yf yr (yf yr (za (pv 3)) (za (pv 3))) (yk qr (za (pv 5)) zc (fun _ _=>rfl))) (qo _)))))))) (yc (zg (i:=2) zH.nd rfl (Or.inl rfl) (za (pv 4)))
    (zd (zg (i:=3) zH.nd rfl (Or.inl rfl) (za (pv 6))))) yn))))
    (zd (zi (za (pv 2))))))))
end
end My
namespace My
open PySem L2 FT
noncomputable def zf9 (k_Corner:Addr):Ev->Mem->Out Fl:=
  (qe (zj 4 (eOp zaF (qa 2) (qa 3)))
  (qe (zj 2 (qa 3))
  (zj 3 (qa 4))))
noncomputable def zf7 (k_Corner:Addr):Ev->Mem->Out Bool:=
  (zp (eOp neA (qa 3) (eC (.int 0))))
noncomputable def zhb (k_Corner:Addr):Ev->Mem->Out Fl:=
  (qe (zj 2 (yd (qt zfG) (zb (qa 0) qc)))
  (qe (zj 3 (yd (qt zfG) (zb (qa 1) qc)))
  (qe (y9 (zf7 k_Corner) (zf9 k_Corner))
  (zo (qa 2)))))
noncomputable def zc5 (k_Corner:Addr):List FT.T->Mem->Out FT.T:=qk 2 5 (zhb k_Corner)
section
variable {P:Program} {w:World} {K:PySem.W.Frag} {mg:Str->Option Value} {base:Heap} {k_Corner:Addr}
theorem zaP:FnScope ["one","other","upper","lower","rest"] ["one","other"] (ze zew):=⟨rfl,rfl,rfl,by decide +kernel,rfl,by decide +kernel,by decide +kernel⟩
theorem zcf (D:Df K mg "common" zew ["one","other"]) (T:Txt K mg k_Corner) :CalT P w K mg base 1 "common" ["one","other"] (zc5 k_Corner):=
  yq D zaP rfl rfl (fun f cdv A outer s H E hr=>(yc (zg (i:=2) zaP.nd rfl (Or.inl rfl) (yo zdQ rfl T.n_abs boot_abs (ya (za (pv 0)) yb)))
    (yc (zg (i:=3) zaP.nd rfl (Or.inl rfl) (yo zdQ rfl T.n_abs boot_abs (ya (za (pv 1)) yb)))
    (yc (zdm PassesOwn.never (zn (zaw hr.units) (za (pv 3)) zc (qo _)) (yc (zg (i:=4) zaP.nd rfl (Or.inl rfl) (yf zap (za (pv 2)) (za (pv 3))))
    (yc (zg (i:=2) zaP.nd rfl (Or.inl rfl) (za (pv 3)))
    (zd (zg (i:=3) zaP.nd rfl (Or.inl rfl) (za (pv 4)))))))
    (zd (zi (za (pv 2))))))))
end
end My
namespace My
open PySem L2 FT
noncomputable def zg6 (k_Corner:Addr):Ev->Mem->Out Fl:=
  (qe (zj 2 (yd (zc5 k_Corner) (zb (qa 0) (zb (qa 1) qc))))
  (qe (sIf (zp (eOp ltI (qa 1) (eC (.int 0)))) (zj 2 (eUn zaa (qa 2))) yC)
  (zo (yD (zb (eOp zbE (qa 0) (qa 2)) (zb (eOp zbE (qa 1) (qa 2)) qc))))))
noncomputable def zaJ (k_Corner:Addr):List FT.T->Mem->Out FT.T:=qk 2 3 (zg6 k_Corner)
section
variable {P:Program} {w:World} {K:PySem.W.Frag} {mg:Str->Option Value} {base:Heap} {k_Corner:Addr}
theorem zdr:FnScope ["top","bottom","divisor"] ["top","bottom"] (ze zer):=⟨rfl,rfl,rfl,by decide +kernel,rfl,by decide +kernel,by decide +kernel⟩
theorem zai (D:Df K mg "lowest" zer ["top","bottom"]) (T:Txt K mg k_Corner) (zcf:CalT P w K mg base 1 "common" ["one","other"] (zc5 k_Corner)):CalT P w K mg base 2 "lowest" ["top","bottom"] (zaJ k_Corner):=
  yq D zdr rfl rfl (fun f cdv A outer s H E hr=>(yc (zg (i:=2) zdr.nd rfl (Or.inl rfl) (yg zcf (hr.mono (by decide)) rfl (ya (za (pv 0)) (ya (za (pv 1)) yb))))
    (yc (zv (zn zaY (za (pv 1)) zc (qo _)) (zd (zg (i:=2) zdr.nd rfl (Or.inl rfl) (qZ qP (za (pv 2))))) yn)
    (zd (zi (qp (ya (yf zcC (za (pv 0)) (za (pv 2))) (ya (yf zcC (za (pv 1)) (za (pv 2))) yb))))))))
end
end My
namespace My
open PySem L2 FT
noncomputable def zdR (k_Corner:Addr):Ev->Mem->Out Fl:=
  (sIf (zp (eOp ltI (qa 5) (qa 0))) (zaE (yd (zaJ k_Corner) (zb (qa 6) (zb (qa 3) qc))) (zdb zcv (qa 4) (qa 5))) yC)
noncomputable def zek (k_Corner:Addr):Ev->Mem->Out Fl:=
  (qe (zj 4 (eTk (qD (yE (zb (qa 0) qc)) (ye 0) yy (yD (zb (eC (.int 0)) (zb (eC (.int 1)) qc))) ["number"] [])))
  (qe (zT (FT.zaA (zb (qa 1) (zb (qa 2) qc))) (yB 2 (yi (ye 5) (yi (ye 6) qB))) (zdR k_Corner))
  (zo (yd (qt z9) (zb (qa 4) qc)))))
noncomputable def z5 (k_Corner:Addr):List FT.T->Mem->Out FT.T:=qk 4 7 (zek k_Corner)
section
variable {P:Program} {w:World} {K:PySem.W.Frag} {mg:Str->Option Value} {base:Heap} {k_Corner:Addr}
theorem zaU:FnScope ["demand_count","chosen","tops","bottom","shares","number","top"] ["demand_count","chosen","tops","bottom"] (ze zcw):=⟨rfl,rfl,rfl,by decide +kernel,rfl,by decide +kernel,by decide +kernel⟩
theorem qM (D:Df K mg "shares_of" zcw ["demand_count","chosen","tops","bottom"]) (T:Txt K mg k_Corner) (zai:CalT P w K mg base 2 "lowest" ["top","bottom"] (zaJ k_Corner)):CalT P w K mg base 3 "shares_of" ["demand_count","chosen","tops","bottom"] (z5 k_Corner):=
  yq D zaU rfl rfl (fun f cdv A outer s H E hr=>(yc (zbS (i0:=4) (tgs:=["number"]) (caps:=[]) (yF rfl T.n_range (ya (za (pv 0)) yb)) (by bv_omega) (fun _ _ _=>(zf (qf (i:=0) (show (["number"]:List Str).Nodup by decide +kernel) rfl (by first | exact Or.inl rfl | exact Or.inr rfl)))) (fun _ _ _=>qA) (fun _ _ _=>(qp (ya zc (ya zc yb)))) zaU.nd rfl (Or.inl rfl))
    (yc (zaC PassesOwn.never rfl (zcP rfl T.n_zip (ya (za (pv 1)) (ya (za (pv 2)) yb))) (yA (zF rfl (WGs.pe (yh (yj (WG.pe (zf (qf (i:=5) zaU.nd rfl (by first | exact Or.inl rfl | exact Or.inr rfl)))) (WGs.pe (yh (yj (WG.pe (zf (qf (i:=6) zaU.nd rfl (by first | exact Or.inl rfl | exact Or.inr rfl)))) (WGs.pe zw))))))))) (zd (zv (zn zaY (za (pv 5)) (za (pv 0)) (qo _)) (zd (yP (yg zai (hr.mono (by decide)) rfl (ya (za (pv 6)) (ya (za (pv 3)) yb))) (zbK (za (pv 4)) (za (pv 5)) zdY))) yn)))
    (zd (zi (qX zax rfl T.n_tuple boot_tuple (ya (za (pv 4)) yb)))))))
end
end My
namespace My
open PySem L2 FT
noncomputable def zdI (k_Corner:Addr):Ev->Mem->Out Fl:=
  (qe (zj 2 (eFz (qv (y8 (qC [k_Corner] "point" (qa 1))) (ye 0) yy (yd (zaJ k_Corner) (zb (qa 0) (zb (qC [k_Corner] "bottom" (qa 1)) qc))) ["top"] [("corner",1)])))
  (qe (zj 3 (yd (z5 k_Corner) (zb (qa 0) (zb (qC [k_Corner] "chosen" (qa 1)) (zb (eFz (qv (y8 (qC [k_Corner] "lines" (qa 1))) (ye 0) yy (eOp ixT (qa 0) (eC (.int 0))) ["line"] [])) (zb (qC [k_Corner] "bottom" (qa 1)) qc))))))
  (zo (yD (zb (eC (.str "least")) (zb (yd (qt z9) (zb (qa 2) qc)) (zb (qa 3) qc)))))))
noncomputable def za1 (k_Corner:Addr):List FT.T->Mem->Out FT.T:=qk 2 4 (zdI k_Corner)
section
variable {P:Program} {w:World} {K:PySem.W.Frag} {mg:Str->Option Value} {base:Heap} {k_Corner:Addr}
theorem zbA:FnScope ["demand_count","corner","point","shares"] ["demand_count","corner"] (ze zb0):=⟨rfl,rfl,rfl,by decide +kernel,rfl,by decide +kernel,by decide +kernel⟩
theorem zaj (D:Df K mg "least_told" zb0 ["demand_count","corner"]) (T:Txt K mg k_Corner) (qM:CalT P w K mg base 3 "shares_of" ["demand_count","chosen","tops","bottom"] (z5 k_Corner)) (zai:CalT P w K mg base 2 "lowest" ["top","bottom"] (zaJ k_Corner)):CalT P w K mg base 4 "least_told" ["demand_count","corner"] (za1 k_Corner):=
  yq D zbA rfl rfl (fun f cdv A outer s H E hr=>(yc (zde (i0:=2) (tgs:=["top"]) (caps:=[("corner",1)]) (zbc (zE (zr ⟨T.cls_Corner,T.na_Corner_point⟩ yu) (za (pv 1)))) (by bv_omega) (fun _ _ _=>(zf (qf (i:=0) (show (["top","corner"]:List Str).Nodup by decide +kernel) rfl (by first | exact Or.inl rfl | exact Or.inr rfl)))) (fun _ _ _=>qA) (fun _ _ _=>(yg zai (hr.mono (by decide)) rfl (ya (za (pv 0)) (ya (zE (zr ⟨T.cls_Corner,T.na_Corner_bottom⟩ yu) (za (pv 1))) yb)))) zbA.nd rfl (Or.inl rfl))
    (yc (zg (i:=3) zbA.nd rfl (Or.inl rfl) (yg qM (hr.mono (by decide)) rfl (ya (za (pv 0)) (ya (zE (zr ⟨T.cls_Corner,T.na_Corner_chosen⟩ yu) (za (pv 1))) (ya (qw (zbr (tgs:=["line"]) (caps:=[]) (zbc (zE (zr ⟨T.cls_Corner,T.na_Corner_lines⟩ yu) (za (pv 1)))) (by bv_omega) (fun _ _ _=>(zf (qf (i:=0) (show (["line"]:List Str).Nodup by decide +kernel) rfl (by first | exact Or.inl rfl | exact Or.inr rfl)))) (fun _ _ _=>qA) (fun _ _ _=>(yk qr (za (pv 0)) zc (fun _ _=>rfl))))) (ya (zE (zr ⟨T.cls_Corner,T.na_Corner_bottom⟩ yu) (za (pv 1))) yb))))))
    (zd (zi (qp (ya z4 (ya (qX zax rfl T.n_tuple boot_tuple (ya (za (pv 2)) yb)) (ya (za (pv 3)) yb)))))))))
end
end My
namespace My
open PySem L2 FT
noncomputable def ze1 (k_Corner:Addr):Ev->Mem->Out Fl:=
  (qe (zj 2 (eOp ixT (qa 1) (eC (.int 0))))
  (zo (eFz (qv (y8 (qC [k_Corner] "lines" (qa 0))) (ye 0) yy (yd (qt sumK) (zb (eFz (qD (zb5 (qa 1)) (yB 2 (yi (ye 0) (yi (ye 1) qB))) yy (eOp qm (qa 1) (eOp ixT (qa 2) (eOp zz (eC (.int 2)) (qa 0)))) ["unknown","number"] [("line",0)])) qc)) ["line"] [("parts",2)]))))
noncomputable def za4 (k_Corner:Addr):List FT.T->Mem->Out FT.T:=qk 2 3 (ze1 k_Corner)
section
variable {P:Program} {w:World} {K:PySem.W.Frag} {mg:Str->Option Value} {base:Heap} {k_Corner:Addr}
theorem zeg:FnScope ["corner","demand","parts"] ["corner","demand"] (ze zcY):=⟨rfl,rfl,rfl,by decide +kernel,rfl,by decide +kernel,by decide +kernel⟩
theorem za9 (D:Df K mg "gains_of" zcY ["corner","demand"]) (T:Txt K mg k_Corner) :CalT P w K mg base 1 "gains_of" ["corner","demand"] (za4 k_Corner):=
  yq D zeg rfl rfl (fun f cdv A outer s H E hr=>(yc (zg (i:=2) zeg.nd rfl (Or.inr rfl) (yk qr (za (pv 1)) zc (fun _ _=>rfl)))
    (zd (zi (qw (zbr (tgs:=["line"]) (caps:=[("parts",2)]) (zbc (zE (zr ⟨T.cls_Corner,T.na_Corner_lines⟩ yu) (za (pv 0)))) (by bv_omega) (fun _ _ _=>(zf (qf (i:=0) (show (["line","parts"]:List Str).Nodup by decide +kernel) rfl (by first | exact Or.inl rfl | exact Or.inr rfl)))) (fun _ _ _=>qA) (fun _ _ _=>(yo (zdP rfl) rfl T.n_sum boot_sum (ya (qw (zaD (tgs:=["unknown","number"]) (caps:=[("line",0)]) (zaO (za (pv 1))) (by bv_omega) (fun _ _ _=>(yA (zF rfl (WGs.pe (yh (yj (WG.pe (zf (qf (i:=0) (show (["unknown","number","line"]:List Str).Nodup by decide +kernel) rfl (by first | exact Or.inl rfl | exact Or.inr rfl)))) (WGs.pe (yh (yj (WG.pe (zf (qf (i:=1) (show (["unknown","number","line"]:List Str).Nodup by decide +kernel) rfl (by first | exact Or.inl rfl | exact Or.inr rfl)))) (WGs.pe zw)))))))))) (fun _ _ _=>qA) (fun _ _ _=>(yf yr (za (pv 1)) (yk qr (za (pv 2)) (yf yx (zfL rfl T.c_AHEAD) (za (pv 0))) (fun _ _=>rfl)))))) yb)))))))))
end
end My
namespace My
open PySem L2 FT
noncomputable def zdk (k_Corner:Addr):Ev->Mem->Out Fl:=
  (qe (zj 6 (eOp zcR (eOp qm (qa 4) (qa 3)) (eOp qm (qa 5) (qa 1))))
  (sIf (zp (eOp neA (qa 6) (eC (.int 0)))) (zo (eOp ltI (qa 6) (eC (.int 0)))) yC))
noncomputable def zdL (k_Corner:Addr):Ev->Mem->Out Fl:=
  (qe (zT (FT.zaA (zb (qa 0) (zb (qa 2) qc))) (yB 2 (yi (ye 4) (yi (ye 5) qB))) (zdk k_Corner))
  (zo (eC (.bl false))))
noncomputable def za3 (k_Corner:Addr):List FT.T->Mem->Out FT.T:=qk 4 7 (zdL k_Corner)
section
variable {P:Program} {w:World} {K:PySem.W.Frag} {mg:Str->Option Value} {base:Heap} {k_Corner:Addr}
theorem zaz:FnScope ["line","gain","other","other_gain","number","other_number","difference"] ["line","gain","other","other_gain"] (ze zb2):=⟨rfl,rfl,rfl,by decide +kernel,rfl,by decide +kernel,by decide +kernel⟩
theorem zak (D:Df K mg "is_cheaper" zb2 ["line","gain","other","other_gain"]) (T:Txt K mg k_Corner) :CalT P w K mg base 1 "is_cheaper" ["line","gain","other","other_gain"] (za3 k_Corner):=
  yq D zaz rfl rfl (fun f cdv A outer s H E hr=>(yc (zaC PassesOwn.never rfl (zcP rfl T.n_zip (ya (za (pv 0)) (ya (za (pv 2)) yb))) (yA (zF rfl (WGs.pe (yh (yj (WG.pe (zf (qf (i:=4) zaz.nd rfl (by first | exact Or.inl rfl | exact Or.inr rfl)))) (WGs.pe (yh (yj (WG.pe (zf (qf (i:=5) zaz.nd rfl (by first | exact Or.inl rfl | exact Or.inr rfl)))) (WGs.pe zw))))))))) (yc (zg (i:=6) zaz.nd rfl (Or.inl rfl) (yf zbM (yf yr (za (pv 4)) (za (pv 3))) (yf yr (za (pv 5)) (za (pv 1)))))
    (zd (zv (zn (zaw hr.units) (za (pv 6)) zc (qo _)) (zd (zi (zcy zaY (za (pv 6)) zc (qo _)))) yn))))
    (zd (zi zR))))
end
end My
namespace My
open PySem L2 FT
noncomputable def zen (k_Corner:Addr):Ev->Mem->Out Fl:=
  (sIf (zdX (zp (eOp gtI (qa 4) (eC (.int 0)))) (zbd (zp (eOp isN (qa 2) (eC .non))) (zp (yd (za3 k_Corner) (zb (eOp ixT (qa 0) (qa 3)) (zb (qa 4) (zb (eOp ixT (qa 0) (qa 2)) (zb (eOp ixT (qa 1) (qa 2)) qc)))))))) (zj 2 (qa 3)) yC)
noncomputable def ze2 (k_Corner:Addr):Ev->Mem->Out Fl:=
  (qe (zj 2 (eC .non))
  (qe (zT (zaZ (qa 1)) (yB 2 (yi (ye 3) (yi (ye 4) qB))) (zen k_Corner))
  (zo (qa 2))))
noncomputable def zbJ (k_Corner:Addr):List FT.T->Mem->Out FT.T:=qk 2 5 (ze2 k_Corner)
section
variable {P:Program} {w:World} {K:PySem.W.Frag} {mg:Str->Option Value} {base:Heap} {k_Corner:Addr}
theorem zav:FnScope ["lines","gains","best","place","gain"] ["lines","gains"] (ze zcZ):=⟨rfl,rfl,rfl,by decide +kernel,rfl,by decide +kernel,by decide +kernel⟩
theorem zba (D:Df K mg "cheapest" zcZ ["lines","gains"]) (T:Txt K mg k_Corner) (zak:CalT P w K mg base 1 "is_cheaper" ["line","gain","other","other_gain"] (za3 k_Corner)):CalT P w K mg base 2 "cheapest" ["lines","gains"] (zbJ k_Corner):=
  yq D zav rfl rfl (fun f cdv A outer s H E hr=>(yc (zg (i:=2) zav.nd rfl (Or.inl rfl) zU)
    (yc (zaC PassesOwn.never rfl (zdn rfl T.n_enumerate (za (pv 1))) (yA (zF rfl (WGs.pe (yh (yj (WG.pe (zf (qf (i:=3) zav.nd rfl (by first | exact Or.inl rfl | exact Or.inr rfl)))) (WGs.pe (yh (yj (WG.pe (zf (qf (i:=4) zav.nd rfl (by first | exact Or.inl rfl | exact Or.inr rfl)))) (WGs.pe zw))))))))) (zd (zv (WW.gt (zhE (zn zcB (za (pv 4)) zc (qo _)) (zgv (WW.gt (zbq (zn zd1 (za (pv 2)) zU (qo _)) (zaN (zal (yg zak (hr.mono (by decide)) rfl (ya (yk qr (za (pv 0)) (za (pv 3)) (fun _ _=>rfl)) (ya (za (pv 4)) (ya (yk qr (za (pv 0)) (za (pv 2)) (fun _ _=>rfl)) (ya (yk qr (za (pv 1)) (za (pv 2)) (fun _ _=>rfl)) yb)))))))))))) (zd (zg (i:=2) zav.nd rfl (Or.inl rfl) (za (pv 3)))) yn)))
    (zd (zi (za (pv 2)))))))
end
end My
namespace My
open PySem L2 FT
noncomputable def zf0 (k_Corner:Addr):Ev->Mem->Out Fl:=
  (zo (eFz (qv (FT.zaA (zb (qa 0) (zb (qa 2) qc))) (yB 2 (yi (ye 0) (yi (ye 1) qB))) yy (eOp zbE (eOp zcR (eOp qm (qa 2) (qa 0)) (eOp qm (qa 3) (qa 1))) (qa 4)) ["number","other"] [("factor",1),("other_factor",3),("bottom",4)])))
noncomputable def zX (k_Corner:Addr):List FT.T->Mem->Out FT.T:=qk 5 5 (zf0 k_Corner)
section
variable {P:Program} {w:World} {K:PySem.W.Frag} {mg:Str->Option Value} {base:Heap} {k_Corner:Addr}
theorem zio:FnScope ["numbers","factor","others","other_factor","bottom"] ["numbers","factor","others","other_factor","bottom"] (ze zdy):=⟨rfl,rfl,rfl,by decide +kernel,rfl,by decide +kernel,by decide +kernel⟩
theorem zaS (D:Df K mg "blended" zdy ["numbers","factor","others","other_factor","bottom"]) (T:Txt K mg k_Corner) :CalT P w K mg base 1 "blended" ["numbers","factor","others","other_factor","bottom"] (zX k_Corner):=
  yq D zio rfl rfl (fun f cdv A outer s H E hr=>(zd (zi (qw (zbr (tgs:=["number","other"]) (caps:=[("factor",1),("other_factor",3),("bottom",4)]) (zcP rfl T.n_zip (ya (za (pv 0)) (ya (za (pv 2)) yb))) (by bv_omega) (fun _ _ _=>(yA (zF rfl (WGs.pe (yh (yj (WG.pe (zf (qf (i:=0) (show (["number","other","factor","other_factor","bottom"]:List Str).Nodup by decide +kernel) rfl (by first | exact Or.inl rfl | exact Or.inr rfl)))) (WGs.pe (yh (yj (WG.pe (zf (qf (i:=1) (show (["number","other","factor","other_factor","bottom"]:List Str).Nodup by decide +kernel) rfl (by first | exact Or.inl rfl | exact Or.inr rfl)))) (WGs.pe zw)))))))))) (fun _ _ _=>qA) (fun _ _ _=>(yf zcC (yf zbM (yf yr (za (pv 2)) (za (pv 0))) (yf yr (za (pv 3)) (za (pv 1)))) (za (pv 4)))))))))
end
end My
namespace My
open PySem L2 FT
noncomputable def zcF (k_Corner:Addr):Ev->Mem->Out Fl:=
  (qe (zj 5 (eOp ixT (qa 1) (qa 2)))
  (qe (zj 6 (eOp ixT (qC [k_Corner] "lines" (qa 0)) (qa 2)))
  (qe (zj 7 (eTk (qv (zaZ (qC [k_Corner] "lines" (qa 0))) (yB 2 (yi (ye 0) (yi (ye 1) qB))) yy (yd (zX k_Corner) (zb (qa 1) (zb (qa 2) (zb (qa 3) (zb (eOp ixT (qa 4) (qa 0)) (zb (qC [k_Corner] "bottom" (qa 5)) qc)))))) ["at","other"] [("gain",5),("line",6),("gains",1),("corner",0)])))
  (qe (zaE (qa 6) (zdb zcv (qa 7) (qa 2)))
  (qe (zj 8 (yd (zX k_Corner) (zb (qC [k_Corner] "point" (qa 0)) (zb (qa 5) (zb (eSl (qa 6) (zd2 (eC (.int 2))) zgi) (zb (eUn zaa (qa 4)) (zb (qC [k_Corner] "bottom" (qa 0)) qc)))))))
  (qe (zj 9 (eTk (zbI z7 (zb (qC [k_Corner] "chosen" (qa 0)) qc))))
  (qe (zaE (qa 3) (zdb zcv (qa 9) (qa 2)))
  (zo (zea k_Corner (qF k_Corner) (zb (qa 9) (zb (qa 8) (zb (qa 7) (zb (qa 5) qc)))))))))))))
noncomputable def yV (k_Corner:Addr):List FT.T->Mem->Out FT.T:=qk 5 10 (zcF k_Corner)
section
variable {P:Program} {w:World} {K:PySem.W.Frag} {mg:Str->Option Value} {base:Heap} {k_Corner:Addr}
theorem qK:FnScope ["corner","gains","place","number","lack","gain","line","lines","point","chosen"] ["corner","gains","place","number","lack"] (ze zbe):=⟨rfl,rfl,rfl,by decide +kernel,rfl,by decide +kernel,by decide +kernel⟩
theorem zW (D:Df K mg "moved_corner" zbe ["corner","gains","place","number","lack"]) (T:Txt K mg k_Corner) (zaS:CalT P w K mg base 1 "blended" ["numbers","factor","others","other_factor","bottom"] (zX k_Corner)) (zab:MakT P w K mg base 1 "Corner" k_Corner ["self","chosen","point","lines","bottom"] (qF k_Corner)):CalT P w K mg base 3 "moved_corner" ["corner","gains","place","number","lack"] (yV k_Corner):=
  yq D qK rfl rfl (fun f cdv A outer s H E hr=>(yc (zg (i:=5) qK.nd rfl (Or.inr rfl) (yk qr (za (pv 1)) (za (pv 2)) (fun _ _=>rfl)))
    (yc (zg (i:=6) qK.nd rfl (Or.inr rfl) (yk qr (zE (zr ⟨T.cls_Corner,T.na_Corner_lines⟩ yu) (za (pv 0))) (za (pv 2)) (fun _ _=>rfl)))
    (yc (zga (i0:=7) (tgs:=["at","other"]) (caps:=[("gain",5),("line",6),("gains",1),("corner",0)]) (zdn rfl T.n_enumerate (zE (zr ⟨T.cls_Corner,T.na_Corner_lines⟩ yu) (za (pv 0)))) (by bv_omega) (fun _ _ _=>(yA (zF rfl (WGs.pe (yh (yj (WG.pe (zf (qf (i:=0) (show (["at","other","gain","line","gains","corner"]:List Str).Nodup by decide +kernel) rfl (by first | exact Or.inl rfl | exact Or.inr rfl)))) (WGs.pe (yh (yj (WG.pe (zf (qf (i:=1) (show (["at","other","gain","line","gains","corner"]:List Str).Nodup by decide +kernel) rfl (by first | exact Or.inl rfl | exact Or.inr rfl)))) (WGs.pe zw)))))))))) (fun _ _ _=>qA) (fun _ _ _=>(yg zaS (hr.mono (by decide)) rfl (ya (za (pv 1)) (ya (za (pv 2)) (ya (za (pv 3)) (ya (yk qr (za (pv 4)) (za (pv 0)) (fun _ _=>rfl)) (ya (zE (zr ⟨T.cls_Corner,T.na_Corner_bottom⟩ yu) (za (pv 5))) yb))))))) qK.nd rfl (Or.inl rfl))
    (yc (yP (za (pv 6)) (zbK (za (pv 7)) (za (pv 2)) zdY))
    (yc (zg (i:=8) qK.nd rfl (Or.inl rfl) (yg zaS (hr.mono (by decide)) rfl (ya (zE (zr ⟨T.cls_Corner,T.na_Corner_point⟩ yu) (za (pv 0))) (ya (za (pv 5)) (ya (zi5 (za (pv 6)) (zcO (zfL rfl T.c_AHEAD)) zgx) (ya (qZ qP (za (pv 4))) (ya (zE (zr ⟨T.cls_Corner,T.na_Corner_bottom⟩ yu) (za (pv 0))) yb)))))))
    (yc (zg (i:=9) qK.nd rfl (Or.inl rfl) (zdo (zaT za7 rfl T.n_list boot_list (ya (zE (zr ⟨T.cls_Corner,T.na_Corner_chosen⟩ yu) (za (pv 0))) yb))))
    (yc (yP (za (pv 3)) (zbK (za (pv 9)) (za (pv 2)) zdY))
    (zd (zi (zgy zab (hr.mono (by decide)) rfl (ya (za (pv 9)) (ya (za (pv 8)) (ya (za (pv 7)) (ya (za (pv 5)) yb)))))))))))))))
end
end My
namespace My
open PySem L2 FT
noncomputable def zdH (k_Corner:Addr):Ev->Mem->Out Fl:=
  (qe (zj 4 (eOp zz (qC [k_Corner] "chosen" (qa 1)) (eFz (zP (zb (qa 3) qc)))))
  (qe (zj 5 (eOp zz (eFz (qD (zb5 (qa 2)) (ye 0) yy (eUn zaa (qa 0)) ["gain"] [])) (eFz (zP (zb (qC [k_Corner] "bottom" (qa 1)) qc)))))
  (zo (yD (zb (eC (.str "never")) (zb (yd (z5 k_Corner) (zb (qa 0) (zb (qa 4) (zb (qa 5) (zb (qC [k_Corner] "bottom" (qa 1)) qc))))) qc))))))
noncomputable def za0 (k_Corner:Addr):List FT.T->Mem->Out FT.T:=qk 4 6 (zdH k_Corner)
section
variable {P:Program} {w:World} {K:PySem.W.Frag} {mg:Str->Option Value} {base:Heap} {k_Corner:Addr}
theorem zbz:FnScope ["demand_count","corner","gains","broken","chosen","tops"] ["demand_count","corner","gains","broken"] (ze zbZ):=⟨rfl,rfl,rfl,by decide +kernel,rfl,by decide +kernel,by decide +kernel⟩
theorem zah (D:Df K mg "never_told" zbZ ["demand_count","corner","gains","broken"]) (T:Txt K mg k_Corner) (qM:CalT P w K mg base 3 "shares_of" ["demand_count","chosen","tops","bottom"] (z5 k_Corner)):CalT P w K mg base 4 "never_told" ["demand_count","corner","gains","broken"] (za0 k_Corner):=
  yq D zbz rfl rfl (fun f cdv A outer s H E hr=>(yc (zg (i:=4) zbz.nd rfl (Or.inl rfl) (yf yx (zE (zr ⟨T.cls_Corner,T.na_Corner_chosen⟩ yu) (za (pv 1))) (qw (yG (ya (za (pv 3)) yb)))))
    (yc (zg (i:=5) zbz.nd rfl (Or.inl rfl) (yf yx (qw (zaD (tgs:=["gain"]) (caps:=[]) (zaO (za (pv 2))) (by bv_omega) (fun _ _ _=>(zf (qf (i:=0) (show (["gain"]:List Str).Nodup by decide +kernel) rfl (by first | exact Or.inl rfl | exact Or.inr rfl)))) (fun _ _ _=>qA) (fun _ _ _=>(qZ qP (za (pv 0)))))) (qw (yG (ya (zE (zr ⟨T.cls_Corner,T.na_Corner_bottom⟩ yu) (za (pv 1))) yb)))))
    (zd (zi (qp (ya z4 (ya (yg qM (hr.mono (by decide)) rfl (ya (za (pv 0)) (ya (za (pv 4)) (ya (za (pv 5)) (ya (zE (zr ⟨T.cls_Corner,T.na_Corner_bottom⟩ yu) (za (pv 1))) yb))))) yb))))))))
end
end My
namespace My
open PySem L2 FT
noncomputable def zdj (k_Corner:Addr):Ev->Mem->Out Fl:=
  (qe (zj 5 (yd (za4 k_Corner) (zb (qa 3) (zb (eOp ixT (qa 2) (qa 4)) qc))))
  (qe (zj 6 (yd (zbJ k_Corner) (zb (qC [k_Corner] "lines" (qa 3)) (zb (qa 5) qc))))
  (qe (sIf (zp (eOp isN (qa 6) (eC .non))) (zo (yd (za0 k_Corner) (zb (yd (qt zM) (zb (qa 0) qc)) (zb (qa 3) (zb (qa 5) (zb (qa 4) qc)))))) yC)
  (qe (zj 3 (yd (yV k_Corner) (zb (qa 3) (zb (qa 5) (zb (qa 6) (zb (qa 4) (zb (yd (zad k_Corner) (zb (eOp ixT (qa 2) (qa 4)) (zb (qa 3) qc))) qc)))))))
  (zj 4 (yd (y2 k_Corner) (zb (qa 2) (zb (qa 3) qc))))))))
noncomputable def zdi (k_Corner:Addr):Ev->Mem->Out Bool:=
  (zp (eOp zd4 (qa 4) (eC .non)))
noncomputable def zdJ (k_Corner:Addr):Ev->Mem->Out Fl:=
  (qe (zj 2 (yd (zaB k_Corner) (zb (qa 0) (zb (yd (qt zM) (zb (qa 1) qc)) qc))))
  (qe (zj 3 (yd (zat k_Corner) (zb (yd (qt zM) (zb (qa 0) qc)) (zb (qa 1) qc))))
  (qe (zj 4 (yd (y2 k_Corner) (zb (qa 2) (zb (qa 3) qc))))
  (qe (y9 (zdi k_Corner) (zdj k_Corner))
  (zo (yd (za1 k_Corner) (zb (yd (qt zM) (zb (qa 0) qc)) (zb (qa 3) qc))))))))
noncomputable def zb8 (k_Corner:Addr):List FT.T->Mem->Out FT.T:=qk 2 7 (zdJ k_Corner)
noncomputable def yO (k_Corner:Addr):List FT.T->Mem->Out FT.T:=zeb (zb8 k_Corner)
section
variable {P:Program} {w:World} {K:PySem.W.Frag} {mg:Str->Option Value} {base:Heap} {k_Corner:Addr}
theorem zI:FnScope ["demands","aim","every","corner","broken","gains","place"] ["demands","aim"] (ze zb1):=⟨rfl,rfl,rfl,by decide +kernel,rfl,by decide +kernel,by decide +kernel⟩
theorem zK (D:Df K mg "least_sums" zb1 ["demands","aim"]) (T:Txt K mg k_Corner) (z3:CalT P w K mg base 1 "all_demands" ["demands","size"] (zaB k_Corner)) (yW:CalT P w K mg base 3 "first_corner" ["demand_count","aim"] (zat k_Corner)) (yQ:CalT P w K mg base 2 "most_broken" ["every","corner"] (y2 k_Corner)) (zaj:CalT P w K mg base 4 "least_told" ["demand_count","corner"] (za1 k_Corner)) (za9:CalT P w K mg base 1 "gains_of" ["corner","demand"] (za4 k_Corner)) (zba:CalT P w K mg base 2 "cheapest" ["lines","gains"] (zbJ k_Corner)) (zW:CalT P w K mg base 3 "moved_corner" ["corner","gains","place","number","lack"] (yV k_Corner)) (zah:CalT P w K mg base 4 "never_told" ["demand_count","corner","gains","broken"] (za0 k_Corner)) (yX:CalT P w K mg base 1 "lack_of" ["demand","corner"] (zad k_Corner)):CalT P w K mg base 5 "least_sums" ["demands","aim"] (zb8 k_Corner):=
  yq D zI rfl rfl (fun f cdv A outer s H E hr=>(yc (zg (i:=2) zI.nd rfl (Or.inl rfl) (yg z3 (hr.mono (by decide)) rfl (ya (za (pv 0)) (ya (yo yI rfl T.n_len boot_len (ya (za (pv 1)) yb)) yb))))
    (yc (zg (i:=3) zI.nd rfl (Or.inl rfl) (yg yW (hr.mono (by decide)) rfl (ya (yo yI rfl T.n_len boot_len (ya (za (pv 0)) yb)) (ya (za (pv 1)) yb))))
    (yc (zg (i:=4) zI.nd rfl (Or.inl rfl) (yg yQ (hr.mono (by decide)) rfl (ya (za (pv 2)) (ya (za (pv 3)) yb))))
    (yc (zdm PassesOwn.never (zn zjt (za (pv 4)) zU (qo _)) (yc (zg (i:=5) zI.nd rfl (Or.inl rfl) (yg za9 (hr.mono (by decide)) rfl (ya (za (pv 3)) (ya (yk qr (za (pv 2)) (za (pv 4)) (fun _ _=>rfl)) yb))))
    (yc (zg (i:=6) zI.nd rfl (Or.inl rfl) (yg zba (hr.mono (by decide)) rfl (ya (zE (zr ⟨T.cls_Corner,T.na_Corner_lines⟩ yu) (za (pv 3))) (ya (za (pv 5)) yb))))
    (yc (zv (zn zd1 (za (pv 6)) zU (qo _)) (zd (zi (yg zah (hr.mono (by decide)) rfl (ya (yo yI rfl T.n_len boot_len (ya (za (pv 0)) yb)) (ya (za (pv 3)) (ya (za (pv 5)) (ya (za (pv 4)) yb))))))) yn)
    (yc (zg (i:=3) zI.nd rfl (Or.inl rfl) (yg zW (hr.mono (by decide)) rfl (ya (za (pv 3)) (ya (za (pv 5)) (ya (za (pv 6)) (ya (za (pv 4)) (ya (yg yX (hr.mono (by decide)) rfl (ya (yk qr (za (pv 2)) (za (pv 4)) (fun _ _=>rfl)) (ya (za (pv 3)) yb))) yb)))))))
    (zd (zg (i:=4) zI.nd rfl (Or.inl rfl) (yg yQ (hr.mono (by decide)) rfl (ya (za (pv 2)) (ya (za (pv 3)) yb))))))))))
    (zd (zi (yg zaj (hr.mono (by decide)) rfl (ya (yo yI rfl T.n_len boot_len (ya (za (pv 0)) yb)) (ya (za (pv 3)) yb))))))))))
end
end My
namespace My
open PySem L2 FT
noncomputable def zhs (k_Corner:Addr):Ev->Mem->Out Fl:=
  (zir 0 1 (zb (qa 1) (zb (eOp zaF (qa 0) (qa 1)) qc)))
noncomputable def zhq (k_Corner:Addr):Ev->Mem->Out Bool:=
  (zp (eOp neA (qa 1) (eC (.int 0))))
noncomputable def zhZ (k_Corner:Addr):Ev->Mem->Out Fl:=
  (qe (y9 (zhq k_Corner) (zhs k_Corner))
  (zo (qa 0)))
noncomputable def zd6 (k_Corner:Addr):List FT.T->Mem->Out FT.T:=qk 2 2 (zhZ k_Corner)
section
variable {P:Program} {w:World} {K:PySem.W.Frag} {mg:Str->Option Value} {base:Heap} {k_Corner:Addr}
theorem zgE:FnScope ["one","other"] ["one","other"] (ze zfl):=⟨rfl,rfl,rfl,by decide +kernel,rfl,by decide +kernel,by decide +kernel⟩
theorem zcJ (D:Df K mg "_law_gcd" zfl ["one","other"]) (T:Txt K mg k_Corner) :CalT P w K mg base 1 "_law_gcd" ["one","other"] (zd6 k_Corner):=
  yq D zgE rfl rfl (fun f cdv A outer s H E hr=>(yc (zdm PassesOwn.never (zn (zaw hr.units) (za (pv 1)) zc (qo _)) (zd (zlI (i:=0) (j:=1) rfl zgE.nd rfl rfl (by decide) rfl rfl (ya (za (pv 1)) (ya (yf zap (za (pv 0)) (za (pv 1))) yb)))))
    (zd (zi (za (pv 0))))))
end
end My
namespace My
open PySem L2 FT
noncomputable def zcr (k_Corner:Addr):Ev->Mem->Out Fl:=
  (sIf (zbd (zbm (zp (yd (call2 y4) (zb (qa 3) (zb (eC (.ty "int")) qc))))) (zp (yd (call2 y4) (zb (qa 3) (zb (eC (.ty "bool")) qc))))) (zo (eC (.bl false))) yC)
noncomputable def zcq (k_Corner:Addr):Ev->Mem->Out Fl:=
  (qe (sIf (zbd (zbm (zp (yd (call2 y4) (zb (qa 2) (zb (eC (.ty "tuple")) qc))))) (zp (eOp neA (yd (qt zM) (zb (qa 2) qc)) (eC (.int 2))))) (zo (eC (.bl false))) yC)
  (qe (zb3 (zb5 (qa 2)) (ye 3) (zcr k_Corner))
  (sIf (zbd (zp (eOp ltI (eOp ixT (qa 2) (eC (.int 1))) (eC (.int 1)))) (zp (eOp neA (yd (zd6 k_Corner) (zb (yd (qt zfG) (zb (eOp ixT (qa 2) (eC (.int 0))) qc)) (zb (eOp ixT (qa 2) (eC (.int 1))) qc))) (eC (.int 1))))) (zo (eC (.bl false))) yC)))
noncomputable def zcG (k_Corner:Addr):Ev->Mem->Out Fl:=
  (qe (sIf (zbd (zbm (zp (yd (call2 y4) (zb (qa 0) (zb (eC (.ty "tuple")) qc))))) (zp (eOp neA (yd (qt zM) (zb (qa 0) qc)) (qa 1)))) (zo (eC (.bl false))) yC)
  (qe (zb3 (zb5 (qa 0)) (ye 2) (zcq k_Corner))
  (zo (eC (.bl true)))))
noncomputable def qV (k_Corner:Addr):List FT.T->Mem->Out FT.T:=qk 2 4 (zcG k_Corner)
section
variable {P:Program} {w:World} {K:PySem.W.Frag} {mg:Str->Option Value} {base:Heap} {k_Corner:Addr}
theorem zaX:FnScope ["thing","many","one","part"] ["thing","many"] (ze zbf):=⟨rfl,rfl,rfl,by decide +kernel,rfl,by decide +kernel,by decide +kernel⟩
theorem zO (D:Df K mg "_law_are_ratios" zbf ["thing","many"]) (T:Txt K mg k_Corner) (zcJ:CalT P w K mg base 1 "_law_gcd" ["one","other"] (zd6 k_Corner)):CalT P w K mg base 2 "_law_are_ratios" ["thing","many"] (qV k_Corner):=
  yq D zaX rfl rfl (fun f cdv A outer s H E hr=>(yc (zv (WW.gt (zbq (zbb (zal (yo zag rfl T.n_isinstance boot_isinstance (ya (za (pv 0)) (ya (zbT rfl T.n_tuple boot_tuple) yb))))) (zaN (zn (zaw hr.units) (yo yI rfl T.n_len boot_len (ya (za (pv 0)) yb)) (za (pv 1)) (qo _))))) (zd (zi zR)) yn)
    (yc (zam PassesOwn.never rfl (zaO (za (pv 0))) (zf (qf (i:=2) zaX.nd rfl (by first | exact Or.inl rfl | exact Or.inr rfl))) (yc (zv (WW.gt (zbq (zbb (zal (yo zag rfl T.n_isinstance boot_isinstance (ya (za (pv 2)) (ya (zbT rfl T.n_tuple boot_tuple) yb))))) (zaN (zn (zaw hr.units) (yo yI rfl T.n_len boot_len (ya (za (pv 2)) yb)) zc (qo _))))) (zd (zi zR)) yn)
    (yc (zam PassesOwn.never rfl (zaO (za (pv 2))) (zf (qf (i:=3) zaX.nd rfl (by first | exact Or.inl rfl | exact Or.inr rfl))) (zd (zv (WW.gt (zbq (zbb (zal (yo zag rfl T.n_isinstance boot_isinstance (ya (za (pv 3)) (ya (zbT rfl T.n_int boot_int) yb))))) (zaN (zal (yo zag rfl T.n_isinstance boot_isinstance (ya (za (pv 3)) (ya (zbT rfl T.n_bool boot_bool) yb))))))) (zd (zi zR)) yn)))
    (zd (zv (WW.gt (zbq (zn zaY (yk qr (za (pv 2)) zc (fun _ _=>rfl)) zc (qo _)) (zaN (zn (zaw hr.units) (yg zcJ (hr.mono (by decide)) rfl (ya (yo zdQ rfl T.n_abs boot_abs (ya (yk qr (za (pv 2)) zc (fun _ _=>rfl)) yb)) (ya (yk qr (za (pv 2)) zc (fun _ _=>rfl)) yb))) zc (qo _))))) (zd (zi zR)) yn)))))
    (zd (zi zR)))))
end
end My
namespace My
open PySem L2 FT
noncomputable def zdK (k_Corner:Addr):Ev->Mem->Out Fl:=
  (qe (sIf (zbd (zbm (zp (yd (call2 y4) (zb (qa 0) (zb (eC (.ty "tuple")) qc))))) (zp (eOp zfs (eSl (qa 0) zgi (zd2 (eC (.int 1)))) (eFz (zP (zb (yD (zb (eC (.str "least")) qc)) (zb (yD (zb (eC (.str "never")) qc)) qc))))))) (zo (eC .non)) yC)
  (qe (sIf (zp (eOp neA (yd (qt zM) (zb (qa 0) qc)) (eOp zz (eC (.int 2)) (yd (qt zeC) (zb (eOp eqA (eOp ixT (qa 0) (eC (.int 0))) (eC (.str "least"))) qc))))) (zo (eC .non)) yC)
  (qe (sIf (zbm (zp (yd (qV k_Corner) (zb (eOp ixT (qa 0) (eUn zaa (eC (.int 1)))) (zb (qa 1) qc))))) (zo (eC .non)) yC)
  (qe (sIf (zp (eOp eqA (eOp ixT (qa 0) (eC (.int 0))) (eC (.str "never")))) (zo (yD (zb (eC (.str "never")) (zb (yD qc) (zb (eOp ixT (qa 0) (eUn zaa (eC (.int 1)))) qc))))) yC)
  (qe (sIf (zbm (zp (yd (qV k_Corner) (zb (eOp ixT (qa 0) (eC (.int 1))) (zb (qa 2) qc))))) (zo (eC .non)) yC)
  (zo (yD (zb (eC (.str "least")) (zb (eOp ixT (qa 0) (eC (.int 1))) (zb (eOp ixT (qa 0) (eC (.int 2))) qc))))))))))
noncomputable def zae (k_Corner:Addr):List FT.T->Mem->Out FT.T:=qk 3 3 (zdK k_Corner)
section
variable {P:Program} {w:World} {K:PySem.W.Frag} {mg:Str->Option Value} {base:Heap} {k_Corner:Addr}
theorem zin:FnScope ["found","many","size"] ["found","many","size"] (ze zdv):=⟨rfl,rfl,rfl,by decide +kernel,rfl,by decide +kernel,by decide +kernel⟩
theorem zbw (D:Df K mg "_law_parts" zdv ["found","many","size"]) (T:Txt K mg k_Corner) (zO:CalT P w K mg base 2 "_law_are_ratios" ["thing","many"] (qV k_Corner)):CalT P w K mg base 3 "_law_parts" ["found","many","size"] (zae k_Corner):=
  yq D zin rfl rfl (fun f cdv A outer s H E hr=>(yc (zv (WW.gt (zbq (zbb (zal (yo zag rfl T.n_isinstance boot_isinstance (ya (za (pv 0)) (ya (zbT rfl T.n_tuple boot_tuple) yb))))) (zaN (zn (zmf hr.units) (zi5 (za (pv 0)) zgx (zcO zc)) (qw (yG (ya (qp (ya z4 yb)) (ya (qp (ya z4 yb)) yb)))) rfl)))) (zd (zi zU)) yn)
    (yc (zv (zn (zaw hr.units) (yo yI rfl T.n_len boot_len (ya (za (pv 0)) yb)) (yf yx zc (qX zf2 rfl T.n_int boot_int (ya (zcy (zbs hr.units) (yk qr (za (pv 0)) zc (fun _ _=>rfl)) z4 (qo _)) yb))) (qo _)) (zd (zi zU)) yn)
    (yc (zv (zbb (zal (yg zO (hr.mono (by decide)) rfl (ya (yk qr (za (pv 0)) (qZ qP zc) (fun _ _=>rfl)) (ya (za (pv 1)) yb))))) (zd (zi zU)) yn)
    (yc (zv (zn (zbs hr.units) (yk qr (za (pv 0)) zc (fun _ _=>rfl)) z4 (qo _)) (zd (zi (qp (ya z4 (ya (qp yb) (ya (yk qr (za (pv 0)) (qZ qP zc) (fun _ _=>rfl)) yb)))))) yn)
    (yc (zv (zbb (zal (yg zO (hr.mono (by decide)) rfl (ya (yk qr (za (pv 0)) zc (fun _ _=>rfl)) (ya (za (pv 2)) yb))))) (zd (zi zU)) yn)
    (zd (zi (qp (ya z4 (ya (yk qr (za (pv 0)) zc (fun _ _=>rfl)) (ya (yk qr (za (pv 0)) zc (fun _ _=>rfl)) yb))))))))))))
end
end My
namespace My
open PySem L2 FT
noncomputable def zha (k_Corner:Addr):Ev->Mem->Out Fl:=
  (qe (sIf (zp (eOp ltI (qa 1) (yd (qt zM) (zb (qa 0) qc)))) (zo (eOp ixT (qa 0) (qa 1))) yC)
  (zo (eC (.int 0))))
noncomputable def zca (k_Corner:Addr):List FT.T->Mem->Out FT.T:=qk 2 2 (zha k_Corner)
section
variable {P:Program} {w:World} {K:PySem.W.Frag} {mg:Str->Option Value} {base:Heap} {k_Corner:Addr}
theorem zji:FnScope ["script","k"] ["script","k"] (ze zev):=⟨rfl,rfl,rfl,by decide +kernel,rfl,by decide +kernel,by decide +kernel⟩
theorem zce (D:Df K mg "_law_cell" zev ["script","k"]) (T:Txt K mg k_Corner) :CalT P w K mg base 1 "_law_cell" ["script","k"] (zca k_Corner):=
  yq D zji rfl rfl (fun f cdv A outer s H E hr=>(yc (zv (zn zaY (za (pv 1)) (yo yI rfl T.n_len boot_len (ya (za (pv 0)) yb)) (qo _)) (zd (zi (yk qr (za (pv 0)) (za (pv 1)) (fun _ _=>rfl)))) yn)
    (zd (zi zc))))
end
end My
namespace My
open PySem L2 FT
noncomputable def zfX (k_Corner:Addr):Ev->Mem->Out Fl:=
  (qe (zj 1 (eOp zz (eC (.int 1)) (yd (zt k_Corner) (zb (qa 0) (zb (eC (.int 9)) qc)))))
  (qe (zj 2 (eFz (zP (zb (yD (zb (yD (zb (eC (.int 1)) (zb (eC (.int 1)) (zb (eC (.int 1)) qc)))) (zb (eC (.int 10)) qc))) (zb (yD (zb (yD (zb (eUn zaa (eC (.int 11))) (zb (eUn zaa (eC (.int 3))) (zb (eC (.int 0)) qc)))) (zb (eUn zaa (eC (.int 57))) qc))) (zb (yD (zb (yD (zb (eUn zaa (eC (.int 5))) (zb (eUn zaa (eC (.int 1))) (zb (eC (.int 0)) qc)))) (zb (eUn zaa (eC (.int 9))) qc))) (zb (yD (zb (yD (zb (eC (.int 18)) (zb (eC (.int 2)) (zb (eC (.int 0)) qc)))) (zb (eUn zaa (eC (.int 24))) qc))) (zb (yD (zb (yD (zb (eC (.int 2)) (zb (eC (.int 0)) (zb (eC (.int 0)) qc)))) (zb (eC (.int 0)) qc))) (zb (yD (zb (yD (zb (eC (.int 0)) (zb (eC (.int 2)) (zb (eC (.int 0)) qc)))) (zb (eC (.int 0)) qc))) qc)))))))))
  (qe (zj 3 (eTk (qD (zb5 (qa 2)) (yB 2 (yi (ye 0) (yi (ye 1) qB))) yy (yD (zb (qa 0) (zb (eOp qm (qa 2) (qa 1)) qc))) ["numbers","least"] [("far",1)])))
  (qe (zj 4 (yd (zt k_Corner) (zb (qa 0) (zb (eC (.int 12)) qc))))
  (qe (sIf (zp (eOp ltI (qa 4) (eC (.int 5)))) (zaE (eFz (zP (zb (eOp ixT (qa 3) (eOp zz (qa 4) (eC (.int 1)))) (zb (eOp ixT (qa 3) (qa 4)) qc)))) (bSl (qa 3) (zd2 (qa 4)) (zd2 (eOp zz (qa 4) (eC (.int 2)))))) yC)
  (zo (yD (zb (qa 3) (zb (yD (zb (eC (.int 0)) (zb (eC (.int 0)) (zb (eC (.int 1)) qc)))) qc)))))))))
noncomputable def zco (k_Corner:Addr):List FT.T->Mem->Out FT.T:=qk 1 5 (zfX k_Corner)
section
variable {P:Program} {w:World} {K:PySem.W.Frag} {mg:Str->Option Value} {base:Heap} {k_Corner:Addr}
theorem zaV:FnScope ["pool","far","some","found","at"] ["pool"] (ze zdu):=⟨rfl,rfl,rfl,by decide +kernel,rfl,by decide +kernel,by decide +kernel⟩
theorem zbv (D:Df K mg "_law_round" zdu ["pool"]) (T:Txt K mg k_Corner) (yp:CalT P w K mg base 1 "_law_next" ["pool","base"] (zt k_Corner)):CalT P w K mg base 2 "_law_round" ["pool"] (zco k_Corner):=
  yq D zaV rfl rfl (fun f cdv A outer s H E hr=>(yc (zg (i:=1) zaV.nd rfl (Or.inr rfl) (yf yx zc (yg yp (hr.mono (by decide)) rfl (ya (za (pv 0)) (ya zc yb)))))
    (yc (zg (i:=2) zaV.nd rfl (Or.inl rfl) (qw (yG (ya (qp (ya (qp (ya zc (ya zc (ya zc yb)))) (ya zc yb))) (ya (qp (ya (qp (ya (qZ qP zc) (ya (qZ qP zc) (ya zc yb)))) (ya (qZ qP zc) yb))) (ya (qp (ya (qp (ya (qZ qP zc) (ya (qZ qP zc) (ya zc yb)))) (ya (qZ qP zc) yb))) (ya (qp (ya (qp (ya zc (ya zc (ya zc yb)))) (ya (qZ qP zc) yb))) (ya (qp (ya (qp (ya zc (ya zc (ya zc yb)))) (ya zc yb))) (ya (qp (ya (qp (ya zc (ya zc (ya zc yb)))) (ya zc yb))) yb)))))))))
    (yc (zbS (i0:=3) (tgs:=["numbers","least"]) (caps:=[("far",1)]) (zaO (za (pv 2))) (by bv_omega) (fun _ _ _=>(yA (zF rfl (WGs.pe (yh (yj (WG.pe (zf (qf (i:=0) (show (["numbers","least","far"]:List Str).Nodup by decide +kernel) rfl (by first | exact Or.inl rfl | exact Or.inr rfl)))) (WGs.pe (yh (yj (WG.pe (zf (qf (i:=1) (show (["numbers","least","far"]:List Str).Nodup by decide +kernel) rfl (by first | exact Or.inl rfl | exact Or.inr rfl)))) (WGs.pe zw)))))))))) (fun _ _ _=>qA) (fun _ _ _=>(qp (ya (za (pv 0)) (ya (yf yr (za (pv 2)) (za (pv 1))) yb)))) zaV.nd rfl (Or.inl rfl))
    (yc (zg (i:=4) zaV.nd rfl (Or.inl rfl) (yg yp (hr.mono (by decide)) rfl (ya (za (pv 0)) (ya zc yb))))
    (yc (zv (zn zaY (za (pv 4)) zc (qo _)) (zd (yP (qw (yG (ya (yk qr (za (pv 3)) (yf yx (za (pv 4)) zc) (fun _ _=>rfl)) (ya (yk qr (za (pv 3)) (za (pv 4)) (fun _ _=>rfl)) yb)))) (zm5 (za (pv 3)) (zcO (za (pv 4))) (zcO (yf yx (za (pv 4)) zc))))) yn)
    (zd (zi (qp (ya (za (pv 3)) (ya (qp (ya zc (ya zc (ya zc yb)))) yb)))))))))))
end
end My
namespace My
open PySem L2 FT
noncomputable def zfc (k_Corner:Addr):Ev->Mem->Out Fl:=
  (qe (zj 2 (eOp zz (eOp qm (qa 2) (eOp ixT (qa 5) (eC (.int 1)))) (eOp qm (eOp qm (qa 4) (eOp ixT (qa 5) (eC (.int 0)))) (qa 3))))
  (zj 3 (eOp qm (qa 3) (eOp ixT (qa 5) (eC (.int 1))))))
noncomputable def zfW (k_Corner:Addr):Ev->Mem->Out Fl:=
  (qe (zj 2 (eC (.int 0)))
  (qe (zj 3 (eC (.int 1)))
  (qe (zT (FT.zaA (zb (qa 0) (zb (qa 1) qc))) (yB 2 (yi (ye 4) (yi (ye 5) qB))) (zfc k_Corner))
  (zo (yD (zb (qa 2) (zb (qa 3) qc)))))))
noncomputable def qW (k_Corner:Addr):List FT.T->Mem->Out FT.T:=qk 2 6 (zfW k_Corner)
section
variable {P:Program} {w:World} {K:PySem.W.Frag} {mg:Str->Option Value} {base:Heap} {k_Corner:Addr}
theorem yY:FnScope ["numbers","some","top","bottom","number","one"] ["numbers","some"] (ze zdt):=⟨rfl,rfl,rfl,by decide +kernel,rfl,by decide +kernel,by decide +kernel⟩
theorem zN (D:Df K mg "_law_total" zdt ["numbers","some"]) (T:Txt K mg k_Corner) :CalT P w K mg base 1 "_law_total" ["numbers","some"] (qW k_Corner):=
  yq D yY rfl rfl (fun f cdv A outer s H E hr=>(yc (zg (i:=2) yY.nd rfl (Or.inl rfl) zc)
    (yc (zg (i:=3) yY.nd rfl (Or.inl rfl) zc)
    (yc (zaC PassesOwn.never rfl (zcP rfl T.n_zip (ya (za (pv 0)) (ya (za (pv 1)) yb))) (yA (zF rfl (WGs.pe (yh (yj (WG.pe (zf (qf (i:=4) yY.nd rfl (by first | exact Or.inl rfl | exact Or.inr rfl)))) (WGs.pe (yh (yj (WG.pe (zf (qf (i:=5) yY.nd rfl (by first | exact Or.inl rfl | exact Or.inr rfl)))) (WGs.pe zw))))))))) (yc (zg (i:=2) yY.nd rfl (Or.inl rfl) (yf yx (yf yr (za (pv 2)) (yk qr (za (pv 5)) zc (fun _ _=>rfl))) (yf yr (yf yr (za (pv 4)) (yk qr (za (pv 5)) zc (fun _ _=>rfl))) (za (pv 3)))))
    (zd (zg (i:=3) yY.nd rfl (Or.inl rfl) (yf yr (za (pv 3)) (yk qr (za (pv 5)) zc (fun _ _=>rfl)))))))
    (zd (zi (qp (ya (za (pv 2)) (ya (za (pv 3)) yb)))))))))
end
end My
namespace My
open PySem L2 FT
noncomputable def zfd (k_Corner:Addr):Ev->Mem->Out Fl:=
  (qe (zaE (yd (qW k_Corner) (zb (qa 2) (zb (qa 1) qc))) (yB 2 (yi (ye 4) (yi (ye 5) qB))))
  (sIf (zp (eOp ltI (qa 4) (eOp qm (qa 3) (qa 5)))) (zo (eC (.bl false))) yC))
noncomputable def zfY (k_Corner:Addr):Ev->Mem->Out Fl:=
  (qe (zT (y8 (qa 0)) (yB 2 (yi (ye 2) (yi (ye 3) qB))) (zfd k_Corner))
  (zo (eC (.bl true))))
noncomputable def zcp (k_Corner:Addr):List FT.T->Mem->Out FT.T:=qk 2 6 (zfY k_Corner)
section
variable {P:Program} {w:World} {K:PySem.W.Frag} {mg:Str->Option Value} {base:Heap} {k_Corner:Addr}
theorem zaW:FnScope ["demands","x","numbers","least","top","bottom"] ["demands","x"] (ze zdw):=⟨rfl,rfl,rfl,by decide +kernel,rfl,by decide +kernel,by decide +kernel⟩
theorem zbx (D:Df K mg "_law_meets" zdw ["demands","x"]) (T:Txt K mg k_Corner) (zN:CalT P w K mg base 1 "_law_total" ["numbers","some"] (qW k_Corner)):CalT P w K mg base 2 "_law_meets" ["demands","x"] (zcp k_Corner):=
  yq D zaW rfl rfl (fun f cdv A outer s H E hr=>(yc (zaC PassesOwn.never rfl (zbc (za (pv 0))) (yA (zF rfl (WGs.pe (yh (yj (WG.pe (zf (qf (i:=2) zaW.nd rfl (by first | exact Or.inl rfl | exact Or.inr rfl)))) (WGs.pe (yh (yj (WG.pe (zf (qf (i:=3) zaW.nd rfl (by first | exact Or.inl rfl | exact Or.inr rfl)))) (WGs.pe zw))))))))) (yc (yP (yg zN (hr.mono (by decide)) rfl (ya (za (pv 2)) (ya (za (pv 1)) yb))) (yA (zF rfl (WGs.pe (yh (yj (WG.pe (zf (qf (i:=4) zaW.nd rfl (by first | exact Or.inl rfl | exact Or.inr rfl)))) (WGs.pe (yh (yj (WG.pe (zf (qf (i:=5) zaW.nd rfl (by first | exact Or.inl rfl | exact Or.inr rfl)))) (WGs.pe zw))))))))))
    (zd (zv (zn zaY (za (pv 4)) (yf yr (za (pv 3)) (za (pv 5))) (qo _)) (zd (zi zR)) yn))))
    (zd (zi zR))))
end
end My
namespace My
open PySem L2 FT
noncomputable def ze0 (k_Corner:Addr):Ev->Mem->Out Fl:=
  (zo (eFz (qv (y8 (qa 0)) (yB 2 (yi (ye 0) (yi (ye 1) qB))) yy (eOp ixT (qa 0) (qa 2)) ["numbers","least"] [("k",1)])))
noncomputable def za2 (k_Corner:Addr):List FT.T->Mem->Out FT.T:=qk 2 2 (ze0 k_Corner)
section
variable {P:Program} {w:World} {K:PySem.W.Frag} {mg:Str->Option Value} {base:Heap} {k_Corner:Addr}
theorem zhw:FnScope ["demands","k"] ["demands","k"] (ze zcX):=⟨rfl,rfl,rfl,by decide +kernel,rfl,by decide +kernel,by decide +kernel⟩
theorem za8 (D:Df K mg "_law_column" zcX ["demands","k"]) (T:Txt K mg k_Corner) :CalT P w K mg base 1 "_law_column" ["demands","k"] (za2 k_Corner):=
  yq D zhw rfl rfl (fun f cdv A outer s H E hr=>(zd (zi (qw (zbr (tgs:=["numbers","least"]) (caps:=[("k",1)]) (zbc (za (pv 0))) (by bv_omega) (fun _ _ _=>(yA (zF rfl (WGs.pe (yh (yj (WG.pe (zf (qf (i:=0) (show (["numbers","least","k"]:List Str).Nodup by decide +kernel) rfl (by first | exact Or.inl rfl | exact Or.inr rfl)))) (WGs.pe (yh (yj (WG.pe (zf (qf (i:=1) (show (["numbers","least","k"]:List Str).Nodup by decide +kernel) rfl (by first | exact Or.inl rfl | exact Or.inr rfl)))) (WGs.pe zw)))))))))) (fun _ _ _=>qA) (fun _ _ _=>(yk qr (za (pv 0)) (za (pv 2)) (fun _ _=>rfl))))))))
end
end My
namespace My
open PySem L2 FT
noncomputable def zfe (k_Corner:Addr):Ev->Mem->Out Fl:=
  (sIf (zp (eOp ltI (eOp ixT (qa 5) (eC (.int 0))) (eC (.int 0)))) (zo (eC (.bl false))) yC)
noncomputable def zfb (k_Corner:Addr):Ev->Mem->Out Fl:=
  (qe (zaE (yd (qW k_Corner) (zb (yd (za2 k_Corner) (zb (qa 0) (zb (qa 8) qc))) (zb (qa 4) qc))) (yB 2 (yi (ye 9) (yi (ye 10) qB))))
  (sIf (zp (eOp gtI (qa 9) (eOp qm (eOp qm (eOp ixT (qa 1) (qa 8)) (qa 10)) (yd (qt zeC) (zb (eOp eqA (qa 2) (eC (.str "least"))) qc))))) (zo (eC (.bl false))) yC))
noncomputable def zfZ (k_Corner:Addr):Ev->Mem->Out Fl:=
  (qe (zb3 (zb5 (eOp zz (eFz (zbI z7 (zb (qa 3) qc))) (eFz (zbI z7 (zb (qa 4) qc))))) (ye 5) (zfe k_Corner))
  (qe (zaE (yd (qW k_Corner) (zb (eFz (qv (y8 (qa 0)) (yB 2 (yi (ye 0) (yi (ye 1) qB))) yy (qa 1) ["numbers","least"] [])) (zb (qa 4) qc))) (yB 2 (yi (ye 6) (yi (ye 7) qB))))
  (qe (zb3 (yE (zb (yd (qt zM) (zb (qa 1) qc)) qc)) (ye 8) (zfb k_Corner))
  (qe (sIf (zp (eOp eqA (qa 2) (eC (.str "never")))) (zo (eOp gtI (qa 6) (eC (.int 0)))) yC)
  (qe (zaE (yd (qW k_Corner) (zb (qa 1) (zb (qa 3) qc))) (yB 2 (yi (ye 9) (yi (ye 10) qB))))
  (zo (zle (yd (zcp k_Corner) (zb (qa 0) (zb (qa 3) qc))) (eOp eqA (eOp qm (qa 9) (qa 7)) (eOp qm (qa 6) (qa 10))))))))))
noncomputable def zaR (k_Corner:Addr):List FT.T->Mem->Out FT.T:=qk 5 11 (zfZ k_Corner)
section
variable {P:Program} {w:World} {K:PySem.W.Frag} {mg:Str->Option Value} {base:Heap} {k_Corner:Addr}
theorem yM:FnScope ["demands","aim","word","x","shares","one","gain","under","k","top","bottom"] ["demands","aim","word","x","shares"] (ze zdx):=⟨rfl,rfl,rfl,by decide +kernel,rfl,by decide +kernel,by decide +kernel⟩
theorem zby (D:Df K mg "_law_holds" zdx ["demands","aim","word","x","shares"]) (T:Txt K mg k_Corner) (zN:CalT P w K mg base 1 "_law_total" ["numbers","some"] (qW k_Corner)) (zbx:CalT P w K mg base 2 "_law_meets" ["demands","x"] (zcp k_Corner)) (za8:CalT P w K mg base 1 "_law_column" ["demands","k"] (za2 k_Corner)):CalT P w K mg base 3 "_law_holds" ["demands","aim","word","x","shares"] (zaR k_Corner):=
  yq D yM rfl rfl (fun f cdv A outer s H E hr=>(yc (zam PassesOwn.never rfl (zaO (yf yx (qw (zaT za7 rfl T.n_list boot_list (ya (za (pv 3)) yb))) (qw (zaT za7 rfl T.n_list boot_list (ya (za (pv 4)) yb))))) (zf (qf (i:=5) yM.nd rfl (by first | exact Or.inl rfl | exact Or.inr rfl))) (zd (zv (zn zaY (yk qr (za (pv 5)) zc (fun _ _=>rfl)) zc (qo _)) (zd (zi zR)) yn)))
    (yc (yP (yg zN (hr.mono (by decide)) rfl (ya (qw (zbr (tgs:=["numbers","least"]) (caps:=[]) (zbc (za (pv 0))) (by bv_omega) (fun _ _ _=>(yA (zF rfl (WGs.pe (yh (yj (WG.pe (zf (qf (i:=0) (show (["numbers","least"]:List Str).Nodup by decide +kernel) rfl (by first | exact Or.inl rfl | exact Or.inr rfl)))) (WGs.pe (yh (yj (WG.pe (zf (qf (i:=1) (show (["numbers","least"]:List Str).Nodup by decide +kernel) rfl (by first | exact Or.inl rfl | exact Or.inr rfl)))) (WGs.pe zw)))))))))) (fun _ _ _=>qA) (fun _ _ _=>(za (pv 1))))) (ya (za (pv 4)) yb))) (yA (zF rfl (WGs.pe (yh (yj (WG.pe (zf (qf (i:=6) yM.nd rfl (by first | exact Or.inl rfl | exact Or.inr rfl)))) (WGs.pe (yh (yj (WG.pe (zf (qf (i:=7) yM.nd rfl (by first | exact Or.inl rfl | exact Or.inr rfl)))) (WGs.pe zw))))))))))
    (yc (zam PassesOwn.never rfl (yF rfl T.n_range (ya (yo yI rfl T.n_len boot_len (ya (za (pv 1)) yb)) yb)) (zf (qf (i:=8) yM.nd rfl (by first | exact Or.inl rfl | exact Or.inr rfl))) (yc (yP (yg zN (hr.mono (by decide)) rfl (ya (yg za8 (hr.mono (by decide)) rfl (ya (za (pv 0)) (ya (za (pv 8)) yb))) (ya (za (pv 4)) yb))) (yA (zF rfl (WGs.pe (yh (yj (WG.pe (zf (qf (i:=9) yM.nd rfl (by first | exact Or.inl rfl | exact Or.inr rfl)))) (WGs.pe (yh (yj (WG.pe (zf (qf (i:=10) yM.nd rfl (by first | exact Or.inl rfl | exact Or.inr rfl)))) (WGs.pe zw))))))))))
    (zd (zv (zn zcB (za (pv 9)) (yf yr (yf yr (yk qr (za (pv 1)) (za (pv 8)) (fun _ _=>rfl)) (za (pv 10))) (qX zf2 rfl T.n_int boot_int (ya (zcy (zbs hr.units) (za (pv 2)) z4 (qo _)) yb))) (qo _)) (zd (zi zR)) yn))))
    (yc (zv (zn (zbs hr.units) (za (pv 2)) z4 (qo _)) (zd (zi (zcy zcB (za (pv 6)) zc (qo _)))) yn)
    (yc (yP (yg zN (hr.mono (by decide)) rfl (ya (za (pv 1)) (ya (za (pv 3)) yb))) (yA (zF rfl (WGs.pe (yh (yj (WG.pe (zf (qf (i:=9) yM.nd rfl (by first | exact Or.inl rfl | exact Or.inr rfl)))) (WGs.pe (yh (yj (WG.pe (zf (qf (i:=10) yM.nd rfl (by first | exact Or.inl rfl | exact Or.inr rfl)))) (WGs.pe zw))))))))))
    (zd (zi (zlK (yg zbx (hr.mono (by decide)) rfl (ya (za (pv 0)) (ya (za (pv 3)) yb))) (zlJ (zcy (zbs hr.units) (yf yr (za (pv 9)) (za (pv 7))) (yf yr (za (pv 6)) (za (pv 10))) (qo _))))))))))))
end
end My
namespace My
open PySem L2 FT
noncomputable def zhr (k_Corner:Addr):Ev->Mem->Out Fl:=
  (qe (zj 2 (yd (zb9 k_Corner) (zb (yd (zca k_Corner) (zb (eOp zz (eFz (zP (zb (eC (.int 0)) qc))) (qa 0)) (zb (qa 1) qc))) qc)))
  (qe (zj 3 (yd (zt k_Corner) (zb (qa 2) (zb (eC (.int 7)) qc))))
  (qe (zj 4 (yd (zbp k_Corner) (zb (qa 2) (zb (qa 3) (zb (yd (zt k_Corner) (zb (qa 2) (zb (eC (.int 10)) qc))) qc)))))
  (qe (zj 5 (yd (zd7 k_Corner) (zb (qa 2) (zb (qa 3) qc))))
  (qe (sIf (zp (eOp eqA (yd (zt k_Corner) (zb (qa 2) (zb (eC (.int 8)) qc))) (eC (.int 0)))) (qe (zaE (yd (zco k_Corner) (zb (qa 2) qc)) (yB 2 (yi (ye 4) (yi (ye 5) qB))))
  (zj 3 (eC (.int 3)))) yC)
  (qe (zj 6 (eFz (zbI z7 (zb (qa 4) qc))))
  (qe (sIf (zp (eOp eqA (yd (zt k_Corner) (zb (qa 2) (zb (eC (.int 2)) qc))) (eC (.int 0)))) (zj 6 (yd (qt z9) (zb (qa 4) qc))) yC)
  (qe (zj 7 (yd (yO k_Corner) (zb (qa 6) (zb (qa 5) qc))))
  (qe (zj 8 (yd (zae k_Corner) (zb (qa 7) (zb (yd (qt zM) (zb (qa 4) qc)) (zb (qa 3) qc)))))
  (qe (sIf (zp (eOp isN (qa 8) (eC .non))) (zo (eC (.bl false))) yC)
  (qe (sIf (zbm (zp (yd (zaR k_Corner) (zb (qa 4) (zb (qa 5) (zb (eOp ixT (qa 8) (eC (.int 0))) (zb (eOp ixT (qa 8) (eC (.int 1))) (zb (eOp ixT (qa 8) (eC (.int 2))) qc)))))))) (zo (eC (.bl false))) yC)
  (sIf (zbd (zp (eOp neA (eFz (zbI z7 (zb (qa 6) qc))) (qa 4))) (zp (eOp neA (yd (yO k_Corner) (zb (qa 6) (zb (qa 5) qc))) (qa 7)))) (zo (eC (.bl false))) yC))))))))))))
noncomputable def zlx (k_Corner:Addr):Ev->Mem->Out Fl:=
  (qe (zb3 (yE (zb (eOp zz (eC (.int 1)) (yd (call2 ziv) (zb (yd (qt zM) (zb (qa 0) qc)) (zb (eC (.int 30)) qc)))) qc)) (ye 1) (zhr k_Corner))
  (zo (eC (.bl true))))
noncomputable def zgm (k_Corner:Addr):List FT.T->Mem->Out FT.T:=qk 1 9 (zlx k_Corner)
section
variable {P:Program} {w:World} {K:PySem.W.Frag} {mg:Str->Option Value} {base:Heap} {k_Corner:Addr}
theorem yU:FnScope ["script","k","pool","size","demands","aim","handed","found","parts"] ["script"] (ze ziq):=⟨rfl,rfl,rfl,by decide +kernel,rfl,by decide +kernel,by decide +kernel⟩
theorem znP {f:Addr} {fd:FuncData} (D:Fun K "law" "law" ziq f fd) (T:Txt K mg k_Corner) (zcd:CalT P w K mg base 1 "_law_left" ["cell"] (zb9 k_Corner)) (yp:CalT P w K mg base 1 "_law_next" ["pool","base"] (zt k_Corner)) (zay:CalT P w K mg base 4 "_law_demands" ["pool","size","many"] (zbp k_Corner)) (zcK:CalT P w K mg base 3 "_law_aim" ["pool","size"] (zd7 k_Corner)) (zK:CalT P w K mg base 5 "least_sums" ["demands","aim"] (yO k_Corner)) (zbw:CalT P w K mg base 3 "_law_parts" ["found","many","size"] (zae k_Corner)) (zce:CalT P w K mg base 1 "_law_cell" ["script","k"] (zca k_Corner)) (zbv:CalT P w K mg base 2 "_law_round" ["pool"] (zco k_Corner)) (zby:CalT P w K mg base 3 "_law_holds" ["demands","aim","word","x","shares"] (zaR k_Corner)):FnOk P w K mg base CX0 6 f fd ["script"] (spT K (zgm k_Corner)):=
  zlH D yU rfl rfl (fun cdv A outer s H E hr=>(yc (zam PassesOwn.never rfl (yF rfl T.n_range (ya (yf yx zc (yo (zj7 rfl) rfl T.n_min boot_min (ya (yo yI rfl T.n_len boot_len (ya (za (pv 0)) yb)) (ya zc yb)))) yb)) (zf (qf (i:=1) yU.nd rfl (by first | exact Or.inl rfl | exact Or.inr rfl))) (yc (zg (i:=2) yU.nd rfl (Or.inl rfl) (yg zcd (hr.mono (by decide)) rfl (ya (yg zce (hr.mono (by decide)) rfl (ya (yf yx (qw (yG (ya zc yb))) (za (pv 0))) (ya (za (pv 1)) yb))) yb)))
    (yc (zg (i:=3) yU.nd rfl (Or.inl rfl) (yg yp (hr.mono (by decide)) rfl (ya (za (pv 2)) (ya zc yb))))
    (yc (zg (i:=4) yU.nd rfl (Or.inl rfl) (yg zay (hr.mono (by decide)) rfl (ya (za (pv 2)) (ya (za (pv 3)) (ya (yg yp (hr.mono (by decide)) rfl (ya (za (pv 2)) (ya zc yb))) yb)))))
    (yc (zg (i:=5) yU.nd rfl (Or.inl rfl) (yg zcK (hr.mono (by decide)) rfl (ya (za (pv 2)) (ya (za (pv 3)) yb))))
    (yc (zv (zn (zbs hr.units) (yg yp (hr.mono (by decide)) rfl (ya (za (pv 2)) (ya zc yb))) zc (qo _)) (yc (yP (yg zbv (hr.mono (by decide)) rfl (ya (za (pv 2)) yb)) (yA (zF rfl (WGs.pe (yh (yj (WG.pe (zf (qf (i:=4) yU.nd rfl (by first | exact Or.inl rfl | exact Or.inr rfl)))) (WGs.pe (yh (yj (WG.pe (zf (qf (i:=5) yU.nd rfl (by first | exact Or.inl rfl | exact Or.inr rfl)))) (WGs.pe zw))))))))))
    (zd (zg (i:=3) yU.nd rfl (Or.inl rfl) zc))) yn)
    (yc (zg (i:=6) yU.nd rfl (Or.inl rfl) (qw (zaT za7 rfl T.n_list boot_list (ya (za (pv 4)) yb))))
    (yc (zv (zn (zbs hr.units) (yg yp (hr.mono (by decide)) rfl (ya (za (pv 2)) (ya zc yb))) zc (qo _)) (zd (zg (i:=6) yU.nd rfl (Or.inl rfl) (qX zax rfl T.n_tuple boot_tuple (ya (za (pv 4)) yb)))) yn)
    (yc (zg (i:=7) yU.nd rfl (Or.inl rfl) (yg zK (hr.mono (by decide)) rfl (ya (za (pv 6)) (ya (za (pv 5)) yb))))
    (yc (zg (i:=8) yU.nd rfl (Or.inl rfl) (yg zbw (hr.mono (by decide)) rfl (ya (za (pv 7)) (ya (yo yI rfl T.n_len boot_len (ya (za (pv 4)) yb)) (ya (za (pv 3)) yb)))))
    (yc (zv (zn zd1 (za (pv 8)) zU (qo _)) (zd (zi zR)) yn)
    (yc (zv (zbb (zal (yg zby (hr.mono (by decide)) rfl (ya (za (pv 4)) (ya (za (pv 5)) (ya (yk qr (za (pv 8)) zc (fun _ _=>rfl)) (ya (yk qr (za (pv 8)) zc (fun _ _=>rfl)) (ya (yk qr (za (pv 8)) zc (fun _ _=>rfl)) yb)))))))) (zd (zi zR)) yn)
    (zd (zv (WW.gt (zbq (zn (zaw hr.units) (qw (zaT za7 rfl T.n_list boot_list (ya (za (pv 6)) yb))) (za (pv 4)) (qo _)) (zaN (zn (zaw hr.units) (yg zK (hr.mono (by decide)) rfl (ya (za (pv 6)) (ya (za (pv 5)) yb))) (za (pv 7)) (qo _))))) (zd (zi zR)) yn))))))))))))))
    (zd (zi zR))))
end
end My
open Lean in
local macro_rules | `(tactic| simp_arith [$xs,*]) => do
  let ids := ("FT.zjj FT.zql FT.zqm FT.startT FT.qe FT.zo FT.zj FT.sIf FT.zex FT.zaE FT.yC FT.zb3 FT.qa FT.eC FT.eOp FT.eUn FT.zle FT.eOr FT.zqO FT.eIf FT.yd FT.yD FT.eFz FT.eTk FT.zP FT.zbI FT.zqC FT.lOp FT.eSl FT.zgi FT.zd2 FT.zkV FT.zdM FT.zqt FT.zqF FT.zc8 FT.qc FT.zb FT.zp FT.zdX FT.zbd FT.zbm FT.zkb FT.qQ FT.zqf FT.zh FT.zpz FT.zpB FT.zpA FT.zkL FT.zpV FT.zpY FT.zpW FT.ye FT.zdb FT.yB FT.yi FT.qB FT.zb5 FT.yE FT.zqp FT.zcV FT.ixT FT.zbi FT.zc4 FT.zqN FT.zqM FT.zqL FT.zqK FT.qD FT.zaK FT.yy Option.join_some Option.join_none FT.zgV FT.zpZ FT.zcv FT.zqI FT.zqH FT.zqG List.map_cons List.map_nil List.length_cons List.length_nil List.cons_append List.nil_append List.getElem?_cons_zero List.getElem?_cons_succ List.set_cons_zero List.set_cons_succ List.replicate Nat.zero_add Nat.reduceAdd Nat.reduceSub FT.zh8 FT.zqq FT.zqs FT.zqr Int.reduceBEq Int.reduceLT FT.zqi FT.zqx FT.zqy FT.zjK FT.zqA FT.zqv FT.zqo FT.zqB FT.zqw FT.zqz FT.zp4 Bool.false_eq_true reduceIte Nat.reduceEqDiff Nat.succ.injEq Bool.not_true Bool.not_false FT.zd3 FT.zqn FT.zqD Int.reduceToNat Int.reducePow ne_eq Int.reduceEq not_false_eq_true Int.reduceNeg Bool.bne_true Bool.bne_false Bool.true_bne Bool.false_bne decide_true decide_false FT.zaL FT.zqe FT.zqd FT.zqj FT.zqk".splitOn " ").toArray.map fun s => Lean.mkIdent s.toName
  `(tactic| simp (config := {decide := true}) only [$[$ids:term],*, $xs,*])
namespace My
open PySem L2 FT
variable (kC:Addr)
theorem zjD (c:Int) (M:Mem):zb9 kC [.int c] M = .ok (.ref M.length) (M ++ [(Po.new c).cell]):=by
  unfold zb9 zg9
  simp_arith [and_self]
  rw [show Po.new c = ⟨if c - 10 ^ 18 > 0 then c - 10 ^ 18 else 0,c % 10 ^ 18,0⟩ from rfl,Int.fmod_eq_emod_of_nonneg _ (by decide)]
  rfl
theorem zjC (p:Po) (a:Nat) (base:Int) (M:Mem) (e:M[a]? = some p.cell) (h:0 < base) (hb:base.natAbs < 10 ^ 100):zt kC [.ref a,.int base] M = .ok (.int (p.dig base)) (M.set a (p.nxt base).cell):=by
  unfold zt zg8
  have ha:a < M.length:=(List.getElem?_eq_some_iff.mp e).1
  have hd:∀ i M,zbE (.int i) (.int base) M = .ok (.int (i.fdiv base)) M:=fun i M=>zec (ziL 100 (by decide) (by omega) hb)
  have hm:∀ i M,zaF (.int i) (.int base) M = .ok (.int (i.fmod base)) M:=fun i M=>zd3 (by omega)
  by_cases hp:0 < p.a
  · simp_arith [e,Po.cell,hd,hm,decide_eq_true hp]
    unfold Po.dig Po.nxt
    rw [if_pos hp,if_pos hp,Int.fmod_eq_emod_of_nonneg _ (by omega),Int.fdiv_eq_ediv_of_nonneg _ (by omega)]
  · have hs:∀ c:Cell,(M.set a c)[a]? = some c:=fun c=>by rw [List.getElem?_set,if_pos rfl,if_pos ha]
    have h1:∀ j M,qm (.int 7919) (.int j) M = .ok (.int (7919 * j)) M:=fun j M=>zdD (by decide)
    have hx:∀ x:Int,0<=x.fmod 1000000007/\x.fmod 1000000007 < 1000000007:=fun x=>by rw [Int.fmod_eq_emod_of_nonneg _ (by decide)];omega
    have hy:∀ x:Int,0<=x.fmod 998244353/\x.fmod 998244353 < 998244353:=fun x=>by rw [Int.fmod_eq_emod_of_nonneg _ (by decide)];omega
    have h2:∀ (x y:Int) M,qm (.int (x.fmod 1000000007 + 11)) (.int y) M = .ok (.int ((x.fmod 1000000007 + 11) * y)) M:=fun x y M=>zdD (by have:=hx x;omega)
    have h3:∀ (x y:Int) M,qm (.int (x.fmod 998244353)) (.int y) M = .ok (.int (x.fmod 998244353 * y)) M:=fun x y M=>zdD (by have:=hy x;omega)
    simp_arith [e,Po.cell,hd,hm,decide_eq_false hp,hs,h1,h2,h3]
    unfold Po.dig Po.nxt
    rw [if_neg hp,if_neg hp]
    simp only [Int.fmod_eq_emod_of_nonneg _ (show (0:Int)<=1000000007 by decide),Int.fmod_eq_emod_of_nonneg _ (show (0:Int)<=998244353 by decide),Int.fmod_eq_emod_of_nonneg _ (show (0:Int)<=2147483647 by decide),Int.fdiv_eq_ediv_of_nonneg _ (show (0:Int)<=8 by decide),Int.fmod_eq_emod_of_nonneg _ (show (0:Int)<=base by omega)]
noncomputable def PO (a:Nat) (M:Mem):Prop:=∃ p:Po,M[a]? = some p.cell
theorem PO.fr {a:Nat} {M M':Mem} (h:PO a M) {S:List Nat} (f:Fr S M M') (hs:a ∉ S):PO a M':=by
  obtain ⟨p,e⟩:=h
  exact ⟨p,f.get e hs⟩
theorem qN {a:Nat} {base:Int} {M:Mem} (e:PO a M) (h:0 < base) (hb:base.natAbs < 10 ^ 100) :
    Ok (zt kC [.ref a,.int base] M) fun t M'=>∃ d:Int,t = .int d/\0<=d/\d < base/\PO a M'/\Fr [a] M M':=by
  obtain ⟨p,e⟩:=e
  exact Ok.of (zjC kC p a base M e h hb) ⟨_,rfl,p.dig_lo h,p.dig_hi h,⟨_,get_set e⟩,Fr.set _ _ _⟩
theorem zdT {a:Nat} {base:Int} {M:Mem} (e:PO a M) (h:0 < base) (hb:base.natAbs < 10 ^ 100) :
    Ok (zZ kC [.ref a,.int base] M) fun t M'=>∃ d:Int,t = .int d/\0<=d/\d < base/\PO a M'/\Fr [a] M M':=by
  refine ym rfl ?_
  unfold zg7
  by_cases hs:base < 100000000
  · simp_arith [decide_eq_true hs]
    refine Ok.bind (qN kC e h hb) ?_
    rintro t M1 ⟨d,rfl,h1,h2,h3,h4⟩
    try simp_arith [and_self]
    exact Ok.ret ⟨d,rfl,h1,h2,h3,h4⟩
  · simp_arith [decide_eq_false hs,zan (show -(2 ^ 62)<=(4:Int)/\(4:Int) < 2 ^ 62 by decide)]
    refine Ok.bind (Ok.for (fun _ σ M'=>∃ (f:Int) (k:Option FT.T),σ = [some (.ref a),some (.int base),some (.int f),k]/\PO a M'/\Fr [a] M M') ⟨0,none,rfl,e,Fr.refl _ _⟩ ?_) ?_
    · rintro k x σ M1 hx ⟨f,kk,rfl,h1,h2⟩
      unfold zf8
      have hm:qm (.int f) (.int 268435456) M1 = .ok (.int (f * 268435456)) M1:=znS (by decide)
      simp_arith [hm]
      refine Ok.bind (qN kC h1 (by decide) (by decide)) ?_
      rintro t M2 ⟨d,rfl,d1,d2,d3,d4⟩
      try simp_arith [and_self]
      exact Ok.ret ⟨_,rfl,_,_,rfl,d3,h2.trans d4⟩
    · rintro fl M1 ⟨σ,rfl,f,kk,rfl,h1,h2⟩
      have hm:zaF (.int f) (.int base) M1 = .ok (.int (f.fmod base)) M1:=zd3 (by omega)
      simp_arith [hm]
      refine Ok.ret ⟨_,rfl,?_,?_,h1,h2⟩
      · rw [Int.fmod_eq_emod_of_nonneg _ (by omega)];exact Int.emod_nonneg _ (by omega)
      · rw [Int.fmod_eq_emod_of_nonneg _ (by omega)];exact Int.emod_lt_of_pos _ h
noncomputable def BN (x:Int):Prop:=-(10 ^ 30)<=x/\x<=10 ^ 30
end My
namespace My
open PySem L2 FT
variable (kC:Addr)
noncomputable abbrev Dm:=List Int × Int
noncomputable def dmT (d:Dm):FT.T:=.tup [.tup (d.1.map .int),.int d.2]
noncomputable def BL (x:Int):Prop:=-(4 * 10 ^ 30)<=x/\x<=4 * 10 ^ 30
theorem BN.bl {x:Int} (h:BN x):BL x:=by
  unfold BN at h
  unfold BL
  omega
noncomputable def BD (n:Nat) (d:Dm):Prop:=d.1.length = n/\(∀ x ∈ d.1,BL x)/\BL d.2
noncomputable def BD0 (n:Nat) (d:Dm):Prop:=d.1.length = n/\(∀ x ∈ d.1,BN x)/\BN d.2
theorem BD0.bd {n:Nat} {d:Dm} (h:BD0 n d):BD n d:=⟨h.1,fun x hx=>(h.2.1 x hx).bl,h.2.2.bl⟩
theorem zh6 {el:FT.Ev->Mem->Out FT.T} {caps:List (Option FT.T)} {a:Nat} {n:Nat} {Q:Int->Prop} (hn:n<=1000) (h:∀ v M,PO a M->Ok (el (v :: caps) M) fun t M'=>∃ d:Int,t = .int d/\Q d/\PO a M'/\Fr [a] M M') {M:Mem} (po:PO a M) :
    Ok (qq (ye 0) yy el ((rgI n).map FT.T.int) (none :: caps) M []) fun ts M'=>∃ xs:List Int,ts = xs.map .int/\xs.length = n/\(∀ x ∈ xs,Q x)/\PO a M'/\Fr [a] M M':=by
  refine (Ok.comp (fun i acc σ M'=>∃ (xs:List Int) (v:Option FT.T),acc = xs.map .int/\xs.length = i/\(∀ x ∈ xs,Q x)/\σ = v :: caps/\PO a M'/\Fr [a] M M') (rgI n) 0 [] ⟨[],none,rfl,rfl,by simp,rfl,po,Fr.refl _ _⟩ (by rw [zao,sizeLine_eq];simp;omega) ?_).mono ?_
  · rintro k x σ M1 acc hk ⟨xs,v,rfl,hl,hq,rfl,p1,f1⟩
    show Ok ((el (some (.int x) :: caps) M1).bind fun t M3=>Out.ok (some t,some (.int x) :: caps) M3) _
    refine Ok.bind (h _ M1 p1) ?_
    rintro t M2 ⟨d,rfl,qd,p2,f2⟩
    refine Ok.ret ⟨xs ++ [d],_,by simp,by simp [hl],fun z hz=>?_,rfl,p2,f1.trans f2⟩
    rcases List.mem_append.mp hz with hz | hz
    · exact hq z hz
    · rw [List.mem_singleton.mp hz];exact qd
  · rintro ts M1 ⟨σ,xs,v,rfl,hl,hq,_,p1,f1⟩
    exact ⟨xs,rfl,by rw [hl,zao];omega,hq,p1,f1⟩
theorem zgz {xs:List FT.T} {M:Mem}:z9 (.lst xs) M = .ok (.tup xs) M:=rfl
theorem zmY (ns:List Int) (n:Nat) (hn:n<=100) (M:Mem):∃ c,zca kC [.lst (ns.map .int),.int (n:Int)] M = .ok (.int c) M:=by
  unfold zca zha
  by_cases h:n < ns.length
  · refine ⟨ns[n],?_⟩
    have a:atI (ns.map FT.T.int) (n:Int) = some (.int ns[n]):=by rw [FT.yJ];simp [h]
    have d:decide ((n:Int) < ((ns.map FT.T.int).length:Int)) = true:=decide_eq_true (by rw [List.length_map];omega)
    simp_arith [d,a]
  · have d:decide ((n:Int) < ((ns.map FT.T.int).length:Int)) = false:=decide_eq_false (by rw [List.length_map];omega)
    exact ⟨0,by simp_arith [d]⟩
end My
namespace My
open PySem L2 FT
variable (kC:Addr)
theorem zp3 {d:Int} (h:0<=d/\d < 4):∃ z:Int,atI [FT.T.int 0,.int 0,.int 0,.int 1] d = some (.int z)/\(z = 0\/z = 1):=by
  have:d = 0\/d = 1\/d = 2\/d = 3:=by omega
  rcases this with rfl | rfl | rfl | rfl
  · exact ⟨0,rfl,.inl rfl⟩
  · exact ⟨0,rfl,.inl rfl⟩
  · exact ⟨0,rfl,.inl rfl⟩
  · exact ⟨1,rfl,.inr rfl⟩
theorem zfR {a:Nat} {size sort:Int} {M:Mem} (e:PO a M) (h:0 < size) (hb:size<=10 ^ 30) :
    Ok (zas kC [.ref a,.int size,.int sort] M) fun t M'=>∃ d:Int,t = .int d/\BN d/\PO a M'/\Fr [a] M M':=by
  refine ym rfl ?_
  unfold zeZ BN
  simp only [Int.reducePow] at hb ⊢
  have m2:∀ M,qm (.int 2) (.int size) M = .ok (.int (2 * size)) M:=fun M=>zdD (by decide)
  have bd:∀ x:Int,0 < x->x<=10000000000000000000000000000000->x.natAbs < 10 ^ 100:=fun x h1 h2=>Nat.lt_of_le_of_lt (show x.natAbs<=10 ^ 31 by simp only [Nat.reducePow];omega) (Nat.pow_lt_pow_right (by decide) (by decide))
  by_cases hs:sort = 0
  · simp_arith [hs,m2,decide_true]
    refine Ok.bind (zdT kC e (by omega) (bd _ (by omega) (by omega))) ?_
    rintro t M1 ⟨d,rfl,h1,h2,h3,h4⟩
    try simp_arith [and_self]
    exact Ok.ret ⟨_,rfl,by omega,h3,h4⟩
  · have hne:(sort == 0) = false:=by simpa using hs
    simp_arith [hne]
    refine Ok.bind (zdT kC e (by omega) (bd _ (by omega) (by omega))) ?_
    rintro t M1 ⟨d,rfl,h1,h2,h3,h4⟩
    try simp_arith [and_self]
    refine Ok.bind (qN kC h3 (by decide) (by decide)) ?_
    rintro t M2 ⟨i,rfl,i1,i2,i3,i4⟩
    obtain ⟨z,hz,hz2⟩:=zp3 ⟨i1,i2⟩
    simp_arith [hz]
    refine Ok.bind (zdT kC i3 (by omega) (bd _ (by omega) (by omega))) ?_
    rintro t M3 ⟨d',rfl,g1,g2,g3,g4⟩
    have hm:qm (.int z) (.int d') M3 = .ok (.int (z * d')) M3:=zdD (by omega)
    simp_arith [hm]
    refine Ok.ret ⟨_,rfl,?_,g3,(h4.trans i4).trans g4⟩
    rcases hz2 with rfl | rfl
    · rw [Int.zero_mul];omega
    · rw [Int.one_mul];omega
end My
namespace My
open PySem L2 FT
variable (kC:Addr)
theorem zho {d:Int} (h:0<=d/\d < 4) (x y z:Int) (hx:0 < x/\x<=10 ^ 30) (hy:0 < y/\y<=10 ^ 30) (hz:0 < z/\z<=10 ^ 30):∃ b:Int,atI [FT.T.int x,.int y,.int z,.int 1000000000000000000000000000000] d = some (.int b)/\0 < b/\b<=10 ^ 30:=by
  have:d = 0\/d = 1\/d = 2\/d = 3:=by omega
  rcases this with rfl | rfl | rfl | rfl
  · exact ⟨x,rfl,hx⟩
  · exact ⟨y,rfl,hy⟩
  · exact ⟨z,rfl,hz⟩
  · exact ⟨_,rfl,by decide,by decide⟩
theorem ziM {a s:Nat} {n:Int} {M:Mem} (e:PO a M) (hs:s<=100) (hn:0<=n/\n < 100) :
    Ok (zbp kC [.ref a,.int s,.int n] M) fun t M'=>∃ (r:Nat) (ds:List Dm),t = .ref r/\M.length<=r/\M'[r]? = some (.lst (ds.map dmT))/\ds.length = n.toNat/\(∀ d ∈ ds,BD0 s d)/\PO a M'/\Fr [a] M M':=by
  refine ym rfl ?_
  unfold zel
  try simp_arith [and_self]
  refine Ok.bind (qN kC e (by decide) (by decide)) ?_
  rintro t M1 ⟨i,rfl,i1,i2,i3,i4⟩
  obtain ⟨b,hb,b1,b2⟩:=zho ⟨i1,i2⟩ 2 4 10 (by decide) (by decide) (by decide)
  simp_arith [hb]
  refine Ok.bind (qN kC i3 (by decide) (by decide)) ?_
  rintro t M2 ⟨so,rfl,s1,s2,s3,s4⟩
  simp_arith [zan (show -(2 ^ 62)<=n/\n < 2 ^ 62 by omega)]
  have al:a < M2.length:=by obtain ⟨p,q⟩:=s3;exact zdG q
  refine Ok.bind (Ok.for (fun j σ M'=>∃ (ds:List Dm) (k1 k2:Option FT.T),σ = [some (.ref a),some (.int s),some (.int n),some (.int b),some (.int so),some (.ref M2.length),k1,k2]/\M'[M2.length]? = some (.lst (ds.map dmT))/\ds.length = j/\(∀ d ∈ ds,BD0 s d)/\PO a M'/\Fr [a] M M') ?_ ?_) ?_
  · exact ⟨[],none,none,rfl,zJ,rfl,by simp,s3.fr (Fr.app _ _) (by simp),(i4.trans s4).trans (Fr.app _ _).mono⟩
  · rintro k x σ M3 hx ⟨ds,k1,k2,rfl,c1,c2,c3,c4,c5⟩
    have hk:=(zcz hx).1
    unfold zdS
    simp_arith [zan (show -(2 ^ 62)<=(s:Int)/\(s:Int) < 2 ^ 62 by omega),Int.toNat_natCast]
    refine Ok.bind (zh6 (el:=yd (zas kC) (zb (qa 1) (zb (qa 2) (zb (qa 3) qc)))) (caps:=[some (.ref a),some (.int b),some (.int so)]) (Q:=BN) (by omega) (fun v M4 p4=>zfR kC p4 b1 b2) c4) ?_
    rintro ts M4 ⟨xs,rfl,xl,d1,d2,d3⟩
    have cc:=d3.get c1 (by simp;omega)
    simp_arith [zbH cc,zgz]
    refine Ok.bind (qN kC d2 (by decide) (by decide)) ?_
    rintro t M5 ⟨so2,rfl,q1,q2,q3,q4⟩
    try simp_arith [and_self]
    refine Ok.bind (zfR kC q3 b1 b2) ?_
    rintro t M6 ⟨d',rfl,f1,f2,f3⟩
    have fr36:Fr [a] M3 M6:=(d3.trans q4).trans f3
    have c6:=fr36.get c1 (by simp;omega)
    have ap:=zdc (t:=.tup [.tup (xs.map .int),.int d']) c6 (by rw [List.length_map,sizeLine_eq];omega)
    simp_arith [ap]
    refine Ok.ret ⟨_,rfl,ds ++ [(xs,d')],_,_,rfl,?_,by simp [c2],?_,?_,?_⟩
    · rw [get_set c6];simp [dmT]
    · intro z hz
      rcases List.mem_append.mp hz with hz | hz
      · exact c3 z hz
      · rw [List.mem_singleton.mp hz];exact ⟨xl,d1,f1⟩
    · exact f2.fr (Fr.set _ _ _) (by simp;omega)
    · have l6:M.length<=M2.length:=(i4.trans s4).1
      exact (c5.trans fr36).tr (Fr.set _ _ _) (by simp;omega)
  · rintro fl M3 ⟨σ,rfl,ds,k1,k2,rfl,c1,c2,c3,c4,c5⟩
    try simp_arith [and_self]
    exact Ok.ret ⟨_,ds,rfl,(i4.trans s4).1,c1,by rw [c2,zao],c3,c4,c5⟩
theorem zoO {a s:Nat} {M:Mem} (e:PO a M) (hs:s<=100) :
    Ok (zd7 kC [.ref a,.int s] M) fun t M'=>∃ cs:List Int,t = .tup (cs.map .int)/\cs.length = s/\(∀ c ∈ cs,0<=c/\BN c)/\PO a M'/\Fr [a] M M':=by
  refine ym rfl ?_
  unfold zh0
  try simp_arith [and_self]
  refine Ok.bind (qN kC e (by decide) (by decide)) ?_
  rintro t M1 ⟨i,rfl,i1,i2,i3,i4⟩
  obtain ⟨b,hb,b1,b2⟩:=zho ⟨i1,i2⟩ 1 3 9 (by decide) (by decide) (by decide)
  simp_arith [hb,zan (show -(2 ^ 62)<=(s:Int)/\(s:Int) < 2 ^ 62 by omega),Int.toNat_natCast]
  refine Ok.bind (zh6 (el:=yd (zZ kC) (zb (qa 1) (zb (eOp zz (qa 2) (eC (.int 1))) qc))) (caps:=[some (.ref a),some (.int b)]) (Q:=fun c=>0<=c/\BN c) (by omega) (fun v M4 p4=>?_) i3) ?_
  · try simp_arith [and_self]
    simp only [Int.reducePow] at b2
    refine (zdT kC p4 (by omega) (Nat.lt_of_le_of_lt (show (b + 1).natAbs<=10 ^ 31 by simp only [Nat.reducePow];omega) (Nat.pow_lt_pow_right (by decide) (by decide)))).mono ?_
    rintro t M5 ⟨d,rfl,d1,d2,d3,d4⟩
    exact ⟨d,rfl,⟨d1,by unfold BN;simp only [Int.reducePow];omega⟩,d3,d4⟩
  · rintro ts M4 ⟨xs,rfl,xl,d1,d2,d3⟩
    simp_arith [zgz]
    exact Ok.ret ⟨xs,rfl,xl,d1,d2,i4.trans d3⟩
end My
namespace My
open PySem L2 FT
variable (kC:Addr)
theorem znR {i j:Int} {M:Mem} (m n:Nat) (h1:i.natAbs < 10 ^ m) (h2:j.natAbs < 10 ^ n) (hm:m<=3000:=by decide) (hn:n<=3000:=by decide):qm (.int i) (.int j) M = .ok (.int (i * j)) M:=zfu (Mo64.of m n hm hn h1 h2)
theorem zkd {i:Int} {M:Mem}:zfG (.int i) M = .ok (.int (if i < 0 then -i else i)) M:=rfl
noncomputable def y3 (σ:FT.Ev):Nat:=match (σ[3]?:Option (Option FT.T)) with
  | some (some (FT.T.int y))=>y.toNat
  | _=>0
theorem zj2 (a b:Int) (M:Mem):Ok (zc5 kC [.int a,.int b] M) fun t M'=>t = .int (Int.gcd a b)/\M' = M:=by
  refine ym rfl ?_
  unfold zhb
  simp_arith [zkd]
  refine Ok.bind (Ok.while (fun σ M'=>M' = M/\∃ (x y:Int) (v:Option FT.T),σ = [some (.int a),some (.int b),some (.int x),some (.int y),v]/\0<=x/\0<=y/\Int.gcd x y = Int.gcd a b) (fun σ _=>y3 σ)
    (Q:=fun σ M'=>M' = M/\∃ (x y:Int) (v:Option FT.T),σ = [some (.int a),some (.int b),some (.int (Int.gcd a b)),some (.int y),v]) (R:=fun _ _=>False) ?_ ?_) ?_
  · exact ⟨rfl,_,_,none,rfl,zht a,zht b,by rw [zfz,Int.gcd_comm,zfz,Int.gcd_comm]⟩
  · rintro σ M' ⟨rfl,x,y,v,rfl,hx,hy,hg⟩
    unfold zf7 zf9
    by_cases h0:y = 0
    · subst h0
      simp_arith [and_self]
      refine Ok.ret (.inr ⟨rfl,rfl,x,0,v,?_⟩)
      rw [← hg,gcd_zero x hx]
    · have hne:(!(y == 0)) = true:=by simpa using h0
      simp_arith [hne]
      refine Ok.ret (.inl ⟨rfl,?_⟩)
      have hm:zaF (.int x) (.int y) M' = .ok (.int (x.fmod y)) M':=zd3 h0
      simp_arith [hm]
      have e:x.fmod y = x % y:=Int.fmod_eq_emod_of_nonneg _ hy
      have l1:=Int.emod_nonneg x h0
      have l2:=Int.emod_lt_of_pos x (show 0 < y by omega)
      refine Ok.ret (.inl ⟨_,.inl rfl,⟨rfl,y,x.fmod y,_,rfl,hy,by omega,?_⟩,?_⟩)
      · rw [e];exact (zg3 x y).trans hg
      · show (x.fmod y).toNat < y.toNat
        omega
  · rintro fl M' (⟨σ,rfl,rfl,x,y,v,rfl⟩ | ⟨t,_,z⟩)
    · simp_arith [and_self]
      exact Ok.ret ⟨rfl,rfl⟩
    · exact z.elim
structure Low (t b:Int) (q:Int × Int):Prop where
  eq:q.1 * b = t * q.2
  pos:0 < q.2
  le:q.2<=b
  bd:q.1.natAbs<=t.natAbs
  nn:0<=t->0<=q.1
  cop:Int.gcd q.1 q.2 = 1
noncomputable def qT (q:Int × Int):FT.T:=.tup [.int q.1,.int q.2]
theorem zfT {t b:Int} (hb:0 < b) (bb:b.natAbs < 10 ^ 900) (M:Mem):Ok (zaJ kC [.int t,.int b] M) fun r M'=>∃ q:Int × Int,r = qT q/\Low t b q/\M' = M:=by
  refine ym rfl ?_
  unfold zg6
  simp_arith [and_self]
  refine Ok.bind (zj2 kC t b M) ?_
  rintro r M' ⟨rfl,rfl⟩
  have gp:0 < Int.gcd t b:=Int.gcd_pos_of_ne_zero_right _ (by omega)
  have gb:Int.gcd t b<=b.natAbs:=Nat.le_of_dvd (by omega) (Int.gcd_dvd_natAbs_right t b)
  have hd:∀ i M,zbE (.int i) (.int (Int.gcd t b:Int)) M = .ok (.int (i.fdiv (Int.gcd t b:Int))) M:=fun i M=>zec (ziL 900 (by decide) (by omega) (Nat.lt_of_le_of_lt (by omega) bb))
  simp_arith [decide_eq_false (show ¬ b < 0 by omega),hd]
  have d1:(Int.gcd t b:Int) ∣ t:=Int.gcd_dvd_left t b
  have d2:(Int.gcd t b:Int) ∣ b:=Int.gcd_dvd_right t b
  rw [Int.fdiv_eq_ediv_of_nonneg _ (by omega),Int.fdiv_eq_ediv_of_nonneg _ (by omega)]
  have e1:=Int.ediv_mul_cancel d1
  have e2:=Int.ediv_mul_cancel d2
  have g0:0 < (Int.gcd t b:Int):=by omega
  have co:Int.gcd (t / (Int.gcd t b:Int)) (b / (Int.gcd t b:Int)) = 1:=by
    have:=Int.gcd_mul_right (t / (Int.gcd t b:Int)) (Int.gcd t b:Int) (b / (Int.gcd t b:Int))
    rw [e1,e2] at this
    rw [Int.natAbs_natCast] at this
    exact Nat.eq_of_mul_eq_mul_right gp (by omega)
  generalize (Int.gcd t b:Int) = g at *
  generalize t / g = u at *
  generalize b / g = w at *
  refine Ok.ret ⟨(u,w),rfl,⟨?_,?_,?_,?_,?_,co⟩,rfl⟩
  · show u * b = t * w
    rw [← e1,← e2]
    simp [Int.mul_comm,Int.mul_left_comm,Int.mul_assoc]
  · show 0 < w
    rw [← e2] at hb
    exact Int.pos_of_mul_pos_left hb g0
  · show w<=b
    have hw:0 < w:=by rw [← e2] at hb;exact Int.pos_of_mul_pos_left hb g0
    have:=Int.mul_le_mul_of_nonneg_left (show 1<=g by omega) (show 0<=w by omega)
    rw [e2] at this
    omega
  · show u.natAbs<=t.natAbs
    rw [← e1,Int.natAbs_mul]
    exact Nat.le_mul_of_pos_right _ (by omega)
  · intro ht
    show 0<=u
    rw [← e1] at ht
    exact Int.nonneg_of_mul_nonneg_left ht g0
end My
namespace My
open PySem L2 FT
variable (kC:Addr)
noncomputable def NB (m:Nat) (x:Int):Prop:=x.natAbs < 10 ^ m
theorem NB.mul {m n:Nat} {x y:Int} (h:NB m x) (g:NB n y):NB (m + n) (x * y):=by
  unfold NB at *
  rw [Int.natAbs_mul,Nat.pow_add]
  exact Nat.mul_lt_mul'' h g
theorem NB.mono {m n:Nat} {x:Int} (h:NB m x) (l:m<=n):NB n x:=Nat.lt_of_lt_of_le h (Nat.pow_le_pow_right (by decide) l)
theorem NB.add {m:Nat} {x y:Int} (h:NB m x) (g:NB m y):NB (m + 1) (x + y):=by
  unfold NB at *
  rw [Nat.pow_succ]
  omega
theorem NB.sub {m:Nat} {x y:Int} (h:NB m x) (g:NB m y):NB (m + 1) (x - y):=by
  unfold NB at *
  rw [Nat.pow_succ]
  omega
theorem NB.neg {m:Nat} {x:Int} (h:NB m x):NB m (-x):=by unfold NB at *;omega
theorem BN.nb {x:Int} (h:BN x):NB 31 x:=by
  unfold BN at h
  unfold NB
  simp only [Int.reducePow,Nat.reducePow] at *
  omega
theorem BL.nb {x:Int} (h:BL x):NB 31 x:=by
  unfold BL at h
  unfold NB
  simp only [Int.reducePow,Nat.reducePow] at *
  omega
theorem qR {x y:Int} {M:Mem} {m n:Nat} (h:NB m x) (g:NB n y) (hm:m<=3000:=by decide) (hn:n<=3000:=by decide):qm (.int x) (.int y) M = .ok (.int (x * y)) M:=znR m n h g hm hn
theorem sum_ints {xs:List Int} {M:Mem}:sumK (.lst (xs.map .int)) M = .ok (.int xs.sum) M:=by
  have:zdF (xs.map FT.T.int) = some xs:=by
    induction xs with
    | nil=>rfl
    | cons x xs ih=>rw [List.map_cons];unfold zdF;rw [ih];rfl
  show (match zdF (xs.map FT.T.int) with | some bs=>Out.ok (FT.T.int bs.sum) M | none=>.bad) = _
  rw [this]
end My
namespace My
noncomputable abbrev Rw:=Nat->Int
noncomputable def ex (r:Rw) (f:List Nat->Int):List Nat->List Nat->Int
  | _,[]=>0
  | pre,c :: cs=>r c * f (pre ++ cs) - ex r f (pre ++ [c]) cs
noncomputable def D:List Rw->List Nat->Int
  | [],_=>1
  | r :: rs,cols=>ex r (D rs) [] cols
theorem zc6 {r:Rw} {F G:List Nat->Int}:∀ (cs pre:List Nat),(∀ l,F (pre ++ l) = G (pre ++ l))->ex r F pre cs = ex r G pre cs
  | [],_,_=>rfl
  | c :: cs,pre,h=>by
    have ih:=zc6 (r:=r) (F:=F) (G:=G) cs (pre ++ [c]) (fun l=>by rw [List.append_assoc];exact h _)
    show r c * F (pre ++ cs) - ex r F (pre ++ [c]) cs = r c * G (pre ++ cs) - ex r G (pre ++ [c]) cs
    rw [h cs,ih]
theorem zjU {r s:Rw} {f:List Nat->Int}:∀ (cs pre:List Nat),ex (fun c=>r c + s c) f pre cs = ex r f pre cs + ex s f pre cs
  | [],_=>by simp [ex]
  | c :: cs,pre=>by
    unfold ex
    rw [zjU cs,Int.add_mul]
    omega
theorem zjT {r:Rw} {k:Int} {f:List Nat->Int}:∀ (cs pre:List Nat),ex (fun c=>k * r c) f pre cs = k * ex r f pre cs
  | [],_=>by simp [ex]
  | c :: cs,pre=>by
    unfold ex
    rw [zjT cs,Int.mul_sub,Int.mul_assoc]
theorem zfB {r:Rw} {f g:List Nat->Int}:∀ (cs pre:List Nat),ex r (fun l=>f l + g l) pre cs = ex r f pre cs + ex r g pre cs
  | [],_=>by simp [ex]
  | c :: cs,pre=>by
    unfold ex
    rw [zfB cs,Int.mul_add]
    omega
theorem zd8 {r:Rw} {k:Int} {f:List Nat->Int}:∀ (cs pre:List Nat),ex r (fun l=>k * f l) pre cs = k * ex r f pre cs
  | [],_=>by simp [ex]
  | c :: cs,pre=>by
    unfold ex
    rw [zd8 cs,Int.mul_sub,Int.mul_left_comm]
theorem zhd {r:Rw} {f:List Nat->Int} {g:List Nat->List Nat}:∀ (cs pre pre':List Nat),(∀ l,g (pre ++ l) = pre' ++ l)->ex r (fun l=>f (g l)) pre cs = ex r f pre' cs
  | [],_,_,_=>rfl
  | c :: cs,pre,pre',h=>by
    unfold ex
    rw [h cs,zhd cs (pre ++ [c]) (pre' ++ [c]) (fun l=>by rw [List.append_assoc,h];simp)]
noncomputable def T2 (r s:Rw) (f:List Nat->Int):List Nat->List Nat->Int
  | _,[]=>0
  | pre,c :: cs=>r c * ex s f pre cs - s c * ex r f pre cs + T2 r s f (pre ++ [c]) cs
theorem zib {r s:Rw} {f:List Nat->Int}:∀ (cs pre:List Nat),T2 r s f pre cs = - T2 s r f pre cs
  | [],_=>by simp [T2]
  | c :: cs,pre=>by
    unfold T2
    rw [zib cs]
    omega
theorem ziK {r s:Rw} {f:List Nat->Int}:∀ (cs pre:List Nat),ex r (fun l=>ex s f pre (l.drop pre.length)) pre cs = T2 r s f pre cs
  | [],_=>rfl
  | c :: cs,pre=>by
    unfold ex T2
    rw [List.drop_left]
    have e1:ex r (fun l=>ex s f pre (l.drop pre.length)) (pre ++ [c]) cs = ex r (fun l=>s c * f (pre ++ l.drop (pre ++ [c]).length) + (-1) * ex s f (pre ++ [c]) (l.drop (pre ++ [c]).length)) (pre ++ [c]) cs:=by
      refine zc6 cs _ fun l=>?_
      have a1:(pre ++ [c] ++ l).drop pre.length = c :: l:=by rw [List.append_assoc,List.drop_left];rfl
      have a2:(pre ++ [c] ++ l).drop (pre ++ [c]).length = l:=List.drop_left
      rw [a1,a2]
      rw [show ex s f pre (c :: l) = s c * f (pre ++ l) - ex s f (pre ++ [c]) l from rfl]
      omega
    rw [e1,zfB,zd8,zd8,ziK cs (pre ++ [c]),zhd (g:=fun l=>pre ++ l.drop (pre ++ [c]).length) cs (pre ++ [c]) pre (fun l=>by rw [List.drop_left])]
    omega
theorem zkf (r s:Rw) (rs:List Rw) (cols:List Nat):D (r :: s :: rs) cols = - D (s :: r :: rs) cols:=by
  show ex r (fun l=>ex s (D rs) [] l) [] cols = - ex s (fun l=>ex r (D rs) [] l) [] cols
  have h1:=ziK (r:=r) (s:=s) (f:=D rs) cols []
  have h2:=ziK (r:=s) (s:=r) (f:=D rs) cols []
  simp only [List.length_nil,List.drop_zero] at h1 h2
  rw [h1,h2,zib]
theorem zoQ (r:Rw) (rs:List Rw) (cols:List Nat):D (r :: r :: rs) cols = 0:=by
  have:=zkf r r rs cols
  omega
theorem zfA {r:Rw} {f:List Nat->Int} (h:∀ l,f l = 0):∀ (cs pre:List Nat),ex r f pre cs = 0
  | [],_=>rfl
  | c :: cs,pre=>by
    unfold ex
    rw [h,zfA h cs]
    simp
theorem zfJ (r:Rw):∀ (rs:List Rw) (cols:List Nat),r ∈ rs->D (r :: rs) cols = 0
  | [],_,h=>by simp at h
  | s :: rs,cols,h=>by
    rcases List.mem_cons.mp h with rfl | h
    · exact zoQ r rs cols
    · rw [zkf]
      show - ex s (D (r :: rs)) [] cols = 0
      rw [zfA (fun l=>zfJ r rs l h)]
      rfl
theorem zkh:∀ (A:List Rw) (cols:List Nat) (i k:Nat) (r:Rw),i ≠ k->A[i]? = some r->A[k]? = some r->D A cols = 0
  | [],_,i,_,_,_,h,_=>by simp at h
  | a :: A,cols,0,0,_,h,_,_=>absurd rfl h
  | a :: A,cols,0,k + 1,r,_,h1,h2=>by cases h1;exact zfJ a A cols (List.mem_of_getElem? (by simpa using h2))
  | a :: A,cols,i + 1,0,r,_,h1,h2=>by cases h2;exact zfJ a A cols (List.mem_of_getElem? (by simpa using h1))
  | a :: A,cols,i + 1,k + 1,r,hne,h1,h2=>by
    show ex a (D A) [] cols = 0
    exact zfA (fun l=>zkh A l i k r (by omega) (by simpa using h1) (by simpa using h2)) _ _
theorem zff (s t:Rw):∀ (A:List Rw) (k:Nat) (cols:List Nat),k < A.length->D (A.set k (fun c=>s c + t c)) cols = D (A.set k s) cols + D (A.set k t) cols
  | [],k,_,h=>by simp at h
  | a :: A,0,cols,_=>by
    show ex (fun c=>s c + t c) (D A) [] cols = ex s (D A) [] cols + ex t (D A) [] cols
    exact zjU _ _
  | a :: A,k + 1,cols,h=>by
    show ex a (D (A.set k _)) [] cols = ex a (D (A.set k s)) [] cols + ex a (D (A.set k t)) [] cols
    rw [← zfB]
    exact zc6 _ _ fun l=>zff s t A k _ (by simpa using h)
theorem zee (s:Rw) (x:Int):∀ (A:List Rw) (k:Nat) (cols:List Nat),k < A.length->D (A.set k (fun c=>x * s c)) cols = x * D (A.set k s) cols
  | [],k,_,h=>by simp at h
  | a :: A,0,cols,_=>by
    show ex (fun c=>x * s c) (D A) [] cols = x * ex s (D A) [] cols
    exact zjT _ _
  | a :: A,k + 1,cols,h=>by
    show ex a (D (A.set k _)) [] cols = x * ex a (D (A.set k s)) [] cols
    rw [← zd8]
    exact zc6 _ _ fun l=>zee s x A k _ (by simpa using h)
end My
namespace My
noncomputable def sm2:List Nat->(Nat->Int)->Int
  | [],_=>0
  | j :: js,g=>g j + sm2 js g
theorem zk {g h:Nat->Int}:∀ {js:List Nat},(∀ j ∈ js,g j = h j)->sm2 js g = sm2 js h
  | [],_=>rfl
  | j :: js,e=>by
    show g j + sm2 js g = h j + sm2 js h
    rw [e j (.head _),zk (js:=js) fun k hk=>e k (.tail _ hk)]
theorem zQ {g h:Nat->Int}:∀ {js:List Nat},sm2 js (fun j=>g j + h j) = sm2 js g + sm2 js h
  | []=>rfl
  | j :: js=>by
    show g j + h j + sm2 js _ = g j + sm2 js g + (h j + sm2 js h)
    rw [zQ];omega
theorem qu {k:Int} {g:Nat->Int}:∀ {js:List Nat},sm2 js (fun j=>k * g j) = k * sm2 js g
  | []=>by simp [sm2]
  | j :: js=>by
    show k * g j + sm2 js _ = k * (g j + sm2 js g)
    rw [qu,Int.mul_add]
theorem qL {g:Nat->Int}:∀ {js:List Nat},(∀ j ∈ js,g j = 0)->sm2 js g = 0
  | [],_=>rfl
  | j :: js,e=>by
    show g j + sm2 js g = 0
    rw [e j (.head _),qL fun k hk=>e k (.tail _ hk)];rfl
theorem zcT {g:Nat->Nat->Int}:∀ {js ks:List Nat},sm2 js (fun j=>sm2 ks (g j)) = sm2 ks (fun k=>sm2 js (fun j=>g j k))
  | [],ks=>(qL (fun _ _=>rfl)).symm
  | j :: js,ks=>by
    show sm2 ks (g j) + sm2 js (fun j=>sm2 ks (g j)) = sm2 ks (fun k=>g j k + sm2 js (fun j=>g j k))
    rw [zcT,zQ]
theorem yK {g:Nat->Int} {k:Nat}:∀ {js:List Nat},js.Nodup->k ∈ js->(∀ j ∈ js,j ≠ k->g j = 0)->sm2 js g = g k
  | [],_,h,_=>by simp at h
  | j :: js,nd,h,z=>by
    obtain ⟨n1,n2⟩:=List.nodup_cons.mp nd
    show g j + sm2 js g = g k
    rcases List.mem_cons.mp h with rfl | h
    · rw [qL fun i hi=>z i (.tail _ hi) fun e=>n1 (e ▸ hi)];omega
    · rw [yK n2 h fun i hi hk=>z i (.tail _ hi) hk,z j (.head _) (fun e=>n1 (e ▸ h))];omega
noncomputable def un (j:Nat):Rw:=fun c=>if c = j then 1 else 0
noncomputable def Sup (n:Nat) (v:Rw):Prop:=∀ c,n<=c->v c = 0
theorem zng {n:Nat} {v:Rw} (h:Sup n v):(fun c=>sm2 (List.range n) fun j=>v j * un j c) = v:=by
  funext c
  by_cases hc:c < n
  · rw [yK (k:=c) List.nodup_range (List.mem_range.mpr hc) fun j _ hj=>by unfold un;rw [if_neg (Ne.symm hj)];simp]
    simp [un]
  · rw [h c (by omega)]
    refine qL fun j hj=>?_
    have:=List.mem_range.mp hj
    unfold un
    rw [if_neg (by omega)];simp
theorem zlE {A:List Rw} {k:Nat} {cols:List Nat} {v:Rw} (hk:k < A.length):∀ js:List Nat,D (A.set k fun c=>sm2 js fun j=>v j * un j c) cols = sm2 js fun j=>v j * D (A.set k (un j)) cols
  | []=>by
    have:=zee (fun _=>0) 0 A k cols hk
    simp only [Int.zero_mul] at this
    exact this
  | j :: js=>by
    have:=zff (fun c=>v j * un j c) (fun c=>sm2 js fun j=>v j * un j c) A k cols hk
    show D (A.set k fun c=>v j * un j c + sm2 js fun j=>v j * un j c) cols = v j * D (A.set k (un j)) cols + sm2 js fun j=>v j * D (A.set k (un j)) cols
    rw [this,zee (un j) (v j) A k cols hk,zlE hk js]
noncomputable def det (n:Nat) (A:List Rw):Int:=D A (List.range n)
noncomputable def cof (n:Nat) (A:List Rw) (k j:Nat):Int:=det n (A.set k (un j))
noncomputable def dt (n:Nat) (v w:Rw):Int:=sm2 (List.range n) fun j=>v j * w j
theorem zmW {n:Nat} {A:List Rw} {k:Nat} {v:Rw} (hk:k < A.length) (h:Sup n v):dt n v (cof n A k) = det n (A.set k v):=by
  have:=zlE (A:=A) (cols:=List.range n) (v:=v) hk (List.range n)
  rw [zng h] at this
  exact this.symm
theorem zcb {n:Nat} {A:List Rw} {i k:Nat} {r:Rw} (h:i ≠ k) (h1:A[i]? = some r) (h2:A[k]? = some r):det n A = 0:=zkh A _ i k r h h1 h2
theorem zb6 {A:List Rw} {k:Nat} {v:Rw} (h:k < A.length):(A.set k v)[k]? = some v:=by rw [List.getElem?_set,if_pos rfl,if_pos h]
theorem zlj {n:Nat} {A:List Rw} {i k:Nat} {x y:Rw} (hik:i ≠ k) (hi:i < A.length) (hk:k < A.length):det n ((A.set i x).set k y) = - det n ((A.set i y).set k x):=by
  have li:∀ z:Rw,i < (A.set k z).length:=fun z=>by simpa using hi
  have lk:∀ z:Rw,k < (A.set i z).length:=fun z=>by simpa using hk
  have z:∀ v:Rw,det n ((A.set i v).set k v) = 0:=fun v=>zcb (i:=i) (k:=k) (r:=v) hik (by rw [List.getElem?_set,if_neg (Ne.symm hik),zb6 hi]) (zb6 (lk v))
  have s:=z fun c=>x c + y c
  have e1:=zff x y (A.set i fun c=>x c + y c) k (List.range n) (lk _)
  have c1:∀ v w:Rw,(A.set i v).set k w = (A.set k w).set i v:=fun v w=>List.set_comm _ _ hik
  have e2:∀ w:Rw,det n ((A.set i fun c=>x c + y c).set k w) = det n ((A.set i x).set k w) + det n ((A.set i y).set k w):=fun w=>by
    rw [c1,c1,c1]
    exact zff x y (A.set k w) i (List.range n) (li w)
  have e1':det n ((A.set i fun c=>x c + y c).set k fun c=>x c + y c) = det n ((A.set i fun c=>x c + y c).set k x) + det n ((A.set i fun c=>x c + y c).set k y):=e1
  rw [s,e2 x,e2 y] at e1'
  have zx:=z x
  have zy:=z y
  omega
end My
namespace My
theorem zkg {A:List Rw} {k:Nat} {cols:List Nat} {v:Nat->Int} {R:Nat->Rw} (hk:k < A.length):∀ js:List Nat,D (A.set k fun c=>sm2 js fun j=>v j * R j c) cols = sm2 js fun j=>v j * D (A.set k (R j)) cols
  | []=>by
    have:=zee (fun _=>0) 0 A k cols hk
    simp only [Int.zero_mul] at this
    exact this
  | j :: js=>by
    have:=zff (fun c=>v j * R j c) (fun c=>sm2 js fun j=>v j * R j c) A k cols hk
    show D (A.set k fun c=>v j * R j c + sm2 js fun j=>v j * R j c) cols = v j * D (A.set k (R j)) cols + sm2 js fun j=>v j * D (A.set k (R j)) cols
    rw [this,zee (R j) (v j) A k cols hk,zkg hk js]
noncomputable def rowOf (A:List Rw) (i:Nat):Rw:=(A[i]?).getD fun _=>0
theorem zcm {A:List Rw} {i:Nat} (h:i < A.length):A[i]? = some (rowOf A i):=by
  unfold rowOf
  rw [List.getElem?_eq_getElem h];rfl
theorem zdz {A:List Rw} {i r:Nat} {a:Rw} (h:r < A.length):rowOf (A.set r a) i = if i = r then a else rowOf A i:=by
  unfold rowOf
  rw [List.getElem?_set]
  by_cases e:i = r
  · rw [if_pos e.symm,if_pos h,if_pos e];rfl
  · rw [if_neg (Ne.symm e),if_neg e]
theorem zcU {A:List Rw} {i:Nat} (h:i < A.length):A.set i (rowOf A i) = A:=by
  apply List.ext_getElem?
  intro k
  rw [List.getElem?_set]
  by_cases e:i = k
  · subst e
    rw [if_pos rfl,if_pos h,zcm h]
  · rw [if_neg e]
structure Bas (n:Nat) (A:List Rw) (W:Nat->Rw) (b ε:Int):Prop where
  len:A.length = n
  sup:∀ i,i < n->Sup n (rowOf A i)
  eps:ε * ε = 1
  dtm:b = ε * det n A
  cfm:∀ i j,i < n->j < n->W i j = ε * cof n A i j
  left:∀ j k,j < n->k < n->sm2 (List.range n) (fun i=>W i j * rowOf A i k) = if j = k then b else 0
section
variable {n:Nat} {A:List Rw} {W:Nat->Rw} {b ε:Int} {a:Rw} {r:Nat}
theorem zlg {v w w':Rw} (h:∀ j,j < n->w j = w' j):dt n v w = dt n v w':=zk fun j hj=>by rw [h j (List.mem_range.mp hj)]
theorem Bas.gain (h:Bas n A W b ε) {i:Nat} (hi:i < n) (ha:Sup n a):dt n a (W i) = ε * det n (A.set i a):=by
  rw [zlg (w':=fun j=>ε * My.cof n A i j) (fun j hj=>h.cfm i j hi hj),← zmW (by rw [h.len];exact hi) ha]
  unfold dt
  rw [← qu]
  exact zk fun j _=>Int.mul_left_comm _ _ _
theorem Bas.cramer (h:Bas n A W b ε) (ha:Sup n a):(fun c=>b * a c) = fun c=>sm2 (List.range n) fun i=>dt n a (W i) * rowOf A i c:=by
  funext c
  by_cases hc:c < n
  · have e1:(sm2 (List.range n) fun i=>dt n a (W i) * rowOf A i c) = sm2 (List.range n) fun i=>sm2 (List.range n) fun j=>a j * W i j * rowOf A i c:=zk fun i _=>by
      unfold dt
      rw [Int.mul_comm,← qu]
      exact zk fun j _=>Int.mul_comm _ _
    rw [e1,zcT]
    have e2:(sm2 (List.range n) fun j=>sm2 (List.range n) fun i=>a j * W i j * rowOf A i c) = sm2 (List.range n) fun j=>a j * (if j = c then b else 0):=zk fun j hj=>by
      rw [← h.left j c (List.mem_range.mp hj) hc,← qu]
      exact zk fun i _=>Int.mul_assoc _ _ _
    rw [e2,yK (k:=c) List.nodup_range (List.mem_range.mpr hc) fun j _ hj=>by rw [if_neg hj];simp]
    rw [if_pos rfl,Int.mul_comm]
  · rw [ha c (by omega),Int.mul_zero]
    exact (qL fun i hi=>by rw [h.sup i (List.mem_range.mp hi) c (by omega),Int.mul_zero]).symm
theorem Bas.exact (h:Bas n A W b ε) (ha:Sup n a) (hr:r < n) {i j:Nat} (hi:i < n) (hir:i ≠ r) (hj:j < n) :
    b * (ε * My.cof n (A.set r a) i j) = dt n a (W r) * W i j - dt n a (W i) * W r j:=by
  have lr:r < A.length:=by rw [h.len];exact hr
  have li:i < A.length:=by rw [h.len];exact hi
  have lr':r < (A.set i (un j)).length:=by simpa using lr
  have e1:b * My.cof n (A.set r a) i j = sm2 (List.range n) fun k=>dt n a (W k) * D ((A.set i (un j)).set r (rowOf A k)) (List.range n):=by
    rw [← zkg lr',← h.cramer ha,zee a b _ r _ lr']
    show b * D ((A.set r a).set i (un j)) _ = _
    rw [List.set_comm _ _ (Ne.symm hir)]
  have tr:(A.set i (un j)).set r (rowOf A r) = A.set i (un j):=by
    have:=zcU lr'
    rw [zdz li,if_neg (Ne.symm hir)] at this
    exact this
  have ti:det n ((A.set i (un j)).set r (rowOf A i)) = - My.cof n A r j:=by
    rw [zlj hir li lr,zcU li]
    rfl
  have to:∀ k,k < n->k ≠ r->k ≠ i->det n ((A.set i (un j)).set r (rowOf A k)) = 0:=fun k hk k1 k2=>
    zcb (i:=k) (k:=r) (r:=rowOf A k) k1 (by rw [List.getElem?_set,if_neg (Ne.symm k1),List.getElem?_set,if_neg (Ne.symm k2)];exact zcm (by rw [h.len];exact hk)) (zb6 lr')
  have e2:(sm2 (List.range n) fun k=>dt n a (W k) * D ((A.set i (un j)).set r (rowOf A k)) (List.range n)) = sm2 (List.range n) fun k=>(if k = r then dt n a (W r) * My.cof n A i j else 0) + (if k = i then - (dt n a (W i) * My.cof n A r j) else 0):=zk fun k hk=>by
    have hk:=List.mem_range.mp hk
    show dt n a (W k) * det n ((A.set i (un j)).set r (rowOf A k)) = _
    by_cases k1:k = r
    · subst k1
      rw [if_pos rfl,if_neg (Ne.symm hir),tr,Int.add_zero];rfl
    · by_cases k2:k = i
      · subst k2
        rw [if_neg k1,if_pos rfl,ti,Int.mul_neg,Int.zero_add]
      · rw [if_neg k1,if_neg k2,to k hk k1 k2];simp
  rw [e2,zQ,yK (k:=r) List.nodup_range (List.mem_range.mpr hr) (fun k _ hk=>if_neg hk),yK (k:=i) List.nodup_range (List.mem_range.mpr hi) (fun k _ hk=>if_neg hk),if_pos rfl,if_pos rfl] at e1
  rw [h.cfm i j hi hj,h.cfm r j hr hj,Int.mul_left_comm b,e1,Int.mul_add,Int.mul_neg,Int.mul_left_comm ε,Int.mul_left_comm ε]
  omega
noncomputable def mv (n:Nat) (A:List Rw) (W:Nat->Rw) (a:Rw) (r:Nat) (ε:Int):Nat->Rw:=fun i j=>if i = r then W r j else ε * cof n (A.set r a) i j
theorem Bas.move (h:Bas n A W b ε) (b0:b ≠ 0) (ha:Sup n a) (hr:r < n):Bas n (A.set r a) (mv n A W a r ε) (dt n a (W r)) ε:=by
  have lr:r < A.length:=by rw [h.len];exact hr
  refine ⟨by simp [h.len],fun i hi=>?_,h.eps,h.gain hr ha,fun i j hi hj=>?_,fun j k hj hk=>?_⟩
  · rw [zdz lr]
    split
    · exact ha
    · exact h.sup i hi
  · unfold mv
    split
    · rename_i e
      subst e
      rw [h.cfm i j hi hj]
      unfold My.cof
      rw [List.set_set]
    · rfl
  · refine Int.eq_of_mul_eq_mul_left b0 ?_
    rw [← qu]
    have e1:(sm2 (List.range n) fun i=>b * (mv n A W a r ε i j * rowOf (A.set r a) i k)) = sm2 (List.range n) fun i=>(dt n a (W r) * (W i j * rowOf A i k) + (- W r j) * (dt n a (W i) * rowOf A i k)) + (if i = r then b * (W r j * a k) else 0):=zk fun i hi=>by
      have hi:=List.mem_range.mp hi
      rw [zdz lr]
      unfold mv
      by_cases e:i = r
      · subst e
        rw [if_pos rfl,if_pos rfl,if_pos rfl]
        have:dt n a (W i) * (W i j * rowOf A i k) = W i j * (dt n a (W i) * rowOf A i k):=Int.mul_left_comm _ _ _
        rw [this,Int.neg_mul];omega
      · rw [if_neg e,if_neg e,if_neg e,← Int.mul_assoc,h.exact ha hr hi e hj,Int.sub_mul,Int.neg_mul,Int.add_zero,Int.mul_assoc,Int.mul_assoc,Int.mul_left_comm (W r j)]
        omega
    rw [e1,zQ,zQ,qu,qu,h.left j k hj hk,yK (k:=r) List.nodup_range (List.mem_range.mpr hr) (fun i _ hi=>if_neg hi),if_pos rfl]
    have cr:b * a k = sm2 (List.range n) fun i=>dt n a (W i) * rowOf A i k:=congrFun (h.cramer ha) k
    rw [← cr]
    have:-W r j * (b * a k) = - (b * (W r j * a k)):=by rw [Int.neg_mul,Int.mul_left_comm]
    rw [this]
    by_cases e:j = k
    · rw [if_pos e,if_pos e]
      have:=Int.mul_comm b (dt n a (W r))
      omega
    · rw [if_neg e,if_neg e];simp;omega
end
end My
namespace My
theorem ze4 {j:Nat} {f:List Nat->Int}:∀ (cs pre:List Nat),j ∉ cs->ex (un j) f pre cs = 0
  | [],_,_=>rfl
  | c :: cs,pre,h=>by
    have h1:c ≠ j:=fun e=>h (e ▸ .head _)
    show un j c * f (pre ++ cs) - ex (un j) f (pre ++ [c]) cs = 0
    rw [ze4 cs _ fun q=>h (.tail _ q)]
    simp [un,h1]
theorem zke:∀ (js:List Nat),js.Nodup->D (js.map un) js = 1
  | [],_=>rfl
  | j :: js,h=>by
    obtain ⟨h1,h2⟩:=List.nodup_cons.mp h
    show un j j * D (js.map un) ([] ++ js) - ex (un j) (D (js.map un)) ([] ++ [j]) js = 1
    rw [ze4 js _ h1,List.nil_append,zke js h2]
    simp [un]
theorem zbo {n i:Nat} (h:i < n):rowOf ((List.range n).map un) i = un i:=by
  unfold rowOf
  rw [List.getElem?_map,List.getElem?_range h];rfl
theorem zi8 {n j:Nat} (h:j < n):Sup n (un j):=fun c hc=>if_neg (by omega)
theorem zgo {n j:Nat} {v:Rw} (h:j < n):dt n (un j) v = v j:=by
  unfold dt
  rw [yK (k:=j) List.nodup_range (List.mem_range.mpr h) fun i _ hi=>by unfold un;rw [if_neg hi];simp]
  simp [un]
theorem zh5 {n:Nat} {v w:Rw}:dt n v w = dt n w v:=zk fun j _=>Int.mul_comm _ _
theorem Bas.first (n:Nat):Bas n ((List.range n).map un) un 1 1:=by
  have dd:det n ((List.range n).map un) = 1:=zke _ List.nodup_range
  refine ⟨by simp,fun i hi=>?_,rfl,by rw [dd];rfl,fun i j hi hj=>?_,fun j k hj hk=>?_⟩
  · rw [zbo hi];exact zi8 hi
  · have li:i < ((List.range n).map un).length:=by simpa using hi
    rw [Int.one_mul]
    by_cases e:i = j
    · subst e
      have:=zcU li
      rw [zbo hi] at this
      unfold cof
      rw [this,dd]
      simp [un]
    · have:cof n ((List.range n).map un) i j = 0:=zcb (i:=j) (k:=i) (r:=un j) (Ne.symm e) (by rw [List.getElem?_set,if_neg e,zcm (by simpa using hj),zbo hj]) (zb6 li)
      rw [this]
      exact if_neg (Ne.symm e)
  · have:(sm2 (List.range n) fun i=>un i j * rowOf ((List.range n).map un) i k) = sm2 (List.range n) fun i=>un i j * un i k:=zk fun i hi=>by rw [zbo (List.mem_range.mp hi)]
    rw [this,yK (k:=j) List.nodup_range (List.mem_range.mpr hj) fun i _ hi=>by unfold un;rw [if_neg (Ne.symm hi)];simp]
    unfold un
    rw [if_pos rfl,Int.one_mul]
    by_cases e:j = k
    · rw [if_pos e,if_pos e.symm]
    · rw [if_neg e,if_neg (Ne.symm e)]
theorem Bas.right {n:Nat} {A:List Rw} {W:Nat->Rw} {b ε:Int} (h:Bas n A W b ε) {i k:Nat} (hi:i < n) (hk:k < n):dt n (rowOf A k) (W i) = if k = i then b else 0:=by
  have li:i < A.length:=by rw [h.len];exact hi
  have lk:k < A.length:=by rw [h.len];exact hk
  rw [h.gain hi (h.sup k hk)]
  by_cases e:k = i
  · subst e
    rw [if_pos rfl,zcU lk,h.dtm]
  · rw [if_neg e,zcb (i:=k) (k:=i) (r:=rowOf A k) e (by rw [List.getElem?_set,if_neg (Ne.symm e)];exact zcm lk) (zb6 li),Int.mul_zero]
theorem Bas.only {n:Nat} {A:List Rw} {W:Nat->Rw} {b ε:Int} (h:Bas n A W b ε) (b0:b ≠ 0) {z:Rw} (hz:∀ i,i < n->dt n (rowOf A i) z = 0) {k:Nat} (hk:k < n):z k = 0:=by
  have e:(sm2 (List.range n) fun i=>W i k * dt n (rowOf A i) z) = b * z k:=by
    have e1:(sm2 (List.range n) fun i=>W i k * dt n (rowOf A i) z) = sm2 (List.range n) fun i=>sm2 (List.range n) fun j=>W i k * rowOf A i j * z j:=zk fun i _=>by
      unfold dt
      rw [← qu]
      exact zk fun j _=>(Int.mul_assoc _ _ _).symm
    rw [e1,zcT]
    have e2:(sm2 (List.range n) fun j=>sm2 (List.range n) fun i=>W i k * rowOf A i j * z j) = sm2 (List.range n) fun j=>z j * (if k = j then b else 0):=zk fun j hj=>by
      rw [← h.left k j hk (List.mem_range.mp hj),← qu]
      exact zk fun i _=>Int.mul_comm _ _
    rw [e2,yK (k:=k) List.nodup_range (List.mem_range.mpr hk) fun j _ hj=>by rw [if_neg (Ne.symm hj)];simp]
    rw [if_pos rfl,Int.mul_comm]
  rw [qL fun i hi=>by rw [hz i (List.mem_range.mp hi),Int.mul_zero]] at e
  rcases Int.mul_eq_zero.mp e.symm with q | q
  · exact absurd q b0
  · exact q
noncomputable def LP (n:Nat) (v:Rw):Prop:=∃ k,k < n/\(∀ j,j < k->v j = 0)/\0 < v k
theorem LP.mul {n:Nat} {v:Rw} {x:Int} (h:LP n v) (x0:0 < x):LP n fun j=>x * v j:=by
  obtain ⟨k,hk,h1,h2⟩:=h
  exact ⟨k,hk,fun j hj=>by show x * v j = 0;rw [h1 j hj,Int.mul_zero],Int.mul_pos x0 h2⟩
theorem LP.add {n:Nat} {v w:Rw} (h:LP n v) (g:LP n w):LP n fun j=>v j + w j:=by
  obtain ⟨k,hk,h1,h2⟩:=h
  obtain ⟨l,hl,g1,g2⟩:=g
  rcases Nat.lt_trichotomy k l with q | q | q
  · exact ⟨k,hk,fun j hj=>by show v j + w j = 0;rw [h1 j hj,g1 j (by omega)];rfl,by show 0 < v k + w k;rw [g1 k q];omega⟩
  · subst q;exact ⟨k,hk,fun j hj=>by show v j + w j = 0;rw [h1 j hj,g1 j hj];rfl,by show 0 < v k + w k;omega⟩
  · exact ⟨l,hl,fun j hj=>by show v j + w j = 0;rw [h1 j (by omega),g1 j hj];rfl,by show 0 < v l + w l;rw [h1 l q];omega⟩
theorem LP.not {n:Nat} {v:Rw} (h:LP n v):¬ LP n fun j=>- v j:=by
  obtain ⟨k,hk,h1,h2⟩:=h
  rintro ⟨l,hl,g1,g2⟩
  rcases Nat.lt_trichotomy k l with q | q | q
  · have:- v k = 0:=g1 k q;omega
  · subst q;have:0 < - v k:=g2;omega
  · have:=h1 l q;have:0 < - v l:=g2;omega
theorem LP.div {n:Nat} {v w:Rw} {b:Int} (b0:0 < b) (h:LP n v) (e:∀ j,j < n->b * w j = v j):LP n w:=by
  obtain ⟨k,hk,h1,h2⟩:=h
  refine ⟨k,hk,fun j hj=>?_,?_⟩
  · have:=e j (by omega)
    rw [h1 j hj] at this
    rcases Int.mul_eq_zero.mp this with q | q
    · omega
    · exact q
  · have:=e k hk
    rw [← this] at h2
    exact Int.pos_of_mul_pos_right h2 b0
theorem LP.fst {n:Nat} {v:Rw} (h:LP n v):0<=v 0:=by
  obtain ⟨k,hk,h1,h2⟩:=h
  cases k with
  | zero=>omega
  | succ k=>rw [h1 0 (by omega)];exact Int.le_refl _
theorem LP.tri {n:Nat} (v:Rw):LP n v\/(LP n fun j=>- v j)\/∀ j,j < n->v j = 0:=by
  by_cases h:∀ j,j < n->v j = 0
  · exact .inr (.inr h)
  · have:∃ k,k < n/\v k ≠ 0/\∀ j,j < k->v j = 0:=by
      induction n with
      | zero=>exact absurd (fun j hj=>absurd hj (by omega)) h
      | succ n ih=>
        by_cases g:∀ j,j < n->v j = 0
        · refine ⟨n,by omega,fun e=>h fun j hj=>?_,g⟩
          by_cases q:j = n
          · rw [q];exact e
          · exact g j (by omega)
        · obtain ⟨k,k1,k2,k3⟩:=ih g
          exact ⟨k,by omega,k2,k3⟩
    obtain ⟨k,k1,k2,k3⟩:=this
    rcases Int.lt_trichotomy (v k) 0 with q | q | q
    · exact .inr (.inl ⟨k,k1,fun j hj=>by show - v j = 0;rw [k3 j hj];rfl,by show 0 < - v k;omega⟩)
    · exact absurd q k2
    · exact .inl ⟨k,k1,k3,q⟩
end My
namespace My
theorem zly {r:Rw} {f:List Nat->Int} {N B F:Nat} (hr:∀ c,(r c).natAbs<=B) (hf:∀ l:List Nat,l.length < N->(f l).natAbs<=F):∀ (cs pre:List Nat),pre.length + cs.length<=N->(ex r f pre cs).natAbs<=cs.length * (B * F)
  | [],_,_=>by simp [ex]
  | c :: cs,pre,h=>by
    have h':pre.length + (cs.length + 1)<=N:=h
    have ih:=zly hr hf cs (pre ++ [c]) (by rw [List.length_append,List.length_cons,List.length_nil];omega)
    have a1:(r c * f (pre ++ cs)).natAbs<=B * F:=by
      rw [Int.natAbs_mul]
      exact Nat.mul_le_mul (hr c) (hf _ (by rw [List.length_append];omega))
    show (r c * f (pre ++ cs) - ex r f (pre ++ [c]) cs).natAbs<=(cs.length + 1) * (B * F)
    rw [Nat.add_mul,Nat.one_mul]
    omega
theorem zoR {N B:Nat} (hN:1<=N * B):∀ (A:List Rw) (cols:List Nat),(∀ r ∈ A,∀ c,(r c).natAbs<=B)->cols.length<=N->(D A cols).natAbs<=(N * B) ^ A.length
  | [],_,_,_=>by simp [D]
  | r :: A,cols,h,hc=>by
    have:=zly (r:=r) (f:=D A) (N:=N) (B:=B) (F:=(N * B) ^ A.length) (h r (.head _)) (fun l hl=>zoR hN A l (fun s hs=>h s (.tail _ hs)) (by omega)) cols [] (by simpa using hc)
    show (ex r (D A) [] cols).natAbs<=(N * B) ^ (A.length + 1)
    refine Nat.le_trans this ?_
    rw [Nat.pow_succ,Nat.mul_comm ((N * B) ^ A.length),← Nat.mul_assoc]
    exact Nat.mul_le_mul_right _ (Nat.mul_le_mul_right _ hc)
noncomputable def ln (n:Nat) (aim:Rw) (w:Rw):Rw:=fun j=>match j with
  | 0=>dt n aim w
  | 1=>sm2 (List.range n) w
  | j + 2=>w j
theorem zhi {n:Nat} {v w u:Rw} {x y:Int}:dt n v (fun j=>x * w j - y * u j) = x * dt n v w - y * dt n v u:=by
  unfold dt
  have:(sm2 (List.range n) fun j=>v j * (x * w j - y * u j)) = sm2 (List.range n) fun j=>x * (v j * w j) + (-y) * (v j * u j):=zk fun j _=>by
    rw [Int.mul_sub,Int.mul_left_comm,Int.mul_left_comm (v j) y,Int.neg_mul];omega
  rw [this,zQ,qu,qu,Int.neg_mul]
  omega
theorem zlQ {n:Nat} {w u:Rw} {x y:Int}:sm2 (List.range n) (fun j=>x * w j - y * u j) = x * sm2 (List.range n) w - y * sm2 (List.range n) u:=by
  have:(sm2 (List.range n) fun j=>x * w j - y * u j) = sm2 (List.range n) fun j=>x * w j + (-y) * u j:=zk fun j _=>by rw [Int.neg_mul];omega
  rw [this,zQ,qu,qu,Int.neg_mul]
  omega
theorem zeS {n:Nat} {aim w u:Rw} {x y:Int} (j:Nat):ln n aim (fun j=>x * w j - y * u j) j = x * ln n aim w j - y * ln n aim u j:=by
  match j with
  | 0=>exact zhi
  | 1=>exact zlQ
  | j + 2=>rfl
theorem zeR {n:Nat} {aim w w':Rw} {b:Int} (h:∀ j,j < n->b * w' j = w j) (j:Nat) (hj:j < n + 2):b * ln n aim w' j = ln n aim w j:=by
  match j,hj with
  | 0,_=>
    show b * dt n aim w' = dt n aim w
    unfold dt
    rw [← qu]
    exact zk fun j hj=>by rw [Int.mul_left_comm,h j (List.mem_range.mp hj)]
  | 1,_=>
    show b * sm2 (List.range n) w' = sm2 (List.range n) w
    rw [← qu]
    exact zk fun j hj=>h j (List.mem_range.mp hj)
  | j + 2,hj=>exact h j (by omega)
theorem zkN {n:Nat} {aim w u w':Rw} {b g gi:Int} (b0:0 < b) (g0:0 < g) (h:∀ j,j < n->b * w' j = g * w j - gi * u j) (hw:LP (n + 2) (ln n aim w)) (hu:LP (n + 2) (ln n aim u))
    (hc:0 < gi->LP (n + 2) fun j=>g * ln n aim w j - gi * ln n aim u j):LP (n + 2) (ln n aim w'):=by
  refine LP.div b0 (v:=fun j=>g * ln n aim w j - gi * ln n aim u j) ?_ fun j hj=>by rw [← zeS];exact zeR h j hj
  by_cases q:0 < gi
  · exact hc q
  · by_cases z:gi = 0
    · subst z
      have:=hw.mul g0
      simp only [Int.zero_mul,Int.sub_zero]
      exact this
    · have:=(hw.mul g0).add (hu.mul (show 0 < -gi by omega))
      obtain ⟨k,k1,k2,k3⟩:=this
      refine ⟨k,k1,fun j hj=>?_,?_⟩
      · have:g * ln n aim w j + -gi * ln n aim u j = 0:=k2 j hj
        rw [Int.neg_mul] at this
        show g * ln n aim w j - gi * ln n aim u j = 0
        omega
      · have:0 < g * ln n aim w k + -gi * ln n aim u k:=k3
        rw [Int.neg_mul] at this
        show 0 < g * ln n aim w k - gi * ln n aim u k
        omega
theorem Bas.apart {n:Nat} {A:List Rw} {W:Nat->Rw} {b ε:Int} (h:Bas n A W b ε) (b0:b ≠ 0) {i r:Nat} (hi:i < n) (hr:r < n) (hir:i ≠ r) {g gi:Int} (g0:g ≠ 0):¬ ∀ j,j < n->g * W i j - gi * W r j = 0:=fun e=>by
  have e1:dt n (rowOf A i) (fun j=>g * W i j - gi * W r j) = 0:=qL fun j hj=>by
    show rowOf A i j * (g * W i j - gi * W r j) = 0
    rw [e j (List.mem_range.mp hj),Int.mul_zero]
  rw [zhi,h.right hi hi,h.right hr hi,if_pos rfl,if_neg hir,Int.mul_zero,Int.sub_zero] at e1
  rcases Int.mul_eq_zero.mp e1 with q | q
  · exact g0 q
  · exact b0 q
end My
namespace My
noncomputable def Gt (n:Nat) (aim:Rw) (q:Rw) (d:Int) (p:Rw) (b:Int):Prop:=LP (n + 2) fun j=>b * ln n aim q j - d * ln n aim p j
theorem Gt.trans {n:Nat} {aim p q r:Rw} {b d e:Int} (d0:0 < d) (b0:0 < b) (e0:0 < e) (h:Gt n aim r e q d) (g:Gt n aim q d p b):Gt n aim r e p b:=by
  refine LP.div d0 (LP.add (h.mul b0) (g.mul e0)) fun j _=>?_
  show d * (b * ln n aim r j - e * ln n aim p j) = b * (d * ln n aim r j - e * ln n aim q j) + e * (b * ln n aim q j - d * ln n aim p j)
  rw [Int.mul_sub,Int.mul_sub,Int.mul_sub,Int.mul_left_comm d b,Int.mul_left_comm d e,Int.mul_left_comm b e]
  omega
theorem Gt.move {n:Nat} {aim p p' w:Rw} {b g la:Int} (la0:0 < la) (h:∀ j,j < n->b * p' j = g * p j + la * w j) (hw:LP (n + 2) (ln n aim w)):Gt n aim p' g p b:=by
  obtain ⟨k,k1,k2,k3⟩:=hw.mul la0
  have e:∀ j,j < n + 2->b * ln n aim p' j - g * ln n aim p j = la * ln n aim w j:=fun j hj=>by
    have:=zeR (n:=n) (aim:=aim) (w:=fun j=>g * p j - (-la) * w j) (w':=p') (b:=b) (fun j hj=>by rw [h j hj,Int.neg_mul];omega) j hj
    rw [this,zeS,Int.neg_mul]
    omega
  refine ⟨k,k1,fun j hj=>?_,?_⟩
  · show b * ln n aim p' j - g * ln n aim p j = 0
    rw [e j (by omega)];exact k2 j hj
  · show 0 < b * ln n aim p' k - g * ln n aim p k
    rw [e k k1];exact k3
theorem Gt.not {n:Nat} {aim p q:Rw} {b d:Int} (h:∀ j,j < n->d * p j - b * q j = 0):¬ Gt n aim q d p b:=by
  rintro ⟨k,k1,_,k3⟩
  have:=zeR (n:=n) (aim:=aim) (w:=fun j=>d * p j - b * q j) (w':=fun _=>0) (b:=0) (fun j hj=>by rw [h j hj];rfl) k k1
  rw [Int.zero_mul,zeS] at this
  replace k3:0 < b * ln n aim q k - d * ln n aim p k:=k3
  omega
theorem zjQ {α:Type} {p q:α->Bool}:∀ {l:List α},(∀ x ∈ l,q x = true->p x = true)->(∃ x ∈ l,p x = true/\q x = false)->(l.filter q).length < (l.filter p).length
  | [],_,h=>by obtain ⟨x,hx,_⟩:=h;simp at hx
  | y :: l,h,g=>by
    have le:∀ l:List α,(∀ x ∈ l,q x = true->p x = true)->(l.filter q).length<=(l.filter p).length:=by
      intro l
      induction l with
      | nil=>intro _;simp
      | cons z l ih=>
        intro hz
        have:=ih (fun x hx=>hz x (.tail _ hx))
        by_cases qz:q z = true
        · rw [List.filter_cons_of_pos qz,List.filter_cons_of_pos (hz z (.head _) qz)];simp;omega
        · rw [List.filter_cons_of_neg qz]
          by_cases pz:p z = true
          · rw [List.filter_cons_of_pos pz];simp;omega
          · rw [List.filter_cons_of_neg pz];omega
    have hl:=le l (fun x hx=>h x (.tail _ hx))
    obtain ⟨x,hx,px,qx⟩:=g
    rcases List.mem_cons.mp hx with rfl | hx
    · rw [List.filter_cons_of_pos px,List.filter_cons_of_neg (by rw [qx];simp)];simp;omega
    · have ih:=zjQ (fun x hx=>h x (.tail _ hx)) ⟨x,hx,px,qx⟩
      by_cases qy:q y = true
      · rw [List.filter_cons_of_pos qy,List.filter_cons_of_pos (h y (.head _) qy)];simp;omega
      · rw [List.filter_cons_of_neg qy]
        by_cases py:p y = true
        · rw [List.filter_cons_of_pos py];simp;omega
        · rw [List.filter_cons_of_neg py];omega
noncomputable def ziB (N:Nat):Nat->List (List Nat)
  | 0=>[[]]
  | k + 1=>(ziB N k).flatMap fun l=>(List.range N).map fun x=>x :: l
theorem zgR {N:Nat}:∀ {l:List Nat},(∀ x ∈ l,x < N)->l ∈ ziB N l.length
  | [],_=>.head _
  | x :: l,h=>by
    show x :: l ∈ (ziB N l.length).flatMap _
    exact List.mem_flatMap.mpr ⟨l,zgR fun y hy=>h y (.tail _ hy),List.mem_map.mpr ⟨x,List.mem_range.mpr (h x (.head _)),rfl⟩⟩
section
variable (n:Nat) (aim:Rw) (a:Nat->Rw) (l:Nat->Int)
noncomputable def Gr (p:Rw) (b:Int) (c:List Nat):Prop:=∃ (q:Rw) (d:Int),0 < d/\(∀ (i x:Nat),c[i]? = some x->dt n (a x) q = l x * d)/\Gt n aim q d p b
noncomputable def left (N:Nat) (p:Rw) (b:Int):Nat:=((ziB N n).filter fun c=>@decide (Gr n aim a l p b c) (Classical.propDecidable _)).length
end
theorem left_lt {n N:Nat} {aim:Rw} {a:Nat->Rw} {l:Nat->Int} {p p':Rw} {b b':Int} {c':List Nat} {W:Nat->Rw} {ε:Int} (b0:0 < b) (b0':0 < b') (hb:Bas n (c'.map a) W b' ε) (hc:∀ x ∈ c',x < N)
    (hp:∀ (i x:Nat),c'[i]? = some x->dt n (a x) p' = l x * b') (hg:Gt n aim p' b' p b):left n aim a l N p' b' < left n aim a l N p b:=by
  have cl:c'.length = n:=by have:=hb.len;simpa using this
  refine zjQ (fun c _ hq=>?_) ⟨c',cl ▸ zgR hc,?_,?_⟩
  · have hq:=@of_decide_eq_true _ (Classical.propDecidable _) hq
    obtain ⟨q,d,d0,h1,h2⟩:=hq
    exact @decide_eq_true _ (Classical.propDecidable _) ⟨q,d,d0,h1,h2.trans b0' b0 d0 hg⟩
  · exact @decide_eq_true _ (Classical.propDecidable _) ⟨p',b',b0',hp,hg⟩
  · refine @decide_eq_false _ (Classical.propDecidable _) ?_
    rintro ⟨q,d,d0,h1,h2⟩
    refine Gt.not (fun j hj=>?_) h2
    refine hb.only (Int.ne_of_gt b0') (z:=fun j=>d * p' j - b' * q j) (fun i hi=>?_) hj
    have hx:c'[i]? = some (c'[i]'(by omega)):=List.getElem?_eq_getElem _
    have er:rowOf (c'.map a) i = a (c'[i]'(by omega)):=by unfold rowOf;rw [List.getElem?_map,hx];rfl
    rw [er,zhi,hp i _ hx,h1 i _ hx,Int.mul_left_comm,Int.mul_left_comm b',Int.mul_comm d b']
    omega
end My
namespace My
noncomputable def pnt (n:Nat) (W:Nat->Rw) (lw:Nat->Int):Rw:=fun j=>sm2 (List.range n) fun i=>lw i * W i j
section
variable {n:Nat} {A:List Rw} {W:Nat->Rw} {b ε:Int} {a:Rw} {r:Nat} {lw:Nat->Int}
theorem ze7 (v:Rw):dt n v (pnt n W lw) = sm2 (List.range n) fun i=>lw i * dt n v (W i):=by
  unfold dt pnt
  have e1:(sm2 (List.range n) fun j=>v j * sm2 (List.range n) fun i=>lw i * W i j) = sm2 (List.range n) fun j=>sm2 (List.range n) fun i=>lw i * (v j * W i j):=zk fun j _=>by
    rw [← qu]
    exact zk fun i _=>Int.mul_left_comm _ _ _
  rw [e1,zcT]
  exact zk fun i _=>by rw [← qu]
theorem Bas.point (h:Bas n A W b ε) {k:Nat} (hk:k < n):dt n (rowOf A k) (pnt n W lw) = lw k * b:=by
  rw [ze7,yK (k:=k) List.nodup_range (List.mem_range.mpr hk) fun i hi hik=>by rw [h.right (List.mem_range.mp hi) hk,if_neg (Ne.symm hik),Int.mul_zero]]
  rw [h.right hk hk,if_pos rfl]
theorem Bas.point_move (h:Bas n A W b ε) (ha:Sup n a) (hr:r < n) (ld:Int) {j:Nat} (hj:j < n) :
    b * pnt n (mv n A W a r ε) (fun i=>if i = r then ld else lw i) j = dt n a (W r) * pnt n W lw j + (ld * b - dt n a (pnt n W lw)) * W r j:=by
  have e0:b * pnt n (mv n A W a r ε) (fun i=>if i = r then ld else lw i) j = sm2 (List.range n) fun i=>(dt n a (W r) * (lw i * W i j) + (- W r j) * (lw i * dt n a (W i))) + (if i = r then b * (ld * W r j) else 0):=by
    unfold pnt
    rw [← qu]
    refine zk fun i hi=>?_
    have hi:=List.mem_range.mp hi
    show b * ((if i = r then ld else lw i) * mv n A W a r ε i j) = _
    by_cases e:i = r
    · subst e
      unfold mv
      rw [if_pos rfl,if_pos rfl,if_pos rfl]
      have:dt n a (W i) * (lw i * W i j) = W i j * (lw i * dt n a (W i)):=by simp only [Int.mul_comm,Int.mul_left_comm,Int.mul_assoc]
      rw [this,Int.neg_mul];omega
    · have ex1:=h.exact ha hr hi e hj
      unfold mv
      rw [if_neg e,if_neg e,if_neg e,Int.mul_left_comm,ex1,Int.mul_sub,Int.neg_mul,Int.add_zero,Int.mul_left_comm (lw i),Int.mul_left_comm (lw i) (dt n a (W i)),Int.mul_left_comm (W r j)]
      have:dt n a (W i) * (lw i * W r j) = lw i * (W r j * dt n a (W i)):=by simp only [Int.mul_comm,Int.mul_left_comm,Int.mul_assoc]
      rw [this]
      omega
  rw [e0,zQ,zQ,qu,qu,yK (k:=r) List.nodup_range (List.mem_range.mpr hr) (fun i _ hi=>if_neg hi),if_pos rfl,← ze7,Int.sub_mul,Int.neg_mul]
  have:b * (ld * W r j) = ld * b * W r j:=by simp only [Int.mul_comm,Int.mul_left_comm,Int.mul_assoc]
  rw [this,Int.mul_comm (W r j)]
  show dt n a (W r) * pnt n W lw j + _ + _ = _
  omega
end
end My
namespace My
noncomputable def zdq:List (Nat × Int)->Rw->Int
  | [],_=>0
  | x :: ps,P=>x.2 * P x.1 + zdq ps P
noncomputable def er:List (Nat × Int)->Rw
  | []=>fun _=>0
  | x :: ps=>fun j=>x.2 * un x.1 j + er ps j
theorem zjW {n:Nat}:∀ {ps:List (Nat × Int)},(∀ x ∈ ps,x.1 < n)->Sup n (er ps)
  | [],_=>fun _ _=>rfl
  | x :: ps,h=>fun c hc=>by
    show x.2 * un x.1 c + er ps c = 0
    rw [zjW (ps:=ps) (fun y hy=>h y (.tail _ hy)) c hc,zi8 (h x (.head _)) c hc]
    simp
theorem zlC {n:Nat} {P:Rw}:∀ {ps:List (Nat × Int)},(∀ x ∈ ps,x.1 < n)->dt n (er ps) P = zdq ps P
  | [],_=>qL fun j _=>by show 0 * P j = 0;simp
  | x :: ps,h=>by
    have ih:=zlC (P:=P) (ps:=ps) (fun y hy=>h y (.tail _ hy))
    show (sm2 (List.range n) fun j=>(x.2 * un x.1 j + er ps j) * P j) = x.2 * P x.1 + zdq ps P
    have:(sm2 (List.range n) fun j=>(x.2 * un x.1 j + er ps j) * P j) = sm2 (List.range n) fun j=>x.2 * (un x.1 j * P j) + er ps j * P j:=zk fun j _=>by rw [Int.add_mul,Int.mul_assoc]
    rw [this,zQ,qu,← ih]
    have:=zgo (v:=P) (h x (.head _))
    unfold dt at this
    rw [this];rfl
noncomputable def pr:Nat->List Int->List (Nat × Int)
  | _,[]=>[]
  | k,x :: xs=>if x = 0 then pr (k + 1) xs else (k,x) :: pr (k + 1) xs
theorem zgK:∀ {xs:List Int} {k:Nat} {x:Nat × Int},x ∈ pr k xs->k<=x.1/\x.1 < k + xs.length/\x.2 ∈ xs
  | [],_,_,h=>by simp [pr] at h
  | y :: xs,k,x,h=>by
    unfold pr at h
    have go:x ∈ pr (k + 1) xs->k<=x.1/\x.1 < k + (y :: xs).length/\x.2 ∈ y :: xs:=fun h=>by
      obtain ⟨a,b,c⟩:=zgK h
      rw [List.length_cons]
      exact ⟨by omega,by omega,.tail _ c⟩
    split at h
    · exact go h
    · rcases List.mem_cons.mp h with rfl | h
      · rw [List.length_cons];exact ⟨Nat.le_refl _,by show k < _;omega,.head _⟩
      · exact go h
theorem zgL:∀ (xs:List Int) (k:Nat),(pr k xs).length<=xs.length
  | [],_=>Nat.le_refl _
  | y :: xs,k=>by
    have:=zgL xs (k + 1)
    unfold pr
    split
    · rw [List.length_cons];omega
    · rw [List.length_cons,List.length_cons];omega
theorem zlz:∀ (xs:List Int) (k j:Nat),er (pr k xs) j = if k<=j then xs.getD (j - k) 0 else 0
  | [],k,j=>by simp [pr,er]
  | y :: xs,k,j=>by
    have ih:=zlz xs (k + 1) j
    have hd:k<=j->k ≠ j->(y :: xs).getD (j - k) 0 = xs.getD (j - (k + 1)) 0:=fun h1 h2=>by
      rw [show j - k = (j - (k + 1)) + 1 by omega];rfl
    unfold pr
    by_cases y0:y = 0
    · rw [if_pos y0,ih]
      by_cases h:k<=j
      · rw [if_pos h]
        by_cases e:k = j
        · subst e;rw [if_neg (by omega),Nat.sub_self];exact y0.symm
        · rw [if_pos (by omega),hd h e]
      · rw [if_neg h,if_neg (by omega)]
    · rw [if_neg y0]
      show y * un k j + er (pr (k + 1) xs) j = _
      rw [ih]
      unfold un
      by_cases e:j = k
      · subst e
        rw [if_pos rfl,if_neg (by omega),if_pos (Nat.le_refl _),Nat.sub_self]
        simp
      · rw [if_neg e]
        by_cases h:k<=j
        · rw [if_pos h,if_pos (by omega),hd h (by omega)];simp
        · rw [if_neg h,if_neg (by omega)];simp
noncomputable def wfN (m:Nat) (ps:List (Nat × Int)):List Int:=ps.foldl (fun ws x=>if x.1 < m then ws.set x.1 x.2 else ws) (List.replicate m 0)
noncomputable def y6 (m:Nat) (F:Nat->Int):List (Nat × Int)->Int
  | []=>0
  | x :: ps=>(if x.1 < m then x.2 * F x.1 else 0) + y6 m F ps
theorem zg2 {ws:List Int} {x k:Nat} {t:Int} (h:x < ws.length):(ws.set x t).getD k 0 = if k = x then t else ws.getD k 0:=by
  rw [List.getD_eq_getElem?_getD,List.getD_eq_getElem?_getD,List.getElem?_set]
  by_cases e:k = x
  · subst e;rw [if_pos rfl,if_pos rfl,if_pos h];rfl
  · rw [if_neg (Ne.symm e),if_neg e]
theorem zlP {m x:Nat} {ws:List Int} {t:Int} {F:Nat->Int} (hl:ws.length = m) (hx:x < m) (h0:ws.getD x 0 = 0):sm2 (List.range m) (fun k=>(ws.set x t).getD k 0 * F k) = sm2 (List.range m) (fun k=>ws.getD k 0 * F k) + t * F x:=by
  have e:(sm2 (List.range m) fun k=>(ws.set x t).getD k 0 * F k) = sm2 (List.range m) fun k=>ws.getD k 0 * F k + (if k = x then t * F x else 0):=zk fun k _=>by
    rw [zg2 (by omega)]
    by_cases e:k = x
    · subst e;rw [if_pos rfl,if_pos rfl,h0];simp
    · rw [if_neg e,if_neg e,Int.add_zero]
  rw [e,zQ,yK (k:=x) List.nodup_range (List.mem_range.mpr hx) (fun k _ hk=>if_neg hk),if_pos rfl]
theorem zie {m:Nat} {F:Nat->Int}:∀ (ps:List (Nat × Int)) (ws:List Int),ws.length = m->(ps.map (·.1)).Nodup->(∀ x ∈ ps,ws.getD x.1 0 = 0)->
    sm2 (List.range m) (fun k=>(ps.foldl (fun ws x=>if x.1 < m then ws.set x.1 x.2 else ws) ws).getD k 0 * F k) = sm2 (List.range m) (fun k=>ws.getD k 0 * F k) + y6 m F ps
  | [],ws,_,_,_=>by simp [y6]
  | x :: ps,ws,hl,nd,h=>by
    obtain ⟨n1,n2⟩:=List.nodup_cons.mp (by simpa using nd:(x.1 :: ps.map (·.1)).Nodup)
    have ne:∀ y ∈ ps,y.1 ≠ x.1:=fun y hy e=>n1 (e ▸ List.mem_map.mpr ⟨y,hy,rfl⟩)
    rw [List.foldl_cons]
    by_cases hx:x.1 < m
    · rw [if_pos hx,zie ps _ (by simp [hl]) n2 (fun y hy=>by rw [zg2 (by omega),if_neg (ne y hy)];exact h y (.tail _ hy)),zlP hl hx (h x (.head _))]
      rw [show y6 m F (x :: ps) = (if x.1 < m then x.2 * F x.1 else 0) + y6 m F ps from rfl,if_pos hx];omega
    · rw [if_neg hx,zie ps ws hl n2 (fun y hy=>h y (.tail _ hy))]
      rw [show y6 m F (x :: ps) = (if x.1 < m then x.2 * F x.1 else 0) + y6 m F ps from rfl,if_neg hx];omega
theorem zeJ {m:Nat} {F:Nat->Int} {ps:List (Nat × Int)} (nd:(ps.map (·.1)).Nodup):sm2 (List.range m) (fun k=>(wfN m ps).getD k 0 * F k) = y6 m F ps:=by
  have z:∀ k,(List.replicate m (0:Int)).getD k 0 = 0:=fun k=>by
    rw [List.getD_eq_getElem?_getD,List.getElem?_replicate];split <;> rfl
  have:=zie (m:=m) (F:=F) ps (List.replicate m 0) (by simp) nd (fun x _=>z _)
  rw [qL (g:=fun k=>(List.replicate m (0:Int)).getD k 0 * F k) (fun k _=>by rw [z];simp),Int.zero_add] at this
  exact this
theorem zi6 {m:Nat}:∀ (ps:List (Nat × Int)) (ws:List Int),ws.length = m->(ps.foldl (fun ws x=>if x.1 < m then ws.set x.1 x.2 else ws) ws).length = m
  | [],ws,h=>h
  | x :: ps,ws,h=>by
    rw [List.foldl_cons]
    refine zi6 ps _ ?_
    split
    · simp [h]
    · exact h
theorem zfg (m:Nat) (ps:List (Nat × Int)):(wfN m ps).length = m:=zi6 ps _ (by simp)
theorem zi7 {m:Nat} {Q:Int->Prop}:∀ (ps:List (Nat × Int)) (ws:List Int),(∀ x ∈ ps,Q x.2)->(∀ w ∈ ws,Q w)->∀ w ∈ ps.foldl (fun ws x=>if x.1 < m then ws.set x.1 x.2 else ws) ws,Q w
  | [],ws,_,h=>h
  | x :: ps,ws,hp,h=>by
    rw [List.foldl_cons]
    refine zi7 ps _ (fun y hy=>hp y (.tail _ hy)) ?_
    split
    · intro w hw
      rcases List.mem_or_eq_of_mem_set hw with hw | rfl
      · exact h w hw
      · exact hp x (.head _)
    · exact h
theorem zhF {m:Nat} {Q:Int->Prop} {ps:List (Nat × Int)} (q0:Q 0) (h:∀ x ∈ ps,Q x.2):∀ w ∈ wfN m ps,Q w:=zi7 ps _ h fun w hw=>by rw [List.eq_of_mem_replicate hw];exact q0
theorem zbV {m:Nat} {F:Nat->Int} {c:Nat->Nat} {s:Nat->Int}:∀ (js:List Nat),y6 m F (js.map fun i=>(c i,s i)) = sm2 js fun i=>if c i < m then s i * F (c i) else 0
  | []=>rfl
  | j :: js=>by
    show (if c j < m then s j * F (c j) else 0) + y6 m F (js.map _) = _
    rw [zbV js];rfl
theorem zeo {m:Nat} {F:Nat->Int}:∀ (ps qs:List (Nat × Int)),y6 m F (ps ++ qs) = y6 m F ps + y6 m F qs
  | [],qs=>by simp [y6]
  | x :: ps,qs=>by
    show (if x.1 < m then x.2 * F x.1 else 0) + y6 m F (ps ++ qs) = (if x.1 < m then x.2 * F x.1 else 0) + y6 m F ps + y6 m F qs
    rw [zeo ps qs];omega
theorem zeM {g h:Nat->Int}:∀ {js:List Nat},(∀ j ∈ js,g j<=h j)->sm2 js g<=sm2 js h
  | [],_=>Int.le_refl _
  | j :: js,e=>by
    have:=zeM (js:=js) fun k hk=>e k (.tail _ hk)
    have:=e j (.head _)
    show g j + sm2 js g<=h j + sm2 js h
    omega
end My
namespace My
structure Fam (m n:Nat) (a:Nat->Rw) (l:Nat->Int):Prop where
  unit:∀ j,j < n->a (m + j) = un j
  zero:∀ j,j < n->l (m + j) = 0
  sup:∀ x,x < m + n->Sup n (a x)
structure Cnr (m n:Nat) (a:Nat->Rw) (aim:Rw) (c:List Nat) (W:Nat->Rw) (b ε:Int):Prop where
  bas:Bas n (c.map a) W b ε
  pos:0 < b
  lt:∀ x ∈ c,x < m + n
  lp:∀ i,i < n->LP (n + 2) (ln n aim (W i))
noncomputable def zB (l:Nat->Int) (c:List Nat):Nat->Int:=fun i=>l (c.getD i 0)
section
variable {m n:Nat} {a:Nat->Rw} {l:Nat->Int} {aim:Rw} {c:List Nat} {W:Nat->Rw} {b ε:Int}
theorem Cnr.len (h:Cnr m n a aim c W b ε):c.length = n:=by have:=h.bas.len;simpa using this
theorem getD_at {c:List Nat} {i:Nat} (h:i < c.length):c[i]? = some (c.getD i 0):=by
  rw [List.getD_eq_getElem?_getD,List.getElem?_eq_getElem h];rfl
theorem Cnr.row (h:Cnr m n a aim c W b ε) {i:Nat} (hi:i < n):rowOf (c.map a) i = a (c.getD i 0):=by
  unfold rowOf
  rw [List.getElem?_map,getD_at (by rw [h.len];exact hi)];rfl
theorem Cnr.mem (h:Cnr m n a aim c W b ε) {i:Nat} (hi:i < n):c.getD i 0 < m + n:=h.lt _ (List.mem_of_getElem? (getD_at (by rw [h.len];exact hi)))
theorem Cnr.first (f:Fam m n a l) (ha:∀ j,j < n->0<=aim j):Cnr m n a aim ((List.range n).map fun j=>m + j) un 1 1:=by
  have e:((List.range n).map fun j=>m + j).map a = (List.range n).map un:=by
    rw [List.map_map]
    exact List.map_congr_left fun j hj=>f.unit j (List.mem_range.mp hj)
  refine ⟨by rw [e];exact Bas.first n,by decide,fun x hx=>?_,fun i hi=>?_⟩
  · obtain ⟨j,hj,rfl⟩:=List.mem_map.mp hx
    have:=List.mem_range.mp hj
    show m + j < m + n
    omega
  · have e0:ln n aim (un i) 0 = aim i:=by
      show dt n aim (un i) = aim i
      rw [zh5];exact zgo hi
    have e1:ln n aim (un i) 1 = 1:=by
      show sm2 (List.range n) (un i) = 1
      rw [yK (k:=i) List.nodup_range (List.mem_range.mpr hi) fun j _ hj=>by unfold un;rw [if_neg hj]]
      simp [un]
    by_cases h0:aim i = 0
    · exact ⟨1,by omega,fun j hj=>by rw [show j = 0 by omega,e0];exact h0,by rw [e1];decide⟩
    · exact ⟨0,by omega,fun j hj=>by omega,by rw [e0];have:=ha i hi;omega⟩
theorem Cnr.apart (h:Cnr m n a aim c W b ε) {i r:Nat} (hi:i < n) (hr:r < n) (hir:i ≠ r) {g gi:Int} (g0:g ≠ 0):¬ ∀ j,j < n + 2->g * ln n aim (W i) j - gi * ln n aim (W r) j = 0:=fun e=>
  h.bas.apart (Int.ne_of_gt h.pos) hi hr hir g0 fun j hj=>e (j + 2) (by omega)
theorem znV {x r:Nat} (hr:r < c.length):zB l (c.set r x) = fun i=>if i = r then l x else zB l c i:=by
  funext i
  unfold zB
  rw [List.getD_eq_getElem?_getD,List.getElem?_set]
  by_cases e:i = r
  · subst e;rw [if_pos rfl,if_pos rfl,if_pos hr];rfl
  · rw [if_neg (Ne.symm e),if_neg e,List.getD_eq_getElem?_getD]
theorem Cnr.move (h:Cnr m n a aim c W b ε) (f:Fam m n a l) {x r:Nat} (hx:x < m + n) (hr:r < n) (g0:0 < dt n (a x) (W r))
    (hc:∀ i,i < n->i ≠ r->0 < dt n (a x) (W i)->LP (n + 2) fun j=>dt n (a x) (W r) * ln n aim (W i) j - dt n (a x) (W i) * ln n aim (W r) j) :
    Cnr m n a aim (c.set r x) (mv n (c.map a) W (a x) r ε) (dt n (a x) (W r)) ε:=by
  refine ⟨by rw [List.map_set];exact h.bas.move (Int.ne_of_gt h.pos) (f.sup x hx) hr,g0,fun y hy=>?_,fun i hi=>?_⟩
  · rcases List.mem_or_eq_of_mem_set hy with hy | rfl
    · exact h.lt y hy
    · exact hx
  · by_cases e:i = r
    · subst e
      have:∀ j,ln n aim (mv n (c.map a) W (a x) i ε i) j = ln n aim (W i) j:=fun j=>by
        have:mv n (c.map a) W (a x) i ε i = W i:=by funext j;exact if_pos rfl
        rw [this]
      have e2:ln n aim (mv n (c.map a) W (a x) i ε i) = ln n aim (W i):=funext this
      rw [e2];exact h.lp i hi
    · refine zkN h.pos g0 (w:=W i) (u:=W r) (gi:=dt n (a x) (W i)) (fun j hj=>?_) (h.lp i hi) (h.lp r hr) (hc i hi e)
      show b * (if i = r then W r j else ε * My.cof n ((c.map a).set r (a x)) i j) = _
      rw [if_neg e]
      exact h.bas.exact (f.sup x hx) hr hi e hj
theorem Cnr.point (h:Cnr m n a aim c W b ε) {i:Nat} (hi:i < n):dt n (a (c.getD i 0)) (pnt n W (zB l c)) = zB l c i * b:=by
  rw [← h.row hi];exact h.bas.point hi
theorem Cnr.point_move (h:Cnr m n a aim c W b ε) (f:Fam m n a l) {x r:Nat} (hx:x < m + n) (hr:r < n) {j:Nat} (hj:j < n) :
    b * pnt n (mv n (c.map a) W (a x) r ε) (zB l (c.set r x)) j = dt n (a x) (W r) * pnt n W (zB l c) j + (l x * b - dt n (a x) (pnt n W (zB l c))) * W r j:=by
  rw [znV (by rw [h.len];exact hr)]
  exact h.bas.point_move (f.sup x hx) hr (l x) hj
theorem Cnr.left_lt (h:Cnr m n a aim c W b ε) (f:Fam m n a l) {x r:Nat} (hx:x < m + n) (hr:r < n) (g0:0 < dt n (a x) (W r))
    (hc:∀ i,i < n->i ≠ r->0 < dt n (a x) (W i)->LP (n + 2) fun j=>dt n (a x) (W r) * ln n aim (W i) j - dt n (a x) (W i) * ln n aim (W r) j) (la:0 < l x * b - dt n (a x) (pnt n W (zB l c))) :
    left n aim a l (m + n) (pnt n (mv n (c.map a) W (a x) r ε) (zB l (c.set r x))) (dt n (a x) (W r)) < left n aim a l (m + n) (pnt n W (zB l c)) b:=by
  have h2:=h.move f hx hr g0 hc
  refine My.left_lt h.pos g0 h2.bas h2.lt (fun i y hy=>?_) (Gt.move la (fun j hj=>h.point_move f hx hr hj) (h.lp r hr))
  have hi:i < n:=by rw [← h2.len];exact (List.getElem?_eq_some_iff.mp hy).1
  have e:(c.set r x).getD i 0 = y:=by rw [List.getD_eq_getElem?_getD,hy];rfl
  have:=h2.point (l:=l) hi
  unfold zB at this ⊢
  rw [e] at this
  exact this
theorem Cnr.nodup (h:Cnr m n a aim c W b ε):c.Nodup:=by
  rw [List.Nodup,List.pairwise_iff_getElem]
  intro i j hi hj hij e
  have:det n (c.map a) = 0:=zcb (i:=i) (k:=j) (r:=a c[i]) (by omega) (by rw [List.getElem?_map,List.getElem?_eq_getElem hi];rfl) (by rw [List.getElem?_map,List.getElem?_eq_getElem hj,e];rfl)
  have q:=h.bas.dtm
  rw [this,Int.mul_zero] at q
  have:=h.pos
  omega
structure Lst (m n:Nat) (a:Nat->Rw) (l:Nat->Int) (aim:Rw) (b:Int) (P:Rw) (S:Nat->Int):Prop where
  pos:0 < b
  pnn:∀ j,j < n->0<=P j
  meets:∀ k,k < m->l k * b<=dt n (a k) P
  col:∀ j,j < n->sm2 (List.range m) (fun k=>S k * a k j)<=aim j * b
  sum:dt n aim P = sm2 (List.range m) fun k=>S k * l k
structure Nvr (m n:Nat) (a:Nat->Rw) (l:Nat->Int) (S:Nat->Int):Prop where
  col:∀ j,j < n->sm2 (List.range m) (fun k=>S k * a k j)<=0
  sum:0 < sm2 (List.range m) fun k=>S k * l k
noncomputable def psL (n:Nat) (c:List Nat) (s:Nat->Int):List (Nat × Int):=(List.range n).map fun i=>(c.getD i 0,s i)
theorem zfq (hl:c.length = n) (s:Nat->Int):(psL n c s).map (·.1) = c:=by
  unfold psL
  rw [List.map_map]
  apply List.ext_getElem?
  intro i
  rw [List.getElem?_map]
  by_cases hi:i < n
  · rw [List.getElem?_range hi,getD_at (by omega)];rfl
  · rw [List.getElem?_eq_none (by simpa using hi),List.getElem?_eq_none (by omega)];rfl
theorem zhO (f:Fam m n a l) (h:Cnr m n a aim c W b ε) {s:Nat->Int} (s0:∀ i,i < n->0<=s i) {j:Nat} (hj:j < n) :
    (sm2 (List.range n) fun i=>if c.getD i 0 < m then s i * a (c.getD i 0) j else 0)<=sm2 (List.range n) fun i=>s i * rowOf (c.map a) i j:=zeM fun i hi=>by
  have hi:=List.mem_range.mp hi
  rw [h.row hi]
  split
  · exact Int.le_refl _
  · rename_i hm
    have hx:=h.mem hi
    have:=f.unit (c.getD i 0 - m) (by omega)
    rw [show m + (c.getD i 0 - m) = c.getD i 0 by omega] at this
    rw [this]
    refine Int.mul_nonneg (s0 i hi) ?_
    unfold un
    split <;> decide
theorem zjs (f:Fam m n a l) (h:Cnr m n a aim c W b ε) {s:Nat->Int} :
    (sm2 (List.range n) fun i=>if c.getD i 0 < m then s i * l (c.getD i 0) else 0) = sm2 (List.range n) fun i=>zB l c i * s i:=zk fun i hi=>by
  have hi:=List.mem_range.mp hi
  unfold zB
  split
  · exact Int.mul_comm _ _
  · rename_i hm
    have hx:=h.mem hi
    have:=f.zero (c.getD i 0 - m) (by omega)
    rw [show m + (c.getD i 0 - m) = c.getD i 0 by omega] at this
    rw [this,Int.zero_mul]
theorem Cnr.least (h:Cnr m n a aim c W b ε) (f:Fam m n a l) (ha:Sup n aim) (al:∀ x,x < m + n->l x * b<=dt n (a x) (pnt n W (zB l c))) :
    Lst m n a l aim b (pnt n W (zB l c)) fun k=>(wfN m (psL n c fun i=>ln n aim (W i) 0)).getD k 0:=by
  have nd:((psL n c fun i=>ln n aim (W i) 0).map (·.1)).Nodup:=by rw [zfq h.len];exact h.nodup
  refine ⟨h.pos,fun j hj=>?_,fun k hk=>al k (by omega),fun j hj=>?_,?_⟩
  · have:=al (m + j) (by omega)
    rw [f.unit j hj,f.zero j hj,zgo hj] at this
    omega
  · rw [zeJ nd]
    unfold psL
    rw [zbV]
    refine Int.le_trans (zhO f h (fun i hi=>(h.lp i hi).fst) hj) ?_
    have:=congrFun (h.bas.cramer ha) j
    rw [Int.mul_comm,this]
    exact Int.le_refl _
  · rw [zeJ nd]
    unfold psL
    rw [zbV,zjs f h,ze7]
    rfl
theorem Cnr.never (h:Cnr m n a aim c W b ε) (f:Fam m n a l) {x:Nat} (hx:x < m + n) (hg:∀ i,i < n->dt n (a x) (W i)<=0) (la:0 < l x * b - dt n (a x) (pnt n W (zB l c))) :
    Nvr m n a l fun k=>(wfN m (psL n c (fun i=>- dt n (a x) (W i)) ++ [(x,b)])).getD k 0:=by
  have xc:x ∉ c:=fun hm=>by
    obtain ⟨i,hi,e⟩:=List.getElem_of_mem hm
    have hi':i < n:=by rw [← h.len];exact hi
    have q:=h.point (l:=l) hi'
    have e2:c.getD i 0 = x:=by rw [List.getD_eq_getElem?_getD,List.getElem?_eq_getElem hi,e];rfl
    unfold zB at q la
    rw [e2] at q
    omega
  have nd:((psL n c (fun i=>- dt n (a x) (W i)) ++ [(x,b)]).map (·.1)).Nodup:=by
    rw [List.map_append,zfq h.len]
    refine List.nodup_append.mpr ⟨h.nodup,by simp,fun y hy z hz=>?_⟩
    simp only [List.map_cons,List.map_nil,List.mem_singleton] at hz
    subst hz
    exact fun e=>xc (e ▸ hy)
  refine ⟨fun j hj=>?_,?_⟩
  · rw [zeJ nd,zeo]
    unfold psL
    rw [zbV]
    have a1:=zhO f h (s:=fun i=>- dt n (a x) (W i)) (fun i hi=>by have:=hg i hi;omega) hj
    have a2:y6 m (fun k=>a k j) [(x,b)]<=b * a x j:=by
      show (if x < m then b * a x j else 0) + 0<=b * a x j
      split
      · omega
      · have:=f.unit (x - m) (by omega)
        rw [show m + (x - m) = x by omega] at this
        have u0:0<=a x j:=by rw [this];unfold un;split <;> decide
        have:=Int.mul_nonneg (Int.le_of_lt h.pos) u0
        omega
    have a3:(sm2 (List.range n) fun i=>(- dt n (a x) (W i)) * rowOf (c.map a) i j) = - (b * a x j):=by
      have:=congrFun (h.bas.cramer (f.sup x hx)) j
      rw [show b * a x j = _ from this,← Int.neg_one_mul,← qu]
      exact zk fun i _=>by rw [← Int.mul_assoc,Int.neg_one_mul]
    rw [a3] at a1
    omega
  · rw [zeJ nd,zeo]
    unfold psL
    rw [zbV,zjs f h]
    have e1:(sm2 (List.range n) fun i=>zB l c i * - dt n (a x) (W i)) = - dt n (a x) (pnt n W (zB l c)):=by
      rw [ze7,← Int.neg_one_mul,← qu]
      exact zk fun i _=>by rw [Int.mul_neg,Int.neg_one_mul]
    rw [e1]
    show 0 < _ + ((if x < m then b * l x else 0) + 0)
    split
    · rw [Int.mul_comm b];omega
    · have:=f.zero (x - m) (by omega)
      rw [show m + (x - m) = x by omega] at this
      rw [this] at la
      omega
end
end My
namespace FT
open PySem L2
theorem Ok.seqX {p q:Ev->Mem->Out Fl} {σ:Ev} {M:Mem} {Q:Fl->Mem->Prop} (h:∀ X,X = zch q->Ok ((p σ M).bind X) Q):Ok (qe p q σ M) Q:=h _ rfl
theorem Ok.seqR {p q:Ev->Mem->Out Fl} {σ:Ev} {M:Mem} {Q:T->Mem->Prop} (h:∀ X,X = (fun fl M=>(zch q fl M).bind zgH)->Ok ((p σ M).bind X) Q):Ok ((qe p q σ M).bind zgH) Q:=by
  have:=h _ rfl
  unfold qe
  rw [zaL]
  exact this
end FT
namespace My
open PySem L2 FT
variable (kC:Addr)
theorem zdO {bd:FT.T->FT.Ev->Mem->Out FT.Ev} {cond:FT.Ev->Mem->Out Bool} {el:FT.Ev->Mem->Out FT.T}:∀ {xs:List FT.T} {σ:FT.Ev} {M:Mem} {acc:List FT.T},zD [] bd cond el xs σ M acc = qq bd cond el xs σ M acc
  | [],σ,M,acc=>by unfold zD qq;exact zbu (zaI M)
  | x :: xs,σ,M,acc=>by
    unfold zD qq
    rw [zbu (zaI M)]
    congr 1
    funext σ1 M1
    congr 1
    funext b M2
    have e1:∀ σ M acc,zD [] bd cond el xs σ M acc = qq bd cond el xs σ M acc:=fun σ M acc=>zdO
    simp only [e1]
theorem ziI {G:Gd} {M M':Mem} (h:qY G M) (f:Fr [] M M'):qY G M':=fun g hg=>f.get0 (h g hg)
theorem zd0 {t:FT.T} {g:List FT.T × Gd} {M M':Mem} (hg:zC t M = some g) (f1:Fr [] M M'):zC t M' = some g:=by
  cases t with
  | tup xs=>exact hg
  | lst xs=>exact hg
  | ref a=>
    replace hg:(match M[a]? with | some (.lst xs)=>some (xs,[(a,xs)]) | _=>none) = some g:=hg
    show (match M'[a]? with | some (.lst xs)=>some (xs,[(a,xs)]) | _=>none) = some g
    cases q:M[a]? with
    | none=>rw [q] at hg;cases hg
    | some c=>rw [q] at hg;rw [f1.get0 q];exact hg
  | _=>cases hg
theorem zeq {a:Nat} {xs:List FT.T} {M:Mem} (h:M[a]? = some (.lst xs)):zC (.ref a) M = some (xs,[(a,xs)]):=by
  show (match M[a]? with | some (.lst xs)=>some (xs,[(a,xs)]) | _=>none) = _
  rw [h]
theorem zgD {t:FT.T} {xs:List FT.T} {G:Gd} {M:Mem} (h:zC t M = some (xs,G)):zM t M = .ok (.int (xs.length:Int)) M:=by
  cases t with
  | tup ys=>cases h;rfl
  | lst ys=>cases h;rfl
  | ref a=>
    replace h:(match M[a]? with | some (.lst xs)=>some (xs,[(a,xs)]) | _=>none) = some (xs,G):=h
    cases q:M[a]? with
    | none=>rw [q] at h;cases h
    | some c=>
      rw [q] at h
      cases c with
      | lst ys=>cases h;exact zkO q
      | _=>cases h
  | _=>cases h
theorem zbL {t:FT.T} {xs:List FT.T} {G:Gd} {M:Mem} (h:zC t M = some (xs,G)):qY G M:=by
  cases t with
  | tup ys=>cases h;exact zaI _
  | lst ys=>cases h;exact zaI _
  | ref a=>
    replace h:(match M[a]? with | some (.lst xs)=>some (xs,[(a,xs)]) | _=>none) = some (xs,G):=h
    cases q:M[a]? with
    | none=>rw [q] at h;cases h
    | some c=>
      rw [q] at h
      cases c with
      | lst ys=>cases h;exact zaH q
      | _=>cases h
  | _=>cases h
theorem zkW {f:FT.Ev->Mem->Out FT.T} {σ:FT.Ev} {M:Mem} {t:FT.T} {g:List FT.T × Gd} (e:f σ M = .ok t M) (h:zC t M = some g):zeV f σ M = .ok g M:=by
  unfold zeV
  rw [e]
  show (match zC t M with | some g=>Out.ok g M | none=>.bad) = _
  rw [h]
noncomputable abbrev EV:=List (Nat × Int) × Int × Int
noncomputable def pT (x:Nat × Int):FT.T:=.tup [.int (x.1:Int),.int x.2]
noncomputable def evT (e:EV):FT.T:=.tup [.lst (e.1.map pT),.int e.2.1,.int e.2.2]
noncomputable def zeD (d:Dm):EV:=(pr 0 d.1,d.2,((pr 0 d.1).map fun x=>x.2 * x.2).sum)
noncomputable def unE (u:Nat):EV:=([(u,1)],0,1)
noncomputable def evs (n:Nat) (ds:List Dm):List EV:=ds.map zeD ++ (List.range n).map unE
noncomputable def enK:Nat->List Int->List (Nat × Int)
  | _,[]=>[]
  | k,x :: xs=>(k,x) :: enK (k + 1) xs
theorem zh4:∀ (xs:List Int) (k i:Nat),(enK k xs)[i]? = (xs[i]?).map fun x=>(k + i,x)
  | [],_,_=>by simp [enK]
  | x :: xs,k,0=>rfl
  | x :: xs,k,i + 1=>by
    show (enK (k + 1) xs)[i]? = _
    rw [zh4 xs (k + 1) i]
    rw [show k + 1 + i = k + (i + 1) by omega]
    rfl
theorem zld (xs:List Int):enT (xs.map FT.T.int) = (enK 0 xs).map pT:=by
  apply List.ext_getElem?
  intro i
  unfold enT
  rw [List.getElem?_mapIdx,List.getElem?_map,List.getElem?_map,zh4]
  cases xs[i]? <;> simp [pT]
theorem zhh:∀ (xs:List Int) (k:Nat),(enK k xs).filter (fun x=>!(x.2 == 0)) = pr k xs
  | [],_=>rfl
  | x :: xs,k=>by
    unfold enK pr
    have ih:=zhh xs (k + 1)
    by_cases h:x = 0
    · rw [if_pos h,List.filter_cons_of_neg (by simp [h]),ih]
    · rw [if_neg h,List.filter_cons_of_pos (by simp [h]),ih]
theorem zh3:∀ (xs:List Int) (k:Nat),(enK k xs).length = xs.length
  | [],_=>rfl
  | x :: xs,k=>by unfold enK;rw [List.length_cons,List.length_cons,zh3 xs]
theorem zkz {xs:List Int} {v0 v1:Option FT.T} {M:Mem} (hl:xs.length<=1000):qq (yB 2 (yi (ye 0) (yi (ye 1) qB))) (zp (eOp neA (qa 1) (eC (.int 0)))) (yD (zb (qa 0) (zb (qa 1) qc))) ((enK 0 xs).map pT) [v0,v1] M [] = .ok ((pr 0 xs).map pT) M:=by
  rw [← zhh]
  exact Ok.filt (fun σ=>∃ v0 v1:Option FT.T,σ = [v0,v1]) (fun x=>!(x.2 == 0)) pT ⟨v0,v1,rfl⟩ (by rw [zh3];omega) (fun x σ hx ⟨v0,v1,e⟩=>by
    subst e
    exact ⟨[some (.int (x.1:Int)),some (.int x.2)],rfl,⟨_,_,rfl⟩,rfl,fun _=>rfl⟩)
theorem zil {ps:List (Nat × Int)} {M:Mem} (hb:∀ x ∈ ps,NB 31 x.2) (hl:ps.length<=1000):qq (yB 2 (yi (ye 0) (yi (ye 1) qB))) yy (eOp qm (qa 1) (qa 1)) (ps.map pT) [none,none] M [] = .ok ((ps.map fun x=>x.2 * x.2).map .int) M:=by
  rw [List.map_map]
  exact Ok.mapc (r:=pT) (fun σ=>∃ v0 v1:Option FT.T,σ = [v0,v1]) (fun x:Nat × Int=>.int (x.2 * x.2)) (xs:=ps) ⟨none,none,rfl⟩ (by omega) (fun x σ hx h9=>by
    obtain ⟨v0,v1,e⟩:=h9
    subst e
    refine ⟨[some (.int (x.1:Int)),some (.int x.2)],rfl,⟨_,_,rfl⟩,?_⟩
    show qm (.int x.2) (.int x.2) M = _
    exact qR (hb x hx) (hb x hx))
theorem zoN {dv:FT.T} {G:Gd} {ds:List Dm} {n:Nat} {M:Mem} (h:zC dv M = some (ds.map dmT,G)) (hb:∀ d ∈ ds,BD n d) (hl:ds.length<=100) (hn:n<=100) :
    Ok (zaB kC [dv,.int n] M) fun t M'=>∃ e,t = .ref e/\M.length<=e/\M'[e]? = some (.lst ((evs n ds).map evT))/\Fr [] M M':=by
  refine ym rfl ?_
  unfold zdg
  simp_arith [and_self]
  have h1:=zd0 h (Fr.app M [.lst []])
  simp only [zT,zkW (f:=qa 0) (σ:=[some dv,some (.int n),some (.ref M.length),none,none,none,none]) (M:=M ++ [.lst []]) rfl h1]
  simp_arith [and_self]
  refine Ok.bind (Ok.forG (r:=dmT) (fun j σ M'=>∃ v3 v4 v5 v6:Option FT.T,σ = [some dv,some (.int n),some (.ref M.length),v3,v4,v5,v6]/\M'[M.length]? = some (.lst (((ds.take j).map zeD).map evT))/\Fr [] M M') ?_ ?_ ?_) ?_
  · rintro j σ M' ⟨_,_,_,_,_,_,q⟩
    exact ziI (zbL h) q
  · exact ⟨none,none,none,none,rfl,by simp [zJ],Fr.app _ _⟩
  · rintro k d σ M1 hk ⟨v3,v4,v5,v6,rfl,c2,c3⟩
    obtain ⟨dl,db,dn⟩:=hb d (List.mem_of_getElem? hk)
    have kl:k < ds.length:=(List.getElem?_eq_some_iff.mp hk).1
    unfold zcN dmT
    have lc:=zbH c2
    have sq:=zil (ps:=pr 0 d.1) (M:=M1) (fun x hx=>(db _ (zgK hx).2.2).nb) (Nat.le_trans (zgL _ _) (by omega))
    have pe:=fun v0 v1=>zkz (xs:=d.1) (v0:=v0) (v1:=v1) (M:=M1) (by omega)
    have ap:zaM (.ref M.length) [.tup [.lst ((pr 0 d.1).map pT),.int d.2,.int ((pr 0 d.1).map fun x=>x.2 * x.2).sum]] M1 = .ok .non (M1.set M.length (.lst (((ds.take k).map zeD).map evT ++ [evT (zeD d)]))):=zdc c2 (by rw [List.length_map,List.length_map,List.length_take,sizeLine_eq];omega)
    simp_arith [zeX,zC,zld,qv,zdO,pe,sq,sum_ints,lc,ap]
    refine Ok.ret ⟨_,rfl,_,_,_,_,rfl,?_,c3.tr (Fr.set _ _ _) (by simp)⟩
    rw [get_set c2,List.take_add_one,hk,List.map_append,List.map_append]
    rfl
  · rintro fl M1 ⟨σ,rfl,v3,v4,v5,v6,rfl,c2,c3⟩
    rw [List.take_length] at c2
    simp_arith [zan (show -(2 ^ 62)<=(n:Int)/\(n:Int) < 2 ^ 62 by omega),Int.toNat_natCast]
    refine Ok.bind (Ok.for (fun j σ M'=>∃ v6:Option FT.T,σ = [some dv,some (.int n),some (.ref M.length),v3,v4,v5,v6]/\M'[M.length]? = some (.lst ((ds.map zeD ++ (List.range j).map unE).map evT))/\Fr [] M M') ⟨v6,rfl,by simpa using c2,c3⟩ ?_) ?_
    · rintro k x σ M2 hk ⟨v6,rfl,e2,e3⟩
      obtain ⟨kn,rfl⟩:=zcz hk
      unfold zcL
      have ap:zaM (.ref M.length) [.tup [.lst [.tup [.int (k:Int),.int 1]],.int 0,.int 1]] M2 = .ok .non (M2.set M.length (.lst ((ds.map zeD ++ (List.range k).map unE).map evT ++ [evT (unE k)]))):=zdc e2 (by rw [List.length_map,List.length_append,List.length_map,List.length_map,List.length_range,sizeLine_eq];omega)
      simp_arith [zbH e2,ap]
      refine Ok.ret ⟨_,rfl,_,rfl,?_,e3.tr (Fr.set _ _ _) (by simp)⟩
      rw [get_set e2,List.range_succ]
      simp only [List.map_append,List.append_assoc]
      rfl
    · rintro fl M2 ⟨σ,rfl,v6,rfl,e2,e3⟩
      rw [zao] at e2
      simp_arith [and_self]
      exact Ok.ret ⟨_,rfl,Nat.le_refl _,e2,e3⟩
end My
namespace My
open PySem L2 FT
variable (kC:Addr)
noncomputable def iL (n:Nat) (f:Rw):List FT.T:=(List.range n).map fun j=>.int (f j)
theorem zgZ (n:Nat) (f:Rw):(iL n f).length = n:=by simp [iL]
theorem zeW {n:Nat} {f:Rw} {j:Nat} (h:j < n):atI (iL n f) (j:Int) = some (.int (f j)):=by
  rw [FT.yJ]
  unfold iL
  rw [List.getElem?_map,List.getElem?_range h];rfl
theorem zc2 {n:Nat} {f g:Rw} (h:∀ j,j < n->f j = g j):iL n f = iL n g:=List.map_congr_left fun j hj=>by rw [h j (List.mem_range.mp hj)]
noncomputable def qO (n:Nat) (aim:Rw) (W:Nat->Rw):List FT.T:=(List.range n).map fun i=>.lst (iL (n + 2) (ln n aim (W i)))
theorem zgT {n:Nat} {aim:Rw} {W:Nat->Rw} {i:Nat} (h:i < n):atI (qO n aim W) (i:Int) = some (.lst (iL (n + 2) (ln n aim (W i)))):=by
  rw [FT.yJ]
  unfold qO
  rw [List.getElem?_map,List.getElem?_range h];rfl
theorem zhG (ps:List (Nat × Int)) (p:Rw):(ps.map fun x=>x.2 * p x.1).sum = zdq ps p:=by
  induction ps with
  | nil=>rfl
  | cons x ps ih=>rw [List.map_cons,List.sum_cons,ih];rfl
theorem zfh {m:Nat} {p:Rw}:∀ {ps:List (Nat × Int)},(∀ x ∈ ps,NB 31 x.2/\NB m (p x.1))->NB (31 + m + ps.length) (zdq ps p)
  | [],_=>Nat.pow_pos (by decide)
  | x :: ps,h=>by
    have ih:=zfh (ps:=ps) fun y hy=>h y (.tail _ hy)
    have a:=(h x (.head _)).1.mul (h x (.head _)).2
    exact NB.add (m:=31 + m + ps.length) (a.mono (by omega)) ih
structure EOk (n:Nat) (e:EV):Prop where
  ps:∀ x ∈ e.1,x.1 < n/\NB 31 x.2
  len:e.1.length<=n
  le:NB 31 e.2.1
  nr:NB 200 e.2.2
structure WOk (n:Nat) (aim:Rw) (W:Nat->Rw) (p:Rw) (b:Int):Prop where
  pos:0 < b
  b:NB 300 b
  p:∀ j,j < n->NB 300 (p j)
  ln:∀ i,i < n->∀ j,j < n + 2->NB 300 (ln n aim (W i) j)
theorem WOk.w {n:Nat} {aim:Rw} {W:Nat->Rw} {p:Rw} {b:Int} (h:WOk n aim W p b) {i j:Nat} (hi:i < n) (hj:j < n):NB 300 (W i j):=h.ln i hi (j + 2) (by omega)
noncomputable def zoJ (ch pt:FT.T) (b:Int) (l:Nat):List (Str × FT.T):=[("chosen",ch),("point",pt),("lines",.ref l),("bottom",.int b)]
structure Cor (M:Mem) (k n:Nat) (aim:Rw) (c:List Nat) (W:Nat->Rw) (p:Rw) (b:Int) (ch:FT.T) (l:Nat):Prop where
  ins:M[k]? = some (.ins kC (zoJ ch (.lst (iL n p)) b l))
  lin:M[l]? = some (.lst (qO n aim W))
  cho:yz ch M = some (c.map fun x=>.int (x:Int))
theorem zkK {ch:FT.T} {xs:List FT.T} {M M':Mem} (this:yz ch M = some xs) (f:Fr [] M M'):yz ch M' = some xs:=by
  cases ch with
  | ref a=>
    replace this:(match M[a]? with | some (.lst xs)=>some xs | _=>none) = some xs:=this
    show (match M'[a]? with | some (.lst xs)=>some xs | _=>none) = some xs
    cases q:M[a]? with
    | none=>rw [q] at this;cases this
    | some cl=>rw [q] at this;rw [f.get0 q];exact this
  | _=>exact this
section
variable {kC}
variable {M M':Mem} {k n:Nat} {aim:Rw} {c:List Nat} {W:Nat->Rw} {p:Rw} {b:Int} {ch:FT.T} {l:Nat}
theorem Cor.fr (h:Cor kC M k n aim c W p b ch l) (f:Fr [] M M'):Cor kC M' k n aim c W p b ch l:=⟨f.get0 h.ins,f.get0 h.lin,zkK h.cho f⟩
theorem ze3 {k:Nat} {fs:List (Str × FT.T)} {f:Str} {t:FT.T} {M:Mem} (h:M[k]? = some (.ins kC fs)) (e:fs.lookup f = some t):zb7 [kC] f (.ref k) M = .ok t M:=by
  unfold zb7
  simp only [h,e,List.mem_singleton,if_true,zbi]
theorem Cor.point (h:Cor kC M k n aim c W p b ch l):zb7 [kC] "point" (.ref k) M = .ok (.lst (iL n p)) M:=ze3 h.ins rfl
theorem Cor.bottom (h:Cor kC M k n aim c W p b ch l):zb7 [kC] "bottom" (.ref k) M = .ok (.int b) M:=ze3 h.ins rfl
theorem Cor.lines (h:Cor kC M k n aim c W p b ch l):zb7 [kC] "lines" (.ref k) M = .ok (.ref l) M:=ze3 h.ins rfl
theorem Cor.chosen (h:Cor kC M k n aim c W p b ch l):zb7 [kC] "chosen" (.ref k) M = .ok ch M:=ze3 h.ins rfl
end
noncomputable def yt (e:EV) (p:Rw) (b:Int):Int:=e.2.1 * b - zdq e.1 p
theorem zeA {n:Nat} {e:EV} {p:Rw} {b:Int} (he:EOk n e) (hn:n<=100) (bb:NB 300 b) (bp:∀ j,j < n->NB 300 (p j)):NB 432 (yt e p b):=by
  have a1:=zfh (m:=300) (p:=p) (ps:=e.1) fun x hx=>⟨(he.ps x hx).2,bp _ (he.ps x hx).1⟩
  have:=he.len
  exact NB.sub (m:=431) ((he.le.mul bb).mono (by decide)) (a1.mono (by omega))
theorem zku {n:Nat} {p:Rw} {ps:List (Nat × Int)} {M:Mem} (h:∀ x ∈ ps,x.1 < n/\NB 31 x.2) (hl:ps.length<=1000) (hp:∀ j,j < n->NB 300 (p j)) :
    qq (yB 2 (yi (ye 0) (yi (ye 1) qB))) yy (eOp qm (qa 1) (eOp ixT (qa 2) (qa 0))) (ps.map pT) [none,none,some (.lst (iL n p))] M [] = .ok ((ps.map fun x=>x.2 * p x.1).map .int) M:=by
  rw [List.map_map]
  exact Ok.mapc (r:=pT) (fun σ=>∃ v0 v1:Option FT.T,σ = [v0,v1,some (.lst (iL n p))]) (fun x:Nat × Int=>.int (x.2 * p x.1)) (xs:=ps) ⟨none,none,rfl⟩ (by omega) (fun x σ hx h9=>by
    obtain ⟨v0,v1,e⟩:=h9
    subst e
    obtain ⟨h1,h2⟩:=h x hx
    refine ⟨[some (.int (x.1:Int)),some (.int x.2),some (.lst (iL n p))],rfl,⟨_,_,rfl⟩,?_⟩
    have m1:qm (.int x.2) (.int (p x.1)) M = .ok (.int (x.2 * p x.1)) M:=qR h2 (hp _ h1)
    simp_arith [zeW h1,m1])
theorem zhW {M:Mem} {k n:Nat} {aim:Rw} {c:List Nat} {W:Nat->Rw} {p:Rw} {b:Int} {ch:FT.T} {l:Nat} (h:Cor kC M k n aim c W p b ch l) (bb:NB 300 b) (bp:∀ j,j < n->NB 300 (p j)) (hn:n<=100) {e:EV} (he:EOk n e):zad kC [evT e,.ref k] M = .ok (.int (yt e p b)) M:=by
  have:Ok (zad kC [evT e,.ref k] M) fun t M'=>t = .int (yt e p b)/\M' = M:=by
    refine ym rfl ?_
    unfold zfV evT yt
    have m1:qm (.int e.2.1) (.int b) M = .ok (.int (e.2.1 * b)) M:=qR he.le bb
    have pe:=zku (n:=n) (p:=p) (ps:=e.1) (M:=M) he.ps (Nat.le_trans he.len (by omega)) bp
    simp_arith [qC,h.point,h.bottom,m1,pe,sum_ints,zhG]
    exact Ok.ret ⟨rfl,rfl⟩
  obtain ⟨t,M',e,rfl,rfl⟩:=this
  exact e
noncomputable def enE (es:List EV):List (Nat × EV):=es.mapIdx fun j d=>((j:Nat),d)
theorem zmT (es:List EV):enT (es.map evT) = (enE es).map fun x=>.tup [.int (x.1:Int),evT x.2]:=by
  unfold enT enE
  apply List.ext_getElem?
  intro n
  simp [List.getElem?_mapIdx]
  rfl
theorem znU {es:List EV} {k:Nat} {x:Nat × EV} (h:(enE es)[k]? = some x):x.1 = k/\es[k]? = some x.2:=by
  unfold enE at h
  rw [List.getElem?_mapIdx] at h
  obtain ⟨d,e,rfl⟩:=Option.map_eq_some_iff.mp h
  exact ⟨rfl,e⟩
theorem zmU (es:List EV):(enE es).length = es.length:=by simp [enE]
theorem zeY {f:FT.Ev->Mem->Out FT.T} {σ:FT.Ev} {M:Mem} {a:Nat} {xs:List FT.T} (e:f σ M = .ok (.ref a) M) (h:M[a]? = some (.lst xs)):zaZ f σ M = .ok (enT xs,[(a,xs)]) M:=by
  unfold zaZ
  rw [e]
  show (match yS (.ref a) M with | some g=>Out.ok (enT g.1,g.2) M | none=>.bad) = _
  have:yS (.ref a) M = some (xs,[(a,xs)]):=by unfold yS;simp only [h]
  rw [this]
theorem ziF {f:FT.Ev->Mem->Out FT.T} {σ:FT.Ev} {M:Mem} {xs:List FT.T} (e:f σ M = .ok (.lst xs) M):zaZ f σ M = .ok (enT xs,[]) M:=by
  unfold zaZ
  rw [e]
  rfl
noncomputable def Brk (es:List EV) (p:Rw) (b:Int) (t:FT.T):Prop:=(t = .non/\∀ (n:Nat) (e:EV),es[n]? = some e->yt e p b<=0)\/∃ (n:Nat) (e:EV),t = .int (n:Int)/\es[n]? = some e/\0 < yt e p b
theorem zfw {M:Mem}:isN .non .non M = .ok (.bl true) M:=rfl
theorem zd5 {i:Int} {M:Mem}:isN (.int i) .non M = .ok (.bl false) M:=rfl
theorem zjE {M:Mem}:zd4 .non .non M = .ok (.bl false) M:=rfl
theorem zjF {i:Int} {M:Mem}:zd4 (.int i) .non M = .ok (.bl true) M:=rfl
theorem zhR {e k n:Nat} {es:List EV} {M:Mem} {aim:Rw} {c:List Nat} {W:Nat->Rw} {p:Rw} {b:Int} {ch:FT.T} {l:Nat} (he:M[e]? = some (.lst (es.map evT))) (h:Cor kC M k n aim c W p b ch l) (hd:∀ d ∈ es,EOk n d) (bb:NB 300 b) (bp:∀ j,j < n->NB 300 (p j)) (hn:n<=100) :
    Ok (y2 kC [.ref e,.ref k] M) fun t M'=>M' = M/\Brk es p b t:=by
  refine ym rfl ?_
  unfold zdf
  simp_arith [and_self]
  simp only [zT,zeY (f:=qa 0) (σ:=[some (FT.T.ref e),some (.ref k),some .non,some (.int 0),none,none,none]) (M:=M) rfl he]
  simp_arith [zmT]
  refine Ok.bind (Ok.forG (fun j σ M'=>M' = M/\∃ (w:FT.T) (wl:Int) (v4 v5 v6:Option FT.T),σ = [some (.ref e),some (.ref k),some w,some (.int wl),v4,v5,v6] /\
    ((w = .non/\∀ n d,n < j->es[n]? = some d->yt d p b<=0)\/∃ (n:Nat) (d:EV),w = .int (n:Int)/\es[n]? = some d/\0 < yt d p b/\wl = yt d p b)) ?_ ?_ ?_) ?_
  · rintro j σ M' ⟨rfl,_⟩
    exact zaH he
  · exact ⟨rfl,.non,0,none,none,none,rfl,.inl ⟨rfl,fun n d hn=>by omega⟩⟩
  · rintro j ⟨n',d⟩ σ M' hx ⟨rfl,w,wl,v4,v5,v6,rfl,hw⟩
    obtain ⟨rfl,hj⟩:=znU hx
    dsimp only at hj ⊢
    have bd:=hd d (List.mem_of_getElem? hj)
    have le:=zhW kC h bb bp hn bd
    unfold zcM
    by_cases h0:0 < yt d p b
    · rcases hw with ⟨rfl,hall⟩ | ⟨m,d',rfl,hm,hl2,rfl⟩
      · simp_arith [le,decide_eq_true h0,zfw]
        exact Ok.ret ⟨_,rfl,rfl,_,_,_,_,_,rfl,.inr ⟨n',d,rfl,hj,h0,rfl⟩⟩
      · have bd':=hd d' (List.mem_of_getElem? hm)
        have ix:ixT (.ref e) (.int (m:Int)) M' = .ok (evT d') M':=zmy he (by rw [FT.yJ];simp [hm])
        have nl:NB 432 (yt d p b):=zeA bd hn bb bp
        have nl':NB 432 (yt d' p b):=zeA bd' hn bb bp
        have a1:qm (.int (yt d p b)) (.int (yt d p b)) M' = .ok (.int (yt d p b * yt d p b)) M':=qR nl nl
        have a2:qm (.int (yt d p b * yt d p b)) (.int d'.2.2) M' = .ok (.int (yt d p b * yt d p b * d'.2.2)) M':=qR (nl.mul nl) bd'.nr
        have a3:qm (.int (yt d' p b)) (.int (yt d' p b)) M' = .ok (.int (yt d' p b * yt d' p b)) M':=qR nl' nl'
        have a4:qm (.int (yt d' p b * yt d' p b)) (.int d.2.2) M' = .ok (.int (yt d' p b * yt d' p b * d.2.2)) M':=qR (nl'.mul nl') bd.nr
        have i2:∀ z:EV,∀ M,ixT (evT z) (.int 2) M = .ok (.int z.2.2) M:=fun z M=>rfl
        cases q:decide (yt d' p b * yt d' p b * d.2.2 < yt d p b * yt d p b * d'.2.2) with
        | true=>
          simp (config:={decide:=true}) only [qe,sIf,yd,eOp,qa,eC,zb,qc,zdX,zbd,zp,qQ,yB,yi,ye,qB,zcV,zc4,zbi,List.length_cons,List.length_nil,List.set_cons_zero,List.set_cons_succ,List.getElem?_cons_zero,List.getElem?_cons_succ,Nat.zero_add,Nat.reduceAdd,reduceIte,Option.join_some,zj,zh,zkb,zaL,le,decide_eq_true h0,zd5,ix,i2,a1,a2,a3,a4,zjK,q]
          exact Ok.ret ⟨_,rfl,rfl,_,_,_,_,_,rfl,.inr ⟨n',d,rfl,hj,h0,rfl⟩⟩
        | false=>
          simp (config:={decide:=true}) only [qe,sIf,yd,eOp,qa,eC,zb,qc,zdX,zbd,zp,qQ,yB,yi,ye,qB,zcV,zc4,zbi,List.length_cons,List.length_nil,List.set_cons_zero,List.set_cons_succ,List.getElem?_cons_zero,List.getElem?_cons_succ,Nat.zero_add,Nat.reduceAdd,reduceIte,Option.join_some,zj,yC,zh,zkb,zaL,le,decide_eq_true h0,zd5,ix,i2,a1,a2,a3,a4,zjK,q]
          exact Ok.ret ⟨_,rfl,rfl,_,_,_,_,_,rfl,.inr ⟨m,d',rfl,hm,hl2,rfl⟩⟩
    · simp_arith [le,decide_eq_false h0]
      refine Ok.ret ⟨_,rfl,rfl,w,wl,_,_,_,rfl,?_⟩
      rcases hw with ⟨hw,hall⟩ | hw
      · refine .inl ⟨hw,fun m d' hm hd'=>?_⟩
        by_cases q:m = n'
        · subst q;rw [hj] at hd';cases hd';omega
        · exact hall m d' (by omega) hd'
      · exact .inr hw
  · rintro fl M' ⟨σ,rfl,rfl,w,wl,v4,v5,v6,rfl,hw⟩
    simp_arith [and_self]
    refine Ok.ret ⟨rfl,?_⟩
    rcases hw with ⟨rfl,hall⟩ | ⟨n,d,rfl,hn,h0,_⟩
    · refine .inl ⟨rfl,fun n d hd=>?_⟩
      refine hall n d ?_ hd
      rw [zmU]
      exact (List.getElem?_eq_some_iff.mp hd).1
    · exact .inr ⟨n,d,rfl,hn,h0⟩
end My
namespace My
open PySem L2 FT
variable (kC:Addr)
theorem zez {G:Gd} {bd:FT.T->FT.Ev->Mem->Out FT.Ev} {el:FT.Ev->Mem->Out FT.T} {M:Mem} {α:Type} {r:α->FT.T} (hG:qY G M) (I:FT.Ev->Prop) (f:α->FT.T):∀ {xs:List α} {σ:FT.Ev} {acc:List FT.T},I σ->acc.length + xs.length<=1000->
    (∀ x σ,x ∈ xs->I σ->∃ σ1,bd (r x) σ M = .ok σ1 M/\I σ1/\el σ1 M = .ok (f x) M)->zD G bd yy el (xs.map r) σ M acc = .ok (acc ++ xs.map f) M
  | [],σ,acc,_,_,_=>by simp [zD,zbu hG]
  | x :: xs,σ,acc,h,hl,t=>by
    obtain ⟨σ1,e1,h1,e2⟩:=t x σ (.head _) h
    rw [List.length_cons] at hl
    have ih:=zez hG I f (xs:=xs) (σ:=σ1) (acc:=acc ++ [f x]) h1 (by rw [List.length_append,List.length_cons,List.length_nil];omega) (fun y σ hy=>t y σ (.tail _ hy))
    rw [List.map_cons]
    unfold zD
    rw [zbu hG,e1]
    show ((el σ1 M).bind _) = _
    rw [e2]
    show (if acc.length < sizeLine then zD G bd yy el (xs.map r) σ1 M (acc ++ [f x]) else .bad) = _
    rw [if_pos (by rw [sizeLine_eq];omega),ih]
    simp
theorem zbt {f:FT.Ev->Mem->Out FT.T} {σ:FT.Ev} {M:Mem} {a:Nat} {xs:List FT.T} (e:f σ M = .ok (.ref a) M) (h:M[a]? = some (.lst xs)):y8 f σ M = .ok (xs,[(a,xs)]) M:=by
  unfold y8
  rw [e]
  show (match yS (.ref a) M with | some g=>Out.ok g M | none=>.bad) = _
  have:yS (.ref a) M = some (xs,[(a,xs)]):=by unfold yS;simp only [h]
  rw [this]
theorem zjH {f:FT.Ev->Mem->Out FT.T} {σ:FT.Ev} {M:Mem} {xs:List FT.T} (e:f σ M = .ok (.lst xs) M):y8 f σ M = .ok (xs,[]) M:=by
  unfold y8
  rw [e]
  rfl
noncomputable def qH (n:Nat) (aim:Rw) (W:Nat->Rw) (i:Nat):FT.T:=.lst (iL (n + 2) (ln n aim (W i)))
theorem zoc {n:Nat} {aim w:Rw} {j:Nat} (h:j < n):atI (iL (n + 2) (ln n aim w)) (2 + (j:Int)) = some (.int (w j)):=by
  rw [show (2:Int) + (j:Int) = ((j + 2:Nat):Int) by omega,zeW (by omega)]
  rfl
theorem zms {n:Nat} {aim w:Rw} {ps:List (Nat × Int)} {M:Mem} (h:∀ x ∈ ps,x.1 < n/\NB 31 x.2) (hl:ps.length<=1000) (hp:∀ j,j < n->NB 300 (w j)) :
    qq (yB 2 (yi (ye 0) (yi (ye 1) qB))) yy (eOp qm (qa 1) (eOp ixT (qa 2) (eOp zz (eC (.int 2)) (qa 0)))) (ps.map pT) [none,none,some (.lst (iL (n + 2) (ln n aim w)))] M [] = .ok ((ps.map fun x=>x.2 * w x.1).map .int) M:=by
  rw [List.map_map]
  exact Ok.mapc (r:=pT) (fun σ=>∃ v0 v1:Option FT.T,σ = [v0,v1,some (.lst (iL (n + 2) (ln n aim w)))]) (fun x:Nat × Int=>.int (x.2 * w x.1)) (xs:=ps) ⟨none,none,rfl⟩ (by omega) (fun x σ hx h9=>by
    obtain ⟨v0,v1,e⟩:=h9
    subst e
    obtain ⟨h1,h2⟩:=h x hx
    refine ⟨[some (.int (x.1:Int)),some (.int x.2),some (.lst (iL (n + 2) (ln n aim w)))],rfl,⟨_,_,rfl⟩,?_⟩
    have m1:qm (.int x.2) (.int (w x.1)) M = .ok (.int (x.2 * w x.1)) M:=qR h2 (hp _ h1)
    simp_arith [zoc h1,m1])
noncomputable def zar (e:EV) (W:Nat->Rw):Rw:=fun i=>zdq e.1 (W i)
theorem zk6 {M:Mem} {k n:Nat} {aim:Rw} {c:List Nat} {W:Nat->Rw} {p:Rw} {b:Int} {ch:FT.T} {l:Nat} (h:Cor kC M k n aim c W p b ch l) (wo:WOk n aim W p b) (hn:n<=100) {e:EV} (he:EOk n e):za4 kC [.ref k,evT e] M = .ok (.lst (iL n (zar e W))) M:=by
  have:Ok (za4 kC [.ref k,evT e] M) fun t M'=>t = .lst (iL n (zar e W))/\M' = M:=by
    refine ym rfl ?_
    unfold ze1 evT
    have cg:=zez (G:=[(l,qO n aim W)]) (bd:=ye 0) (el:=yd (qt sumK) (zb (eFz (qD (zb5 (qa 1)) (yB 2 (yi (ye 0) (yi (ye 1) qB))) yy (eOp qm (qa 1) (eOp ixT (qa 2) (eOp zz (eC (.int 2)) (qa 0)))) ["unknown","number"] [("line",0)])) qc)) (M:=M) (r:=qH n aim W) (zaH h.lin) (fun σ=>∃ v0:Option FT.T,σ = [v0,some (.lst (e.1.map pT))]) (fun i=>.int (zar e W i)) (xs:=List.range n) (σ:=[none,some (.lst (e.1.map pT))]) (acc:=[]) ⟨none,rfl⟩ (by simp;omega) (fun i σ hi h9=>by
      obtain ⟨v0,hσ⟩:=h9
      subst hσ
      have hi:=List.mem_range.mp hi
      refine ⟨[some (qH n aim W i),some (.lst (e.1.map pT))],rfl,⟨_,rfl⟩,?_⟩
      have pe:=zms (n:=n) (aim:=aim) (w:=W i) (ps:=e.1) (M:=M) he.ps (Nat.le_trans he.len (by omega)) (fun j hj=>wo.w hi hj)
      simp_arith [qH,pe,sum_ints,zhG]
      rfl)
    rw [List.nil_append] at cg
    simp_arith [and_self]
    simp only [qv,zbt (f:=qC [kC] "lines" (qa 0)) (σ:=[some (.ref k),some (.tup [.lst (e.1.map pT),.int e.2.1,.int e.2.2]),some (.lst (e.1.map pT))]) (M:=M) (a:=l) h.lines h.lin]
    rw [show qO n aim W = (List.range n).map (qH n aim W) from rfl] at cg ⊢
    simp_arith [cg]
    exact Ok.ret ⟨rfl,rfl⟩
  obtain ⟨t,M',e,rfl,rfl⟩:=this
  exact e
theorem zi2 (n:Nat) (f g:Rw):yT (iL n f) (iL n g) = (List.range n).map fun j=>.tup [.int (f j),.int (g j)]:=by
  unfold iL
  induction List.range n with
  | nil=>rfl
  | cons x xs ih=>simp [yT,ih]
theorem zgG {n k x:Nat} (h:(List.range n)[k]? = some x):k < n/\x = k:=by
  have hk:k < n:=by have:=(List.getElem?_eq_some_iff.mp h).1;simpa using this
  rw [List.getElem?_range hk] at h
  exact ⟨hk,(Option.some.inj h).symm⟩
theorem ziQ {N:Nat} {v u:Rw} {g h:Int} {M:Mem} (hv:∀ j,j < N->NB 300 (v j)) (hu:∀ j,j < N->NB 300 (u j)) (hg:NB 500 g) (hh:NB 500 h) :
    Ok (za3 kC [.lst (iL N v),.int g,.lst (iL N u),.int h] M) fun t M'=>M' = M/\∃ r:Bool,t = .bl r/\(r = true ↔ LP N fun j=>g * u j - h * v j):=by
  refine ym rfl ?_
  unfold zdL
  simp_arith [zT,FT.zaA,zpX,zC,yS,zi2]
  refine Ok.bind (Ok.loopG (fun j σ M'=>M' = M/\(∃ v4 v5 v6:Option FT.T,σ = [some (.lst (iL N v)),some (.int g),some (.lst (iL N u)),some (.int h),v4,v5,v6])/\∀ i,i < j->v i * h - u i * g = 0) (R:=fun t M'=>M' = M/\∃ r:Bool,t = .bl r/\(r = true ↔ LP N fun j=>g * u j - h * v j)) (fun _ _ M' _=>zaI M') (List.range N) 0 ⟨rfl,⟨none,none,none,rfl⟩,fun i hi=>by omega⟩ ?_) ?_
  · rintro k x σ M' hk ⟨rfl,⟨v4,v5,v6,rfl⟩,hz⟩
    obtain ⟨hk,rfl⟩:=zgG hk
    rw [Nat.zero_add] at hz
    unfold zdk
    have m1:qm (.int (v x)) (.int h) M' = .ok (.int (v x * h)) M':=qR (hv x hk) hh
    have m2:qm (.int (u x)) (.int g) M' = .ok (.int (u x * g)) M':=qR (hu x hk) hg
    have e:∀ j,g * u j - h * v j = -(v j * h - u j * g):=fun j=>by rw [Int.mul_comm g,Int.mul_comm h];omega
    by_cases d0:v x * h - u x * g = 0
    · have hb:(!(v x * h - u x * g == 0)) = false:=by rw [d0];rfl
      simp_arith [m1,m2,hb]
      refine Ok.ret (.inl ⟨_,.inl rfl,rfl,⟨_,_,_,rfl⟩,fun i hi=>?_⟩)
      by_cases q:i = x
      · rw [q];exact d0
      · exact hz i (by omega)
    · have hb:(!(v x * h - u x * g == 0)) = true:=by simpa using d0
      simp_arith [m1,m2,hb]
      refine Ok.ret (.inr (.inr ⟨_,rfl,rfl,_,rfl,?_⟩))
      rw [decide_eq_true_eq]
      constructor
      · intro q
        exact ⟨x,hk,fun j hj=>by show g * u j - h * v j = 0;rw [e,hz j hj];rfl,by show 0 < g * u x - h * v x;rw [e];omega⟩
      · rintro ⟨j,hj,j1,j2⟩
        replace j2:0 < g * u j - h * v j:=j2
        rw [e] at j2
        rcases Nat.lt_trichotomy j x with q | q | q
        · rw [hz j q] at j2;omega
        · subst q;omega
        · have:=j1 x q
          replace this:g * u x - h * v x = 0:=this
          rw [e] at this
          omega
  · rintro fl M' (⟨σ,rfl,rfl,⟨v4,v5,v6,rfl⟩,hz⟩ | ⟨t,rfl,q⟩)
    · simp_arith [and_self]
      refine Ok.ret ⟨rfl,false,rfl,⟨(fun z=>absurd z (by decide)),?_⟩⟩
      rintro ⟨j,hj,j1,j2⟩
      replace j2:0 < g * u j - h * v j:=j2
      have:=hz j (by simp;omega)
      rw [Int.mul_comm g,Int.mul_comm h] at j2
      omega
    · simp_arith [and_self]
      exact Ok.ret q
theorem zpv (n:Nat) (f:Rw):enT (iL n f) = (List.range n).map fun j=>.tup [.int (j:Int),.int (f j)]:=by
  unfold enT iL
  apply List.ext_getElem?
  intro i
  rw [List.getElem?_mapIdx,List.getElem?_map,List.getElem?_map]
  by_cases h:i < n
  · rw [List.getElem?_range h];rfl
  · rw [List.getElem?_eq_none (by simpa using h)];rfl
noncomputable def ChR (n:Nat) (L:Nat->Rw) (g:Rw) (t:FT.T):Prop:=(t = .non/\∀ i,i < n->g i<=0)\/∃ r:Nat,t = .int (r:Int)/\r < n/\0 < g r/\∀ i,i < n->i ≠ r->0 < g i->LP (n + 2) fun j=>g r * L i j - g i * L r j
theorem zlk {M:Mem} {n:Nat} {aim:Rw} {W:Nat->Rw} {g:Rw} {l:Nat} (hl:M[l]? = some (.lst (qO n aim W))) (hb:∀ i,i < n->∀ j,j < n + 2->NB 300 (ln n aim (W i) j)) (hg:∀ i,i < n->NB 500 (g i))
    (ap:∀ i r,i < n->r < n->i ≠ r->0 < g r->¬ ∀ j,j < n + 2->g r * ln n aim (W i) j - g i * ln n aim (W r) j = 0) :
    Ok (zbJ kC [.ref l,.lst (iL n g)] M) fun t M'=>M' = M/\ChR n (fun i=>ln n aim (W i)) g t:=by
  refine ym rfl ?_
  unfold ze2
  simp_arith [and_self]
  simp only [zT,ziF (f:=qa 1) (σ:=[some (FT.T.ref l),some (.lst (iL n g)),some .non,none,none]) (M:=M) rfl]
  simp_arith [zpv]
  refine Ok.bind (Ok.forG (fun j σ M'=>M' = M/\∃ (t:FT.T) (v3 v4:Option FT.T),σ = [some (.ref l),some (.lst (iL n g)),some t,v3,v4] /\
    ((t = .non/\∀ i,i < j->g i<=0)\/∃ r:Nat,t = .int (r:Int)/\r < n/\0 < g r/\∀ i,i < j->i ≠ r->0 < g i->LP (n + 2) fun j=>g r * ln n aim (W i) j - g i * ln n aim (W r) j)) (fun _ _ M' _=>zaI M') ⟨rfl,.non,none,none,rfl,.inl ⟨rfl,fun i hi=>by omega⟩⟩ ?_) ?_
  · rintro k x σ M' hk ⟨rfl,t,v3,v4,rfl,ht⟩
    obtain ⟨hk,rfl⟩:=zgG hk
    unfold zen
    by_cases h0:0 < g x
    · rcases ht with ⟨rfl,ha⟩ | ⟨r,rfl,hr,r0,ha⟩
      · simp_arith [decide_eq_true h0,zfw]
        refine Ok.ret ⟨_,rfl,rfl,_,_,_,rfl,.inr ⟨x,rfl,hk,h0,fun i hi hx hp=>?_⟩⟩
        have:=ha i (by omega)
        omega
      · simp_arith [decide_eq_true h0,zd5,hl,zgT hk,zgT hr,zeW hr]
        refine Ok.bind (ziQ kC (N:=n + 2) (v:=ln n aim (W x)) (u:=ln n aim (W r)) (g:=g x) (h:=g r) (hb x hk) (hb r hr) (hg x hk) (hg r hr)) ?_
        rintro t M2 ⟨rfl,b,rfl,hb2⟩
        cases b with
        | true=>
          have lp:=hb2.mp rfl
          simp_arith [and_self]
          refine Ok.ret ⟨_,rfl,rfl,_,_,_,rfl,.inr ⟨x,rfl,hk,h0,fun i hi hx hp=>?_⟩⟩
          by_cases q:i = r
          · subst q;exact lp
          · have l1:=ha i (by omega) q hp
            refine LP.div r0 (LP.add (l1.mul h0) (lp.mul hp)) fun j _=>?_
            show g r * (g x * ln n aim (W i) j - g i * ln n aim (W x) j) = g x * (g r * ln n aim (W i) j - g i * ln n aim (W r) j) + g i * (g x * ln n aim (W r) j - g r * ln n aim (W x) j)
            rw [Int.mul_sub,Int.mul_sub,Int.mul_sub,Int.mul_left_comm (g x) (g r),Int.mul_left_comm (g x) (g i),Int.mul_left_comm (g i) (g r)]
            omega
        | false=>
          have nl:¬ LP (n + 2) fun j=>g x * ln n aim (W r) j - g r * ln n aim (W x) j:=fun z=>by have:=hb2.mpr z;cases this
          simp_arith [and_self]
          refine Ok.ret ⟨_,rfl,rfl,_,_,_,rfl,.inr ⟨r,rfl,hr,r0,fun i hi hx hp=>?_⟩⟩
          by_cases q:i = x
          · subst q
            rcases LP.tri (n:=n + 2) (fun j=>g r * ln n aim (W i) j - g i * ln n aim (W r) j) with z | z | z
            · exact z
            · refine absurd ?_ nl
              obtain ⟨a,a1,a2,a3⟩:=z
              refine ⟨a,a1,fun j hj=>?_,?_⟩
              · have q:=a2 j hj
                replace q:-(g r * ln n aim (W i) j - g i * ln n aim (W r) j) = 0:=q
                show g i * ln n aim (W r) j - g r * ln n aim (W i) j = 0
                omega
              · replace a3:0 < -(g r * ln n aim (W i) a - g i * ln n aim (W r) a):=a3
                show 0 < g i * ln n aim (W r) a - g r * ln n aim (W i) a
                omega
            · exact absurd z (ap i r hk hr hx r0)
          · exact ha i (by omega) hx hp
    · simp_arith [decide_eq_false h0]
      refine Ok.ret ⟨_,rfl,rfl,_,_,_,rfl,?_⟩
      rcases ht with ⟨rfl,ha⟩ | ⟨r,rfl,hr,r0,ha⟩
      · refine .inl ⟨rfl,fun i hi=>?_⟩
        by_cases q:i = x
        · subst q;omega
        · exact ha i (by omega)
      · refine .inr ⟨r,rfl,hr,r0,fun i hi hx hp=>?_⟩
        by_cases q:i = x
        · subst q;exact absurd hp h0
        · exact ha i (by omega) hx hp
  · rintro fl M' ⟨σ,rfl,rfl,t,v3,v4,rfl,ht⟩
    simp_arith [and_self]
    refine Ok.ret ⟨rfl,?_⟩
    rw [List.length_range] at ht
    exact ht
end My
namespace My
open PySem L2 FT
variable (kC:Addr)
theorem fd {x b:Int} {M:Mem} (hb:0 < b) (bb:NB 300 b):zbE (.int x) (.int b) M = .ok (.int (x.fdiv b)) M:=zec (ziL 300 (by decide) (by omega) bb)
theorem zhp {N:Nat} {x y:Rw} {f g b:Int} {M:Mem} (hN:N<=1000) (hb:0 < b) (bb:NB 300 b) (hf:NB 500 f) (hg:NB 500 g) (hx:∀ j,j < N->NB 300 (x j)) (hy:∀ j,j < N->NB 300 (y j)) :
    zX kC [.lst (iL N x),.int f,.lst (iL N y),.int g,.int b] M = .ok (.lst (iL N fun j=>(f * x j - g * y j).fdiv b)) M:=by
  have:Ok (zX kC [.lst (iL N x),.int f,.lst (iL N y),.int g,.int b] M) fun t M'=>t = .lst (iL N fun j=>(f * x j - g * y j).fdiv b)/\M' = M:=by
    refine ym rfl ?_
    unfold zf0
    have cg:=zez (G:=[]) (bd:=yB 2 (yi (ye 0) (yi (ye 1) qB))) (el:=eOp zbE (eOp zcR (eOp qm (qa 2) (qa 0)) (eOp qm (qa 3) (qa 1))) (qa 4)) (M:=M) (r:=fun j=>FT.T.tup [.int (x j),.int (y j)]) (zaI _) (fun σ=>∃ v0 v1:Option FT.T,σ = [v0,v1,some (.int f),some (.int g),some (.int b)]) (fun j=>.int ((f * x j - g * y j).fdiv b)) (xs:=List.range N) (σ:=[none,none,some (.int f),some (.int g),some (.int b)]) (acc:=[]) ⟨none,none,rfl⟩ (by simp;omega) (fun j σ hj h9=>by
      obtain ⟨v0,v1,hσ⟩:=h9
      subst hσ
      have hj:=List.mem_range.mp hj
      refine ⟨[some (.int (x j)),some (.int (y j)),some (.int f),some (.int g),some (.int b)],rfl,⟨_,_,rfl⟩,?_⟩
      simp_arith [qR (M:=M) hf (hx j hj),qR (M:=M) hg (hy j hj),fd (M:=M) hb bb])
    rw [List.nil_append] at cg
    simp_arith [FT.zaA,zpX,zC,yS,zi2,qv,List.append_nil,cg]
    exact Ok.ret ⟨rfl,rfl⟩
  obtain ⟨t,M',e,rfl,rfl⟩:=this
  exact e
theorem zdZ {k:Nat} {fs:List (Str × FT.T)} {f:Str} {y:FT.T} {M:Mem} (h:M[k]? = some (.ins kC fs)) (hl:fs.length < 1000):zep [kC] f (.ref k) y M = .ok () (M.set k (.ins kC (zbh f y fs))):=by
  unfold zep
  simp only [h,List.mem_singleton,true_and,if_pos hl]
theorem zmz {k:Nat} {ch pn ln bt:FT.T} {M:Mem} (h:M[k]? = some (.ins kC [])):qF kC [.ref k,ch,pn,ln,bt] M = .ok .non (M.set k (.ins kC [("chosen",ch),("point",pn),("lines",ln),("bottom",bt)])):=by
  have:Ok (qF kC [.ref k,ch,pn,ln,bt] M) fun t M'=>t = .non/\M' = M.set k (.ins kC [("chosen",ch),("point",pn),("lines",ln),("bottom",bt)]):=by
    refine ym rfl ?_
    unfold zdh
    have s1:=zdZ kC (f:="chosen") (y:=ch) h (by decide)
    have e1:=get_set (c':=.ins kC (zbh "chosen" ch [])) h
    have s2:=zdZ kC (f:="point") (y:=pn) e1 (show (1:Nat) < 1000 by decide)
    rw [List.set_set] at s2
    have e2:=get_set (c':=.ins kC (zbh "point" pn (zbh "chosen" ch []))) h
    have s3:=zdZ kC (f:="lines") (y:=ln) e2 (show (2:Nat) < 1000 by decide)
    rw [List.set_set] at s3
    have e3:=get_set (c':=.ins kC (zbh "lines" ln (zbh "point" pn (zbh "chosen" ch [])))) h
    have s4:=zdZ kC (f:="bottom") (y:=bt) e3 (show (3:Nat) < 1000 by decide)
    rw [List.set_set] at s4
    simp_arith [zc0,s1,s2,s3,s4]
    exact Ok.ret ⟨rfl,rfl⟩
  obtain ⟨t,M',e,rfl,rfl⟩:=this
  exact e
theorem zfj {M:Mem} {x y:Cell}:(M ++ [x]).set M.length y = M ++ [y]:=by simp
theorem zhU {ga:FT.Ev->Mem->Out (List FT.T)} {σ:FT.Ev} {ch pt:FT.T} {b:Int} {l:Nat} {M M1:Mem} (e:ga σ M = .ok [ch,pt,.ref l,.int b] M1):zea kC (qF kC) ga σ M = .ok (.ref M1.length) (M1 ++ [.ins kC (zoJ ch pt b l)]):=by
  unfold zea
  rw [e]
  show (Out.bind (qF kC [.ref M1.length,ch,pt,.ref l,.int b] (M1 ++ [.ins kC []])) _) = _
  rw [zmz kC zJ,zfj]
  rfl
theorem zbR {x y:FT.T} {xs ys:List FT.T} {M:Mem} (hx:∃ z,x = .lst z\/∃ a,x = .ref a) (e1:yz x M = some xs) (e2:yz y M = some ys) (hl:xs.length + ys.length<=1000):zz x y M = .ok (.lst (xs ++ ys)) M:=by
  have hs:xs.length + ys.length<=sizeLine:=by rw [sizeLine_eq];omega
  obtain ⟨z,hx⟩:=hx
  rcases hx with rfl | ⟨a,rfl⟩
  · unfold zz
    simp only [e1,e2,if_pos hs]
  · unfold zz
    simp only [e1,e2,if_pos hs]
theorem zgU {ch:FT.T} {xs:List FT.T} {M:Mem} (h:yz ch M = some xs):z7 [ch] M = .ok xs M:=by
  cases ch with
  | lst ys=>cases h;rfl
  | ref a=>
    show (match yz (.ref a) M with | some xs=>Out.ok xs M | none=>.bad) = _
    rw [h]
  | _=>cases h
theorem zgY (n:Nat) (f:Rw):iL (n + 2) f = .int (f 0) :: .int (f 1) :: iL n fun j=>f (j + 2):=by
  unfold iL
  rw [List.range_succ_eq_map,List.map_cons,List.range_succ_eq_map,List.map_cons,List.map_cons,List.map_map,List.map_map]
  rfl
theorem zmV {a b:FT.T} {xs:List FT.T}:zda (a :: b :: xs) (some 2) none = xs:=by
  unfold zda HT.sIx
  have:¬ ((2:Int) < 0):=by decide
  simp
theorem zoI (n:Nat) (aim:Rw) (W:Nat->Rw):enT (qO n aim W) = (List.range n).map fun (i:Nat)=>FT.T.tup [.int (i:Int),qH n aim W i]:=by
  unfold enT qO
  apply List.ext_getElem?
  intro i
  rw [List.getElem?_mapIdx,List.getElem?_map,List.getElem?_map]
  by_cases h:i < n
  · rw [List.getElem?_range h];rfl
  · rw [List.getElem?_eq_none (by simpa using h)];rfl
theorem zmr {n:Nat} {aim:Rw} {W W':Nat->Rw} {r:Nat} {B:Nat->Rw} (hW:∀ i,i < n->i ≠ r->∀ j,j < n + 2->B i j = ln n aim (W' i) j) (hr:∀ j,j < n + 2->ln n aim (W' r) j = ln n aim (W r) j) (rn:r < n) :
    ((List.range n).map fun i=>FT.T.lst (iL (n + 2) (B i))).set r (.lst (iL (n + 2) (ln n aim (W r)))) = qO n aim W':=by
  unfold qO
  apply List.ext_getElem?
  intro i
  rw [List.getElem?_set,List.getElem?_map,List.getElem?_map]
  by_cases e:r = i
  · subst e
    rw [if_pos rfl,if_pos (by simpa using rn),List.getElem?_range rn,← zc2 hr];rfl
  · rw [if_neg e]
    by_cases h:i < n
    · rw [List.getElem?_range h]
      show some (FT.T.lst (iL (n + 2) (B i))) = some (FT.T.lst (iL (n + 2) (ln n aim (W' i))))
      rw [zc2 (hW i h (Ne.symm e))]
    · rw [List.getElem?_eq_none (by simpa using h)];rfl
theorem zmX (c:List Nat) (r x:Nat):(c.map fun (x:Nat)=>FT.T.int (x:Int)).set r (.int (x:Int)) = (c.set r x).map fun (x:Nat)=>FT.T.int (x:Int):=by rw [List.map_set]
theorem zkM {M:Mem} {k n:Nat} {aim:Rw} {c:List Nat} {W:Nat->Rw} {p g:Rw} {b:Int} {ch:FT.T} {l r:Nat} (h:Cor kC M k n aim c W p b ch l) (wo:WOk n aim W p b) (hn:n<=100) (hr:r < n) (hg:∀ i,i < n->NB 500 (g i)) :
    zD [(l,qO n aim W)] (yB 2 (yi (ye 0) (yi (ye 1) qB))) yy (yd (zX kC) (zb (qa 1) (zb (qa 2) (zb (qa 3) (zb (eOp ixT (qa 4) (qa 0)) (zb (qC [kC] "bottom" (qa 5)) qc)))))) (enT (qO n aim W)) [none,none,some (.int (g r)),some (qH n aim W r),some (.lst (iL n g)),some (.ref k)] M [] =
      .ok ((List.range n).map fun i=>.lst (iL (n + 2) fun j=>(g r * ln n aim (W i) j - g i * ln n aim (W r) j).fdiv b)) M:=by
  rw [zoI]
  have cg:=zez (G:=[(l,qO n aim W)]) (bd:=yB 2 (yi (ye 0) (yi (ye 1) qB))) (el:=yd (zX kC) (zb (qa 1) (zb (qa 2) (zb (qa 3) (zb (eOp ixT (qa 4) (qa 0)) (zb (qC [kC] "bottom" (qa 5)) qc)))))) (M:=M) (r:=fun (i:Nat)=>FT.T.tup [.int (i:Int),qH n aim W i]) (zaH h.lin) (fun σ=>∃ v0 v1:Option FT.T,σ = [v0,v1,some (.int (g r)),some (qH n aim W r),some (.lst (iL n g)),some (.ref k)])
    (fun i=>.lst (iL (n + 2) fun j=>(g r * ln n aim (W i) j - g i * ln n aim (W r) j).fdiv b)) (xs:=List.range n) (σ:=[none,none,some (.int (g r)),some (qH n aim W r),some (.lst (iL n g)),some (.ref k)]) (acc:=[]) ⟨none,none,rfl⟩ (by simp;omega) (fun i σ hi h9=>by
      obtain ⟨v0,v1,hσ⟩:=h9
      subst hσ
      have hi:=List.mem_range.mp hi
      refine ⟨[some (.int (i:Int)),some (qH n aim W i),some (.int (g r)),some (qH n aim W r),some (.lst (iL n g)),some (.ref k)],rfl,⟨_,_,rfl⟩,?_⟩
      have be:=zhp kC (N:=n + 2) (x:=ln n aim (W i)) (y:=ln n aim (W r)) (f:=g r) (g:=g i) (b:=b) (M:=M) (by omega) wo.pos wo.b (hg r hr) (hg i hi) (wo.ln i hi) (wo.ln r hr)
      simp_arith [qH,qC,h.bottom,zeW hi,be])
  exact cg
theorem zkG {M:Mem} {k n:Nat} {aim:Rw} {c:List Nat} {W W':Nat->Rw} {p p' g:Rw} {b la:Int} {ch:FT.T} {l r x:Nat} (h:Cor kC M k n aim c W p b ch l) (wo:WOk n aim W p b) (hn:n<=100) (hr:r < n) (cl:c.length = n) (hg:∀ i,i < n->NB 500 (g i)) (hla:NB 500 la)
    (hW:∀ i,i < n->i ≠ r->∀ j,j < n + 2->(g r * ln n aim (W i) j - g i * ln n aim (W r) j).fdiv b = ln n aim (W' i) j) (hr':∀ j,j < n + 2->ln n aim (W' r) j = ln n aim (W r) j) (hp:∀ j,j < n->(g r * p j - -la * W r j).fdiv b = p' j) :
    Ok (yV kC [.ref k,.lst (iL n g),.int (r:Int),.int (x:Int),.int la] M) fun t M'=>∃ k' ch' l',t = .ref k'/\Cor kC M' k' n aim (c.set r x) W' p' (g r) ch' l'/\Fr [] M M':=by
  refine ym rfl ?_
  unfold zcF
  have le:=zkM kC h wo hn hr hg
  unfold qH at le
  simp_arith [qC,h.lines,h.lin,zeW hr,zgT hr]
  simp only [zeY (f:=qC [kC] "lines" (qa 0)) (σ:=[some (FT.T.ref k),some (.lst (iL n g)),some (.int (r:Int)),some (.int (x:Int)),some (.int la),some (.int (g r)),some (.lst (iL (n + 2) (ln n aim (W r)))),none,none,none]) (M:=M) h.lines h.lin,qv]
  have h2:=h.fr (Fr.app M [Cell.lst (qO n aim W')])
  have ct:zda (iL (n + 2) (ln n aim (W r))) (some 2) none = iL n (W r):=by rw [zgY,zmV];rfl
  have b1:=zhp kC (N:=n) (x:=p) (y:=W r) (f:=g r) (g:=-la) (b:=b) (M:=M ++ [Cell.lst (qO n aim W')]) (by omega) wo.pos wo.b (hg r hr) hla.neg wo.p (fun j hj=>wo.w hr hj)
  rw [zc2 hp] at b1
  have g1:∀ x,(M ++ [Cell.lst x])[M.length]? = some (.lst x):=fun x=>zJ
  have g2:∀ x,(M ++ [Cell.lst (qO n aim W')] ++ [Cell.lst x])[(M ++ [Cell.lst (qO n aim W')]).length]? = some (.lst x):=fun x=>zJ
  have lset:=zmr (W:=W) hW hr' hr
  have ix1:ixN ((List.range n).map fun i=>FT.T.lst (iL (n + 2) fun j=>(g r * ln n aim (W i) j - g i * ln n aim (W r) j).fdiv b)).length (r:Int) = some r:=by rw [zeT (by simp;omega)];simp
  have ix2:ixN (c.map fun (x:Nat)=>FT.T.int (x:Int)).length (r:Int) = some r:=by rw [zeT (by rw [List.length_map,cl];omega)];simp
  have mk:=zhU kC (ga:=zb (qa 9) (zb (qa 8) (zb (qa 7) (zb (qa 5) qc)))) (σ:=[some (FT.T.ref k),some (.lst (iL n g)),some (.int (r:Int)),some (.int (x:Int)),some (.int la),some (.int (g r)),some (.lst (iL (n + 2) (ln n aim (W r)))),some (.ref M.length),some (.lst (iL n p')),some (.ref (M ++ [Cell.lst (qO n aim W')]).length)])
    (M:=M ++ [Cell.lst (qO n aim W')] ++ [Cell.lst ((c.set r x).map fun (x:Nat)=>FT.T.int (x:Int))]) (M1:=M ++ [Cell.lst (qO n aim W')] ++ [Cell.lst ((c.set r x).map fun (x:Nat)=>FT.T.int (x:Int))]) (ch:=.ref (M ++ [Cell.lst (qO n aim W')]).length) (pt:=.lst (iL n p')) (b:=g r) (l:=M.length) rfl
  simp_arith [le,g1,ix1,lset,zfj,qC,h2.point,h2.bottom,yz,ct,b1,h2.chosen,zgU h2.cho,g2,ix2,zmX]
  rw [mk]
  refine Ok.ret ⟨_,_,_,rfl,⟨zJ,?_,?_⟩,((Fr.app _ _).trans (Fr.app _ _)).trans (Fr.app _ _)⟩
  · exact (Fr.app _ _).get0 ((Fr.app _ _).get0 zJ)
  · exact zfS ((Fr.app _ _).get0 zJ)
end My
namespace My
open PySem L2 FT
variable (kC:Addr)
theorem zgu {n:Nat} {v:Option FT.T} {M:Mem} (hn:n<=1000):qq (ye 0) yy (eC (.int 0)) ((rgI n).map FT.T.int) [v] M [] = .ok (iL n fun _=>0) M:=by
  have:=Ok.mapc (bd:=ye 0) (el:=eC (.int 0)) (M:=M) (r:=FT.T.int) (fun σ=>∃ v,σ = [v]) (fun _=>FT.T.int 0) (xs:=rgI n) (σ:=[v]) ⟨v,rfl⟩ (by rw [zao];omega) (fun z σ hz h9=>by
      obtain ⟨v,hv⟩:=h9
      subst hv
      exact ⟨[some (.int z)],rfl,⟨_,rfl⟩,rfl⟩)
  rw [this]
  unfold iL rgI
  rw [List.map_map];rfl
theorem zj5 {m n:Nat} {M:Mem} (hn:n<=1000):qq (ye 0) yy (eOp zz (qa 1) (qa 0)) ((rgI n).map FT.T.int) [none,some (.int (m:Int))] M [] = .ok (((List.range n).map fun j=>m + j).map fun (x:Nat)=>FT.T.int (x:Int)) M:=by
  have:=Ok.mapc (bd:=ye 0) (el:=eOp zz (qa 1) (qa 0)) (M:=M) (r:=FT.T.int) (fun σ=>∃ v,σ = [v,some (.int (m:Int))]) (fun z=>FT.T.int ((m:Int) + z)) (xs:=rgI n) (σ:=[none,some (.int (m:Int))]) ⟨none,rfl⟩ (by rw [zao];omega) (fun z σ hz h9=>by
      obtain ⟨v,hv⟩:=h9
      subst hv
      exact ⟨[some (.int z),some (.int (m:Int))],rfl,⟨_,rfl⟩,rfl⟩)
  rw [this]
  unfold rgI
  rw [List.map_map,List.map_map]
  rfl
theorem zi3 {n o:Nat} (h:o < n):(iL n fun _=>0).set o (.int 1) = iL n (un o):=by
  unfold iL
  apply List.ext_getElem?
  intro i
  rw [List.getElem?_set,List.getElem?_map,List.getElem?_map]
  by_cases e:o = i
  · subst e
    rw [if_pos rfl,if_pos (by simpa using h),List.getElem?_range h]
    simp [un]
  · rw [if_neg e]
    by_cases hi:i < n
    · rw [List.getElem?_range hi]
      simp [un,Ne.symm e]
    · rw [List.getElem?_eq_none (by simpa using hi)];rfl
theorem zk9 {m n:Nat} {cs:List Int} {aim:Rw} {M:Mem} (cl:cs.length = n) (hn:n<=100) (ha:∀ j,j < n->aim j = cs.getD j 0) :
    Ok (zat kC [.int (m:Int),.tup (cs.map .int)] M) fun t M'=>∃ k ch l,t = .ref k/\M.length<=k/\Cor kC M' k n aim ((List.range n).map fun j=>m + j) un (fun _=>0) 1 ch l/\Fr [] M M':=by
  refine ym rfl ?_
  unfold zcH
  have rg:∀ M,zdB [.int (n:Int)] M = .ok ((rgI n).map FT.T.int) M:=fun M=>by
    have:=zan (j:=(n:Int)) (M:=M) (show -(2 ^ 62)<=(n:Int)/\(n:Int) < 2 ^ 62 by omega)
    rw [Int.toNat_natCast] at this
    exact this
  have ln0:zM (.tup (cs.map FT.T.int)) M = .ok (.int (n:Int)) M:=by rw [zgV,List.length_map,cl]
  simp only [qe,zj,yd,zb,qc,qa,startT,List.map_cons,List.map_nil,List.replicate,List.cons_append,List.nil_append,List.length_cons,List.length_nil,Nat.zero_add,Nat.reduceAdd,Nat.reduceSub,zc4,zbi,List.getElem?_cons_zero,List.getElem?_cons_succ,Option.join_some,qQ,zh8,ln0]
  simp_arith [rg]
  refine Ok.bind (Ok.for (fun j σ M'=>(∃ v4 v5:Option FT.T,σ = [some (.int (m:Int)),some (.tup (cs.map .int)),some (.int (n:Int)),some (.ref M.length),v4,v5,none])/\M'[M.length]? = some (.lst ((List.range j).map (qH n aim un)))/\Fr [] M M') ?_ ?_) ?_
  · exact ⟨⟨none,none,rfl⟩,zJ,Fr.app _ _⟩
  · rintro j z σ M1 hz ⟨⟨v4,v5,rfl⟩,c1,c2⟩
    obtain ⟨hj,rfl⟩:=zcz hz
    unfold zcs
    have c1':(M1 ++ [Cell.lst (iL n fun _=>0)])[M.length]? = some (.lst ((List.range j).map (qH n aim un))):=(Fr.app _ _).get0 c1
    have e1:(M1 ++ [Cell.lst (iL n fun _=>0)])[M1.length]? = some (.lst (iL n fun _=>0)):=zJ
    have ix:ixN (iL n fun _=>0).length (j:Int) = some j:=by rw [zeT (by rw [zgZ];omega)];simp
    have e2:(M1 ++ [Cell.lst (iL n (un j))])[M1.length]? = some (.lst (iL n (un j))):=zJ
    have e3:(M1 ++ [Cell.lst (iL n (un j))])[M.length]? = some (.lst ((List.range j).map (qH n aim un))):=(Fr.app _ _).get0 c1
    have ai:atI (cs.map FT.T.int) (j:Int) = some (.int (aim j)):=by
      rw [FT.yJ,List.getElem?_map,ha j hj,List.getD_eq_getElem?_getD]
      rw [List.getElem?_eq_getElem (by omega)];rfl
    have ad:=zbR (x:=.lst [.int (aim j),.int 1]) (y:=.ref M1.length) (xs:=[.int (aim j),.int 1]) (ys:=iL n (un j)) (M:=M1 ++ [Cell.lst (iL n (un j))]) ⟨_,.inl rfl⟩ rfl (zfS e2) (by rw [zgZ];simp;omega)
    have le:(.lst ([.int (aim j),.int 1] ++ iL n (un j)):FT.T) = qH n aim un j:=by
      unfold qH
      rw [zgY]
      have x0:ln n aim (un j) 0 = aim j:=by show dt n aim (un j) = aim j;rw [zh5];exact zgo hj
      have x1:ln n aim (un j) 1 = 1:=by
        show sm2 (List.range n) (un j) = 1
        rw [yK (k:=j) List.nodup_range (List.mem_range.mpr hj) fun i _ hi=>by unfold un;rw [if_neg hi]]
        simp [un]
      rw [x0,x1];rfl
    rw [le] at ad
    have ap:=zdc (t:=qH n aim un j) e3 (by rw [List.length_map,List.length_range,sizeLine_eq];omega)
    have zq:=fun v=>zgu (n:=n) (v:=v) (M:=M1) (by omega)
    simp (config:={decide:=true}) only [ye,qe,zj,eTk,qD,yE,zb,qc,qa,eC,qQ,zaL,zh,zaK,List.map_nil,List.map_cons,List.append_nil,List.nil_append,List.getElem?_cons_zero,List.getElem?_cons_succ,zc4,zbi,Option.join_some,List.set_cons_zero,List.set_cons_succ,rg,zq,zaE,zdb,zcv,e1,ix,zi3 hj,zfj,zex,zc8,eUn,zbH e3,eOp,eFz,zP,ixT,ai,ad,ap,zkL,List.length_cons,Nat.reduceAdd,Nat.zero_add,reduceIte,List.length_nil]
    refine Ok.ret ⟨_,rfl,⟨_,_,rfl⟩,?_,?_⟩
    · rw [get_set e3,List.range_succ,List.map_append];rfl
    · exact (c2.trans (Fr.app _ _)).tr (Fr.set _ _ _) (by simp)
  · rintro fl M1 ⟨σ,rfl,⟨v4,v5,rfl⟩,c1,c2⟩
    rw [zao] at c1
    have zq:=fun v=>zgu (n:=n) (v:=v) (M:=M1) (by omega)
    have cq:=zj5 (m:=m) (n:=n) (M:=M1) (by omega)
    have mk:=zhU kC (ga:=zb (qa 6) (zb (eFz (qD (yE (zb (qa 2) qc)) (ye 0) yy (eC (FT.T.int 0)) ["own"] [])) (zb (qa 3) (zb (eC (FT.T.int 1)) qc)))) (σ:=[some (.int (m:Int)),some (.tup (cs.map .int)),some (.int (n:Int)),some (.ref M.length),v4,v5,some (.lst (((List.range n).map fun j=>m + j).map fun (x:Nat)=>FT.T.int (x:Int)))])
      (M:=M1) (M1:=M1) (ch:=.lst (((List.range n).map fun j=>m + j).map fun (x:Nat)=>FT.T.int (x:Int))) (pt:=.lst (iL n fun _=>0)) (b:=1) (l:=M.length) (by simp_arith [rg,zq])
    simp only [zh]
    simp_arith [rg,cq]
    rw [mk]
    exact Ok.ret ⟨_,_,_,rfl,c2.1,⟨zJ,(Fr.app _ _).get0 c1,rfl⟩,c2.trans (Fr.app _ _)⟩
theorem zm4 (ps:List (Nat × Int)):yT (ps.map fun x=>FT.T.int (x.1:Int)) (ps.map fun x=>FT.T.int x.2) = ps.map fun x=>.tup [.int (x.1:Int),.int x.2]:=by
  induction ps with
  | nil=>rfl
  | cons x ps ih=>simp [yT,ih]
noncomputable def ShR (b:Int) (ws:List Int) (sh:List (Int × Int)):Prop:=sh.length = ws.length/\∀ (n:Nat) q w,sh[n]? = some q->ws[n]? = some w->Low w b q
theorem ShR.set {b:Int} {ws:List Int} {sh:List (Int × Int)} (h:ShR b ws sh) {n:Nat} {w:Int} {q:Int × Int} (hq:Low w b q):ShR b (ws.set n w) (sh.set n q):=by
  refine ⟨by simp [h.1],fun j q' w' e1 e2=>?_⟩
  rw [List.getElem?_set] at e1 e2
  by_cases hj:n = j
  · subst hj
    rw [if_pos rfl] at e1 e2
    have l:=h.1
    by_cases hl:n < sh.length
    · rw [if_pos hl] at e1
      rw [if_pos (by omega)] at e2
      cases e1;cases e2;exact hq
    · rw [if_neg hl] at e1;cases e1
  · rw [if_neg hj] at e1 e2
    exact h.2 j q' w' e1 e2
theorem ShR.zero {b:Int} (hb:0 < b) (n:Nat):ShR b (List.replicate n 0) (List.replicate n (0,1)):=by
  refine ⟨by simp,fun j q w e1 e2=>?_⟩
  have a1:=List.eq_of_mem_replicate (List.mem_of_getElem? e1)
  have a2:=List.eq_of_mem_replicate (List.mem_of_getElem? e2)
  subst a1;subst a2
  exact ⟨by simp,by decide,by show (1:Int)<=b;omega,by decide,fun _=>by decide,by decide⟩
theorem zi1 {x y:FT.T} {M:Mem} {xs ys:List FT.T} {G G':Gd} (h1:zC x M = some (xs,G)) (h2:zC y M = some (ys,G')):zpX [x,y] M = .ok (yT xs ys,G ++ G') M:=by
  unfold zpX
  simp only [h1,h2]
theorem zfO {m:Nat} {b:Int} {x y:FT.T} {ps:List (Nat × Int)} {G G':Gd} {M:Mem} (hm:m<=1000) (hb:0 < b) (bb:NB 300 b) (hx:zC x M = some (ps.map (fun x=>.int (x.1:Int)),G)) (hy:zC y M = some (ps.map (fun x=>.int x.2),G')) :
    Ok (z5 kC [.int (m:Int),x,y,.int b] M) fun t M'=>∃ sh,t = .tup (sh.map qT)/\ShR b (wfN m ps) sh/\Fr [] M M':=by
  refine ym rfl ?_
  unfold zek
  have cm:∀ σ,qq (ye 0) yy (yD (zb (eC (.int 0)) (zb (eC (.int 1)) qc))) ((rgI m).map FT.T.int) [σ] M [] = .ok ((rgI m).map fun _=>qT (0,1)) M:=fun σ=>
    Ok.mapc (fun σ=>∃ v,σ = [v]) (fun _=>qT (0,1)) ⟨σ,rfl⟩ (by rw [zao];omega) (fun z σ hz h9=>by
      obtain ⟨v,hv⟩:=h9
      subst hv
      exact ⟨[some (.int z)],rfl,⟨_,rfl⟩,rfl⟩)
  have rp:((rgI m).map fun _=>qT (0,1)) = (List.replicate m ((0:Int),(1:Int))).map qT:=by
    rw [List.map_replicate,List.map_const',zao]
  rw [rp] at cm
  simp_arith [zan (show -(2 ^ 62)<=(m:Int)/\(m:Int) < 2 ^ 62 by omega),Int.toNat_natCast,cm]
  have f1:=Fr.app M [Cell.lst ((List.replicate m ((0:Int),(1:Int))).map qT)]
  have hx1:=zi1 (zd0 hx f1) (zd0 hy f1)
  rw [zm4] at hx1
  simp only [zT,FT.zaA]
  simp_arith [hx1]
  refine Ok.bind (Ok.forG (fun j σ M'=>∃ (sh:List (Int × Int)) (v5 v6:Option FT.T),σ = [some (.int (m:Int)),some x,some y,some (.int b),some (.ref M.length),v5,v6]/\M'[M.length]? = some (.lst (sh.map qT))/\ShR b (wfN m (ps.take j)) sh/\Fr [] M M') ?_ ?_ ?_) ?_
  · rintro j σ M' ⟨sh,v5,v6,_,_,_,q⟩
    intro g hg
    rcases List.mem_append.mp hg with hg | hg
    · exact ziI (zbL hx) q g hg
    · exact ziI (zbL hy) q g hg
  · exact ⟨_,none,none,rfl,zJ,by simpa [wfN] using ShR.zero hb m,f1⟩
  · rintro j ⟨n,t⟩ σ M1 hj ⟨sh,v5,v6,rfl,c1,c2,c4⟩
    dsimp only
    unfold zdR
    have wl:(wfN m (ps.take j)).length = m:=zfg _ _
    have wt:wfN m (ps.take (j + 1)) = if n < m then (wfN m (ps.take j)).set n t else wfN m (ps.take j):=by
      unfold wfN
      rw [List.take_add_one,hj]
      simp [List.foldl_append]
    by_cases hnm:n < m
    · simp_arith [decide_eq_true (show (n:Int) < (m:Int) by omega)]
      refine Ok.bind (zfT kC hb (bb.mono (show 300<=900 by decide)) M1) ?_
      rintro r M2 ⟨q,rfl,lq,rfl⟩
      have hix:ixN sh.length (n:Int) = some n:=by rw [zeT (by rw [c2.1,wl];omega)];simp
      simp_arith [c1,List.length_map,hix]
      refine Ok.ret ⟨_,rfl,sh.set n q,_,_,rfl,?_,?_,c4.tr (Fr.set _ _ _) (by simp)⟩
      · rw [get_set c1,List.map_set]
      · rw [wt,if_pos hnm];exact c2.set lq
    · simp_arith [decide_eq_false (show ¬ (n:Int) < (m:Int) by omega)]
      exact Ok.ret ⟨_,rfl,sh,_,_,rfl,c1,by rw [wt,if_neg hnm];exact c2,c4⟩
  · rintro fl M1 ⟨σ,rfl,sh,v5,v6,rfl,c1,c2,c4⟩
    rw [List.take_length] at c2
    simp_arith [zeK c1]
    exact Ok.ret ⟨sh,rfl,c2,c4⟩
end My
namespace My
open PySem L2 FT
variable (kC:Addr)
theorem zlU {ch:FT.T} {xs:List FT.T} {M:Mem} (h:yz ch M = some xs):∃ G,zC ch M = some (xs,G):=by
  cases ch with
  | lst ys=>cases h;exact ⟨[],rfl⟩
  | ref a=>
    replace h:(match M[a]? with | some (.lst xs)=>some xs | _=>none) = some xs:=h
    cases q:M[a]? with
    | none=>rw [q] at h;cases h
    | some c=>
      rw [q] at h
      cases c with
      | lst ys=>
        cases h
        exact ⟨[(a,xs)],zeq q⟩
      | _=>cases h
  | _=>cases h
theorem znW {ch:FT.T} {xs:List FT.T} {M:Mem} (h:yz ch M = some xs):∃ z,ch = .lst z\/∃ a,ch = .ref a:=by
  cases ch with
  | lst ys=>exact ⟨ys,.inl rfl⟩
  | ref a=>exact ⟨[],.inr ⟨a,rfl⟩⟩
  | _=>cases h
theorem zmq {n:Nat} {p:Rw} {b:Int} {M:Mem} {k:Nat} (hn:n<=1000) (hb:0 < b) (bb:NB 300 b) (hk:zb7 [kC] "bottom" (.ref k) M = .ok (.int b) M) :
    Ok (zD [] (ye 0) yy (yd (zaJ kC) (zb (qa 0) (zb (qC [kC] "bottom" (qa 1)) qc))) (iL n p) [none,some (.ref k)] M []) fun ts M'=>M' = M/\∃ xs:List (Int × Int),ts = xs.map qT/\ShR b ((List.range n).map p) xs:=by
  rw [zdO]
  unfold iL
  refine (Ok.comp (fun i acc σ M'=>M' = M/\(∃ v:Option FT.T,σ = [v,some (.ref k)])/\∃ xs:List (Int × Int),acc = xs.map qT/\ShR b ((List.range i).map p) xs) (List.range n) 0 [] ⟨rfl,⟨none,rfl⟩,[],rfl,rfl,fun n q w e=>by simp at e⟩ (by rw [List.length_range,sizeLine_eq];simp;omega) ?_).mono ?_
  · rintro i x σ M1 acc hx ⟨rfl,⟨v,rfl⟩,xs,rfl,hs⟩
    obtain ⟨hi,rfl⟩:=zgG hx
    rw [Nat.zero_add] at hs ⊢
    simp_arith [qC,hk]
    refine Ok.bind (zfT kC hb (bb.mono (show 300<=900 by decide)) M1) ?_
    rintro r M2 ⟨q,rfl,lq,rfl⟩
    try simp_arith [and_self]
    refine Ok.ret ⟨rfl,⟨_,rfl⟩,xs ++ [q],by simp,?_,fun j q' w' e1 e2=>?_⟩
    · have:=hs.1
      rw [List.length_append,List.length_map,List.length_range] at *
      simp at *;omega
    · have hl:=hs.1
      rw [List.length_map,List.length_range] at hl
      rw [List.range_succ,List.map_append] at e2
      by_cases hj:j < x
      · rw [List.getElem?_append_left (by omega)] at e1
        rw [List.getElem?_append_left (by simpa using hj)] at e2
        exact hs.2 j q' w' e1 e2
      · have:j = x:=by
          have:=(List.getElem?_eq_some_iff.mp e1).1
          simp at this;omega
        subst this
        rw [List.getElem?_append_right (by omega)] at e1
        rw [List.getElem?_append_right (by simp)] at e2
        simp [hl] at e1 e2
        subst e1;subst e2
        exact lq
  · rintro ts M1 ⟨σ,rfl,_,xs,rfl,hs⟩
    rw [Nat.zero_add,List.length_range] at hs
    exact ⟨rfl,xs,rfl,hs⟩
theorem zlr {n:Nat} {c:List Nat} (hl:c.length = n) (s:Nat->Int):(psL n c s).map (fun x=>FT.T.int (x.1:Int)) = c.map fun (x:Nat)=>FT.T.int (x:Int):=by
  conv=>rhs;rw [← zfq hl s]
  rw [List.map_map];rfl
theorem zlq {n:Nat} {c:List Nat} (s:Nat->Int):(psL n c s).map (fun x=>FT.T.int x.2) = iL n s:=by
  unfold psL iL
  rw [List.map_map];rfl
theorem zkP {M:Mem} {k n m:Nat} {aim:Rw} {c:List Nat} {W:Nat->Rw} {p:Rw} {b:Int} {ch:FT.T} {l:Nat} (h:Cor kC M k n aim c W p b ch l) (hm:m<=1000) (hn:n<=100) (hb:0 < b) (bb:NB 300 b) (cl:c.length = n) :
    Ok (za1 kC [.int (m:Int),.ref k] M) fun t M'=>∃ xs sh,t = .tup [.str "least",.tup (xs.map qT),.tup (sh.map qT)]/\ShR b ((List.range n).map p) xs/\ShR b (wfN m (psL n c fun i=>ln n aim (W i) 0)) sh/\Fr [] M M':=by
  refine ym rfl ?_
  unfold zdI
  obtain ⟨G,hG⟩:=zlU h.cho
  rw [← zlr cl (fun i=>ln n aim (W i) 0)] at hG
  simp only [qe,zj,eFz,qv,startT,List.map_cons,List.map_nil,List.replicate,List.cons_append,List.nil_append,List.length_cons,List.length_nil,Nat.zero_add,Nat.reduceAdd,Nat.reduceSub,zjH (f:=qC [kC] "point" (qa 1)) (σ:=[some (.int (m:Int)),some (.ref k),none,none]) (M:=M) h.point]
  simp only [qQ,zaK,List.map_cons,List.map_nil,List.cons_append,List.nil_append,List.getElem?_cons_zero,List.getElem?_cons_succ,Option.join_some,zaL]
  refine Ok.bind (zmq kC (n:=n) (p:=p) (by omega) hb bb h.bottom) ?_
  rintro ts M1 ⟨rfl,xs,rfl,hs⟩
  have cg:=zez (G:=[(l,qO n aim W)]) (bd:=ye 0) (el:=eOp ixT (qa 0) (eC (.int 0))) (M:=M1) (r:=qH n aim W) (zaH h.lin) (fun σ=>∃ v0:Option FT.T,σ = [v0]) (fun i=>.int (ln n aim (W i) 0)) (xs:=List.range n) (σ:=[none]) (acc:=[]) ⟨none,rfl⟩ (by simp;omega) (fun i σ hi h9=>by
      obtain ⟨v0,hσ⟩:=h9
      subst hσ
      refine ⟨[some (qH n aim W i)],rfl,⟨_,rfl⟩,?_⟩
      unfold qH
      rw [zgY]
      simp_arith [and_self])
  rw [List.nil_append] at cg
  simp_arith [qC,h.chosen]
  simp only [qv,zbt (f:=qC [kC] "lines" (qa 1)) (σ:=[some (.int (m:Int)),some (.ref k),some (.lst (xs.map qT)),none]) (M:=M1) h.lines h.lin]
  rw [show qO n aim W = (List.range n).map (qH n aim W) from rfl] at cg ⊢
  simp_arith [cg,qC,h.bottom]
  refine Ok.bind (zfO kC (ps:=psL n c fun i=>ln n aim (W i) 0) (G':=[]) hm hb bb hG (by rw [zlq];rfl)) ?_
  rintro t M2 ⟨sh,rfl,c1,c2⟩
  simp_arith [zgz]
  exact Ok.ret ⟨xs,sh,rfl,hs,c1,c2⟩
theorem zmm {n:Nat} {g:Rw} {M:Mem} (hn:n<=1000):qq (ye 0) yy (eUn zaa (qa 0)) (iL n g) [none] M [] = .ok (iL n fun i=>- g i) M:=by
  unfold iL
  exact Ok.mapc (fun σ=>∃ v,σ = [v]) (fun i=>FT.T.int (- g i)) ⟨none,rfl⟩ (by simp;omega) (fun z σ hz h9=>by
      obtain ⟨v,hv⟩:=h9
      subst hv
      exact ⟨[some (.int (g z))],rfl,⟨_,rfl⟩,rfl⟩)
theorem zkF {M:Mem} {k n m x:Nat} {aim:Rw} {c:List Nat} {W:Nat->Rw} {p g:Rw} {b:Int} {ch:FT.T} {l:Nat} (h:Cor kC M k n aim c W p b ch l) (hm:m<=1000) (hn:n<=100) (hb:0 < b) (bb:NB 300 b) (cl:c.length = n) :
    Ok (za0 kC [.int (m:Int),.ref k,.lst (iL n g),.int (x:Int)] M) fun t M'=>∃ sh,t = .tup [.str "never",.tup (sh.map qT)]/\ShR b (wfN m (psL n c (fun i=>- g i) ++ [(x,b)])) sh/\Fr [] M M':=by
  refine ym rfl ?_
  unfold zdH
  have a1:=zbR (x:=ch) (y:=.lst [.int (x:Int)]) (ys:=[.int (x:Int)]) (M:=M) (znW h.cho) h.cho rfl (by rw [List.length_map,cl];simp;omega)
  have a2:=zbR (x:=.lst (iL n fun i=>- g i)) (y:=.lst [.int b]) (xs:=iL n fun i=>- g i) (ys:=[.int b]) (M:=M) ⟨_,.inl rfl⟩ rfl rfl (by rw [zgZ];simp;omega)
  simp_arith [qC,h.chosen,h.bottom,a1,zmm (show n<=1000 by omega),a2]
  refine Ok.bind (zfO kC (ps:=psL n c (fun i=>- g i) ++ [(x,b)]) (G:=[]) (G':=[]) hm hb bb (by rw [List.map_append,zlr cl];rfl) (by rw [List.map_append,zlq];rfl)) ?_
  rintro t M2 ⟨sh,rfl,c1,c2⟩
  try simp_arith [and_self]
  exact Ok.ret ⟨sh,rfl,c1,c2⟩
end My
namespace My
open PySem L2 FT
theorem zje {g:Nat->Int} {F:Nat}:∀ {js:List Nat},(∀ j ∈ js,(g j).natAbs<=F)->(sm2 js g).natAbs<=js.length * F
  | [],_=>by simp [sm2]
  | j :: js,h=>by
    have ih:=zje (js:=js) fun k hk=>h k (.tail _ hk)
    have:=h j (.head _)
    show (g j + sm2 js g).natAbs<=(js.length + 1) * F
    rw [Nat.add_mul,Nat.one_mul]
    omega
theorem zia {ε x:Int} (h:ε * ε = 1):(ε * x).natAbs = x.natAbs:=by
  rw [Int.natAbs_mul]
  have:ε.natAbs * ε.natAbs = 1:=by rw [← Int.natAbs_mul,h];rfl
  rw [Nat.eq_one_of_mul_eq_one_right this,Nat.one_mul]
noncomputable def Qn (n:Nat):Nat:=(8 * (4 * 10 ^ 30)) ^ n
noncomputable def Rn (n:Nat):Nat:=8 * (4 * 10 ^ 30 * Qn n)
theorem zgr (n:Nat):Qn n<=Rn n:=by
  unfold Rn
  exact Nat.le_trans (Nat.le_mul_of_pos_left _ (by decide)) (Nat.le_mul_of_pos_left _ (by decide))
theorem zic {n k:Nat} (h:n<=k):Rn n<=Rn k:=Nat.mul_le_mul_left _ (Nat.mul_le_mul_left _ (Nat.pow_le_pow_right (by decide) h))
theorem Rn8:Rn 8 < 10 ^ 300:=by unfold Rn Qn;decide +kernel
theorem Rn6:Rn 6 < 10 ^ 221:=by unfold Rn Qn;decide +kernel
theorem zeQ {x:Int} {n:Nat} (h:x.natAbs<=Rn n) (hn:n<=8):NB 300 x:=Nat.lt_of_le_of_lt (Nat.le_trans h (zic hn)) Rn8
theorem zjl {x:Int} {n:Nat} (h:x.natAbs<=Rn n) (hn:n<=6):NB 221 x:=Nat.lt_of_le_of_lt (Nat.le_trans h (zic hn)) Rn6
theorem zj0 {n:Nat} {A:List Rw} (hl:A.length = n) (hn:n<=8) (h:∀ r ∈ A,∀ c,(r c).natAbs<=4 * 10 ^ 30):(det n A).natAbs<=Qn n:=by
  have:=zoR (N:=8) (B:=4 * 10 ^ 30) (by decide) A (List.range n) h (by simpa using hn)
  rw [hl] at this
  exact this
theorem zeL {n:Nat} {f g:Nat->Int} (hn:n<=8) (hf:∀ j,j < n->(f j).natAbs<=4 * 10 ^ 30) (hg:∀ j,j < n->(g j).natAbs<=Qn n):(sm2 (List.range n) fun j=>f j * g j).natAbs<=Rn n:=by
  refine Nat.le_trans (zje (F:=4 * 10 ^ 30 * Qn n) fun j hj=>?_) ?_
  · have hj:=List.mem_range.mp hj
    rw [Int.natAbs_mul]
    exact Nat.mul_le_mul (hf j hj) (hg j hj)
  · rw [List.length_range]
    exact Nat.mul_le_mul_right _ hn
structure WB (n:Nat) (aim:Rw) (W:Nat->Rw) (p:Rw) (b:Int):Prop where
  b:b.natAbs<=Qn n
  p:∀ j,j < n->(p j).natAbs<=Rn n
  w:∀ i j,i < n->j < n->(W i j).natAbs<=Qn n
  c:∀ i,i < n->(ln n aim (W i) 0).natAbs<=Rn n
section
variable {m n:Nat} {a:Nat->Rw} {l:Nat->Int} {aim:Rw} {c:List Nat} {W:Nat->Rw} {b ε:Int}
theorem Cnr.bd (h:Cnr m n a aim c W b ε) (hn:n<=8) (ha:∀ x,x < m + n->∀ j,(a x j).natAbs<=4 * 10 ^ 30) (hl:∀ x,x < m + n->(l x).natAbs<=4 * 10 ^ 30) (hm:∀ j,j < n->(aim j).natAbs<=4 * 10 ^ 30):WB n aim W (pnt n W (zB l c)) b:=by
  have rows:∀ r ∈ c.map a,∀ j,(r j).natAbs<=4 * 10 ^ 30:=fun r hr j=>by
    obtain ⟨x,hx,rfl⟩:=List.mem_map.mp hr
    exact ha x (h.lt x hx) j
  have cl:(c.map a).length = n:=h.bas.len
  have hw:∀ i j,i < n->j < n->(W i j).natAbs<=Qn n:=fun i j hi hj=>by
    rw [h.bas.cfm i j hi hj,zia h.bas.eps]
    refine zj0 (by rw [List.length_set,cl]) hn fun r hr k=>?_
    rcases List.mem_or_eq_of_mem_set hr with hr | rfl
    · exact rows r hr k
    · unfold un;split <;> decide
  refine ⟨?_,fun j hj=>?_,hw,fun i hi=>?_⟩
  · rw [h.bas.dtm,zia h.bas.eps];exact zj0 cl hn rows
  · exact zeL hn (f:=zB l c) (g:=fun i=>W i j) (fun i hi=>hl _ (h.mem hi)) (fun i hi=>hw i j hi hj)
  · exact zeL hn (f:=aim) (g:=W i) hm (fun j hj=>hw i j hi hj)
theorem WB.ok {p:Rw} (h:WB n aim W p b) (b0:0 < b) (hn:n<=8):WOk n aim W p b:=by
  refine ⟨b0,zeQ (Nat.le_trans h.b (zgr n)) hn,fun j hj=>zeQ (h.p j hj) hn,fun i hi j hj=>?_⟩
  match j,hj with
  | 0,_=>exact zeQ (h.c i hi) hn
  | 1,_=>
    have:=zeL hn (f:=fun _=>1) (g:=W i) (fun _ _=>by decide) (fun j hj=>h.w i j hi hj)
    have e:(sm2 (List.range n) fun j=>1 * W i j) = sm2 (List.range n) (W i):=zk fun j _=>Int.one_mul _
    rw [e] at this
    exact zeQ this hn
  | j + 2,hj=>exact zeQ (Nat.le_trans (h.w i j hi (by omega)) (zgr n)) hn
theorem Cnr.ok (h:Cnr m n a aim c W b ε) (hn:n<=8) (ha:∀ x,x < m + n->∀ j,(a x j).natAbs<=4 * 10 ^ 30) (hl:∀ x,x < m + n->(l x).natAbs<=4 * 10 ^ 30) (hm:∀ j,j < n->(aim j).natAbs<=4 * 10 ^ 30):WOk n aim W (pnt n W (zB l c)) b:=(h.bd hn ha hl hm).ok h.pos hn
end
noncomputable def e0:EV:=([],0,0)
noncomputable def aOf (n:Nat) (ds:List Dm) (x:Nat):Rw:=er ((evs n ds).getD x e0).1
noncomputable def lOf (n:Nat) (ds:List Dm) (x:Nat):Int:=((evs n ds).getD x e0).2.1
theorem zfC (n:Nat) (ds:List Dm):(evs n ds).length = ds.length + n:=by simp [evs]
theorem ze5 {n j:Nat} {ds:List Dm} (h:j < n):(evs n ds).getD (ds.length + j) e0 = unE j:=by
  unfold evs
  rw [List.getD_eq_getElem?_getD,List.getElem?_append_right (by simp)]
  simp [h]
theorem zjV {n k:Nat} {ds:List Dm} {d:Dm} (h:ds[k]? = some d):(evs n ds).getD k e0 = zeD d:=by
  have hk:=(List.getElem?_eq_some_iff.mp h).1
  unfold evs
  rw [List.getD_eq_getElem?_getD,List.getElem?_append_left (by simpa using hk),List.getElem?_map,h];rfl
theorem zh2 {n x:Nat} {ds:List Dm} {e:EV} (h:(evs n ds)[x]? = some e):(evs n ds).getD x e0 = e:=by
  rw [List.getD_eq_getElem?_getD,h];rfl
theorem zjb:∀ {ps:List (Nat × Int)},(∀ x ∈ ps,NB 31 x.2)->NB (62 + ps.length) ((ps.map fun x=>x.2 * x.2).sum)
  | [],_=>Nat.pow_pos (by decide)
  | x :: ps,h=>by
    have ih:=zjb (ps:=ps) fun y hy=>h y (.tail _ hy)
    have a:=(h x (.head _)).mul (h x (.head _))
    rw [List.map_cons,List.sum_cons]
    exact NB.add (m:=62 + ps.length) (a.mono (by omega)) ih
theorem ze6 {n:Nat} {ds:List Dm} (hd:∀ d ∈ ds,BD n d) (hn:n<=100):∀ e ∈ evs n ds,EOk n e:=fun e he=>by
  unfold evs at he
  rcases List.mem_append.mp he with he | he
  · obtain ⟨d,dm,rfl⟩:=List.mem_map.mp he
    obtain ⟨d1,d2,d3⟩:=hd d dm
    have ps:∀ x ∈ pr 0 d.1,x.1 < n/\NB 31 x.2:=fun x hx=>by
      obtain ⟨_,h2,h3⟩:=zgK hx
      exact ⟨by omega,(d2 _ h3).nb⟩
    have pl:=zgL d.1 0
    refine ⟨ps,by show (pr 0 d.1).length<=n;omega,d3.nb,?_⟩
    exact (zjb fun x hx=>(ps x hx).2).mono (by omega)
  · obtain ⟨u,hu,rfl⟩:=List.mem_map.mp he
    have hu:=List.mem_range.mp hu
    have o1:NB 31 1:=Nat.lt_of_lt_of_le (show (1:Nat) < 10 ^ 1 by decide) (Nat.pow_le_pow_right (by decide) (by decide))
    refine ⟨fun x hx=>?_,?_,?_,?_⟩
    · have:x = (u,1):=by simpa [unE] using hx
      subst this
      exact ⟨hu,o1⟩
    · show 1<=n;omega
    · show NB 31 0;exact Nat.pow_pos (by decide)
    · exact o1.mono (by decide)
theorem zjS {n:Nat} {ds:List Dm} (hd:∀ d ∈ ds,BD n d) (hn:n<=100):Fam ds.length n (aOf n ds) (lOf n ds):=by
  refine ⟨fun j hj=>?_,fun j hj=>?_,fun x hx=>?_⟩
  · unfold aOf
    rw [ze5 hj]
    funext c
    show 1 * un j c + 0 = un j c
    omega
  · unfold lOf
    rw [ze5 hj];rfl
  · unfold aOf
    refine zjW fun y hy=>?_
    have hx':x < (evs n ds).length:=by rw [zfC];exact hx
    have:(evs n ds).getD x e0 ∈ evs n ds:=by
      rw [List.getD_eq_getElem?_getD,List.getElem?_eq_getElem hx']
      exact List.getElem_mem hx'
    exact ((ze6 hd hn _ this).ps y hy).1
theorem ziY {n k:Nat} {ds:List Dm} {d:Dm} (h:ds[k]? = some d) (j:Nat):aOf n ds k j = d.1.getD j 0:=by
  unfold aOf
  rw [zjV h]
  show er (pr 0 d.1) j = _
  rw [zlz,if_pos (Nat.zero_le _),Nat.sub_zero]
theorem ziD {n k:Nat} {ds:List Dm} {d:Dm} (h:ds[k]? = some d):lOf n ds k = d.2:=by
  unfold lOf
  rw [zjV h];rfl
theorem BL.abs {x:Int} (h:BL x):x.natAbs<=4 * 10 ^ 30:=by
  unfold BL at h
  simp only [Int.reducePow,Nat.reducePow] at *
  omega
theorem zfy {xs:List Int} (h:∀ x ∈ xs,BL x) (j:Nat):(xs.getD j 0).natAbs<=4 * 10 ^ 30:=by
  rw [List.getD_eq_getElem?_getD]
  cases q:xs[j]? with
  | none=>exact Nat.zero_le _
  | some x=>exact (h x (List.mem_of_getElem? q)).abs
theorem zfH {n:Nat} {ds:List Dm} (hd:∀ d ∈ ds,BD n d) (x:Nat) (hx:x < ds.length + n) (j:Nat):(aOf n ds x j).natAbs<=4 * 10 ^ 30:=by
  by_cases h:x < ds.length
  · have q:=List.getElem?_eq_getElem h
    rw [ziY q]
    exact zfy (hd _ (List.mem_of_getElem? q)).2.1 j
  · have:aOf n ds x = un (x - ds.length):=by
      unfold aOf
      have:=ze5 (ds:=ds) (show x - ds.length < n by omega)
      rw [show ds.length + (x - ds.length) = x by omega] at this
      rw [this]
      funext c
      show 1 * un (x - ds.length) c + 0 = un (x - ds.length) c
      omega
    rw [this]
    unfold un
    split <;> decide
theorem zgW {n:Nat} {ds:List Dm} (hd:∀ d ∈ ds,BD n d) (x:Nat) (hx:x < ds.length + n):(lOf n ds x).natAbs<=4 * 10 ^ 30:=by
  by_cases h:x < ds.length
  · have q:=List.getElem?_eq_getElem h
    rw [ziD q]
    exact (hd _ (List.mem_of_getElem? q)).2.2.abs
  · unfold lOf
    have:=ze5 (ds:=ds) (show x - ds.length < n by omega)
    rw [show ds.length + (x - ds.length) = x by omega] at this
    rw [this]
    exact Nat.zero_le _
theorem zlB {n x:Nat} {ds:List Dm} {e:EV} (hd:∀ d ∈ ds,BD n d) (hn:n<=100) (h:(evs n ds)[x]? = some e) (P:Rw):dt n (aOf n ds x) P = zdq e.1 P:=by
  unfold aOf
  rw [zh2 h]
  exact zlC fun y hy=>((ze6 hd hn e (List.mem_of_getElem? h)).ps y hy).1
noncomputable def dot:List Int->List Int->Int
  | n :: ns,w :: ws=>n * w + dot ns ws
  | _,_=>0
theorem zhI {h:Nat->Nat} {g:Nat->Int}:∀ (js:List Nat),sm2 (js.map h) g = sm2 js fun j=>g (h j)
  | []=>rfl
  | j :: js=>by show g (h j) + sm2 (js.map h) g = _;rw [zhI js];rfl
theorem zcI:∀ {m:Nat} {xs ys:List Int},xs.length = m->ys.length = m->dot xs ys = sm2 (List.range m) fun k=>xs.getD k 0 * ys.getD k 0
  | 0,[],[],_,_=>rfl
  | m + 1,x :: xs,y :: ys,hx,hy=>by
    have ih:=zcI (m:=m) (xs:=xs) (ys:=ys) (by simpa using hx) (by simpa using hy)
    rw [List.range_succ_eq_map]
    show x * y + dot xs ys = (x :: xs).getD 0 0 * (y :: ys).getD 0 0 + sm2 ((List.range m).map Nat.succ) _
    rw [zhI,ih];rfl
noncomputable def qI (ds:List Dm) (j:Nat):List Int:=ds.map fun d=>d.1.getD j 0
noncomputable def yR (ds:List Dm):List Int:=ds.map (·.2)
structure TL (n:Nat) (ds:List Dm) (cs:List Int) (b:Int) (ps ws:List Int):Prop where
  pos:0 < b
  bb:b.natAbs<=Qn n
  pl:ps.length = n
  pn:∀ p ∈ ps,0<=p/\p.natAbs<=Rn n
  wl:ws.length = ds.length
  wn:∀ w ∈ ws,0<=w/\w.natAbs<=Rn n
  meets:∀ d ∈ ds,d.2 * b<=dot d.1 ps
  col:∀ j,j < n->dot (qI ds j) ws<=cs.getD j 0 * b
  sum:dot cs ps = dot (yR ds) ws
structure TN (n:Nat) (ds:List Dm) (b:Int) (ws:List Int):Prop where
  pos:0 < b
  bb:b.natAbs<=Qn n
  wl:ws.length = ds.length
  wn:∀ w ∈ ws,0<=w/\w.natAbs<=Rn n
  col:∀ j,j < n->dot (qI ds j) ws<=0
  sum:0 < dot (yR ds) ws
noncomputable def Told (n:Nat) (ds:List Dm) (cs:List Int) (t:FT.T):Prop:=
  (∃ b ps ws xs sh,t = .tup [.str "least",.tup (xs.map qT),.tup (sh.map qT)]/\TL n ds cs b ps ws/\ShR b ps xs/\ShR b ws sh) \/
  (∃ b ws sh,t = .tup [.str "never",.tup (sh.map qT)]/\TN n ds b ws/\ShR b ws sh)
theorem zj4 {n:Nat} {ds:List Dm} {ws:List Int} {j:Nat} (wl:ws.length = ds.length):dot (qI ds j) ws = sm2 (List.range ds.length) fun k=>ws.getD k 0 * aOf n ds k j:=by
  rw [zcI (m:=ds.length) (by simp [qI]) wl]
  refine zk fun k hk=>?_
  have hk:=List.mem_range.mp hk
  have q:=List.getElem?_eq_getElem hk
  rw [ziY q,Int.mul_comm]
  congr 1
  unfold qI
  rw [List.getD_eq_getElem?_getD,List.getElem?_map,q];rfl
theorem zjB {n:Nat} {ds:List Dm} {ws:List Int} (wl:ws.length = ds.length):dot (yR ds) ws = sm2 (List.range ds.length) fun k=>ws.getD k 0 * lOf n ds k:=by
  rw [zcI (m:=ds.length) (by simp [yR]) wl]
  refine zk fun k hk=>?_
  have hk:=List.mem_range.mp hk
  have q:=List.getElem?_eq_getElem hk
  rw [ziD q,Int.mul_comm]
  congr 1
  unfold yR
  rw [List.getD_eq_getElem?_getD,List.getElem?_map,q];rfl
theorem zni {n j:Nat} {P:Rw} (h:j < n):((List.range n).map P).getD j 0 = P j:=by
  rw [List.getD_eq_getElem?_getD,List.getElem?_map,List.getElem?_range h];rfl
theorem zjk {n:Nat} {xs:List Int} {a P:Rw} (xl:xs.length = n) (h:∀ j,j < n->a j = xs.getD j 0):dot xs ((List.range n).map P) = dt n a P:=by
  rw [zcI (m:=n) xl (by simp)]
  refine zk fun j hj=>?_
  have hj:=List.mem_range.mp hj
  rw [zni hj,h j hj]
theorem zoT {n:Nat} {ds:List Dm} {cs:List Int} {aim:Rw} {b:Int} {P:Rw} {ws:List Int} (hd:∀ d ∈ ds,BD n d) (cl:cs.length = n) (hc:∀ j,j < n->aim j = cs.getD j 0) (h:Lst ds.length n (aOf n ds) (lOf n ds) aim b P fun k=>ws.getD k 0) (bb:b.natAbs<=Qn n) (bp:∀ j,j < n->(P j).natAbs<=Rn n) (wl:ws.length = ds.length) (wn:∀ w ∈ ws,0<=w/\w.natAbs<=Rn n) :
    TL n ds cs b ((List.range n).map P) ws:=by
  refine ⟨h.pos,bb,by simp,fun p hp=>?_,wl,wn,fun d hm=>?_,fun j hj=>?_,?_⟩
  · obtain ⟨j,hj,rfl⟩:=List.mem_map.mp hp
    have hj:=List.mem_range.mp hj
    exact ⟨h.pnn j hj,bp j hj⟩
  · obtain ⟨k,hk,rfl⟩:=List.getElem_of_mem hm
    have q:=List.getElem?_eq_getElem hk
    have:=h.meets k hk
    rw [ziD q] at this
    rw [zjk (a:=aOf n ds k) (hd _ hm).1 (fun j _=>ziY q j)]
    exact this
  · rw [zj4 (n:=n) wl,← hc j hj]
    exact h.col j hj
  · rw [zjk cl hc,h.sum,zjB (n:=n) wl]
theorem zoS {n:Nat} {ds:List Dm} {b:Int} {ws:List Int} (h:Nvr ds.length n (aOf n ds) (lOf n ds) fun k=>ws.getD k 0) (b0:0 < b) (bb:b.natAbs<=Qn n) (wl:ws.length = ds.length) (wn:∀ w ∈ ws,0<=w/\w.natAbs<=Rn n):TN n ds b ws:=by
  refine ⟨b0,bb,wl,wn,fun j hj=>?_,?_⟩
  · rw [zj4 (n:=n) wl];exact h.col j hj
  · rw [zjB (n:=n) wl];exact h.sum
end My
namespace FT
open PySem L2
theorem Ok.whileP {c:Ev->Mem->Out Bool} {body:Ev->Mem->Out Fl} (P:Nat->Ev->Mem->Prop) {Q:Ev->Mem->Prop} {R:T->Mem->Prop}
    (t:∀ n σ M,P n σ M->Ok (c σ M) fun b M1=>(b = true/\Ok (body σ M1) fun fl M2=>(∃ σ' n',fl = .nx σ'/\n' < n/\P n' σ' M2)\/∃ t,fl = .rt t/\R t M2)\/(b = false/\Q σ M1)) :
    ∀ (N n:Nat) (σ:Ev) (M:Mem),n < N->P n σ M->Ok (FT.whileN c body N σ M) fun fl M'=>(∃ σ',fl = .nx σ'/\Q σ' M')\/∃ t,fl = .rt t/\R t M'
  | 0,_,_,_,hn,_=>absurd hn (by omega)
  | N + 1,n,σ,M,hn,h=>by
    obtain ⟨b,M1,e,r⟩:=t n σ M h
    unfold FT.whileN
    rw [e]
    rcases r with ⟨rfl,fl,M2,e2,r⟩ | ⟨rfl,q⟩
    · show Ok ((body σ M1).bind _) _
      rw [e2]
      rcases r with ⟨σ1,n1,h1,h2,h3⟩ | ⟨u,h1,h2⟩
      · rw [h1];exact Ok.whileP P t N n1 σ1 M2 (by omega) h3
      · rw [h1];exact ⟨.rt u,M2,rfl,.inr ⟨u,rfl,h2⟩⟩
    · exact ⟨.nx σ,M1,rfl,.inl ⟨σ,rfl,q⟩⟩
theorem Ok.whileQ {c:Ev->Mem->Out Bool} {body:Ev->Mem->Out Fl} {σ:Ev} {M:Mem} (P:Nat->Ev->Mem->Prop) {Q:Ev->Mem->Prop} {R:T->Mem->Prop} {n:Nat} (h:P n σ M)
    (t:∀ n σ M,P n σ M->Ok (c σ M) fun b M1=>(b = true/\Ok (body σ M1) fun fl M2=>(∃ σ' n',fl = .nx σ'/\n' < n/\P n' σ' M2)\/∃ t,fl = .rt t/\R t M2)\/(b = false/\Q σ M1)) :
    Ok (y9 c body σ M) fun fl M'=>(∃ σ',fl = .nx σ'/\Q σ' M')\/∃ t,fl = .rt t/\R t M':=by
  obtain ⟨fl,M',e,r⟩:=Ok.whileP P t (n + 1) n σ M (by omega) h
  exact ⟨fl,M',zfP _ e (by simp),r⟩
end FT
namespace My
open PySem L2 FT
variable (kC:Addr)
theorem zh1 {b x y:Int} (b0:0 < b) (h:b * y = x):x.fdiv b = y:=by
  rw [← h]
  exact Int.mul_fdiv_cancel_left _ (by omega)
structure At (M:Mem) (ds:List Dm) (n:Nat) (aim:Rw) (k:Nat) (c:List Nat) (W:Nat->Rw) (b ε:Int) (ch:FT.T) (l:Nat):Prop where
  cnr:Cnr ds.length n (aOf n ds) aim c W b ε
  cor:Cor kC M k n aim c W (pnt n W (zB (lOf n ds) c)) b ch l
theorem zeB {n x:Nat} {ds:List Dm} {e:EV} {p:Rw} {b:Int} (hd:∀ d ∈ ds,BD n d) (hn:n<=100) (h:(evs n ds)[x]? = some e):yt e p b = lOf n ds x * b - dt n (aOf n ds x) p:=by
  rw [zlB hd hn h]
  unfold yt lOf
  rw [zh2 h]
theorem zg5 {n x i:Nat} {ds:List Dm} {e:EV} {W:Nat->Rw} (hd:∀ d ∈ ds,BD n d) (hn:n<=100) (h:(evs n ds)[x]? = some e):zar e W i = dt n (aOf n ds x) (W i):=by
  rw [zlB hd hn h];rfl
theorem zg4 {n:Nat} {e:EV} {aim:Rw} {W:Nat->Rw} {p:Rw} {b:Int} (he:EOk n e) (hn:n<=100) (wo:WOk n aim W p b):∀ i,i < n->NB 500 (zar e W i):=fun i hi=>by
  have a1:=zfh (m:=300) (p:=W i) (ps:=e.1) fun x hx=>⟨(he.ps x hx).2,wo.w hi (he.ps x hx).1⟩
  have:=he.len
  exact a1.mono (by omega)
theorem zhe {n x:Nat} {ds:List Dm} {e:EV} (h:(evs n ds)[x]? = some e):x < ds.length + n:=by
  have:=(List.getElem?_eq_some_iff.mp h).1
  rw [zfC] at this
  exact this
theorem zmo {M:Mem} {ds:List Dm} {n k l r x:Nat} {aim:Rw} {c:List Nat} {W:Nat->Rw} {b ε:Int} {ch:FT.T} {e:EV} (hd:∀ d ∈ ds,BD n d) (hn:n<=8) (hm:∀ j,j < n->(aim j).natAbs<=4 * 10 ^ 30) (h:At kC M ds n aim k c W b ε ch l) (he:(evs n ds)[x]? = some e)
    (hr:r < n) (r0:0 < zar e W r) (hc:∀ i,i < n->i ≠ r->0 < zar e W i->LP (n + 2) fun j=>zar e W r * ln n aim (W i) j - zar e W i * ln n aim (W r) j) (la:0 < yt e (pnt n W (zB (lOf n ds) c)) b) :
    Ok (yV kC [.ref k,.lst (iL n (zar e W)),.int (r:Int),.int (x:Int),.int (yt e (pnt n W (zB (lOf n ds) c)) b)] M) fun t M'=>∃ k' c' W' b' ch' l',t = .ref k'/\At kC M' ds n aim k' c' W' b' ε ch' l'/\Fr [] M M' /\
      left n aim (aOf n ds) (lOf n ds) (ds.length + n) (pnt n W' (zB (lOf n ds) c')) b' < left n aim (aOf n ds) (lOf n ds) (ds.length + n) (pnt n W (zB (lOf n ds) c)) b:=by
  have h100:n<=100:=by omega
  have fam:=zjS hd h100
  have wo:=h.cnr.ok (l:=lOf n ds) hn (zfH hd) (zgW hd) hm
  have eo:=ze6 hd h100 e (List.mem_of_getElem? he)
  have hx:=zhe he
  have ge:∀ i,zar e W i = dt n (aOf n ds x) (W i):=fun i=>zg5 hd h100 he
  have le:=zeB (p:=pnt n W (zB (lOf n ds) c)) (b:=b) hd h100 he
  have hg:=zg4 eo h100 wo
  have hla:=(zeA eo h100 wo.b wo.p).mono (show 432<=500 by decide)
  rw [ge r] at r0
  have hc':∀ i,i < n->i ≠ r->0 < dt n (aOf n ds x) (W i)->LP (n + 2) fun j=>dt n (aOf n ds x) (W r) * ln n aim (W i) j - dt n (aOf n ds x) (W i) * ln n aim (W r) j:=fun i hi hir g0=>by
    have:=hc i hi hir (by rw [ge];exact g0)
    rw [ge r,ge i] at this
    exact this
  have c2:=h.cnr.move fam hx hr r0 hc'
  have lt:=h.cnr.left_lt fam hx hr r0 hc' (by rw [← le];exact la)
  refine (zkG kC (W':=mv n (c.map (aOf n ds)) W (aOf n ds x) r ε) (p':=pnt n (mv n (c.map (aOf n ds)) W (aOf n ds x) r ε) (zB (lOf n ds) (c.set r x))) h.cor wo h100 hr h.cnr.len hg hla ?_ ?_ ?_).mono ?_
  · intro i hi hir j hj
    refine zh1 h.cnr.pos ?_
    rw [ge r,ge i,← zeS]
    refine zeR (fun j hj=>?_) j hj
    show b * (if i = r then W r j else ε * My.cof n ((c.map (aOf n ds)).set r (aOf n ds x)) i j) = _
    rw [if_neg hir]
    exact h.cnr.bas.exact (fam.sup x hx) hr hi hir hj
  · intro j hj
    have:mv n (c.map (aOf n ds)) W (aOf n ds x) r ε r = W r:=by funext j;exact if_pos rfl
    rw [this]
  · intro j hj
    refine zh1 h.cnr.pos ?_
    rw [h.cnr.point_move fam hx hr hj,ge r,le,Int.neg_mul]
    omega
  · rintro t M' ⟨k',ch',l',rfl,cr,fr⟩
    rw [ge r] at cr
    exact ⟨k',_,_,_,ch',l',rfl,⟨c2,cr⟩,fr,lt⟩
theorem zlO {dv:FT.T} {G:Gd} {ds:List Dm} {cs:List Int} {n:Nat} {M:Mem} (h:zC dv M = some (ds.map dmT,G)) (hd:∀ d ∈ ds,BD n d) (hl:ds.length<=100) (cl:cs.length = n) (hn:n<=8) (hc:∀ c ∈ cs,0<=c/\BL c) :
    Ok (zb8 kC [dv,.tup (cs.map .int)] M) fun t M'=>Told n ds cs t/\Fr [] M M':=by
  refine ym rfl ?_
  unfold zdJ
  have h100:n<=100:=by omega
  have fam:=zjS hd h100
  have hes:=ze6 hd h100
  have ziC:∀ {M'},Fr [] M M'->zM dv M' = .ok (.int (ds.length:Int)) M':=fun f=>by
    have:=zgD (zd0 h f)
    rw [List.length_map] at this
    exact this
  have lenA:∀ M',zM (.tup (cs.map FT.T.int)) M' = .ok (.int (n:Int)) M':=fun M'=>by rw [zgV,List.length_map,cl]
  let aim:Rw:=fun j=>cs.getD j 0
  have haim:∀ j,j < n->aim j = cs.getD j 0:=fun _ _=>rfl
  have ha0:∀ j,j < n->0<=aim j:=fun j hj=>by
    show 0<=cs.getD j 0
    rw [List.getD_eq_getElem?_getD,List.getElem?_eq_getElem (by omega)]
    exact (hc _ (List.getElem_mem _)).1
  have hsup:Sup n aim:=fun j hj=>by
    show cs.getD j 0 = 0
    rw [List.getD_eq_getElem?_getD,List.getElem?_eq_none (by omega)];rfl
  have hab:∀ j,j < n->(aim j).natAbs<=4 * 10 ^ 30:=fun j _=>zfy (fun x hx=>(hc x hx).2) j
  simp only [startT,List.map_cons,List.map_nil,List.replicate,List.cons_append,List.nil_append,List.length_cons,List.length_nil,Nat.zero_add,Nat.reduceAdd,Nat.reduceSub]
  refine Ok.seqR fun X hX=>?_
  simp only [zj,yd,zb,qc,qa,zc4,zbi,List.getElem?_cons_zero,List.getElem?_cons_succ,Option.join_some,qQ,zh8,lenA,zaL]
  refine Ok.bind (zoN kC h hd hl h100) ?_
  rintro t M1 ⟨e,rfl,e0,e1,e2⟩
  simp only [qQ,List.set_cons_zero,List.set_cons_succ]
  rw [hX];clear hX;simp only [zh]
  refine Ok.seqR fun X hX=>?_
  simp_arith [ziC e2]
  refine Ok.bind (zk9 kC (m:=ds.length) cl h100 haim) ?_
  rintro t M2 ⟨k,ch,l,rfl,k0,k1,k2⟩
  rw [hX];clear hX;simp only [zh]
  have ee:=k2.get0 e1
  have c0:=Cnr.first (aim:=aim) fam ha0
  have k1':Cor kC M2 k n aim ((List.range n).map fun j=>ds.length + j) un (pnt n un (zB (lOf n ds) ((List.range n).map fun j=>ds.length + j))) 1 ch l:=by
    have e:iL n (pnt n un (zB (lOf n ds) ((List.range n).map fun j=>ds.length + j))) = iL n fun _=>0:=zc2 fun j hj=>qL fun i hi=>by
      have hi:=List.mem_range.mp hi
      have:zB (lOf n ds) ((List.range n).map fun j=>ds.length + j) i = 0:=by
        unfold zB
        rw [List.getD_eq_getElem?_getD,List.getElem?_map,List.getElem?_range hi]
        exact fam.zero i hi
      rw [this,Int.zero_mul]
    exact ⟨by rw [e];exact k1.ins,k1.lin,k1.cho⟩
  have wo0:=c0.ok (l:=lOf n ds) hn (zfH hd) (zgW hd) hab
  refine Ok.seqR fun X hX=>?_
  simp_arith [and_self]
  refine Ok.bind (zhR kC ee k1' hes wo0.b wo0.p h100) ?_
  rintro t M3 ⟨rfl,br⟩
  rw [hX];clear hX;simp only [zh]
  refine Ok.seqR fun X hX=>?_
  refine Ok.bind (Ok.whileQ (fun z σ M'=>∃ (k:Nat) (c:List Nat) (W:Nat->Rw) (b ε:Int) (ch:FT.T) (l:Nat) (w:FT.T) (v5 v6:Option FT.T),σ = [some dv,some (.tup (cs.map .int)),some (.ref e),some (.ref k),some w,v5,v6]/\M'[e]? = some (.lst ((evs n ds).map evT)) /\
      At kC M' ds n aim k c W b ε ch l/\Brk (evs n ds) (pnt n W (zB (lOf n ds) c)) b w/\Fr [] M M'/\z = left n aim (aOf n ds) (lOf n ds) (ds.length + n) (pnt n W (zB (lOf n ds) c)) b)
    (Q:=fun σ M'=>∃ (k:Nat) (c:List Nat) (W:Nat->Rw) (b ε:Int) (ch:FT.T) (l:Nat) (w:FT.T) (v5 v6:Option FT.T),σ = [some dv,some (.tup (cs.map .int)),some (.ref e),some (.ref k),some w,v5,v6]/\At kC M' ds n aim k c W b ε ch l/\(∀ (x:Nat) (e:EV),(evs n ds)[x]? = some e->yt e (pnt n W (zB (lOf n ds) c)) b<=0)/\Fr [] M M')
    (R:=fun t M'=>Told n ds cs t/\Fr [] M M')
    ⟨k,_,_,_,_,ch,l,_,none,none,rfl,ee,⟨c0,k1'⟩,br,e2.trans k2,rfl⟩ ?_) ?_
  · rintro z σ M4 ⟨k,c,W,b,ε,ch,l,w,v5,v6,rfl,r2,at1,br,fr,rfl⟩
    have wb:=at1.cnr.bd (l:=lOf n ds) hn (zfH hd) (zgW hd) hab
    have wo:=wb.ok at1.cnr.pos hn
    unfold zdi
    rcases br with ⟨rfl,hall⟩ | ⟨x,e',rfl,hx,hlk⟩
    · simp_arith [zjE]
      exact Ok.ret (.inr ⟨rfl,k,c,W,b,ε,ch,l,_,v5,v6,rfl,at1,hall,fr⟩)
    · simp_arith [zjF]
      refine Ok.ret (.inl ⟨rfl,?_⟩)
      have eo:=hes e' (List.mem_of_getElem? hx)
      have ge:∀ i,zar e' W i = dt n (aOf n ds x) (W i):=fun i=>zg5 hd h100 hx
      have ix:atI ((evs n ds).map evT) (x:Int) = some (evT e'):=by rw [FT.yJ,List.getElem?_map,hx];rfl
      unfold zdj
      refine Ok.seqX fun X hX=>?_
      simp_arith [r2,ix,zk6 kC at1.cor wo h100 eo]
      rw [hX];clear hX;simp only [zh]
      refine Ok.seqX fun X hX=>?_
      simp_arith [qC,at1.cor.lines]
      refine Ok.bind (zlk kC at1.cor.lin wo.ln (zg4 eo h100 wo) (fun i r hi hr hir g0=>at1.cnr.apart hi hr hir (by omega))) ?_
      rintro t M5 ⟨rfl,⟨rfl,hng⟩ | ⟨r,rfl,hr,r0,hch⟩⟩
      · rw [hX];clear hX;simp only [zh]
        refine Ok.seqX fun X hX=>?_
        simp_arith [zfw,ziC fr]
        refine Ok.bind (zkF kC (m:=ds.length) (x:=x) at1.cor (by omega) h100 wo.pos wo.b at1.cnr.len) ?_
        rintro t M6 ⟨sh,rfl,c1,c2⟩
        rw [hX]
        simp_arith [and_self]
        have nv:=at1.cnr.never fam (zhe hx) (fun i hi=>by rw [← ge];exact hng i hi) (by rw [← zeB hd h100 hx];exact hlk)
        have eq:(fun i=>- zar e' W i) = fun i=>- dt n (aOf n ds x) (W i):=funext fun i=>by rw [ge]
        rw [eq] at c1
        refine Ok.ret (.inr ⟨_,rfl,.inr ⟨b,_,sh,rfl,zoS nv wo.pos wb.b (zfg _ _) (zhF ⟨Int.le_refl 0,Nat.zero_le _⟩ fun y hy=>?_),c1⟩,fr.trans c2⟩)
        rcases List.mem_append.mp hy with hy | hy
        · obtain ⟨i,hi,rfl⟩:=List.mem_map.mp hy
          have hi:=List.mem_range.mp hi
          have a1:=hng i hi
          rw [ge] at a1
          refine ⟨by show 0<=- dt n (aOf n ds x) (W i);omega,?_⟩
          show (- dt n (aOf n ds x) (W i)).natAbs<=Rn n
          rw [Int.natAbs_neg]
          exact zeL hn (f:=aOf n ds x) (g:=W i) (fun j _=>zfH hd x (zhe hx) j) (fun j hj=>wb.w i j hi hj)
        · rw [List.mem_singleton.mp hy]
          exact ⟨Int.le_of_lt wo.pos,Nat.le_trans wb.b (zgr n)⟩
      · rw [hX];clear hX;simp only [zh]
        refine Ok.seqX fun X hX=>?_
        simp_arith [zd5]
        rw [hX];clear hX;simp only [zh]
        refine Ok.seqX fun X hX=>?_
        simp_arith [r2,ix,zhW kC at1.cor wo.b wo.p h100 eo]
        refine Ok.bind (zmo kC hd hn hab at1 hx hr r0 hch hlk) ?_
        rintro t M6 ⟨k',c',W',b',ch',l',rfl,at2,f6,lt⟩
        have wo2:=at2.cnr.ok (l:=lOf n ds) hn (zfH hd) (zgW hd) hab
        rw [hX];clear hX;simp only [zh]
        simp_arith [and_self]
        refine Ok.bind (zhR kC (f6.get0 r2) at2.cor hes wo2.b wo2.p h100) ?_
        rintro t M7 ⟨rfl,br7⟩
        try simp_arith [and_self]
        exact Ok.ret (.inl ⟨_,_,rfl,lt,k',c',W',b',ε,ch',l',_,_,_,rfl,f6.get0 r2,at2,br7,fr.trans f6,rfl⟩)
  · rintro fl M4 (⟨σ,rfl,k,c,W,b,ε,ch,l,w,v5,v6,rfl,at1,hall,fr⟩ | ⟨t,rfl,q1,q2⟩)
    · have wb:=at1.cnr.bd (l:=lOf n ds) hn (zfH hd) (zgW hd) hab
      have wo:=wb.ok at1.cnr.pos hn
      rw [hX];clear hX;simp only [zh]
      simp_arith [ziC fr]
      refine Ok.bind (zkP kC (m:=ds.length) at1.cor (by omega) h100 wo.pos wo.b at1.cnr.len) ?_
      rintro t M5 ⟨xs,sh,rfl,hxs,hsh,f5⟩
      try simp_arith [and_self]
      have ls:=at1.cnr.least fam hsup fun x hx=>by
        have q:=List.getElem?_eq_getElem (show x < (evs n ds).length by rw [zfC];exact hx)
        have:=hall x _ q
        rw [zeB hd h100 q] at this
        omega
      refine Ok.ret ⟨.inl ⟨b,_,_,xs,sh,rfl,zoT hd cl haim ls wb.b wb.p (zfg _ _) (zhF ⟨Int.le_refl 0,Nat.zero_le _⟩ fun y hy=>?_),hxs,hsh⟩,fr.trans f5⟩
      obtain ⟨i,hi,rfl⟩:=List.mem_map.mp hy
      have hi:=List.mem_range.mp hi
      exact ⟨(at1.cnr.lp i hi).fst,wb.c i hi⟩
    · rw [hX]
      simp_arith [and_self]
      exact Ok.ret ⟨q1,q2⟩
end My
namespace My
open PySem L2 FT
theorem step {β γ:Type} {o:Out β} {k:β->Mem->Out γ} {b:β} {M:Mem} {Q:γ->Mem->Prop} (e:o = .ok b M) (h:Ok (k b M) Q):Ok (o.bind k) Q:=by rw [e];exact h
theorem zlf {n:Nat} {us:List Int} {Y:Int} (ul:us.length = n):∀ {ds:List Dm} {ws:List Int},(∀ d ∈ ds,d.1.length = n)->ws.length = ds.length->(∀ w ∈ ws,0<=w)->(∀ d ∈ ds,d.2 * Y<=dot d.1 us)->Y * dot (yR ds) ws<=sm2 (List.range n) fun j=>us.getD j 0 * dot (qI ds j) ws
  | [],ws,_,wl,_,_=>by
    have:(sm2 (List.range n) fun j=>us.getD j 0 * dot (qI [] j) ws) = 0:=qL fun j _=>by cases ws <;> simp [qI,dot]
    rw [this]
    cases ws <;> simp [yR,dot]
  | d :: ds,[],_,wl,_,_=>by simp at wl
  | d :: ds,w :: ws,hd,wl,w0,hm=>by
    have ih:=zlf ul (ds:=ds) (ws:=ws) (fun x hx=>hd x (.tail _ hx)) (by simpa using wl) (fun x hx=>w0 x (.tail _ hx)) (fun x hx=>hm x (.tail _ hx))
    have a1:=Int.mul_le_mul_of_nonneg_left (hm d (.head _)) (w0 w (.head _))
    show Y * (d.2 * w + dot (yR ds) ws)<=sm2 (List.range n) fun j=>us.getD j 0 * (d.1.getD j 0 * w + dot (qI ds j) ws)
    have e:(sm2 (List.range n) fun j=>us.getD j 0 * (d.1.getD j 0 * w + dot (qI ds j) ws)) = w * dot d.1 us + sm2 (List.range n) fun j=>us.getD j 0 * dot (qI ds j) ws:=by
      rw [zcI (hd d (.head _)) ul,← qu,← zQ]
      refine zk fun j _=>?_
      rw [Int.mul_add]
      congr 1
      simp only [Int.mul_comm,Int.mul_left_comm,Int.mul_assoc]
    rw [e,Int.mul_add]
    have:Y * (d.2 * w) = w * (d.2 * Y):=by simp only [Int.mul_comm,Int.mul_left_comm,Int.mul_assoc]
    omega
theorem TN.no {n:Nat} {ds:List Dm} {b Y:Int} {ws us:List Int} (h:TN n ds b ws) (hd:∀ d ∈ ds,BD n d) (ul:us.length = n) (u0:∀ u ∈ us,0<=u) (y0:0 < Y) (hm:∀ d ∈ ds,d.2 * Y<=dot d.1 us):False:=by
  have a:=zlf ul (Y:=Y) (fun d dm=>(hd d dm).1) h.wl (fun w hw=>(h.wn w hw).1) hm
  have b:(sm2 (List.range n) fun j=>us.getD j 0 * dot (qI ds j) ws)<=sm2 (List.range n) fun _=>0:=zeM fun j hj=>by
    have hj:=List.mem_range.mp hj
    refine Int.mul_nonpos_of_nonneg_of_nonpos ?_ (h.col j hj)
    rw [List.getD_eq_getElem?_getD,List.getElem?_eq_getElem (by omega)]
    exact u0 _ (List.getElem_mem _)
  rw [qL (g:=fun _=>0) (fun _ _=>rfl)] at b
  have:=Int.mul_pos y0 h.sum
  omega
theorem TL.le {n:Nat} {ds:List Dm} {cs:List Int} {b Y:Int} {ps ws us:List Int} (h:TL n ds cs b ps ws) (hd:∀ d ∈ ds,BD n d) (cl:cs.length = n) (ul:us.length = n) (u0:∀ u ∈ us,0<=u) (hm:∀ d ∈ ds,d.2 * Y<=dot d.1 us):Y * dot cs ps<=b * dot cs us:=by
  have a:=zlf ul (Y:=Y) (fun d dm=>(hd d dm).1) h.wl (fun w hw=>(h.wn w hw).1) hm
  rw [h.sum]
  refine Int.le_trans a ?_
  rw [zcI cl ul,← qu]
  refine zeM fun j hj=>?_
  have hj:=List.mem_range.mp hj
  have u0':0<=us.getD j 0:=by
    rw [List.getD_eq_getElem?_getD,List.getElem?_eq_getElem (by omega)]
    exact u0 _ (List.getElem_mem _)
  calc us.getD j 0 * dot (qI ds j) ws<=us.getD j 0 * (cs.getD j 0 * b):=Int.mul_le_mul_of_nonneg_left (h.col j hj) u0'
    _ = b * (cs.getD j 0 * us.getD j 0):=by simp only [Int.mul_comm,Int.mul_left_comm,Int.mul_assoc]
end My
namespace My
open PySem L2 FT
variable (kC:Addr)
structure Rl (Y w:Int) (q:Int × Int):Prop where
  eq:q.1 * Y = w * q.2
  pos:0 < q.2
noncomputable def Rls (Y:Int) (ws:List Int) (qs:List (Int × Int)):Prop:=qs.length = ws.length/\∀ (i:Nat) (q:Int × Int) (w:Int),qs[i]? = some q->ws[i]? = some w->Rl Y w q
theorem ShR.rls {b:Int} {ws:List Int} {sh:List (Int × Int)} (h:ShR b ws sh):Rls b ws sh:=⟨h.1,fun i q w e1 e2=>⟨(h.2 i q w e1 e2).eq,(h.2 i q w e1 e2).pos⟩⟩
theorem zlo:∀ (ns:List Int) (qs:List (Int × Int)),yT (ns.map FT.T.int) (qs.map qT) = (ns.zip qs).map fun x=>.tup [.int x.1,qT x.2]
  | [],qs=>by simp [yT]
  | n :: ns,[]=>by simp [yT]
  | n :: ns,q :: qs=>by simp [yT,zlo ns qs]
theorem zhj {n w:Int}:∀ {j:Nat} {ns ws:List Int},ns[j]? = some n->ws[j]? = some w->dot (ns.take (j + 1)) (ws.take (j + 1)) = dot (ns.take j) (ws.take j) + n * w
  | 0,a :: ns,v :: ws,h1,h2=>by cases h1;cases h2;simp [dot]
  | j + 1,a :: ns,v :: ws,h1,h2=>by
    have:=zhj (j:=j) (ns:=ns) (ws:=ws) (by simpa using h1) (by simpa using h2)
    simp only [List.take_succ_cons,dot,this]
    omega
  | _,[],_,h1,_=>by simp at h1
  | _,_ :: _,[],_,h2=>by simp at h2
theorem zkl {T B S x1 x2 n w Y:Int} (h:T * Y = B * S) (e:x1 * Y = w * x2):(T * x2 + n * x1 * B) * Y = B * x2 * (S + n * w):=by
  rw [Int.add_mul,Int.mul_right_comm T,h,Int.mul_add,Int.mul_right_comm B S x2]
  congr 1
  calc n * x1 * B * Y = n * B * (x1 * Y):=by simp only [Int.mul_comm,Int.mul_left_comm,Int.mul_assoc]
    _ = n * B * (w * x2):=by rw [e]
    _ = B * x2 * (n * w):=by simp only [Int.mul_comm,Int.mul_left_comm,Int.mul_assoc]
noncomputable def QB (q:Int × Int):Prop:=NB 260 q.1/\NB 260 q.2
theorem zcQ {x y:FT.T} {ns:List Int} {qs:List (Int × Int)} {ws:List Int} {Y:Int} {G G':Gd} {M:Mem} (hx:zC x M = some (ns.map FT.T.int,G)) (hy:zC y M = some (qs.map qT,G'))
    (hl:ns.length = qs.length) (h10:ns.length<=10) (hs:Rls Y ws qs) (hn:∀ n ∈ ns,NB 31 n) (hq:∀ q ∈ qs,QB q) :
    Ok (qW kC [x,y] M) fun t M'=>M' = M/\∃ T B,t = .tup [.int T,.int B]/\0 < B/\T * Y = B * dot ns ws/\NB 2650 T/\NB 2650 B:=by
  refine ym rfl ?_
  unfold zfW
  have hz:=zi1 hx hy
  rw [zlo] at hz
  simp_arith [zT,FT.zaA,hz]
  refine Ok.bind (Ok.forG (fun j σ M'=>M' = M/\∃ (T B:Int) (v4 v5:Option FT.T),σ = [some x,some y,some (.int T),some (.int B),v4,v5]/\0 < B/\T * Y = B * dot (ns.take j) (ws.take j)/\(j<=10->NB (260 * j + j + 33) T/\NB (260 * j + 1) B)) ?_ ?_ ?_) ?_
  · rintro j σ M' ⟨rfl,_⟩ g hg
    rcases List.mem_append.mp hg with hg | hg
    · exact zbL hx g hg
    · exact zbL hy g hg
  · exact ⟨rfl,0,1,none,none,rfl,by decide,by simp [dot],fun _=>⟨Nat.pow_pos (by decide),show (1:Nat) < 10 ^ 1 by decide⟩⟩
  · rintro j ⟨n,q⟩ σ M' hj ⟨rfl,T,B,v4,v5,rfl,B0,e,bd⟩
    rw [List.getElem?_zip_eq_some] at hj
    obtain ⟨j1,j2⟩:=hj
    dsimp only at j1 j2 ⊢
    have jn:j < ns.length:=(List.getElem?_eq_some_iff.mp j1).1
    have jq:j < qs.length:=(List.getElem?_eq_some_iff.mp j2).1
    obtain ⟨w,j3⟩:∃ w,ws[j]? = some w:=⟨ws[j]'(by have:=hs.1;omega),List.getElem?_eq_getElem _⟩
    have lq:=hs.2 j q w j2 j3
    have nn:=hn n (List.mem_of_getElem? j1)
    obtain ⟨n1,n2⟩:=hq q (List.mem_of_getElem? j2)
    obtain ⟨bT,bB⟩:=bd (by omega)
    unfold zfc qT
    have hj3:260 * j + j + 33<=3000:=by omega
    have m1:∀ M,qm (.int T) (.int q.2) M = .ok (.int (T * q.2)) M:=fun M=>qR bT n2 hj3
    have m2:∀ M,qm (.int n) (.int q.1) M = .ok (.int (n * q.1)) M:=fun M=>qR nn n1
    have m3:∀ M,qm (.int (n * q.1)) (.int B) M = .ok (.int (n * q.1 * B)) M:=fun M=>qR (nn.mul n1) bB (by decide) (by omega)
    have m4:∀ M,qm (.int B) (.int q.2) M = .ok (.int (B * q.2)) M:=fun M=>qR bB n2 (by omega)
    simp_arith [m1,m2,m3,m4]
    refine Ok.ret ⟨_,rfl,rfl,_,_,_,_,rfl,Int.mul_pos B0 lq.pos,?_,fun _=>⟨?_,?_⟩⟩
    · rw [zhj j1 j3]
      exact zkl e lq.eq
    · have a1:NB (260 * j + j + 33 + 260) (T * q.2):=bT.mul n2
      have a2:NB (260 * j + j + 33 + 260) (n * q.1 * B):=((nn.mul n1).mul bB).mono (by omega)
      exact (a1.add a2).mono (by omega)
    · exact (bB.mul n2).mono (by omega)
  · rintro fl M' ⟨σ,rfl,rfl,T,B,v4,v5,rfl,B0,e,bd⟩
    have zl:(ns.zip qs).length = ns.length:=by rw [List.length_zip];omega
    rw [zl] at e bd
    have wl:ws.length = ns.length:=by rw [← hs.1,hl]
    rw [List.take_length,List.take_of_length_le (by omega)] at e
    try simp_arith [and_self]
    exact Ok.ret ⟨rfl,T,B,rfl,B0,e,(bd h10).1.mono (by omega),(bd h10).2.mono (by omega)⟩
theorem znX {n:Nat} {b p:Int} {q:Int × Int} (hn:n<=6) (hb:b.natAbs<=Qn n) (hp:p.natAbs<=Rn n) (h:Low p b q):NB 221 q.1/\NB 221 q.2:=by
  have a1:NB 221 p:=zjl hp hn
  have a2:NB 221 b:=zjl (Nat.le_trans hb (zgr n)) hn
  refine ⟨Nat.lt_of_le_of_lt h.bd a1,Nat.lt_of_le_of_lt ?_ a2⟩
  have:=h.pos
  have:=h.le
  omega
theorem znc {n:Nat} {b:Int} {ps:List Int} {qs:List (Int × Int)} (hn:n<=6) (hb:b.natAbs<=Qn n) (hp:∀ p ∈ ps,0<=p/\p.natAbs<=Rn n) (h:ShR b ps qs):∀ q ∈ qs,0<=q.1/\0 < q.2/\NB 221 q.1/\NB 221 q.2:=fun q hq=>by
  obtain ⟨i,hi,e⟩:=List.getElem_of_mem hq
  have hw:i < ps.length:=by rw [← h.1];exact hi
  have l:=h.2 i q ps[i] (by rw [List.getElem?_eq_getElem hi,e]) (List.getElem?_eq_getElem hw)
  have:=hp _ (List.getElem_mem hw)
  exact ⟨l.nn this.1,l.pos,znX hn hb this.2 l⟩
end My
namespace My
open PySem L2 FT
variable (kC:Addr)
theorem le_iff {d2 Y S T B:Int} (y0:0 < Y) (B0:0 < B) (e:T * Y = B * S):¬ T < d2 * B ↔ d2 * Y<=S:=by
  constructor
  · intro h
    have h1:d2 * B<=T:=by omega
    have h2:=Int.mul_le_mul_of_nonneg_right h1 (Int.le_of_lt y0)
    rw [e] at h2
    refine Int.le_of_mul_le_mul_left (a:=B) ?_ B0
    calc B * (d2 * Y) = d2 * B * Y:=by simp only [Int.mul_comm,Int.mul_left_comm,Int.mul_assoc]
      _<=_:=h2
  · intro h
    have h2:=Int.mul_le_mul_of_nonneg_left h (Int.le_of_lt B0)
    rw [← e] at h2
    have:d2 * B<=T:=Int.le_of_mul_le_mul_right (a:=Y) (by
      calc d2 * B * Y = B * (d2 * Y):=by simp only [Int.mul_comm,Int.mul_left_comm,Int.mul_assoc]
        _<=_:=h2) y0
    omega
theorem zkI {r n:Nat} {ds:List Dm} {M:Mem} {xt:FT.T} {G:Gd} {qs:List (Int × Int)} {us:List Int} {Y:Int} (h:M[r]? = some (.lst (ds.map dmT))) (hd:∀ d ∈ ds,BD n d) (hn:n<=10) (hx:zC xt M = some (qs.map qT,G)) (ql:qs.length = n) (y0:0 < Y) (hs:Rls Y us qs) (hq:∀ q ∈ qs,QB q) :
    Ok (zcp kC [.ref r,xt] M) fun t M'=>M' = M/\∃ b:Bool,t = .bl b/\(b = true ↔ ∀ d ∈ ds,d.2 * Y<=dot d.1 us):=by
  refine ym rfl ?_
  unfold zfY
  simp only [qe,zT,startT,List.map_cons,List.map_nil,List.replicate,List.cons_append,List.nil_append,List.length_cons,List.length_nil,Nat.zero_add,Nat.reduceAdd,Nat.reduceSub,zbt (f:=qa 0) (σ:=[some (FT.T.ref r),some xt,none,none,none,none]) (M:=M) rfl h,qQ,zaL]
  refine Ok.bind (Ok.loopG (r:=dmT) (fun j σ M'=>M' = M/\(∃ v2 v3 v4 v5:Option FT.T,σ = [some (.ref r),some xt,v2,v3,v4,v5])/\∀ d ∈ ds.take j,d.2 * Y<=dot d.1 us) (R:=fun t M'=>M' = M/\t = .bl false/\∃ d ∈ ds,¬ d.2 * Y<=dot d.1 us) ?_ ds 0 ⟨rfl,⟨none,none,none,none,rfl⟩,by simp⟩ ?_) ?_
  · rintro j σ M' ⟨rfl,_⟩
    exact zaH h
  · rintro j d σ M' hj ⟨rfl,⟨v2,v3,v4,v5,rfl⟩,hall⟩
    rw [Nat.zero_add] at hall
    have dm:=List.mem_of_getElem? hj
    obtain ⟨d1,d2,d3⟩:=hd d dm
    unfold zfd dmT
    simp_arith [and_self]
    refine Ok.bind (zcQ kC (x:=.tup (d.1.map .int)) (y:=xt) (ns:=d.1) (qs:=qs) (ws:=us) (Y:=Y) (G:=[]) (G':=G) (M:=M') rfl hx (by omega) (by omega) hs (fun x hx=>(d2 x hx).nb) hq) ?_
    rintro t M2 ⟨rfl,T,B,rfl,B0,e,nT,nB⟩
    have m1:qm (.int d.2) (.int B) M2 = .ok (.int (d.2 * B)) M2:=qR d3.nb nB
    have li:=le_iff (d2:=d.2) y0 B0 e
    by_cases lt:T < d.2 * B
    · simp_arith [m1,decide_eq_true lt]
      exact Ok.ret (.inr (.inr ⟨_,rfl,rfl,rfl,d,dm,fun z=>li.mpr z lt⟩))
    · simp_arith [m1,decide_eq_false lt]
      refine Ok.ret (.inl ⟨_,.inl rfl,rfl,⟨_,_,_,_,rfl⟩,fun d' hd'=>?_⟩)
      rw [List.take_add_one,hj] at hd'
      rcases List.mem_append.mp hd' with hd' | hd'
      · exact hall d' hd'
      · simp at hd';subst hd';exact li.mp lt
  · rintro fl M' (⟨σ,rfl,rfl,⟨v2,v3,v4,v5,rfl⟩,hall⟩ | ⟨t,rfl,rfl,rfl,d,dm,hd⟩)
    · simp_arith [and_self]
      rw [Nat.zero_add,List.take_length] at hall
      exact Ok.ret ⟨rfl,true,rfl,⟨fun _=>hall,fun _=>rfl⟩⟩
    · simp_arith [and_self]
      exact Ok.ret ⟨rfl,false,rfl,⟨fun z=>absurd z (by decide),fun z=>absurd (z d dm) hd⟩⟩
end My
namespace My
open PySem L2 FT
variable (kC:Addr)
theorem zmu {dv:FT.T} {G:Gd} {ds:List Dm} {M:Mem} (h:zC dv M = some (ds.map dmT,G)) (hl:ds.length<=100) :
    zD G (yB 2 (yi (ye 0) (yi (ye 1) qB))) yy (qa 1) (ds.map dmT) [none,none] M [] = .ok ((yR ds).map .int) M:=by
  have:=zez (G:=G) (bd:=yB 2 (yi (ye 0) (yi (ye 1) qB))) (el:=qa 1) (M:=M) (r:=dmT) (zbL h) (fun σ=>∃ v0 v1:Option FT.T,σ = [v0,v1]) (fun d:Dm=>.int d.2) (xs:=ds) (σ:=[none,none]) (acc:=[]) ⟨_,_,rfl⟩ (by simp only [List.length_nil];omega) (fun d σ hx h9=>by
    obtain ⟨v0,v1,e⟩:=h9
    subst e
    exact ⟨[some (.tup (d.1.map .int)),some (.int d.2)],rfl,⟨_,_,rfl⟩,rfl⟩)
  rw [this,List.nil_append]
  unfold yR
  rw [List.map_map]
  rfl
structure Fq (m:Nat) (qs:List (Int × Int)):Prop where
  len:qs.length = m
  pos:∀ q ∈ qs,0 < q.2
  qb:∀ q ∈ qs,QB q
theorem znY {n:Nat} {ds:List Dm} (hd:∀ d ∈ ds,BD n d):∀ x ∈ yR ds,NB 31 x:=fun x hx=>by
  obtain ⟨d,hd',rfl⟩:=List.mem_map.mp hx
  exact (hd d hd').2.2.nb
noncomputable def bI (w:Bool):Int:=if w = true then 1 else 0
theorem zob {w:Bool} {M:Mem}:zeC (.bl w) M = .ok (.int (bI w)) M:=by cases w <;> rfl
theorem zhV {c f Z S T B:Int} (z0:0 < Z) (B0:0 < B) (e:T * Z = B * S):¬ c * B * f < T ↔ S<=c * Z * f:=by
  have e3:B * (c * Z * f) = c * B * f * Z:=by simp only [Int.mul_comm,Int.mul_left_comm,Int.mul_assoc]
  constructor
  · intro h
    have h2:=Int.mul_le_mul_of_nonneg_right (show T<=c * B * f by omega) (Int.le_of_lt z0)
    rw [e,← e3] at h2
    exact Int.le_of_mul_le_mul_left h2 B0
  · intro h
    have h2:=Int.mul_le_mul_of_nonneg_left h (Int.le_of_lt B0)
    rw [← e,e3] at h2
    have:=Int.le_of_mul_le_mul_right h2 z0
    omega
theorem zl2 {Z S T B:Int} (z0:0 < Z) (B0:0 < B) (e:T * Z = B * S):0 < T ↔ 0 < S:=by
  have:=zhV (c:=0) (f:=0) z0 B0 e
  simp only [Int.zero_mul,Int.mul_zero] at this
  omega
theorem eq_iff {Y Z S S' T B T' B':Int} (y0:0 < Y) (z0:0 < Z) (B0:0 < B) (B0':0 < B') (e:T * Y = B * S) (e':T' * Z = B' * S'):T * B' = T' * B ↔ S' * Y = S * Z:=by
  have e1:T * B' * (Y * Z) = B * B' * (S * Z):=by
    calc T * B' * (Y * Z) = T * Y * (B' * Z):=by simp only [Int.mul_comm,Int.mul_left_comm,Int.mul_assoc]
      _ = B * S * (B' * Z):=by rw [e]
      _ = _:=by simp only [Int.mul_comm,Int.mul_left_comm,Int.mul_assoc]
  have e2:T' * B * (Y * Z) = B * B' * (S' * Y):=by
    calc T' * B * (Y * Z) = T' * Z * (B * Y):=by simp only [Int.mul_comm,Int.mul_left_comm,Int.mul_assoc]
      _ = B' * S' * (B * Y):=by rw [e']
      _ = _:=by simp only [Int.mul_comm,Int.mul_left_comm,Int.mul_assoc]
  have p1:Y * Z ≠ 0:=by have:=Int.mul_pos y0 z0;omega
  have p2:B * B' ≠ 0:=by have:=Int.mul_pos B0 B0';omega
  constructor
  · intro h
    rw [h,e2] at e1
    exact Int.eq_of_mul_eq_mul_left p2 e1
  · intro h
    rw [← h,← e2] at e1
    exact Int.eq_of_mul_eq_mul_right p1 e1
theorem zj3 {r n k:Nat} {ds:List Dm} {M:Mem} (h:M[r]? = some (.lst (ds.map dmT))) (hd:∀ d ∈ ds,BD n d) (hl:ds.length<=100) (hk:k < n):za2 kC [.ref r,.int (k:Int)] M = .ok (.lst ((qI ds k).map .int)) M:=by
  have:Ok (za2 kC [.ref r,.int (k:Int)] M) fun t M'=>t = .lst ((qI ds k).map .int)/\M' = M:=by
    refine ym rfl ?_
    unfold ze0
    have cg:=zez (G:=[(r,ds.map dmT)]) (bd:=yB 2 (yi (ye 0) (yi (ye 1) qB))) (el:=eOp ixT (qa 0) (qa 2)) (M:=M) (r:=dmT) (zaH h) (fun σ=>∃ v0 v1:Option FT.T,σ = [v0,v1,some (.int (k:Int))]) (fun d:Dm=>.int (d.1.getD k 0)) (xs:=ds) (σ:=[none,none,some (.int (k:Int))]) (acc:=[]) ⟨_,_,rfl⟩ (by simp only [List.length_nil];omega) (fun d σ hx h9=>by
      obtain ⟨v0,v1,e⟩:=h9
      subst e
      refine ⟨[some (.tup (d.1.map .int)),some (.int d.2),some (.int (k:Int))],rfl,⟨_,_,rfl⟩,?_⟩
      obtain ⟨d1,d2,d3⟩:=hd d hx
      have ai:atI (d.1.map FT.T.int) (k:Int) = some (.int (d.1.getD k 0)):=by
        rw [FT.yJ,List.getElem?_map,List.getD_eq_getElem?_getD]
        rw [List.getElem?_eq_getElem (by omega)];rfl
      simp_arith [ai])
    rw [List.nil_append] at cg
    have ix:y8 (qa 0) [some (.ref r),some (.int (k:Int))] M = .ok (ds.map dmT,[(r,ds.map dmT)]) M:=zbt rfl h
    simp_arith [qv,ix,cg]
    refine Ok.ret ⟨?_,rfl⟩
    unfold qI
    rw [List.map_map]
    rfl
  obtain ⟨t,M',e,rfl,rfl⟩:=this
  exact e
theorem zoK {n:Nat} {ds:List Dm} (hd:∀ d ∈ ds,BD n d) {k:Nat}:∀ x ∈ qI ds k,NB 31 x:=fun x hx=>by
  obtain ⟨d,hd',rfl⟩:=List.mem_map.mp hx
  have:=zfy (hd d hd').2.1 k
  exact Nat.lt_of_le_of_lt this (by decide)
theorem zfU {w:Bool} {wt:FT.T} {r n:Nat} {ds:List Dm} {cs:List Int} {xs sh:List (Int × Int)} {M:Mem} {Ys Yx:Int} {us ux:List Int} (h:M[r]? = some (.lst (ds.map dmT))) (hd:∀ d ∈ ds,BD n d) (hl:ds.length<=9) (cl:cs.length = n) (hc:∀ c ∈ cs,BL c) (hn:n<=6) (xl:xs.length<=6) (hs:Fq ds.length sh)
    (w1:∀ M,eqA wt (.str "least") M = .ok (.bl w) M) (w2:∀ M,eqA wt (.str "never") M = .ok (.bl (!w)) M)
    (b0:0 < Ys) (rl:Rls Ys us sh) (nns:∀ q ∈ sh,0<=q.1) (nnx:∀ q ∈ xs,0<=q.1) (hcol:∀ k,k < n->dot (qI ds k) us<=cs.getD k 0 * Ys * bI w) (hN:w = false->0 < dot (yR ds) us)
    (hL:w = true->Fq n xs/\0 < Yx/\Rls Yx ux xs/\(∀ d ∈ ds,d.2 * Yx<=dot d.1 ux)/\dot (yR ds) us * Yx = dot cs ux * Ys) :
    Ok (zaR kC [.ref r,.tup (cs.map .int),wt,.tup (xs.map qT),.tup (sh.map qT)] M) fun t M'=>M' = M/\t = .bl true:=by
  refine ym rfl ?_
  unfold zfZ
  have ad:∀ M,zz (.lst (xs.map qT)) (.lst (sh.map qT)) M = .ok (.lst ((xs ++ sh).map qT)) M:=fun M=>by
    rw [List.map_append]
    exact My.zbR ⟨_,.inl rfl⟩ rfl rfl (by rw [List.length_map,List.length_map,hs.len];omega)
  refine Ok.seqR fun X hX=>?_
  have lk:∀ (ts:List FT.T) M,z7 [.tup ts] M = .ok ts M:=fun _ _=>rfl
  simp_arith [lk,ad]
  refine Ok.bind (Ok.for (r:=qT) (fun j σ M'=>M' = M/\(∃ v5:Option FT.T,σ = [some (.ref r),some (.tup (cs.map .int)),some wt,some (.tup (xs.map qT)),some (.tup (sh.map qT)),v5,none,none,none,none,none])) (xs:=xs ++ sh) ?_ ?_) ?_
  · exact ⟨rfl,⟨none,rfl⟩⟩
  · rintro j q σ M' hj ⟨rfl,⟨v5,rfl⟩⟩
    unfold zfe qT
    have lt:¬ q.1 < 0:=by
      rcases List.mem_append.mp (List.mem_of_getElem? hj) with hq | hq
      · have:=nnx q hq;omega
      · have:=nns q hq;omega
    simp_arith [decide_eq_false lt]
    exact Ok.ret ⟨_,rfl,rfl,⟨_,rfl⟩⟩
  rintro fl M' ⟨σ,rfl,rfl,⟨v5,rfl⟩⟩
  rw [hX];clear hX;simp only [zh]
  have ix:y8 (qa 0) [some (.ref r),some (.tup (cs.map .int)),some wt,some (.tup (xs.map qT)),some (.tup (sh.map qT)),v5,none,none,none,none,none] M' = .ok (ds.map dmT,[(r,ds.map dmT)]) M':=zbt rfl h
  refine Ok.seqR fun X hX=>?_
  simp_arith [qv,ix,zmu (zeq h) (by omega:ds.length<=100)]
  refine Ok.bind (zcQ kC (x:=.lst ((yR ds).map .int)) (y:=.tup (sh.map qT)) (ns:=yR ds) (qs:=sh) (ws:=us) (Y:=Ys) (G:=[]) (G':=[]) (M:=M') rfl rfl (by unfold yR;rw [List.length_map,hs.len]) (by unfold yR;rw [List.length_map];omega) rl (znY hd) hs.qb) ?_
  rintro t M2 ⟨rfl,Tg,Bg,rfl,Bg0,eg,nTg,nBg⟩
  simp_arith [and_self]
  rw [hX];clear hX;simp only [zh]
  have rg:∀ M,zdB [.int (n:Int)] M = .ok ((rgI n).map FT.T.int) M:=fun M=>by
    have:=zan (j:=(n:Int)) (M:=M) (show -(2 ^ 62)<=(n:Int)/\(n:Int) < 2 ^ 62 by omega)
    rw [Int.toNat_natCast] at this
    exact this
  refine Ok.seqR fun X hX=>?_
  simp_arith [List.length_map,cl,yE,rg]
  refine Ok.bind (Ok.for (r:=FT.T.int) (fun j σ M'=>M' = M2/\(∃ v8 v9 v10:Option FT.T,σ = [some (.ref r),some (.tup (cs.map .int)),some wt,some (.tup (xs.map qT)),some (.tup (sh.map qT)),v5,some (.int Tg),some (.int Bg),v8,v9,v10])) (xs:=rgI n) ?_ ?_) ?_
  · exact ⟨rfl,⟨none,none,none,rfl⟩⟩
  · rintro j z σ M' hj ⟨rfl,⟨v8,v9,v10,rfl⟩⟩
    obtain ⟨jn,rfl⟩:=zcz hj
    have ce:=zj3 kC h hd (by omega:ds.length<=100) jn
    unfold zfb
    simp_arith [ce]
    refine Ok.bind (zcQ kC (x:=.lst ((qI ds j).map .int)) (y:=.tup (sh.map qT)) (ns:=qI ds j) (qs:=sh) (ws:=us) (Y:=Ys) (G:=[]) (G':=[]) (M:=M') rfl rfl (by unfold qI;rw [List.length_map,hs.len]) (by unfold qI;rw [List.length_map];omega) rl (zoK hd) hs.qb) ?_
    rintro t M3 ⟨rfl,T,B,rfl,B0,e,nT,nB⟩
    have ai:atI (cs.map FT.T.int) (j:Int) = some (.int (cs.getD j 0)):=by
      rw [FT.yJ,List.getElem?_map,List.getD_eq_getElem?_getD]
      rw [List.getElem?_eq_getElem (by omega)];rfl
    have nc:NB 31 (cs.getD j 0):=BL.nb (hc _ (by rw [List.getD_eq_getElem?_getD,List.getElem?_eq_getElem (by omega)];exact List.getElem_mem _))
    have nw:NB 1 (bI w):=by unfold NB;cases w <;> decide
    have m1:qm (.int (cs.getD j 0)) (.int B) M3 = .ok (.int (cs.getD j 0 * B)) M3:=qR nc nB
    have m2:qm (.int (cs.getD j 0 * B)) (.int (bI w)) M3 = .ok (.int (cs.getD j 0 * B * bI w)) M3:=qR (nc.mul nB) nw
    have lt:=(zhV (c:=cs.getD j 0) (f:=bI w) b0 B0 e).mpr (hcol j jn)
    simp_arith [ai,m1,w1,zob,m2,decide_eq_false lt]
    exact Ok.ret ⟨_,rfl,rfl,⟨_,_,_,rfl⟩⟩
  rintro fl M' ⟨σ,rfl,rfl,⟨v8,v9,v10,rfl⟩⟩
  rw [hX];clear hX;simp only [zh]
  cases w
  · refine Ok.seqR fun X hX=>?_
    simp_arith [w2]
    rw [hX]
    refine Ok.ret ⟨rfl,?_⟩
    rw [decide_eq_true ((zl2 b0 Bg0 eg).mpr (hN rfl))]
  · obtain ⟨hx,b0',rl',hm,hsum⟩:=hL rfl
    refine Ok.seqR fun X hX=>?_
    simp_arith [w2]
    rw [hX];clear hX;simp only [zh]
    refine Ok.seqR fun X hX=>?_
    simp_arith [and_self]
    refine Ok.bind (zcQ kC (x:=.tup (cs.map .int)) (y:=.tup (xs.map qT)) (ns:=cs) (qs:=xs) (ws:=ux) (Y:=Yx) (G:=[]) (G':=[]) (M:=M') rfl rfl (by rw [hx.len,cl]) (by omega) rl' (fun c hc'=>(hc c hc').nb) hx.qb) ?_
    rintro t M3 ⟨rfl,T,B,rfl,B0,e,nT,nB⟩
    simp_arith [and_self]
    rw [hX];clear hX;simp only [zh]
    simp_arith [and_self]
    refine Ok.bind (zkI kC (xt:=.tup (xs.map qT)) (G:=[]) h hd (by omega) rfl hx.len b0' rl' hx.qb) ?_
    rintro t M4 ⟨rfl,b,rfl,hb⟩
    have m1:qm (.int T) (.int Bg) M4 = .ok (.int (T * Bg)) M4:=qR nT nBg
    have m2:qm (.int Tg) (.int B) M4 = .ok (.int (Tg * B)) M4:=qR nTg nB
    have qi:=(eq_iff b0' b0 B0 Bg0 e eg).mpr hsum
    rw [hb.mpr hm]
    simp_arith [m1,m2]
    refine Ok.ret ⟨rfl,?_⟩
    rw [qi]
    simp
end My
namespace My
open PySem L2 FT
variable (kC:Addr)
noncomputable def y1 (σ:FT.Ev):Nat:=match (σ[1]?:Option (Option FT.T)) with
  | some (some (FT.T.int y))=>y.toNat
  | _=>0
theorem zmt {a b:Int} (ha:0<=a) (hb:0<=b) (M:Mem):Ok (zd6 kC [.int a,.int b] M) fun t M'=>M' = M/\t = .int (Int.gcd a b):=by
  refine ym rfl ?_
  unfold zhZ
  simp_arith [and_self]
  refine Ok.bind (Ok.while (fun σ M'=>M' = M/\∃ x y:Int,σ = [some (.int x),some (.int y)]/\0<=x/\0<=y/\Int.gcd x y = Int.gcd a b) (fun σ _=>y1 σ)
    (Q:=fun σ M'=>M' = M/\∃ y:Int,σ = [some (.int (Int.gcd a b)),some (.int y)]) (R:=fun _ _=>False) ?_ ?_) ?_
  · exact ⟨rfl,_,_,rfl,ha,hb,rfl⟩
  · rintro σ M' ⟨rfl,x,y,rfl,hx,hy,hg⟩
    unfold zhq zhs
    by_cases h0:y = 0
    · subst h0
      simp_arith [and_self]
      refine Ok.ret (.inr ⟨rfl,rfl,0,?_⟩)
      rw [← hg,gcd_zero x hx]
    · have hne:(!(y == 0)) = true:=by simpa using h0
      simp_arith [hne]
      refine Ok.ret (.inl ⟨rfl,?_⟩)
      have hm:zaF (.int x) (.int y) M' = .ok (.int (x.fmod y)) M':=zd3 h0
      simp_arith [hm,zir,zgN]
      have e:x.fmod y = x % y:=Int.fmod_eq_emod_of_nonneg _ hy
      have l1:=Int.emod_nonneg x h0
      have l2:=Int.emod_lt_of_pos x (show 0 < y by omega)
      refine Ok.ret (.inl ⟨_,.inl rfl,⟨rfl,y,x.fmod y,rfl,hy,by omega,?_⟩,?_⟩)
      · rw [e];exact (zg3 x y).trans hg
      · show (x.fmod y).toNat < y.toNat
        omega
  · rintro fl M' (⟨σ,rfl,rfl,y,rfl⟩ | ⟨t,_,z⟩)
    · simp_arith [and_self]
      exact Ok.ret ⟨rfl,rfl⟩
    · exact z.elim
theorem isI {i:Int} {M:Mem}:y4 (.int i) (.ty "int") M = .ok (.bl true) M:=rfl
theorem zp5 {i:Int} {M:Mem}:y4 (.int i) (.ty "bool") M = .ok (.bl false) M:=rfl
theorem ziE {ts:List FT.T} {M:Mem}:y4 (.tup ts) (.ty "tuple") M = .ok (.bl true) M:=rfl
theorem zdC {qs:List (Int × Int)} {n:Nat} (hl:qs.length = n) (hn:n<=100) (h:∀ q ∈ qs,0 < q.2/\Int.gcd q.1 q.2 = 1) (M:Mem):Ok (qV kC [.tup (qs.map qT),.int (n:Int)] M) fun t M'=>M' = M/\t = .bl true:=by
  refine ym rfl ?_
  unfold zcG
  have hne:(!((n:Int) == (n:Int))) = false:=by simp
  refine Ok.seqR fun X hX=>?_
  simp_arith [ziE,List.length_map,hl,hne]
  rw [hX];clear hX;simp only [zh]
  simp_arith [and_self]
  refine Ok.bind (Ok.for (r:=qT) (fun j σ M'=>M' = M/\∃ v2 v3:Option FT.T,σ = [some (.tup (qs.map qT)),some (.int (n:Int)),v2,v3]) (xs:=qs) ?_ ?_) ?_
  · exact ⟨rfl,_,_,rfl⟩
  · rintro j q σ M' hj ⟨rfl,v2,v3,rfl⟩
    obtain ⟨q0,co⟩:=h q (List.mem_of_getElem? hj)
    have n2:neA (.int 2) (.int 2) M' = .ok (.bl false) M':=rfl
    simp only [ye,List.set_cons_zero,List.set_cons_succ,qQ]
    rw [show qT q = .tup [.int q.1,.int q.2] from rfl]
    unfold zcq
    refine Ok.seqX fun X hX=>?_
    simp_arith [ziE,n2]
    rw [hX];clear hX;simp only [zh]
    refine Ok.seqX fun X hX=>?_
    simp_arith [and_self]
    refine Ok.bind (Ok.for (r:=FT.T.int) (fun j σ M2=>M2 = M'/\∃ v3:Option FT.T,σ = [some (.tup (qs.map qT)),some (.int (n:Int)),some (.tup [.int q.1,.int q.2]),v3]) (xs:=[q.1,q.2]) ?_ ?_) ?_
    · exact ⟨rfl,_,rfl⟩
    · rintro i z σ M2 hi ⟨rfl,v3,rfl⟩
      unfold zcr
      simp_arith [isI,zp5]
      exact Ok.ret ⟨_,rfl,rfl,_,rfl⟩
    · rintro fl M2 ⟨σ,rfl,rfl,v3,rfl⟩
      rw [hX];clear hX;simp only [zh]
      simp_arith [zkd,decide_eq_false (show ¬ q.2 < 1 by omega)]
      refine Ok.bind (zmt kC (zht q.1) (by omega) M2) ?_
      rintro t M3 ⟨rfl,rfl⟩
      have e1:Int.gcd (if q.1 < 0 then -q.1 else q.1) q.2 = 1:=by rw [zfz];exact co
      rw [e1]
      have n1:neA (.int ((1:Nat):Int)) (.int 1) M3 = .ok (.bl false) M3:=rfl
      simp_arith [n1]
      exact Ok.ret ⟨_,rfl,rfl,_,_,rfl⟩
  · rintro fl M' ⟨σ,rfl,rfl,v2,v3,rfl⟩
    simp_arith [and_self]
    exact Ok.ret ⟨rfl,rfl⟩
theorem zfi {b:Int} {ws:List Int} {sh:List (Int × Int)} (h:ShR b ws sh):∀ q ∈ sh,0 < q.2/\Int.gcd q.1 q.2 = 1:=fun q hq=>by
  obtain ⟨i,hi,e⟩:=List.getElem_of_mem hq
  have hw:i < ws.length:=by rw [← h.1];exact hi
  have l:=h.2 i q ws[i] (by rw [List.getElem?_eq_getElem hi,e]) (List.getElem?_eq_getElem hw)
  exact ⟨l.pos,l.cop⟩
theorem in1 (x:Str) (y:FT.T) (M:Mem):zdM (.tup [.str x,y]) none (some 1) M = .ok (.tup [.str x]) M:=rfl
theorem in2 (x:Str) (y z:FT.T) (M:Mem):zdM (.tup [.str x,y,z]) none (some 1) M = .ok (.tup [.str x]) M:=rfl
theorem zpU (M:Mem):zfs (.tup [.str "least"]) (.lst [.tup [.str "least"],.tup [.str "never"]]) M = .ok (.bl false) M:=by rfl
theorem zpT (M:Mem):zfs (.tup [.str "never"]) (.lst [.tup [.str "least"],.tup [.str "never"]]) M = .ok (.bl false) M:=by rfl
theorem zoG (M:Mem):eqA (.str "least") (.str "least") M = .ok (.bl true) M:=by rfl
theorem zoE (M:Mem):eqA (.str "never") (.str "least") M = .ok (.bl false) M:=by rfl
theorem zoF (M:Mem):eqA (.str "least") (.str "never") M = .ok (.bl false) M:=by rfl
theorem zoD (M:Mem):eqA (.str "never") (.str "never") M = .ok (.bl true) M:=by rfl
theorem at3 (x y z:FT.T):atI [x,y,z] (-1) = some z:=rfl
theorem at2 (x y:FT.T):atI [x,y] (-1) = some y:=rfl
theorem zjr {xs sh:List (Int × Int)} {n m:Nat} (hx:xs.length = n) (hs:sh.length = m) (hn:n<=100) (hm:m<=100) (h1:∀ q ∈ xs,0 < q.2/\Int.gcd q.1 q.2 = 1) (h2:∀ q ∈ sh,0 < q.2/\Int.gcd q.1 q.2 = 1) (M:Mem) :
    Ok (zae kC [.tup [.str "least",.tup (xs.map qT),.tup (sh.map qT)],.int (m:Int),.int (n:Int)] M) fun t M'=>M' = M/\t = .tup [.str "least",.tup (xs.map qT),.tup (sh.map qT)]:=by
  refine ym rfl ?_
  unfold zdK
  have n3:neA (.int 3) (.int 3) M = .ok (.bl false) M:=rfl
  have i1:zeC (.bl true) M = .ok (.int 1) M:=rfl
  refine Ok.seqR fun X hX=>?_
  simp_arith [ziE,in2,zpU]
  rw [hX];clear hX;simp only [zh]
  refine Ok.seqR fun X hX=>?_
  simp_arith [zoG,i1,n3]
  rw [hX];clear hX;simp only [zh]
  refine Ok.seqR fun X hX=>?_
  simp_arith [at3,at2]
  refine Ok.bind (zdC kC hs hm h2 M) ?_
  rintro t M' ⟨rfl,rfl⟩
  simp_arith [and_self]
  rw [hX];clear hX;simp only [zh]
  refine Ok.seqR fun X hX=>?_
  simp_arith [zoF]
  rw [hX];clear hX;simp only [zh]
  refine Ok.seqR fun X hX=>?_
  simp_arith [and_self]
  refine Ok.bind (zdC kC hx hn h1 M') ?_
  rintro t M' ⟨rfl,rfl⟩
  simp_arith [and_self]
  rw [hX];clear hX;simp only [zh]
  simp_arith [and_self]
  exact Ok.ret ⟨rfl,rfl⟩
theorem zjq {sh:List (Int × Int)} {n m:Nat} (hs:sh.length = m) (hm:m<=100) (h2:∀ q ∈ sh,0 < q.2/\Int.gcd q.1 q.2 = 1) (M:Mem) :
    Ok (zae kC [.tup [.str "never",.tup (sh.map qT)],.int (m:Int),.int (n:Int)] M) fun t M'=>M' = M/\t = .tup [.str "never",.tup [],.tup (sh.map qT)]:=by
  refine ym rfl ?_
  unfold zdK
  have n3:neA (.int 2) (.int 2) M = .ok (.bl false) M:=rfl
  have i1:zeC (.bl false) M = .ok (.int 0) M:=rfl
  refine Ok.seqR fun X hX=>?_
  simp_arith [ziE,in1,zpT]
  rw [hX];clear hX;simp only [zh]
  refine Ok.seqR fun X hX=>?_
  simp_arith [zoE,i1,n3]
  rw [hX];clear hX;simp only [zh]
  refine Ok.seqR fun X hX=>?_
  simp_arith [at3,at2]
  refine Ok.bind (zdC kC hs hm h2 M) ?_
  rintro t M' ⟨rfl,rfl⟩
  simp_arith [and_self]
  rw [hX];clear hX;simp only [zh]
  refine Ok.seqR fun X hX=>?_
  simp_arith [zoD,at2]
  rw [hX]
  simp_arith [and_self]
  exact Ok.ret ⟨rfl,rfl⟩
end My
namespace My
open PySem L2 FT
variable (kC:Addr)
theorem zeE {f:FT.T->FT.T->Option Bool}:∀ {xs:List FT.T},(∀ x ∈ xs,f x x = some true)->eqL f xs xs = some true
  | [],_=>rfl
  | x :: xs,h=>by
    unfold eqL
    rw [h x (.head _),zeE fun y hy=>h y (.tail _ hy)]
    rfl
theorem zfD {M:Mem} {d:Nat} {i:Int}:eqD M d (.int i) (.int i) = some true:=by
  unfold eqD
  simp [zbY,eqS]
theorem zbP {M:Mem} {d:Nat} {xs:List FT.T} (h:∀ x ∈ xs,eqD M d x x = some true):eqD M (d + 1) (.tup xs) (.tup xs) = some true:=by
  show eqL (eqD M d) xs xs = _
  exact zeE h
theorem zlc {M:Mem} {d:Nat} {is:List Int}:eqD M (d + 1) (.tup (is.map .int)) (.tup (is.map .int)) = some true:=zbP fun x hx=>by
  obtain ⟨i,_,rfl⟩:=List.mem_map.mp hx
  exact zfD
theorem zoH {M:Mem} {d:Nat} {m:Dm}:eqD M (d + 2) (dmT m) (dmT m) = some true:=zbP fun x hx=>by
  simp at hx
  rcases hx with rfl | rfl
  · exact zlc
  · exact zfD
theorem zhf {M:Mem} {d:Nat} {qs:List (Int × Int)}:eqD M (d + 2) (.tup (qs.map qT)) (.tup (qs.map qT)) = some true:=zbP fun x hx=>by
  obtain ⟨q,_,rfl⟩:=List.mem_map.mp hx
  exact zbP fun x hx=>by
    simp at hx
    rcases hx with rfl | rfl <;> exact zfD
theorem zjv {x y:FT.T} {M:Mem} (h:eqD M 20 x y = some true):neA x y M = .ok (.bl false) M:=by
  unfold neA
  rw [h]
  rfl
theorem znQ {r:Nat} {ds:List Dm} {M:Mem} (h:M[r]? = some (.lst (ds.map dmT))):neA (.lst (ds.map dmT)) (.ref r) M = .ok (.bl false) M:=by
  apply zjv
  rw [show eqD M 20 (.lst (ds.map dmT)) (.ref r) = (match yz (.ref r) M with | some ys=>(if (ds.map dmT).length = ys.length then eqL (eqD M 19) (ds.map dmT) ys else some false) | none=>none) from by
    unfold eqD
    rw [if_neg (by simp [zbY])]
    rw [show yz (.lst (ds.map dmT)) M = some (ds.map dmT) from rfl]
    cases yz (.ref r) M <;> rfl]
  rw [show yz (.ref r) M = some (ds.map dmT) from by show (match M[r]? with | some (.lst xs)=>some xs | _=>none) = _;rw [h]]
  show (if (ds.map dmT).length = (ds.map dmT).length then _ else _) = _
  rw [if_pos rfl]
  exact zeE fun x hx=>by
    obtain ⟨d,_,rfl⟩:=List.mem_map.mp hx
    exact zoH
theorem zmn {n:Nat} {ds:List Dm} {cs:List Int} {t:FT.T} {M:Mem} (h:Told n ds cs t):neA t t M = .ok (.bl false) M:=by
  apply zjv
  rcases h with ⟨b,ps,ws,xs,sh,rfl,_⟩ | ⟨b,ws,sh,rfl,_⟩
  · exact zbP fun x hx=>by
      simp at hx
      rcases hx with rfl | rfl | rfl
      · rfl
      · exact zhf
      · exact zhf
  · exact zbP fun x hx=>by
      simp at hx
      rcases hx with rfl | rfl
      · rfl
      · exact zhf
theorem ziA {qs:List (Int × Int)}:T.lt 0 (.tup (qs.map qT)):=.tup fun x hx=>by
  obtain ⟨q,_,rfl⟩:=List.mem_map.mp hx
  exact .tup fun x hx=>by
    simp at hx
    rcases hx with rfl | rfl <;> exact .int _
theorem zmp {n:Nat} {ds:List Dm} {cs:List Int} {t:FT.T} (h:Told n ds cs t):T.lt 0 t:=by
  rcases h with ⟨b,ps,ws,xs,sh,rfl,_⟩ | ⟨b,ws,sh,rfl,_⟩
  · exact .tup fun x hx=>by
      simp at hx
      rcases hx with rfl | rfl | rfl
      · exact .str _
      · exact ziA
      · exact ziA
  · exact .tup fun x hx=>by
      simp at hx
      rcases hx with rfl | rfl
      · exact .str _
      · exact ziA
theorem Fr.took {M M':Mem} (h:Fr [] M M'):M'.take M.length = M:=by
  apply List.ext_getElem?
  intro i
  rw [List.getElem?_take]
  split
  · rename_i hi;exact h.2 i hi (by simp)
  · rename_i hi;rw [List.getElem?_eq_none (by omega)]
theorem zln {dv:FT.T} {G:Gd} {ds:List Dm} {cs:List Int} {n:Nat} {M:Mem} (h:zC dv M = some (ds.map dmT,G)) (hd:∀ d ∈ ds,BD n d) (hl:ds.length<=100) (cl:cs.length = n) (hn:n<=8) (hc:∀ c ∈ cs,0<=c/\BL c) :
    ∃ t,yO kC [dv,.tup (cs.map .int)] M = .ok t M/\Told n ds cs t:=by
  obtain ⟨t,M',e,told,f⟩:=zlO kC h hd hl cl hn hc
  refine ⟨t,?_,told⟩
  unfold yO zeb
  rw [e]
  exact if_pos ⟨Fr.took f,zmp told⟩
noncomputable def zgJ:List Dm:=[([1,1,1],10),([-11,-3,0],-57),([-5,-1,0],-9),([18,2,0],-24),([2,0,0],0),([0,2,0],0)]
noncomputable def rdm (f:Int):List Dm:=zgJ.map fun d=>(d.1,f * d.2)
noncomputable def swp (at_:Nat) (ds:List Dm):List Dm:=ds.take at_ ++ [ds.getD (at_ + 1) ([],0),ds.getD at_ ([],0)] ++ ds.drop (at_ + 2)
theorem znj {f:Int} (h1:1<=f) (h2:f<=9):∀ d ∈ rdm f,BD 3 d:=fun d hd=>by
  unfold rdm zgJ at hd
  simp only [List.map_cons,List.map_nil,List.mem_cons,List.not_mem_nil,or_false] at hd
  unfold BD BL
  rcases hd with rfl | rfl | rfl | rfl | rfl | rfl <;> refine ⟨rfl,fun x hx=>?_,by simp only [Int.reducePow];omega⟩ <;> simp at hx <;> omega
theorem zkn {a:Nat} {M:Mem} (po:PO a M):Ok (zco kC [.ref a] M) fun t M'=>∃ (r:Nat) (ds:List Dm),t = .tup [.ref r,.tup ([0,0,1].map .int)]/\M.length<=r/\M'[r]? = some (.lst (ds.map dmT))/\ds.length = 6/\(∀ d ∈ ds,BD 3 d)/\PO a M'/\Fr [a] M M':=by
  refine ym rfl ?_
  unfold zfX
  refine Ok.seqR fun X hX=>?_
  simp_arith [and_self]
  refine Ok.bind (qN kC po (by decide) (by decide)) ?_
  rintro t M1 ⟨fa,rfl,f1,f2,po1,fr1⟩
  simp_arith [and_self]
  rw [hX];clear hX;simp only [zh]
  refine Ok.seqR fun X hX=>?_
  simp_arith [and_self]
  rw [hX];clear hX;simp only [zh]
  have ce:∀ M,qq (yB 2 (yi (ye 0) (yi (ye 1) qB))) yy (yD (zb (qa 0) (zb (eOp qm (qa 2) (qa 1)) qc))) (zgJ.map dmT) [none,none,some (.int (1 + fa))] M [] = .ok ((rdm (1 + fa)).map dmT) M:=fun M=>by
    rw [show (rdm (1 + fa)).map dmT = zgJ.map (fun d=>dmT (d.1,(1 + fa) * d.2)) from by unfold rdm;rw [List.map_map];rfl]
    exact Ok.mapc (r:=dmT) (fun σ=>∃ v0 v1:Option FT.T,σ = [v0,v1,some (.int (1 + fa))]) (fun d=>dmT (d.1,(1 + fa) * d.2)) ⟨none,none,rfl⟩ (by decide) (fun d σ hx h9=>by
      obtain ⟨v0,v1,e⟩:=h9
      subst e
      refine ⟨[some (.tup (d.1.map .int)),some (.int d.2),some (.int (1 + fa))],rfl,⟨_,_,rfl⟩,?_⟩
      have b1:(1 + fa).natAbs < 10 ^ 2:=by omega
      have b2:d.2.natAbs < 10 ^ 3:=by
        unfold zgJ at hx
        simp only [List.mem_cons,List.not_mem_nil,or_false] at hx
        rcases hx with rfl | rfl | rfl | rfl | rfl | rfl <;> decide
      simp_arith [znR 2 3 b1 b2,dmT])
  refine Ok.seqR fun X hX=>?_
  simp_arith [and_self]
  refine step (ce M1) ?_
  rw [hX];clear hX;simp only [zh]
  have hL:(rdm (1 + fa)).length = 6:=rfl
  have hB:=znj (f:=1 + fa) (by omega) (by omega)
  generalize rdm (1 + fa) = L at hL hB ⊢
  have po2:PO a (M1 ++ [.lst (L.map dmT)]):=po1.fr (Fr.app _ _) (by simp)
  have g2:(M1 ++ [Cell.lst (L.map dmT)])[M1.length]? = some (.lst (L.map dmT)):=zJ
  have ha:M1.length ≠ a:=by
    obtain ⟨p,q⟩:=po1
    have:=zdG q
    omega
  refine Ok.seqR fun X hX=>?_
  simp_arith [and_self]
  refine Ok.bind (qN kC po2 (by decide) (by decide)) ?_
  rintro t M3 ⟨at_,rfl,a1,a2,po3,fr3⟩
  have g3:=fr3.get g2 (by simp;exact ha)
  have frm:Fr [a] M M3:=fr1.tr ((Fr.app _ _).mono.trans fr3) (by simp)
  rw [hX];clear hX;simp only [zh]
  obtain ⟨k,rfl⟩:=Int.eq_ofNat_of_zero_le a1
  have ml:M.length<=M1.length:=fr1.1
  refine Ok.seqR fun X hX=>?_
  by_cases h5:(k:Int) < 5
  · have i0:atI (L.map dmT) (k:Int) = some (dmT (L.getD k ([],0))):=by
      rw [FT.yJ,List.getElem?_map,List.getD_eq_getElem?_getD,List.getElem?_eq_getElem (by omega)];rfl
    have i1:atI (L.map dmT) ((k:Int) + 1) = some (dmT (L.getD (k + 1) ([],0))):=by
      rw [show (k:Int) + 1 = ((k + 1:Nat):Int) by omega,FT.yJ,List.getElem?_map,List.getD_eq_getElem?_getD,List.getElem?_eq_getElem (by omega)];rfl
    have st:zbn (.ref M1.length) (some (k:Int)) (some ((k:Int) + 2)) (.lst [dmT (L.getD (k + 1) ([],0)),dmT (L.getD k ([],0))]) M3 = .ok () (M3.set M1.length (.lst ((swp k L).map dmT))):=by
      unfold zbn
      dsimp only
      rw [g3]
      have e:((k:Int) + 2).toNat = k + 2:=by omega
      refine (if_pos ⟨by omega,by omega,by rw [List.length_map];omega,by rw [List.length_map,hL];show 6 + 2<=sizeLine;decide⟩).trans ?_
      rw [e,Int.toNat_natCast]
      unfold swp
      simp only [List.map_append,List.map_take,List.map_drop,List.map_cons,List.map_nil]
    simp_arith [decide_eq_true h5,g3,i0,i1,bSl,st]
    rw [hX];clear hX;simp only [zh]
    simp_arith [and_self]
    refine Ok.ret ⟨_,_,rfl,ml,get_set g3,?_,?_,?_,?_⟩
    · unfold swp
      simp only [List.length_append,List.length_take,List.length_drop,List.length_cons,List.length_nil]
      omega
    · intro d hd
      unfold swp at hd
      rcases List.mem_append.mp hd with hd | hd
      · rcases List.mem_append.mp hd with hd | hd
        · exact hB d (List.mem_of_mem_take hd)
        · simp only [List.mem_cons,List.not_mem_nil,or_false] at hd
          rcases hd with rfl | rfl
          · rw [List.getD_eq_getElem?_getD,List.getElem?_eq_getElem (by omega)];exact hB _ (List.getElem_mem _)
          · rw [List.getD_eq_getElem?_getD,List.getElem?_eq_getElem (by omega)];exact hB _ (List.getElem_mem _)
      · exact hB d (List.mem_of_mem_drop hd)
    · exact po3.fr (Fr.set _ _ _) (by simp;omega)
    · exact frm.tr (Fr.set _ _ _) (by simp;omega)
  · simp_arith [decide_eq_false h5]
    rw [hX];clear hX;simp only [zh]
    simp_arith [and_self]
    exact Ok.ret ⟨_,L,rfl,ml,g3,hL,hB,po3,frm⟩
end My
namespace My
open PySem L2 FT
variable (kC:Addr)
theorem zkc (ns:List Int) (M:Mem) (hl:ns.length<=63):zz (.lst [.int 0]) (.lst (ns.map FT.T.int)) M = .ok (.lst ((0 :: ns).map .int)) M:=
  My.zbR ⟨_,.inl rfl⟩ rfl rfl (by rw [List.length_map];simp;omega)
theorem zgC {n m:Nat} {b:Int} {ws:List Int} {sh:List (Int × Int)} (hn:n<=6) (hb:b.natAbs<=Qn n) (hp:∀ p ∈ ws,0<=p/\p.natAbs<=Rn n) (hm:ws.length = m) (h:ShR b ws sh):Fq m sh/\∀ q ∈ sh,0<=q.1:=by
  have q1:=znc hn hb hp h
  exact ⟨⟨by rw [h.1,hm],fun q hq=>(q1 q hq).2.1,fun q hq=>⟨(q1 q hq).2.2.1.mono (by decide),(q1 q hq).2.2.2.mono (by decide)⟩⟩,fun q hq=>(q1 q hq).1⟩
theorem zjy {r n:Nat} {ds:List Dm} {cs:List Int} {ft:FT.T} {M:Mem} (hr:M[r]? = some (.lst (ds.map dmT))) (hd:∀ d ∈ ds,BD n d) (dl:ds.length<=9) (cl:cs.length = n) (hc:∀ c ∈ cs,BL c) (hn:n<=6) (h:Told n ds cs ft) :
    ∃ w xs sh,zae kC [ft,.int (ds.length:Int),.int (n:Int)] M = .ok (.tup [w,xs,sh]) M/\zaR kC [.ref r,.tup (cs.map .int),w,xs,sh] M = .ok (.bl true) M:=by
  rcases h with ⟨b,ps,ws,xs,sh,rfl,t,h1,h2⟩ | ⟨b,ws,sh,rfl,t,h2⟩
  · obtain ⟨x1,xn⟩:=zgC hn t.bb t.pn t.pl h1
    obtain ⟨s1,sn⟩:=zgC hn t.bb t.wn t.wl h2
    obtain ⟨t1,M1,e1,rfl,rfl⟩:=zjr kC x1.len s1.len (by omega) (by omega) (zfi h1) (zfi h2) M
    refine ⟨_,_,_,e1,?_⟩
    obtain ⟨t2,M2,e2,rfl,rfl⟩:=zfU kC (w:=true) (wt:=.str "least") (xs:=xs) (sh:=sh) (Ys:=b) (Yx:=b) (us:=ws) (ux:=ps) hr hd dl cl hc hn (by rw [x1.len];exact hn) s1 zoG zoF t.pos h2.rls sn xn (fun k hk=>by rw [show bI true = 1 from rfl,Int.mul_one];exact t.col k hk) (fun z=>by cases z) (fun _=>⟨x1,t.pos,h1.rls,t.meets,by rw [t.sum]⟩)
    exact e2
  · obtain ⟨s1,sn⟩:=zgC hn t.bb t.wn t.wl h2
    obtain ⟨t1,M1,e1,rfl,rfl⟩:=zjq kC (n:=n) s1.len (by omega) (zfi h2) M
    refine ⟨_,_,_,e1,?_⟩
    obtain ⟨t2,M2,e2,rfl,rfl⟩:=zfU kC (w:=false) (wt:=.str "never") (xs:=[]) (sh:=sh) (Ys:=b) (Yx:=b) (us:=ws) (ux:=[]) hr hd dl cl hc hn (by simp) s1 zoE zoD t.pos h2.rls sn (by simp) (fun k hk=>by rw [show bI false = 0 from rfl,Int.mul_zero];exact t.col k hk) (fun _=>t.sum) (fun z=>by cases z)
    exact e2
theorem zjA {r:Nat} {xs:List FT.T} {M:Mem} (h:M[r]? = some (.lst xs)):z7 [.ref r] M = .ok xs M:=zgU (by
  show (match M[r]? with | some (.lst xs)=>some xs | _=>none) = _
  rw [h])
theorem zhL {ns:List Int} {a r n:Nat} {ds:List Dm} {cs:List Int} {M:Mem} {v1 v6 v7 v8:Option FT.T} (po:PO a M) (hr:M[r]? = some (.lst (ds.map dmT))) (ra:r ≠ a) (hd:∀ d ∈ ds,BD n d) (dl:ds.length<=9) (cl:cs.length = n) (hc:∀ c ∈ cs,0<=c/\BL c) (hn:n<=6) {s:FT.Ev->Mem->Out Fl}
    (hs:s = (qe (zj 6 (eFz (zbI z7 (zb (qa 4) qc))))
  (qe (sIf (zp (eOp eqA (yd (zt kC) (zb (qa 2) (zb (eC (.int 2)) qc))) (eC (.int 0)))) (zj 6 (yd (qt z9) (zb (qa 4) qc))) yC)
  (qe (zj 7 (yd (yO kC) (zb (qa 6) (zb (qa 5) qc))))
  (qe (zj 8 (yd (zae kC) (zb (qa 7) (zb (yd (qt zM) (zb (qa 4) qc)) (zb (qa 3) qc)))))
  (qe (sIf (zp (eOp isN (qa 8) (eC .non))) (zo (eC (.bl false))) yC)
  (qe (sIf (zbm (zp (yd (zaR kC) (zb (qa 4) (zb (qa 5) (zb (eOp ixT (qa 8) (eC (.int 0))) (zb (eOp ixT (qa 8) (eC (.int 1))) (zb (eOp ixT (qa 8) (eC (.int 2))) qc)))))))) (zo (eC (.bl false))) yC)
  (sIf (zbd (zp (eOp neA (eFz (zbI z7 (zb (qa 6) qc))) (qa 4))) (zp (eOp neA (yd (yO kC) (zb (qa 6) (zb (qa 5) qc))) (qa 7)))) (zo (eC (.bl false))) yC)))))))) :
    Ok (s [some (.lst (ns.map .int)),v1,some (.ref a),some (.int (n:Int)),some (.ref r),some (.tup (cs.map .int)),v6,v7,v8] M) fun fl _=>∃ u1 u2 u3 u4 u5 u6 u7 u8:Option FT.T,fl = .nx [some (.lst (ns.map .int)),u1,u2,u3,u4,u5,u6,u7,u8]:=by
  subst hs
  have hc':∀ c ∈ cs,BL c:=fun c h=>(hc c h).2
  refine Ok.seqX fun X hX=>?_
  simp_arith [zjA hr]
  rw [hX];clear hX;simp only [zh]
  refine Ok.seqX fun X hX=>?_
  simp_arith [and_self]
  refine Ok.bind (qN kC po (by decide) (by decide)) ?_
  rintro t M1 ⟨d,rfl,d1,d2,po1,f1⟩
  have hr1:=f1.get hr (by simp;exact ra)
  have key:∀ (hv:FT.T),z7 [hv] M1 = .ok (ds.map dmT) M1->(∃ G,zC hv M1 = some (ds.map dmT,G))->
      Ok (X (.nx [some (.lst (ns.map .int)),v1,some (.ref a),some (.int (n:Int)),some (.ref r),some (.tup (cs.map .int)),some hv,v7,v8]) M1) fun fl _=>∃ u1 u2 u3 u4 u5 u6 u7 u8:Option FT.T,fl = .nx [some (.lst (ns.map .int)),u1,u2,u3,u4,u5,u6,u7,u8]:=by
    rintro hv lk ⟨G,hg⟩
    obtain ⟨ft,e1,told⟩:=zln kC hg hd (by omega) cl (by omega) hc
    obtain ⟨w,xs,sh,e2,e3⟩:=zjy kC hr1 hd dl cl hc' hn told
    have ln:zM (.ref r) M1 = .ok (.int (ds.length:Int)) M1:=by
      have:=zgD (zeq hr1)
      rw [List.length_map] at this
      exact this
    rw [hX];clear hX;simp only [zh]
    refine Ok.seqX fun X hX=>?_
    simp_arith [e1]
    rw [hX];clear hX;simp only [zh]
    refine Ok.seqX fun X hX=>?_
    simp_arith [ln,e2]
    rw [hX];clear hX;simp only [zh]
    refine Ok.seqX fun X hX=>?_
    simp_arith [isN]
    rw [hX];clear hX;simp only [zh]
    refine Ok.seqX fun X hX=>?_
    simp_arith [e3]
    rw [hX];clear hX;simp only [zh]
    simp_arith [lk,znQ hr1,e1,zmn told]
    exact Ok.ret ⟨_,_,_,_,_,_,_,_,rfl⟩
  by_cases h0:d = 0
  · subst h0
    simp_arith [zeK hr1]
    exact key _ rfl ⟨_,rfl⟩
  · have e0:(d == 0) = false:=by simpa using h0
    simp_arith [e0]
    exact key _ rfl ⟨_,rfl⟩
end My
namespace My
open PySem L2 FT
variable (kC:Addr)
theorem ziS {ns:List Int} (hl:ns.length<=63) {k:Nat} (hk:k<=100) {M:Mem} {v2 v3 v4 v5 v6 v7 v8:Option FT.T} :
    Ok (zhr kC [some (.lst (ns.map .int)),some (.int (k:Int)),v2,v3,v4,v5,v6,v7,v8] M) fun fl _=>∃ u1 u2 u3 u4 u5 u6 u7 u8:Option FT.T,fl = .nx [some (.lst (ns.map .int)),u1,u2,u3,u4,u5,u6,u7,u8]:=by
  unfold zhr
  obtain ⟨ce,hce⟩:=zmY kC (0 :: ns) k hk M
  refine Ok.seqX fun X hX=>?_
  simp_arith [zkc ns M hl]
  refine step hce ?_
  try simp only [qQ]
  refine step (zjD kC ce M) ?_
  try simp only [qQ]
  rw [hX];clear hX;simp only [zh]
  have po:PO M.length (M ++ [(Po.new ce).cell]):=⟨_,zJ⟩
  refine Ok.seqX fun X hX=>?_
  simp_arith [and_self]
  refine Ok.bind (qN kC po (by decide) (by decide)) ?_
  rintro t M1 ⟨sz,rfl,z1,z2,po1,f1⟩
  obtain ⟨n,rfl⟩:=Int.eq_ofNat_of_zero_le z1
  rw [hX];clear hX;simp only [zh]
  refine Ok.seqX fun X hX=>?_
  simp_arith [and_self]
  refine Ok.bind (qN kC po1 (by decide) (by decide)) ?_
  rintro t M2 ⟨mm,rfl,m1,m2,po2,f2⟩
  try simp_arith [and_self]
  refine Ok.bind (ziM kC (s:=n) po2 (by omega) ⟨m1,by omega⟩) ?_
  rintro t M3 ⟨r,ds,rfl,hrl,hr,hlen,hbd0,po3,f3⟩
  have hbd:∀ d ∈ ds,BD n d:=fun d h=>(hbd0 d h).bd
  rw [hX];clear hX;simp only [zh]
  refine Ok.seqX fun X hX=>?_
  simp_arith [and_self]
  refine Ok.bind (zoO kC (s:=n) po3 (by omega)) ?_
  rintro t M4 ⟨cs,rfl,cl,hc,po4,f4⟩
  rw [hX];clear hX;simp only [zh]
  have ra:r ≠ M.length:=by
    have:M.length < M2.length:=by obtain ⟨p,q⟩:=po2;exact zdG q
    omega
  have hr4:=f4.get hr (by simp;exact ra)
  have dl:ds.length<=9:=by omega
  refine Ok.seqX fun X hX=>?_
  simp_arith [and_self]
  refine Ok.bind (qN kC po4 (by decide) (by decide)) ?_
  rintro t M5 ⟨d,rfl,d1,d2,po5,f5⟩
  have hr5:=f5.get hr4 (by simp;exact ra)
  by_cases h0:d = 0
  · subst h0
    simp_arith [and_self]
    refine Ok.bind (zkn kC po5) ?_
    rintro t M6 ⟨r',ds',rfl,hrl',hr6,hlen',hbd',po6,f6⟩
    simp_arith [and_self]
    rw [hX];clear hX;simp only [zh]
    have ra':r' ≠ M.length:=by
      have:M.length < M5.length:=by obtain ⟨p,q⟩:=po5;exact zdG q
      omega
    refine zhL kC (n:=3) (ds:=ds') (cs:=[0,0,1]) po6 hr6 ra' hbd' (by omega) rfl (fun c hc=>?_) (by decide) rfl
    simp at hc
    unfold BL
    simp only [Int.reducePow]
    omega
  · have e0:(d == 0) = false:=by simpa using h0
    simp_arith [e0]
    rw [hX];clear hX;simp only [zh]
    exact zhL kC po5 hr5 ra hbd dl cl (fun c h=>⟨(hc c h).1,(hc c h).2.bl⟩) (by omega) rfl
theorem law_true (ns:List Int) (hn:ns.length<=63):∃ M,zgm kC [.lst (ns.map .int)] [] = .ok (.bl true) M:=by
  have:Ok (zgm kC [.lst (ns.map .int)] []) fun t _=>t = .bl true:=by
    refine ym rfl ?_
    unfold zlx
    obtain ⟨c,hc,c1,c2⟩:∃ c:Int,ziv (.int (ns.length:Int)) (.int 30) [] = .ok (.int c) []/\0<=c/\c<=30:=by
      refine ⟨if (30:Int) < ns.length then 30 else ns.length,rfl,?_⟩
      split <;> omega
    have rg:=zan (j:=1 + c) (M:=[]) (show -(2 ^ 62)<=1 + c/\1 + c < 2 ^ 62 by omega)
    refine Ok.seqR fun X hX=>?_
    simp_arith [List.length_map,hc,yE,rg]
    refine Ok.bind (Ok.for (r:=FT.T.int) (fun _ σ _=>∃ v1 v2 v3 v4 v5 v6 v7 v8:Option FT.T,σ = [some (.lst (ns.map .int)),v1,v2,v3,v4,v5,v6,v7,v8]) (xs:=rgI (1 + c).toNat) ⟨_,_,_,_,_,_,_,_,rfl⟩ ?_) ?_
    · rintro j z σ M7 hj ⟨v1,v2,v3,v4,v5,v6,v7,v8,rfl⟩
      obtain ⟨jn,rfl⟩:=zcz hj
      simp only [ye,List.set_cons_zero,List.set_cons_succ,qQ]
      refine (ziS kC hn (k:=j) (by omega)).mono ?_
      rintro fl M8 ⟨u1,u2,u3,u4,u5,u6,u7,u8,rfl⟩
      exact ⟨_,rfl,_,_,_,_,_,_,_,_,rfl⟩
    · rintro fl M7 ⟨σ,rfl,v1,v2,v3,v4,v5,v6,v7,v8,rfl⟩
      rw [hX];clear hX;simp only [zh]
      simp_arith [and_self]
      exact Ok.ret rfl
  obtain ⟨t,M,e,rfl⟩:=this
  exact ⟨M,e⟩
end My
namespace My
open PySem
noncomputable def zp6:Stmt->Bool
  | .Assign [.Name x _] _ _=>!(x == "__name__")
  | _=>true
noncomputable abbrev pg:Program:=PySem.Challenge.rw_tryweir_k17_least_sums_told.prog
noncomputable def vw:Program:={ pg with main:={ pg.main with body:=pg.main.body.filter zp6 } }
end My
open PySem PySem.W PyProof.Rows in
local macro_rules | `(tactic| o_head $H) => `(tactic| refine holds_open (q := My.vw) (loose := []) (Xt := fun s => xlAt My.vw [] s && recOk (RowW.records (OpenRow.toRowW (OpenLaw.row PySem.Challenge.rw_tryweir_k17_least_sums_told))) s) (XP := XL My.vw []) (Yf := Hook.obs $H) (Ya := Hook.val $H) (YP := Hook.says $H) (N := 40000) (by intro w; kernel_rfl) (Hook.of $H) (Hook.keeps $H) (fun s e => xl_of s (Bool.and_eq_true_iff.mp e).1) XL.keeps (by rfl) (by rfl) (by rfl) (fun s e => recFacts_of (Bool.and_eq_true_iff.mp e).2) (by rfl) (by first | assumption | decide +kernel) (by decide +kernel) ⟨rfl, rfl, rfl, rfl, rfl, by decide +kernel⟩ ?hw ?hc)
theorem My.e1 {α:Type} {P:List α->Prop} (h:∀ a,P [a]):∀ us:List α,us.length = 1->P us
  | [a],_=>h a
theorem My.e2 {α:Type} {P:List α->Prop} (h:∀ a b,P [a,b]):∀ us:List α,us.length = 2->P us
  | [a,b],_=>h a b
theorem My.e3 {α:Type} {P:List α->Prop} (h:∀ a b c,P [a,b,c]):∀ us:List α,us.length = 3->P us
  | [a,b,c],_=>h a b c
theorem My.e4 {α:Type} {P:List α->Prop} (h:∀ a b c d,P [a,b,c,d]):∀ us:List α,us.length = 4->P us
  | [a,b,c,d],_=>h a b c d
theorem My.e5 {α:Type} {P:List α->Prop} (h:∀ a b c d e,P [a,b,c,d,e]):∀ us:List α,us.length = 5->P us
  | [a,b,c,d,e],_=>h a b c d e
open PySem PySem.W PyProof.Rows
set_option maxRecDepth 100000 in
set_option maxHeartbeats 0 in
theorem PySem.Challenge.cw_tryweir_k17_least_sums_told_holds : PySem.Challenge.rw_tryweir_k17_least_sums_told.Holds := by
  w_on;o_law;k_head;(case hw=>w_witness2)
  k_fill
  refine L2.zkk (l:=PySem.Challenge.rw_tryweir_k17_least_sums_told) (n:=63) (k:=6) (x:="script") (CX:=L2.CX0) (sp:=fun K=>FT.spT K (My.zgm (FT.za6 K "Corner"))) rfl (by decide) rfl ⟨rfl,by decide,by decide⟩ (fun w h Y=>PySem.W.kIn_of Y) ?F ?S ?C
  case F=>
    intro w mg fa h KX G hmg
    have D_l_left:L2.Df (L2.KOf KX) mg "_law_left" My.zeu ["cell"]:=by
      dsimp only [L2.KOf]
      refine' L2.zA KX G ?a1 ?l1 ?c1 ?k1 ?b1
      (case a1=>k_is);(case l1=>k_is);(case c1=>k_is);(case k1=>k_is)
      exact fun _ _ _ _ _ _=>My.e1 fun _=>rfl
    have D_l_next:L2.Df (L2.KOf KX) mg "_law_next" My.zet ["pool","base"]:=by
      dsimp only [L2.KOf]
      refine' L2.zA KX G ?a2 ?l2 ?c2 ?k2 ?b2
      (case a2=>k_is);(case l2=>k_is);(case c2=>k_is);(case k2=>k_is)
      exact fun _ _ _ _ _ _=>My.e2 fun _ _=>rfl
    have D_l_wide:L2.Df (L2.KOf KX) mg "_law_wide" My.zes ["pool","base"]:=by
      dsimp only [L2.KOf]
      refine' L2.zA KX G ?a3 ?l3 ?c3 ?k3 ?b3
      (case a3=>k_is);(case l3=>k_is);(case c3=>k_is);(case k3=>k_is)
      exact fun _ _ _ _ _ _=>My.e2 fun _ _=>rfl
    have D_l_number:L2.Df (L2.KOf KX) mg "_law_number" My.zcW ["pool","size","sort"]:=by
      dsimp only [L2.KOf]
      refine' L2.zA KX G ?a4 ?l4 ?c4 ?k4 ?b4
      (case a4=>k_is);(case l4=>k_is);(case c4=>k_is);(case k4=>k_is)
      exact fun _ _ _ _ _ _=>My.e3 fun _ _ _=>rfl
    have D_l_demands:L2.Df (L2.KOf KX) mg "_law_demands" My.zcx ["pool","size","many"]:=by
      dsimp only [L2.KOf]
      refine' L2.zA KX G ?a5 ?l5 ?c5 ?k5 ?b5
      (case a5=>k_is);(case l5=>k_is);(case c5=>k_is);(case k5=>k_is)
      exact fun _ _ _ _ _ _=>My.e3 fun _ _ _=>rfl
    have D_l_aim:L2.Df (L2.KOf KX) mg "_law_aim" My.zfm ["pool","size"]:=by
      dsimp only [L2.KOf]
      refine' L2.zA KX G ?a6 ?l6 ?c6 ?k6 ?b6
      (case a6=>k_is);(case l6=>k_is);(case c6=>k_is);(case k6=>k_is)
      exact fun _ _ _ _ _ _=>My.e2 fun _ _=>rfl
    have D_all_demands:L2.Df (L2.KOf KX) mg "all_demands" My.zbC ["demands","size"]:=by
      dsimp only [L2.KOf]
      refine' L2.zA KX G ?a7 ?l7 ?c7 ?k7 ?b7
      (case a7=>k_is);(case l7=>k_is);(case c7=>k_is);(case k7=>k_is)
      exact fun _ _ _ _ _ _=>My.e2 fun _ _=>rfl
    have D_Corner:FT.Di (L2.KOf KX) mg "Corner" "Corner.__init__" (FT.za6 (L2.KOf KX) "Corner") My.zbD ["self","chosen","point","lines","bottom"]:=by
      dsimp only [L2.KOf]
      refine' FT.zpw KX G ?a8 ?e8 ?i8 ?l8 ?c8 ?k8 ?m8 ?q8 ?b8
      (case a8=>k_is);(case e8=>k_is);(case i8=>k_is);(case l8=>k_is);(case c8=>k_is);(case k8=>k_is);(case m8=>k_is);(case q8=>k_is)
      exact fun _ _ _ _ _ _=>My.e5 fun _ _ _ _ _=>rfl
    have cls_Corner:L2.Cls (L2.KOf KX) (FT.za6 (L2.KOf KX) "Corner"):=by
      dsimp only [L2.KOf]
      refine' FT.zoL ?a9 ?p9 ?h9 ?o9 ?s9
      (case a9=>k_is);(case p9=>k_is);(case h9=>k_is);(case o9=>k_is);(case s9=>k_is)
    have na_Corner_bottom:L2.NoAttr (L2.KOf KX) (FT.za6 (L2.KOf KX) "Corner") "bottom":=by
      dsimp only [L2.KOf]
      refine' FT.zgj ?a10 ?n10
      (case a10=>k_is);(case n10=>k_is)
    have na_Corner_chosen:L2.NoAttr (L2.KOf KX) (FT.za6 (L2.KOf KX) "Corner") "chosen":=by
      dsimp only [L2.KOf]
      refine' FT.zgj ?a11 ?n11
      (case a11=>k_is);(case n11=>k_is)
    have na_Corner_lines:L2.NoAttr (L2.KOf KX) (FT.za6 (L2.KOf KX) "Corner") "lines":=by
      dsimp only [L2.KOf]
      refine' FT.zgj ?a12 ?n12
      (case a12=>k_is);(case n12=>k_is)
    have na_Corner_point:L2.NoAttr (L2.KOf KX) (FT.za6 (L2.KOf KX) "Corner") "point":=by
      dsimp only [L2.KOf]
      refine' FT.zgj ?a13 ?n13
      (case a13=>k_is);(case n13=>k_is)
    have D_first_corner:L2.Df (L2.KOf KX) mg "first_corner" My.zbg ["demand_count","aim"]:=by
      dsimp only [L2.KOf]
      refine' L2.zA KX G ?a14 ?l14 ?c14 ?k14 ?b14
      (case a14=>k_is);(case l14=>k_is);(case c14=>k_is);(case k14=>k_is)
      exact fun _ _ _ _ _ _=>My.e2 fun _ _=>rfl
    have D_lack_of:L2.Df (L2.KOf KX) mg "lack_of" My.zds ["demand","corner"]:=by
      dsimp only [L2.KOf]
      refine' L2.zA KX G ?a15 ?l15 ?c15 ?k15 ?b15
      (case a15=>k_is);(case l15=>k_is);(case c15=>k_is);(case k15=>k_is)
      exact fun _ _ _ _ _ _=>My.e2 fun _ _=>rfl
    have D_most_broken:L2.Df (L2.KOf KX) mg "most_broken" My.zbB ["every","corner"]:=by
      dsimp only [L2.KOf]
      refine' L2.zA KX G ?a16 ?l16 ?c16 ?k16 ?b16
      (case a16=>k_is);(case l16=>k_is);(case c16=>k_is);(case k16=>k_is)
      exact fun _ _ _ _ _ _=>My.e2 fun _ _=>rfl
    have D_common:L2.Df (L2.KOf KX) mg "common" My.zew ["one","other"]:=by
      dsimp only [L2.KOf]
      refine' L2.zA KX G ?a17 ?l17 ?c17 ?k17 ?b17
      (case a17=>k_is);(case l17=>k_is);(case c17=>k_is);(case k17=>k_is)
      exact fun _ _ _ _ _ _=>My.e2 fun _ _=>rfl
    have D_lowest:L2.Df (L2.KOf KX) mg "lowest" My.zer ["top","bottom"]:=by
      dsimp only [L2.KOf]
      refine' L2.zA KX G ?a18 ?l18 ?c18 ?k18 ?b18
      (case a18=>k_is);(case l18=>k_is);(case c18=>k_is);(case k18=>k_is)
      exact fun _ _ _ _ _ _=>My.e2 fun _ _=>rfl
    have D_shares_of:L2.Df (L2.KOf KX) mg "shares_of" My.zcw ["demand_count","chosen","tops","bottom"]:=by
      dsimp only [L2.KOf]
      refine' L2.zA KX G ?a19 ?l19 ?c19 ?k19 ?b19
      (case a19=>k_is);(case l19=>k_is);(case c19=>k_is);(case k19=>k_is)
      exact fun _ _ _ _ _ _=>My.e4 fun _ _ _ _=>rfl
    have D_least_told:L2.Df (L2.KOf KX) mg "least_told" My.zb0 ["demand_count","corner"]:=by
      dsimp only [L2.KOf]
      refine' L2.zA KX G ?a20 ?l20 ?c20 ?k20 ?b20
      (case a20=>k_is);(case l20=>k_is);(case c20=>k_is);(case k20=>k_is)
      exact fun _ _ _ _ _ _=>My.e2 fun _ _=>rfl
    have D_gains_of:L2.Df (L2.KOf KX) mg "gains_of" My.zcY ["corner","demand"]:=by
      dsimp only [L2.KOf]
      refine' L2.zA KX G ?a21 ?l21 ?c21 ?k21 ?b21
      (case a21=>k_is);(case l21=>k_is);(case c21=>k_is);(case k21=>k_is)
      exact fun _ _ _ _ _ _=>My.e2 fun _ _=>rfl
    have D_is_cheaper:L2.Df (L2.KOf KX) mg "is_cheaper" My.zb2 ["line","gain","other","other_gain"]:=by
      dsimp only [L2.KOf]
      refine' L2.zA KX G ?a22 ?l22 ?c22 ?k22 ?b22
      (case a22=>k_is);(case l22=>k_is);(case c22=>k_is);(case k22=>k_is)
      exact fun _ _ _ _ _ _=>My.e4 fun _ _ _ _=>rfl
    have D_cheapest:L2.Df (L2.KOf KX) mg "cheapest" My.zcZ ["lines","gains"]:=by
      dsimp only [L2.KOf]
      refine' L2.zA KX G ?a23 ?l23 ?c23 ?k23 ?b23
      (case a23=>k_is);(case l23=>k_is);(case c23=>k_is);(case k23=>k_is)
      exact fun _ _ _ _ _ _=>My.e2 fun _ _=>rfl
    have D_blended:L2.Df (L2.KOf KX) mg "blended" My.zdy ["numbers","factor","others","other_factor","bottom"]:=by
      dsimp only [L2.KOf]
      refine' L2.zA KX G ?a24 ?l24 ?c24 ?k24 ?b24
      (case a24=>k_is);(case l24=>k_is);(case c24=>k_is);(case k24=>k_is)
      exact fun _ _ _ _ _ _=>My.e5 fun _ _ _ _ _=>rfl
    have D_moved_corner:L2.Df (L2.KOf KX) mg "moved_corner" My.zbe ["corner","gains","place","number","lack"]:=by
      dsimp only [L2.KOf]
      refine' L2.zA KX G ?a25 ?l25 ?c25 ?k25 ?b25
      (case a25=>k_is);(case l25=>k_is);(case c25=>k_is);(case k25=>k_is)
      exact fun _ _ _ _ _ _=>My.e5 fun _ _ _ _ _=>rfl
    have D_never_told:L2.Df (L2.KOf KX) mg "never_told" My.zbZ ["demand_count","corner","gains","broken"]:=by
      dsimp only [L2.KOf]
      refine' L2.zA KX G ?a26 ?l26 ?c26 ?k26 ?b26
      (case a26=>k_is);(case l26=>k_is);(case c26=>k_is);(case k26=>k_is)
      exact fun _ _ _ _ _ _=>My.e4 fun _ _ _ _=>rfl
    have D_least_sums:L2.Df (L2.KOf KX) mg "least_sums" My.zb1 ["demands","aim"]:=by
      dsimp only [L2.KOf]
      refine' L2.zA KX G ?a27 ?l27 ?c27 ?k27 ?b27
      (case a27=>k_is);(case l27=>k_is);(case c27=>k_is);(case k27=>k_is)
      exact fun _ _ _ _ _ _=>My.e2 fun _ _=>rfl
    have D_l_gcd:L2.Df (L2.KOf KX) mg "_law_gcd" My.zfl ["one","other"]:=by
      dsimp only [L2.KOf]
      refine' L2.zA KX G ?a28 ?l28 ?c28 ?k28 ?b28
      (case a28=>k_is);(case l28=>k_is);(case c28=>k_is);(case k28=>k_is)
      exact fun _ _ _ _ _ _=>My.e2 fun _ _=>rfl
    have D_l_are_ratios:L2.Df (L2.KOf KX) mg "_law_are_ratios" My.zbf ["thing","many"]:=by
      dsimp only [L2.KOf]
      refine' L2.zA KX G ?a29 ?l29 ?c29 ?k29 ?b29
      (case a29=>k_is);(case l29=>k_is);(case c29=>k_is);(case k29=>k_is)
      exact fun _ _ _ _ _ _=>My.e2 fun _ _=>rfl
    have D_l_parts:L2.Df (L2.KOf KX) mg "_law_parts" My.zdv ["found","many","size"]:=by
      dsimp only [L2.KOf]
      refine' L2.zA KX G ?a30 ?l30 ?c30 ?k30 ?b30
      (case a30=>k_is);(case l30=>k_is);(case c30=>k_is);(case k30=>k_is)
      exact fun _ _ _ _ _ _=>My.e3 fun _ _ _=>rfl
    have D_l_cell:L2.Df (L2.KOf KX) mg "_law_cell" My.zev ["script","k"]:=by
      dsimp only [L2.KOf]
      refine' L2.zA KX G ?a31 ?l31 ?c31 ?k31 ?b31
      (case a31=>k_is);(case l31=>k_is);(case c31=>k_is);(case k31=>k_is)
      exact fun _ _ _ _ _ _=>My.e2 fun _ _=>rfl
    have D_l_round:L2.Df (L2.KOf KX) mg "_law_round" My.zdu ["pool"]:=by
      dsimp only [L2.KOf]
      refine' L2.zA KX G ?a32 ?l32 ?c32 ?k32 ?b32
      (case a32=>k_is);(case l32=>k_is);(case c32=>k_is);(case k32=>k_is)
      exact fun _ _ _ _ _ _=>My.e1 fun _=>rfl
    have D_l_total:L2.Df (L2.KOf KX) mg "_law_total" My.zdt ["numbers","some"]:=by
      dsimp only [L2.KOf]
      refine' L2.zA KX G ?a33 ?l33 ?c33 ?k33 ?b33
      (case a33=>k_is);(case l33=>k_is);(case c33=>k_is);(case k33=>k_is)
      exact fun _ _ _ _ _ _=>My.e2 fun _ _=>rfl
    have D_l_meets:L2.Df (L2.KOf KX) mg "_law_meets" My.zdw ["demands","x"]:=by
      dsimp only [L2.KOf]
      refine' L2.zA KX G ?a34 ?l34 ?c34 ?k34 ?b34
      (case a34=>k_is);(case l34=>k_is);(case c34=>k_is);(case k34=>k_is)
      exact fun _ _ _ _ _ _=>My.e2 fun _ _=>rfl
    have D_l_column:L2.Df (L2.KOf KX) mg "_law_column" My.zcX ["demands","k"]:=by
      dsimp only [L2.KOf]
      refine' L2.zA KX G ?a35 ?l35 ?c35 ?k35 ?b35
      (case a35=>k_is);(case l35=>k_is);(case c35=>k_is);(case k35=>k_is)
      exact fun _ _ _ _ _ _=>My.e2 fun _ _=>rfl
    have D_l_holds:L2.Df (L2.KOf KX) mg "_law_holds" My.zdx ["demands","aim","word","x","shares"]:=by
      dsimp only [L2.KOf]
      refine' L2.zA KX G ?a36 ?l36 ?c36 ?k36 ?b36
      (case a36=>k_is);(case l36=>k_is);(case c36=>k_is);(case k36=>k_is)
      exact fun _ _ _ _ _ _=>My.e5 fun _ _ _ _ _=>rfl
    have n_max:mg "max" = none:=by
      refine' PySem.W.mg_none_of KX G ?z37
      k_is
    have n_range:mg "range" = none:=by
      refine' PySem.W.mg_none_of KX G ?z38
      k_is
    have n_tuple:mg "tuple" = none:=by
      refine' PySem.W.mg_none_of KX G ?z39
      k_is
    have n_enumerate:mg "enumerate" = none:=by
      refine' PySem.W.mg_none_of KX G ?z40
      k_is
    have n_sum:mg "sum" = none:=by
      refine' PySem.W.mg_none_of KX G ?z41
      k_is
    have n_len:mg "len" = none:=by
      refine' PySem.W.mg_none_of KX G ?z42
      k_is
    have n_abs:mg "abs" = none:=by
      refine' PySem.W.mg_none_of KX G ?z43
      k_is
    have n_zip:mg "zip" = none:=by
      refine' PySem.W.mg_none_of KX G ?z44
      k_is
    have n_list:mg "list" = none:=by
      refine' PySem.W.mg_none_of KX G ?z45
      k_is
    have n_isinstance:mg "isinstance" = none:=by
      refine' PySem.W.mg_none_of KX G ?z46
      k_is
    have n_int:mg "int" = none:=by
      refine' PySem.W.mg_none_of KX G ?z47
      k_is
    have n_bool:mg "bool" = none:=by
      refine' PySem.W.mg_none_of KX G ?z48
      k_is
    have n_min:mg "min" = none:=by
      refine' PySem.W.mg_none_of KX G ?z49
      k_is
    have c_AHEAD:∃ t,mg "AHEAD" = some (.int 2 t):=by
      have h:∃ v,mg "AHEAD" = some v/\∃ t,v = .int 2 t:=by
        refine' ⟨_,PySem.W.mg_of KX G ?z50,?y50⟩
        (case z50=>k_is)
        exact ⟨_,rfl⟩
      obtain ⟨v,h1,t,h2⟩:=h
      exact ⟨t,by rw [h1,h2]⟩
    have L:=by
      refine' L2.zn0 (st:=My.ziq) KX G ?la ?ll ?lc ?lk ?lb
      (case la=>k_is);(case ll=>k_is);(case lc=>k_is);(case lk=>k_is)
      exact fun _ _ _ _ _ _ s u=>.of_eq rfl
    obtain ⟨f,fd,F,g,hb⟩:=L
    have e:=hmg.symm.trans g
    cases e
    have T:My.Txt (L2.KOf KX) mg (FT.za6 (L2.KOf KX) "Corner"):=⟨cls_Corner,na_Corner_bottom,na_Corner_chosen,na_Corner_lines,na_Corner_point,n_max,n_range,n_tuple,n_enumerate,n_sum,n_len,n_abs,n_zip,n_list,n_isinstance,n_int,n_bool,n_min,c_AHEAD⟩
    refine ⟨fd,hb,fun base _ _=>?_⟩
    have zcd:=My.zcd (P:=My.pg) (w:=w) (base:=base) D_l_left T 
    have yp:=My.yp (P:=My.pg) (w:=w) (base:=base) D_l_next T 
    have qS:=My.qS (P:=My.pg) (w:=w) (base:=base) D_l_wide T yp
    have zau:=My.zau (P:=My.pg) (w:=w) (base:=base) D_l_number T qS yp
    have zay:=My.zay (P:=My.pg) (w:=w) (base:=base) D_l_demands T yp zau
    have zcK:=My.zcK (P:=My.pg) (w:=w) (base:=base) D_l_aim T yp qS
    have z3:=My.z3 (P:=My.pg) (w:=w) (base:=base) D_all_demands T 
    have zab:=My.zab (P:=My.pg) (w:=w) (base:=base) D_Corner T 
    have yW:=My.yW (P:=My.pg) (w:=w) (base:=base) D_first_corner T zab
    have yX:=My.yX (P:=My.pg) (w:=w) (base:=base) D_lack_of T 
    have yQ:=My.yQ (P:=My.pg) (w:=w) (base:=base) D_most_broken T yX
    have zcf:=My.zcf (P:=My.pg) (w:=w) (base:=base) D_common T 
    have zai:=My.zai (P:=My.pg) (w:=w) (base:=base) D_lowest T zcf
    have qM:=My.qM (P:=My.pg) (w:=w) (base:=base) D_shares_of T zai
    have zaj:=My.zaj (P:=My.pg) (w:=w) (base:=base) D_least_told T qM zai
    have za9:=My.za9 (P:=My.pg) (w:=w) (base:=base) D_gains_of T 
    have zak:=My.zak (P:=My.pg) (w:=w) (base:=base) D_is_cheaper T 
    have zba:=My.zba (P:=My.pg) (w:=w) (base:=base) D_cheapest T zak
    have zaS:=My.zaS (P:=My.pg) (w:=w) (base:=base) D_blended T 
    have zW:=My.zW (P:=My.pg) (w:=w) (base:=base) D_moved_corner T zaS zab
    have zah:=My.zah (P:=My.pg) (w:=w) (base:=base) D_never_told T qM
    have zK:=My.zK (P:=My.pg) (w:=w) (base:=base) D_least_sums T z3 yW yQ zaj za9 zba zW zah yX
    replace zK:=FT.CalT.refine zK (FT.zlh _) (FT.zli _)
    have zcJ:=My.zcJ (P:=My.pg) (w:=w) (base:=base) D_l_gcd T 
    have zO:=My.zO (P:=My.pg) (w:=w) (base:=base) D_l_are_ratios T zcJ
    have zbw:=My.zbw (P:=My.pg) (w:=w) (base:=base) D_l_parts T zO
    have zce:=My.zce (P:=My.pg) (w:=w) (base:=base) D_l_cell T 
    have zbv:=My.zbv (P:=My.pg) (w:=w) (base:=base) D_l_round T yp
    have zN:=My.zN (P:=My.pg) (w:=w) (base:=base) D_l_total T 
    have zbx:=My.zbx (P:=My.pg) (w:=w) (base:=base) D_l_meets T zN
    have za8:=My.za8 (P:=My.pg) (w:=w) (base:=base) D_l_column T 
    have zby:=My.zby (P:=My.pg) (w:=w) (base:=base) D_l_holds T zN zbx za8
    exact My.znP F T zcd yp zay zcK zK zbw zce zbv zby
  case S=>
    intro K H a ns hl _ hS
    obtain ⟨M,h⟩:=My.law_true (FT.za6 K "Corner") ns hl
    exact FT.zmv hS h
  case C=>exact fun _ _ _ _ z=>z
import PyProof.Rows.All
import Wide.All
import OpenK.AllK
import Wide.FinOn
import Lean
import PyProof.EqAt
import PyProof.EqKinds
import PyProof.TupleCall
import PyProof.NeKinds
import PyProof.SumAny
import KE.KDictList
import KE.KDictOf
import PyProof.AttrMissHeap
import PyProof.Conv_int_bool
import PyProof.TupleOfStr
import PyProof.CollectIter
import PyProof.ListRange
import PyProof.DictWalks
import PyProof.ConsumeS
import PyProof.WalkInts
import PyProof.Draws
import PyProof.EnumFor
import PyProof.EnumStmt
import KE.KDictLaws
import KE.KRevIter
import KE.KDictSum
import PyProof.SeqRoads2
import PyProof.EqAt
import PyProof.EnumMake
import PyProof.ZipIter
import PySem.Challenge.RW_tryweir_k18_one_unknown
set_option Elab.async false
set_option linter.all false
set_option maxRecDepth 100000
namespace L2
open PySem PySem.Spec PyProof.Rows
abbrev Key := Sum Int Str
def keyIs : Key → Value → Bool
  | .inl k, v => Value.isInt k v
  | .inr x, v => Value.isStrOf x v
def keyH (w : World) : Key → Int
  | .inl k => hashInt k
  | .inr x => hashStr w x
theorem keyIs_shape : ∀ {k : Key} {v : Value}, keyIs k v = true → (∃ i t, k = Sum.inl i ∧ v = Value.int i t) ∨ (∃ x t, k = Sum.inr x ∧ v = Value.str x t)
  | .inl i, v, h => by
    obtain ⟨t, e⟩ := Value.isInt_shape (k := i) (v := v) h
    exact .inl ⟨i, t, rfl, e⟩
  | .inr x, v, h => by
    obtain ⟨t, e⟩ := Value.isStrOf_shape (x := x) (v := v) h
    exact .inr ⟨x, t, rfl, e⟩
theorem key_ll (a b : Int) : decide ((Sum.inl a : Key) = Sum.inl b) = (a == b) := by
  by_cases e : a = b
  · subst e; simp
  · have h : ¬ (Sum.inl a : Key) = Sum.inl b := fun q => e (Sum.inl.inj q)
    rw [decide_eq_false h]
    exact (beq_eq_false_iff_ne.mpr e).symm
theorem key_rr (a b : Str) : decide ((Sum.inr a : Key) = Sum.inr b) = decide (a = b) := by
  by_cases e : a = b
  · subst e; simp
  · have h : ¬ (Sum.inr a : Key) = Sum.inr b := fun q => e (Sum.inr.inj q)
    rw [decide_eq_false h, decide_eq_false e]
theorem key_lr (a : Int) (b : Str) : decide ((Sum.inl a : Key) = Sum.inr b) = false := decide_eq_false (fun q => nomatch q)
theorem key_rl (a : Str) (b : Int) : decide ((Sum.inr a : Key) = Sum.inl b) = false := decide_eq_false (fun q => nomatch q)
def mixKind (prog : Program) (w : World) : PySem.KeyKind prog w Key where
  is := keyIs
  hash := keyH w
  inj := fun v a b ha hb => by
    rcases keyIs_shape ha with ⟨i, t, rfl, rfl⟩ | ⟨x, t, rfl, rfl⟩
    · rcases keyIs_shape hb with ⟨j, u, rfl, e⟩ | ⟨y, u, rfl, e⟩
      · injection e with e1 _; rw [e1]
      · exact nomatch e
    · rcases keyIs_shape hb with ⟨j, u, rfl, e⟩ | ⟨y, u, rfl, e⟩
      · exact nomatch e
      · injection e with e1 _; rw [e1]
  byValue := fun k v h => by
    rcases keyIs_shape h with ⟨i, t, rfl, rfl⟩ | ⟨x, t, rfl, rfl⟩ <;> rfl
  pyHash := fun hv h => by
    rcases keyIs_shape hv with ⟨i, t, rfl, rfl⟩ | ⟨x, t, rfl, rfl⟩
    · exact wpAny_pyHash_int h
    · exact wpAny_pyHash_str h
  eqBool := fun hu hv h => by
    rcases keyIs_shape hu with ⟨i, t, rfl, rfl⟩ | ⟨x, t, rfl, rfl⟩
    · rcases keyIs_shape hv with ⟨j, u, rfl, rfl⟩ | ⟨y, u, rfl, rfl⟩
      · rw [key_ll] at h; exact wpAny_eqBool_int h
      · rw [key_lr] at h; exact SeqAt.EqAt.int_str i t y u _ _ _ _ h
    · rcases keyIs_shape hv with ⟨j, u, rfl, rfl⟩ | ⟨y, u, rfl, rfl⟩
      · rw [key_rl] at h; exact SeqAt.EqAt.str_int x t j u _ _ _ _ h
      · rw [key_rr] at h; exact wpAny_eqBool_str h
  «strs» := fun k x t v h => by
    rcases keyIs_shape h with ⟨i, u, rfl, e⟩ | ⟨y, u, rfl, e⟩
    · exact nomatch e
    · injection e with e1 _
      subst e1
      cases v <;> rfl
end L2
namespace L2
open PySem PySem.Spec PyProof.Rows
inductive V where
  | non | bl (b : Bool) | int (i : Int) | str (x : Str) | byt (b : Array UInt8) | flt (b : UInt64) | ref (a : Addr) | ty (n : String)
  deriving DecidableEq
def RelV : V → Value → Prop
  | .non, u => u = Value.none
  | .bl b, u => u = Value.bool b
  | .int i, u => ∃ t, u = Value.int i t
  | .str x, u => ∃ t, u = Value.str x t
  | .byt b, u => ∃ t, u = Value.bytes b t
  | .flt b, u => ∃ t, u = Value.float b t
  | .ref a, u => u = Value.ref a
  | .ty n, u => u = Value.type n
abbrev Vals : List V → List Value → Prop := Paired RelV
theorem Vals.length {xs : List V} {us : List Value} (r : Vals xs us) : xs.length = us.length := Paired.length r
theorem Vals.get : ∀ {xs : List V} {us : List Value} {i : Nat} {x : V}, Vals xs us → xs[i]? = some x → ∃ u, us[i]? = some u ∧ RelV x u
  | _, _, _, _, .nil, e => by simp at e
  | _, _, 0, _, .cons r _, e => by simp at e; subst e; exact ⟨_, rfl, r⟩
  | _, _, i + 1, x, .cons _ t, e => by
    obtain ⟨u, h1, h2⟩ := Vals.get (i := i) (x := x) t (by simpa using e)
    exact ⟨u, by simpa using h1, h2⟩
theorem Vals.set {x : V} {u : Value} (r : RelV x u) : ∀ {xs : List V} {us : List Value} (i : Nat), Vals xs us → Vals (xs.set i x) (us.set i u)
  | _, _, _, .nil => .nil
  | _, _, 0, .cons _ t => .cons r t
  | _, _, i + 1, .cons q t => .cons q (Vals.set r i t)
theorem Vals.append : ∀ {xs ys : List V} {us ws : List Value}, Vals xs us → Vals ys ws → Vals (xs ++ ys) (us ++ ws)
  | _, _, _, _, .nil, s => s
  | _, _, _, _, .cons r t, s => .cons r (Vals.append t s)
theorem Vals.take : ∀ {xs : List V} {us : List Value} (n : Nat), Vals xs us → Vals (xs.take n) (us.take n)
  | _, _, 0, _ => .nil
  | _, _, _ + 1, .nil => .nil
  | _, _, n + 1, .cons r t => .cons r (Vals.take n t)
theorem Vals.drop : ∀ {xs : List V} {us : List Value} (n : Nat), Vals xs us → Vals (xs.drop n) (us.drop n)
  | _, _, 0, r => r
  | _, _, _ + 1, .nil => .nil
  | _, _, n + 1, .cons _ t => Vals.drop n t
def RelO : Option V → Option Value → Prop
  | some v, some u => RelV v u
  | none, none => True
  | _, _ => False
def KV {κ : Type} : List (κ × V) → List (κ × Value) → Prop := Paired fun (p : κ × V) (q : κ × Value) => p.1 = q.1 ∧ RelV p.2 q.2
def kV : Key → V
  | .inl i => .int i
  | .inr x => .str x
inductive HO where
  | lst (xs : List V)
  | tup (xs : List V)
  | dK (kvs : List (Key × V)) | dT (kvs : List (List Key × V))
  | set (S : Int → Bool) (n : Nat)
  | ins (C dx : Addr) (fs : List (Str × V))
  | own (x : Addr)
  | xd (fs : List (Str × V))
  | met (f x : Addr)
  | rng (lo hi : Int)
  | frz (o : Obj) (u : HO)
  | tbl (ps : Array Value)
  | ext (φ : Heap → Prop)
abbrev Hp := Addr → Option HO
def upd (H : Hp) (a : Addr) (o : HO) : Hp := fun b => if b = a then some o else H b
theorem upd_same {H : Hp} {a : Addr} {o : HO} : upd H a o a = some o := by unfold upd; rw [if_pos rfl]
theorem upd_ne {H : Hp} {a b : Addr} {o : HO} (h : b ≠ a) : upd H a o b = H b := by unfold upd; rw [if_neg h]
theorem ne_of {H : Hp} {a b : Addr} {o u : HO} (h : H a = some o) (h' : H b = some u) (d : o ≠ u) : a ≠ b := by
  intro e; subst e; rw [h] at h'; exact d (Option.some.inj h')
theorem ne_of_none {H : Hp} {a b : Addr} {o : HO} (h : H a = some o) (h' : H b = none) : a ≠ b := by
  intro e; subst e; rw [h] at h'; cases h'
def NoDict (h : Heap) (a : Addr) : Prop := ∀ o, h.get? a = some o → o.dict = none
theorem NoDict.new {h : Heap} {its : Array Value} {n : Nat} : NoDict (h.push { cls := .type "tuple", data := .seq its n }) h.objs.size := fun o e => by
  rw [Heap.get?_push_size _ rfl] at e; cases e; rfl
section
variable (P : Program) (w : World)
def ObjOk (H : Hp) (h : Heap) (a : Addr) : HO → Prop
  | .lst xs => xs.length ≤ sizeLine ∧ ∃ (its : List Value) (n : Nat), Vals xs its ∧ h.get? a = some { cls := .type "list", data := .seq its.toArray n }
  | .tup xs => xs.length ≤ sizeLine ∧ ∃ its : List Value, Vals xs its ∧ IsTup h a its.toArray ∧ NoDict h a
  | .dK kvs => kvs.length ≤ sizeLine ∧ (a == sysModules) = false ∧ ∃ vs, KV kvs vs ∧ h.DictOf (mixKind P w) a vs
  | .dT kvs => kvs.length ≤ sizeLine ∧ (a == sysModules) = false ∧ ∃ xs : List (List Key × Addr × Value),
      Paired (fun (p : List Key × V) (q : List Key × Addr × Value) => p.1 = q.1 ∧ H q.2.1 = some (.tup (p.1.map kV)) ∧ RelV p.2 q.2.2) kvs xs ∧
      ∃ o es ep, h.get? a = some o ∧ o.ExactDict ∧ o.data = .dict es ep ∧ es.toList = xs.map (entryOfKey (tupleKind (mixKind P w))) ∧ (xs.map (·.1)).Nodup
  | .set S n => h.SetOf (intKind P w) a S n
  | .ins C dx fs => H dx = some (.own a) ∧ fs.length ≤ 1000 ∧ dx ≠ a ∧ h.get? a = some (PySem.W.instObj C dx) ∧
      ∃ mA, h.Ns1 dx mA ∧ (∀ f, RelO (fs.lookup f) (mA f)) ∧ PySem.Within mA (fs.map (·.1))
  | .own _ => ∃ o, h.get? a = some o
  | .xd fs => ∃ mA, h.Ns1 a mA ∧ ∀ f, RelO (fs.lookup f) (mA f)
  | .rng lo hi => ∃ t u v, h.get? a = some { cls := .type "range", data := .fields #[.int lo t, .int hi u, .int 1 v] }
  | .frz o u => h.get? a = some o ∧ ObjOk H h a u
  | .tbl ps => h.get? a = some { cls := .none, data := .fields ps }
  | .met f x => h.get? a = some (PySem.W.methodObj (.ref f) (.ref x))
  | .ext φ => φ h ∧ (∃ o, h.get? a = some o) ∧ ∀ h1 h2 : Heap, φ h1 → (∀ o, h1.get? a = some o → h2.get? a = some o) → φ h2
def HOk (H : Hp) (h : Heap) : Prop := ∀ a o, H a = some o → ObjOk P w H h a o
end
section
variable {P : Program} {w : World} {H H' : Hp} {h h' : Heap} {a : Addr} {o : HO}
theorem ObjOk.lt (x : ObjOk P w H h a o) : a < h.objs.size := by
  cases o with
  | lst xs => obtain ⟨_, _, _, _, e⟩ := x; exact Heap.lt_size e
  | tup xs => obtain ⟨_, _, _, p, _⟩ := x; exact p.lt
  | dK kvs => obtain ⟨_, _, _, _, o, _, _, e, _⟩ := x; exact Heap.lt_size e
  | dT kvs => obtain ⟨_, _, _, _, o, _, _, e, _⟩ := x; exact Heap.lt_size e
  | set S n => obtain ⟨o, _, _, _, e, _⟩ := x; exact Heap.lt_size e
  | ins C dx fs => obtain ⟨_, _, _, e, _⟩ := x; exact Heap.lt_size e
  | own y => obtain ⟨_, e⟩ := x; exact Heap.lt_size e
  | xd fs => obtain ⟨_, ⟨_, _, _, e, _⟩, _⟩ := x; exact Heap.lt_size e
  | rng lo hi => obtain ⟨_, _, _, e⟩ := x; exact Heap.lt_size e
  | frz ob u => obtain ⟨e, _⟩ := x; exact Heap.lt_size e
  | tbl ps => exact Heap.lt_size (show h.get? a = some _ from x)
  | met f y => exact Heap.lt_size (show h.get? a = some _ from x)
  | ext φ => obtain ⟨_, ⟨_, e⟩, _⟩ := x; exact Heap.lt_size e
theorem Paired.mapP {α β : Type} {F G : α → β → Prop} : ∀ {l₁ : List α} {l₂ : List β}, Paired F l₁ l₂ → (∀ a b, F a b → G a b) → Paired G l₁ l₂
  | _, _, .nil, _ => .nil
  | _, _, .cons r t, f => .cons (f _ _ r) (Paired.mapP t f)
theorem ObjOk.stay (x : ObjOk P w H h a o) (k : ∀ b u, (b = a ∨ H b = some (.own a)) → h.get? b = some u → h'.get? b = some u)
    (ho : ∀ b, H b = some (.own a) → H' b = some (.own a)) (ht : ∀ b xs, H b = some (.tup xs) → H' b = some (.tup xs)) : ObjOk P w H' h' a o := by
  induction o with
  | lst xs => obtain ⟨z, its, n, r, e⟩ := x; exact ⟨z, its, n, r, k _ _ (.inl rfl) e⟩
  | tup xs => obtain ⟨z, its, r, ⟨ob, e, c⟩, nd⟩ := x; exact ⟨z, its, r, ⟨ob, k _ _ (.inl rfl) e, c⟩, fun o q => nd o (by rw [k _ _ (.inl rfl) e] at q; rw [e]; exact q)⟩
  | dK kvs => obtain ⟨z, y, vs, r, ob, es, ep, e, c⟩ := x; exact ⟨z, y, vs, r, ob, es, ep, k _ _ (.inl rfl) e, c⟩
  | dT kvs =>
    obtain ⟨z, y, xs, r, ob, es, ep, e, c⟩ := x
    exact ⟨z, y, xs, Paired.mapP r fun p q z => ⟨z.1, ht _ _ z.2.1, z.2.2⟩, ob, es, ep, k _ _ (.inl rfl) e, c⟩
  | set S n => obtain ⟨ob, es, ep, t, e, c⟩ := x; exact ⟨ob, es, ep, t, k _ _ (.inl rfl) e, c⟩
  | ins C dx fs =>
    obtain ⟨d, z, ne, e, mA, ⟨od, es, ep, e2, c⟩, r⟩ := x
    exact ⟨ho _ d, z, ne, k _ _ (.inl rfl) e, mA, ⟨od, es, ep, k _ _ (.inr d) e2, c⟩, r⟩
  | own y => obtain ⟨ob, e⟩ := x; exact ⟨ob, k _ _ (.inl rfl) e⟩
  | xd fs => obtain ⟨mA, ⟨od, es, ep, e, c⟩, r⟩ := x; exact ⟨mA, ⟨od, es, ep, k _ _ (.inl rfl) e, c⟩, r⟩
  | rng lo hi => obtain ⟨t, u, v, e⟩ := x; exact ⟨t, u, v, k _ _ (.inl rfl) e⟩
  | frz ob u ih => obtain ⟨e, q⟩ := x; exact ⟨k _ _ (.inl rfl) e, ih q⟩
  | tbl ps =>
    have e : h.get? a = some { cls := .none, data := .fields ps } := x
    show h'.get? a = some { cls := .none, data := .fields ps }
    exact k a _ (.inl rfl) e
  | met f y =>
    have e : h.get? a = some (PySem.W.methodObj (.ref f) (.ref y)) := x
    show h'.get? a = some (PySem.W.methodObj (.ref f) (.ref y))
    exact k a _ (.inl rfl) e
  | ext φ => obtain ⟨p, ⟨o, e⟩, st⟩ := x; exact ⟨st _ _ p fun o q => k _ _ (.inl rfl) q, ⟨o, k _ _ (.inl rfl) e⟩, st⟩
theorem HOk.lt (x : HOk P w H h) (e : H a = some o) : a < h.objs.size := (x a o e).lt
theorem HOk.fresh (x : HOk P w H h) (e : h.objs.size ≤ a) : H a = none := by
  cases q : H a with
  | none => rfl
  | some u => exact absurd (Nat.lt_of_lt_of_le (x.lt q) e) (Nat.lt_irrefl _)
theorem HOk.kept (x : HOk P w H h) (k : ∀ b u, h.get? b = some u → h'.get? b = some u) : HOk P w H h' := fun a o e =>
  (x a o e).stay (fun b u _ q => k b u q) (fun _ q => q) fun _ _ q => q
theorem HOk.laid (x : HOk P w H h) (k : ∀ b u, h.get? b = some u → h'.get? b = some u) (hp : h.objs.size ≤ a) (new : ObjOk P w (upd H a o) h' a o) : HOk P w (upd H a o) h' := fun b u e => by
  have hn := x.fresh hp
  by_cases hb : b = a
  · subst hb; rw [upd_same] at e; cases e; exact new
  · rw [upd_ne hb] at e
    exact (x b u e).stay (fun c v _ q => k c v q) (fun c q => by rw [upd_ne (ne_of_none q hn)]; exact q) fun c xs q => by rw [upd_ne (ne_of_none q hn)]; exact q
end
def Rd (H : Hp) (a : Addr) (u : HO) : Prop := H a = some u ∨ ∃ o, H a = some (.frz o u)
theorem Rd.of {H : Hp} {a : Addr} {u : HO} (h : H a = some u) : Rd H a u := .inl h
theorem Rd.ok {P : Program} {w : World} {H : Hp} {h : Heap} {a : Addr} {u : HO} (r : Rd H a u) (x : HOk P w H h) : ObjOk P w H h a u := by
  rcases r with r | ⟨o, r⟩
  · exact x a u r
  · obtain ⟨_, q⟩ := x a _ r
    exact q
def Mut : Option HO → Prop
  | some (.lst _) => True
  | some (.dK _) => True
  | some (.dT _) => True
  | some (.set _ _) => True
  | some (.ins _ _ _) => True
  | some (.ext _) => True
  | _ => False
section
variable {P : Program} {w : World} {H : Hp} {h h' : Heap} {x e : Addr} {o' : HO}
theorem HOk.write (ok : HOk P w H h) (mu : Mut (H x)) (he : e = x ∨ H e = some (.own x)) (k : ∀ b u, b ≠ e → h.get? b = some u → h'.get? b = some u) (heo : ∃ u, h'.get? e = some u)
    (new : ObjOk P w (upd H x o') h' x o') : HOk P w (upd H x o') h' := fun b u q => by
  have nown : ∀ c y, H c = some (.own y) → c ≠ x := fun c y r z => by subst z; rw [r] at mu; exact mu
  have ntup : ∀ c xs, H c = some (.tup xs) → c ≠ x := fun c xs r z => by subst z; rw [r] at mu; exact mu
  by_cases hb : b = x
  · subst hb; rw [upd_same] at q; cases q; exact new
  · rw [upd_ne hb] at q
    by_cases hbe : b = e
    · have q' : H b = some (.own x) := by
        rcases he with z | z
        · exact absurd (hbe.trans z) hb
        · rw [hbe]; exact z
      rw [q] at q'; cases q'
      obtain ⟨v, hv⟩ := heo
      exact ⟨v, by rw [hbe]; exact hv⟩
    · refine (ok b u q).stay (fun c v hc r => k c v ?_ r) (fun c r => by rw [upd_ne (nown c b r)]; exact r) fun c xs r => by rw [upd_ne (ntup c xs r)]; exact r
      rcases hc with rfl | hc
      · exact hbe
      · rintro rfl
        rcases he with z | z
        · exact nown c b hc z
        · rw [hc] at z; cases z; exact hb rfl
end
structure Un (fs ex : List Addr) (H H' : Hp) (h h' : Heap) : Prop where
  keep : ∀ b o, h.get? b = some o → H b = none → b ∉ fs → b ∉ ex → h'.get? b = some o
  slot : ∀ b o, h.get? b = some o → H b = none → b ∈ fs → b ∉ ex → ∃ sl, h'.get? b = some { o with slots := sl }
  free : ∀ b o, h.get? b = some o → H b = none → b ∉ ex → H' b = none
  there : ∀ b o, h.get? b = some o → b ∉ ex → ∃ o', h'.get? b = some o'
  tups : ∀ b xs, H b = some (.tup xs) → H' b = some (.tup xs)
  frzs : ∀ b o u, H b = some (.frz o u) → H' b = some (.frz o u)
  tbls : ∀ b ps, H b = some (.tbl ps) → ∃ more, H' b = some (.tbl (ps ++ more))
section
variable {fs fs' ex ex' : List Addr} {H H1 H2 : Hp} {h h1 h2 h' : Heap} {a x e : Addr} {o : HO}
theorem Un.any (u : Un fs ex H H1 h h1) {b : Addr} {ob : Obj} (q : h.get? b = some ob) (n : H b = none) (hx : b ∉ ex) : ∃ sl, h1.get? b = some { ob with slots := sl } := by
  by_cases hb : b ∈ fs
  · exact u.slot b ob q n hb hx
  · exact ⟨ob.slots, u.keep b ob q n hb hx⟩
theorem Un.trans (a : Un fs ex H H1 h h1) (b : Un fs ex H1 H2 h1 h2) : Un fs ex H H2 h h2 where
  keep := fun c ob q n hc hx => b.keep c ob (a.keep c ob q n hc hx) (a.free c ob q n hx) hc hx
  slot := fun c ob q n hc hx => by
    obtain ⟨sl, e1⟩ := a.slot c ob q n hc hx
    obtain ⟨sl', e2⟩ := b.slot c _ e1 (a.free c ob q n hx) hc hx
    exact ⟨sl', e2⟩
  free := fun c ob q n hx => by
    obtain ⟨o', e1⟩ := a.there c ob q hx
    exact b.free c o' e1 (a.free c ob q n hx) hx
  there := fun c ob q hx => by
    obtain ⟨o', e1⟩ := a.there c ob q hx
    exact b.there c o' e1 hx
  tups := fun c xs q => b.tups c xs (a.tups c xs q)
  frzs := fun c ob xs q => b.frzs c ob xs (a.frzs c ob xs q)
  tbls := fun c ps q => by
    obtain ⟨m1, e1⟩ := a.tbls c ps q
    obtain ⟨m2, e2⟩ := b.tbls c _ e1
    exact ⟨m1 ++ m2, by rw [e2, Array.append_assoc]⟩
theorem Un.kept (k : ∀ b u, h.get? b = some u → h'.get? b = some u) : Un fs ex H H h h' :=
  ⟨fun b ob q _ _ _ => k b ob q, fun b ob q _ _ _ => ⟨ob.slots, k b ob q⟩, fun _ _ _ n _ => n, fun b ob q _ => ⟨ob, k b ob q⟩, fun _ _ q => q, fun _ _ _ q => q, fun _ ps q => ⟨#[], by rw [q]; simp⟩⟩
theorem Un.refl : Un fs ex H H h h := Un.kept fun _ _ q => q
theorem Un.laid (k : ∀ b u, h.get? b = some u → h'.get? b = some u) (hp : h.objs.size ≤ a) (hn : H a = none) : Un fs ex H (upd H a o) h h' where
  keep := fun b u q _ _ _ => k b u q
  slot := fun b u q _ _ _ => ⟨u.slots, k b u q⟩
  free := fun b u q n _ => by rw [upd_ne (Nat.ne_of_lt (Nat.lt_of_lt_of_le (Heap.lt_size q) hp))]; exact n
  there := fun b u q _ => ⟨u, k b u q⟩
  tups := fun b xs q => by rw [upd_ne (ne_of_none q hn)]; exact q
  frzs := fun b u xs q => by rw [upd_ne (ne_of_none q hn)]; exact q
  tbls := fun b ps q => ⟨#[], by rw [upd_ne (ne_of_none q hn), q]; simp⟩
theorem Un.write (mu : Mut (H x)) (he : e = x ∨ H e = some (.own x)) (k : ∀ b u, b ≠ e → h.get? b = some u → h'.get? b = some u) (heo : ∃ u, h'.get? e = some u) : Un fs ex H (upd H x o) h h' := by
  have hx : ∀ b, H b = none → b ≠ x := fun b n z => by subst z; rw [n] at mu; exact mu
  have hb : ∀ b, H b = none → b ≠ e := fun b n z => by
    subst z
    rcases he with r | r
    · exact hx b n r
    · rw [n] at r; cases r
  have hm : ∀ b u, H b = some u → ¬ Mut (some u) → b ≠ x := fun b u q nm z => by subst z; rw [q] at mu; exact nm mu
  refine ⟨fun b u q n _ _ => k b u (hb b n) q, fun b u q n _ _ => ⟨u.slots, k b u (hb b n) q⟩, fun b u q n _ => by rw [upd_ne (hx b n)]; exact n, fun b u q _ => ?_,
    fun b xs q => by rw [upd_ne (hm b _ q fun z => z)]; exact q, fun b u xs q => by rw [upd_ne (hm b _ q fun z => z)]; exact q, fun b ps q => ⟨#[], by rw [upd_ne (hm b _ q fun z => z), q]; simp⟩⟩
  by_cases hbe : b = e
  · subst hbe; exact heo
  · exact ⟨u, k b u hbe q⟩
theorem Un.mono (u : Un fs ex H H1 h h1) (hs : ∀ b ∈ fs, b ∈ fs') (hx : ∀ b ∈ ex, b ∈ ex') : Un fs' ex' H H1 h h1 :=
  ⟨fun b ob q n hb he => u.keep b ob q n (fun z => hb (hs b z)) fun z => he (hx b z), fun _ _ q n _ he => u.any q n fun z => he (hx _ z), fun b ob q n he => u.free b ob q n fun z => he (hx b z), fun b ob q he => u.there b ob q fun z => he (hx b z), u.tups, u.frzs, u.tbls⟩
end
def trk (h : Heap) (H : Hp) : List Addr := (List.range h.objs.size).filter fun a => (H a).isSome
def hidT (h : Heap) (H : Hp) : Heap := PySem.W.hideAll h (trk h H)
theorem hidT_size (h : Heap) (H : Hp) : (hidT h H).objs.size = h.objs.size := PySem.W.hideAll_size _ _
theorem hidT_get {h : Heap} {H : Hp} {b : Addr} {o : Obj} (e : h.get? b = some o) (n : H b = none) : (hidT h H).get? b = some o :=
  PySem.W.hideAll_get _ e fun hm => by
    have q : (H b).isSome = true := (List.mem_filter.mp hm).2
    rw [n] at q; simp at q
theorem of_hidT {h : Heap} {H : Hp} {b : Addr} {o : Obj} (e : (hidT h H).get? b = some o) : h.get? b = some o ∧ H b = none := by
  have e' : h.get? b = some o := PySem.W.of_hideAll (trk h H) e
  refine ⟨e', ?_⟩
  cases q : H b with
  | none => rfl
  | some x =>
    have hm : b ∈ trk h H := List.mem_filter.mpr ⟨List.mem_range.mpr (Heap.lt_size e'), by simp [q]⟩
    have z : (hidT h H).get? b = none := PySem.W.hideAll_none (trk h H) hm
    rw [z] at e; cases e
def allNews (g h : Heap) (L : Addr) : List (Addr × Obj) := (List.range h.objs.size).filterMap fun a => if a = L ∨ (g.get? a).isSome = true then none else (h.get? a).map fun o => (a, o)
def rest (g h : Heap) (L d : Addr) : List (Addr × Obj) := (allNews g h L).filter fun p => decide (p.1 ≠ d)
end L2
namespace L2
open PySem PySem.Spec PyProof.Rows
structure Mod (K : PySem.W.Frag) (mg : Str → Option Value) (base : Heap) : Prop where
  kin : K.In base
  glob : base.Ns mainGlobals mg
  blt : ∃ mb, base.Ns builtinsNs mb ∧ ∀ x : Str, x ≠ "__name__" → mb x = bootBuiltins x
  nolimit : base.NoLimit
structure Cx where
  prog : Program
  w : World
  K : PySem.W.Frag
  mg : Str → Option Value
  base : Heap
  A : Around
  N : List Str
  s₀ : Shared
  H₀ : Hp
  env : Env
  outer : List Env
  stack : List Env
  ex : List Addr
  fn : Str → Bool
  calm : Bool
  pn : List (Addr × Obj)
  xe : Value → Shared → Prop
def frs (l : List Env) : List Addr := l.filterMap (·.frame)
abbrev Cx.fs (X : Cx) : List Addr := frs X.outer
def Vis (sc : Scope) (x : Str) : Prop := sc.names.lookup x = some .local ∨ sc.names.lookup x = some .cell ∨ sc.names.lookup x = some .free
def Loc (sc : Scope) (x : Str) : Prop := sc.names.lookup x = some .local ∨ sc.names.lookup x = some .cell
def Look (env : Env) (h : Heap) (m : Str → Option Value) (x : Str) (u : Value) : Prop :=
  (env.kindOf x = some .local ∧ m x = some u) ∨ ((env.kindOf x = some .cell ∨ env.kindOf x = some .free) ∧ ∃ c, env.cells.lookup x = some c ∧ h.IsCell c (some u))
structure Cx.Ok (X : Cx) : Prop where
  mod : Mod X.K X.mg X.base
  kind : X.env.scope.kind = .function
  glob : X.env.globals = mainGlobals
  blt : X.env.builtins = builtinsNs
  above : X.s₀.heap.objs.size ≤ X.env.locals
  inj : ∀ x y c, X.env.cells.lookup x = some c → X.env.cells.lookup y = some c → x = y
  has : ∀ x, (X.env.kindOf x = some .cell ∨ X.env.kindOf x = some .free) → ∃ c, X.env.cells.lookup x = some c
  cab : ∀ x c, X.fn x = true → X.env.cells.lookup x = some c → X.s₀.heap.objs.size ≤ c
  hd : X.calm = true → X.A.handled = none
  frames : X.A.frames = some X.stack
  stk : X.stack = X.outer ∨ (X.stack = X.env :: X.outer ∧ X.env.frame = some X.env.locals)
  exf : ∀ b ∈ X.ex, b ≠ X.env.locals ∧ ∀ x c, X.env.cells.lookup x = some c → c ≠ b
  bs : ∀ b o, X.base.get? b = some o → X.s₀.heap.get? b = some o ∧ X.H₀ b = none
  bsz : X.base.objs.size ≤ X.s₀.heap.objs.size
  noex : ∀ b o, X.base.get? b = some o → b ∉ X.ex
  exfs : ∀ b ∈ X.ex, b ∉ X.fs
  funs : X.s₀.heap.FunFrames X.base X.outer
  frf : ∀ b ∈ X.fs, X.H₀ b = none
structure Inv (X : Cx) (pins : List (Addr × Obj)) (σ : List (Option V)) (H : Hp) (s : Shared) : Prop where
  ok : X.Ok
  os : s.os = X.s₀.os
  bare : AllBare s.gens
  base : Un X.fs X.ex X.H₀ H X.s₀.heap s.heap
  loc : ∃ m, s.heap.Ns X.env.locals m ∧ ∀ (i : Nat) (x : Str) (v : V), X.N[i]? = some x → σ[i]? = some (some v) → Vis X.env.scope x → ∃ u, RelV v u ∧ Look X.env s.heap m x u
  cell : ∀ x c, X.env.cells.lookup x = some c → ∃ v, s.heap.IsCell c v
  free : H X.env.locals = none
  freeC : ∀ x c, X.env.cells.lookup x = some c → H c = none
  pin : ∀ p ∈ X.pn ++ pins, s.heap.get? p.1 = some p.2 ∧ H p.1 = none ∧ p.1 ≠ X.env.locals ∧ p.1 ∉ X.fs ∧ ∀ v, p.2.data ≠ .cell v
  hok : HOk X.prog X.w H s.heap
  len : σ.length = X.N.length
section
variable {X : Cx} {pins : List (Addr × Obj)} {σ : List (Option V)} {H H' : Hp} {s : Shared} {h' : Heap}
theorem Cx.Ok.nofr (ok : X.Ok) {b : Addr} {o : Obj} (e : X.base.get? b = some o) : b ∉ X.fs := fun hb => by
  have := (ok.funs.mem hb).1
  rw [e] at this; cases this
theorem Inv.bs (I : Inv X pins σ H s) : ∀ b o, X.base.get? b = some o → s.heap.get? b = some o ∧ H b = none := fun b o e =>
  ⟨I.base.keep b o (I.ok.bs b o e).1 (I.ok.bs b o e).2 (I.ok.nofr e) (I.ok.noex b o e), I.base.free b o (I.ok.bs b o e).1 (I.ok.bs b o e).2 (I.ok.noex b o e)⟩
theorem Inv.bk (I : Inv X pins σ H s) : ∀ b o, X.base.get? b = some o → s.heap.get? b = some o := fun b o e => (I.bs b o e).1
theorem Inv.mod (I : Inv X pins σ H s) : Mod X.K X.mg X.base := I.ok.mod
theorem Inv.kIn (I : Inv X pins σ H s) : X.K.In s.heap := I.ok.mod.kin.keeps I.bk
theorem Inv.nolimit (I : Inv X pins σ H s) : s.heap.NoLimit := I.ok.mod.nolimit.keeps I.bk
theorem Inv.fr (I : Inv X pins σ H s) : ∃ m, Fr X.base X.env.locals s.heap m :=
  let ⟨m, hn, _⟩ := I.loc
  ⟨m, hn, I.bk, Nat.le_trans I.ok.bsz I.ok.above⟩
theorem Inv.lt (I : Inv X pins σ H s) : X.env.locals < s.heap.objs.size := let ⟨_, hn, _⟩ := I.loc; hn.lt
theorem Inv.sz (I : Inv X pins σ H s) : X.s₀.heap.objs.size ≤ s.heap.objs.size := Nat.le_trans I.ok.above (Nat.le_of_lt I.lt)
theorem Inv.nofs (I : Inv X pins σ H s) {a : Addr} (h : s.heap.objs.size ≤ a) : a ∉ X.fs := fun hb => by
  obtain ⟨_, o, ho, _⟩ := I.ok.funs.mem hb
  exact absurd (Nat.lt_of_lt_of_le (Heap.lt_size ho) (Nat.le_trans I.sz h)) (Nat.lt_irrefl _)
theorem Inv.cne (I : Inv X pins σ H s) : ∀ x c, X.env.cells.lookup x = some c → c ≠ X.env.locals := fun x c e z => by
  obtain ⟨v, o, ho, hd⟩ := I.cell x c e
  obtain ⟨m, ⟨o', es, ep, ho', hd', _⟩, _⟩ := I.loc
  rw [z, ho'] at ho; cases ho; rw [hd'] at hd; cases hd
theorem Inv.funs (I : Inv X pins σ H s) : s.heap.FunFrames X.base X.outer := by
  have all : ∀ (l : List Env), (∀ b ∈ frs l, b ∈ X.fs) → X.s₀.heap.FunFrames X.base l → s.heap.FunFrames X.base l := by
    intro l
    induction l with
    | nil => intro _ _; trivial
    | cons env r ih =>
      intro hs hl
      obtain ⟨hk, ⟨L, o, hf, hn, ho, hd⟩, hr⟩ := hl
      have hL : L ∈ X.fs := hs L (by unfold frs; rw [List.filterMap_cons, hf]; exact List.mem_cons_self)
      obtain ⟨sl, e⟩ := I.base.slot L o ho (I.ok.frf L hL) hL fun z => I.ok.exfs L z hL
      exact ⟨hk, ⟨L, _, hf, hn, e, hd⟩, ih (fun b hb => hs b (by unfold frs; rw [List.filterMap_cons, hf]; exact List.mem_cons_of_mem _ hb)) hr⟩
  exact all X.outer (fun _ hb => hb) I.ok.funs
theorem Inv.stack (I : Inv X pins σ H s) : s.heap.FunFrames X.base X.stack := by
  rcases I.ok.stk with e | ⟨e, hf⟩
  · rw [e]; exact I.funs
  · rw [e]
    obtain ⟨m, hn, _⟩ := I.loc
    refine .cons (by rw [I.ok.kind]; decide) hf hn ?_ I.funs
    exact Heap.get?_none_of_le (Nat.le_trans I.ok.bsz I.ok.above)
theorem Inv.stkSub (I : Inv X pins σ H s) : ∀ b ∈ frs X.stack, b ∈ X.env.locals :: X.fs := fun b hb => by
  rcases I.ok.stk with e | ⟨e, hf⟩
  · rw [e] at hb; exact List.mem_cons_of_mem _ hb
  · rw [e] at hb
    unfold frs at hb
    rw [List.filterMap_cons, hf] at hb
    exact hb
theorem Inv.stkFree (I : Inv X pins σ H s) : ∀ b ∈ frs X.stack, H b = none := fun b hb => by
  rcases List.mem_cons.mp (I.stkSub b hb) with e | hb
  · rw [e]; exact I.free
  · obtain ⟨_, o, ho, _⟩ := I.ok.funs.mem hb
    exact I.base.free b o ho (I.ok.frf b hb) fun z => I.ok.exfs b z hb
theorem Inv.step {g' : Array GenState} {t' : Nat} {d' : Drawn} {ch : List Addr} (I : Inv X pins σ H s)
    (hch : ∀ b ∈ ch, (b ∈ X.ex ∨ X.s₀.heap.objs.size ≤ b) ∧ b ≠ X.env.locals ∧ (∀ x c, X.env.cells.lookup x = some c → c ≠ b) ∧ ∀ p ∈ X.pn ++ pins, p.1 ≠ b)
    (keep : ∀ b o, b ≠ X.env.locals → b ∉ X.fs → b ∉ ch → s.heap.get? b = some o → H b = none → h'.get? b = some o)
    (slot : ∀ b o, b ≠ X.env.locals → b ∈ X.fs → b ∉ ch → s.heap.get? b = some o → H b = none → ∃ sl, h'.get? b = some { o with slots := sl }) (free : ∀ b o, b ∉ ch → s.heap.get? b = some o → H b = none → H' b = none)
    (there : ∀ b o, b ∉ ch → s.heap.get? b = some o → ∃ o', h'.get? b = some o')
    (tups : ∀ b xs, H b = some (.tup xs) → H' b = some (.tup xs)) (frzs : ∀ b o u, H b = some (.frz o u) → H' b = some (.frz o u)) (tbls : ∀ b ps, H b = some (.tbl ps) → ∃ more, H' b = some (.tbl (ps ++ more)))
    (ns : ∀ m, s.heap.Ns X.env.locals m → h'.Ns X.env.locals m) (hok : HOk X.prog X.w H' h') (hg : AllBare g') :
    Inv X pins σ H' { s with heap := h', gens := g', drawn := d', toks := t' } := by
  have neL : ∀ b o, X.s₀.heap.get? b = some o → b ≠ X.env.locals := fun b o e => Nat.ne_of_lt (Nat.lt_of_lt_of_le (Heap.lt_size e) I.ok.above)
  have neC : ∀ b o, X.s₀.heap.get? b = some o → b ∉ X.ex → b ∉ ch := fun b o e hx hb => by
    rcases (hch b hb).1 with z | z
    · exact hx z
    · exact absurd (Nat.lt_of_lt_of_le (Heap.lt_size e) z) (Nat.lt_irrefl _)
  have cellK : ∀ x c, X.env.cells.lookup x = some c → ∀ v, s.heap.IsCell c v → h'.IsCell c v := fun x c e v ⟨o, ho, hd⟩ => by
    have nch : c ∉ ch := fun z => (hch c z).2.2.1 x c e rfl
    by_cases hc : c ∈ X.fs
    · obtain ⟨sl, q⟩ := slot c o (I.cne x c e) hc nch ho (I.freeC x c e)
      exact ⟨_, q, hd⟩
    · exact ⟨o, keep c o (I.cne x c e) hc nch ho (I.freeC x c e), hd⟩
  refine ⟨I.ok, I.os, hg, ⟨fun b o e n hb hx => ?_, fun b o e n hb hx => ?_, fun b o e n hx => ?_, fun b o e hx => ?_, fun b xs e => tups b xs (I.base.tups b xs e), fun b o xs e => frzs b o xs (I.base.frzs b o xs e), fun b ps e => ?_⟩, ?_, fun x c e => ?_, ?_, fun x c e => ?_, fun p hp => ?_, hok, I.len⟩
  · exact keep b o (neL b o e) hb (neC b o e hx) (I.base.keep b o e n hb hx) (I.base.free b o e n hx)
  · obtain ⟨sl, e1⟩ := I.base.slot b o e n hb hx
    obtain ⟨sl', e2⟩ := slot b _ (neL b o e) hb (neC b o e hx) e1 (I.base.free b o e n hx)
    exact ⟨sl', e2⟩
  · obtain ⟨o', e1⟩ := I.base.there b o e hx
    exact free b o' (neC b o e hx) e1 (I.base.free b o e n hx)
  · obtain ⟨o', e1⟩ := I.base.there b o e hx
    exact there b o' (neC b o e hx) e1
  · obtain ⟨m1, e1⟩ := I.base.tbls b ps e
    obtain ⟨m2, e2⟩ := tbls b _ e1
    exact ⟨m1 ++ m2, by rw [e2, Array.append_assoc]⟩
  · obtain ⟨m, hn, hl⟩ := I.loc
    refine ⟨m, ns m hn, fun i x v e1 e2 e3 => ?_⟩
    obtain ⟨u, r, l⟩ := hl i x v e1 e2 e3
    refine ⟨u, r, ?_⟩
    rcases l with l | ⟨k, c, e, z⟩
    · exact .inl l
    · exact .inr ⟨k, c, e, cellK x c e _ z⟩
  · obtain ⟨v, z⟩ := I.cell x c e
    exact ⟨v, cellK x c e v z⟩
  · obtain ⟨m, ⟨o, _, _, ho, _⟩, _⟩ := I.loc
    exact free _ o (fun z => (hch _ z).2.1 rfl) ho I.free
  · obtain ⟨v, o, ho, hd⟩ := I.cell x c e
    exact free c o (fun z => (hch c z).2.2.1 x c e rfl) ho (I.freeC x c e)
  · obtain ⟨e, n, ne, nf, d⟩ := I.pin p hp
    have nch : p.1 ∉ ch := fun z => (hch p.1 z).2.2.2 p hp rfl
    exact ⟨keep p.1 p.2 ne nf nch e n, free p.1 p.2 nch e n, ne, nf, d⟩
theorem Inv.un {t' : Nat} (I : Inv X pins σ H s) (u : Un X.fs [] H H' s.heap h') (hok : HOk X.prog X.w H' h') : Inv X pins σ H' { s with heap := h', toks := t' } := by
  obtain ⟨m, ⟨o, es, ep, ho, r⟩, _⟩ := id I.loc
  obtain ⟨sl, hL⟩ := u.any ho I.free (by simp)
  exact I.step (g' := s.gens) (d' := s.drawn) (ch := []) (fun _ z => nomatch z) (fun b o _ hb _ e n => u.keep b o e n hb (by simp)) (fun b o _ hb _ e n => u.slot b o e n hb (by simp)) (fun b o _ e n => u.free b o e n (by simp)) (fun b o _ e => u.there b o e (by simp)) u.tups u.frzs u.tbls (fun m' hm => by
    obtain ⟨o', es', ep', ho', r'⟩ := hm
    rw [ho] at ho'; cases ho'
    exact ⟨_, es', ep', hL, r'⟩) hok I.bare
theorem Inv.call {g' : Array GenState} {t' : Nat} {d' : Drawn} {ch : List Addr} (I : Inv X pins σ H s) (u : Un (frs X.stack) ch H H' s.heap h') (hok : HOk X.prog X.w H' h') (hg : AllBare g')
    (hch : ∀ b ∈ ch, (b ∈ X.ex ∨ X.s₀.heap.objs.size ≤ b) ∧ b ≠ X.env.locals ∧ (∀ x c, X.env.cells.lookup x = some c → c ≠ b) ∧ ∀ p ∈ X.pn ++ pins, p.1 ≠ b) :
    Inv X pins σ H' { s with heap := h', gens := g', drawn := d', toks := t' } := by
  obtain ⟨m, ⟨o, es, ep, ho, r⟩, _⟩ := id I.loc
  obtain ⟨sl, hL⟩ := u.any ho I.free fun z => (hch _ z).2.1 rfl
  exact I.step (ch := ch) hch (fun b o hL hb hc e n => u.keep b o e n (fun z => (List.mem_cons.mp (I.stkSub b z)).elim hL hb) hc) (fun b o _ _ hc e n => u.any e n hc) (fun b o hc e n => u.free b o e n hc) (fun b o hc e => u.there b o e hc) u.tups u.frzs u.tbls (fun m' hm => by
    obtain ⟨o', es', ep', ho', r'⟩ := hm
    rw [ho] at ho'; cases ho'
    exact ⟨_, es', ep', hL, r'⟩) hok hg
theorem Inv.turned {t' : Nat} {it : Addr} (I : Inv X pins σ H s) (k : ∀ b o, b ≠ it → s.heap.get? b = some o → h'.get? b = some o) (hn : H it = none) (hL : it ≠ X.env.locals)
    (h1 : it ∈ X.ex ∨ X.s₀.heap.objs.size ≤ it) (h2 : ∀ x c, X.env.cells.lookup x = some c → c ≠ it) (h3 : ∀ p ∈ X.pn ++ pins, p.1 ≠ it) : Inv X pins σ H { s with heap := h', toks := t' } := by
  have nit : ∀ b u, H b = some u → b ≠ it := fun b u e z => by rw [z, hn] at e; cases e
  refine I.step (g' := s.gens) (d' := s.drawn) (ch := [it]) (fun b hb => ?_) (fun b o _ _ hc e _ => k b o (fun z => hc (by simp [z])) e) (fun b o _ _ hc e _ => ⟨o.slots, k b o (fun z => hc (by simp [z])) e⟩) (fun _ _ _ _ n => n)
    (fun b o hc e => ⟨o, k b o (fun z => hc (by simp [z])) e⟩) (fun _ _ e => e) (fun _ _ _ e => e) (fun b ps e => ⟨#[], by rw [e]; simp⟩) (fun m hm => ?_) (fun b u e => ?_) I.bare
  · have e : b = it := by simpa using hb
    subst e
    exact ⟨h1, hL, h2, h3⟩
  · obtain ⟨o, es, ep, ho, r⟩ := hm
    exact ⟨o, es, ep, k _ o (Ne.symm hL) ho, r⟩
  · refine (I.hok b u e).stay (fun c v hc q => k c v ?_ q) (fun _ q => q) fun _ _ q => q
    rcases hc with z | z
    · rw [z]; exact nit b u e
    · exact nit c _ z
theorem Inv.tok (I : Inv X pins σ H s) (t : Nat) : Inv X pins σ H { s with toks := t } := I.un (h' := s.heap) (t' := t) Un.refl I.hok
theorem Inv.kept {t' : Nat} (I : Inv X pins σ H s) (k : ∀ b u, s.heap.get? b = some u → h'.get? b = some u) : Inv X pins σ H { s with heap := h', toks := t' } := I.un (Un.kept k) (I.hok.kept k)
theorem Inv.laid {a : Addr} {o : HO} {t' : Nat} (I : Inv X pins σ H s) (k : ∀ b u, s.heap.get? b = some u → h'.get? b = some u) (hp : s.heap.objs.size ≤ a) (new : ObjOk X.prog X.w (upd H a o) h' a o) :
    Inv X pins σ (upd H a o) { s with heap := h', toks := t' } := I.un (Un.laid k hp (I.hok.fresh hp)) (I.hok.laid k hp new)
theorem Inv.write {x e : Addr} {o : HO} {t' : Nat} (I : Inv X pins σ H s) (mu : Mut (H x)) (he : e = x ∨ H e = some (.own x)) (k : ∀ b u, b ≠ e → s.heap.get? b = some u → h'.get? b = some u) (heo : ∃ u, h'.get? e = some u)
    (new : ObjOk X.prog X.w (upd H x o) h' x o) : Inv X pins σ (upd H x o) { s with heap := h', toks := t' } := I.un (Un.write mu he k heo) (I.hok.write mu he k heo new)
theorem Inv.pins_of {pins' : List (Addr × Obj)} (I : Inv X pins σ H s) (h : ∀ p ∈ pins', s.heap.get? p.1 = some p.2 ∧ H p.1 = none ∧ p.1 ≠ X.env.locals ∧ p.1 ∉ X.fs ∧ ∀ v, p.2.data ≠ .cell v) : Inv X pins' σ H s :=
  ⟨I.ok, I.os, I.bare, I.base, I.loc, I.cell, I.free, I.freeC, fun p hp => (List.mem_append.mp hp).elim (fun z => I.pin p (List.mem_append_left _ z)) (h p), I.hok, I.len⟩
theorem nodup_ix {N : List Str} (hN : N.Nodup) {i j : Nat} {x : Str} (a : N[i]? = some x) (b : N[j]? = some x) : i = j := by
  obtain ⟨h1, e1⟩ := List.getElem?_eq_some_iff.mp a
  obtain ⟨h2, e2⟩ := List.getElem?_eq_some_iff.mp b
  exact (List.getElem_inj hN).mp (e1.trans e2.symm)
theorem store_ok2 {M : Model} {A : Around} {E : Value → Shared → Prop} {i : Nat} {x : Str} {v : V} {u : Value} {Q : Unit → Shared → Prop} (I : Inv X pins σ H s) (hN : X.N.Nodup) (hi : X.N[i]? = some x) (hx : Loc X.env.scope x) (r : RelV v u)
    (h : ∀ s', Inv X pins (σ.set i (some v)) H s' → (∃ a, Heap.SameBut a s.heap s'.heap ∧ (a = X.env.locals ∨ X.env.cells.lookup x = some a)) → Q () s') (hf : X.fn x = true ∨ X.env.scope.names.lookup x = some .local := by first | exact .inl rfl | exact .inr rfl | assumption) : wpAny M A (storeName X.env x u) Q E s := by
  obtain ⟨m, hn, hl⟩ := id I.loc
  have hcls : (X.env.scope.kind == .class || (X.env.scope.kind == .module && X.env.locals != X.env.globals)) = false := by rw [I.ok.kind]; rfl
  have hiσ : i < σ.length := by rw [I.len]; exact (List.getElem?_eq_some_iff.mp hi).1
  have cne := I.cne
  have tracked : ∀ {a : Addr} {h' : Heap}, (∃ o, s.heap.get? a = some o ∧ H a = none) → Heap.SameBut a s.heap h' → HOk X.prog X.w H h' := fun {a h'} ha hs b ob e => by
    obtain ⟨_, _, hfree⟩ := ha
    refine (I.hok b ob e).stay (fun c w' hc q => (hs.2 c ?_).trans q) (fun _ q => q) fun _ _ q => q
    rintro rfl
    rcases hc with rfl | hc
    · rw [hfree] at e; cases e
    · rw [hfree] at hc; cases hc
  rcases hx with hk | hk
  · refine wpAny_storeName_local hk hn (fun h' hn' hs => ?_) hcls
    obtain ⟨oL, _, _, hoL, _⟩ := id hn
    refine h _ ⟨I.ok, I.os, I.bare, ⟨fun b o e n hb hx => ?_, fun b o e n hb hx => ?_, I.base.free, fun b o e hx => ?_, I.base.tups, I.base.frzs, I.base.tbls⟩, ⟨_, hn', fun j y v' e1 e2 e3 => ?_⟩, fun y c e => ?_, I.free, I.freeC, fun p hp => ?_, tracked ⟨oL, hoL, I.free⟩ hs, by simpa using I.len⟩ ⟨_, hs, .inl rfl⟩
    · exact (hs.2 b (Nat.ne_of_lt (Nat.lt_of_lt_of_le (Heap.lt_size e) I.ok.above))).trans (I.base.keep b o e n hb hx)
    · obtain ⟨sl, e1⟩ := I.base.slot b o e n hb hx
      exact ⟨sl, (hs.2 b (Nat.ne_of_lt (Nat.lt_of_lt_of_le (Heap.lt_size e) I.ok.above))).trans e1⟩
    · obtain ⟨o', e1⟩ := I.base.there b o e hx
      exact ⟨o', (hs.2 b (Nat.ne_of_lt (Nat.lt_of_lt_of_le (Heap.lt_size e) I.ok.above))).trans e1⟩
    · by_cases hj : j = i
      · subst hj
        rw [hi] at e1; cases e1
        rw [List.getElem?_set_self hiσ] at e2
        cases e2
        exact ⟨u, r, .inl ⟨hk, by simp⟩⟩
      · rw [List.getElem?_set_ne (Ne.symm hj)] at e2
        obtain ⟨u', r', q⟩ := hl j y v' e1 e2 e3
        refine ⟨u', r', ?_⟩
        rcases q with ⟨k, e⟩ | ⟨k, c, e, z⟩
        · refine .inl ⟨k, ?_⟩
          have : y ≠ x := fun e => hj (nodup_ix hN e1 (e ▸ hi))
          simp [this, e]
        · exact .inr ⟨k, c, e, z.sameBut hs (cne y c e)⟩
    · obtain ⟨w', z⟩ := I.cell y c e
      exact ⟨w', z.sameBut hs (cne y c e)⟩
    · obtain ⟨e, n, ne, nf, d⟩ := I.pin p hp
      exact ⟨(hs.2 p.1 ne).trans e, n, ne, nf, d⟩
  · have hfn : X.fn x = true := by
      rcases hf with z | z
      · exact z
      · rw [z] at hk; cases hk
    obtain ⟨c, hc⟩ := I.ok.has x (.inl hk)
    obtain ⟨w', z⟩ := I.cell x c hc
    refine wpAny_storeName_cell I.ok.kind hk hc z (fun h' hc' hs => ?_)
    obtain ⟨oc, hoc, hocd⟩ := id z
    refine h { s with heap := h' } ⟨I.ok, I.os, I.bare, ⟨fun b o e n hb hx => ?_, fun b o e n hb hx => ?_, I.base.free, fun b o e hx => ?_, I.base.tups, I.base.frzs, I.base.tbls⟩, ⟨m, hn.sameBut hs (Ne.symm (cne x c hc)), fun j y v' e1 e2 e3 => ?_⟩, fun y c' e => ?_, I.free, I.freeC, fun p hp => ?_, tracked ⟨oc, hoc, I.freeC x c hc⟩ hs, by simpa using I.len⟩ ⟨c, hs, .inr hc⟩
    · exact (hs.2 b (Nat.ne_of_lt (Nat.lt_of_lt_of_le (Heap.lt_size e) (I.ok.cab x c hfn hc)))).trans (I.base.keep b o e n hb hx)
    · obtain ⟨sl, e1⟩ := I.base.slot b o e n hb hx
      exact ⟨sl, (hs.2 b (Nat.ne_of_lt (Nat.lt_of_lt_of_le (Heap.lt_size e) (I.ok.cab x c hfn hc)))).trans e1⟩
    · obtain ⟨o', e1⟩ := I.base.there b o e hx
      exact ⟨o', (hs.2 b (Nat.ne_of_lt (Nat.lt_of_lt_of_le (Heap.lt_size e) (I.ok.cab x c hfn hc)))).trans e1⟩
    · by_cases hj : j = i
      · subst hj
        rw [hi] at e1; cases e1
        rw [List.getElem?_set_self hiσ] at e2
        cases e2
        exact ⟨u, r, .inr ⟨.inl hk, c, hc, hc'⟩⟩
      · rw [List.getElem?_set_ne (Ne.symm hj)] at e2
        obtain ⟨u', r', q⟩ := hl j y v' e1 e2 e3
        refine ⟨u', r', ?_⟩
        rcases q with q | ⟨k, c', e, z'⟩
        · exact .inl q
        · refine .inr ⟨k, c', e, z'.sameBut hs ?_⟩
          rintro rfl
          exact hj (nodup_ix hN e1 (I.ok.inj _ _ _ e hc ▸ hi))
    · by_cases hcc : c' = c
      · subst hcc; exact ⟨_, hc'⟩
      · obtain ⟨w2, z2⟩ := I.cell y c' e
        exact ⟨w2, z2.sameBut hs hcc⟩
    · obtain ⟨e, n, ne, nf, d⟩ := I.pin p hp
      refine ⟨(hs.2 p.1 ?_).trans e, n, ne, nf, d⟩
      intro q
      rw [q, hoc] at e
      have q' : oc = p.2 := Option.some.inj e
      exact d w' (by rw [← q']; exact hocd)
theorem store_ok {M : Model} {A : Around} {E : Value → Shared → Prop} {i : Nat} {x : Str} {v : V} {u : Value} {Q : Unit → Shared → Prop} (I : Inv X pins σ H s) (hN : X.N.Nodup) (hi : X.N[i]? = some x) (hx : Loc X.env.scope x) (r : RelV v u)
    (h : ∀ s', Inv X pins (σ.set i (some v)) H s' → Q () s') (hf : X.fn x = true ∨ X.env.scope.names.lookup x = some .local := by first | exact .inl rfl | exact .inr rfl | assumption) : wpAny M A (storeName X.env x u) Q E s :=
  store_ok2 I hN hi hx r (fun s' I' _ => h s' I') hf
theorem Inv.call' {s' : Shared} {ch : List Addr} (I : Inv X pins σ H s) (ho : s'.os = s.os) (u : Un (frs X.stack) ch H H' s.heap s'.heap) (hok : HOk X.prog X.w H' s'.heap) (hg : AllBare s'.gens)
    (hch : ∀ b ∈ ch, (b ∈ X.ex ∨ X.s₀.heap.objs.size ≤ b) ∧ b ≠ X.env.locals ∧ (∀ x c, X.env.cells.lookup x = some c → c ≠ b) ∧ ∀ p ∈ X.pn ++ pins, p.1 ≠ b) : Inv X pins σ H' s' := by
  obtain ⟨h', g', d', t', o'⟩ := s'
  have e : o' = s.os := ho
  subst e
  exact I.call (g' := g') (t' := t') (d' := d') u hok hg hch
end
abbrev XK := Value → Option Addr → Hp → Prop
abbrev St := List (Option V)
abbrev VK := V → Hp → Prop
abbrev TE := St → Hp → VK → Prop
abbrev TT := St → Hp → (Bool → Hp → Prop) → Prop
abbrev TA := St → Hp → (List V → Hp → Prop) → Prop
structure Ends where
  nx : St → Hp → Prop
  rt : VK
  bk : St → Hp → Prop := fun _ _ => False
  ct : St → Hp → Prop := fun _ _ => False
abbrev TS := Ends → St → Hp → Prop
def EP (X : Cx) (pins : List (Addr × Obj)) (σ : St) (Q : VK) (u : Value) (s' : Shared) : Prop := ∃ v H', Inv X pins σ H' s' ∧ RelV v u ∧ Q v H'
def TP (X : Cx) (pins : List (Addr × Obj)) (σ : St) (Q : Bool → Hp → Prop) (b : Bool) (s' : Shared) : Prop := ∃ H', Inv X pins σ H' s' ∧ Q b H'
def AP (X : Cx) (pins : List (Addr × Obj)) (σ : St) (Q : List V → Hp → Prop) (us : List Value) (s' : Shared) : Prop := ∃ vs H', Inv X pins σ H' s' ∧ Vals vs us ∧ Q vs H'
def SP (X : Cx) (pins : List (Addr × Obj)) (D : Ends) (f : Flow) (s' : Shared) : Prop :=
  match f with
  | .next => ∃ σ' H', Inv X pins σ' H' s' ∧ D.nx σ' H'
  | .brk => ∃ σ' H', Inv X pins σ' H' s' ∧ D.bk σ' H'
  | .cont => ∃ σ' H', Inv X pins σ' H' s' ∧ D.ct σ' H'
  | .ret u => ∃ v σ' H', Inv X pins σ' H' s' ∧ RelV v u ∧ D.rt v H'
def PE (X : Cx) (e : Expr) (t : TE) : Prop :=
  ∀ (pins : List (Addr × Obj)) (s : Shared) (σ : St) (H : Hp) (Q : VK), Inv X pins σ H s → t σ H Q → wpAny (model X.prog X.w) X.A (eval e X.env) (EP X pins σ Q) X.xe s
def PT (X : Cx) (e : Expr) (t : TT) : Prop :=
  ∀ (pins : List (Addr × Obj)) (s : Shared) (σ : St) (H : Hp) (Q : Bool → Hp → Prop), Inv X pins σ H s → t σ H Q → wpAny (model X.prog X.w) X.A (isTrue e X.env (eval e X.env)) (TP X pins σ Q) X.xe s
def PW (X : Cx) (e : Expr) (t : TT) : Prop :=
  ∀ (whole : Sem Value) (pins : List (Addr × Obj)) (s : Shared) (σ : St) (H : Hp) (Q : Bool → Hp → Prop), Inv X pins σ H s → t σ H Q → wpAny (model X.prog X.w) X.A (isTrue e X.env whole) (TP X pins σ Q) X.xe s
theorem PW.pt {X : Cx} {e : Expr} {t : TT} (h : PW X e t) : PT X e t := h _
def PA (X : Cx) (es : List Expr) (t : TA) : Prop :=
  ∀ (pos : Pos) (pins : List (Addr × Obj)) (s : Shared) (σ : St) (H : Hp) (Q : List V → Hp → Prop), Inv X pins σ H s → t σ H Q → wpAny (model X.prog X.w) X.A (spliced (backTo pos (starEach es X.env))) (AP X pins σ Q) X.xe s
def PS (X : Cx) (st : Stmt) (t : TS) : Prop :=
  ∀ (pins : List (Addr × Obj)) (s : Shared) (σ : St) (H : Hp) (D : Ends), Inv X pins σ H s → t D σ H → wpAny (model X.prog X.w) X.A (exec st X.env) (SP X pins D) X.xe s
def PSs (X : Cx) (st : List Stmt) (t : TS) : Prop :=
  ∀ (pins : List (Addr × Obj)) (s : Shared) (σ : St) (H : Hp) (D : Ends), Inv X pins σ H s → t D σ H → wpAny (model X.prog X.w) X.A (execs st X.env) (SP X pins D) X.xe s
theorem thn {α : Type} {t : Sem α} {Q Q' : α → Shared → Prop} {M : Model} {A : Around} {E : Value → Shared → Prop} {s : Shared} (h : wpAny M A t Q E s) (hQ : ∀ a s, Q a s → Q' a s) : wpAny M A t Q' E s := wpAny_mono h hQ fun _ _ x => x
end L2
namespace L2
open PySem PySem.Spec PyProof.Rows
section
variable {X : Cx}
def tVar (i : Nat) : TE := fun σ H Q => ∃ v, σ[i]? = some (some v) ∧ Q v H
def tC (v : V) : TE := fun _ H Q => Q v H
theorem pe_var {i : Nat} {x : Str} {pos : Pos} (hN : X.N[i]? = some x) (hv : Vis X.env.scope x) (hd : (x == ("__debug__" : Str)) = false := by decide) (hcd : (x == ("__classdict__" : Str)) = false := by decide) : PE X (.Name x pos) (tVar i) := by
  intro pins s σ H Q I h
  obtain ⟨v, e, h⟩ := h
  obtain ⟨m, hn, hl⟩ := I.loc
  obtain ⟨u, r, l⟩ := hl i x v hN e hv
  have fin : EP X pins σ Q u s := ⟨v, H, I, r, h⟩
  rcases l with ⟨hk, hm⟩ | ⟨hk, c, hc, hcell⟩
  · exact wpAny_Name (wpAny_loadName_local I.ok.kind hk hn hm fin) hd
  · rcases hk with hk | hk
    · exact wpAny_Name (wpAny_loadName_cell I.ok.kind hk hc hcell fin) hd
    · exact wpAny_Name (wpAny_loadName_free I.ok.kind hk hc hcell fin hcd) hd
theorem pe_int {i j pos} : PE X (.Constant (.int i) j pos) (tC (.int i)) := fun _ _ _ H _ I h => wpAny_Constant_int ⟨.int i, H, I.tok _, ⟨_, rfl⟩, h⟩
theorem pe_bl {b j pos} : PE X (.Constant (.bool b) j pos) (tC (.bl b)) := fun _ _ _ H _ I h => Constant_bool ⟨.bl b, H, I, rfl, h⟩
theorem pe_non {j pos} : PE X (.Constant .none j pos) (tC .non) := fun _ _ _ H _ I h => Constant_none ⟨.non, H, I, rfl, h⟩
theorem pe_str {x j pos} : PE X (.Constant (.str x) j pos) (tC (.str x)) := fun _ _ _ H _ I h => Calls.Constant_str ⟨.str x, H, I.tok _, ⟨_, rfl⟩, h⟩
def Gl (X : Cx) (x : Str) : Prop := X.env.kindOf x = some .globalImplicit
theorem ld_glob {E : Value → Shared → Prop} {pins : List (Addr × Obj)} {s : Shared} {σ : St} {H : Hp} {x : Str} {u : Value} {pos : Pos} {Q : Value → Shared → Prop} (I : Inv X pins σ H s) (hg : Gl X x) (hm : X.mg x = some u) (h : Q u s)
    (hd : (x == ("__debug__" : Str)) = false := by decide) : wpAny (model X.prog X.w) X.A (eval (.Name x pos) X.env) Q E s :=
  Calls.Name_function_global I.ok.kind hg (Calls.loadGlobal_global (by rw [I.ok.glob]; exact I.mod.glob.keeps I.bk) hm h) hd
theorem ld_blt {E : Value → Shared → Prop} {pins : List (Addr × Obj)} {s : Shared} {σ : St} {H : Hp} {x : Str} {u : Value} {pos : Pos} {Q : Value → Shared → Prop} (I : Inv X pins σ H s) (hg : Gl X x) (hm : X.mg x = none) (hv : bootBuiltins x = some u) (h : Q u s)
    (hn : x ≠ "__name__" := by decide) (hd : (x == ("__debug__" : Str)) = false := by decide) : wpAny (model X.prog X.w) X.A (eval (.Name x pos) X.env) Q E s := by
  obtain ⟨mb, h1, h2⟩ := I.mod.blt
  exact Calls.Name_function_global I.ok.kind hg (Calls.loadGlobal_builtin (by rw [I.ok.glob]; exact I.mod.glob.keeps I.bk) hm (by rw [I.ok.blt]; exact h1.keeps I.bk) ((h2 x hn).trans hv) h) hd
theorem pe_glob {x : Str} {v : V} {u : Value} {pos : Pos} (hg : Gl X x) (hm : X.mg x = some u) (r : RelV v u) (hd : (x == ("__debug__" : Str)) = false := by decide) : PE X (.Name x pos) (tC v) :=
  fun _ _ _ H _ I h => ld_glob I hg hm ⟨v, H, I, r, h⟩ hd
def t2I (ta tb : TE) (k : Int → Int → Hp → Prop) : St → Hp → Prop := fun σ H => ta σ H fun x H1 => tb σ H1 fun y H2 => ∃ i j, x = .int i ∧ y = .int j ∧ k i j H2
def tAdd (ta tb : TE) : TE := fun σ H Q => t2I ta tb (fun i j H2 => Q (.int (i + j)) H2) σ H
def tSub (ta tb : TE) : TE := fun σ H Q => t2I ta tb (fun i j H2 => Q (.int (i - j)) H2) σ H
def tMul (ta tb : TE) : TE := fun σ H Q => t2I ta tb (fun i j H2 => (-(2 ^ 64) < i ∧ i < 2 ^ 64) ∧ Q (.int (i * j)) H2) σ H
variable {a b : Expr} {ta tb : TE} {pos : Pos}
def PC (X : Cx) (op : CmpOp) (a b : Expr) (t : TE) : Prop :=
  ∀ (pins : List (Addr × Obj)) (s : Shared) (σ : St) (H : Hp) (Q : VK), Inv X pins σ H s → t σ H Q →
    wpAny (model X.prog X.w) X.A (eval a X.env) (fun v s₁ => wpAny (model X.prog X.w) X.A (eval b X.env) (fun u s₂ => wpAny (model X.prog X.w) X.A (compareOp op v u) (EP X pins σ Q) X.xe s₂) X.xe s₁) X.xe s
def tCmp (p : Int → Int → Bool) (ta tb : TE) : TE := fun σ H Q => t2I ta tb (fun i j H2 => Q (.bl (p i j)) H2) σ H
abbrev tLt : TE → TE → TE := tCmp fun i j => decide (i < j)
abbrev tLe : TE → TE → TE := tCmp fun i j => decide (i ≤ j)
abbrev tGt : TE → TE → TE := tCmp fun i j => decide (j < i)
abbrev tGe : TE → TE → TE := tCmp fun i j => decide (j ≤ i)
abbrev tEqI : TE → TE → TE := tCmp fun i j => decide (i = j)
abbrev tNeI : TE → TE → TE := tCmp fun i j => !decide (i = j)
def tIsN (ta : TE) : TE := fun σ H Q => ta σ H fun x H1 => Q (.bl (decide (x = .non))) H1
def tNotN (ta : TE) : TE := fun σ H Q => ta σ H fun x H1 => Q (.bl (!decide (x = .non))) H1
def tB (t : TE) : TT := fun σ H Q => t σ H fun x H1 => ∃ c, x = .bl c ∧ Q c H1
theorem pt_val {e : Expr} {t : TE} (h : PE X e t) (he : ∀ whole, isTrue e X.env whole = (do let v ← whole; standAt e.pos; holding [v] (truthy v)) := by intro _; rfl) : PT X e (tB t) := by
  intro pins s σ H Q I hw
  refine isTrue_plain (thn (h pins s σ H _ I hw) fun v s1 ⟨x, H1, I1, r1, q1⟩ => ?_) (he _)
  obtain ⟨d, rfl, q⟩ := q1
  cases r1
  exact wpAny_truthy_bool ⟨H1, I1, q⟩
variable {tA tB' : TT} {rest : List Expr}
def tAnd (t u : TT) : TT := fun σ H Q => t σ H fun c H1 => if c = true then u σ H1 Q else Q false H1
def tOr (t u : TT) : TT := fun σ H Q => t σ H fun c H1 => if c = true then Q true H1 else u σ H1 Q
def tNot (t : TT) : TT := fun σ H Q => t σ H fun c H1 => Q (!c) H1
theorem pw_and1 (ha : PT X a tA) : PW X (.BoolOp .And [a] pos) tA := by
  intro wh pins s σ H Q I h
  refine isTrue_and (thn (ha pins s σ H Q I h) fun c s1 e => ?_)
  cases c with
  | true => exact isTrue_and_nil e
  | false => exact e
theorem pw_or1 (ha : PT X a tA) : PW X (.BoolOp .Or [a] pos) tA := by
  intro wh pins s σ H Q I h
  refine isTrue_or (thn (ha pins s σ H Q I h) fun c s1 e => ?_)
  cases c with
  | false => exact isTrue_or_nil e
  | true => exact e
theorem pw_and (ha : PT X a tA) (hb : PW X (.BoolOp .And (b :: rest) pos) tB') : PW X (.BoolOp .And (a :: b :: rest) pos) (tAnd tA tB') := by
  intro wh pins s σ H Q I h
  refine isTrue_and (thn (ha pins s σ H _ I h) fun c s1 ⟨H1, I1, q1⟩ => ?_)
  cases c with
  | true => exact hb wh pins s1 σ H1 Q I1 q1
  | false => exact ⟨H1, I1, q1⟩
theorem pw_or (ha : PT X a tA) (hb : PW X (.BoolOp .Or (b :: rest) pos) tB') : PW X (.BoolOp .Or (a :: b :: rest) pos) (tOr tA tB') := by
  intro wh pins s σ H Q I h
  refine isTrue_or (thn (ha pins s σ H _ I h) fun c s1 ⟨H1, I1, q1⟩ => ?_)
  cases c with
  | true => exact ⟨H1, I1, q1⟩
  | false => exact hb wh pins s1 σ H1 Q I1 q1
theorem pt_not (ha : PT X a tA) : PT X (.UnaryOp .Not a pos) (tNot tA) := by
  intro pins s σ H Q I h
  exact isTrue_not (ha pins s σ H (fun c H1 => Q (!c) H1) I h)
def tAndV (ta tb : TE) : TE := fun σ H Q => ta σ H fun x H1 => ∃ c, x = .bl c ∧ if c = true then tb σ H1 Q else Q (.bl false) H1
def tOrV (ta tb : TE) : TE := fun σ H Q => ta σ H fun x H1 => ∃ c, x = .bl c ∧ if c = true then Q (.bl true) H1 else tb σ H1 Q
def tNotV (ta : TE) : TE := fun σ H Q => ta σ H fun x H1 => ∃ c, x = .bl c ∧ Q (.bl (!c)) H1
theorem pe_one {op} {t : TE} (h : PE X a t) : PE X (.BoolOp op [a] pos) t := fun pins s σ H Q I hw => BoolOp_one (h pins s σ H Q I hw)
theorem pe_and (ha : PE X a ta) (hb : PE X (.BoolOp .And (b :: rest) pos) tb) : PE X (.BoolOp .And (a :: b :: rest) pos) (tAndV ta tb) := by
  intro pins s σ H Q I h
  refine BoolOp_and (thn (ha pins s σ H _ I h) fun v s1 ⟨x, H1, I1, r1, q1⟩ => ?_)
  obtain ⟨c, rfl, q1⟩ := q1
  cases r1
  refine wpAny_truthy_bool ?_
  cases c with
  | true => exact hb pins s1 σ H1 Q I1 q1
  | false => exact ⟨.bl false, H1, I1, rfl, q1⟩
def tIf (t : TT) (ta tb : TE) : TE := fun σ H Q => t σ H fun c H1 => if c = true then ta σ H1 Q else tb σ H1 Q
end
end L2
namespace L2
open PySem PySem.Spec PyProof.Rows
def SqL (K : PySem.W.Frag) (H : Hp) (a : Addr) (xs : List V) : Prop :=
  Rd H a (.lst xs) ∨
    ∃ (o : Obj) (its : Array Value) (n : Nat), K.lookup a = some o ∧ o.cls = .type "list" ∧ o.dict = none ∧ o.data = .seq its n ∧ its.size ≤ sizeLine ∧ Vals xs its.toList
def SqT (K : PySem.W.Frag) (H : Hp) (a : Addr) (xs : List V) : Prop :=
  Rd H a (.tup xs) ∨
    ∃ (o : Obj) (its : Array Value) (n : Nat), K.lookup a = some o ∧ o.cls = .type "tuple" ∧ o.dict = none ∧ o.data = .seq its n ∧ its.size ≤ sizeLine ∧ Vals xs its.toList
def absV : Value → Option V
  | .none => some .non
  | .bool b => some (.bl b)
  | .int i _ => some (.int i)
  | .str x _ => some (.str x)
  | .bytes b _ => some (.byt b)
  | .float b _ => some (.flt b)
  | .ref a => some (.ref a)
  | .type n => some (.ty n)
  | _ => none
theorem RelV.abs {x : V} {u : Value} (r : RelV x u) : absV u = some x := by
  cases x with
  | non => cases r; rfl
  | bl _ => cases r; rfl
  | int _ => obtain ⟨t, rfl⟩ := r; rfl
  | str _ => obtain ⟨t, rfl⟩ := r; rfl
  | byt _ => obtain ⟨t, rfl⟩ := r; rfl
  | flt _ => obtain ⟨t, rfl⟩ := r; rfl
  | ref _ => cases r; rfl
  | ty _ => cases r; rfl
theorem RelV.inj {x y : V} {u : Value} (r : RelV x u) (q : RelV y u) : x = y := Option.some.inj (r.abs.symm.trans q.abs)
theorem Vals.inj : ∀ {xs ys : List V} {us : List Value}, Vals xs us → Vals ys us → xs = ys
  | _, _, _, .nil, .nil => rfl
  | _, _, _, .cons r t, .cons r' t' => by rw [r.inj r', Vals.inj t t']
section
variable {X : Cx} {pins : List (Addr × Obj)} {σ : St} {H : Hp} {s : Shared} {a : Addr} {xs ys : List V}
theorem SqL.of {K : PySem.W.Frag} (h : H a = some (.lst xs)) : SqL K H a xs := .inl (.inl h)
theorem SqT.of {K : PySem.W.Frag} (h : H a = some (.tup xs)) : SqT K H a xs := .inl (.inl h)
theorem Inv.list (I : Inv X pins σ H s) (h : SqL X.K H a xs) : ∃ its : List Value, Vals xs its ∧ PlainL s.heap a its.toArray ∧ xs.length ≤ sizeLine := by
  rcases h with h | ⟨o, its, n, hk, hc, hd, hs, hz, r⟩
  · obtain ⟨z, its, n, r, e⟩ := h.ok I.hok
    exact ⟨its, r, ⟨_, n, e, rfl, rfl, rfl⟩, z⟩
  · refine ⟨its.toList, r, ⟨o, n, I.kIn a o hk, hc, hd, by simpa using hs⟩, ?_⟩
    have e := r.length
    simp only [Array.length_toList] at e
    omega
theorem Inv.tuple (I : Inv X pins σ H s) (h : SqT X.K H a xs) : ∃ its : List Value, Vals xs its ∧ IsTup s.heap a its.toArray ∧ xs.length ≤ sizeLine := by
  rcases h with h | ⟨o, its, n, hk, hc, _, hs, hz, r⟩
  · obtain ⟨z, its, r, p, _⟩ := h.ok I.hok
    exact ⟨its, r, p, z⟩
  · refine ⟨its.toList, r, ⟨o, I.kIn a o hk, hc, n, by simpa using hs⟩, ?_⟩
    have e := r.length
    simp only [Array.length_toList] at e
    omega
theorem Inv.list_inj (I : Inv X pins σ H s) (h : SqL X.K H a xs) (h' : SqL X.K H a ys) : xs = ys := by
  obtain ⟨its, r, ⟨o, n, e, _, _, d⟩, _⟩ := I.list h
  obtain ⟨its', r', ⟨o', n', e', _, _, d'⟩, _⟩ := I.list h'
  rw [e] at e'; cases e'
  rw [d] at d'
  injection d' with d1 _
  have : its = its' := by simpa using congrArg Array.toList d1
  subst this
  exact r.inj r'
theorem Inv.tuple_inj (I : Inv X pins σ H s) (h : SqT X.K H a xs) (h' : SqT X.K H a ys) : xs = ys := by
  obtain ⟨its, r, ⟨o, e, _, n, d⟩, _⟩ := I.tuple h
  obtain ⟨its', r', ⟨o', e', _, n', d'⟩, _⟩ := I.tuple h'
  rw [e] at e'; cases e'
  rw [d] at d'
  injection d' with d1 _
  have : its = its' := by simpa using congrArg Array.toList d1
  subst this
  exact r.inj r'
end
abbrev Cx.wish (X : Cx) (E : Value → Shared → Prop) : Cx := { X with xe := E }
abbrev Cx.nox (X : Cx) : Cx := X.wish fun _ _ => False
theorem Cx.Ok.wish {X : Cx} (ok : X.Ok) (E : Value → Shared → Prop) : (X.wish E).Ok :=
  ⟨ok.mod, ok.kind, ok.glob, ok.blt, ok.above, ok.inj, ok.has, ok.cab, ok.hd, ok.frames, ok.stk, ok.exf, ok.bs, ok.bsz, ok.noex, ok.exfs, ok.funs, ok.frf⟩
theorem Cx.Ok.unwish {X : Cx} {E : Value → Shared → Prop} (ok : (X.wish E).Ok) : X.Ok :=
  ⟨ok.mod, ok.kind, ok.glob, ok.blt, ok.above, ok.inj, ok.has, ok.cab, ok.hd, ok.frames, ok.stk, ok.exf, ok.bs, ok.bsz, ok.noex, ok.exfs, ok.funs, ok.frf⟩
section
variable {X : Cx} {pins : List (Addr × Obj)} {σ : St} {H : Hp} {s : Shared} {E : Value → Shared → Prop}
theorem Inv.wish (I : Inv X pins σ H s) (E : Value → Shared → Prop) : Inv (X.wish E) pins σ H s := ⟨I.ok.wish E, I.os, I.bare, I.base, I.loc, I.cell, I.free, I.freeC, I.pin, I.hok, I.len⟩
theorem Inv.unwish (I : Inv (X.wish E) pins σ H s) : Inv X pins σ H s := ⟨I.ok.unwish, I.os, I.bare, I.base, I.loc, I.cell, I.free, I.freeC, I.pin, I.hok, I.len⟩
theorem SP.unwish {D : Ends} {f : Flow} {s' : Shared} (h : SP (X.wish E) pins D f s') : SP X pins D f s' := by
  cases f with
  | next => obtain ⟨σ', H', I, q⟩ := h; exact ⟨σ', H', I.unwish, q⟩
  | brk => obtain ⟨σ', H', I, q⟩ := h; exact ⟨σ', H', I.unwish, q⟩
  | cont => obtain ⟨σ', H', I, q⟩ := h; exact ⟨σ', H', I.unwish, q⟩
  | ret u => obtain ⟨v, σ', H', I, r, q⟩ := h; exact ⟨v, σ', H', I.unwish, r, q⟩
theorem PE.nox {e : Expr} {t : TE} (h : PE X.nox e t) : PE X e t := fun pins s σ H Q I hw =>
  wpAny_mono (h pins s σ H Q (I.wish _) hw) (fun _ _ ⟨v, H', I', r, q⟩ => ⟨v, H', I'.unwish, r, q⟩) fun _ _ z => False.elim z
theorem PT.nox {e : Expr} {t : TT} (h : PT X.nox e t) : PT X e t := fun pins s σ H Q I hw =>
  wpAny_mono (h pins s σ H Q (I.wish _) hw) (fun _ _ ⟨H', I', q⟩ => ⟨H', I'.unwish, q⟩) fun _ _ z => False.elim z
theorem PSs.nox {st : List Stmt} {t : TS} (h : PSs X.nox st t) : PSs X st t := fun pins s σ H D I hw =>
  wpAny_mono (h pins s σ H D (I.wish _) hw) (fun _ _ q => q.unwish) fun _ _ z => False.elim z
end
section
variable {X : Cx} {st : Stmt} {rest : List Stmt} {t u : TS} {e : Expr} {te : TE} {pos : Pos}
def tNext : TS := fun D σ H => D.nx σ H
def tSeq (t u : TS) : TS := fun D σ H => t { D with nx := u D } σ H
theorem pss_nil : PSs X [] tNext := fun _ _ σ H _ I h => wpAny_execs_nil ⟨σ, H, I, h⟩
theorem pss_cons (h1 : PS X st t) (h2 : PSs X rest u) : PSs X (st :: rest) (tSeq t u) := by
  intro pins s σ H D I h
  refine wpAny_execs_cons (thn (h1 pins s σ H { D with nx := u D } I h) fun f s1 q => ?_)
  cases f with
  | next =>
    obtain ⟨σ', H', I', q⟩ := q
    exact h2 pins s1 σ' H' D I' q
  | ret v => exact q
  | brk => exact q
  | cont => exact q
theorem pss_one (h1 : PS X st t) : PSs X [st] t := by
  intro pins s σ H D I h
  refine wpAny_execs_cons (thn (h1 pins s σ H D I h) fun f s1 q => ?_)
  cases f with
  | next => exact wpAny_execs_nil q
  | ret v => exact q
  | brk => exact q
  | cont => exact q
def tBreak : TS := fun D σ H => D.bk σ H
def tCont : TS := fun D σ H => D.ct σ H
theorem Inv.quiet {pins : List (Addr × Obj)} {σ : St} {H : Hp} {s : Shared} (I : Inv X pins σ H s) : interactive X.env = false := by simp [interactive, I.ok.kind]
def tDrop (te : TE) : TS := fun D σ H => te σ H fun _ H1 => D.nx σ H1
theorem ps_expr (he : PE X e te) (hs : swapsWith e none pos.line X.env = pure false := by rfl) : PS X (.Expr e pos) (tDrop te) := by
  intro pins s σ H D I h
  exact wpAny_Expr_any (thn (he pins s σ H _ I h) fun v s1 ⟨x, H1, I1, r1, q1⟩ => ⟨σ, H1, I1, q1⟩) I.quiet hs
def tRet (te : TE) : TS := fun D σ H => te σ H D.rt
theorem ps_ret (he : PE X e te) : PS X (.Return (some e) pos) (tRet te) := by
  intro pins s σ H D I h
  exact wpAny_Return_some (thn (he pins s σ H _ I h) fun v s1 ⟨x, H1, I1, r1, q1⟩ => ⟨x, σ, H1, I1, r1, q1⟩)
def tRetN : TS := fun D _ H => D.rt .non H
def tIfS (c : TT) (t u : TS) : TS := fun D σ H => c σ H fun b H1 => if b = true then t D σ H1 else u D σ H1
theorem ps_if {c : Expr} {a b : List Stmt} {tc : TT} (hc : PT X c tc) (ha : PSs X a t) (hb : PSs X b u) : PS X (.If c a b pos) (tIfS tc t u) := by
  intro pins s σ H D I h
  refine wpAny_If (thn (hc pins s σ H _ I h) fun d s1 ⟨H1, I1, q1⟩ => ?_)
  cases d with
  | true => exact ha pins s1 σ H1 D I1 q1
  | false => exact hb pins s1 σ H1 D I1 q1
def tNever : TS := fun _ _ _ => False
end
abbrev TG := V → St → Hp → (St → Hp → Prop) → Prop
abbrev TGs := List V → St → Hp → (St → Hp → Prop) → Prop
def PG (X : Cx) (target : Expr) (t : TG) : Prop :=
  ∀ (pins : List (Addr × Obj)) (s : Shared) (σ : St) (H : Hp) (v : V) (u : Value) (Q : St → Hp → Prop), Inv X pins σ H s → RelV v u → t v σ H Q →
    wpAny (model X.prog X.w) X.A (assign target X.env u) (fun _ s' => ∃ σ' H', Inv X pins σ' H' s' ∧ Q σ' H') X.xe s
def PGs (X : Cx) (ts : List Expr) (t : TGs) : Prop :=
  ∀ (pins : List (Addr × Obj)) (s : Shared) (σ : St) (H : Hp) (vs : List V) (us : List Value) (Q : St → Hp → Prop), Inv X pins σ H s → Vals vs us → t vs σ H Q →
    wpAny (model X.prog X.w) X.A (assignInOrder ((assignEach ts X.env).map (·.2)) us) (fun _ s' => ∃ σ' H', Inv X pins σ' H' s' ∧ Q σ' H') X.xe s
abbrev TSet := V → V → V → Hp → (Hp → Prop) → Prop
def PSet (X : Cx) (t : TSet) : Prop :=
  ∀ (pins : List (Addr × Obj)) (s : Shared) (σ : St) (H : Hp) (o i v : V) (ov iv u : Value) (Q : Hp → Prop), Inv X pins σ H s → RelV o ov → RelV i iv → RelV v u → t o i v H Q →
    wpAny (model X.prog X.w) X.A (setItem ov iv u) (fun _ s' => ∃ H', Inv X pins σ H' s' ∧ Q H') X.xe s
abbrev TIp := V → V → Hp → VK → Prop
def PIp (X : Cx) (op : Operator) (t : TIp) : Prop :=
  ∀ (pins : List (Addr × Obj)) (s : Shared) (σ : St) (H : Hp) (x y : V) (v u : Value) (Q : VK), Inv X pins σ H s → RelV x v → RelV y u → t x y H Q →
    wpAny (model X.prog X.w) X.A (inplaceOp op v u) (EP X pins σ Q) X.xe s
section
variable {X : Cx} {pos : Pos}
def gName (i : Nat) : TG := fun v σ H Q => Q (σ.set i (some v)) H
theorem pg_name {i : Nat} {x : Str} (hN : X.N.Nodup) (hi : X.N[i]? = some x) (hx : Loc X.env.scope x) (hf : X.fn x = true ∨ X.env.scope.names.lookup x = some .local := by first | exact .inl rfl | exact .inr rfl | assumption) : PG X (.Name x pos) (gName i) := by
  intro pins s σ H v u Q I r h
  exact wpAny_assign_Name (store_ok I hN hi hx r (fun s' I' => ⟨_, H, I', h⟩) hf)
def gNil : TGs := fun vs σ H Q => vs = [] ∧ Q σ H
def gCons (t : TG) (u : TGs) : TGs := fun vs σ H Q => ∃ v r, vs = v :: r ∧ t v σ H fun σ' H' => u r σ' H' Q
theorem pgs_nil : PGs X [] gNil := by
  intro pins s σ H vs us Q I r h
  obtain ⟨e, h⟩ := h
  subst e
  cases r
  exact assignInOrder_nil ⟨σ, H, I, h⟩
theorem pgs_cons {e : Expr} {es : List Expr} {t : TG} {u : TGs} (h1 : PG X e t) (h2 : PGs X es u)
    (hs : (assignEach (e :: es) X.env).map (·.2) = assign e X.env :: (assignEach es X.env).map (·.2) := by rfl) : PGs X (e :: es) (gCons t u) := by
  intro pins s σ H vs us Q I r h
  obtain ⟨v, vr, e1, h⟩ := h
  subst e1
  cases r with
  | cons r rr =>
    rw [hs]
    refine assignInOrder_cons (thn (h1 pins s σ H _ _ _ I r h) fun _ s1 ⟨σ1, H1, I1, q1⟩ => ?_)
    exact h2 pins s1 σ1 H1 _ _ Q I1 rr q1
def gTup (K : PySem.W.Frag) (n : Nat) (t : TGs) : TG := fun v σ H Q => ∃ a xs, v = .ref a ∧ SqT K H a xs ∧ xs.length = n ∧ t xs σ H Q
theorem pg_tup {es : List Expr} {k : Nat} {t : TGs} {n : Nat} (hc : X.calm = true) (h : PGs X es t)
    (hn : (assignEach es X.env).length = n := by rfl) (hst : (assignEach es X.env).findIdx? (·.1) = none := by rfl) : PG X (.Tuple es k pos) (gTup X.K n t) := by
  intro pins s σ H v u Q I r hw
  obtain ⟨a, xs, e1, hq, hl, hw⟩ := hw
  subst e1
  cases r
  obtain ⟨its, rv, ht, hz⟩ := I.tuple hq
  refine assign_Tuple_tuple (I.ok.hd hc) ht (by simp [hn, ← hl, rv.length]) hst fun h' hx => ?_
  have I1 : Inv X pins σ H { s with heap := h' } := I.kept (t' := s.toks) fun b o e => hx b o (Nat.ne_of_lt (Heap.lt_size e)) e
  exact h pins _ σ H xs _ Q I1 (by simpa using rv) hw
def gSub (to ti : TE) (t : TSet) : TG := fun v σ H Q => to σ H fun o H1 => ti σ H1 fun i H2 => t o i v H2 fun H3 => Q σ H3
theorem pg_sub {o i : Expr} {to ti : TE} {t : TSet} (ho : PE X o to) (hi : PE X i ti) (hs : PSet X t)
    (ha : ∀ v, assign (.Subscript o i pos) X.env v = (do
      let ov ← holding [v] (eval o X.env)
      let iv ← holding [v, ov] (eval i X.env)
      standAt pos
      holding [v, ov, iv] (setItem ov iv v)
      release [v, ov, iv] []) := by intro _; rfl) : PG X (.Subscript o i pos) (gSub to ti t) := by
  intro pins s σ H v u Q I r h
  rw [ha]
  refine wpAny_bind (wpAny_holding (thn (ho pins s σ H _ I h) fun ov s1 ⟨x, H1, I1, r1, q1⟩ => ?_))
  refine wpAny_bind (wpAny_holding (thn (hi pins s1 σ H1 _ I1 q1) fun iv s2 ⟨y, H2, I2, r2, q2⟩ => ?_))
  refine wpAny_bind (wpAny_standAt (wpAny_bind (wpAny_holding (thn (hs pins s2 σ H2 x y v ov iv u _ I2 r1 r2 r q2) fun _ s3 ⟨H3, I3, q3⟩ => ?_))))
  exact wpAny_release ⟨σ, H3, I3, q3⟩
def tAsg (te : TE) (g : TG) : TS := fun D σ H => te σ H fun x H1 => g x σ H1 D.nx
theorem ps_asg {tg e : Expr} {te : TE} {g : TG} (he : PE X e te) (hg : PG X tg g) (hs : swapsWithSole [tg] e pos.line X.env = pure false := by rfl) (hw : swappedStores [tg] e X.env = pure none := by rfl)
    (h1 : (assignEach [tg] X.env).map (·.2) = [assign tg X.env] := by rfl) : PS X (.Assign [tg] e pos) (tAsg te g) := by
  intro pins s σ H D I h
  refine wpAny_Assign_stores (thn (he pins s σ H _ I h) fun v s1 ⟨x, H1, I1, r1, q1⟩ => ?_) hs hw
  rw [h1]
  exact thn (hg pins s1 σ H1 x v _ I1 r1 q1) fun _ s2 q => q
theorem ps_set {i : Nat} {x : Str} {e : Expr} {te : TE} {pos' : Pos} (hN : X.N.Nodup) (hi : X.N[i]? = some x) (hx : Loc X.env.scope x) (he : PE X e te) (hs : swapsWith e (some (.Name x pos')) pos.line X.env = pure false := by rfl) (hf : X.fn x = true ∨ X.env.scope.names.lookup x = some .local := by first | exact .inl rfl | exact .inr rfl | assumption) :
    PS X (.Assign [.Name x pos'] e pos) (tAsg te (gName i)) := by
  intro pins s σ H D I h
  refine wpAny_Assign_Name (thn (he pins s σ H _ I h) fun v s1 ⟨y, H1, I1, r1, q1⟩ => ?_) hs
  exact store_ok I1 hN hi hx r1 (fun s2 I2 => ⟨_, H1, I2, q1⟩) hf
def tPar (i j : Nat) (ta : TA) : TS := fun D σ H => ta σ H fun vs H1 => ∃ v w, vs = [v, w] ∧ D.nx ((σ.set i (some v)).set j (some w)) H1
def tAug (i : Nat) (te : TE) (ti : TIp) : TS := fun D σ H => ∃ x, σ[i]? = some (some x) ∧ te σ H fun y H1 => ti x y H1 fun z H2 => D.nx (σ.set i (some z)) H2
def tAugS (to ti te : TE) (tget : V → V → Hp → VK → Prop) (tip : TIp) (tset : TSet) : TS := fun D σ H => to σ H fun o H1 => ti σ H1 fun i H2 => tget o i H2 fun x H3 => te σ H3 fun y H4 => tip x y H4 fun z H5 => tset o i z H5 fun H6 => D.nx σ H6
def PGet (X : Cx) (t : V → V → Hp → VK → Prop) : Prop :=
  ∀ (pins : List (Addr × Obj)) (s : Shared) (σ : St) (H : Hp) (o i : V) (ov iv : Value) (Q : VK), Inv X pins σ H s → RelV o ov → RelV i iv → t o i H Q →
    wpAny (model X.prog X.w) X.A (getItem ov iv) (EP X pins σ Q) X.xe s
def ipI (f : Int → Int → Int) : TIp := fun x y H Q => ∃ i j, x = .int i ∧ y = .int j ∧ Q (.int (f i j)) H
end
section
variable {X : Cx} {pos : Pos}
def tWhile (c : TT) (tb : TS) : TS := fun D σ H => ∃ W : Nat → St → Hp → Prop, (∃ m, W m σ H) ∧ ∀ m σ H, W m σ H →
  c σ H fun b H1 => if b = true then ∃ N : St → Hp → Prop, (∀ σ' H', N σ' H' → ∃ m', m' < m ∧ W m' σ' H') ∧ tb { D with nx := N, ct := N, bk := D.nx } σ H1 else D.nx σ H1
theorem ps_while {c : Expr} {body : List Stmt} {tc : TT} {tb : TS} (hp : PassesOwn (model X.prog X.w) X.A X.env X.xe) (hc : PT X c tc) (hb : PSs X body tb) : PS X (.While c body [] pos) (tWhile tc tb) := by
  intro pins s σ H D I h
  obtain ⟨W, ⟨m0, w0⟩, turn⟩ := h
  refine wpAny_While (codeAny_whileLoop (fun n s' => ∃ σ' H', Inv X pins σ' H' s' ∧ W n σ' H') ?_ m0 ⟨σ, H, I, w0⟩)
  rintro n s1 ⟨σ1, H1, I1, w1⟩
  refine wpAny_passesOwn hp (thn (hc pins s1 σ1 H1 _ I1 (turn n σ1 H1 w1)) fun b s2 ⟨H2, I2, q2⟩ => ?_)
  cases b with
  | true =>
    obtain ⟨N, hN, q2⟩ := q2
    rw [if_pos rfl]
    refine wpAny_passesOwn hp (thn (hb pins s2 σ1 H2 _ I2 q2) fun f s3 q3 => ?_)
    cases f with
    | next =>
      obtain ⟨σ3, H3, I3, n3⟩ := q3
      obtain ⟨m', hm, w3⟩ := hN σ3 H3 n3
      exact ⟨m', hm, σ3, H3, I3, w3⟩
    | cont =>
      obtain ⟨σ3, H3, I3, n3⟩ := q3
      obtain ⟨m', hm, w3⟩ := hN σ3 H3 n3
      exact ⟨m', hm, σ3, H3, I3, w3⟩
    | brk => exact q3
    | ret v => exact q3
  | false =>
    rw [if_neg Bool.false_ne_true]
    exact wpAny_execs_nil ⟨σ1, H2, I2, q2⟩
end
structure It where
  go : Nat → Hp → Prop
  yld : Nat → Hp → V → Hp → Prop
  stop : Nat → Hp → Prop
def FpOk (X : Cx) (pins : List (Addr × Obj)) (H : Hp) (b : Addr) : Prop :=
  H b = none ∧ b ≠ X.env.locals ∧ b ∉ X.fs ∧ (b ∈ X.ex ∨ X.s₀.heap.objs.size ≤ b) ∧ (∀ x c, X.env.cells.lookup x = some c → c ≠ b) ∧ ∀ p ∈ X.pn ++ pins, p.1 ≠ b
theorem Inv.fpOk {X : Cx} {pins : List (Addr × Obj)} {σ : St} {H H' : Hp} {s : Shared} {b : Addr} (I : Inv X pins σ H s) (hb : s.heap.objs.size ≤ b) (hn : H' b = none) : FpOk X pins H' b := by
  refine ⟨hn, Nat.ne_of_gt (Nat.lt_of_lt_of_le I.lt hb), I.nofs hb, .inr (Nat.le_trans I.sz hb), fun x c e z => ?_, fun p hp z => ?_⟩
  · obtain ⟨v, q⟩ := I.cell x c e
    exact absurd (Nat.lt_of_lt_of_le q.lt (by rw [z]; exact hb)) (Nat.lt_irrefl _)
  · exact absurd (Nat.lt_of_lt_of_le (Heap.lt_size (I.pin p hp).1) (by rw [z]; exact hb)) (Nat.lt_irrefl _)
structure Turn (P : Program) (w : World) (K : PySem.W.Frag) (tg : Expr) (J : It) (fp : List Addr) (it : Addr) (tn : Nat → Heap → Prop) : Prop where
  mem : it ∈ fp
  obj : ∀ i h, tn i h → ∀ b ∈ fp, ∃ o, h.get? b = some o ∧ ∀ v, o.data ≠ .cell v
  keep : ∀ i h h', tn i h → (∀ b ∈ fp, ∀ o, h.get? b = some o → h'.get? b = some o) → tn i h'
  item : ∀ (X : Cx), X.prog = P → X.w = w → X.K = K → X.calm = true → ∀ (i : Nat) (pins : List (Addr × Obj)) (s : Shared) (σ : St) (H : Hp) (E : Value → Shared → Prop), Inv X pins σ H s → (∀ b ∈ fp, FpOk X pins H b) → tn i s.heap → J.go i H →
    wpAny (model P w) X.A (pyNext (.ref it)) (fun r s1 => ∃ u, r = some u ∧
      wpAny (model P w) X.A (letOwnedTupleGo tg (.ref it) u) (fun _ s2 => ∃ x H', Inv X pins σ H' s2 ∧ RelV x u ∧ J.yld i H x H' ∧ tn (i + 1) s2.heap ∧ ∀ b ∈ fp, H' b = none) E s1) E s
  done : ∀ (X : Cx), X.prog = P → X.w = w → X.K = K → X.calm = true → ∀ (i : Nat) (pins : List (Addr × Obj)) (s : Shared) (σ : St) (H : Hp) (E : Value → Shared → Prop), Inv X pins σ H s → (∀ b ∈ fp, FpOk X pins H b) → tn i s.heap → J.stop i H →
    wpAny (model P w) X.A (pyNext (.ref it)) (fun r s1 => r = none ∧ Inv X pins σ H s1) E s
  self : ∀ (A : Around) (i : Nat) (s : Shared) (Q : Value → Shared → Prop) (E : Value → Shared → Prop), tn i s.heap → Q (.ref it) s → wpAny (model P w) A (pyIter (.ref it)) Q E s
abbrev TI := St → Hp → (It → Hp → Prop) → Prop
def PIE (X : Cx) (pins : List (Addr × Obj)) (σ : St) (tg : Expr) (R : It → Hp → Prop) (itv : Value) (s2 : Shared) : Prop :=
  ∃ (it : Addr) (fp : List Addr) (tn : Nat → Heap → Prop) (J : It) (H' : Hp), itv = .ref it ∧ Inv X pins σ H' s2 ∧ Turn X.prog X.w X.K tg J fp it tn ∧ tn 0 s2.heap ∧ (∀ b ∈ fp, FpOk X pins H' b) ∧ R J H'
def PI (X : Cx) (tg iter : Expr) (wi : TI) : Prop :=
  ∀ (pins : List (Addr × Obj)) (s : Shared) (σ : St) (H : Hp) (R : It → Hp → Prop), Inv X pins σ H s → wi σ H R →
    wpAny (model X.prog X.w) X.A (eval iter X.env) (fun v s1 => wpAny (model X.prog X.w) X.A (pyIter v) (PIE X pins σ tg R) X.xe s1) X.xe s
theorem go_of {M : Model} {A : Around} {E : Value → Shared → Prop} {s : Shared} {tg : Expr} {it : Addr} {u : Value} {o : Obj} {n : String} {vs : Array Value} {Q : Unit → Shared → Prop} (ho : s.heap.get? it = some o) (hc : o.cls = .type n) (hd : o.data = .fields vs)
    (hn : ["enumerate", "zip", "dict_itemiterator", "dict_reverseitemiterator", "odict_iterator", "itertools.zip_longest", "itertools.pairwise"].contains n = false) (hQ : Q () s) : wpAny M A (letOwnedTupleGo tg (.ref it) u) Q E s := by
  unfold letOwnedTupleGo
  cases tg <;> first
    | exact wpAny_pure hQ
    | (cases u <;> first
        | exact wpAny_pure hQ
        | (refine wpAny_bind (wpAny_load ho ?_)
           rw [hc, hd]
           show wpAny M A (if (["enumerate", "zip", "dict_itemiterator", "dict_reverseitemiterator", "odict_iterator", "itertools.zip_longest", "itertools.pairwise"].contains n && vs[0]? == some (rawInt _)) = true then _ else _) Q E s
           rw [if_neg (by intro h; rw [hn, Bool.false_and] at h; cases h)]
           exact wpAny_pure hQ))
def Itl (K : PySem.W.Frag) (a : Addr) : It :=
  ⟨fun i H => ∃ xs x, SqL K H a xs ∧ xs[i]? = some x, fun i H x H' => H' = H ∧ ∀ xs, SqL K H a xs → xs[i]? = some x, fun i H => ∃ xs, SqL K H a xs ∧ xs.length ≤ i⟩
def Itt (K : PySem.W.Frag) (a : Addr) : It :=
  ⟨fun i H => ∃ xs x, SqT K H a xs ∧ xs[i]? = some x, fun i H x H' => H' = H ∧ ∀ xs, SqT K H a xs → xs[i]? = some x, fun i H => ∃ xs, SqT K H a xs ∧ xs.length ≤ i⟩
def Itr (lo : Int) (n : Nat) : It := ⟨fun i _ => i < n, fun i H x H' => H' = H ∧ x = .int (lo + i), fun i _ => n ≤ i⟩
theorem turn_list {P : Program} {w : World} {K : PySem.W.Frag} {tg : Expr} (a it : Addr) : Turn P w K tg (Itl K a) [it] it (fun i h => h.IsListIter it a i) where
  mem := by simp
  obj := fun i h st b hb => by
    have e : b = it := by simpa using hb
    subst e
    obtain ⟨o, e, c, d⟩ := st
    exact ⟨o, e, fun v z => by rw [d] at z; cases z⟩
  keep := fun i h h' st k => st.at fun o e => k it (by simp) o e
  item := by
    intro X hP hw hK hc i pins s σ H E I hf st hg
    subst hP hw hK
    obtain ⟨xs, x, hq, hx⟩ := hg
    obtain ⟨its, rv, p, hz⟩ := I.list hq
    obtain ⟨u, hu, ru⟩ := rv.get hx
    obtain ⟨f0, f1, f2, f3, f4, f5⟩ := hf it (by simp)
    refine wpAny_pyNext_list_item st p.isList (x := u) (by simpa using hu) fun h' st' sb => ?_
    have I1 : Inv X pins σ H { s with heap := h' } := I.turned (t' := s.toks) (fun b o hb e => (sb.2 b hb).trans e) f0 f1 f3 f4 f5
    obtain ⟨o, e, c, d⟩ := id st'
    exact ⟨u, rfl, go_of (s := { s with heap := h' }) e c d (by decide) ⟨x, H, I1, ru, ⟨rfl, fun ys hy => by rw [I.list_inj hy hq]; exact hx⟩, st', fun b hb => (hf b hb).1⟩⟩
  done := by
    intro X hP hw hK hc i pins s σ H E I hf st hg
    subst hP hw hK
    obtain ⟨xs, hq, hx⟩ := hg
    obtain ⟨its, rv, p, hz⟩ := I.list hq
    obtain ⟨f0, f1, f2, f3, f4, f5⟩ := hf it (by simp)
    have hl := rv.length
    exact wpAny_pyNext_list_end (I.ok.hd hc) st p.isList (by simp; omega) fun h' eb => ⟨rfl, I.turned (t' := s.toks) (fun b o hb e => eb b o hb e) f0 f1 f3 f4 f5⟩
  self := fun _ _ _ _ _ st h => wpAny_pyIter_listiter st h
theorem turn_tuple {P : Program} {w : World} {K : PySem.W.Frag} {tg : Expr} (a it : Addr) : Turn P w K tg (Itt K a) [it] it (fun i h => h.IsTupleIter it a i) where
  mem := by simp
  obj := fun i h st b hb => by
    have e : b = it := by simpa using hb
    subst e
    obtain ⟨o, e, c, d⟩ := st
    exact ⟨o, e, fun v z => by rw [d] at z; cases z⟩
  keep := fun i h h' st k => st.at fun o e => k it (by simp) o e
  item := by
    intro X hP hw hK hc i pins s σ H E I hf st hg
    subst hP hw hK
    obtain ⟨xs, x, hq, hx⟩ := hg
    obtain ⟨its, rv, p, hz⟩ := I.tuple hq
    obtain ⟨u, hu, ru⟩ := rv.get hx
    obtain ⟨f0, f1, f2, f3, f4, f5⟩ := hf it (by simp)
    refine wpAny_pyNext_tuple_item st (show s.heap.IsTuple a its.toArray from p) (x := u) (by simpa using hu) fun h' st' sb => ?_
    have I1 : Inv X pins σ H { s with heap := h' } := I.turned (t' := s.toks) (fun b o hb e => (sb.2 b hb).trans e) f0 f1 f3 f4 f5
    obtain ⟨o, e, c, d⟩ := id st'
    exact ⟨u, rfl, go_of (s := { s with heap := h' }) e c d (by decide) ⟨x, H, I1, ru, ⟨rfl, fun ys hy => by rw [I.tuple_inj hy hq]; exact hx⟩, st', fun b hb => (hf b hb).1⟩⟩
  done := by
    intro X hP hw hK hc i pins s σ H E I hf st hg
    subst hP hw hK
    obtain ⟨xs, hq, hx⟩ := hg
    obtain ⟨its, rv, p, hz⟩ := I.tuple hq
    obtain ⟨f0, f1, f2, f3, f4, f5⟩ := hf it (by simp)
    have hl := rv.length
    exact wpAny_pyNext_tuple_end (I.ok.hd hc) st (show s.heap.IsTuple a its.toArray from p) (by simp; omega) fun h' eb => ⟨rfl, I.turned (t' := s.toks) (fun b o hb e => eb b o hb e) f0 f1 f3 f4 f5⟩
  self := fun _ _ _ _ _ st h => wpAny_pyIter_tupleiter st h
theorem turn_range {P : Program} {w : World} {K : PySem.W.Frag} {tg : Expr} (it : Addr) (lo : Int) (n : Nat) : Turn P w K tg (Itr lo n) [it] it (fun i h => IsRangeIter h it (lo + (i : Nat) * 1) ((n : Int) - (i : Nat)) 1) where
  mem := by simp
  obj := fun i h st b hb => by
    have e : b = it := by simpa using hb
    subst e
    exact ⟨_, st, fun v z => by
      have z' : Data.fields _ = Data.cell v := z
      cases z'⟩
  keep := fun i h h' st k => k it (by simp) _ st
  item := by
    intro X hP hw hK hc i pins s σ H E I hf st hg
    subst hP hw hK
    obtain ⟨f0, f1, f2, f3, f4, f5⟩ := hf it (by simp)
    have W := Walks.range (prog := X.prog) (w := X.w) (I.ok.hd hc) it lo 1 n
    refine W.item i s _ _ hg st fun v h' tk hv st' kk => ?_
    obtain ⟨t, rfl⟩ := hv
    have I1 : Inv X pins σ H { s with heap := h', toks := tk } := I.turned (fun b o hb e => kk b o (by simpa using hb) e) f0 f1 f3 f4 f5
    refine ⟨_, rfl, go_of (s := { s with heap := h', toks := tk }) (n := "range_iterator") st' rfl rfl (by decide) ⟨.int (lo + i), H, I1, ⟨t, ?_⟩, ⟨rfl, rfl⟩, st', fun b hb => (hf b hb).1⟩⟩
    rw [Int.mul_one]
  done := by
    intro X hP hw hK hc i pins s σ H E I hf st hg
    subst hP hw hK
    obtain ⟨f0, f1, f2, f3, f4, f5⟩ := hf it (by simp)
    exact wpAny_pyNext_range_end (I.ok.hd hc) st (by have : n ≤ i := hg; omega) fun h' eb => ⟨rfl, I.turned (t' := s.toks) (fun b o hb e => eb b o hb e) f0 f1 f3 f4 f5⟩
  self := fun _ _ _ _ _ st h => wpAny_pyIter_rangeiter st h
end L2
namespace L2
open PySem PySem.Spec PyProof.Rows
section
variable {X : Cx} {tg : Expr}
def iList (K : PySem.W.Frag) (tl : TE) : TI := fun σ H R => tl σ H fun x H1 => ∃ a, x = .ref a ∧ (∃ xs, SqL K H1 a xs) ∧ R (Itl K a) H1
def iTup (K : PySem.W.Frag) (tl : TE) : TI := fun σ H R => tl σ H fun x H1 => ∃ a, x = .ref a ∧ (∃ xs, SqT K H1 a xs) ∧ R (Itt K a) H1
theorem pi_list {l : Expr} {tl : TE} (hl : PE X l tl) : PI X tg l (iList X.K tl) := by
  intro pins s σ H R I h
  refine thn (hl pins s σ H _ I h) fun v s1 ⟨x, H1, I1, r1, q1⟩ => ?_
  obtain ⟨a, e, ⟨xs, hq⟩, q⟩ := q1
  subst e
  cases r1
  obtain ⟨its, rv, p, hz⟩ := I1.list hq
  refine wpAny_pyIter_list p.isList ?_
  refine ⟨s1.heap.objs.size, [s1.heap.objs.size], _, _, H1, rfl, I1.kept (t' := s1.toks) fun b o e => Heap.get?_push_of_some _ e, turn_list a _, ⟨_, Heap.get?_push_size _ rfl, rfl, rfl⟩, fun b hb => ?_, q⟩
  have e : b = s1.heap.objs.size := by simpa using hb
  subst e
  exact I1.fpOk (Nat.le_refl _) (I1.hok.fresh (Nat.le_refl _))
theorem pi_tup {l : Expr} {tl : TE} (hl : PE X l tl) : PI X tg l (iTup X.K tl) := by
  intro pins s σ H R I h
  refine thn (hl pins s σ H _ I h) fun v s1 ⟨x, H1, I1, r1, q1⟩ => ?_
  obtain ⟨a, e, ⟨xs, hq⟩, q⟩ := q1
  subst e
  cases r1
  obtain ⟨its, rv, p, hz⟩ := I1.tuple hq
  refine wpAny_pyIter_tuple (show s1.heap.IsTuple a its.toArray from p) ?_
  refine ⟨s1.heap.objs.size, [s1.heap.objs.size], _, _, H1, rfl, I1.kept (t' := s1.toks) fun b o e => Heap.get?_push_of_some _ e, turn_tuple a _, ⟨_, Heap.get?_push_size _ rfl, rfl, rfl⟩, fun b hb => ?_, q⟩
  have e : b = s1.heap.objs.size := by simpa using hb
  subst e
  exact I1.fpOk (Nat.le_refl _) (I1.hok.fresh (Nat.le_refl _))
theorem range_it {pins : List (Addr × Obj)} {σ : St} {H : Hp} {s : Shared} {R : It → Hp → Prop} {E : Value → Shared → Prop} {lo hi : Int} {t u v : Tok} {tk : Nat} (I : Inv X pins σ H s) (h1 : -(2 ^ 62) ≤ lo) (h2 : lo < 2 ^ 62) (h3 : -(2 ^ 62) ≤ hi) (h4 : hi < 2 ^ 62)
    (q : R (Itr lo (hi - lo).toNat) H) : wpAny (model X.prog X.w) X.A (pyIter (.ref s.heap.objs.size)) (PIE X pins σ tg R) E { s with heap := s.heap.push { cls := .type "range", data := .fields #[.int lo t, .int hi u, .int 1 v] }, toks := tk } := by
  refine wpAny_pyIter_range (IsRange.new ..) (small_one h1 h2 h3 h4) ?_
  have I1 : Inv X pins σ H { s with heap := s.heap.push { cls := .type "range", data := .fields #[.int lo t, .int hi u, .int 1 v] }, toks := tk } := I.kept fun b o e => Heap.get?_push_of_some _ e
  refine ⟨(s.heap.push { cls := .type "range", data := .fields #[.int lo t, .int hi u, .int 1 v] }).objs.size, [(s.heap.push { cls := .type "range", data := .fields #[.int lo t, .int hi u, .int 1 v] }).objs.size], _, _, H, rfl,
    I1.kept (t' := tk) fun b o e => Heap.get?_push_of_some _ e, turn_range _ lo (hi - lo).toNat, ?_, fun b hb => ?_, q⟩
  · have e1 : lo + ((0 : Nat) : Int) * 1 = lo := by simp
    have e2 : (((hi - lo).toNat : Nat) : Int) - ((0 : Nat) : Int) = Builtin.Range.rangeSize lo hi 1 := by rw [rangeSize_one]; split <;> omega
    show IsRangeIter _ _ (lo + ((0 : Nat) : Int) * 1) ((((hi - lo).toNat : Nat) : Int) - ((0 : Nat) : Int)) 1
    rw [e1, e2]
    exact Heap.get?_push_size _ rfl
  · have e : b = (s.heap.push { cls := .type "range", data := .fields #[.int lo t, .int hi u, .int 1 v] }).objs.size := by simpa using hb
    subst e
    exact I1.fpOk (Nat.le_refl _) (I1.hok.fresh (Nat.le_refl _))
def iRng1 (ta : TA) : TI := fun σ H R => ta σ H fun vs H1 => ∃ j : Int, vs = [.int j] ∧ -(2 ^ 62) ≤ j ∧ j < 2 ^ 62 ∧ R (Itr 0 j.toNat) H1
def iRng2 (ta : TA) : TI := fun σ H R => ta σ H fun vs H1 => ∃ i j : Int, vs = [.int i, .int j] ∧ (-(2 ^ 62) ≤ i ∧ i < 2 ^ 62 ∧ -(2 ^ 62) ≤ j ∧ j < 2 ^ 62) ∧ R (Itr i (j - i).toNat) H1
theorem pi_range1 {a : Expr} {ta : TA} {p pos : Pos} (hg : Gl X "range") (hm : X.mg "range" = none) (ha : PA X [a] ta) (hs : starEach [a] X.env = [(false, eval a X.env)] := by rfl) : PI X tg (.Call (.Name "range" p) [a] [] pos) (iRng1 ta) := by
  intro pins s σ H R I h
  refine Call_ (ld_blt I hg hm boot_range (PyProof.Rows.callWith_type1 (thn (ha pos pins s σ H _ I h) fun us s1 ⟨vs, H1, I1, r1, q1⟩ => ?_) hs rfl))
  obtain ⟨j, e, q1, q2, q⟩ := q1
  subst e
  cases r1 with
  | cons r rr =>
    cases rr
    obtain ⟨t, rfl⟩ := r
    exact call_range_1 (range_it I1 (by omega) (by omega) q1 q2 (by simpa using q))
def tFor (wi : TI) (g : TG) (tb : TS) : TS := fun D σ H => wi σ H fun J H1 => ∃ W : Nat → Nat → St → Hp → Prop, (∃ m, W 0 m σ H1) ∧ ∀ i m σ H, W i m σ H →
  (J.stop i H ∧ D.nx σ H) ∨ (J.go i H ∧ ∃ N : St → Hp → Prop, (∀ σ' H', N σ' H' → ∃ m', m' < m ∧ W (i + 1) m' σ' H') ∧ ∀ x H', J.yld i H x H' → g x σ H' fun σ2 H2 => tb { D with nx := N, ct := N, bk := D.nx } σ2 H2)
def pinsAt (fp : List Addr) (h : Heap) : List (Addr × Obj) := fp.filterMap fun b => (h.get? b).map fun o => (b, o)
theorem mem_pinsAt {fp : List Addr} {h : Heap} {b : Addr} {o : Obj} (hb : b ∈ fp) (e : h.get? b = some o) : (b, o) ∈ pinsAt fp h := List.mem_filterMap.mpr ⟨b, hb, by rw [e]; rfl⟩
theorem of_pinsAt {fp : List Addr} {h : Heap} {p : Addr × Obj} (hp : p ∈ pinsAt fp h) : p.1 ∈ fp ∧ h.get? p.1 = some p.2 := by
  obtain ⟨b, hb, e⟩ := List.mem_filterMap.mp hp
  cases q : h.get? b with
  | none => rw [q] at e; cases e
  | some o =>
    rw [q] at e
    have e' : (b, o) = p := Option.some.inj e
    subst e'
    exact ⟨hb, q⟩
theorem Inv.pinned {pins : List (Addr × Obj)} {σ : St} {H : Hp} {s : Shared} {fp : List Addr} (I : Inv X pins σ H s) (hf : ∀ b ∈ fp, FpOk X pins H b) (ho : ∀ b ∈ fp, ∃ o, s.heap.get? b = some o ∧ ∀ v, o.data ≠ .cell v) : Inv X (pins ++ pinsAt fp s.heap) σ H s :=
  I.pins_of fun p hp => (List.mem_append.mp hp).elim (fun z => I.pin p (List.mem_append_right _ z)) fun z => by
    obtain ⟨hb, e⟩ := of_pinsAt z
    obtain ⟨f0, f1, f2, _⟩ := hf p.1 hb
    obtain ⟨o, e', d⟩ := ho p.1 hb
    rw [e] at e'; cases e'
    exact ⟨e, f0, f1, f2, d⟩
theorem Inv.unpinned {pins pl : List (Addr × Obj)} {σ : St} {H : Hp} {s : Shared} (I : Inv X (pins ++ pl) σ H s) : Inv X pins σ H s := I.pins_of fun p hp => I.pin p (List.mem_append_right _ (List.mem_append_left _ hp))
theorem ps_for {iter : Expr} {body : List Stmt} {wi : TI} {g : TG} {tb : TS} {pos : Pos} (hp : PassesOwn (model X.prog X.w) X.A X.env X.xe) (hc : X.calm = true) (hi : PI X tg iter wi) (hg : PG X tg g) (hb : PSs X body tb)
    (hs : ∀ x, foldedSetIterable iter X.env x = pure x := by intro _; rfl) : PS X (.For tg iter body [] pos) (tFor wi g tb) := by
  intro pins s σ H D I h
  refine wpAny_For (thn (hi pins s σ H _ I h) fun v s1 h1 => thn h1 fun itv s2 h2 => ?_) hs
  obtain ⟨it, fp, tn, J, H2, e, I2, T, st2, f2, W, ⟨m0, w0⟩, turn⟩ := h2
  subst e
  -- what stays true of the iterator's objects through the loop
  have stat : ∀ {H' : Hp}, (∀ b ∈ fp, H' b = none) → ∀ b ∈ fp, FpOk X pins H' b := fun hn b hb => ⟨hn b hb, (f2 b hb).2⟩
  refine codeAny_forLoop_any (fun n s' => ∃ i σ' H', Inv X pins σ' H' s' ∧ tn i s'.heap ∧ (∀ b ∈ fp, H' b = none) ∧ W i n σ' H') ?_ m0 ⟨0, σ, H2, I2, st2, fun b hb => (f2 b hb).1, w0⟩
  rintro n s3 ⟨i, σ3, H3, I3, st3, fr3, w3⟩
  rcases turn i n σ3 H3 w3 with ⟨stop, qn⟩ | ⟨go, N, hN, step⟩
  · refine wpAny_passesOwn hp (thn (T.done X rfl rfl rfl hc i pins s3 σ3 H3 X.xe I3 (stat fr3) st3 stop) fun r s4 ⟨hr, I4⟩ => ?_)
    subst hr
    exact wpAny_execs_nil ⟨σ3, H3, I4, qn⟩
  · refine wpAny_passesOwn hp (thn (T.item X rfl rfl rfl hc i pins s3 σ3 H3 X.xe I3 (stat fr3) st3 go) fun r s4 ⟨u, hr, h4⟩ => ?_)
    subst hr
    refine wpAny_passesOwn hp (thn h4 fun _ s5 ⟨x, H5, I5, r5, y5, st5, fr5⟩ => ?_)
    have I5' := I5.pinned (stat fr5) (T.obj _ _ st5)
    refine wpAny_passesOwn hp (thn (hg _ s5 σ3 H5 x u _ I5' r5 (step x H5 y5)) fun _ s6 ⟨σ6, H6, I6, q6⟩ => ?_)
    refine wpAny_passesOwn hp (thn (hb _ s6 σ6 H6 _ I6 q6) fun f s7 q7 => ?_)
    have again : ∀ {σ7 : St} {H7 : Hp}, Inv X (pins ++ pinsAt fp s5.heap) σ7 H7 s7 → N σ7 H7 → ∃ m, m < n ∧ ∃ i σ' H', Inv X pins σ' H' s7 ∧ tn i s7.heap ∧ (∀ b ∈ fp, H' b = none) ∧ W i m σ' H' := fun {σ7 H7} I7 n7 => by
      obtain ⟨m', hm, w7⟩ := hN σ7 H7 n7
      refine ⟨m', hm, i + 1, σ7, H7, I7.unpinned, T.keep _ _ _ st5 fun b hb o e => (I7.pin (b, o) (List.mem_append_right _ (List.mem_append_right _ (mem_pinsAt hb e)))).1, fun b hb => ?_, w7⟩
      obtain ⟨o, e, d⟩ := T.obj _ _ st5 b hb
      exact (I7.pin (b, o) (List.mem_append_right _ (List.mem_append_right _ (mem_pinsAt hb e)))).2.1
    cases f with
    | next => obtain ⟨σ7, H7, I7, n7⟩ := q7; exact again I7 n7
    | cont => obtain ⟨σ7, H7, I7, n7⟩ := q7; exact again I7 n7
    | brk => obtain ⟨σ7, H7, I7, q7⟩ := q7; exact ⟨σ7, H7, I7.unpinned, q7⟩
    | ret v => obtain ⟨x7, σ7, H7, I7, r7, q7⟩ := q7; exact ⟨x7, σ7, H7, I7.unpinned, r7, q7⟩
end
end L2
namespace L2
open PySem PySem.Spec PyProof.Rows
abbrev R2 := V → V → Hp → VK → Prop
def OpR (X : Cx) (f : Value → Value → Sem Value) (r : R2) : Prop :=
  ∀ (pins : List (Addr × Obj)) (s : Shared) (σ : St) (H : Hp) (x y : V) (v u : Value) (Q : VK), Inv X pins σ H s → RelV x v → RelV y u → r x y H Q →
    wpAny (model X.prog X.w) X.A (f v u) (EP X pins σ Q) X.xe s
def UnR (X : Cx) (f : Value → Sem Value) (r : V → Hp → VK → Prop) : Prop :=
  ∀ (pins : List (Addr × Obj)) (s : Shared) (σ : St) (H : Hp) (x : V) (v : Value) (Q : VK), Inv X pins σ H s → RelV x v → r x H Q →
    wpAny (model X.prog X.w) X.A (f v) (EP X pins σ Q) X.xe s
def CallR (X : Cx) (f : Value) (r : List V → Hp → VK → Prop) : Prop :=
  ∀ (pins : List (Addr × Obj)) (s : Shared) (σ : St) (H : Hp) (xs : List V) (us : List Value) (Q : VK), Inv X pins σ H s → Vals xs us → r xs H Q →
    wpAny (model X.prog X.w) X.A (call f us) (EP X pins σ Q) X.xe s
def TruR (X : Cx) (r : V → Hp → (Bool → Hp → Prop) → Prop) : Prop :=
  ∀ (pins : List (Addr × Obj)) (s : Shared) (σ : St) (H : Hp) (x : V) (v : Value) (Q : Bool → Hp → Prop), Inv X pins σ H s → RelV x v → r x H Q →
    wpAny (model X.prog X.w) X.A (truthy v) (TP X pins σ Q) X.xe s
def tOp (r : R2) (ta tb : TE) : TE := fun σ H Q => ta σ H fun x H1 => tb σ H1 fun y H2 => r x y H2 Q
def tUn (r : V → Hp → VK → Prop) (ta : TE) : TE := fun σ H Q => ta σ H fun x H1 => r x H1 Q
def rI (C : Int → Int → Prop) (g : Int → Int → V) : R2 := fun x y H Q => ∃ i j, x = .int i ∧ y = .int j ∧ C i j ∧ Q (g i j) H
def rI0 (g : Int → Int → V) : R2 := fun x y H Q => ∃ i j, x = .int i ∧ y = .int j ∧ Q (g i j) H
def rU (g : Int → V) : V → Hp → VK → Prop := fun x H Q => ∃ i, x = .int i ∧ Q (g i) H
section
variable {X : Cx} {a b c : Expr} {ta tb tc : TE} {pos : Pos}
theorem binT (ha : PE X a ta) (hb : PE X b tb) {pins : List (Addr × Obj)} {s : Shared} {σ : St} {H : Hp} {R : V → V → Hp → Prop} (I : Inv X pins σ H s)
    (h : ta σ H fun x H1 => tb σ H1 fun y H2 => R x y H2) {Q : Value → Shared → Prop} {f : Value → Value → Sem Value}
    (hf : ∀ v u s2 x y H2, Inv X pins σ H2 s2 → RelV x v → RelV y u → R x y H2 → wpAny (model X.prog X.w) X.A (f v u) Q X.xe s2) :
    wpAny (model X.prog X.w) X.A (eval a X.env) (fun v s₁ => wpAny (model X.prog X.w) X.A (eval b X.env) (fun u s₂ => wpAny (model X.prog X.w) X.A (f v u) Q X.xe s₂) X.xe s₁) X.xe s := by
  refine thn (ha pins s σ H _ I h) fun v s1 ⟨x, H1, I1, r1, q1⟩ => ?_
  refine thn (hb pins s1 σ H1 _ I1 q1) fun u s2 ⟨y, H2, I2, r2, q2⟩ => ?_
  exact hf v u s2 x y H2 I2 r1 r2 q2
theorem pe_op {op : Operator} {r : R2} (ho : OpR X (binaryOp op) r) (ha : PE X a ta) (hb : PE X b tb) : PE X (.BinOp a op b pos) (tOp r ta tb) := by
  intro pins s σ H Q I h
  exact wpAny_BinOp (binT ha hb I h fun v u s2 x y H2 I2 rx ry q => ho pins s2 σ H2 x y v u Q I2 rx ry q)
theorem pe_un {op : UnaryOp} {r : V → Hp → VK → Prop} (ho : UnR X (unaryOp op) r) (ha : PE X a ta) : PE X (.UnaryOp op a pos) (tUn r ta) := by
  intro pins s σ H Q I h
  exact UnaryOp_ (thn (ha pins s σ H _ I h) fun v s1 ⟨x, H1, I1, r1, q1⟩ => ho pins s1 σ H1 x v Q I1 r1 q1)
theorem opI {f : Value → Value → Sem Value} {C : Int → Int → Prop} {g : Int → Int → Int}
    (rule : ∀ (i j : Int) (t u : Tok) (s : Shared) (Q : Value → Shared → Prop) (E : Value → Shared → Prop), C i j → Q (.int (g i j) s.toks) { s with toks := s.toks + 1 } → wpAny (model X.prog X.w) X.A (f (.int i t) (.int j u)) Q E s) :
    OpR X f (rI C fun i j => .int (g i j)) := by
  intro pins s σ H x y v u Q I rx ry h
  obtain ⟨i, j, rfl, rfl, hc, q⟩ := h
  obtain ⟨t, rfl⟩ := rx
  obtain ⟨t', rfl⟩ := ry
  exact rule i j t t' s _ _ hc ⟨.int (g i j), H, I.tok _, ⟨_, rfl⟩, q⟩
theorem opI0 {f : Value → Value → Sem Value} {g : Int → Int → Int}
    (rule : ∀ (i j : Int) (t u : Tok) (s : Shared) (Q : Value → Shared → Prop) (E : Value → Shared → Prop), Q (.int (g i j) s.toks) { s with toks := s.toks + 1 } → wpAny (model X.prog X.w) X.A (f (.int i t) (.int j u)) Q E s) :
    OpR X f (rI0 fun i j => .int (g i j)) := by
  intro pins s σ H x y v u Q I rx ry h
  obtain ⟨i, j, rfl, rfl, q⟩ := h
  obtain ⟨t, rfl⟩ := rx
  obtain ⟨t', rfl⟩ := ry
  exact rule i j t t' s _ _ ⟨.int (g i j), H, I.tok _, ⟨_, rfl⟩, q⟩
theorem opB0 {f : Value → Value → Sem Value} {g : Int → Int → Bool}
    (rule : ∀ (i j : Int) (t u : Tok) (s : Shared) (Q : Value → Shared → Prop) (E : Value → Shared → Prop), Q (.bool (g i j)) s → wpAny (model X.prog X.w) X.A (f (.int i t) (.int j u)) Q E s) :
    OpR X f (rI0 fun i j => .bl (g i j)) := by
  intro pins s σ H x y v u Q I rx ry h
  obtain ⟨i, j, rfl, rfl, q⟩ := h
  obtain ⟨t, rfl⟩ := rx
  obtain ⟨t', rfl⟩ := ry
  exact rule i j t t' s _ _ ⟨.bl (g i j), H, I, rfl, q⟩
def CDiv (i j : Int) : Prop := 0 < j ∧ j < 1073741824
def CDivN (i j : Int) : Prop := j ≠ 0 ∧ j.natAbs < 1073741824
def CPow (i j : Int) : Prop := 0 ≤ j ∧ j ≤ 1000000 ∧ i.natAbs < 2 ^ 64
def CMul (i j : Int) : Prop := (-(2 ^ 64) < i ∧ i < 2 ^ 64) ∨ (-(2 ^ 64) < j ∧ j < 2 ^ 64)
theorem CMul.ok {i j : Int} (h : CMul i j) : IntMulOk i j := by
  rcases h with ⟨h1, h2⟩ | ⟨h1, h2⟩
  · exact .of_left (intBits_le_64 h1 h2)
  · exact .of_right (intBits_le_64 h1 h2)
theorem op_add : OpR X (binaryOp .Add) (rI0 fun i j => .int (i + j)) := opI0 fun _ _ _ _ _ _ _ q => add_int q
theorem op_sub : OpR X (binaryOp .Sub) (rI0 fun i j => .int (i - j)) := opI0 fun _ _ _ _ _ _ _ q => sub_int q
theorem op_modN : OpR X (binaryOp .Mod) (rI (fun _ j => j ≠ 0) fun i j => .int (i.fmod j)) := opI fun _ _ _ _ _ _ _ hc q => mod_int' hc q
theorem op_pow : OpR X (binaryOp .Pow) (rI CPow fun i j => .int (i ^ j.toNat)) := opI fun _ _ _ _ _ _ _ hc q => pow_int_small hc.1 hc.2.1 hc.2.2 q
theorem unI {f : Value → Sem Value} {g : Int → Int}
    (rule : ∀ (i : Int) (t : Tok) (s : Shared) (Q : Value → Shared → Prop) (E : Value → Shared → Prop), Q (.int (g i) s.toks) { s with toks := s.toks + 1 } → wpAny (model X.prog X.w) X.A (f (.int i t)) Q E s) :
    UnR X f (rU fun i => .int (g i)) := by
  intro pins s σ H x v Q I rx h
  obtain ⟨i, rfl, q⟩ := h
  obtain ⟨t, rfl⟩ := rx
  exact rule i t s _ _ ⟨.int (g i), H, I.tok _, ⟨_, rfl⟩, q⟩
theorem un_neg : UnR X (unaryOp .USub) (rU fun i => .int (-i)) := unI fun _ _ _ _ _ q => neg_int q
end
def scal : V → V → Bool
  | .non, .non => true | .non, .int _ => true | .int _, .non => true | .non, .bl _ => true | .bl _, .non => true | .non, .str _ => true | .str _, .non => true
  | .int _, .int _ => true | .bl _, .bl _ => true | .str _, .str _ => true | .byt _, .byt _ => true
  | .int _, .str _ => true | .str _, .int _ => true | .bl _, .str _ => true | .str _, .bl _ => true
  | _, _ => false
def rEq : R2 := fun x y H Q => scal x y = true ∧ Q (.bl (decide (x = y))) H
def rNe : R2 := fun x y H Q => scal x y = true ∧ Q (.bl (!decide (x = y))) H
section
variable {X : Cx} {a b c : Expr} {ta tb tc : TE} {pos : Pos}
theorem fin_bl {pins : List (Addr × Obj)} {σ : St} {H : Hp} {s : Shared} {Q : VK} {k k' : Bool} (I : Inv X pins σ H s) (q : Q (.bl k) H) (e : k = k') : EP X pins σ Q (.bool k') s := by
  subst e
  exact ⟨.bl k, H, I, rfl, q⟩
theorem op_lt : OpR X (compareOp .Lt) (rI0 fun i j => .bl (decide (i < j))) := opB0 fun _ _ _ _ _ _ _ q => lt_int q
theorem op_gt : OpR X (compareOp .Gt) (rI0 fun i j => .bl (decide (j < i))) := opB0 fun _ _ _ _ _ _ _ q => gt_int q
theorem op_isN : OpR X (compareOp .Is) (fun x y H Q => y = .non ∧ Q (.bl (decide (x = .non))) H) := by
  intro pins s σ H x y v u Q I rx ry h
  obtain ⟨rfl, q⟩ := h
  cases ry
  refine is_none_gen (fin_bl I q ?_)
  cases x <;> first
    | (cases rx; rfl)
    | (obtain ⟨t, rfl⟩ := rx; rfl)
theorem op_notN : OpR X (compareOp .IsNot) (fun x y H Q => y = .non ∧ Q (.bl (!decide (x = .non))) H) := by
  intro pins s σ H x y v u Q I rx ry h
  obtain ⟨rfl, q⟩ := h
  cases ry
  refine isnot_none_gen (fin_bl I q ?_)
  cases x <;> first
    | (cases rx; rfl)
    | (obtain ⟨t, rfl⟩ := rx; rfl)
def isObj : HO → Bool
  | .lst _ => true
  | .ins _ _ _ => true
  | _ => false
theorem OpR.or {f : Value → Value → Sem Value} {r r' : R2} (h : OpR X f r) (h' : OpR X f r') : OpR X f (fun x y H Q => r x y H Q ∨ r' x y H Q) := by
  intro pins s σ H x y v u Q I rx ry q
  rcases q with q | q
  · exact h pins s σ H x y v u Q I rx ry q
  · exact h' pins s σ H x y v u Q I rx ry q
theorem nomark (b : Expr) {op : CmpOp} (h : op ≠ .In := by decide) (h2 : op ≠ .NotIn := by decide) : behindInMarks op b = false := by
  have e1 : (op == CmpOp.In) = false := by cases op <;> first | rfl | exact absurd rfl h
  have e2 : (op == CmpOp.NotIn) = false := by cases op <;> first | rfl | exact absurd rfl h2
  cases b <;> simp [behindInMarks, e1, e2]
theorem pe_cmpR {op : CmpOp} {r : R2} (ho : OpR X (compareOp op) r) (ha : PE X a ta) (hb : PE X b tb) (hm : behindInMarks op b = false) : PE X (.Compare a [op] [b] pos) (tOp r ta tb) := by
  intro pins s σ H Q I h
  exact wpAny_Compare1 (binT ha hb I h fun v u s2 x y H2 I2 rx ry q => ho pins s2 σ H2 x y v u Q I2 rx ry q) hm
def tTest (t : TE) : TT := fun σ H Q => t σ H fun x H' => ∃ k, x = .bl k ∧ Q k H'
theorem pt_cmpR {op : CmpOp} {r : R2} (ho : OpR X (compareOp op) r) (ha : PE X a ta) (hb : PE X b tb) (hm : behindInMarks op b = false) : PT X (.Compare a [op] [b] pos) (tTest (tOp r ta tb)) := by
  intro pins s σ H Q I h
  refine wpAny_isTrue_Compare1 (thn (ha pins s σ H _ I h) fun v s1 ⟨x, H1, I1, r1, q1⟩ => thn (hb pins s1 σ H1 _ I1 q1) fun u s2 ⟨y, H2, I2, r2, q2⟩ =>
    thn (ho pins s2 σ H2 x y v u _ I2 r1 r2 q2) fun c s3 ⟨z, H3, I3, r3, k, e, q3⟩ => ?_) hm
  subst e
  cases r3
  exact wpAny_truthy_bool ⟨H3, I3, q3⟩
def tChain (r r' : R2) (ta tb tc : TE) : TE := fun σ H Q => ta σ H fun x H1 => tb σ H1 fun y H2 => r x y H2 fun z H3 => ∃ k, z = .bl k ∧
  (if k = true then tc σ H3 fun w' H4 => r' y w' H4 Q else Q (.bl false) H3)
def TruV (K : PySem.W.Frag) (x : V) (H : Hp) (k : Bool) : Prop :=
  match x with
  | .non => k = false
  | .bl b => k = b
  | .int i => k = (i != 0)
  | .str y => y.length ≤ sizeLine ∧ k = ((y.length : Int) != 0)
  | .byt y => y.size ≤ sizeLine ∧ k = ((y.size : Int) != 0)
  | .ref p => (∃ xs, SqL K H p xs ∧ k = !xs.isEmpty) ∨ (∃ xs, SqT K H p xs ∧ k = !xs.isEmpty) ∨ ∃ kvs, H p = some (.dK kvs) ∧ k = !kvs.isEmpty
  | _ => False
theorem line63 : (sizeLine : Nat) < 2 ^ 63 := by rw [sizeLine_eq]; decide
theorem op_add_str : OpR X (binaryOp .Add) (fun x y H Q => ∃ i j, x = .str i ∧ y = .str j ∧ i.length + j.length ≤ sizeLine ∧ Q (.str (i ++ j)) H) := by
  intro pins s σ H x y v u Q I rx ry h
  obtain ⟨i, j, rfl, rfl, hz, q⟩ := h
  obtain ⟨t, rfl⟩ := rx
  obtain ⟨t', rfl⟩ := ry
  exact add_str (fun t' tk => ⟨.str (i ++ j), H, I.tok _, ⟨_, rfl⟩, q⟩) hz
def PlainIxT (b : Expr) : Prop := ∀ o i, subscripted b false o i = operate [o, i] (getItem o i)
theorem vals1 {x : V} {us : List Value} (r : Vals [x] us) : ∃ u, us = [u] ∧ RelV x u := by
  cases r with
  | cons r1 r2 => cases r2; exact ⟨_, rfl, r1⟩
theorem vals2 {x y : V} {us : List Value} (r : Vals [x, y] us) : ∃ u w', us = [u, w'] ∧ RelV x u ∧ RelV y w' := by
  cases r with
  | cons r1 r2 =>
    cases r2 with
    | cons r3 r4 => cases r4; exact ⟨_, _, rfl, r1, r3⟩
theorem call_abs : CallR X (.builtin "abs") (fun xs H Q => ∃ i, xs = [.int i] ∧ Q (.int (if i < 0 then -i else i)) H) := by
  intro pins s σ H xs us Q I r h
  obtain ⟨i, rfl, q⟩ := h
  obtain ⟨u, rfl, t, rfl⟩ := vals1 r
  exact call_abs_int fun u tk => ⟨.int (if i < 0 then -i else i), H, I.tok _, ⟨_, rfl⟩, q⟩
theorem call_max2 (hc : X.calm = true) : CallR X (.builtin "max") (fun xs H Q => ∃ i j, xs = [.int i, .int j] ∧ Q (.int (if j > i then j else i)) H) := by
  intro pins s σ H xs us Q I r h
  obtain ⟨i, j, rfl, q⟩ := h
  obtain ⟨u, w', rfl, ⟨t, rfl⟩, ⟨t', rfl⟩⟩ := vals2 r
  refine max_two_ints (I.ok.hd hc) fun h' tk k => ⟨_, H, I.kept k, ?_, q⟩
  by_cases hj : j > i
  · rw [if_pos hj, if_pos hj]; exact ⟨_, rfl⟩
  · rw [if_neg hj, if_neg hj]; exact ⟨_, rfl⟩
theorem call_min2 (hc : X.calm = true) : CallR X (.builtin "min") (fun xs H Q => ∃ i j, xs = [.int i, .int j] ∧ Q (.int (if j < i then j else i)) H) := by
  intro pins s σ H xs us Q I r h
  obtain ⟨i, j, rfl, q⟩ := h
  obtain ⟨u, w', rfl, ⟨t, rfl⟩, ⟨t', rfl⟩⟩ := vals2 r
  refine min_two_ints (I.ok.hd hc) fun h' tk k => ⟨_, H, I.kept k, ?_, q⟩
  by_cases hj : j < i
  · rw [if_pos hj, if_pos hj]; exact ⟨_, rfl⟩
  · rw [if_neg hj, if_neg hj]; exact ⟨_, rfl⟩
def LenV (K : PySem.W.Frag) (x : V) (H : Hp) (n : Nat) : Prop :=
  match x with
  | .str y => y.length ≤ sizeLine ∧ n = y.length
  | .byt y => y.size ≤ sizeLine ∧ n = y.size
  | .ref p => (∃ xs, SqL K H p xs ∧ n = xs.length) ∨ ∃ xs, SqT K H p xs ∧ n = xs.length
  | _ => False
end
end L2
namespace L2
open PySem PySem.Spec PyProof.Rows
structure ObjM (h : Heap) (x dx C : Addr) (mA : Str → Option Value) : Prop where
  obj : h.get? x = some (PySem.W.instObj C dx)
  ns : h.Ns1 dx mA
  ne : dx ≠ x
theorem lookIn_ns {h : Heap} {dx : Addr} {mA : Str → Option Value} (n : h.Ns1 dx mA) : ∃ od, h.get? dx = some od ∧ ∀ name, PySem.W.lookIn name od = some (mA name) := by
  obtain ⟨o, es, ep, ho, hd, hk, _, hm⟩ := n
  refine ⟨o, ho, fun name => ?_⟩
  have e := hm name
  unfold nsFind findBy at e
  rw [← Array.find?_toList] at e
  unfold PySem.W.lookIn
  rw [hd]
  dsimp only
  split
  · rename_i y q
    rw [q] at e
    exact congrArg some e
  · rename_i q
    rw [q] at e
    have a : es.toList.any (·.refKey) = false := by
      rw [List.any_eq_false]
      intro y hy
      obtain ⟨z, t, hkey⟩ := hk y (Array.mem_toList_iff.mp hy)
      simp [DictEntry.refKey, hkey]
    have a' : ¬ es.toList.any (·.refKey) = true := by rw [a]; exact Bool.false_ne_true
    rw [if_neg a']
    exact congrArg some e
theorem ObjM.look {h : Heap} {x dx C : Addr} {mA : Str → Option Value} (I : ObjM h x dx C mA) : ∃ od, PySem.W.InstAt h x (PySem.W.instObj C dx) C (some od) ∧ ∀ name, PySem.W.lookIn name od = some (mA name) :=
  let ⟨od, ho, hl⟩ := lookIn_ns I.ns
  ⟨od, ⟨I.obj, rfl, rfl, ho⟩, hl⟩
section
variable {prog : Program} {w : World} {A : Around} {E : Value → Shared → Prop} {s : Shared} {K : PySem.W.Frag} {x dx C f : Addr} {mA : Str → Option Value} {name : Str} {v : Value}
theorem get_map {expr : Bool} {Q : Value → Shared → Prop} (X : K.In s.heap) (I : ObjM s.heap x dx C mA) (hg : PySem.W.plainGet K C name = true) (hh : PySem.W.hasDictIn K C = true)
    (ha : PySem.W.findIn K (.ref C) name = some none) (hv : mA name = some v) (hv' : PySem.W.handedIn v = true) (h : Q v { s with toks := s.toks + 1 }) :
    wpAny (model prog w) A (getAttr (.ref x) name expr) Q E s := by
  obtain ⟨od, J, hl⟩ := I.look
  exact PySem.W.get_value X J (PySem.W.plainGet_of hg).1 (PySem.W.findObj_own hh ha rfl (by rw [hl, hv])) hv' h
theorem set_map {ns : List Str} {Q : Unit → Shared → Prop} (X : K.In s.heap) (I : ObjM s.heap x dx C mA)
    (hs : PySem.W.findIn K (.ref C) "__setattr__" = some (some (.builtin "object.__setattr__"))) (hp : PySem.W.plainOver K C = true) (ht : PySem.W.takerIn K C name = some none) (hh : PySem.W.hasDictIn K C = true)
    (hw : PySem.Within mA ns) (hsz : ns.length ≤ sizeLine)
    (h : ∀ h', ObjM h' x dx C (fun y => if y = name then some v else mA y) → Heap.SameBut dx s.heap h' → Q () { s with heap := h', toks := s.toks + 2 }) :
    wpAny (model prog w) A (setAttr (.ref x) name v) Q E s := by
  obtain ⟨od, J, hl⟩ := I.look
  refine PySem.W.set_plain X J hs (PySem.W.osa_open (s := { s with toks := s.toks + 1 }) (r := none) X J hp ht fun b => ?_)
  obtain ⟨cd, hc, hd'⟩ := PySem.W.any_some hh
  have hx : s.heap.get? x = some ⟨.ref C, some dx, .plain, #[]⟩ := I.obj
  refine wpAny_bind (wpAny_pure (wpAny_bind (wpAny_bind (wpAny_loadPart hx (wpAny_bind (PySem.W.Looks.here (s := { s with toks := s.toks + 1 }) (PySem.W.looks_clsIn X hc) ?_))))))
  rw [hd']
  refine wpAny_pure (a := some dx) (wpAny_bind (wpAny_pure (wpAny_bind ?_)))
  refine wpAny_nsSet1 (s := { s with toks := s.toks + 1 }) I.ns fun h' hn2 hs2 => ?_
  obtain ⟨oD, esD, epD, hoD, hdD, hcD⟩ := hn2.count (PySem.Within.cons name v hw)
  refine wpAny_bind (wpAny_lookBehind hoD (by rw [hdD]; exact pastItsLine_dict (Nat.le_trans hcD (by rw [List.length_cons]; omega))) ?_)
  exact wpAny_pure (h _ ⟨(hs2.2 _ (Ne.symm I.ne)).trans I.obj, hn2, I.ne⟩ hs2)
theorem make_map {R : Result → Shared → Prop} {vs : List Value} {kw : List (Str × Value)} (X : K.In s.heap) (hm : PySem.W.makesIn K C = true)
    (hi : PySem.W.findIn K (.ref C) "__init__" = some (some (.ref f))) (hf : PySem.W.typeIn K (.ref f) = some (.type "function"))
    (h : codeAny (model prog w) (A.under (.builtin "type.__call__" ⟨.ref C :: vs, kw⟩)) (.call (.ref f) ⟨.ref (s.heap.objs.size + 1) :: vs, kw⟩) (PySem.W.InitBack (s.heap.objs.size + 1) R)
      { s with heap := (s.heap.push PySem.W.emptyDict).push (PySem.W.instObj C s.heap.objs.size) }) :
    codeAny (model prog w) A (.call (.ref C) ⟨vs, kw⟩) R s := by
  obtain ⟨hh, g, d, t, os⟩ := s
  exact PySem.W.make_core (PySem.W.makes_of X hm) (PySem.W.looks_findIn X hi) (fun self => PySem.W.bind_fn X self hf) (.inl rfl) h
end
def putF (f : Str) (v : V) : List (Str × V) → List (Str × V)
  | [] => [(f, v)]
  | (g, x) :: r => if g = f then (g, v) :: r else (g, x) :: putF f v r
theorem lookup_putF (f g : Str) (v : V) : ∀ fs : List (Str × V), (putF f v fs).lookup g = if g = f then some v else fs.lookup g
  | [] => by
    show List.lookup g [(f, v)] = _
    by_cases h : g = f
    · have hb : (g == f) = true := beq_iff_eq.mpr h
      simp only [List.lookup, hb, if_pos h]
    · have hb : (g == f) = false := beq_eq_false_iff_ne.mpr h
      simp only [List.lookup, hb, if_neg h]
  | (k, x) :: r => by
    have ih := lookup_putF f g v r
    rw [show putF f v ((k, x) :: r) = (if k = f then (k, v) :: r else (k, x) :: putF f v r) from rfl]
    by_cases hk : k = f
    · rw [if_pos hk]
      by_cases h : g = k
      · have hb : (g == k) = true := beq_iff_eq.mpr h
        simp only [List.lookup, hb, if_pos (h.trans hk)]
      · have hb : (g == k) = false := beq_eq_false_iff_ne.mpr h
        simp only [List.lookup, hb, if_neg (fun e : g = f => h (e.trans hk.symm))]
    · rw [if_neg hk]
      by_cases h : g = k
      · have hb : (g == k) = true := beq_iff_eq.mpr h
        simp only [List.lookup, hb, if_neg (fun e : g = f => hk (h.symm.trans e))]
      · have hb : (g == k) = false := beq_eq_false_iff_ne.mpr h
        simp only [List.lookup, hb]
        exact ih
theorem keys_putF (f : Str) (v : V) : ∀ fs : List (Str × V), f ∈ (putF f v fs).map (·.1) ∧ ∀ g, g ∈ fs.map (·.1) → g ∈ (putF f v fs).map (·.1)
  | [] => ⟨by simp [putF], fun g h => by simp at h⟩
  | (k, x) :: r => by
    obtain ⟨i1, i2⟩ := keys_putF f v r
    rw [show putF f v ((k, x) :: r) = (if k = f then (k, v) :: r else (k, x) :: putF f v r) from rfl]
    by_cases hk : k = f
    · rw [if_pos hk]
      subst hk
      exact ⟨by simp, fun g h => by simpa using h⟩
    · rw [if_neg hk]
      refine ⟨?_, fun g h => ?_⟩
      · rw [List.map_cons]
        exact List.mem_cons_of_mem _ i1
      · rw [List.map_cons] at h ⊢
        rcases List.mem_cons.mp h with e | e
        · exact List.mem_cons.mpr (.inl e)
        · exact List.mem_cons_of_mem _ (i2 g e)
theorem length_putF (f : Str) (v : V) : ∀ fs : List (Str × V), (putF f v fs).length ≤ fs.length + 1
  | [] => by simp [putF]
  | (k, x) :: r => by
    have ih := length_putF f v r
    rw [show putF f v ((k, x) :: r) = (if k = f then (k, v) :: r else (k, x) :: putF f v r) from rfl]
    by_cases hk : k = f
    · rw [if_pos hk, List.length_cons, List.length_cons]; omega
    · rw [if_neg hk, List.length_cons, List.length_cons]; omega
theorem RelO.some_of {v : V} {o : Option Value} (r : RelO (some v) o) : ∃ u, o = some u ∧ RelV v u := by
  cases o with
  | none => exact (show False from r).elim
  | some u => exact ⟨u, rfl, r⟩
theorem handed_of {v : V} {u : Value} (r : RelV v u) : PySem.W.handedIn u = true := by
  cases v with
  | non => cases (show u = Value.none from r); rfl
  | bl b => cases (show u = Value.bool b from r); rfl
  | int i => obtain ⟨t, e⟩ := (show ∃ t, u = Value.int i t from r); cases e; rfl
  | str x => obtain ⟨t, e⟩ := (show ∃ t, u = Value.str x t from r); cases e; rfl
  | byt b => obtain ⟨t, e⟩ := (show ∃ t, u = Value.bytes b t from r); cases e; rfl
  | flt b => obtain ⟨t, e⟩ := (show ∃ t, u = Value.float b t from r); cases e; rfl
  | ref a => cases (show u = Value.ref a from r); rfl
  | ty n => cases (show u = Value.type n from r); rfl
section
variable {P : Program} {w : World} {H H' : Hp} {h h' : Heap} {a C dx : Addr} {fs fs' : List (Str × V)}
theorem ins_get (hok : HOk P w H h) (e : H a = some (.ins C dx fs)) : ∃ mA, ObjM h a dx C mA ∧ (∀ f, RelO (fs.lookup f) (mA f)) ∧ PySem.Within mA (fs.map (·.1)) ∧ fs.length ≤ 1000 ∧ H dx = some (.own a) := by
  obtain ⟨d, z, ne, ob, mA, n, r, q⟩ := (show ObjOk P w H h a (.ins C dx fs) from hok a _ e)
  exact ⟨mA, ⟨ob, n, ne⟩, r, q, z, d⟩
end
structure Cls (K : PySem.W.Frag) (C : Addr) : Prop where
  pg : PySem.W.plainGet K C Str.empty = true
  hd : PySem.W.hasDictIn K C = true
  po : PySem.W.plainOver K C = true
  sa : PySem.W.findIn K (.ref C) "__setattr__" = some (some (.builtin "object.__setattr__"))
theorem Cls.get {K : PySem.W.Frag} {C : Addr} (c : Cls K C) (f : Str) : PySem.W.plainGet K C f = true := c.pg
def NoAttr (K : PySem.W.Frag) (C : Addr) (f : Str) : Prop := PySem.W.findIn K (.ref C) f = some none
theorem NoAttr.taker {K : PySem.W.Frag} {C : Addr} {f : Str} (n : NoAttr K C f) : PySem.W.takerIn K C f = some none := by
  unfold PySem.W.takerIn
  rw [show PySem.W.findIn K (.ref C) f = some none from n]
  rfl
structure Con (K : PySem.W.Frag) (C : Addr) (f : Str) (v : V) (u : Value) : Prop where
  at_ : PySem.W.findIn K (.ref C) f = some (some u)
  rel : RelV v u
  get : PySem.W.specialIn K u "__get__" = some none
  cp : PySem.W.copiedNames.contains f = false
structure Meth (K : PySem.W.Frag) (C : Addr) (m : Str) (f : Addr) : Prop where
  at_ : PySem.W.findIn K (.ref C) m = some (some (.ref f))
  fn : PySem.W.isFn K (.ref f) = true
  kp : PySem.W.keepIn K (.ref f) = true
section
variable {X : Cx} {pins : List (Addr × Obj)} {σ : St} {H : Hp} {s : Shared} {a C dx : Addr} {fs : List (Str × V)} {f : Str} {v : V} {A : Around} {E : Value → Shared → Prop}
theorem getattr_ok {b : Bool} {Q : Value → Shared → Prop} (I : Inv X pins σ H s) (e : H a = some (.ins C dx fs)) (c : Cls X.K C) (n : NoAttr X.K C f) (l : fs.lookup f = some v)
    (h : ∀ u s', Inv X pins σ H s' → RelV v u → Q u s') : wpAny (model X.prog X.w) A (getAttr (.ref a) f b) Q E s := by
  obtain ⟨mA, O, r, _, _, _⟩ := ins_get I.hok e
  obtain ⟨u, hu, ru⟩ := RelO.some_of (v := v) (o := mA f) (by rw [← l]; exact r f)
  exact get_map I.kIn O (c.get f) c.hd n hu (handed_of ru) (h u _ (I.tok _) ru)
theorem setattr_ok {y : V} {u : Value} {Q : Unit → Shared → Prop} (I : Inv X pins σ H s) (e : H a = some (.ins C dx fs)) (c : Cls X.K C) (n : NoAttr X.K C f) (hl : fs.length < 1000) (ry : RelV y u)
    (h : ∀ s', Inv X pins σ (upd H a (.ins C dx (putF f y fs))) s' → Q () s') : wpAny (model X.prog X.w) A (setAttr (.ref a) f u) Q E s := by
  obtain ⟨mA, O, r, wi, _, ho⟩ := ins_get I.hok e
  have hz : (fs.map (·.1)).length ≤ sizeLine := by rw [List.length_map, sizeLine_eq]; omega
  refine set_map I.kIn O c.sa c.po n.taker c.hd wi hz fun h' O' sb => h _ ?_
  have hd : ∃ o, h'.get? dx = some o := let ⟨o, _, _, e', _⟩ := O'.ns; ⟨o, e'⟩
  refine I.write (x := a) (e := dx) (by rw [e]; exact True.intro) (.inr ho) (fun b q hb z => (sb.2 b hb).trans z) hd ?_
  refine ⟨by rw [upd_ne O.ne]; exact ho, ?_, O.ne, O'.obj, _, O'.ns, fun g => ?_, fun g hg => ?_⟩
  · have := length_putF f y fs; omega
  · show RelO ((putF f y fs).lookup g) (if g = f then some u else mA g)
    rw [lookup_putF]
    by_cases q : g = f
    · rw [if_pos q, if_pos q]; exact ry
    · rw [if_neg q, if_neg q]; exact r g
  · by_cases q : g = f
    · rw [q]; exact (keys_putF f y fs).1
    · refine (keys_putF f y fs).2 g (wi g fun z => hg ?_)
      show (if g = f then some u else mA g) = none
      rw [if_neg q]; exact z
theorem Inv.made (I : Inv X pins σ H s) : Inv X pins σ (upd (upd H s.heap.objs.size (.own (s.heap.objs.size + 1))) (s.heap.objs.size + 1) (.ins C s.heap.objs.size []))
    { s with heap := (s.heap.push PySem.W.emptyDict).push (PySem.W.instObj C s.heap.objs.size) } := by
  have e1 : (s.heap.push PySem.W.emptyDict).get? s.heap.objs.size = some PySem.W.emptyDict := Heap.get?_push_size s.heap rfl
  have e2 : ((s.heap.push PySem.W.emptyDict).push (PySem.W.instObj C s.heap.objs.size)).get? (s.heap.objs.size + 1) = some (PySem.W.instObj C s.heap.objs.size) := by
    have := Heap.get?_push_size (s.heap.push PySem.W.emptyDict) (o := PySem.W.instObj C s.heap.objs.size) rfl
    rwa [Heap.size_push] at this
  have e3 : (s.heap.push PySem.W.emptyDict).Ns s.heap.objs.size (fun _ => none) := ⟨PySem.W.emptyDict, #[], _, e1, rfl, (fun e he => absurd he (by simp)), fun _ => rfl⟩
  have I1 := I.laid (a := s.heap.objs.size) (o := .own (s.heap.objs.size + 1)) (h' := s.heap.push PySem.W.emptyDict) (t' := s.toks) (fun b u q => Heap.get?_push_of_some _ q) (Nat.le_refl _) ⟨_, e1⟩
  refine I1.laid (a := s.heap.objs.size + 1) (o := .ins C s.heap.objs.size []) (t' := s.toks) (fun b u q => Heap.get?_push_of_some _ q) (Nat.le_of_eq (Heap.size_push _ _)) ?_
  have ne : s.heap.objs.size ≠ s.heap.objs.size + 1 := Nat.ne_of_lt (Nat.lt_succ_self _)
  refine ⟨by rw [upd_ne ne, upd_same], Nat.zero_le _, ne, e2, fun _ => none, (Heap.Ns1.of_empty e3).at fun o q => Heap.get?_push_of_some _ q, fun _ => True.intro, fun y hy => absurd rfl hy⟩
theorem attr_of {prog : Program} {w : World} {env : Env} {e : Expr} {f : Str} {pos : Pos} {s : Shared} {Q : Value → Shared → Prop} (hb : attributeBase e f env (eval e env) = eval e env)
    (h : wpAny (model prog w) A (eval e env) (fun o s₁ => wpAny (model prog w) A (getAttr o f true) Q E s₁) E s) : wpAny (model prog w) A (eval (.Attribute e f pos) env) Q E s :=
  Attribute_any_ h (by rw [arm_eval_Attribute, hb])
end
def tFld (K : PySem.W.Frag) (ta : TE) (f : Str) : TE := fun σ H Q => ta σ H fun x H1 => ∃ a C dx fs v, x = .ref a ∧ H1 a = some (.ins C dx fs) ∧ Cls K C ∧ NoAttr K C f ∧ fs.lookup f = some v ∧ Q v H1
def tCon (K : PySem.W.Frag) (ta : TE) (f : Str) : TE := fun σ H Q => ta σ H fun x H1 => ∃ a C dx fs v u, x = .ref a ∧ H1 a = some (.ins C dx fs) ∧ Cls K C ∧ Con K C f v u ∧ fs.lookup f = none ∧ Q v H1
def sFld (K : PySem.W.Frag) (ta tv : TE) (f : Str) : TS := fun D σ H => tv σ H fun y H1 => ta σ H1 fun x H2 => ∃ a C dx fs, x = .ref a ∧ H2 a = some (.ins C dx fs) ∧ Cls K C ∧ NoAttr K C f ∧ fs.length < 1000 ∧
  D.nx σ (upd H2 a (.ins C dx (putF f y fs)))
def InOp (X : Cx) (op : Operator) (rd : V → V → Hp → VK → Prop) : Prop :=
  ∀ (pins : List (Addr × Obj)) (s : Shared) (σ : St) (H : Hp) (x y : V) (u v : Value) (Q : VK), Inv X pins σ H s → RelV x u → RelV y v → rd x y H Q → wpAny (model X.prog X.w) X.A (inplaceOp op u v) (EP X pins σ Q) X.xe s
def sFldAug (K : PySem.W.Frag) (ta tv : TE) (rd : V → V → Hp → VK → Prop) (f : Str) : TS := fun D σ H => ta σ H fun x H1 => ∃ a C dx fs v, x = .ref a ∧ H1 a = some (.ins C dx fs) ∧ Cls K C ∧ NoAttr K C f ∧ fs.lookup f = some v ∧
  tv σ H1 fun y H2 => rd v y H2 fun z H3 => ∃ dx' fs', H3 a = some (.ins C dx' fs') ∧ fs'.length < 1000 ∧ D.nx σ (upd H3 a (.ins C dx' (putF f z fs')))
section
variable {X : Cx} {o e value : Expr} {f : Str} {pos pos' tpos : Pos} {ta tv : TE}
theorem pe_fld (he : PE X e ta) (hb : attributeBase e f X.env (eval e X.env) = eval e X.env) : PE X (.Attribute e f pos) (tFld X.K ta f) := by
  intro pins s σ H Q I h
  refine attr_of hb (thn (he pins s σ H _ I h) fun u s1 ⟨x, H1, I1, rx, a, C, dx, fs, v, ex, ea, c, n, l, q⟩ => ?_)
  subst ex
  obtain rfl : u = Value.ref a := rx
  exact getattr_ok I1 ea c n l fun u' s2 I2 ru => ⟨v, H1, I2, ru, q⟩
theorem ps_fld (ha : PE X o ta) (hv : PE X value tv) (hs : swapsWith value (some (.Attribute o f pos')) pos.line X.env = pure false) : PS X (.Assign [.Attribute o f pos'] value pos) (sFld X.K ta tv f) := by
  intro pins s σ H D I h
  refine plainObj_wpAny_Assign_Attribute (thn (hv pins s σ H _ I h) fun u s1 ⟨y, H1, I1, ry, q⟩ => thn (ha pins s1 σ H1 _ I1 q) fun ov s2 ⟨x, H2, I2, rx, a, C, dx, fs, ex, ea, c, n, l, q2⟩ => ?_) hs
  subst ex
  obtain rfl : ov = Value.ref a := rx
  exact setattr_ok I2 ea c n l ry fun s3 I3 => ⟨σ, _, I3, q2⟩
def rAdd : V → V → Hp → VK → Prop := fun x y H Q => ∃ i j, x = .int i ∧ y = .int j ∧ Q (.int (i + j)) H
def rSub : V → V → Hp → VK → Prop := fun x y H Q => ∃ i j, x = .int i ∧ y = .int j ∧ Q (.int (i - j)) H
end
section
variable {X : Cx} {pins : List (Addr × Obj)} {σ : St} {H : Hp} {s : Shared} {A : Around} {E : Value → Shared → Prop} {Q : Value → Shared → Prop} {c : Value} {b : Bool}
inductive TyOf (K : PySem.W.Frag) (H : Hp) : V → Value → Prop where
  | non : TyOf K H .non (.type "NoneType")
  | bl (x : Bool) : TyOf K H (.bl x) (.type "bool")
  | int (i : Int) : TyOf K H (.int i) (.type "int")
  | str (x : Str) : TyOf K H (.str x) (.type "str")
  | flt (x : UInt64) : TyOf K H (.flt x) (.type "float")
  | lst {a : Addr} {xs : List V} (e : H a = some (.lst xs)) : TyOf K H (.ref a) (.type "list")
  | frz {a : Addr} {o : Obj} {xs : List V} (e : H a = some (.frz o (.lst xs))) : TyOf K H (.ref a) (.type "list")
  | tup {a : Addr} {xs : List V} (e : H a = some (.tup xs)) : TyOf K H (.ref a) (.type "tuple")
  | dK {a : Addr} {kvs : List (Key × V)} (e : H a = some (.dK kvs)) : TyOf K H (.ref a) (.type "dict")
  | dT {a : Addr} {kvs : List (List Key × V)} (e : H a = some (.dT kvs)) : TyOf K H (.ref a) (.type "dict")
  | ins {a C dx : Addr} {fs : List (Str × V)} (e : H a = some (.ins C dx fs)) (cl : Cls K C) (ha : PySem.W.findIn K (.ref C) "__class__" = some (some (.builtin "object.__class__")))
      (hn : PySem.W.specialIn K (.builtin "object.__class__") "__get__" = some (some (.builtin "getset_descriptor.__get__"))) (htk : PySem.W.takesIn K (.builtin "object.__class__") = some true)
      (hm : PySem.W.mroIn K C (.type "object") = some true) : TyOf K H (.ref a) (.ref C)
end
end L2
namespace L2
open PySem PySem.Spec PyProof.Rows
structure Room (k : Nat) (A : Around) : Prop where
  hd : A.handled = none
  dp : A.depth + 3 * k + 5 < recursionLimit
  un : A.units + 16 * k + 200 < cLine
theorem Room.mono {j k : Nat} {A : Around} (r : Room k A) (h : j ≤ k) : Room j A := ⟨r.hd, by have := r.dp; omega, by have := r.un; omega⟩
theorem Room.deeper {k : Nat} {A : Around} (r : Room (k + 1) A) (env : Env) : Room k (A.deeper env) :=
  ⟨r.hd, by have := r.dp; show A.depth + 1 + 3 * k + 5 < _; omega, by have := r.un; show A.units + 3 + 16 * k + 200 < _; omega⟩
theorem Room.in1 {k : Nat} {A : Around} (r : Room (k + 1) A) : Room k A.in1 :=
  ⟨r.hd, by have := r.dp; show A.depth + 3 * k + 5 < _; omega, by have := r.un; show A.units + 1 + 16 * k + 200 < _; omega⟩
theorem make_depth {A : Around} {C : Addr} {us : List Value} {kw : List (Str × Value)} : (A.under (.builtin "type.__call__" ⟨.ref C :: us, kw⟩)).depth = A.depth + 1 := by
  first | rfl | simp [Around.under, Code.weight, Code.isCreation, Code.isGuard, Code.isCaller, Code.frames, Code.isFrame, guardIds]
theorem make_units {A : Around} {C : Addr} {us : List Value} {kw : List (Str × Value)} : (A.under (.builtin "type.__call__" ⟨.ref C :: us, kw⟩)).units = A.units + 1 := by
  first | rfl | simp [Around.under, Code.cUnits, Code.frames, Code.isFrame]
theorem Room.make {k : Nat} {A : Around} (r : Room (k + 1) A) (C : Addr) (us : List Value) (kw : List (Str × Value)) : Room k (A.under (.builtin "type.__call__" ⟨.ref C :: us, kw⟩)) :=
  ⟨r.hd, by have := r.dp; rw [make_depth]; omega, by have := r.un; rw [make_units]; omega⟩
theorem Room.depth {k : Nat} {A : Around} (r : Room k A) : A.depth < recursionLimit := by have := r.dp; omega
theorem Room.units {k : Nat} {A : Around} (r : Room k A) : A.units + 64 < cLine := by have := r.un; omega
def tNil : TA := fun _ H Q => Q [] H
def tCons (ta : TE) (tr : TA) : TA := fun σ H Q => ta σ H fun x H1 => tr σ H1 fun xs H2 => Q (x :: xs) H2
section
variable {X : Cx} {e : Expr} {es : List Expr} {te : TE} {t : TA} {pos : Pos}
theorem pa_nil : PA X [] tNil := fun _ _ _ _ H Q I h => Calls.spliced_nil ⟨[], H, I, .nil, h⟩
theorem pa_cons (ha : PE X e te) (hr : PA X es t) (hs : starEach (e :: es) X.env = (false, eval e X.env) :: starEach es X.env := by rfl) : PA X (e :: es) (tCons te t) := by
  intro pos pins s σ H Q I h
  rw [hs]
  show wpAny _ _ (spliced ((false, eval e X.env) :: backTo pos (starEach es X.env))) _ _ s
  refine Calls.spliced_cons (thn (ha pins s σ H _ I h) fun u s1 ⟨x, H1, I1, r1, q1⟩ => ?_)
  exact thn (hr pos pins s1 σ H1 _ I1 q1) fun us s2 ⟨xs, H2, I2, r2, q2⟩ => ⟨x :: xs, H2, I2, .cons r1 r2, q2⟩
def tTup (t : TA) : TE := fun σ H Q => t σ H fun xs H1 => xs.length ≤ sizeLine ∧ ∀ p, H1 p = none → Q (.ref p) (upd H1 p (.tup xs))
def tLst (t : TA) : TE := fun σ H Q => t σ H fun xs H1 => xs.length ≤ sizeLine ∧ ∀ p, H1 p = none → Q (.ref p) (upd H1 p (.lst xs))
theorem pe_tup {x1} (h : PA X es t) : PE X (.Tuple es x1 pos) (tTup t) := by
  intro pins s σ H Q I hq
  refine wpAny_Tuple_spliced (thn (h pos pins s σ H _ I hq) fun us s1 ⟨xs, H1, I1, r, z, q⟩ => ⟨by rw [← r.length]; exact z, ?_⟩)
  have hf : H1 s1.heap.objs.size = none := I1.hok.fresh (Nat.le_refl _)
  refine ⟨.ref s1.heap.objs.size, upd H1 s1.heap.objs.size (.tup xs), I1.laid (t' := s1.toks) (fun b u e => Heap.get?_push_of_some _ e) (Nat.le_refl _) ?_, rfl, q _ hf⟩
  exact ⟨z, us, r, ⟨_, Heap.get?_push_size _ rfl, rfl, _, rfl⟩, NoDict.new⟩
theorem pe_lst (h : PA X es t) : PE X (.List es pos) (tLst t) := by
  intro pins s σ H Q I hq
  refine wpAny_List_spliced (thn (h pos pins s σ H _ I hq) fun us s1 ⟨xs, H1, I1, r, z, q⟩ => ⟨by rw [← r.length]; exact z, ?_⟩)
  have hf : H1 s1.heap.objs.size = none := I1.hok.fresh (Nat.le_refl _)
  refine ⟨.ref s1.heap.objs.size, upd H1 s1.heap.objs.size (.lst xs), I1.laid (t' := s1.toks) (fun b u e => Heap.get?_push_of_some _ e) (Nat.le_refl _) ?_, rfl, q _ hf⟩
  exact ⟨z, us, 0, r, Heap.get?_push_size _ rfl⟩
end
abbrev Sp := List V → Hp → VK → XK → Prop
abbrev CXT := List Env → Hp → Shared → XK → Value → Shared → Prop
structure Env0 (P : Program) (w : World) (K : PySem.W.Frag) (mg : Str → Option Value) (base : Heap) (A : Around) (outer : List Env) (s : Shared) (H : Hp) : Prop where
  frames : A.frames = some outer
  mod : Mod K mg base
  bs : ∀ b o, base.get? b = some o → s.heap.get? b = some o ∧ H b = none
  bsz : base.objs.size ≤ s.heap.objs.size
  funs : s.heap.FunFrames base outer
  frf : ∀ b ∈ frs outer, H b = none
  hok : HOk P w H s.heap
  bare : AllBare s.gens
def CE (outer : List Env) (P : Program) (w : World) (H : Hp) (s : Shared) (Q : VK) (u : Value) (s' : Shared) : Prop :=
  ∃ v H', s'.os = s.os ∧ AllBare s'.gens ∧ Un (frs outer) [] H H' s.heap s'.heap ∧ HOk P w H' s'.heap ∧ RelV v u ∧ Q v H'
def CR (CX : CXT) (outer : List Env) (P : Program) (w : World) (H : Hp) (s : Shared) (Q : VK) (E : XK) (r : Result) (s' : Shared) : Prop :=
  match r with
  | .ok (.ret u) => CE outer P w H s Q u s'
  | .ok _ => False
  | .error e => CX outer H s E e s'
structure FnOk (P : Program) (w : World) (K : PySem.W.Frag) (mg : Str → Option Value) (base : Heap) (CX : CXT) (k : Nat) (f : Addr) (fd : FuncData) (ps : List Str) (sp : Sp) : Prop where
  len : ∀ vs H Q E, sp vs H Q E → vs.length = ps.length
  run : ∀ (A : Around) (outer : List Env) (s : Shared) (H : Hp) (args : Args) (us : List Value) (vs : List V) (Q : VK) (E : XK), Room k A → Env0 P w K mg base A outer s H → BindsTo s fd args (ps.zip us) → Vals vs us → sp vs H Q E →
    codeAny (model P w) A (.call (.ref f) args) (CR CX outer P w H s Q E) s
theorem FnOk.mono {P : Program} {w : World} {K : PySem.W.Frag} {mg : Str → Option Value} {base : Heap} {CX : CXT} {j k : Nat} {f : Addr} {fd : FuncData} {ps : List Str} {sp : Sp} (F : FnOk P w K mg base CX j f fd ps sp) (h : j ≤ k) :
    FnOk P w K mg base CX k f fd ps sp := ⟨F.len, fun A outer s H args us vs Q E hr => F.run A outer s H args us vs Q E (hr.mono h)⟩
theorem FnOk.imp {P : Program} {w : World} {K : PySem.W.Frag} {mg : Str → Option Value} {base : Heap} {CX : CXT} {k : Nat} {f : Addr} {fd : FuncData} {ps : List Str} {sp sp' : Sp} (F : FnOk P w K mg base CX k f fd ps sp)
    (h : ∀ vs H Q E, sp' vs H Q E → sp vs H Q E) : FnOk P w K mg base CX k f fd ps sp' :=
  ⟨fun vs H Q E q => F.len vs H Q E (h _ _ _ _ q), fun A outer s H args us vs Q E hr he hb hv hs => F.run A outer s H args us vs Q E hr he hb hv (h _ _ _ _ hs)⟩
theorem Env0.make {P : Program} {w : World} {K : PySem.W.Frag} {mg : Str → Option Value} {base : Heap} {A : Around} {outer : List Env} {s : Shared} {H : Hp} (e : Env0 P w K mg base A outer s H) (C : Addr) (us : List Value) (kw : List (Str × Value)) :
    Env0 P w K mg base (A.under (.builtin "type.__call__" ⟨.ref C :: us, kw⟩)) outer s H := ⟨by first | exact e.frames | (simpa [Around.under, Code.envs, Code.isFrame, pushEnvs] using e.frames), e.mod, e.bs, e.bsz, e.funs, e.frf, e.hok, e.bare⟩
theorem Env0.in1 {P : Program} {w : World} {K : PySem.W.Frag} {mg : Str → Option Value} {base : Heap} {A : Around} {outer : List Env} {s : Shared} {H : Hp} (e : Env0 P w K mg base A outer s H) :
    Env0 P w K mg base A.in1 outer s H := ⟨e.frames, e.mod, e.bs, e.bsz, e.funs, e.frf, e.hok, e.bare⟩
section
variable {X : Cx} {pins : List (Addr × Obj)} {σ : St} {H : Hp} {s s' : Shared}
theorem Inv.env0 (I : Inv X pins σ H s) : Env0 X.prog X.w X.K X.mg X.base X.A X.stack s H :=
  ⟨I.ok.frames, I.ok.mod, I.bs, Nat.le_trans I.ok.bsz I.sz, I.stack, I.stkFree, I.hok, I.bare⟩
theorem Inv.after {Q : VK} {u : Value} (I : Inv X pins σ H s) (h : CE X.stack X.prog X.w H s Q u s') : EP X pins σ Q u s' := by
  obtain ⟨v, H', os, bare, un, hok, r, q⟩ := h
  obtain ⟨hh, g, d, t, os'⟩ := s'
  obtain rfl : os' = s.os := os
  exact ⟨v, H', I.call (h' := hh) (g' := g) (d' := d) (t' := t) (ch := []) un hok bare (fun b z => absurd z (by simp)), r, q⟩
end
def tCall (sp : Sp) (dvs : List V) (E : XK) (t : TA) : TE := fun σ H Q => t σ H fun vs H1 => sp (vs ++ dvs) H1 Q E
def tMeth (C : Addr) (m : Str) (sp : Sp) (dvs : List V) (E : XK) (ta : TE) (t : TA) : TE := fun σ H Q => ta σ H fun x H1 => ∃ a dx fs, x = .ref a ∧ H1 a = some (.ins C dx fs) ∧ fs.lookup m = none ∧
  t σ H1 fun vs H2 => sp (x :: (vs ++ dvs)) H2 Q E
def tMake (C : Addr) (sp : Sp) (dvs : List V) (E : XK) (t : TA) : TE := fun σ H Q => t σ H fun vs H1 => ∀ x dx, H1 x = none → H1 dx = none → dx ≠ x →
  sp (.ref x :: (vs ++ dvs)) (upd (upd H1 dx (.own x)) x (.ins C dx [])) (fun v H2 => v = .non ∧ Q (.ref x) H2) E
def Binds (K : PySem.W.Frag) (fd : FuncData) (ps : List Str) (ds : List Value) : Prop :=
  ∀ (s : Shared) (us : List Value), K.In s.heap → (us ++ ds).length = ps.length → BindsTo s fd ⟨us, []⟩ (ps.zip (us ++ ds))
theorem Binds.all {K : PySem.W.Frag} {fd : FuncData} {ps : List Str} (h : ∀ us : List Value, us.length = ps.length → bindArgs fd ⟨us, []⟩ = pure (ps.zip us)) : Binds K fd ps [] := fun s us _ hl => by
  rw [List.append_nil] at hl ⊢
  exact .of_eq (h us hl)
def Passes (CX : CXT) (X : Cx) (E : XK) : Prop := ∀ (pins : List (Addr × Obj)) (σ : St) (H : Hp) (s : Shared) (e : Value) (s' : Shared), Inv X pins σ H s → CX X.stack H s E e s' → X.xe e s'
section
variable {X : Cx} {CX : CXT} {k : Nat} {f C : Addr} {fd : FuncData} {ps : List Str} {sp : Sp} {dvs : List V} {ds : List Value} {E : XK} {x m : Str} {p pos apos : Pos} {e o : Expr} {es : List Expr} {ta : TE} {t : TA}
theorem run_fn {pins : List (Addr × Obj)} {σ : St} {H : Hp} {s : Shared} {Q : VK} {us : List Value} {vs : List V} (F : FnOk X.prog X.w X.K X.mg X.base CX k f fd ps sp) (hr : Room k X.A) (hb : Binds X.K fd ps ds) (hd : Vals dvs ds) (hx : Passes CX X E)
    (I : Inv X pins σ H s) (r : Vals vs us) (h : sp (vs ++ dvs) H Q E) : wpAny (model X.prog X.w) X.A (call (.ref f) us) (EP X pins σ Q) X.xe s := by
  have r2 : Vals (vs ++ dvs) (us ++ ds) := r.append hd
  have hl : (us ++ ds).length = ps.length := by rw [← r2.length]; exact F.len _ _ _ _ h
  refine wpAny_call (codeAny_mono (F.run X.A X.stack s H ⟨us, []⟩ (us ++ ds) (vs ++ dvs) Q E hr I.env0 (hb s us I.kIn hl) r2 h) fun r s' hq => ?_)
  cases r with
  | error e => exact hx pins σ H s e s' I hq
  | ok fl =>
    cases fl with
    | ret u => exact I.after hq
    | next => exact False.elim hq
    | brk => exact False.elim hq
    | cont => exact False.elim hq
theorem pe_call (F : FnOk X.prog X.w X.K X.mg X.base CX k f fd ps sp) (hr : Room k X.A) (hg : Gl X x) (hm : X.mg x = some (.ref f)) (hk : PySem.W.keepIn X.K (.ref f) = true) (hb : Binds X.K fd ps ds) (hd : Vals dvs ds) (hx : Passes CX X E)
    (ha : PA X (e :: es) t) (hdb : (x == ("__debug__" : Str)) = false := by decide) (he : starEach (e :: es) X.env = (false, eval e X.env) :: starEach es X.env := by rfl) (hpl : (backTo pos (starEach es X.env)).any (·.1) = false := by rfl) :
    PE X (.Call (.Name x p) (e :: es) [] pos) (tCall sp dvs E t) := by
  intro pins s σ H Q I h
  refine wpAny_Call_Name_kw (ld_glob I hg hm ?_ hdb)
  refine PySem.W.callWith_K (h₀ := X.base) I.ok.mod.kin hk (thn (ha pos pins s σ H _ I h) fun us s1 ⟨vs, H1, I1, r, q⟩ => ⟨I1.kIn, ?_⟩) he hpl
  exact run_fn F hr hb hd hx I1 r q
structure Mk (K : PySem.W.Frag) (C f : Addr) : Prop where
  makes : PySem.W.makesIn K C = true
  init : PySem.W.findIn K (.ref C) "__init__" = some (some (.ref f))
  fn : PySem.W.isFn K (.ref f) = true
  kp : PySem.W.keepIn K (.ref C) = true
theorem run_make {pins : List (Addr × Obj)} {σ : St} {H : Hp} {s : Shared} {Q : VK} {us : List Value} {vs : List V} (M : Mk X.K C f) (F : FnOk X.prog X.w X.K X.mg X.base CX k f fd ps sp) (hr : Room (k + 1) X.A) (hb : Binds X.K fd ps ds) (hd : Vals dvs ds)
    (hx : Passes CX X E) (I : Inv X pins σ H s) (r : Vals vs us)
    (h : ∀ x dx, H x = none → H dx = none → dx ≠ x → sp (.ref x :: (vs ++ dvs)) (upd (upd H dx (.own x)) x (.ins C dx [])) (fun v H2 => v = .non ∧ Q (.ref x) H2) E) :
    wpAny (model X.prog X.w) X.A (call (.ref C) us) (EP X pins σ Q) X.xe s := by
  have hq := h (s.heap.objs.size + 1) s.heap.objs.size (I.hok.fresh (Nat.le_succ _)) (I.hok.fresh (Nat.le_refl _)) (Nat.ne_of_lt (Nat.lt_succ_self _))
  have I2 := Inv.made (C := C) I
  have r2 : Vals (V.ref (s.heap.objs.size + 1) :: (vs ++ dvs)) (Value.ref (s.heap.objs.size + 1) :: (us ++ ds)) := .cons rfl (r.append hd)
  have hl : (Value.ref (s.heap.objs.size + 1) :: us ++ ds).length = ps.length := by
    have e := r2.length
    rw [F.len _ _ _ _ hq] at e
    exact e.symm
  refine wpAny_call (make_map (f := f) I.kIn M.makes M.init (beq_iff_eq.mp M.fn) (codeAny_mono (F.run _ X.stack _ _ ⟨Value.ref (s.heap.objs.size + 1) :: us, []⟩ (Value.ref (s.heap.objs.size + 1) :: (us ++ ds)) _ _ E (hr.make C us [])
    (I2.env0.make C us []) (hb _ (Value.ref (s.heap.objs.size + 1) :: us) I2.kIn hl) r2 hq) fun r s' hq' => ?_))
  cases r with
  | error e => exact hx pins σ _ _ e s' I2 hq'
  | ok fl =>
    cases fl with
    | ret u =>
      obtain ⟨v, H', I3, rv, ev, q3⟩ := I2.after hq'
      subst ev
      exact ⟨rv, ⟨V.ref (s.heap.objs.size + 1), H', I3, rfl, q3⟩⟩
    | next => exact False.elim hq'
    | brk => exact False.elim hq'
    | cont => exact False.elim hq'
theorem pe_make (M : Mk X.K C f) (F : FnOk X.prog X.w X.K X.mg X.base CX k f fd ps sp) (hr : Room (k + 1) X.A) (hg : Gl X x) (hm : X.mg x = some (.ref C)) (hb : Binds X.K fd ps ds) (hd : Vals dvs ds) (hx : Passes CX X E)
    (ha : PA X (e :: es) t) (hdb : (x == ("__debug__" : Str)) = false := by decide) (he : starEach (e :: es) X.env = (false, eval e X.env) :: starEach es X.env := by rfl) (hpl : (backTo pos (starEach es X.env)).any (·.1) = false := by rfl) :
    PE X (.Call (.Name x p) (e :: es) [] pos) (tMake C sp dvs E t) := by
  intro pins s σ H Q I h
  refine wpAny_Call_Name_kw (ld_glob I hg hm ?_ hdb)
  refine PySem.W.callWith_K (h₀ := X.base) I.ok.mod.kin M.kp (thn (ha pos pins s σ H _ I h) fun us s1 ⟨vs, H1, I1, r, q⟩ => ⟨I1.kIn, ?_⟩) he hpl
  exact run_make M F hr hb hd hx I1 r q
end
def PK (X : Cx) (kws : List Keyword) (t : TA) : Prop :=
  ∀ (pos : Pos) (pins : List (Addr × Obj)) (s : Shared) (σ : St) (H : Hp) (Q : List V → Hp → Prop), Inv X pins σ H s → t σ H Q → wpAny (model X.prog X.w) X.A (evalAll ((backToKw pos (keywordEach kws X.env)).map (·.2))) (AP X pins σ Q) X.xe s
section
variable {X : Cx} {CX : CXT} {k : Nat} {f C : Addr} {fd : FuncData} {ps ks : List Str} {sp : Sp} {E : XK} {x m : Str} {p pos apos kpos : Pos} {e o : Expr} {es : List Expr} {kws : List Keyword} {te ta : TE} {t tk : TA} {nm : Option Str}
structure KBinds (K : PySem.W.Frag) (fd : FuncData) (ps ks : List Str) (g : List Value → List Value → List Value) (gV : List V → List V → List V) : Prop where
  to : ∀ (s : Shared) (us ws : List Value), K.In s.heap → (g us ws).length = ps.length → BindsTo s fd ⟨us, ks.zip ws⟩ (ps.zip (g us ws))
  rel : ∀ {vs : List V} {us : List Value} {zs : List V} {ws : List Value}, Vals vs us → Vals zs ws → Vals (gV vs zs) (g us ws)
def tCallK (sp : Sp) (gV : List V → List V → List V) (E : XK) (t tk : TA) : TE := fun σ H Q => t σ H fun vs H1 => tk σ H1 fun zs H2 => sp (gV vs zs) H2 Q E
variable {g : List Value → List Value → List Value} {gV : List V → List V → List V}
end
structure FnScope (N P : List Str) (sc : Scope) : Prop where
  kind : sc.kind = .function
  co : sc.isCoroutine = false
  gen : sc.isGenerator = false
  nd : N.Nodup
  pre : N.take P.length = P
  par : ∀ x ∈ P, sc.names.lookup x = some .local ∨ sc.names.lookup x = some .cell
  nofree : ∀ y ∈ sc.names, y.2 ≠ .free
theorem bindL_out {kindOf : Str → Option NameKind} {x : Str} : ∀ {binds : List (Str × Value)} {m : Str → Option Value}, (∀ v, (x, v) ∉ binds) → bindL kindOf binds m x = m x
  | [], _, _ => rfl
  | (n, v) :: r, m, h => by
    unfold bindL
    rw [bindL_out fun w hw => h w (List.mem_cons_of_mem _ hw)]
    split
    · have : x ≠ n := by rintro rfl; exact h v List.mem_cons_self
      simp [this]
    · rfl
theorem bindC_out {kindOf : Str → Option NameKind} {x : Str} : ∀ {binds : List (Str × Value)} {m : Str → Option Value}, (∀ v, (x, v) ∉ binds) → bindC kindOf binds m x = m x
  | [], _, _ => rfl
  | (n, v) :: r, m, h => by
    unfold bindC
    rw [bindC_out fun w hw => h w (List.mem_cons_of_mem _ hw)]
    split
    · rfl
    · have : x ≠ n := by rintro rfl; exact h v List.mem_cons_self
      simp [this]
theorem bindL_get {kindOf : Str → Option NameKind} {x : Str} {v : Value} : ∀ {P : List Str} {vs : List Value} {i : Nat} {m : Str → Option Value}, P.Nodup → P[i]? = some x → vs[i]? = some v → kindOf x = some .local →
    bindL kindOf (P.zip vs) m x = some v
  | [], _, _, _, _, h, _, _ => by simp at h
  | _ :: _, [], _, _, _, _, h, _ => by simp at h
  | p :: P, w :: vs, 0, m, nd, h1, h2, hk => by
    simp at h1 h2; subst h1; subst h2
    show bindL kindOf ((p, w) :: P.zip vs) m p = _
    unfold bindL
    rw [bindL_out fun v hv => (List.nodup_cons.mp nd).1 (List.of_mem_zip hv).1, if_pos hk]
    simp
  | p :: P, w :: vs, i + 1, m, nd, h1, h2, hk => by
    show bindL kindOf ((p, w) :: P.zip vs) m x = _
    unfold bindL
    exact bindL_get (i := i) (List.nodup_cons.mp nd).2 (by simpa using h1) (by simpa using h2) hk
theorem bindC_get {kindOf : Str → Option NameKind} {x : Str} {v : Value} : ∀ {P : List Str} {vs : List Value} {i : Nat} {m : Str → Option Value}, P.Nodup → P[i]? = some x → vs[i]? = some v → kindOf x ≠ some .local →
    bindC kindOf (P.zip vs) m x = some v
  | [], _, _, _, _, h, _, _ => by simp at h
  | _ :: _, [], _, _, _, _, h, _ => by simp at h
  | p :: P, w :: vs, 0, m, nd, h1, h2, hk => by
    simp at h1 h2; subst h1; subst h2
    show bindC kindOf ((p, w) :: P.zip vs) m p = _
    unfold bindC
    rw [bindC_out fun v hv => (List.nodup_cons.mp nd).1 (List.of_mem_zip hv).1, if_neg hk]
    simp
  | p :: P, w :: vs, i + 1, m, nd, h1, h2, hk => by
    show bindC kindOf ((p, w) :: P.zip vs) m x = _
    unfold bindC
    exact bindC_get (i := i) (List.nodup_cons.mp nd).2 (by simpa using h1) (by simpa using h2) hk
def start (N : List Str) (vs : List V) : St := vs.map some ++ List.replicate (N.length - vs.length) none
def cxOf (CX : CXT) (P : Program) (w : World) (K : PySem.W.Frag) (mg : Str → Option Value) (base : Heap) (N : List Str) (qual : Str) (scope : Scope) (f : Addr) (cd : Value) (A : Around) (outer : List Env) (s : Shared) (H : Hp) (E : XK) : Cx where
  prog := P
  w := w
  K := K
  mg := mg
  base := base
  A := A.deeper (envOfC qual scope s.heap.objs.size f cd)
  N := N
  s₀ := s
  H₀ := H
  env := envOfC qual scope s.heap.objs.size f cd
  outer := outer
  stack := envOfC qual scope s.heap.objs.size f cd :: outer
  ex := []
  calm := true
  fn := fun _ => true
  pn := []
  xe := fun e s' => wpAny (model P w) (A.deeper (envOfC qual scope s.heap.objs.size f cd)) (leaving (envOfC qual scope s.heap.objs.size f cd) e) (fun _ s'' => CX outer H s E e s'') (fun e' s'' => CX outer H s E e' s'') s'
theorem cell_has {sc : Scope} {n : Nat} {x : Str} (h : sc.names.lookup x = some .cell) : ∃ c, (cellsFrom n sc.names []).lookup x = some c := by
  have q := PySem.W.cellsFrom_some sc.names n [] (.inl h)
  exact Option.isSome_iff_exists.mp q
theorem inv_start {CX : CXT} {P : Program} {w : World} {K : PySem.W.Frag} {mg : Str → Option Value} {base : Heap} {N ps : List Str} {qual : Str} {scope : Scope} {f : Addr} {cd : Value} {A : Around} {outer : List Env} {s s1 : Shared} {H : Hp} {E : XK} {us : List Value} {vs : List V}
    (S : FnScope N ps scope) (hd : A.handled = none) (e0 : Env0 P w K mg base A outer s H) (hl : vs.length = ps.length) (r : Vals vs us)
    (x : InCallC s s.heap.objs.size (bindL (envOfC qual scope s.heap.objs.size f cd).kindOf (ps.zip us) fun _ => none) (cellsFrom (s.heap.objs.size + 1) scope.names []) (bindC (envOfC qual scope s.heap.objs.size f cd).kindOf (ps.zip us) fun _ => none) s1) :
    Inv (cxOf CX P w K mg base N qual scope f cd A outer s H E) [] (start N vs) H s1 := by
  have hpl : ps.length ≤ N.length := by have := congrArg List.length S.pre; rw [List.length_take] at this; omega
  obtain ⟨h1, tk, rfl, hk⟩ := x.done
  have noA : ∀ b : Addr, b ∉ (cxOf CX P w K mg base N qual scope f cd A outer s H E).ex := fun b z => absurd (show b ∈ ([] : List Addr) from z) (by simp)
  refine ⟨⟨e0.mod, S.kind, rfl, rfl, Nat.le_refl _, fun y z c h1 h2 => ?_, fun y hy => ?_, fun y c _ h => ?_, fun _ => hd, Around.frames_deeper e0.frames, .inr ⟨rfl, rfl⟩, fun b z => absurd z (noA b), e0.bs, e0.bsz, fun b _ _ => noA b, fun b z => absurd z (noA b), e0.funs, e0.frf⟩,
    rfl, e0.bare, Un.kept hk, ⟨_, x.toInCall.ns, fun i y v h1 h2 h3 => ?_⟩, fun y c h => ⟨_, x.cell y c h⟩, e0.hok.fresh (Nat.le_refl _), fun y c h => ?_, fun p hp => absurd (show p ∈ ([] : List (Addr × Obj)) from hp) (by simp), e0.hok.kept hk, ?_⟩
  · exact name_of_addr x.apart (PySem.mem_of_lookup h1) (PySem.mem_of_lookup h2)
  · have hy : scope.names.lookup y = some .cell ∨ scope.names.lookup y = some .free := hy
    rcases hy with hy | hy
    · exact cell_has hy
    · exact absurd rfl (S.nofree _ (PySem.mem_of_lookup hy))
  · exact Nat.le_of_lt (x.above y c (PySem.mem_of_lookup h))
  · have hi : i < vs.length := by
      unfold start at h2
      by_cases hi : i < vs.length
      · exact hi
      · rw [List.getElem?_append_right (by simpa using hi)] at h2
        rw [List.getElem?_replicate] at h2
        split at h2 <;> cases h2
    have ha : vs[i]? = some v := by
      unfold start at h2
      rw [List.getElem?_append_left (by simpa using hi), List.getElem?_map] at h2
      cases e : vs[i]? with
      | none => rw [e] at h2; cases h2
      | some a => rw [e] at h2; cases h2; rfl
    obtain ⟨u, hu, rv⟩ := r.get ha
    have hp : ps[i]? = some y := by
      rw [← S.pre, List.getElem?_take_of_lt (by omega)]; exact h1
    have ndP : ps.Nodup := by rw [← S.pre]; exact S.nd.sublist (List.take_sublist _ _)
    refine ⟨u, rv, ?_⟩
    rcases S.par y (List.mem_of_getElem? hp) with k | k
    · exact .inl ⟨k, bindL_get ndP hp hu k⟩
    · obtain ⟨c, e⟩ := cell_has (n := s.heap.objs.size + 1) k
      refine .inr ⟨.inl k, c, e, ?_⟩
      have q := x.cell y c e
      rw [bindC_get ndP hp hu (by show scope.names.lookup y ≠ _; rw [k]; decide)] at q
      exact q
  · exact e0.hok.fresh (Nat.le_of_lt (x.above y c (PySem.mem_of_lookup h)))
  · unfold start
    show _ = N.length
    rw [List.length_append, List.length_map, List.length_replicate]
    omega
theorem fn_of {CX : CXT} {P : Program} {w : World} {K : PySem.W.Frag} {mg : Str → Option Value} {base : Heap} {k : Nat} {f : Addr} {name qual : Str} {params : Arguments} {body : List Stmt} {scope : Scope} {dV kV doc pm cdv ct oc : Value} {an od : Option Addr}
    {osl : Array (Option Value)} {N ps : List Str} {sp : Sp} (lk : K.lookup f = some ⟨oc, od, .func (PySem.W.fnOf name qual params body scope dV kV doc pm an cdv ct), osl⟩) (hcd : PySem.W.codeIn K cdv qual = true) (S : FnScope N ps scope)
    (len : ∀ vs H Q E, sp vs H Q E → vs.length = ps.length)
    (hbody : ∀ (A : Around) (outer : List Env) (s : Shared) (H : Hp) (vs : List V) (Q : VK) (E : XK), Room k (A.deeper (envOfC qual scope s.heap.objs.size f cdv)) → sp vs H Q E →
      ∃ t, PSs (cxOf CX P w K mg base N qual scope f cdv A outer s H E) body t ∧ t { nx := fun _ H' => Q .non H', rt := Q } (start N vs) H) :
    FnOk P w K mg base CX (k + 1) f (PySem.W.fnOf name qual params body scope dV kV doc pm an cdv ct) ps sp := by
  refine ⟨len, fun A outer s H args us vs Q E hr e0 hb r hsp => ?_⟩
  have hl := len _ _ _ _ hsp
  have KX : K.In s.heap := e0.mod.kin.keeps fun b o e => (e0.bs b o e).1
  have lim : s.heap.NoLimit := e0.mod.nolimit.keeps fun b o e => (e0.bs b o e).1
  have hkind : ∀ y ∈ ps.zip us, scope.names.lookup y.1 = some .local ∨ (scope.names.lookup y.1 = some .cell ∧ ((cellsFrom (s.heap.objs.size + 1) scope.names []).lookup y.1).isSome = true) := fun ⟨n, v⟩ hy => by
    rcases S.par n (List.of_mem_zip hy).1 with q | q
    · exact .inl q
    · exact .inr ⟨q, PySem.W.cellsFrom_some _ _ _ (.inl q)⟩
  refine codeAny_call_function hr.depth (KX _ _ lk) rfl S.co S.gen rfl (PySem.W.codeRec_of KX hcd) (hb _ _ _ _ ?_)
  refine wpAny_newFunctionEnv_cells S.kind hkind fun env he s1 x => ?_
  subst he
  refine ⟨lim.keeps x.toInCall.keep, codeAny_func ?_⟩
  obtain ⟨t, ht, hq⟩ := hbody A outer s H vs Q E (hr.deeper _) hsp
  have I : Inv (cxOf CX P w K mg base N qual scope f cdv A outer s H E) [] (start N vs) H s1 := inv_start S hr.hd e0 hl r x
  refine wpAny_mono (ht [] s1 (start N vs) H _ I hq) (fun fl s' hs => ?_) fun e s' hs => hs
  have fin : ∀ {σ' : St} {H' : Hp} {v : V} {u : Value}, Inv (cxOf CX P w K mg base N qual scope f cdv A outer s H E) [] σ' H' s' → RelV v u → Q v H' → CE outer P w H s Q u s' :=
    fun {σ' H' v u} J rv q => ⟨v, H', J.os, J.bare, J.base, J.hok, rv, q⟩
  cases fl with
  | ret u =>
    obtain ⟨v, σ', H', J, rv, q⟩ := hs
    exact fin J rv q
  | next =>
    obtain ⟨σ', H', J, q⟩ := hs
    exact fin (v := V.non) (u := Value.none) J rfl q
  | brk =>
    obtain ⟨_, _, _, q⟩ := hs
    exact False.elim q
  | cont =>
    obtain ⟨_, _, _, q⟩ := hs
    exact False.elim q
end L2
namespace L2
open PySem PySem.Spec PyProof.Rows
section
variable {X : Cx} {x : Str} {p pos : Pos} {e : Expr} {es : List Expr} {t : TA} {id T : String} {r : List V → Hp → VK → Prop}
def tCB (r : List V → Hp → VK → Prop) (t : TA) : TE := fun σ H Q => t σ H fun vs H1 => r vs H1 Q
theorem pe_callB (hc : CallR X (.builtin id) r) (hg : Gl X x) (hm : X.mg x = none) (hv : bootBuiltins x = some (.builtin id)) (ha : PA X (e :: es) t) (hn : x ≠ "__name__" := by decide) (hdb : (x == ("__debug__" : Str)) = false := by decide)
    (he : starEach (e :: es) X.env = (false, eval e X.env) :: starEach es X.env := by rfl) (hpl : (backTo pos (starEach es X.env)).any (·.1) = false := by rfl) : PE X (.Call (.Name x p) (e :: es) [] pos) (tCB r t) := by
  intro pins s σ H Q I h
  refine wpAny_Call_Name_kw (ld_blt I hg hm hv ?_ hn hdb)
  exact PyProof.Rows.callWith_builtin1 (thn (ha pos pins s σ H _ I h) fun us s1 ⟨vs, H1, I1, r1, q1⟩ => hc pins s1 σ H1 vs us Q I1 r1 q1) he hpl
theorem pe_callTy (hc : CallR X (.type T) r) (hg : Gl X x) (hm : X.mg x = none) (hv : bootBuiltins x = some (.type T)) (ha : PA X (e :: es) t) (hn : x ≠ "__name__" := by decide) (hdb : (x == ("__debug__" : Str)) = false := by decide)
    (he : starEach (e :: es) X.env = (false, eval e X.env) :: starEach es X.env := by rfl) (hpl : (backTo pos (starEach es X.env)).any (·.1) = false := by rfl) : PE X (.Call (.Name x p) (e :: es) [] pos) (tCB r t) := by
  intro pins s σ H Q I h
  refine wpAny_Call_Name_kw (ld_blt I hg hm hv ?_ hn hdb)
  exact PyProof.Rows.callWith_type1 (thn (ha pos pins s σ H _ I h) fun us s1 ⟨vs, H1, I1, r1, q1⟩ => hc pins s1 σ H1 vs us Q I1 r1 q1) he hpl
end
end L2
namespace HT
open PySem PyProof.Rows
def lexLt : List Int → List Int → Bool
  | [], [] => false
  | [], _ :: _ => true
  | _ :: _, [] => false
  | x :: xs, y :: ys => if x = y then lexLt xs ys else decide (x < y)
section
open PySem.SeqAt
open PySem.AutoSeq1 (wpAny_loadPart')
open PySem.MeetsSeq PySem.MeetsSeq2 PySem.MeetsSeq3
end
section
variable {prog : Program} {w : World} {A : Around} {E : Value → Shared → Prop} {s : Shared}
theorem cat_tup {t b : Addr} {vs ws : List Value} {Q : Value → Shared → Prop} (ht : IsTup s.heap t vs.toArray) (hb : IsTup s.heap b ws.toArray) (hv : vs ≠ [])
    (h1 : ws = [] → Q (.ref t) s) (h2 : ws ≠ [] → Q (.ref s.heap.objs.size) { s with heap := s.heap.push { cls := .type "tuple", data := .seq (vs ++ ws).toArray } })
    (hsz : vs.length + ws.length ≤ sizeLine) : wpAny (model prog w) A (binaryOp .Add (.ref t) (.ref b)) Q E s := by
  obtain ⟨⟨cls, dd, data, sl⟩, ho, hc, n, hd⟩ := id ht
  obtain ⟨⟨cls2, dd2, data2, sl2⟩, ho2, hc2, n2, hd2⟩ := id hb
  simp only at hc hd hc2 hd2
  subst hc hd hc2 hd2
  have e : vs.toArray ++ ws.toArray = (vs ++ ws).toArray := by simp
  by_cases hw : ws = []
  · exact concat_meets ⟨_, ho, rfl⟩ ⟨_, ho2, rfl⟩ noFill_tuple_add seq_tuple_add PySem.F.slot_tuple_add PySem.F.entry_tuple_add (PySem.F.args_tuple_add_2 _ _)
      (tuple_addW1 t b vs.toArray ws.toArray n n2 dd dd2 sl sl2 (by simpa using hv) (by simp [hw])) ⟨ho, ho2, h1 hw⟩
  · refine concat_meets ⟨_, ho, rfl⟩ ⟨_, ho2, rfl⟩ noFill_tuple_add seq_tuple_add PySem.F.slot_tuple_add PySem.F.entry_tuple_add (PySem.F.args_tuple_add_2 _ _)
      (tuple_addW2 t b vs.toArray ws.toArray n n2 dd dd2 sl sl2 (by simpa using hv) (by simpa using hw) (by rw [List.size_toArray, List.size_toArray]; exact hsz)) ⟨ho, ho2, ?_⟩
    rw [e]
    exact h2 hw
def sIx (n d : Nat) : Option Int → Nat
  | none => d
  | some v => if v < 0 then (v + (n : Int)).toNat else min v.toNat n
theorem sIx_le (n d : Nat) (hd : d ≤ n) (o : Option Int) : sIx n d o ≤ n := by
  cases o with
  | none => exact hd
  | some v =>
    show (if v < 0 then (v + (n : Int)).toNat else min v.toNat n) ≤ n
    by_cases hv : v < 0
    · rw [if_pos hv]; omega
    · rw [if_neg hv]; exact Nat.min_le_right _ _
theorem clip_eq (v : Int) (n d : Nat) : (if v < 0 then max (v + (n : Int)) 0 else min v (n : Int)) = ((sIx n d (some v) : Nat) : Int) := by
  show (if v < 0 then max (v + (n : Int)) 0 else min v (n : Int)) = (((if v < 0 then (v + (n : Int)).toNat else min v.toNat n) : Nat) : Int)
  by_cases hv : v < 0
  · simp only [if_pos hv]; omega
  · simp only [if_neg hv]; omega
theorem adjust_gen (lo hi : Option Int) (n : Nat) : Builtin.Slice.sliceAdjust lo hi 1 (n : Int) = (((sIx n 0 lo : Nat) : Int), ((sIx n n hi : Nat) : Int)) := by
  have h1 : ¬ ((1 : Int) < 0) := by omega
  unfold Builtin.Slice.sliceAdjust
  simp only [h1, if_false]
  refine Prod.ext ?_ ?_
  · cases lo with
    | none => rfl
    | some v => exact clip_eq v n 0
  · cases hi with
    | none => rfl
    | some v => exact clip_eq v n n
theorem places_gen (i j : Nat) : Builtin.Slice.slicePlaces (i : Int) (j : Int) 1 = j - i := by
  unfold Builtin.Slice.slicePlaces
  have h1 : (1 : Int) > 0 := by omega
  simp only [h1, if_true, Int.ediv_one]
  split <;> omega
theorem slicePart_ {v : Value} {o : Option Int} {Q : Option Int → Shared → Prop} (p : IsPart v o) (h : Q o s) : wpAny (model prog w) A (Builtin.Slice.slicePartIndex v) Q E s := by
  cases p with
  | none => exact slicePart_none h
  | int i t => exact slicePart_int h
theorem sliceApplied_gen {sl : Addr} {vl vu : Value} {lo hi : Option Int} {n : Nat} {Q : Int × Int × Nat → Shared → Prop} (hs : s.heap.IsSliceOf sl vl vu .none) (pl : IsPart vl lo) (pu : IsPart vu hi)
    (h : Q (((sIx n 0 lo : Nat) : Int), 1, sIx n n hi - sIx n 0 lo) s) : wpAny (model prog w) A (Builtin.Slice.sliceApplied (.ref sl) (pure (n : Int))) Q E s := by
  obtain ⟨os, hos, hcs, hds⟩ := id hs
  unfold Builtin.Slice.sliceApplied Builtin.Slice.sliceFields
  refine wpAny_bind (wpAny_bind (wpAny_field hos hds (x := vl) rfl (wpAny_bind (wpAny_field hos hds (x := vu) rfl (wpAny_bind (wpAny_field hos hds (x := .none) rfl (wpAny_pure ?_)))))))
  refine wpAny_bind (slicePart_none ?_)
  show wpAny _ _ (if ((1 : Int) == 0) = true then _ else _) _ _ s
  rw [if_neg (by decide)]
  refine wpAny_bind (slicePart_ pl (wpAny_bind (slicePart_ pu (wpAny_bind (wpAny_pure ?_)))))
  show wpAny _ _ (match Builtin.Slice.sliceAdjust lo hi 1 (n : Int) with | (lo, hi) => pure (lo, (1 : Int), Builtin.Slice.slicePlaces lo hi 1)) _ _ s
  rw [adjust_gen lo hi n]
  show wpAny _ _ (pure (((sIx n 0 lo : Nat) : Int), (1 : Int), Builtin.Slice.slicePlaces ((sIx n 0 lo : Nat) : Int) ((sIx n n hi : Nat) : Int) 1)) _ _ s
  rw [places_gen]
  exact wpAny_pure h
theorem pick_gen (xs : Array Value) (i k : Nat) : ((List.range k).filterMap fun (m : Nat) => xs[((i : Int) + (m : Int) * 1).toNat]?).toArray = ((xs.toList.drop i).take k).toArray := by
  have e : (fun (m : Nat) => xs[((i : Int) + (m : Int) * 1).toNat]?) = fun m => xs[i + m]? := by
    funext m
    have : ((i : Int) + (m : Int) * 1).toNat = i + m := by omega
    rw [this]
  rw [e]
  have := pick_run xs i k
  rw [List.filterMap_map] at this
  have e2 : ((fun x => xs[x]?) ∘ fun x => i + x) = fun m => xs[i + m]? := rfl
  rw [e2] at this
  rw [this]
theorem getItem_tuple_cut {t sl : Addr} {items : Array Value} {vl vu : Value} {lo hi : Option Int} {Q : Value → Shared → Prop} (ht : IsTup s.heap t items) (hs : s.heap.IsSliceOf sl vl vu .none) (pl : IsPart vl lo) (pu : IsPart vu hi)
    (hw : ¬ (sIx items.size 0 lo = 0 ∧ sIx items.size items.size hi = items.size))
    (h : Q (.ref s.heap.objs.size) { s with heap := s.heap.push { cls := .type "tuple", data := .seq ((items.toList.drop (sIx items.size 0 lo)).take (sIx items.size items.size hi - sIx items.size 0 lo)).toArray } })
    (hsz : items.size ≤ sizeLine) : wpAny (model prog w) A (getItem (.ref t) (.ref sl)) Q E s := by
  have htake : sizeOk (.seq ((items.toList.drop (sIx items.size 0 lo)).take (sIx items.size items.size hi - sIx items.size 0 lo)).toArray) := by
    show ((items.toList.drop (sIx items.size 0 lo)).take (sIx items.size items.size hi - sIx items.size 0 lo)).toArray.size ≤ sizeLine
    rw [List.size_toArray, List.length_take, List.length_drop, Array.length_toList]
    omega
  have hj : sIx items.size items.size hi ≤ items.size := sIx_le _ _ (Nat.le_refl _) hi
  obtain ⟨os, hos, hcs, hds⟩ := id hs
  have hTs : s.TypeIs (.ref sl) "slice" := ⟨os, hos, hcs⟩
  unfold getItem
  try with_reducible refine wpAny_holding ?_
  first | refine wpAny_bind (wpAny_pure ?_) | skip
  refine wpAny_bind (wpAny_sequenceKey ht.typeIs (by decide) ?_)
  refine wpAny_bind (wpAny_callSpecial?_slot (name := Str.ofString "__getitem__") ht.typeIs PyProof.Rows.slot_tuple_getitem
    (wpAny_call_entry PyProof.Rows.slot_tuple_getitem ht.typeIs entry_tuple_getitem ?_ (args_tuple_getitem _ _)))
  show wpAny _ _ (Builtin.Tuple.tupleItemsOf (.ref t) >>= _) _ _ s
  refine wpAny_bind (tupleItemsOf_ ht ?_)
  refine wpAny_bind (wpAny_typeOf hTs ?_)
  rw [if_pos (by decide)]
  refine wpAny_bind (sliceApplied_gen hs pl pu ?_)
  have hno : ¬ ((((sIx items.size 0 lo : Nat) : Int) == 0 && (1 : Int) == 1 && (sIx items.size items.size hi - sIx items.size 0 lo) == items.size) = true) := by
    intro q
    rw [Bool.and_eq_true, Bool.and_eq_true] at q
    have q1 : ((sIx items.size 0 lo : Nat) : Int) = 0 := eq_of_beq q.1.1
    have q2 : sIx items.size items.size hi - sIx items.size 0 lo = items.size := eq_of_beq q.2
    exact hw ⟨by omega, by omega⟩
  show wpAny _ _ (if (((sIx items.size 0 lo : Nat) : Int) == 0 && (1 : Int) == 1 && (sIx items.size items.size hi - sIx items.size 0 lo) == items.size) = true then _ else _) _ _ s
  rw [if_neg hno, pick_gen]
  first
    | exact wpAny_bind (m := Builtin.Tuple.tupleExact _) (wpAny_newObj_type (wpAny_pure ⟨_, rfl, wpAny_pure h⟩) htake)
    | exact wpAny_bind (m := Builtin.Tuple.tupleExact _) (wpAny_newObj_type (wpAny_bind (wpAny_pure (wpAny_pure ⟨_, rfl, wpAny_pure h⟩))) htake)
    | exact wpAny_bind (wpAny_bind (m := Builtin.Tuple.tupleExact _) (wpAny_newObj_type (wpAny_pure (wpAny_pure ⟨_, rfl, wpAny_pure h⟩)) htake))
    | exact wpAny_bind (wpAny_bind (m := Builtin.Tuple.tupleExact _) (wpAny_newObj_type (wpAny_pure ⟨_, rfl, wpAny_pure h⟩) htake))
end
end HT
namespace L2
open PySem PySem.Spec PyProof.Rows
abbrev TO := St → Hp → (Option Int → Hp → Prop) → Prop
def PO (X : Cx) (e : Option Expr) (t : TO) : Prop :=
  ∀ (pins : List (Addr × Obj)) (s : Shared) (σ : St) (H : Hp) (Q : Option Int → Hp → Prop), Inv X pins σ H s → t σ H Q →
    wpAny (model X.prog X.w) X.A (evalPart e X.env) (fun u s' => ∃ o H', Inv X pins σ H' s' ∧ IsPart u o ∧ Q o H') X.xe s
def tNoPart : TO := fun _ H Q => Q none H
def tPart (t : TE) : TO := fun σ H Q => t σ H fun x H1 => ∃ i, x = .int i ∧ Q (some i) H1
section
variable {X : Cx} {e : Expr} {te : TE} {lo hi : Option Expr} {tl th : TO} {pos p2 : Pos}
theorem po_none : PO X none tNoPart := by
  intro pins s σ H Q I h
  rw [evalPart_none]
  exact wpAny_pure ⟨none, H, I, .none, h⟩
theorem po_some (h : PE X e te) : PO X (some e) (tPart te) := by
  intro pins s σ H Q I hw
  rw [evalPart_some]
  refine thn (h pins s σ H _ I hw) fun u s1 ⟨x, H1, I1, r1, q1⟩ => ?_
  obtain ⟨i, rfl, q⟩ := q1
  obtain ⟨t, rfl⟩ := r1
  exact ⟨some i, H1, I1, .int i t, q⟩
def SlR (X : Cx) (r : V → Option Int → Option Int → Hp → VK → Prop) : Prop :=
  ∀ (pins : List (Addr × Obj)) (s : Shared) (σ : St) (H : Hp) (x : V) (v vl vu : Value) (lo hi : Option Int) (sl : Addr) (Q : VK), Inv X pins σ H s → RelV x v → s.heap.IsSliceOf sl vl vu .none → IsPart vl lo → IsPart vu hi → r x lo hi H Q →
    ∃ T id, typeLookup (.type T) "__getitem__" = pure (some (.builtin id)) ∧ s.TypeIs v T ∧ wpAny (model X.prog X.w) X.A (getItem v (.ref sl)) (EP X pins σ Q) X.xe s
theorem SlR.or {r r' : V → Option Int → Option Int → Hp → VK → Prop} (h : SlR X r) (h' : SlR X r') : SlR X (fun x lo hi H Q => r x lo hi H Q ∨ r' x lo hi H Q) := by
  intro pins s σ H x v vl vu lo hi sl Q I rx hs pl pu q
  rcases q with q | q
  · exact h pins s σ H x v vl vu lo hi sl Q I rx hs pl pu q
  · exact h' pins s σ H x v vl vu lo hi sl Q I rx hs pl pu q
def tSl (r : V → Option Int → Option Int → Hp → VK → Prop) (te : TE) (tl th : TO) : TE := fun σ H Q => te σ H fun x H1 => tl σ H1 fun l H2 => th σ H2 fun u H3 => r x l u H3 Q
theorem pe_slice {r : V → Option Int → Option Int → Hp → VK → Prop} (hr : SlR X r) (he : PE X e te) (hl : PO X lo tl) (hu : PO X hi th) : PE X (.Subscript e (.Slice lo hi none p2) pos) (tSl r te tl th) := by
  intro pins s σ H Q I h
  refine Subscript_ (thn (he pins s σ H _ I h) fun v s1 ⟨x, H1, I1, r1, q1⟩ => ?_)
  refine wpAny_Slice (thn (hl pins s1 σ H1 _ I1 q1) fun vl s2 ⟨l, H2, I2, pl, q2⟩ => thn (hu pins s2 σ H2 _ I2 q2) fun vu s3 ⟨u, H3, I3, pu, q3⟩ => ?_)
  rw [evalPart_none]
  refine wpAny_pure ?_
  have I4 : Inv X pins σ H3 { s3 with heap := s3.heap.push { cls := .type "slice", data := .fields #[vl, vu, .none] } } := I3.kept (t' := s3.toks) fun b ob q => Heap.get?_push_of_some _ q
  obtain ⟨T, id, hT, ht, hg⟩ := hr pins { s3 with heap := s3.heap.push { cls := .type "slice", data := .fields #[vl, vu, .none] } } σ H3 x v vl vu l u s3.heap.objs.size Q I4 r1 (Heap.IsSliceOf.new ..) pl pu q3
  show wpAny (model X.prog X.w) X.A (subscriptTail e (.Slice lo hi none p2) v (.ref s3.heap.objs.size)) (EP X pins σ Q) X.xe { s3 with heap := s3.heap.push { cls := .type "slice", data := .fields #[vl, vu, .none] } }
  exact tail_any (ops := [.ref s3.heap.objs.size, v]) ht hT hg (by with_unfolding_all rfl)
def cutV (xs : List V) (lo hi : Option Int) : List V := (xs.drop (HT.sIx xs.length 0 lo)).take (HT.sIx xs.length xs.length hi - HT.sIx xs.length 0 lo)
theorem cutV_length (xs : List V) (lo hi : Option Int) : (cutV xs lo hi).length ≤ xs.length := by
  unfold cutV
  rw [List.length_take, List.length_drop]
  omega
def rSlT (K : PySem.W.Frag) : V → Option Int → Option Int → Hp → VK → Prop := fun x lo hi H Q => ∃ a xs, x = .ref a ∧ SqT K H a xs ∧
  ¬ (HT.sIx xs.length 0 lo = 0 ∧ HT.sIx xs.length xs.length hi = xs.length) ∧ ∀ p, H p = none → Q (.ref p) (upd H p (.tup (cutV xs lo hi)))
theorem sl_tup : SlR X (rSlT X.K) := by
  intro pins s σ H x v vl vu lo hi sl Q I rx hs pl pu h
  obtain ⟨a, xs, rfl, hx, hw, q⟩ := h
  cases rx
  obtain ⟨its, r, ht, hz⟩ := I.tuple hx
  have hlen : its.toArray.size = xs.length := by rw [List.size_toArray]; exact r.length.symm
  refine ⟨"tuple", _, PyProof.Rows.slot_tuple_getitem.lookup, ht.typeIs, ?_⟩
  refine HT.getItem_tuple_cut ht hs pl pu (by rw [hlen]; exact hw) ?_ (by rw [hlen]; exact hz)
  rw [hlen]
  refine ⟨.ref s.heap.objs.size, _, I.laid (t' := s.toks) (o := .tup (cutV xs lo hi)) (fun b ob q => Heap.get?_push_of_some _ q) (Nat.le_refl _) ?_, rfl, q _ (I.hok.fresh (Nat.le_refl _))⟩
  exact ⟨Nat.le_trans (cutV_length xs lo hi) hz, _, (r.drop (HT.sIx xs.length 0 lo)).take (HT.sIx xs.length xs.length hi - HT.sIx xs.length 0 lo), IsTup.new _ _, NoDict.new⟩
def rLtT (K : PySem.W.Frag) : R2 := fun x y H Q => ∃ a b ns ms, x = .ref a ∧ y = .ref b ∧ SqT K H a (ns.map V.int) ∧ SqT K H b (ms.map V.int) ∧ Q (.bl (HT.lexLt ns ms)) H
def rCatT (K : PySem.W.Frag) : R2 := fun x y H Q => ∃ a b xs ys, x = .ref a ∧ y = .ref b ∧ SqT K H a xs ∧ SqT K H b ys ∧ xs ≠ [] ∧ xs.length + ys.length ≤ sizeLine ∧
  (ys = [] → Q (.ref a) H) ∧ (ys ≠ [] → ∀ p, H p = none → Q (.ref p) (upd H p (.tup (xs ++ ys))))
theorem Vals.nil_iff {xs : List V} {us : List Value} (r : Vals xs us) : us = [] ↔ xs = [] := by
  cases r with
  | nil => simp
  | cons _ _ => simp
theorem op_catT : OpR X (binaryOp .Add) (rCatT X.K) := by
  intro pins s σ H x y v u Q I rx ry h
  obtain ⟨a, b, xs, ys, rfl, rfl, ha, hb, hx, hz, q1, q2⟩ := h
  cases rx
  cases ry
  obtain ⟨its, r1, p1, _⟩ := I.tuple ha
  obtain ⟨its2, r2, p2, _⟩ := I.tuple hb
  refine HT.cat_tup p1 p2 (fun z => hx (r1.nil_iff.mp z)) (fun z => ⟨.ref a, H, I, rfl, q1 (r2.nil_iff.mp z)⟩) (fun z => ?_) (by rw [← r1.length, ← r2.length]; exact hz)
  refine ⟨.ref s.heap.objs.size, _, I.laid (t' := s.toks) (o := .tup (xs ++ ys)) (fun b ob q => Heap.get?_push_of_some _ q) (Nat.le_refl _) ?_, rfl, q2 (fun w => z (r2.nil_iff.mpr w)) _ (I.hok.fresh (Nat.le_refl _))⟩
  exact ⟨by rw [List.length_append]; exact hz, _, r1.append r2, IsTup.new _ _, NoDict.new⟩
end
end L2
namespace L2
open PySem PySem.Spec PyProof.Rows
def ixN (n : Nat) (i : Int) : Option Nat := if 0 ≤ i then (if i < n then some i.toNat else none) else if -(n : Int) ≤ i then some (i + n).toNat else none
def atI {α : Type} (xs : List α) (i : Int) : Option α := (ixN xs.length i).bind fun j => xs[j]?
theorem ixN_seq {n : Nat} {i : Int} {j : Nat} (h : ixN n i = some j) : seqIndex? i n = some j ∧ j < n ∧ -(n : Int) ≤ i ∧ i < n := by
  unfold ixN at h
  by_cases h0 : 0 ≤ i
  · rw [if_pos h0] at h
    by_cases h1 : i < n
    · rw [if_pos h1] at h
      have e : i.toNat = j := Option.some.inj h
      exact ⟨by rw [seqIndex_of h0 h1, e], by omega, by omega, h1⟩
    · rw [if_neg h1] at h; cases h
  · rw [if_neg h0] at h
    by_cases h1 : -(n : Int) ≤ i
    · rw [if_pos h1] at h
      have e : (i + n).toNat = j := Option.some.inj h
      exact ⟨by rw [seqIndex_neg (by omega) h1, e], by omega, h1, by omega⟩
    · rw [if_neg h1] at h; cases h
theorem atI_get {α : Type} {xs : List α} {i : Int} {v : α} (h : atI xs i = some v) : ∃ j, seqIndex? i xs.length = some j ∧ xs[j]? = some v ∧ j < xs.length ∧ -(xs.length : Int) ≤ i ∧ i < xs.length := by
  unfold atI at h
  cases e : ixN xs.length i with
  | none => rw [e] at h; cases h
  | some j =>
    rw [e] at h
    obtain ⟨h1, h2, h3, h4⟩ := ixN_seq e
    exact ⟨j, h1, h, h2, h3, h4⟩
theorem atI_nat {α : Type} {xs : List α} {j : Nat} {v : α} (h : xs[j]? = some v) : atI xs (j : Int) = some v := by
  have hj : j < xs.length := (List.getElem?_eq_some_iff.mp h).1
  have e : ixN xs.length (j : Int) = some j := by
    unfold ixN
    rw [if_pos (by omega), if_pos (by omega)]; simp
  unfold atI; rw [e]; exact h
def PlainIx (b : Expr) : Prop := ∀ o i, subscripted b false o i = operate [o, i] (getItem o i)
def IxR (X : Cx) (r : R2) : Prop :=
  ∀ (value slice : Expr) (pins : List (Addr × Obj)) (s : Shared) (σ : St) (H : Hp) (x y : V) (v u : Value) (Q : VK), Inv X pins σ H s → RelV x v → RelV y u → r x y H Q →
    subscripted slice false v u = operate [v, u] (getItem v u) → wpAny (model X.prog X.w) X.A (subscriptTail value slice v u) (EP X pins σ Q) X.xe s
def MtR (X : Cx) (id : String) (r : V → List V → Hp → VK → Prop) : Prop :=
  ∀ (pins : List (Addr × Obj)) (s : Shared) (σ : St) (H : Hp) (x : V) (xs : List V) (v : Value) (us : List Value) (Q : VK), Inv X pins σ H s → RelV x v → Vals xs us → r x xs H Q →
    wpAny (model X.prog X.w) X.A (call (.builtin id) (v :: us)) (EP X pins σ Q) X.xe s
section
variable {X : Cx} {a b : Expr} {ta tb : TE} {pos : Pos}
theorem IxR.or {r r' : R2} (h : IxR X r) (h' : IxR X r') : IxR X (fun x y H Q => r x y H Q ∨ r' x y H Q) := by
  intro value slice pins s σ H x y v u Q I rx ry q hs
  rcases q with q | q
  · exact h value slice pins s σ H x y v u Q I rx ry q hs
  · exact h' value slice pins s σ H x y v u Q I rx ry q hs
theorem MtR.or {id : String} {r r' : V → List V → Hp → VK → Prop} (h : MtR X id r) (h' : MtR X id r') : MtR X id (fun x xs H Q => r x xs H Q ∨ r' x xs H Q) := by
  intro pins s σ H x xs v us Q I rx rs q
  rcases q with q | q
  · exact h pins s σ H x xs v us Q I rx rs q
  · exact h' pins s σ H x xs v us Q I rx rs q
theorem pe_ix {r : R2} (hr : IxR X r) (ha : PE X a ta) (hb : PE X b tb) (hs : PlainIx b) : PE X (.Subscript a b pos) (tOp r ta tb) := by
  intro pins s σ H Q I h
  exact Subscript_ (binT ha hb I h fun v u s2 x y H2 I2 rx ry q => hr a b pins s2 σ H2 x y v u Q I2 rx ry q (hs _ _))
def rIxL (K : PySem.W.Frag) : R2 := fun x y H Q => ∃ p xs i v, x = .ref p ∧ y = .int i ∧ SqL K H p xs ∧ atI xs i = some v ∧ Q v H
def rIxT (K : PySem.W.Frag) : R2 := fun x y H Q => ∃ p xs i v, x = .ref p ∧ y = .int i ∧ SqT K H p xs ∧ atI xs i = some v ∧ Q v H
def rIxS : R2 := fun x y H Q => ∃ z i c, x = .str z ∧ y = .int i ∧ z.length ≤ sizeLine ∧ atI z.cps.toList i = some c ∧ Q (.str ⟨#[c]⟩) H
theorem ix_list : IxR X (rIxL X.K) := by
  intro value slice pins s σ H x y v u Q I rx ry h hs
  obtain ⟨p, xs, i, z, rfl, rfl, hq, he, q⟩ := h
  cases rx
  obtain ⟨t, rfl⟩ := ry
  obtain ⟨its, r, pl, hz⟩ := I.list hq
  obtain ⟨j, h1, h2, h3, h4, h5⟩ := atI_get he
  obtain ⟨w, ew, rw'⟩ := r.get h2
  have hl := r.length
  have hn := line63
  have fin : EP X pins σ Q w s := ⟨z, H, I, rw', q⟩
  by_cases h0 : 0 ≤ i
  · have hj : i.toNat = j := by
      rw [seqIndex_of h0 h5] at h1
      exact Option.some.inj h1
    exact item_listR pl.isList h0 (by omega) (by rw [hj]; simpa using ew) fin hs
  · have hj : (i + (its.toArray.size : Int)).toNat = j := by
      rw [seqIndex_neg (by omega) h4] at h1
      rw [List.size_toArray, ← hl]
      exact Option.some.inj h1
    exact subscriptTail_builtinR (x := w) pl.isList.typeIs slot_list_getitem.lookup
      (wpAny_getItem_list_neg (Q := fun r s' => r = w ∧ EP X pins σ Q r s') pl.isList (by omega) (by rw [List.size_toArray] <;> omega) (by omega) (by rw [hj]; simpa using ew) ⟨rfl, fin⟩) hs
theorem ix_tup : IxR X (rIxT X.K) := by
  intro value slice pins s σ H x y v u Q I rx ry h hs
  obtain ⟨p, xs, i, z, rfl, rfl, hq, he, q⟩ := h
  cases rx
  obtain ⟨t, rfl⟩ := ry
  obtain ⟨its, r, pl, hz⟩ := I.tuple hq
  obtain ⟨j, h1, h2, h3, h4, h5⟩ := atI_get he
  obtain ⟨w, ew, rw'⟩ := r.get h2
  have hl := r.length
  have hn := line63
  have fin : EP X pins σ Q w s := ⟨z, H, I, rw', q⟩
  exact subscriptTail_builtinR (x := w) pl.typeIs slot_tuple_getitem.lookup
    (getItem_tuple (j := j) (Q := fun r s' => r = w ∧ EP X pins σ Q r s') pl (by omega) (by omega) (by rw [List.size_toArray, ← hl]; exact h1) (by simpa using ew) ⟨rfl, fin⟩) hs
theorem ix_str : IxR X rIxS := by
  intro value slice pins s σ H x y v u Q I rx ry h hs
  obtain ⟨z, i, c, rfl, rfl, hz, he, q⟩ := h
  obtain ⟨t, rfl⟩ := rx
  obtain ⟨t', rfl⟩ := ry
  obtain ⟨j, h1, h2, h3, h4, h5⟩ := atI_get he
  have hl : z.cps.toList.length = z.length := by simp [Str.length]
  rw [hl] at h1 h4 h5
  have hn := line63
  exact tail_any (typeIs_str s z t) slot_str_getitem.lookup (getItem_str (c := c) (by
    have e1 : decide (i < -(2 ^ 63 : Int)) = false := decide_eq_false (by omega)
    have e2 : decide (i ≥ 2 ^ 63) = false := decide_eq_false (by omega)
    rw [e1, e2, Bool.or_false]) (by rw [h1]; simpa using h2) ⟨.str ⟨#[c]⟩, H, I.tok _, ⟨_, rfl⟩, q⟩) hs
def rIx (K : PySem.W.Frag) : R2 := fun x y H Q => rIxL K x y H Q ∨ rIxT K x y H Q ∨ rIxS x y H Q
theorem ix_seq : IxR X (rIx X.K) := ix_list.or (ix_tup.or ix_str)
theorem mapSeq_set (its : List Value) (n j : Nat) (u : Value) : Obj.mapSeq (·.setIfInBounds j u) { cls := .type "list", data := .seq its.toArray n } = { cls := .type "list", data := .seq (its.set j u).toArray n } := by
  simp [Obj.mapSeq]
theorem Inv.lst {pins : List (Addr × Obj)} {σ : St} {H : Hp} {s : Shared} {p : Addr} {xs : List V} (I : Inv X pins σ H s) (h : H p = some (.lst xs)) :
    ∃ (its : List Value) (n : Nat), Vals xs its ∧ s.heap.get? p = some { cls := .type "list", data := .seq its.toArray n } ∧ xs.length ≤ sizeLine := by
  obtain ⟨z, its, n, r, e⟩ := I.hok p _ h
  exact ⟨its, n, r, e, z⟩
theorem Inv.lstUpd {pins : List (Addr × Obj)} {σ : St} {H : Hp} {s : Shared} {p : Addr} {xs ys : List V} {its its' : List Value} {n n' : Nat} {f : Obj → Obj} (I : Inv X pins σ H s) (h : H p = some (.lst xs))
    (ho : s.heap.get? p = some { cls := .type "list", data := .seq its.toArray n }) (hf : f { cls := .type "list", data := .seq its.toArray n } = { cls := .type "list", data := .seq its'.toArray n' }) (r : Vals ys its') (hz : ys.length ≤ sizeLine) (t : Nat) :
    Inv X pins σ (upd H p (.lst ys)) { s with heap := s.heap.update p f, toks := t } := by
  have e : (s.heap.update p f).get? p = some { cls := .type "list", data := .seq its'.toArray n' } := by
    rw [Heap.get?_update_self f ho (by rw [hf] <;> rfl), hf]
  refine I.write (x := p) (e := p) (by rw [h]; trivial) (.inl rfl) (fun b u hb q => (Heap.get?_update_other _ _ (Ne.symm hb)).trans q) ⟨_, e⟩ ?_
  exact ⟨hz, its', n', r, e⟩
def rSetL : V → V → V → Hp → (Hp → Prop) → Prop := fun o i v H Q => ∃ p xs k j, o = .ref p ∧ i = .int k ∧ H p = some (.lst xs) ∧ ixN xs.length k = some j ∧ Q (upd H p (.lst (xs.set j v)))
theorem set_list : PSet X rSetL := by
  intro pins s σ H o i v ov iv u Q I ro ri rv h
  obtain ⟨p, xs, k, j, rfl, rfl, hp, hj, q⟩ := h
  cases ro
  obtain ⟨t, rfl⟩ := ri
  obtain ⟨its, n, r, ho, hz⟩ := I.lst hp
  obtain ⟨h1, h2, h3, h4⟩ := ixN_seq hj
  have hl := r.length
  have hn := line63
  have I' : Inv X pins σ (upd H p (.lst (xs.set j v))) { s with heap := s.heap.update p (Obj.mapSeq (·.setIfInBounds j u)) } :=
    I.lstUpd hp ho (mapSeq_set its n j u) (r.set rv j) (by rw [List.length_set]; exact hz) s.toks
  by_cases h0 : 0 ≤ k
  · have hk : k.toNat = j := by
      rw [seqIndex_of h0 h4] at h1
      exact Option.some.inj h1
    exact PySem.W.ki_setAt ho h0 (by omega) (by rw [List.size_toArray, ← hl]; exact h4) (by rw [hk]; exact ⟨_, I', q⟩)
  · have hk : (k + (its.toArray.size : Int)).toNat = j := by
      rw [seqIndex_neg (by omega) h3] at h1
      rw [List.size_toArray, ← hl]
      exact Option.some.inj h1
    exact PySem.W.ki_setBack ho (by omega) (by rw [List.size_toArray, ← hl]; exact h3) (by omega) (by rw [hk]; exact ⟨_, I', q⟩)
theorem slice_bounds (lo hi : Option Int) (n : Nat) : (sliceBounds lo hi none n).1 = ((HT.sIx n 0 lo : Nat) : Int) ∧ (sliceBounds lo hi none n).2.1 = ((HT.sIx n n hi : Nat) : Int) ∧ (sliceBounds lo hi none n).2.2 = 1 := by
  refine ⟨?_, ?_, rfl⟩
  · cases lo with
    | none => simp [sliceBounds, HT.sIx]
    | some i =>
      simp only [sliceBounds, HT.sIx, Option.getD_none, show (1 : Int) > 0 by decide, if_true]
      by_cases h : i < 0
      · simp only [h, if_true] <;> omega
      · simp only [h, if_false] <;> omega
  · cases hi with
    | none => simp [sliceBounds, HT.sIx]
    | some i =>
      simp only [sliceBounds, HT.sIx, Option.getD_none, show (1 : Int) > 0 by decide, if_true]
      by_cases h : i < 0
      · simp only [h, if_true] <;> omega
      · simp only [h, if_false] <;> omega
theorem slicePick_cut (its : List Value) (lo hi : Option Int) : slicePick its.toArray lo hi none = ((its.drop (HT.sIx its.length 0 lo)).take (HT.sIx its.length its.length hi - HT.sIx its.length 0 lo)).toArray := by
  obtain ⟨h1, h2, h3⟩ := slice_bounds lo hi its.toArray.size
  unfold slicePick
  rw [h1, h2, h3]
  simp only [sliceRange_one, pick_run, List.size_toArray] <;> rfl
def rSlL (K : PySem.W.Frag) : V → Option Int → Option Int → Hp → VK → Prop := fun x lo hi H Q => ∃ a xs, x = .ref a ∧ SqL K H a xs ∧ ∀ p, H p = none → Q (.ref p) (upd H p (.lst (cutV xs lo hi)))
theorem sl_list : SlR X (rSlL X.K) := by
  intro pins s σ H x v vl vu lo hi sl Q I rx hs pl pu h
  obtain ⟨a, xs, rfl, hx, q⟩ := h
  cases rx
  obtain ⟨its, r, ht, hz⟩ := I.list hx
  have hlen := r.length
  refine ⟨"list", _, slot_list_getitem.lookup, ht.isList.typeIs, ?_⟩
  refine wpAny_getItem_list_slice ht.isList hs pl pu .none (by simp) ?_ (by rw [List.size_toArray] <;> omega)
  rw [slicePick_cut, ← hlen]
  refine ⟨.ref s.heap.objs.size, _, I.laid (t' := s.toks) (o := .lst (cutV xs lo hi)) (fun b ob q => Heap.get?_push_of_some _ q) (Nat.le_refl _) ?_, rfl, q _ (I.hok.fresh (Nat.le_refl _))⟩
  exact ⟨Nat.le_trans (cutV_length xs lo hi) hz, _, 0, (r.drop (HT.sIx xs.length 0 lo)).take (HT.sIx xs.length xs.length hi - HT.sIx xs.length 0 lo), Heap.get?_push_size _ rfl⟩
def flatV : V → Bool
  | .non => true
  | .bl _ => true
  | .int _ => true
  | .str _ => true
  | _ => false
def eqV : V → V → Bool
  | .non, .non => true
  | .bl a, .bl b => a == b
  | .bl a, .int b => (if a then 1 else 0) == b
  | .int a, .bl b => a == (if b then 1 else 0)
  | .int a, .int b => a == b
  | .str a, .str b => a == b
  | _, _ => false
theorem eqAt_V {A : Around} {s : Shared} {y x : V} {u v : Value} (ry : RelV y u) (rx : RelV x v) (fy : flatV y = true) (fx : flatV x = true) : SeqAt.EqAt A s u v (eqV y x) := by
  cases y with
  | non =>
    cases ry
    cases x with
    | non => cases rx; exact SeqAt.EqAt.same _
    | bl b => cases rx; exact SeqAt.EqAt.none_bool b
    | int b => obtain ⟨t, rfl⟩ := rx; exact SeqAt.EqAt.none_int b t
    | str b => obtain ⟨t, rfl⟩ := rx; exact SeqAt.EqAt.none_str b t
    | _ => exact absurd (show false = true from fx) Bool.false_ne_true
  | bl a =>
    cases ry
    cases x with
    | non => cases rx; exact SeqAt.EqAt.bool_none a
    | bl b => cases rx; exact SeqAt.EqAt.bool_bool a b
    | int b => obtain ⟨t, rfl⟩ := rx; exact SeqAt.EqAt.bool_int a b t
    | str b => obtain ⟨t, rfl⟩ := rx; exact SeqAt.EqAt.bool_str a b t
    | _ => exact absurd (show false = true from fx) Bool.false_ne_true
  | int a =>
    obtain ⟨t', rfl⟩ := ry
    cases x with
    | non => cases rx; exact SeqAt.EqAt.int_none a t'
    | bl b => cases rx; exact SeqAt.EqAt.int_bool a t' b
    | int b => obtain ⟨t, rfl⟩ := rx; exact SeqAt.EqAt.int_int a t' b t
    | str b => obtain ⟨t, rfl⟩ := rx; exact SeqAt.EqAt.int_str a t' b t
    | _ => exact absurd (show false = true from fx) Bool.false_ne_true
  | str a =>
    obtain ⟨t', rfl⟩ := ry
    cases x with
    | non => cases rx; exact SeqAt.EqAt.str_none a t'
    | bl b => cases rx; exact SeqAt.EqAt.str_bool a t' b
    | int b => obtain ⟨t, rfl⟩ := rx; exact SeqAt.EqAt.str_int a t' b t
    | str b => obtain ⟨t, rfl⟩ := rx; exact SeqAt.EqAt.str_str a t' b t
    | _ => exact absurd (show false = true from fx) Bool.false_ne_true
  | _ => exact absurd (show false = true from fy) Bool.false_ne_true
def eqU (x : V) (u : Value) : Bool := match u with
  | .none => eqV .non x
  | .bool b => eqV (.bl b) x
  | .int i _ => eqV (.int i) x
  | .str z _ => eqV (.str z) x
  | _ => false
def inV (x : V) (xs : List V) : Bool := xs.any fun y => eqV y x
def rIn (K : PySem.W.Frag) (neg : Bool) : R2 := fun x y H Q => ∃ p xs, y = .ref p ∧ (SqL K H p xs ∨ SqT K H p xs) ∧ flatV x = true ∧ xs.all flatV = true ∧ Q (.bl (if neg then !inV x xs else inV x xs)) H
theorem call_len_seq : CallR X (.builtin "len") (fun xs H Q => ∃ p ys, xs = [.ref p] ∧ (SqL X.K H p ys ∨ SqT X.K H p ys) ∧ Q (.int ys.length) H) := by
  intro pins s σ H xs us Q I r h
  obtain ⟨p, ys, rfl, hq, q⟩ := h
  obtain ⟨u, rfl, rx⟩ := vals1 r
  cases rx
  have hn := line63
  rcases hq with hq | hq
  · obtain ⟨its, r', pl, hz⟩ := I.list hq
    have hlen := r'.length
    exact Calls.call_len_list pl.isList (by simp only [List.size_toArray] <;> omega) ⟨.int ys.length, H, I.tok _, ⟨s.toks + 1, by rw [List.size_toArray, hlen]⟩, q⟩
  · obtain ⟨its, r', pl, hz⟩ := I.tuple hq
    have hlen := r'.length
    exact len_tuple pl (by simp only [List.size_toArray] <;> omega) ⟨.int ys.length, H, I.tok _, ⟨s.toks + 1, by rw [List.size_toArray, hlen]⟩, q⟩
theorem call_len_str : CallR X (.builtin "len") (fun xs H Q => ∃ z, xs = [.str z] ∧ z.length ≤ sizeLine ∧ Q (.int z.length) H) := by
  intro pins s σ H xs us Q I r h
  obtain ⟨z, rfl, hz, q⟩ := h
  obtain ⟨u, rfl, t, rfl⟩ := vals1 r
  have hn := line63
  exact len_str (by omega) ⟨.int z.length, H, I.tok _, ⟨_, rfl⟩, q⟩
theorem CallR.or {f : Value} {r r' : List V → Hp → VK → Prop} (h : CallR X f r) (h' : CallR X f r') : CallR X f (fun xs H Q => r xs H Q ∨ r' xs H Q) := by
  intro pins s σ H xs us Q I rs q
  rcases q with q | q
  · exact h pins s σ H xs us Q I rs q
  · exact h' pins s σ H xs us Q I rs q
theorem call_list_of : CallR X (.type "list") (fun xs H Q => ∃ p ys, xs = [.ref p] ∧ (SqL X.K H p ys ∨ SqT X.K H p ys) ∧ ∀ l, H l = none → Q (.ref l) (upd H l (.lst ys))) := by
  intro pins s σ H xs us Q I r h
  obtain ⟨p, ys, rfl, hq, q⟩ := h
  obtain ⟨u, rfl, rx⟩ := vals1 r
  cases rx
  have fin : ∀ (its : List Value), Vals ys its → ys.length ≤ sizeLine → ∀ (h' : Heap) (c' : Nat), (∀ b o', s.heap.get? b = some o' → h'.get? b = some o') →
      h'.get? s.heap.objs.size = some { cls := .type "list", dict := none, data := .seq its.toArray c', slots := #[] } → EP X pins σ Q (.ref s.heap.objs.size) { s with heap := h' } := fun its r' hz h' c' kp e =>
    ⟨.ref s.heap.objs.size, _, I.laid (t' := s.toks) kp (Nat.le_refl _) (show ObjOk X.prog X.w _ h' _ (.lst ys) from ⟨hz, its, c', r', e⟩), rfl, q _ (I.hok.fresh (Nat.le_refl _))⟩
  rcases hq with hq | hq
  · obtain ⟨its, r', pl, hz⟩ := I.list hq
    have hlen := r'.length
    obtain ⟨o, ho, hc, n, hd⟩ := pl.isList
    exact call_list_seq p (.inl rfl) ho hc hd (fun h' c' kp e => fin its r' hz h' c' kp e) (by simp only [List.size_toArray] <;> omega)
  · obtain ⟨its, r', pl, hz⟩ := I.tuple hq
    have hlen := r'.length
    obtain ⟨o, ho, hc, n, hd⟩ := pl
    exact call_list_seq p (.inr rfl) ho hc hd (fun h' c' kp e => fin its r' hz h' c' kp e) (by simp only [List.size_toArray] <;> omega)
theorem call_tuple_of : CallR X (.type "tuple") (fun xs H Q => ∃ p ys, xs = [.ref p] ∧ ((SqL X.K H p ys ∧ ∀ l, H l = none → Q (.ref l) (upd H l (.tup ys))) ∨ (SqT X.K H p ys ∧ Q (.ref p) H))) := by
  intro pins s σ H xs us Q I r h
  obtain ⟨p, ys, rfl, h⟩ := h
  obtain ⟨u, rfl, rx⟩ := vals1 r
  cases rx
  rcases h with ⟨hq, q⟩ | ⟨hq, q⟩
  · obtain ⟨its, r', pl, hz⟩ := I.list hq
    have hlen := r'.length
    refine call_tuple_list pl.isList (fun h' kp => ?_) (by simp only [List.size_toArray] <;> omega)
    have I1 : Inv X pins σ H { s with heap := h' } := I.kept (t' := s.toks) kp
    have I2 : Inv X pins σ (upd H h'.objs.size (.tup ys)) { s with heap := h'.push { cls := .type "tuple", data := .seq its.toArray } } :=
      I1.laid (t' := s.toks) (fun b o e => Heap.get?_push_of_some _ e) (Nat.le_refl _) (show ObjOk X.prog X.w _ _ _ (.tup ys) from ⟨hz, its, r', IsTup.new _ _, NoDict.new⟩)
    exact ⟨.ref h'.objs.size, _, I2, rfl, q _ (I1.hok.fresh (Nat.le_refl _))⟩
  · obtain ⟨its, r', pl, hz⟩ := I.tuple hq
    exact call_tuple_same pl ⟨.ref p, H, I, rfl, q⟩
def tyV (K : PySem.W.Frag) (T : String) (x : V) (H : Hp) : Prop := match x with
  | .str _ => T = "str"
  | .int _ => T = "int"
  | .ref p => (T = "list" ∧ ∃ xs, SqL K H p xs) ∨ (T = "tuple" ∧ ∃ o, K.lookup p = some o ∧ o.cls = .type "tuple" ∧ o.dict = none) ∨
      (T = "dict" ∧ ((∃ kvs, Rd H p (.dK kvs)) ∨ ∃ kvs, H p = some (.dT kvs))) ∨ (T = "set" ∧ ∃ S n, H p = some (.set S n))
  | _ => False
theorem tyV_is {pins : List (Addr × Obj)} {σ : St} {H : Hp} {s : Shared} {T : String} {x : V} {v : Value} (I : Inv X pins σ H s) (r : RelV x v) (ty : tyV X.K T x H) :
    s.TypeIs v T ∧ ∀ a, v = .ref a → ∃ ob, s.heap.get? a = some ob ∧ ob.dict = none := by
  cases x with
  | str z =>
    obtain ⟨t, rfl⟩ := r
    cases (show T = "str" from ty)
    exact ⟨typeIs_str s z t, fun _ e => nomatch e⟩
  | int i =>
    obtain ⟨t, rfl⟩ := r
    cases (show T = "int" from ty)
    exact ⟨typeIs_int s i t, fun _ e => nomatch e⟩
  | ref p =>
    cases r
    rcases ty with ⟨rfl, xs, hq⟩ | ⟨rfl, o, hk, hc, hd⟩ | ⟨rfl, hk⟩ | ⟨rfl, S, n, hk⟩
    · obtain ⟨its, _, pl, _⟩ := I.list hq
      refine ⟨pl.isList.typeIs, fun a e => ?_⟩
      cases e
      obtain ⟨o, n, e, c, hd, _⟩ := pl
      exact ⟨o, e, hd⟩
    · refine ⟨⟨o, I.kIn p o hk, hc⟩, fun a e => ?_⟩
      cases e
      exact ⟨o, I.kIn _ o hk, hd⟩
    · have z : ∃ o, s.heap.get? p = some o ∧ o.ExactDict := by
        rcases hk with ⟨kvs, hk⟩ | ⟨kvs, hk⟩
        · obtain ⟨_, _, _, _, o, _, _, e, ex, _⟩ := (show ObjOk X.prog X.w H s.heap p (.dK kvs) from hk.ok I.hok)
          exact ⟨o, e, ex⟩
        · obtain ⟨_, _, _, _, o, _, _, e, ex, _⟩ := I.hok p _ hk
          exact ⟨o, e, ex⟩
      obtain ⟨o, e, ex⟩ := z
      refine ⟨⟨o, e, ex.1⟩, fun a e2 => ?_⟩
      cases e2
      exact ⟨o, e, ex.2.1⟩
    · obtain ⟨o, _, _, _, e, ex, _⟩ := I.hok p _ hk
      refine ⟨⟨o, e, ex.1⟩, fun a e2 => ?_⟩
      cases e2
      exact ⟨o, e, ex.2.1⟩
  | _ => exact False.elim ty
def tBM0 (K : PySem.W.Frag) (T : String) (r : V → List V → Hp → VK → Prop) (to : TE) : TE := fun σ H Q => to σ H fun x H1 => tyV K T x H1 ∧ r x [] H1 Q
def tBM (K : PySem.W.Frag) (T : String) (r : V → List V → Hp → VK → Prop) (to : TE) (t : TA) : TE := fun σ H Q => to σ H fun x H1 => tyV K T x H1 ∧ t σ H1 fun xs H2 => r x xs H2 Q
variable {o e : Expr} {es : List Expr} {to : TE} {t : TA} {name : Str} {apos cpos : Pos} {T id : String} {r : V → List V → Hp → VK → Prop}
theorem pe_bm (pa : PlainAttrs T) (slot : Slot T name id) (hty : typeOf (.builtin id) = pure (.type "method_descriptor")) (hm : MtR X id r) (ho : PE X o to) (ha : PA X (e :: es) t)
    (hbase : attributeBase o name X.env (eval o X.env) = eval o X.env := by rfl)
    (hfew : ((backTo cpos (starEach (e :: es) X.env)).all (fun x => !x.1) && (backToKw cpos (keywordEach [] X.env)).all (fun x => x.1.isSome)
      && decide ((e :: es).length + ([] : List Keyword).length + (if ([] : List Keyword).isEmpty then 0 else 1) < 30)) = true := by rfl)
    (hline : (apos.endLine == cpos.line) = true := by rfl) (hs : starEach (e :: es) X.env = (false, eval e X.env) :: starEach es X.env := by rfl) (hplain : (backTo cpos (starEach es X.env)).any (·.1) = false := by rfl) :
    PE X (.Call (.Attribute o name apos) (e :: es) [] cpos) (tBM X.K T r to t) := by
  intro pins s σ H Q I h
  refine wpAny_Call_method_late hbase hfew hline rfl (thn (ho pins s σ H _ I h) fun v s1 ⟨x, H1, I1, r1, ty, q1⟩ => ?_)
  obtain ⟨h1, h2⟩ := tyV_is I1 r1 ty
  refine ⟨T, id, pa, slot, hty, h1, h2, ?_⟩
  have hA := ha cpos pins s1 σ H1 _ I1 q1
  rw [hs] at hA ⊢
  refine Calls.callWith_builtin (by show (false || (backTo cpos (starEach es X.env)).any (·.1)) = false; rw [hplain] <;> rfl) (Calls.evalArgs_plain ?_)
  exact thn hA fun us s2 ⟨vs, H2, I2, r2, q2⟩ => hm pins s2 σ H2 x vs v us Q I2 r1 r2 q2
end
end L2
namespace L2
open PySem PySem.Spec PyProof.Rows
def MtM (X : Cx) (id : String) (r : V → List V → Hp → VK → Prop) : Prop :=
  ∀ (pins : List (Addr × Obj)) (s : Shared) (σ : St) (H : Hp) (x : V) (xs : List V) (v : Value) (us : List Value) (Q : VK), Inv X pins σ H s → RelV x v → Vals xs us → r x xs H Q →
    wpAny (model X.prog X.w) X.A (call (.builtin id) (v :: us)) (EP X pins σ Q) X.xe s
theorem Vals.one : ∀ {x : V} {us : List Value}, Vals [x] us → ∃ u, us = [u] ∧ RelV x u
  | _, _, .cons r .nil => ⟨_, rfl, r⟩
theorem Vals.zero : ∀ {us : List Value}, Vals [] us → us = []
  | _, .nil => rfl
theorem Vals.dropLast {xs : List V} {us : List Value} (h : Vals xs us) : Vals xs.dropLast us.dropLast := by
  induction h with
  | nil => exact .nil
  | cons r t ih =>
    cases t with
    | nil => exact .nil
    | cons q t' => exact .cons r ih
theorem Vals.eraseIdx : ∀ {xs : List V} {us : List Value} (i : Nat), Vals xs us → Vals (xs.eraseIdx i) (us.eraseIdx i)
  | _, _, _, .nil => .nil
  | _, _, 0, .cons _ t => t
  | _, _, i + 1, .cons r t => .cons r (Vals.eraseIdx i t)
theorem Vals.reverse {xs : List V} {us : List Value} (h : Vals xs us) : Vals xs.reverse us.reverse := by
  induction h with
  | nil => exact .nil
  | cons r t ih => rw [List.reverse_cons, List.reverse_cons]; exact Vals.append ih (.cons r .nil)
theorem Vals.rep {xs : List V} {us : List Value} (h : Vals xs us) : ∀ k : Nat, Vals (List.replicate k xs).flatten (List.replicate k us).flatten
  | 0 => .nil
  | k + 1 => by
    rw [List.replicate_succ, List.replicate_succ, List.flatten_cons, List.flatten_cons]
    exact Vals.append h (Vals.rep h k)
theorem foldl_rep (its : List Value) : ∀ (k : Nat) (acc : List Value),
    List.foldl (fun x1 x2 => x1 ++ x2) acc.toArray (List.replicate k its.toArray) = (acc ++ (List.replicate k its).flatten).toArray
  | 0, acc => by simp
  | k + 1, acc => by
    have e : acc.toArray ++ its.toArray = (acc ++ its).toArray := by simp
    have e2 : (acc ++ its) ++ (List.replicate k its).flatten = acc ++ (List.replicate (k + 1) its).flatten := by
      rw [List.replicate_succ, List.flatten_cons, List.append_assoc]
    rw [← e2, ← foldl_rep its k (acc ++ its), ← e, List.replicate_succ, List.foldl_cons]
section
variable {X : Cx} {pins : List (Addr × Obj)} {σ : St} {H : Hp} {s : Shared} {l b : Addr} {xs ys zs : List V}
theorem Inv.lset {its its' : List Value} {n : Nat} {f : Array Value → Array Value} {t' : Nat} (I : Inv X pins σ H s) (hH : H l = some (.lst xs))
    (e : s.heap.get? l = some { cls := .type "list", data := .seq its.toArray n }) (hf : f its.toArray = its'.toArray) (hv : Vals ys its') (hz : ys.length ≤ sizeLine) :
    Inv X pins σ (upd H l (.lst ys)) { s with heap := s.heap.update l (Obj.mapSeq f), toks := t' } := by
  have q := PySem.IsL.update e f
  rw [hf] at q
  refine I.write (x := l) (e := l) (by rw [hH]; exact trivial) (.inl rfl) (fun b' u hb hu => (Heap.get?_update_other s.heap (Obj.mapSeq f) (Ne.symm hb)).trans hu) ⟨_, q⟩ ?_
  exact ⟨hz, its', _, hv, q⟩
theorem Inv.lnew {its : List Value} {t' : Nat} (I : Inv X pins σ H s) (hv : Vals ys its) (hz : ys.length ≤ sizeLine) :
    Inv X pins σ (upd H s.heap.objs.size (.lst ys)) { s with heap := s.heap.push { cls := .type "list", data := .seq its.toArray }, toks := t' } :=
  I.laid (fun _ _ q => Heap.get?_push_of_some _ q) (Nat.le_refl _) ⟨hz, its, 0, hv, Heap.get?_push_size _ rfl⟩
theorem Inv.fresh (I : Inv X pins σ H s) : H s.heap.objs.size = none := I.hok.fresh (Nat.le_refl _)
theorem Inv.lstM (I : Inv X pins σ H s) (hH : H l = some (.lst xs)) : xs.length ≤ sizeLine ∧ ∃ (its : List Value) (n : Nat), Vals xs its ∧ xs.length = its.length ∧ s.heap.get? l = some { cls := .type "list", data := .seq its.toArray n } := by
  obtain ⟨z, its, n, r, e⟩ := I.hok l _ hH
  exact ⟨z, its, n, r, r.length, e⟩
end
section
variable {X : Cx}
def rAppend : V → List V → Hp → VK → Prop := fun x vs H Q => ∃ l xs y, x = .ref l ∧ vs = [y] ∧ H l = some (.lst xs) ∧ xs.length < sizeLine ∧ Q .non (upd H l (.lst (xs ++ [y])))
theorem mt_append : MtM X "list.append" rAppend := by
  intro pins s σ H x vs v us Q I rx rv h
  obtain ⟨l, xs, y, rfl, rfl, hH, hz, q⟩ := h
  cases rx
  obtain ⟨u, rfl, ru⟩ := rv.one
  obtain ⟨z, its, n, r, hl, e⟩ := I.lstM hH
  refine call_meets F.slot_list_append ⟨_, e, rfl⟩ F.entry_list_append (F.args_list_append_2 _ _) (PySem.list_append l its.toArray n u (by rw [List.size_toArray]; omega)) ⟨e, ?_⟩
  refine ⟨.non, _, I.lset (its' := its ++ [u]) hH e (by simp) (r.append (.cons ru .nil)) ?_, rfl, q⟩
  rw [List.length_append, List.length_singleton]
  omega
def rExtend : V → List V → Hp → VK → Prop := fun x vs H Q => ∃ l b xs zs, x = .ref l ∧ vs = [.ref b] ∧ H l = some (.lst xs) ∧ H b = some (.lst zs) ∧ xs.length + zs.length ≤ sizeLine ∧ Q .non (upd H l (.lst (xs ++ zs)))
def rPop : V → List V → Hp → VK → Prop := fun x vs H Q => ∃ l xs y, x = .ref l ∧ vs = [] ∧ H l = some (.lst xs) ∧ xs[xs.length - 1]? = some y ∧ Q y (upd H l (.lst xs.dropLast))
def rPopAt : V → List V → Hp → VK → Prop := fun x vs H Q => ∃ l xs i k y, x = .ref l ∧ vs = [.int i] ∧ H l = some (.lst xs) ∧ -(2 ^ 63) ≤ i ∧ i < 2 ^ 63 ∧ seqIndex? i xs.length = some k ∧ xs[k]? = some y ∧ Q y (upd H l (.lst (xs.eraseIdx k)))
def rReverse : V → List V → Hp → VK → Prop := fun x vs H Q => ∃ l xs, x = .ref l ∧ vs = [] ∧ H l = some (.lst xs) ∧ Q .non (upd H l (.lst xs.reverse))
def rClear : V → List V → Hp → VK → Prop := fun x vs H Q => ∃ l xs, x = .ref l ∧ vs = [] ∧ H l = some (.lst xs) ∧ Q .non (upd H l (.lst []))
def rCat : R2 := fun x y H Q => ∃ l b xs zs, x = .ref l ∧ y = .ref b ∧ H l = some (.lst xs) ∧ H b = some (.lst zs) ∧ xs.length + zs.length ≤ sizeLine ∧ ∀ p, H p = none → Q (.ref p) (upd H p (.lst (xs ++ zs)))
def rRep : R2 := fun x y H Q => ∃ l k xs, x = .ref l ∧ y = .int k ∧ H l = some (.lst xs) ∧ -(2 ^ 63) ≤ k ∧ k < 2 ^ 63 ∧ xs.length * k.toNat ≤ sizeLine ∧
  ∀ p, H p = none → Q (.ref p) (upd H p (.lst (List.replicate k.toNat xs).flatten))
theorem len_rep {α : Type} (xs : List α) (k : Nat) : (List.replicate k xs).flatten.length = k * xs.length := by
  induction k with
  | zero => simp
  | succ k ih => rw [List.replicate_succ, List.flatten_cons, List.length_append, ih, Nat.succ_mul, Nat.add_comm]
end
section
variable {prog : Program} {w : World} {A : Around} {E : Value → Shared → Prop} {s : Shared}
end
section
variable {X : Cx}
end
end L2
namespace Att
open PySem PySem.W PySem.Calls PyProof.Rows
theorem ints_of_wellAll {P : Params} {h : Heap} : ∀ (ns : List Int) (vs : List Value), WellAll P h vs (ns.map WData.int) → IntsAre vs ns := by
  intro ns
  induction ns with
  | nil =>
    intro vs w
    rw [List.map_nil] at w
    cases w
    exact .nil
  | cons n ns ih =>
    intro vs w
    rw [List.map_cons] at w
    cases w with
    | cons a b =>
      cases a
      exact .cons _ _ (ih _ b)
theorem script_of {l : OpenLaw} {n : Nat} (hn : l.most = some n) {P : Params} {h : Heap} {args : List WData} {vals : List Value}
    (hpre : l.row.toRowW.claim.pre args = true) (hwl : WellAll P h vals args) :
    ∃ a vs ns, vals = [Value.ref a] ∧ args = [WData.list (ns.map WData.int)] ∧ h.get? a = some { cls := .type "list", data := .seq vs.toArray } ∧ IntsAre vs ns ∧ ns.length ≤ n := by
  have hsh : WShape.hasAll [] args [.list .int] = true := (pre_splitW hpre).1
  have hc : l.pre.holds [] { args := args } = true := (pre_splitW hpre).2
  obtain ⟨d, r, rfl, h1, h2⟩ := hasAllW_cons hsh
  obtain rfl := hasAllW_nil h2
  obtain ⟨xs, rfl, h3⟩ := hasW_list h1
  obtain ⟨ns, rfl⟩ := items_int h3
  have hlen : ns.length ≤ n := by
    unfold OpenLaw.pre at hc
    have h4 : (WTm.not (.lt (.lit (.int (n : Int))) (.len (.arg 0)))).holds [] { args := [.list (ns.map .int)] } = true := by
      have h4 := (holds_andW hc).1
      rw [hn] at h4
      exact h4
    have h5 := condW_of h4 (w_not (w_lt w_lit (w_len_list (w_arg rfl))))
    rw [List.length_map] at h5
    refine Nat.le_of_not_lt fun q => ?_
    have q' : (n : Int) < ((ns.length : Nat) : Int) := by omega
    first
      | (rw [decide_eq_true q'] at h5; exact absurd h5 (by decide))
      | (simp at h5; omega)
  cases hwl with
  | cons w1 w2 =>
    cases w2
    cases w1 with
    | list ho hall => exact ⟨_, _, ns, rfl, rfl, ho, ints_of_wellAll ns _ hall, hlen⟩
theorem post_true (l : OpenLaw) (args : List WData) : l.row.toRowW.claim.post args (.bool true) args = true :=
  postW_of (r := l.row.toRowW) (X := (true == true))
    (show WShape.has [] (.bool true) .bool = true by first | rfl | decide | simp [WShape.has, WShape.arms, WShape.armsAll])
    (show (WTm.eq .res (.lit (.bool true))).value [] { args := args, res := some (.bool true), after := args } = some (.bool (true == true)) from w_eq_bool (w_res rfl) w_lit) rfl
theorem attach_call {l : OpenLaw} {n : Nat} {q : Program} {loose : List Str} {XP : (Str → Option Value) → Heap → Prop} {YP : World → Heap → Prop} {d : DefRec}
    (hn : l.most = some n) (hdf : d.params.defaults = [])
    (call : ∀ (w : World) (s₀ s₁ : Shared) (mg mb : Str → Option Value) (fa : Addr) (o : Obj) (pm cd doc : Value) (a : Addr) (vs : List Value) (ns : List Int),
      Ground q loose [] XP w s₀ mg mb s₁.heap → YP w s₁.heap →
      s₁.heap.get? fa = some o → o.data = .func (docDef d.name d.params d.body d.scope pm cd doc) → s₁.heap.CodeRec cd d.name → mg d.name = some (.ref fa) →
      s₁.heap.get? a = some { cls := .type "list", data := .seq vs.toArray } → IntsAre vs ns → ns.length ≤ n → s₁.gens = #[] →
      codeAny (model l.prog w) callerA (.call (.ref fa) ⟨[.ref a], []⟩) (fun r s' => r = .ok (.ret (.bool true)) ∧ OldK s₁.heap s'.heap ∧ s'.os = s₁.os ∧ AllBare s'.gens) s₁) :
    WalkO q loose XP YP l.row.toRowW d [] (fun f vs => PySem.call f vs) := by
  intro w s₀ s₁ mg mb G Y fa o pm cd doc dV kV ho hd hcd hD hmg hg args vals as hpre hlay hrd hwl hlo
  obtain rfl : dV = .none := Dflts.none hD hdf
  obtain rfl : kV = .none := Dflts.noKw hD
  obtain ⟨a, vs, ns, rfl, rfl, hobj, hints, hlen⟩ := script_of hn hpre hwl
  refine enter_call (codeAny_mono (call w s₀ s₁ mg mb fa o pm cd doc a vs ns G Y ho (fd_plain hd) hcd hmg hobj hints hlen hg) fun r s' hq => ?_)
  obtain ⟨rfl, h2, h3, h4⟩ := hq
  exact ⟨.inl ⟨.bool true, .bool true, [], rfl, fun _ => rfl, .bool true, post_true l _, fun _ => ⟨List.Pairwise.nil, fun _ hm => (nomatch hm)⟩⟩, h2, h3, h4⟩
section
variable {prog : Program} {w : World} {A : Around} {E : Value → Shared → Prop} {s : Shared} {K : Frag}
def noObjs (h : Heap) : Heap := { h with objs := #[] }
def ledger (h : Heap) (L d : Addr) : List (Addr × Obj) := (List.range h.objs.size).filterMap fun a => if a = L ∨ a = d then none else (h.get? a).map fun o => (a, o)
end
end Att
namespace L2
open PySem PySem.Spec PyProof.Rows
theorem vals_ints : ∀ {vs : List Value} {ns : List Int}, IntsAre vs ns → Vals (ns.map V.int) vs
  | _, _, .nil => .nil
  | _, _, .cons n t h => .cons ⟨t, rfl⟩ (vals_ints h)
def Only (H : Hp) : Prop := ∀ b, H b = none ∨ ∃ o xs, H b = some (.frz o (.lst xs))
theorem law_call {P : Program} {w : World} {K : PySem.W.Frag} {mg mb : Str → Option Value} {CX : CXT} {k : Nat} {fa a : Addr} {fd : FuncData} {x : Str} {sp : Sp} {s₁ : Shared} {vs : List Value} {ns : List Int}
    (KX : K.In s₁.heap) (hns : s₁.heap.Ns mainGlobals mg) (hb : s₁.heap.Ns builtinsNs mb) (hbb : ∀ x : Str, x ≠ "__name__" → mb x = bootBuiltins x) (hlim : s₁.heap.NoLimit) (hg : s₁.gens = #[])
    (ha : s₁.heap.get? a = some { cls := .type "list", data := .seq vs.toArray }) (hi : IntsAre vs ns) (hl : ns.length ≤ sizeLine) (hr : Room k callerA)
    (F : ∀ base : Heap, K.In base → base.Ns mainGlobals mg → FnOk P w K mg base CX k fa fd [x] sp) (hbind : ∀ (s : Shared) (u : Value), BindsTo s fd ⟨[u], []⟩ [(x, u)])
    (hsp : ∀ H : Hp, Only H → SqL K H a (ns.map V.int) → sp [.ref a] H (fun v _ => v = .bl true) fun _ _ _ => False)
    (hCX : ∀ H e s', CX [] H s₁ (fun _ _ _ => False) e s' → False) :
    codeAny (model P w) callerA (.call (.ref fa) ⟨[.ref a], []⟩) (fun r s' => r = .ok (.ret (.bool true)) ∧ OldK s₁.heap s'.heap ∧ s'.os = s₁.os ∧ AllBare s'.gens) s₁ := by
  have rv := vals_ints hi
  have lenV := hi.length
  -- from an abstract heap in which nothing but the script may be tracked
  have core : ∀ H : Hp, Only H → SqL K H a (ns.map V.int) → HOk P w H s₁.heap → (∀ b, H b ≠ none → b = a) → (H a ≠ none → K.lookup a = none) →
      codeAny (model P w) callerA (.call (.ref fa) ⟨[.ref a], []⟩) (fun r s' => r = .ok (.ret (.bool true)) ∧ OldK s₁.heap s'.heap ∧ s'.os = s₁.os ∧ AllBare s'.gens) s₁ := by
    intro H hO hS hok hA hK
    have base_of : ∀ {b : Addr} {o : Obj}, s₁.heap.get? b = some o → H b = none → (hidT s₁.heap H).get? b = some o := fun e n => hidT_get e n
    have noA : ∀ {b : Addr} {o : Obj} {es : Array DictEntry} {ep : Nat}, s₁.heap.get? b = some o → o.data = .dict es ep → H b = none := fun {b o es ep} e d => by
      cases q : H b with
      | none => rfl
      | some u =>
        have e' : b = a := hA b (by rw [q]; simp)
        subst e'
        rw [ha] at e; cases e
        have d' : Data.seq vs.toArray _ = Data.dict es ep := d
        cases d'
    have nsK : ∀ {b : Addr} {m : Str → Option Value}, s₁.heap.Ns b m → (hidT s₁.heap H).Ns b m := fun {b m} ⟨o, es, ep, e, d, r⟩ => ⟨o, es, ep, base_of e (noA e d), d, r⟩
    have hKb : K.In (hidT s₁.heap H) := fun b o e => base_of (KX b o e) (by
      cases q : H b with
      | none => rfl
      | some u =>
        have e' : b = a := hA b (by rw [q]; simp)
        subst e'
        rw [hK (by rw [q]; simp)] at e; cases e)
    have hM : Mod K mg (hidT s₁.heap H) := ⟨hKb, nsK hns, ⟨mb, nsK hb, hbb⟩, let ⟨mc, h1, h2⟩ := hlim; ⟨mc, nsK h1, h2⟩⟩
    have e0 : Env0 P w K mg (hidT s₁.heap H) callerA [] s₁ H := ⟨rfl, hM, fun b o e => of_hidT e, Nat.le_of_eq (hidT_size _ _), trivial, fun b hb => absurd (show b ∈ ([] : List Addr) from hb) (by simp), hok, .of_eq hg⟩
    refine codeAny_mono ((F _ hKb (nsK hns)).run callerA [] s₁ H ⟨[.ref a], []⟩ [.ref a] [.ref a] _ _ hr e0 (hbind s₁ (.ref a)) (.cons rfl .nil) (hsp H hO hS)) fun r s' h => ?_
    cases r with
    | error e => exact (hCX H e s' h).elim
    | ok fl =>
      cases fl with
      | next => exact False.elim h
      | brk => exact False.elim h
      | cont => exact False.elim h
      | ret u =>
        obtain ⟨v, H', os, bare, un, hok', r', q⟩ := h
        have q' : v = .bl true := q
        subst q'
        obtain rfl : u = Value.bool true := r'
        refine ⟨rfl, OldK.of_keep fun b o e => ?_, os, bare⟩
        cases q : H b with
        | none => exact un.keep b o e q (by intro z; exact absurd (show b ∈ ([] : List Addr) from z) (by simp)) (by simp)
        | some u =>
          rcases hO b with z | ⟨ob, xs, z⟩
          · rw [q] at z; cases z
          · have z2 := un.frzs b ob _ z
            obtain ⟨e1, _⟩ := hok b _ z
            obtain ⟨e2, _⟩ := hok' b _ z2
            rw [e] at e1; cases e1
            exact e2
  cases hk : K.lookup a with
  | some o =>
    -- the script is one of the module's own objects
    have e := KX a o hk
    rw [ha] at e
    cases e
    refine core (fun _ => none) (fun _ => .inl rfl) (.inr ⟨_, vs.toArray, _, hk, rfl, rfl, rfl, by rw [List.size_toArray, lenV]; exact hl, by simpa using rv⟩) (fun b u z => by have z' : (none : Option HO) = some u := z; cases z') (fun b z => absurd rfl z) fun z => absurd rfl z
  | none =>
    refine core (fun b => if b = a then some (.frz { cls := .type "list", data := .seq vs.toArray } (.lst (ns.map V.int))) else none) (fun b => ?_) (.inl (.inr ⟨{ cls := .type "list", data := .seq vs.toArray }, if_pos rfl⟩)) (fun b u z => ?_) (fun b z => ?_) fun _ => hk
    · by_cases hb : b = a
      · exact .inr ⟨_, _, if_pos hb⟩
      · exact .inl (if_neg hb)
    · by_cases hb : b = a
      · have z' := (if_pos hb).symm.trans z
        cases z'
        subst hb
        exact ⟨ha, by rw [List.length_map]; exact hl, vs, _, rv, ha⟩
      · have z' := (if_neg hb).symm.trans z
        cases z'
    · by_cases hb : b = a
      · exact hb
      · exact absurd (if_neg hb) z
end L2
namespace L2
open PySem PySem.Spec PyProof.Rows
abbrev KOf {K : PySem.W.Frag} {h : Heap} (_ : K.In h) : PySem.W.Frag := K
theorem walk_of {l : PySem.W.OpenLaw} {n k : Nat} {q : Program} {loose : List Str} {XP : (Str → Option Value) → Heap → Prop} {YP : World → Heap → Prop} {d : DefRec} {K : Params → PySem.W.Frag} {CX : World → CXT} {sp : World → Sp} {x : Str}
    (hn : l.most = some n) (hn2 : n ≤ sizeLine) (hdf : d.params.defaults = []) (hr : Room k callerA)
    (hY : ∀ (w : World) (h : Heap), YP w h → (K w.params).In h)
    (F : ∀ (w : World) (mg : Str → Option Value) (fa : Addr) (h : Heap), (K w.params).In h → h.Ns mainGlobals mg → mg d.name = some (.ref fa) →
      ∃ fd : FuncData, (∀ (s : Shared) (u : Value), BindsTo s fd ⟨[u], []⟩ [(x, u)]) ∧
        ∀ base : Heap, (K w.params).In base → base.Ns mainGlobals mg → FnOk l.prog w (K w.params) mg base (CX w) k fa fd [x] (sp w))
    (hsp : ∀ (w : World) (H : Hp) (a : Addr) (ns : List Int), ns.length ≤ n → Only H → SqL (K w.params) H a (ns.map V.int) → sp w [.ref a] H (fun v _ => v = .bl true) fun _ _ _ => False)
    (hCX : ∀ (w : World) (H : Hp) (s : Shared) (e : Value) (s' : Shared), CX w [] H s (fun _ _ _ => False) e s' → False) :
    PySem.W.WalkO q loose XP YP l.row.toRowW d [] (fun f vs => PySem.call f vs) := by
  refine Att.attach_call hn hdf fun w s₀ s₁ mg mb fa o pm cd doc a vs ns G Y ho hd hcd hmg hobj hints hlen hg => ?_
  have KX := hY w _ Y
  obtain ⟨fd, hb, hF⟩ := F w mg fa _ KX G.T.g hmg
  exact law_call KX G.T.g G.T.b G.T.builtins G.T.nolimit hg hobj hints (Nat.le_trans hlen hn2) hr hF hb (fun H hO hS => hsp w H a ns hlen hO hS) fun H e s' => hCX w H s₁ e s'
theorem walk_ofK {l : PySem.W.OpenLaw} {n k : Nat} {q : Program} {loose : List Str} {XP : (Str → Option Value) → Heap → Prop} {YP : World → Heap → Prop} {d : DefRec} {K : Params → PySem.W.Frag} {CX : CXT} {sp : PySem.W.Frag → Sp} {x : Str}
    (hn : l.most = some n) (hn2 : n ≤ sizeLine) (hdf : d.params.defaults = []) (hr : Room k callerA)
    (hY : ∀ (w : World) (h : Heap), YP w h → (K w.params).In h)
    (F : ∀ (w : World) (mg : Str → Option Value) (fa : Addr) (h : Heap), (K w.params).In h → h.Ns mainGlobals mg → mg d.name = some (.ref fa) →
      ∃ fd : FuncData, (∀ (s : Shared) (u : Value), BindsTo s fd ⟨[u], []⟩ [(x, u)]) ∧
        ∀ base : Heap, (K w.params).In base → base.Ns mainGlobals mg → FnOk l.prog w (K w.params) mg base CX k fa fd [x] (sp (K w.params)))
    (hsp : ∀ (K : PySem.W.Frag) (H : Hp) (a : Addr) (ns : List Int), ns.length ≤ n → Only H → SqL K H a (ns.map V.int) → sp K [.ref a] H (fun v _ => v = .bl true) fun _ _ _ => False)
    (hCX : ∀ (H : Hp) (s : Shared) (e : Value) (s' : Shared), CX [] H s (fun _ _ _ => False) e s' → False) :
    PySem.W.WalkO q loose XP YP l.row.toRowW d [] (fun f vs => PySem.call f vs) :=
  walk_of (K := K) (CX := fun _ => CX) (sp := fun w => sp (K w.params)) hn hn2 hdf hr hY F (fun w H a ns h1 h2 h3 => hsp (K w.params) H a ns h1 h2 h3) fun _ H s e s' => hCX H s e s'
end L2
namespace L2
open PySem PySem.Spec PyProof.Rows
def inClass (s : Stmt) (j : Nat) : Stmt := match s with
  | .ClassDef _ _ _ body _ _ _ _ _ _ _ => body.getD j (.Pass ⟨0, 0, 0, 0⟩)
  | _ => .Pass ⟨0, 0, 0, 0⟩
def defArgs (s : Stmt) : Arguments := match s with
  | .FunctionDef _ a _ _ _ _ _ _ _ _ => a
  | _ => { posonlyargs := [], args := [], vararg := none, kwonlyargs := [], kw_defaults := [], kwarg := none, defaults := [] }
def defBody (s : Stmt) : List Stmt := match s with
  | .FunctionDef _ _ b _ _ _ _ _ _ _ => b
  | _ => []
def defScope (s : Stmt) : Scope := match s with
  | .FunctionDef _ _ _ _ _ _ sc _ _ _ => sc
  | _ => { kind := .function, names := [], isGenerator := false, isCoroutine := false }
abbrev CX0 : CXT := fun _ _ _ _ _ _ => False
abbrev E0 : XK := fun _ _ _ => False
theorem pass0 {X : Cx} : Passes CX0 X E0 := fun _ _ _ _ _ _ _ h => h.elim
structure Fun (K : PySem.W.Frag) (x qual : Str) (st : Stmt) (f : Addr) (fd : FuncData) : Prop where
  ex : ∃ (oc : Value) (od : Option Addr) (kV doc pm : Value) (an : Option Addr) (cdv ct : Value) (osl : Array (Option Value)),
    fd = PySem.W.fnOf x qual (defArgs st) (defBody st) (defScope st) .none kV doc pm an cdv ct ∧ K.lookup f = some ⟨oc, od, .func fd, osl⟩ ∧ PySem.W.codeIn K cdv qual = true
  kp : PySem.W.keepIn K (.ref f) = true
section
variable {P : Program} {w : World} {K : PySem.W.Frag} {mg : Str → Option Value} {base : Heap}
theorem Fun.ok {x qual : Str} {st : Stmt} {f : Addr} {fd : FuncData} {N ps : List Str} {k : Nat} {sp : Sp} (F : Fun K x qual st f fd) (S : FnScope N ps (defScope st)) (len : ∀ vs H Q E, sp vs H Q E → vs.length = ps.length)
    (hbody : ∀ (cdv : Value) (A : Around) (outer : List Env) (s : Shared) (H : Hp) (vs : List V) (Q : VK) (E : XK), Room k (A.deeper (envOfC qual (defScope st) s.heap.objs.size f cdv)) → sp vs H Q E →
      ∃ t, PSs (cxOf CX0 P w K mg base N qual (defScope st) f cdv A outer s H E).nox (defBody st) t ∧ t { nx := fun _ H' => Q .non H', rt := Q } (start N vs) H) : FnOk P w K mg base CX0 (k + 1) f fd ps sp := by
  obtain ⟨oc, od, kV, doc, pm, an, cdv, ct, osl, rfl, lk, hcd⟩ := F.ex
  refine fn_of lk hcd S len fun A outer s H vs Q E hr hsp => ?_
  obtain ⟨t, h, q⟩ := hbody cdv A outer s H vs Q E hr hsp
  exact ⟨t, h.nox, q⟩
theorem Fun.binds {x qual : Str} {st : Stmt} {f : Addr} {fd : FuncData} {ps : List Str} (F : Fun K x qual st f fd)
    (h : ∀ (kV doc pm : Value) (an : Option Addr) (cdv ct : Value) (us : List Value), us.length = ps.length → bindArgs (PySem.W.fnOf x qual (defArgs st) (defBody st) (defScope st) .none kV doc pm an cdv ct) ⟨us, []⟩ = pure (ps.zip us)) : Binds K fd ps [] := by
  obtain ⟨oc, od, kV, doc, pm, an, cdv, ct, osl, rfl, lk, hcd⟩ := F.ex
  exact .all (h kV doc pm an cdv ct)
theorem fun_mk {x qual : Str} {st : Stmt} {f : Addr} {oc : Value} {od an : Option Addr} {osl : Array (Option Value)} {kV doc pm cdv ct : Value} (l : K.lookup f = some ⟨oc, od, .func (PySem.W.fnOf x qual (defArgs st) (defBody st) (defScope st) .none kV doc pm an cdv ct), osl⟩)
    (c : PySem.W.codeIn K cdv qual = true) (k : PySem.W.keepIn K (.ref f) = true) : Fun K x qual st f (PySem.W.fnOf x qual (defArgs st) (defBody st) (defScope st) .none kV doc pm an cdv ct) := ⟨⟨oc, od, kV, doc, pm, an, cdv, ct, osl, rfl, l, c⟩, k⟩
end
section
variable {X : Cx}
theorem pv (i : Nat) {x : Str} {pos : Pos} (hN : X.N[i]? = some x := by rfl) (hv : Vis X.env.scope x := by first | exact Or.inl rfl | exact Or.inr (Or.inl rfl) | exact Or.inr (Or.inr rfl)) (hd : (x == ("__debug__" : Str)) = false := by decide)
    (hcd : (x == ("__classdict__" : Str)) = false := by decide) : PE X (.Name x pos) (tVar i) := pe_var hN hv hd hcd
end
def Same (H H' : Hp) : Prop := ∀ b o, H b = some o → H' b = some o
theorem Same.refl (H : Hp) : Same H H := fun _ _ h => h
theorem Same.trans {H H1 H2 : Hp} (a : Same H H1) (b : Same H1 H2) : Same H H2 := fun c o h => b c o (a c o h)
theorem Same.free {H H' : Hp} (e : Same H H') {l : Addr} (h : H' l = Option.none) : H l = Option.none := by
  cases q : H l with
  | none => rfl
  | some o =>
    rw [e l o q] at h
    cases h
theorem Same.seq {K : PySem.W.Frag} {H H' : Hp} {a : Addr} {xs : List V} (e : Same H H') (h : SqL K H a xs) : SqL K H' a xs := by
  rcases h with (h | ⟨o, h⟩) | h
  · exact .inl (.inl (e _ _ h))
  · exact .inl (.inr ⟨o, e _ _ h⟩)
  · exact .inr h
end L2
set_option maxHeartbeats 4000000
namespace L2
open PySem PySem.Spec PyProof.Rows
section
variable {κ : Type} [DecidableEq κ]
def valV (kvs : List (κ × V)) (k : κ) : Option V := (kvs.find? fun kv => decide (kv.1 = k)).map (·.2)
def putK (kvs : List (κ × V)) (k : κ) (v : V) : List (κ × V) :=
  if (kvs.any fun kv => decide (kv.1 = k)) = true then kvs.map (fun kv => if kv.1 = k then (kv.1, v) else kv) else kvs ++ [(k, v)]
def dropK (kvs : List (κ × V)) (k : κ) : List (κ × V) := kvs.filter fun kv => decide (kv.1 ≠ k)
theorem valV_pos {p : κ × V} {r : List (κ × V)} {k : κ} (e : p.1 = k) : valV (p :: r) k = some p.2 := by simp [valV, List.find?_cons, e]
theorem valV_neg {p : κ × V} {r : List (κ × V)} {k : κ} (e : ¬ p.1 = k) : valV (p :: r) k = valV r k := by simp [valV, List.find?_cons, e]
theorem valV_any (k : κ) : ∀ kvs : List (κ × V), (kvs.any fun kv => decide (kv.1 = k)) = (valV kvs k).isSome
  | [] => rfl
  | p :: r => by
    rw [List.any_cons]
    by_cases e : p.1 = k
    · simp only [valV_pos e, decide_eq_true e, Bool.true_or, Option.isSome_some]
    · rw [valV_neg e, decide_eq_false e, Bool.false_or]; exact valV_any k r
theorem RelO.isSome_eq {o : Option V} {u : Option Value} (r : RelO o u) : o.isSome = u.isSome := by
  cases o with
  | none => cases u with
    | none => rfl
    | some _ => exact (show False from r).elim
  | some _ => cases u with
    | none => exact (show False from r).elim
    | some _ => rfl
theorem RelO.getD {o : Option V} {u : Option Value} {d : V} {d' : Value} (r : RelO o u) (rd : RelV d d') : RelV (o.getD d) (u.getD d') := by
  cases o with
  | none => cases u with
    | none => exact rd
    | some _ => exact (show False from r).elim
  | some _ => cases u with
    | none => exact (show False from r).elim
    | some _ => exact r
theorem KV.val {kvs : List (κ × V)} {vs : List (κ × Value)} (r : KV kvs vs) (k : κ) : RelO (valV kvs k) (valueAt vs k) := by
  unfold KV at r
  induction r with
  | nil => exact True.intro
  | @cons p q ps qs h t ih =>
    obtain ⟨h1, h2⟩ := h
    by_cases e : p.1 = k
    · have e' : q.1 = k := h1.symm.trans e
      have b : valueAt (q :: qs) k = some q.2 := by simp [valueAt, List.find?_cons, e']
      rw [valV_pos e, b]; exact h2
    · have e' : ¬ q.1 = k := fun z => e (h1.trans z)
      have b : valueAt (q :: qs) k = valueAt qs k := by simp [valueAt, List.find?_cons, e']
      rw [valV_neg e, b]; exact ih
theorem KV.any {kvs : List (κ × V)} {vs : List (κ × Value)} (r : KV kvs vs) (k : κ) : (kvs.any fun kv => decide (kv.1 = k)) = vs.any fun kv => decide (kv.1 = k) := by
  unfold KV at r
  induction r with
  | nil => rfl
  | cons h t ih => rw [List.any_cons, List.any_cons, ih, h.1]
theorem KV.repl {kvs : List (κ × V)} {vs : List (κ × Value)} (r : KV kvs vs) (k : κ) {y : V} {u : Value} (ry : RelV y u) :
    KV (kvs.map fun kv => if kv.1 = k then (kv.1, y) else kv) (vs.map fun kv => if kv.1 = k then (kv.1, u) else kv) := by
  unfold KV at r ⊢
  induction r with
  | nil => exact .nil
  | @cons p q ps qs h t ih =>
    rw [List.map_cons, List.map_cons]
    refine .cons ?_ ih
    obtain ⟨h1, h2⟩ := h
    by_cases e : p.1 = k
    · rw [if_pos e, if_pos (h1.symm.trans e)]; exact ⟨h1, ry⟩
    · rw [if_neg e, if_neg (fun z => e (h1.trans z))]; exact ⟨h1, h2⟩
theorem KV.put {kvs : List (κ × V)} {vs : List (κ × Value)} (r : KV kvs vs) (k : κ) {y : V} {u : Value} (ry : RelV y u) : KV (putK kvs k y) (stored vs k u) := by
  unfold putK stored
  rw [r.any k]
  by_cases e : (vs.any fun kv => decide (kv.1 = k)) = true
  · rw [if_pos e, if_pos e]; exact r.repl k ry
  · rw [if_neg e, if_neg e]; exact Paired.snoc r ⟨rfl, ry⟩
theorem KV.drop {kvs : List (κ × V)} {vs : List (κ × Value)} (r : KV kvs vs) (k : κ) : KV (dropK kvs k) (without vs k) := by
  unfold KV at r ⊢
  unfold dropK without
  induction r with
  | nil => exact .nil
  | @cons p q ps qs h t ih =>
    obtain ⟨h1, h2⟩ := h
    rw [List.filter_cons, List.filter_cons]
    by_cases e : p.1 = k
    · have a : ¬ decide (p.1 ≠ k) = true := by simp [e]
      have b : ¬ decide (q.1 ≠ k) = true := by simp [h1.symm.trans e]
      rw [if_neg a, if_neg b]; exact ih
    · have e' : ¬ q.1 = k := fun z => e (h1.trans z)
      have a : decide (p.1 ≠ k) = true := by simp [e]
      have b : decide (q.1 ≠ k) = true := by simp [e']
      rw [if_pos a, if_pos b]; exact .cons ⟨h1, h2⟩ ih
theorem KV.keys {kvs : List (κ × V)} {vs : List (κ × Value)} (r : KV kvs vs) : kvs.map (·.1) = vs.map (·.1) := by
  unfold KV at r
  induction r with
  | nil => rfl
  | cons h t ih => rw [List.map_cons, List.map_cons, ih, h.1]
theorem KV.length {kvs : List (κ × V)} {vs : List (κ × Value)} (r : KV kvs vs) : kvs.length = vs.length := Paired.length r
end
abbrev KT (H : Hp) : List (List Key × V) → List (List Key × Addr × Value) → Prop := Paired fun p q => p.1 = q.1 ∧ H q.2.1 = some (.tup (p.1.map kV)) ∧ RelV p.2 q.2.2
theorem KT.val {H : Hp} {kvs : List (List Key × V)} {xs : List (List Key × Addr × Value)} (r : KT H kvs xs) (k : List Key) : RelO (valV kvs k) ((atKey xs k).map (·.2)) := by
  induction r with
  | nil => exact True.intro
  | @cons p q ps qs h t ih =>
    obtain ⟨h1, _, h2⟩ := h
    by_cases e : p.1 = k
    · have e' : q.1 = k := h1.symm.trans e
      have b : atKey (q :: qs) k = some q.2 := by simp [atKey, List.find?_cons, e']
      rw [valV_pos e, b]; exact h2
    · have e' : ¬ q.1 = k := fun z => e (h1.trans z)
      have b : atKey (q :: qs) k = atKey qs k := by simp [atKey, List.find?_cons, e']
      rw [valV_neg e, b]; exact ih
theorem KT.repl {H : Hp} {kvs : List (List Key × V)} {xs : List (List Key × Addr × Value)} (r : KT H kvs xs) (k : List Key) {y : V} {u : Value} (ry : RelV y u) :
    KT H (kvs.map fun kv => if kv.1 = k then (kv.1, y) else kv) (xs.map (putAt k u)) := by
  induction r with
  | nil => exact .nil
  | @cons p q ps qs h t ih =>
    rw [List.map_cons, List.map_cons]
    refine .cons ?_ ih
    obtain ⟨h1, h2, h3⟩ := h
    unfold putAt
    by_cases e : p.1 = k
    · rw [if_pos e, if_pos (h1.symm.trans e)]; exact ⟨h1, h2, ry⟩
    · rw [if_neg e, if_neg (fun z => e (h1.trans z))]; exact ⟨h1, h2, h3⟩
theorem KT.put {H : Hp} {kvs : List (List Key × V)} {xs : List (List Key × Addr × Value)} (r : KT H kvs xs) (k : List Key) {b : Addr} {y : V} {u : Value} (hb : H b = some (.tup (k.map kV))) (ry : RelV y u) :
    KT H (putK kvs k y) (storedH xs k b u) := by
  have e : (kvs.any fun kv => decide (kv.1 = k)) = (atKey xs k).isSome := by
    rw [valV_any, (r.val k).isSome_eq, Option.isSome_map]
  unfold putK storedH
  rw [e]
  by_cases q : (atKey xs k).isSome = true
  · rw [if_pos q, if_pos q]; exact r.repl k ry
  · rw [if_neg q, if_neg q]; exact Paired.snoc r ⟨rfl, hb, ry⟩
theorem KT.keeps {H H' : Hp} {kvs : List (List Key × V)} {xs : List (List Key × Addr × Value)} (r : KT H kvs xs) (ht : ∀ b ys, H b = some (.tup ys) → H' b = some (.tup ys)) : KT H' kvs xs :=
  Paired.mapP r fun _ _ z => ⟨z.1, ht _ _ z.2.1, z.2.2⟩
section
variable {P : Program} {w : World} {H : Hp} {h : Heap} {a : Addr}
end
def DGet (H : Hp) (a : Addr) (y : V) (r : Option V) : Prop :=
  (∃ kvs k, Rd H a (.dK kvs) ∧ y = kV k ∧ r = valV kvs k) ∨ ∃ kvs k b, Rd H a (.dT kvs) ∧ y = .ref b ∧ H b = some (.tup (k.map kV)) ∧ r = valV kvs k
def DPut (H : Hp) (a : Addr) (y v : V) (H' : Hp) : Prop :=
  (∃ kvs k, H a = some (.dK kvs) ∧ y = kV k ∧ kvs.length < sizeLine ∧ H' = upd H a (.dK (putK kvs k v))) ∨
  ∃ kvs k b, H a = some (.dT kvs) ∧ y = .ref b ∧ H b = some (.tup (k.map kV)) ∧ kvs.length < sizeLine ∧ H' = upd H a (.dT (putK kvs k v))
theorem DGet.k {H : Hp} {a : Addr} {kvs : List (Key × V)} {k : Key} (e : H a = some (.dK kvs)) : DGet H a (kV k) (valV kvs k) := .inl ⟨kvs, k, .inl e, rfl, rfl⟩
theorem DGet.t {H : Hp} {a b : Addr} {kvs : List (List Key × V)} {k : List Key} (e : H a = some (.dT kvs)) (eb : H b = some (.tup (k.map kV))) : DGet H a (.ref b) (valV kvs k) := .inr ⟨kvs, k, b, .inl e, rfl, eb, rfl⟩
theorem DPut.k {H : Hp} {a : Addr} {kvs : List (Key × V)} {k : Key} {v : V} (e : H a = some (.dK kvs)) (hl : kvs.length < sizeLine) : DPut H a (kV k) v (upd H a (.dK (putK kvs k v))) := .inl ⟨kvs, k, e, rfl, hl, rfl⟩
theorem DPut.t {H : Hp} {a b : Addr} {kvs : List (List Key × V)} {k : List Key} {v : V} (e : H a = some (.dT kvs)) (eb : H b = some (.tup (k.map kV))) (hl : kvs.length < sizeLine) :
    DPut H a (.ref b) v (upd H a (.dT (putK kvs k v))) := .inr ⟨kvs, k, b, e, rfl, eb, hl, rfl⟩
section
variable {X : Cx} {pins : List (Addr × Obj)} {σ : St} {H : Hp} {s : Shared} {a : Addr} {y v : V} {u r : Value} {o : Option V} {A : Around} {E : Value → Shared → Prop}
end
section
variable {X : Cx} {pins : List (Addr × Obj)} {σ : St} {H : Hp} {s : Shared} {a : Addr} {kvs : List (Key × V)} {k : Key} {u : Value} {A : Around} {E : Value → Shared → Prop}
end
def NoSl (i : Expr) : Prop := ∀ ov iv, subscripted i false ov iv = operate [ov, iv] (getItem ov iv)
def tDGet (td ty : TE) : TE := fun σ H Q => td σ H fun x H1 => ty σ H1 fun y H2 => ∃ a v, x = .ref a ∧ DGet H2 a y (some v) ∧ Q v H2
def tDIn (ty td : TE) : TE := fun σ H Q => ty σ H fun y H1 => td σ H1 fun x H2 => ∃ a o, x = .ref a ∧ DGet H2 a y o ∧ Q (.bl o.isSome) H2
def tDNotIn (ty td : TE) : TE := fun σ H Q => ty σ H fun y H1 => td σ H1 fun x H2 => ∃ a o, x = .ref a ∧ DGet H2 a y o ∧ Q (.bl (!o.isSome)) H2
def sDPut (td ty tv : TE) : TS := fun D σ H => tv σ H fun v H1 => td σ H1 fun x H2 => ty σ H2 fun y H3 => ∃ a H4, x = .ref a ∧ DPut H3 a y v H4 ∧ D.nx σ H4
def sDAug (td ty tv : TE) (rd : V → V → Hp → VK → Prop) : TS := fun D σ H => td σ H fun x H1 => ty σ H1 fun y H2 => ∃ a v, x = .ref a ∧ DGet H2 a y (some v) ∧
  tv σ H2 fun y2 H3 => rd v y2 H3 fun z H4 => ∃ H5, DPut H4 a y z H5 ∧ D.nx σ H5
def sDDel (td ty : TE) : TS := fun D σ H => td σ H fun x H1 => ty σ H1 fun y H2 => ∃ a kvs k, x = .ref a ∧ H2 a = some (.dK kvs) ∧ y = kV k ∧ (valV kvs k).isSome = true ∧ D.nx σ (upd H2 a (.dK (dropK kvs k)))
section
variable {X : Cx} {o i e value : Expr} {pos pos' tpos : Pos} {td ty tv : TE}
end
def tDNewK : TE := fun _ H Q => ∀ p, H p = none → Q (.ref p) (upd H p (.dK []))
def tDNewT : TE := fun _ H Q => ∀ p, H p = none → Q (.ref p) (upd H p (.dT []))
section
variable {X : Cx} {pos : Pos}
end
def tPairs : List (TE × TE) → St → Hp → (List (V × V) → Hp → Prop) → Prop
  | [], _, H, Q => Q [] H
  | (tk, tv) :: r, σ, H, Q => tk σ H fun x H1 => tv σ H1 fun y H2 => tPairs r σ H2 fun ps H3 => Q ((x, y) :: ps) H3
abbrev VV : List (V × V) → List (Value × Value) → Prop := Paired fun p q => RelV p.1 q.1 ∧ RelV p.2 q.2
def PPs (X : Cx) (pos : Pos) (keys : List (Option Expr)) (values : List Expr) (trs : List (TE × TE)) : Prop :=
  ∀ (pins : List (Addr × Obj)) (s : Shared) (σ : St) (H : Hp) (Q : List (V × V) → Hp → Prop), Inv X pins σ H s → tPairs trs σ H Q →
    wpAny (model X.prog X.w) X.A (evalPairs (pairTrees keys values X.env pos)) (fun vs s' => ∃ ps H', Inv X pins σ H' s' ∧ VV ps vs ∧ Q ps H') X.xe s
def mergeK (kvs more : List (Key × V)) : List (Key × V) := more.foldl (fun acc kv => putK acc kv.1 kv.2) kvs
def tDisp (trs : List (TE × TE)) : TE := fun σ H Q => ∀ p, H p = none → tPairs trs σ (upd H p (.dK [])) fun ps H2 => H2 p = some (.dK []) ∧ ∃ kvs : List (Key × V), ps = kvs.map (fun kv => (kV kv.1, kv.2)) ∧ kvs.length ≤ 15 ∧ Q (.ref p) (upd H2 p (.dK (mergeK [] kvs)))
structure M1 (X : Cx) (o : Expr) (m : Str) (apos : Pos) (e : Expr) (cpos : Pos) : Prop where
  base : attributeBase o m X.env (eval o X.env) = eval o X.env
  few : ((backTo cpos (starEach [e] X.env)).all (fun x => !x.1) && (backToKw cpos (keywordEach [] X.env)).all (fun x => x.1.isSome)
    && decide (([e] : List Expr).length + ([] : List Keyword).length + (if ([] : List Keyword).isEmpty then 0 else 1) < 30)) = true
  line : (apos.endLine == cpos.line) = true
  trees : backTo cpos (starEach [e] X.env) = [(false, eval e X.env)]
structure M2 (X : Cx) (o : Expr) (m : Str) (apos : Pos) (e f : Expr) (cpos : Pos) : Prop where
  base : attributeBase o m X.env (eval o X.env) = eval o X.env
  few : ((backTo cpos (starEach [e, f] X.env)).all (fun x => !x.1) && (backToKw cpos (keywordEach [] X.env)).all (fun x => x.1.isSome)
    && decide (([e, f] : List Expr).length + ([] : List Keyword).length + (if ([] : List Keyword).isEmpty then 0 else 1) < 30)) = true
  line : (apos.endLine == cpos.line) = true
  trees : backTo cpos (starEach [e, f] X.env) = [(false, eval e X.env), (false, eval f X.env)]
def IsD (H : Hp) (a : Addr) : Prop := (∃ kvs, Rd H a (.dK kvs)) ∨ ∃ kvs, Rd H a (.dT kvs)
section
variable {X : Cx} {pins : List (Addr × Obj)} {σ : St} {H : Hp} {s : Shared} {a : Addr} {y d : V} {u r : Value} {o : Option V} {A : Around} {E : Value → Shared → Prop}
end
def tDGet1 (td ty : TE) : TE := fun σ H Q => td σ H fun x H1 => ∃ a, x = .ref a ∧ IsD H1 a ∧ ty σ H1 fun y H2 => ∃ o, DGet H2 a y o ∧ Q (o.getD .non) H2
def tDGet2 (td ty tx : TE) : TE := fun σ H Q => td σ H fun x H1 => ∃ a, x = .ref a ∧ IsD H1 a ∧ ty σ H1 fun y H2 => tx σ H2 fun z H3 => ∃ o, DGet H3 a y o ∧ Q (o.getD z) H3
def tDPop1 (td ty : TE) : TE := fun σ H Q => td σ H fun x H1 => ∃ a, x = .ref a ∧ IsD H1 a ∧ ty σ H1 fun y H2 => ∃ kvs k v, H2 a = some (.dK kvs) ∧ y = kV k ∧ valV kvs k = some v ∧ Q v (upd H2 a (.dK (dropK kvs k)))
def tDPop2 (td ty tx : TE) : TE := fun σ H Q => td σ H fun x H1 => ∃ a, x = .ref a ∧ IsD H1 a ∧ ty σ H1 fun y H2 => tx σ H2 fun z H3 => ∃ kvs k, H3 a = some (.dK kvs) ∧ y = kV k ∧
  (∀ v, valV kvs k = some v → Q v (upd H3 a (.dK (dropK kvs k)))) ∧ (valV kvs k = none → Q z H3)
section
variable {X : Cx} {o e f : Expr} {apos cpos : Pos} {td ty tx : TE}
end
section
variable {X : Cx} {pins : List (Addr × Obj)} {σ : St} {H : Hp} {s : Shared} {a : Addr} {kvs : List (Key × V)} {A : Around} {E : Value → Shared → Prop}
end
section
variable {X : Cx} {pins : List (Addr × Obj)} {σ : St} {H : Hp} {s : Shared} {a : Addr} {y : V} {u : Value} {A : Around} {E : Value → Shared → Prop}
end
end L2
namespace L2
open PySem PySem.Spec PyProof.Rows
def Bnd (n : Nat) (i : Int) : Prop := i.natAbs < 10 ^ n
instance (n : Nat) (i : Int) : Decidable (Bnd n i) := inferInstanceAs (Decidable (i.natAbs < 10 ^ n))
theorem Bnd.mono {m n : Nat} {i : Int} (h : Bnd m i) (k : m ≤ n) : Bnd n i := Nat.lt_of_lt_of_le h (Nat.pow_le_pow_right (by decide) k)
theorem Bnd.mul {m n : Nat} {i j : Int} (h : Bnd m i) (k : Bnd n j) : Bnd (m + n) (i * j) := by
  unfold Bnd at *
  rw [Int.natAbs_mul, Nat.pow_add]
  exact Nat.mul_lt_mul'' h k
theorem Bnd.add {n : Nat} {i j : Int} (h : Bnd n i) (k : Bnd n j) : Bnd (n + 1) (i + j) := by
  unfold Bnd at *
  have h1 := Int.natAbs_add_le i j
  rw [Nat.pow_succ]
  omega
theorem Bnd.neg {n : Nat} {i : Int} (h : Bnd n i) : Bnd n (-i) := by
  unfold Bnd at *
  rw [Int.natAbs_neg]; exact h
theorem Bnd.sub {n : Nat} {i j : Int} (h : Bnd n i) (k : Bnd n j) : Bnd (n + 1) (i - j) := by
  rw [Int.sub_eq_add_neg]; exact h.add k.neg
theorem bits_of {n : Nat} {i : Int} (h : Bnd n i) (hn : n ≤ 3000) : Builtin.Int.intBits i ≤ 2 ^ 20 := by
  unfold Builtin.Int.intBits
  split
  · exact Nat.zero_le _
  · rename_i h0
    have h1 : i.natAbs ≠ 0 := by
      intro z
      have : i = 0 := Int.natAbs_eq_zero.mp z
      subst this
      exact h0 rfl
    have h2 : i.natAbs < 2 ^ (4 * n) := by
      have e : (2 : Nat) ^ (4 * n) = 16 ^ n := by rw [Nat.pow_mul]
      rw [e]
      exact Nat.lt_of_lt_of_le h (Nat.pow_le_pow_left (by decide) n)
    have h3 : i.natAbs.log2 < 4 * n := (Nat.log2_lt h1).mpr h2
    have : (2 : Nat) ^ 20 = 1048576 := by decide
    omega
def CMulB (i j : Int) : Prop := (∃ m n, Bnd m i ∧ Bnd n j ∧ m ≤ 3000 ∧ n ≤ 3000) ∨ CMul i j
theorem CMulB.ok {i j : Int} (h : CMulB i j) : IntMulOk i j := by
  rcases h with ⟨m, n, h1, h2, h3, h4⟩ | h
  · exact IntMulOk.of_bits (bits_of h1 h3) (bits_of h2 h4)
  · exact h.ok
def CDivB (_ j : Int) : Prop := 0 < j ∧ ∃ n, Bnd n j ∧ n ≤ 2000
theorem CDivB.ok {i j : Int} (h : CDivB i j) : Builtin.divisionGoesByPylong i j = false := by
  obtain ⟨h0, n, h1, h2⟩ := h
  refine PyProof.noPylong_of_log2 ?_
  have hz : j.natAbs ≠ 0 := by omega
  have e : (2 : Nat) ^ (4 * n) = 16 ^ n := by rw [Nat.pow_mul]
  have h3 : j.natAbs < 2 ^ (4 * n) := by
    rw [e]
    exact Nat.lt_of_lt_of_le h1 (Nat.pow_le_pow_left (by decide) n)
  have h4 : j.natAbs.log2 < 4 * n := (Nat.log2_lt hz).mpr h3
  omega
section
variable {X : Cx}
theorem op_mulB : OpR X (binaryOp .Mult) (rI CMulB fun i j => .int (i * j)) := opI fun _ _ _ _ _ _ _ hc q => mul_int q hc.ok
def rCatS (K : PySem.W.Frag) : R2 := fun x y H Q => ∃ l b xs zs, x = .ref l ∧ y = .ref b ∧ SqL K H l xs ∧ SqL K H b zs ∧ xs.length + zs.length ≤ sizeLine ∧ ∀ p, H p = none → Q (.ref p) (upd H p (.lst (xs ++ zs)))
theorem op_catS : OpR X (binaryOp .Add) (rCatS X.K) := by
  intro pins s σ H x y v u Q I rx ry h
  obtain ⟨l, b, xs, zs, rfl, rfl, hH, hB, hz, q⟩ := h
  cases rx
  cases ry
  obtain ⟨its, r, pl, z⟩ := I.list hH
  obtain ⟨its2, r2, pl2, z2⟩ := I.list hB
  obtain ⟨⟨cls, dd, data, sl⟩, n, ho, hc, hdi, hd⟩ := pl
  obtain ⟨⟨cls2, dd2, data2, sl2⟩, n2, ho2, hc2, hdi2, hd2⟩ := pl2
  simp only at hc hd hc2 hd2
  subst hc hd hc2 hd2
  have e1 := r.length
  have e2 := r2.length
  refine concat_meets ⟨_, ho, rfl⟩ ⟨_, ho2, rfl⟩ noFill_list_add seq_list_add PySem.F.slot_list_add PySem.F.entry_list_add (PySem.F.args_list_add_2 _ _) (list_addW l b its.toArray its2.toArray n n2 dd dd2 sl sl2 (by rw [List.size_toArray, List.size_toArray]; omega)) ⟨ho, ho2, ?_⟩
  have ea : its.toArray ++ its2.toArray = (its ++ its2).toArray := by simp
  rw [ea]
  exact ⟨.ref _, _, I.lnew (t' := s.toks) (r.append r2) (by rw [List.length_append]; omega), rfl, q _ I.fresh⟩
end
structure Df (K : PySem.W.Frag) (mg : Str → Option Value) (x : Str) (st : Stmt) (ps : List Str) : Prop where
  ex : ∃ (f : Addr) (fd : FuncData), Fun K x x st f fd ∧ Binds K fd ps [] ∧ mg x = some (.ref f)
structure Cal (P : Program) (w : World) (K : PySem.W.Frag) (mg : Str → Option Value) (base : Heap) (k : Nat) (x : Str) (ps : List Str) (sp : Sp) : Prop where
  ex : ∃ (f : Addr) (fd : FuncData), FnOk P w K mg base CX0 k f fd ps sp ∧ PySem.W.keepIn K (.ref f) = true ∧ Binds K fd ps [] ∧ mg x = some (.ref f)
section
variable {P : Program} {w : World} {K : PySem.W.Frag} {mg : Str → Option Value} {base : Heap}
theorem Df.ok {x : Str} {st : Stmt} {N ps : List Str} {k : Nat} {sp : Sp} (D : Df K mg x st ps) (S : FnScope N ps (defScope st)) (len : ∀ vs H Q E, sp vs H Q E → vs.length = ps.length)
    (hbody : ∀ (f : Addr) (cdv : Value) (A : Around) (outer : List Env) (s : Shared) (H : Hp) (vs : List V) (Q : VK) (E : XK), Room k (A.deeper (envOfC x (defScope st) s.heap.objs.size f cdv)) → sp vs H Q E →
      ∃ t, PSs (cxOf CX0 P w K mg base N x (defScope st) f cdv A outer s H E).nox (defBody st) t ∧ t { nx := fun _ H' => Q .non H', rt := Q } (start N vs) H) : Cal P w K mg base (k + 1) x ps sp := by
  obtain ⟨f, fd, F, b, g⟩ := D.ex
  exact ⟨⟨f, fd, F.ok S len (hbody f), F.kp, b, g⟩⟩
theorem Cal.mono {j k : Nat} {x : Str} {ps : List Str} {sp : Sp} (C : Cal P w K mg base j x ps sp) (h : j ≤ k) : Cal P w K mg base k x ps sp := by
  obtain ⟨f, fd, F, kp, b, g⟩ := C.ex
  exact ⟨⟨f, fd, F.mono h, kp, b, g⟩⟩
theorem df_mk {h : Heap} (X : K.In h) (G : h.Ns mainGlobals mg) {x : Str} {st : Stmt} {ps : List Str} {f : Addr} {od an : Option Addr} {sl : Array (Option Value)} {oc kV dc pm cd ct : Value}
    (a : PySem.W.nsIn K mainGlobals x = some (some (.ref f)))
    (l : K.lookup f = some ⟨oc, od, .func (PySem.W.fnOf x x (defArgs st) (defBody st) (defScope st) .none kV dc pm an cd ct), sl⟩) (c : PySem.W.codeIn K cd x = true) (k : PySem.W.keepIn K (.ref f) = true)
    (hb : ∀ (kV doc pm : Value) (an : Option Addr) (cdv ct : Value) (us : List Value), us.length = ps.length → bindArgs (PySem.W.fnOf x x (defArgs st) (defBody st) (defScope st) .none kV doc pm an cdv ct) ⟨us, []⟩ = pure (ps.zip us)) : Df K mg x st ps := by
  have F := fun_mk (st := st) l c k
  exact ⟨⟨f, _, F, F.binds hb, PySem.W.mg_of X G a⟩⟩
end
section
variable {K : PySem.W.Frag} {mg : Str → Option Value}
theorem law_mk {h : Heap} (X : K.In h) (G : h.Ns mainGlobals mg) {st : Stmt} {f : Addr} {od an : Option Addr} {sl : Array (Option Value)} {oc kV dc pm cd ct : Value}
    (a : PySem.W.nsIn K mainGlobals "law" = some (some (.ref f)))
    (l : K.lookup f = some ⟨oc, od, .func (PySem.W.fnOf "law" "law" (defArgs st) (defBody st) (defScope st) .none kV dc pm an cd ct), sl⟩) (c : PySem.W.codeIn K cd "law" = true) (k : PySem.W.keepIn K (.ref f) = true)
    (hb : ∀ (kV dc pm : Value) (an : Option Addr) (cd ct : Value) (s : Shared) (u : Value), BindsTo s (PySem.W.fnOf "law" "law" (defArgs st) (defBody st) (defScope st) .none kV dc pm an cd ct) ⟨[u], []⟩ [("script", u)]) :
    ∃ (f : Addr) (fd : FuncData), Fun K "law" "law" st f fd ∧ mg "law" = some (.ref f) ∧ ∀ (s : Shared) (u : Value), BindsTo s fd ⟨[u], []⟩ [("script", u)] :=
  ⟨f, _, fun_mk (st := st) l c k, PySem.W.mg_of X G a, fun s u => hb _ _ _ _ _ _ s u⟩
end
section
variable {X : Cx} {k : Nat} {ps : List Str} {sp : Sp} {x : Str} {p pos : Pos} {e : Expr} {es : List Expr} {t : TA}
theorem pe_cal (C : Cal X.prog X.w X.K X.mg X.base k x ps sp) (hr : Room k X.A) (hg : Gl X x) (ha : PA X (e :: es) t) (hdb : (x == ("__debug__" : Str)) = false := by decide)
    (he : starEach (e :: es) X.env = (false, eval e X.env) :: starEach es X.env := by rfl) (hpl : (backTo pos (starEach es X.env)).any (·.1) = false := by rfl) :
    PE X (.Call (.Name x p) (e :: es) [] pos) (tCall sp [] E0 t) := by
  obtain ⟨f, fd, F, kp, b, g⟩ := C.ex
  exact pe_call F hr hg g kp b .nil pass0 ha hdb he hpl
end
def But (p : Addr) (H H' : Hp) : Prop := ∀ b o, H b = some o → b ≠ p → H' b = some o
theorem But.refl (p : Addr) (H : Hp) : But p H H := fun _ _ h _ => h
theorem But.trans {p : Addr} {H H1 H2 : Hp} (a : But p H H1) (b : But p H1 H2) : But p H H2 := fun c o h n => b c o (a c o h n) n
theorem But.upd (p : Addr) (H : Hp) (o : HO) : But p H (upd H p o) := fun b _ h n => by rw [upd_ne n]; exact h
theorem But.tup {p q : Addr} {H H' : Hp} {xs ys : List V} (a : But p H H') (hp : H p = some (.lst ys)) (hq : H q = some (.tup xs)) : H' q = some (.tup xs) := a q _ hq (ne_of hq hp (by intro z; cases z))
theorem Same.but {p : Addr} {H H' : Hp} (a : Same H H') : But p H H' := fun b o h _ => a b o h
theorem Same.new {H : Hp} {p : Addr} {o : HO} (h : H p = none) : Same H (upd H p o) := fun b u q => by rw [upd_ne (ne_of_none q h)]; exact q
theorem But.same {p : Addr} {H0 H H' : Hp} (b : But p H H') (s : Same H0 H) (h : H0 p = none) : Same H0 H' := fun c o e => b c o (s c o e) (ne_of_none e h)
end L2
namespace L2
theorem Bnd.of {n : Nat} {i : Int} (h1 : -(10 ^ n : Int) < i) (h2 : i < 10 ^ n) : Bnd n i := by
  unfold Bnd
  have : ((10 ^ n : Nat) : Int) = (10 : Int) ^ n := by simp
  omega
theorem Bnd.hi {n : Nat} {i : Int} (h : Bnd n i) : i < 10 ^ n := by
  unfold Bnd at h
  have : ((10 ^ n : Nat) : Int) = (10 : Int) ^ n := by simp
  omega
theorem Bnd.lo {n : Nat} {i : Int} (h : Bnd n i) : -(10 ^ n : Int) < i := by
  unfold Bnd at h
  have : ((10 ^ n : Nat) : Int) = (10 : Int) ^ n := by simp
  omega
theorem gcd_step (a b : Int) : Int.gcd b (a % b) = Int.gcd a b := by
  rw [Int.gcd_comm a b, Int.emod_def, Int.mul_comm b]
  exact Int.gcd_sub_mul_right_right b a (a / b)
theorem gcd_zero (a : Int) (h : 0 ≤ a) : ((Int.gcd a 0 : Nat) : Int) = a := by
  rw [Int.gcd_zero_right]; omega
theorem gcd_abs (a b : Int) : Int.gcd (if a < 0 then -a else a) b = Int.gcd a b := by
  split <;> simp
theorem Bnd.gcd {n : Nat} {a b : Int} (h : 0 < b) (k : Bnd n b) : Bnd n ((Int.gcd a b : Nat) : Int) := by
  unfold Bnd at *
  have h1 : ((Int.gcd a b : Nat) : Int) ∣ b := Int.gcd_dvd_right ..
  have h2 : ((Int.gcd a b : Nat) : Int) ≤ b := Int.le_of_dvd h h1
  omega
theorem abs_nn (a : Int) : 0 ≤ (if a < 0 then -a else a) := by split <;> omega
end L2
namespace L2
end L2
namespace L2
open PySem PySem.Spec PyProof.Rows
abbrev bmVE : List Value := [.type "ValueError", .type "Exception", .type "BaseException", .type "object"]
structure ExcAt (K : PySem.W.Frag) (mg : Str → Option Value) (x : Str) (C : Addr) : Prop where
  bound : mg x = some (.ref C)
  obj : ∀ h : Heap, K.In h → ∃ bm N nm q bs hdct sn sub ab col dd k0 k1 k2 k3 k5 mN, h.get? C = some (excClassObj nm q C N bs bm hdct sn sub ab col dd k0 k1 k2 k3 k5 "ValueError.__new__") ∧ h.Ns N mN ∧ mN "__init__" = none ∧ OwnTail h bmVE bm
def strKeysB (es : Array DictEntry) : Bool := es.toList.all (fun e => match e.key with | .str _ _ => true | _ => false)
theorem ObjOk.there {P : Program} {w : World} {H : Hp} {h : Heap} {a : Addr} {o : HO} (x : ObjOk P w H h a o) : ∃ u, h.get? a = some u := by
  cases o with
  | lst xs => obtain ⟨_, _, _, _, e⟩ := x; exact ⟨_, e⟩
  | tup xs => obtain ⟨_, _, _, ⟨ob, e, _⟩, _⟩ := x; exact ⟨_, e⟩
  | dK kvs => obtain ⟨_, _, _, _, o, _, _, e, _⟩ := x; exact ⟨_, e⟩
  | dT kvs => obtain ⟨_, _, _, _, o, _, _, e, _⟩ := x; exact ⟨_, e⟩
  | set S n => obtain ⟨o, _, _, _, e, _⟩ := x; exact ⟨_, e⟩
  | ins C dx fs => obtain ⟨_, _, _, e, _⟩ := x; exact ⟨_, e⟩
  | own y => obtain ⟨_, e⟩ := x; exact ⟨_, e⟩
  | xd fs => obtain ⟨_, ⟨_, _, _, e, _⟩, _⟩ := x; exact ⟨_, e⟩
  | rng lo hi => obtain ⟨_, _, _, e⟩ := x; exact ⟨_, e⟩
  | frz ob u => obtain ⟨e, _⟩ := x; exact ⟨_, e⟩
  | tbl ps => exact ⟨_, (show h.get? a = some _ from x)⟩
  | met f y => exact ⟨_, (show h.get? a = some _ from x)⟩
  | ext φ => obtain ⟨_, ⟨_, e⟩, _⟩ := x; exact ⟨_, e⟩
def CXC (P : Program) (w : World) (C : Addr) : CXT := fun l H s E ev s' => ∃ (e t : Addr) (B : Heap) (H' : Hp), ev = .ref e ∧ Heap.FlyingW B l e (.ref C) (.ref t) s'.heap ∧ s'.os = s.os ∧ AllBare s'.gens ∧
  Un (frs l) [] H H' s.heap s'.heap ∧ HOk P w H' s'.heap ∧ (∀ b o, s'.heap.get? b = some o → b ∉ frs l → (H' b ≠ none ∨ ∃ o', s.heap.get? b = some o') → B.get? b = some o) ∧ (∀ b ∈ frs l, H' b = none) ∧ E (.ref C) none H'
section
variable {X : Cx} {C : Addr} {x : Str} {E : XK}
end
end L2
namespace L2
open PySem PySem.Spec PyProof.Rows
abbrev Cx.suite (X : Cx) (ev : Addr) : Cx := { X with A := X.A.mark (some (.ref ev)), calm := false, xe := fun _ _ => False }
section
variable {X : Cx} {pins : List (Addr × Obj)} {σ : St} {H : Hp} {s : Shared} {ev : Addr}
theorem Inv.suite (I : Inv X pins σ H s) (ev : Addr) : Inv (X.suite ev) pins σ H s :=
  ⟨⟨I.ok.mod, I.ok.kind, I.ok.glob, I.ok.blt, I.ok.above, I.ok.inj, I.ok.has, I.ok.cab, (fun z => by cases z), I.ok.frames, I.ok.stk, I.ok.exf, I.ok.bs, I.ok.bsz, I.ok.noex, I.ok.exfs, I.ok.funs, I.ok.frf⟩, I.os, I.bare, I.base, I.loc, I.cell, I.free, I.freeC, I.pin, I.hok, I.len⟩
end
section
variable {X : Cx} {C : Addr} {k : Nat} {f : Addr} {fd : FuncData} {ps : List Str} {sp : Sp} {dvs : List V} {ds : List Value} {x y : Str} {p pos pos2 np hp tp : Pos} {e : Expr} {es : List Expr} {t : TA} {b0 : Stmt} {suite : List Stmt} {th : TS}
end
end L2
namespace L2
end L2
namespace L2
open PySem PySem.Spec PyProof.Rows
theorem eqV_self (x : V) (f : flatV x = true) : eqV x x = true := by
  cases x with
  | non => rfl
  | bl b => simp [eqV]
  | int i => simp [eqV]
  | str z => simp [eqV]
  | _ => exact absurd (show false = true from f) Bool.false_ne_true
section
variable {X : Cx}
def CDivS (_ j : Int) : Prop := j ≠ 0 ∧ ∃ n, Bnd n j ∧ n ≤ 2000
theorem CDivS.ok {i j : Int} (h : CDivS i j) : Builtin.divisionGoesByPylong i j = false := by
  obtain ⟨h0, n, h1, h2⟩ := h
  refine PyProof.noPylong_of_log2 ?_
  have hz : j.natAbs ≠ 0 := by omega
  have e : (2 : Nat) ^ (4 * n) = 16 ^ n := by rw [Nat.pow_mul]
  have h3 : j.natAbs < 2 ^ (4 * n) := by
    rw [e]
    exact Nat.lt_of_lt_of_le h1 (Nat.pow_le_pow_left (by decide) n)
  have h4 : j.natAbs.log2 < 4 * n := (Nat.log2_lt hz).mpr h3
  omega
theorem op_fdivS : OpR X (binaryOp .FloorDiv) (rI CDivS fun i j => .int (i.fdiv j)) := opI fun _ _ _ _ _ _ _ hc q => floordiv_int hc.1 q (.inl hc.ok)
end
structure CalX (P : Program) (w : World) (K : PySem.W.Frag) (mg : Str → Option Value) (base : Heap) (C : Addr) (k : Nat) (x : Str) (ps : List Str) (sp : Sp) : Prop where
  ex : ∃ (f : Addr) (fd : FuncData), FnOk P w K mg base (CXC P w C) k f fd ps sp ∧ PySem.W.keepIn K (.ref f) = true ∧ Binds K fd ps [] ∧ mg x = some (.ref f)
section
variable {P : Program} {w : World} {K : PySem.W.Frag} {mg : Str → Option Value} {base : Heap} {C : Addr}
end
section
variable {X : Cx} {C : Addr} {k : Nat} {ps : List Str} {sp : Sp} {x y : Str} {p pos pos2 np hp tp : Pos} {e : Expr} {es : List Expr} {t : TA} {b0 : Stmt} {suite : List Stmt} {th : TS}
end
end L2
namespace L2
open PySem PySem.Spec PyProof.Rows
theorem cf_cons {n : Nat} {name x : Str} {acc : List (Str × Addr)} {c : Addr} (e : ((name, n) :: acc).lookup x = some c) : (x = name ∧ c = n) ∨ acc.lookup x = some c := by
  rw [List.lookup_cons] at e
  split at e
  · rename_i h; cases e; exact .inl ⟨eq_of_beq h, rfl⟩
  · exact .inr e
theorem cf_inj : ∀ (names : List (Str × NameKind)) (n : Nat) (acc : List (Str × Addr)), (∀ x y c, acc.lookup x = some c → acc.lookup y = some c → x = y) → (∀ x c, acc.lookup x = some c → c < n) → ∀ x y c, (cellsFrom n names acc).lookup x = some c → (cellsFrom n names acc).lookup y = some c → x = y
  | [], _, _, h, _, x, y, c, e1, e2 => h x y c e1 e2
  | (name, kind) :: r, n, acc, h, lt, x, y, c, e1, e2 => by
    unfold cellsFrom at e1 e2
    split at e1
    · rename_i hk
      rw [if_pos hk] at e2
      refine cf_inj r (n + 1) ((name, n) :: acc) (fun x y c f1 f2 => ?_) (fun x c f => ?_) x y c e1 e2
      · rcases cf_cons f1 with ⟨g1, g2⟩ | g1 <;> rcases cf_cons f2 with ⟨g3, g4⟩ | g3
        · rw [g1, g3]
        · subst g2; exact absurd (lt _ _ g3) (Nat.lt_irrefl _)
        · subst g4; exact absurd (lt _ _ g1) (Nat.lt_irrefl _)
        · exact h x y c g1 g3
      · rcases cf_cons f with ⟨g1, g2⟩ | g1
        · subst g2; exact Nat.lt_succ_self _
        · exact Nat.lt_succ_of_lt (lt _ _ g1)
    · rename_i hk
      rw [if_neg hk] at e2
      exact cf_inj r n acc h lt x y c e1 e2
theorem cf_or {x : Str} {c : Addr} : ∀ (names : List (Str × NameKind)) (n : Nat) (acc : List (Str × Addr)), (cellsFrom n names acc).lookup x = some c → acc.lookup x = some c ∨ n ≤ c
  | [], _, _, e => .inl e
  | (name, kind) :: r, n, acc, e => by
    unfold cellsFrom at e
    split at e
    · rcases cf_or r (n + 1) _ e with f | f
      · rcases cf_cons f with ⟨_, g⟩ | g
        · exact .inr (Nat.le_of_eq g.symm)
        · exact .inl g
      · exact .inr (by omega)
    · exact cf_or r n acc e
theorem cf_ge {x : Str} {c : Addr} {lo : Nat} : ∀ (names : List (Str × NameKind)) (n : Nat) (acc : List (Str × Addr)), lo ≤ n → (∀ c, acc.lookup x = some c → lo ≤ c) → (cellsFrom n names acc).lookup x = some c → lo ≤ c
  | [], _, _, _, h, e => h _ e
  | (name, kind) :: r, n, acc, hn, h, e => by
    unfold cellsFrom at e
    split at e
    · refine cf_ge r (n + 1) _ (Nat.le_succ_of_le hn) (fun c f => ?_) e
      rcases cf_cons f with ⟨_, g⟩ | g
      · subst g; exact hn
      · exact h _ g
    · exact cf_ge r n acc hn h e
theorem cf_own {x : Str} {c : Addr} : ∀ (names : List (Str × NameKind)) (n : Nat) (acc : List (Str × Addr)), names.lookup x = some .cell → (cellsFrom n names acc).lookup x = some c → n ≤ c
  | [], _, _, h, _ => by cases h
  | (name, kind) :: r, n, acc, h, e => by
    unfold cellsFrom at e
    rw [List.lookup_cons] at h
    split at h
    · rename_i hx
      cases h
      rw [if_pos (show (NameKind.cell == NameKind.cell) = true from rfl)] at e
      refine cf_ge r (n + 1) _ (Nat.le_succ _) (fun c f => ?_) e
      rw [List.lookup_cons, hx] at f
      cases f; exact Nat.le_refl _
    · split at e
      · exact Nat.le_of_succ_le (cf_own r (n + 1) _ h e)
      · exact cf_own r n acc h e
theorem cf_not {x : Str} : ∀ (names : List (Str × NameKind)) (n : Nat) (acc : List (Str × Addr)), (∀ y ∈ names, y.2 = .cell → y.1 ≠ x) → (cellsFrom n names acc).lookup x = acc.lookup x
  | [], _, _, _ => rfl
  | (name, kind) :: r, n, acc, h => by
    unfold cellsFrom
    split
    · rename_i hk
      rw [cf_not r (n + 1) _ fun y hy => h y (List.mem_cons_of_mem _ hy), List.lookup_cons]
      have : (x == name) = false := by
        cases q : x == name with
        | false => rfl
        | true => exact absurd (eq_of_beq q).symm (h (name, kind) List.mem_cons_self (eq_of_beq hk))
      rw [this]
    · exact cf_not r n acc fun y hy => h y (List.mem_cons_of_mem _ hy)
theorem cf_cell : ∀ (names : List (Str × NameKind)) (h : Heap) (acc : List (Str × Addr)), (∀ x c, acc.lookup x = some c → ∃ v, h.IsCell c v) → ∀ x c, (cellsFrom h.objs.size names acc).lookup x = some c → ∃ v, (pushCells h names).IsCell c v
  | [], _, _, k, x, c, e => k x c e
  | (name, kind) :: r, h, acc, k, x, c, e => by
    unfold cellsFrom at e
    unfold pushCells
    split at e
    · rename_i hk
      rw [if_pos hk]
      refine cf_cell r (h.push { cls := .type "cell", data := .cell none }) ((name, h.objs.size) :: acc) (fun x c f => ?_) x c (by rw [Heap.size_push]; exact e)
      rcases cf_cons f with ⟨_, g⟩ | g
      · subst g; exact ⟨none, _, Heap.get?_push_size _ rfl, rfl⟩
      · obtain ⟨v, q⟩ := k x c g
        exact ⟨v, q.keeps fun b o e => Heap.get?_push_of_some _ e⟩
    · rename_i hk
      rw [if_neg hk]
      exact cf_cell r h acc k x c e
theorem wpAny_newFunctionEnv_block {M : Model} {A : Around} {E : Value → Shared → Prop} {s : Shared} {scope : Scope} {globals : Addr} {cl : List (Str × Addr)} {qual : Str} {env : Env} {builtins : Addr} {Q : Env → Shared → Prop}
    (hQ : ∀ h', h'.Ns s.heap.objs.size (fun _ => none) → h' = pushCells (s.heap.push { cls := .type "dict", data := .dict #[] }) scope.names →
      Q (newEnv scope s.heap.objs.size globals (cellsFrom (s.heap.objs.size + 1) scope.names cl) qual none .none (some env) builtins) { s with heap := h' }) :
    wpAny M A (newFunctionEnv scope globals cl [] qual none .none (some env) builtins) Q E s := by
  simp only [newFunctionEnv, Option.isSome_some, if_true]
  refine wpAny_bind (wpAny_alloc ?_)
  refine wpAny_bind (wpAny_layCells _ (fun name kind cells => by cases hkc : kind == NameKind.cell <;> simp [hkc]) _ _ _ _ ?_)
  rw [show ({ s with heap := s.heap.push { cls := .type "dict", data := .dict #[] } } : Shared).heap.objs.size = s.heap.objs.size + 1 from Heap.size_push ..]
  refine wpAny_bind ?_
  rw [List.forIn_nil]
  exact wpAny_pure (wpAny_pure (hQ _ ((Heap.Ns.new s.heap (.type "dict")).keeps (pushCells_keeps _ _)) rfl))
def blockEnv (scope : Scope) (cl : List (Str × Addr)) (C : Addr) (env : Env) : Env := { compEnvC scope cl C env with cells := cellsFrom (C + 1) scope.names cl }
def Cx.block (X : Cx) (scope : Scope) (cl : List (Str × Addr)) (N : List Str) (ex : List Addr) (s0 : Shared) (H0 : Hp) : Cx where
  prog := X.prog
  w := X.w
  K := X.K
  mg := X.mg
  base := X.base
  A := X.A
  N := N
  s₀ := s0
  H₀ := H0
  env := blockEnv scope cl s0.heap.objs.size X.env
  outer := X.stack
  stack := X.stack
  ex := ex
  fn := fun x => scope.names.lookup x == some .cell
  calm := X.calm
  pn := []
  xe := fun _ _ => False
def PTs (X : Cx) (ifs : List Expr) (t : TT) : Prop :=
  ∀ (pins : List (Addr × Obj)) (s : Shared) (σ : St) (H : Hp) (Q : Bool → Hp → Prop), Inv X pins σ H s → t σ H Q →
    wpAny (model X.prog X.w) X.A (forIn ifs true fun c r => if r = true then do let ok ← isTrue c X.env (eval c X.env); pure (ForInStep.yield ok) else pure (ForInStep.yield r)) (TP X pins σ Q) X.xe s
def tTrue : TT := fun _ H Q => Q true H
theorem pts_nil {X : Cx} : PTs X [] tTrue := fun _ _ _ H _ I h => wpAny_tests_nil ⟨H, I, h⟩
theorem pts_one {X : Cx} {c : Expr} {t : TT} (h : PT X c t) : PTs X [c] t := fun pins s σ H Q I hq => wpAny_tests_one (h pins s σ H Q I hq)
def capσ (tgs : List Str) (caps : List (Str × Nat)) (σ : St) : St := tgs.map (fun _ => none) ++ caps.map fun c => (σ[c.2]?).join
def tComp (wi : TI) (g : TG) (tc : TT) (te : TE) (σ0 : St → St) : TE := fun σ H Q => wi σ H fun J H1 => ∀ D, H1 D = none → ∃ W : Nat → Nat → St → Hp → Prop, (∃ m, W 0 m (σ0 σ) (upd H1 D (.lst []))) ∧ ∀ i m σ' H', W i m σ' H' →
  (J.stop i H' ∧ Q (.ref D) H') ∨ (J.go i H' ∧ ∃ N : St → Hp → Prop, (∀ σ'' H'', N σ'' H'' → ∃ m', m' < m ∧ W (i + 1) m' σ'' H'') ∧ ∀ x H2, J.yld i H' x H2 → g x σ' H2 fun σ2 H3 => tc σ2 H3 fun b H4 =>
    if b = true then te σ2 H4 fun v H5 => ∃ ys, H5 D = some (.lst ys) ∧ ys.length < sizeLine ∧ N σ2 (upd H5 D (.lst (ys ++ [v]))) else N σ2 H4)
theorem codeAny_compLoop_any {prog : Program} {w : World} {A : Around} {R : Result → Shared → Prop} {s : Shared} {elt target iter : Expr} {ifs : List Expr} {scope : Scope} {pos : Pos} {it acc : Value} {env : Env} (I : Nat → Shared → Prop)
    (turn : ∀ n s, I n s → wpAny (model prog w) A (pyNext it) (fun r s₁ => match r with
      | none => R (.ok .next) s₁
      | some v => wpAny (model prog w) A (letOwnedTupleGo target it v) (fun _ s₁' => wpAny (model prog w) A (assign target env v) (fun _ s₂ =>
          wpAny (model prog w) A (forIn ifs true fun c r => if r = true then do let ok ← isTrue c env (eval c env); pure (ForInStep.yield ok) else pure (ForInStep.yield r)) (fun ok s₃ =>
            if ok = true then wpAny (model prog w) A (eval elt env) (fun x s₄ =>
              wpAny (model prog w) A (call (.builtin "list.append") [acc, x]) (fun _ s₅ => ∃ m, m < n ∧ I m s₅) (notedBy (model prog w) A env fun e s' => R (.error e) s') s₄) (notedBy (model prog w) A env fun e s' => R (.error e) s') s₃
            else ∃ m, m < n ∧ I m s₃) (notedBy (model prog w) A env fun e s' => R (.error e) s') s₂) (notedBy (model prog w) A env fun e s' => R (.error e) s') s₁') (notedBy (model prog w) A env fun e s' => R (.error e) s') s₁) (notedBy (model prog w) A env fun e s' => R (.error e) s') s)
    (n : Nat) (h : I n s) : codeAny (model prog w) A (.compLoop (.ListComp elt [⟨target, iter, ifs, 0⟩] scope pos) 0 it acc env) R s := by
  refine codeAny_loop rfl I (fun n s hI => ?_) n h
  show wpAny _ A ((compTurn (.ListComp elt [⟨target, iter, ifs, 0⟩] scope pos) 0 it acc env).onRaise (fun x => do noteFrame x env; theTreesLotGoes x)) _ _ s
  refine wpAny_noted ?_
  rw [compTurn_list]
  refine wpAny_bind (wpAny_standAt (wpAny_bind (wpAny_mono (turn n s hI) (fun r s₁ h₁ => ?_) fun _ _ h' => h')))
  cases r with
  | none => exact wpAny_pure h₁
  | some v =>
    refine wpAny_bind (wpAny_mono h₁ (fun _ s₁' h₁' => ?_) fun _ _ h' => h')
    refine wpAny_bind (wpAny_mono h₁' (fun _ s₂ h₂ => wpAny_bind (wpAny_mono h₂ (fun ok s₃ h₃ => ?_) fun _ _ h' => h')) fun _ _ h' => h')
    cases ok with
    | false => exact wpAny_pure ⟨rfl, h₃⟩
    | true =>
      exact wpAny_bind (wpAny_bind (wpAny_mono h₃ (fun x s₄ h₄ => wpAny_bind (wpAny_mono h₄ (fun _ s₅ h₅ => wpAny_pure (wpAny_pure ⟨rfl, h₅⟩)) fun _ _ h' => h')) fun _ _ h' => h'))
section
variable {X : Cx}
theorem pe_comp {tg elt iter : Expr} {ifs : List Expr} {scope : Scope} {cl : List (Str × Addr)} {pos : Pos} {tgs : List Str} {caps : List (Str × Nat)} {wi : TI} {g : TG} {tc : TT} {te : TE}
    (hc : X.calm = true) (hi : PI X tg iter wi) (hclos : closureFor scope X.env = pure cl) (hcell : ∀ y ∈ scope.names, y.2 = .cell → y.1 ∉ caps.map (·.1)) (hkind : scope.kind = .function)
    (hnames : ∀ y ∈ scope.names, y.2 = .local → scope.names.lookup y.1 = some .local)
    (hcl : ∀ y c, cl.lookup y = some c → X.env.cells.lookup y = some c)
    (hhas : ∀ n y, ((relabel scope X.env).names.lookup y = some .cell ∨ (relabel scope X.env).names.lookup y = some .free) → ∃ c, (cellsFrom n scope.names cl).lookup y = some c)
    (hcap : ∀ c ∈ caps, X.N[c.2]? = some c.1 ∧ X.env.kindOf c.1 = some .cell ∧ ((relabel scope X.env).names.lookup c.1 = some .cell ∨ (relabel scope X.env).names.lookup c.1 = some .free))
    (hg : ∀ ex s0 H0, PG (X.block scope cl (tgs ++ caps.map (·.1)) ex s0 H0) tg g) (hif : ∀ ex s0 H0, PTs (X.block scope cl (tgs ++ caps.map (·.1)) ex s0 H0) ifs tc) (hel : ∀ ex s0 H0, PE (X.block scope cl (tgs ++ caps.map (·.1)) ex s0 H0) elt te)
    (hs : ∀ x, foldedSetIterable iter X.env x = pure x := by intro _; rfl) :
    PE X (.ListComp elt [⟨tg, iter, ifs, 0⟩] scope pos) (tComp wi g tc te (capσ tgs caps)) := by
  intro pins s σ H Q I h
  rw [eval_ListComp]
  refine wpAny_comprehension_free (use := none) rfl hs hclos hkind hnames (thn (hi pins s σ H _ I h) fun v s1 h1 => thn h1 fun itv s2 h2 => ?_)
  obtain ⟨it, fp, tn, J, H2, e, I2, T, st2, f2, hrest⟩ := h2
  subst e
  -- the new list
  have hD : H2 s2.heap.objs.size = none := I2.fresh
  obtain ⟨W, ⟨m0, w0⟩, turn⟩ := hrest _ hD
  refine wpAny_newObj_type ?_ (by show 0 ≤ sizeLine; decide)
  have I3 : Inv X pins σ (upd H2 s2.heap.objs.size (.lst [])) { s2 with heap := s2.heap.push { cls := .type "list", data := .seq ([] : List Value).toArray } } := I2.lnew (t' := s2.toks) (ys := []) (its := []) .nil (by show 0 ≤ sizeLine; decide)
  generalize hs3 : ({ s2 with heap := s2.heap.push { cls := .type "list", data := .seq ([] : List Value).toArray } } : Shared) = s3 at I3
  have lt2 : ∀ b o, s2.heap.get? b = some o → s3.heap.get? b = some o := fun b o e => by rw [← hs3]; exact Heap.get?_push_of_some _ e
  have sz3 : s2.heap.objs.size < s3.heap.objs.size := by rw [← hs3]; show _ < (s2.heap.push _).objs.size; rw [Heap.size_push]; exact Nat.lt_succ_self _
  have st3 : tn 0 s3.heap := T.keep 0 _ _ st2 fun b _ o e => lt2 b o e
  have fplt : ∀ b ∈ fp, b < s2.heap.objs.size := fun b hb => by
    obtain ⟨o, e, _⟩ := T.obj 0 _ st2 b hb
    exact Heap.lt_size e
  generalize hH3 : upd H2 s2.heap.objs.size (.lst []) = H3 at I3 w0
  have fr3 : ∀ b ∈ fp, H3 b = none := fun b hb => by rw [← hH3, upd_ne (Nat.ne_of_lt (fplt b hb))]; exact (f2 b hb).1
  have nstk : ∀ b ∈ fp, b ∉ frs X.stack := fun b hb z => by
    obtain ⟨_, n1, n2, _⟩ := f2 b hb
    rcases List.mem_cons.mp (I2.stkSub b z) with z | z
    · exact n1 z
    · exact n2 z
  refine wpAny_newFunctionEnv_block fun h4 ns4 sb4 => ?_
  have keep4 : ∀ b o, s3.heap.get? b = some o → h4.get? b = some o := fun b o e => by rw [sb4]; exact pushCells_keeps _ _ b o (Heap.get?_push_of_some _ e)
  have clt : ∀ x c, cl.lookup x = some c → c < s3.heap.objs.size := fun x c e => by
    obtain ⟨v, q⟩ := I3.cell x c (hcl x c e)
    exact q.lt
  have cor : ∀ x c, (cellsFrom (s3.heap.objs.size + 1) scope.names cl).lookup x = some c → cl.lookup x = some c ∨ s3.heap.objs.size + 1 ≤ c := fun x c e => cf_or _ _ _ e
  have cne : ∀ b ∈ fp, ∀ x c, (cellsFrom (s3.heap.objs.size + 1) scope.names cl).lookup x = some c → c ≠ b := fun b hb x c e => by
    rcases cor x c e with e | e
    · exact (f2 b hb).2.2.2.2.1 x c (hcl x c e)
    · exact Nat.ne_of_gt (Nat.lt_of_lt_of_le (Nat.lt_trans (fplt b hb) sz3) (Nat.le_of_succ_le e))
  have neC : ∀ b ∈ fp, b ≠ s3.heap.objs.size := fun b hb => Nat.ne_of_lt (Nat.lt_trans (fplt b hb) sz3)
  have ok' : (X.block scope cl (tgs ++ caps.map (·.1)) fp s3 H3).Ok :=
    ⟨I.ok.mod, hkind, I.ok.glob, I.ok.blt, Nat.le_refl _, cf_inj _ _ _ (fun x y c e1 e2 => I.ok.inj x y c (hcl x c e1) (hcl y c e2)) (fun x c e => Nat.lt_succ_of_lt (clt x c e)), hhas _, (fun x c z e => Nat.le_of_succ_le (cf_own _ _ _ (eq_of_beq z) e)), I.ok.hd, I.ok.frames, .inl rfl,
      fun b hb => ⟨neC b hb, cne b hb⟩, I3.bs, Nat.le_trans I.ok.bsz I3.sz, fun b o e hb => by
        rcases (f2 b hb).2.2.2.1 with z | z
        · exact I.ok.noex b o e z
        · exact absurd (Nat.lt_of_lt_of_le (Heap.lt_size e) (Nat.le_trans I.ok.bsz z)) (Nat.lt_irrefl _),
      nstk, I3.stack, I3.stkFree⟩
  have I4 : Inv (X.block scope cl (tgs ++ caps.map (·.1)) fp s3 H3) [] (capσ tgs caps σ) H3 { s3 with heap := h4 } := by
    refine ⟨ok', rfl, I3.bare, Un.kept keep4, ⟨_, ns4, fun i x v e1 e2 e3 => ?_⟩, fun x c e => ?_, I3.hok.fresh (Nat.le_refl _), fun x c e => (cor x c e).elim (fun e => I3.freeC x c (hcl x c e)) (fun e => I3.hok.fresh (Nat.le_of_succ_le e)), fun p hp => by simp [Cx.block] at hp, I3.hok.kept keep4, by simp [capσ, Cx.block]⟩
    · -- a captured name
      have hlen : (tgs.map (fun _ => (none : Option V))).length = tgs.length := by simp
      by_cases hi : i < tgs.length
      · have : (capσ tgs caps σ)[i]? = some none := by
          unfold capσ
          rw [List.getElem?_append_left (by simpa using hi)]
          simp [hi]
        rw [this] at e2
        cases e2
      · have e1' : (tgs ++ caps.map (·.1))[i]? = some x := e1
        rw [List.getElem?_append_right (by omega), List.getElem?_map] at e1'
        have e2' := e2
        unfold capσ at e2'
        rw [List.getElem?_append_right (by simpa using hi), hlen, List.getElem?_map] at e2'
        cases hcq : caps[i - tgs.length]? with
        | none => rw [hcq] at e1'; cases e1'
        | some cq =>
          rw [hcq] at e1' e2'
          have ex : cq.1 = x := Option.some.inj e1'
          have ev : (σ[cq.2]?).join = some v := Option.some.inj e2'
          obtain ⟨c1, c2, c3⟩ := hcap cq (List.mem_of_getElem? hcq)
          have ev' : σ[cq.2]? = some (some v) := by
            cases q : σ[cq.2]? with
            | none => rw [q] at ev; cases ev
            | some o => rw [q] at ev; cases o with
              | none => cases ev
              | some v' => rw [show v' = v from Option.some.inj ev]
          obtain ⟨m, hn, hl⟩ := I3.loc
          obtain ⟨u, r, lk⟩ := hl cq.2 cq.1 v c1 ev' (.inr (.inl c2))
          rcases lk with ⟨k1, _⟩ | ⟨_, c, ec, icl⟩
          · rw [c2] at k1; cases k1
          · obtain ⟨c', ec'⟩ := hhas (s3.heap.objs.size + 1) cq.1 c3
            have ec2 := ec'
            rw [cf_not _ _ _ fun y hy hk hyx => hcell y hy hk (by rw [hyx]; exact List.mem_map_of_mem (List.mem_of_getElem? hcq))] at ec2
            have := hcl _ _ ec2
            rw [ec] at this
            cases this
            refine ⟨u, r, .inr ⟨?_, c, ?_, ?_⟩⟩
            · rw [← ex]; exact c3
            · rw [← ex]; exact ec'
            · obtain ⟨o, ho, hd⟩ := icl
              exact ⟨o, keep4 _ _ ho, hd⟩
    · show ∃ v, h4.IsCell c v
      rw [sb4]
      refine cf_cell scope.names _ cl (fun x c f => ?_) x c (by rw [Heap.size_push]; exact e)
      obtain ⟨v, o, ho, hd⟩ := I3.cell x c (hcl x c f)
      exact ⟨v, o, Heap.get?_push_of_some _ ho, hd⟩
  have stat : ∀ {H' : Hp}, (∀ b ∈ fp, H' b = none) → ∀ b ∈ fp, FpOk (X.block scope cl (tgs ++ caps.map (·.1)) fp s3 H3) [] H' b := fun hn b hb =>
    ⟨hn b hb, neC b hb, nstk b hb, .inl hb, cne b hb, fun p hp => by simp [Cx.block] at hp⟩
  have st4 : tn 0 h4 := T.keep 0 _ _ st3 fun b _ o e => keep4 b o e
  have loop : codeAny (model X.prog X.w) X.A (.compLoop (.ListComp elt [⟨tg, iter, ifs, 0⟩] scope pos) 0 (.ref it) (.ref s2.heap.objs.size) (blockEnv scope cl s3.heap.objs.size X.env))
      (compPost (model X.prog X.w) X.A X.xe none (EP X pins σ Q) (.ref s2.heap.objs.size) s3.heap.objs.size) { s3 with heap := h4 } := by
    refine codeAny_compLoop_any (fun n s' => ∃ i σ' H', Inv (X.block scope cl (tgs ++ caps.map (·.1)) fp s3 H3) [] σ' H' s' ∧ tn i s'.heap ∧ (∀ b ∈ fp, H' b = none) ∧ W i n σ' H') ?_ m0 ⟨0, _, H3, I4, st4, fr3, w0⟩
    rintro n s5 ⟨i, σ5, H5, I5, st5, fr5, w5⟩
    rcases turn i n σ5 H5 w5 with ⟨stop, qn⟩ | ⟨go, N, hN, step⟩
    · refine wpAny_mono (T.done (X.block scope cl (tgs ++ caps.map (·.1)) fp s3 H3) rfl rfl rfl hc i [] s5 σ5 H5 (fun _ _ => False) I5 (stat fr5) st5 stop) (fun r s6 ⟨hr, I6⟩ => ?_) fun _ _ z => False.elim z
      subst hr
      obtain ⟨m6, hn6, _⟩ := I6.loc
      refine ⟨m6, hn6, fun h' sb => ?_⟩
      have nb : ∀ b o, s3.heap.get? b = some o → b ≠ s3.heap.objs.size := fun b o e => Nat.ne_of_lt (Heap.lt_size e)
      have eqb : ∀ b, b ≠ s3.heap.objs.size → h'.get? b = s6.heap.get? b := fun b hb => sb.2 b hb
      have uX : Un (frs X.stack) fp H3 H5 s3.heap h' := by
        have u := I6.base
        refine ⟨fun b o e a1 a2 a3 => ?_, fun b o e a1 a2 a3 => ?_, u.free, fun b o e a3 => ?_, u.tups, u.frzs, u.tbls⟩
        · rw [eqb b (nb b o e)]; exact u.keep b o e a1 a2 a3
        · rw [eqb b (nb b o e)]; exact u.slot b o e a1 a2 a3
        · rw [eqb b (nb b o e)]; exact u.there b o e a3
      have hokX : HOk X.prog X.w H5 h' := fun a o e => (I6.hok a o e).stay (fun b u hb eu => by
        have hbC : b ≠ s3.heap.objs.size := fun z => by
          have hfC : H5 s3.heap.objs.size = none := I6.free
          rcases hb with rfl | hb
          · rw [z, hfC] at e; cases e
          · rw [z, hfC] at hb; cases hb
        rw [eqb b hbC]; exact eu) (fun _ q => q) fun _ _ q => q
      have os6 : s6.os = s3.os := I6.os
      exact ⟨.ref s2.heap.objs.size, H5, I3.call' (s' := { s6 with heap := h' }) (ch := fp) os6 uX hokX I6.bare (fun b hb => ⟨(f2 b hb).2.2.2.1, (f2 b hb).2.1, (f2 b hb).2.2.2.2.1, (f2 b hb).2.2.2.2.2⟩), rfl, qn⟩
    · refine wpAny_mono (T.item (X.block scope cl (tgs ++ caps.map (·.1)) fp s3 H3) rfl rfl rfl hc i [] s5 σ5 H5 (fun _ _ => False) I5 (stat fr5) st5 go) (fun r s6 ⟨u, hr, h6⟩ => ?_) fun _ _ z => False.elim z
      subst hr
      refine wpAny_mono h6 (fun _ s7 ⟨x, H7, I7, r7, y7, st7, fr7⟩ => ?_) fun _ _ z => False.elim z
      have I7' := I7.pinned (stat fr7) (T.obj _ _ st7)
      have again : ∀ {s9 : Shared} {σ9 : St} {H9 : Hp}, Inv (X.block scope cl (tgs ++ caps.map (·.1)) fp s3 H3) ([] ++ pinsAt fp s7.heap) σ9 H9 s9 → N σ9 H9 →
          ∃ m, m < n ∧ ∃ i σ' H', Inv (X.block scope cl (tgs ++ caps.map (·.1)) fp s3 H3) [] σ' H' s9 ∧ tn i s9.heap ∧ (∀ b ∈ fp, H' b = none) ∧ W i m σ' H' := fun {s9 σ9 H9} I9 n9 => by
        obtain ⟨m', hm, w9⟩ := hN σ9 H9 n9
        refine ⟨m', hm, i + 1, σ9, H9, I9.unpinned, T.keep _ _ _ st7 fun b hb o e => (I9.pin (b, o) (List.mem_append_right _ (List.mem_append_right _ (mem_pinsAt hb e)))).1, fun b hb => ?_, w9⟩
        obtain ⟨o, e, d⟩ := T.obj _ _ st7 b hb
        exact (I9.pin (b, o) (List.mem_append_right _ (List.mem_append_right _ (mem_pinsAt hb e)))).2.1
      refine wpAny_mono (hg fp s3 H3 _ s7 σ5 H7 x u _ I7' r7 (step x H7 y7)) (fun _ s8 ⟨σ8, H8, I8, q8⟩ => ?_) fun _ _ z => False.elim z
      refine wpAny_mono (hif fp s3 H3 _ s8 σ8 H8 _ I8 q8) (fun b s9 ⟨H9, I9, q9⟩ => ?_) fun _ _ z => False.elim z
      cases b with
      | false =>
        rw [if_neg Bool.false_ne_true] at q9
        rw [if_neg Bool.false_ne_true]
        exact again I9 q9
      | true =>
        rw [if_pos rfl] at q9
        rw [if_pos rfl]
        refine wpAny_mono (hel fp s3 H3 _ s9 σ8 H9 _ I9 q9) (fun xv s10 ⟨v, H10, I10, rv, ys, hy, hl, q10⟩ => ?_) fun _ _ z => False.elim z
        refine wpAny_mono (mt_append (X := X.block scope cl (tgs ++ caps.map (·.1)) fp s3 H3) _ s10 σ8 H10 (.ref s2.heap.objs.size) [v] (.ref s2.heap.objs.size) [xv] (fun _ H11 => N σ8 H11) I10 rfl (.cons rv .nil) ⟨_, ys, v, rfl, rfl, hy, hl, q10⟩) (fun _ s11 ⟨_, H11, I11, _, q11⟩ => again I11 q11) fun _ _ z => False.elim z
  exact codeAny_compStart_list loop (T.self _ 0 _ _ _ st4 loop)
end
end L2
namespace L2
open PySem PySem.Spec PyProof.Rows
def Each {α : Type} (P : α → Prop) : List α → Prop
  | [] => True
  | a :: l => P a ∧ Each P l
theorem Each.of {α : Type} {P : α → Prop} : ∀ {l : List α}, Each P l → ∀ a ∈ l, P a
  | _ :: _, ⟨h, _⟩, _, .head _ => h
  | _ :: _, ⟨_, h⟩, _, .tail _ m => Each.of h _ m
theorem lookup_mem {l : List (Str × NameKind)} {y : Str} {k : NameKind} (h : l.lookup y = some k) : (y, k) ∈ l := by
  induction l with
  | nil => cases h
  | cons p l ih =>
    obtain ⟨n, k'⟩ := p
    rw [List.lookup_cons] at h
    cases e : y == n with
    | true =>
      rw [e] at h
      cases h
      rw [eq_of_beq e]
      exact .head _
    | false =>
      rw [e] at h
      exact .tail _ (ih h)
theorem has_of {l : List (Str × NameKind)} {cl : List (Str × Addr)} (h : Each (fun p => (p.2 = .cell ∨ p.2 = .free) → ∃ c, cl.lookup p.1 = some c) l) (y : Str) (q : l.lookup y = some .cell ∨ l.lookup y = some .free) : ∃ c, cl.lookup y = some c := by
  rcases q with q | q
  · exact h.of _ (lookup_mem q) (.inl rfl)
  · exact h.of _ (lookup_mem q) (.inr rfl)
theorem PI.or {X : Cx} {tg iter : Expr} {wi wi' : TI} (h : PI X tg iter wi) (h' : PI X tg iter wi') : PI X tg iter (fun σ H R => wi σ H R ∨ wi' σ H R) := fun pins s σ H R I q => q.elim (h pins s σ H R I) (h' pins s σ H R I)
section
variable {X : Cx}
end
end L2
namespace L2
open PySem PySem.Spec PyProof.Rows
section
variable {X : Cx}
def rCatA (K : PySem.W.Frag) : R2 := fun x y H Q => ∃ a b xs ys, x = .ref a ∧ y = .ref b ∧ SqT K H a xs ∧ SqT K H b ys ∧ xs.length + ys.length ≤ sizeLine ∧
  (xs = [] → Q (.ref b) H) ∧ (xs ≠ [] → ys = [] → Q (.ref a) H) ∧ (xs ≠ [] → ys ≠ [] → ∀ p, H p = none → Q (.ref p) (upd H p (.tup (xs ++ ys))))
theorem op_catA : OpR X (binaryOp .Add) (rCatA X.K) := by
  intro pins s σ H x y v u Q I rx ry h
  obtain ⟨a, b, xs, ys, rfl, rfl, ha, hb, hz, q0, q1, q2⟩ := h
  by_cases hx : xs = []
  · cases rx
    cases ry
    obtain ⟨its, r1, p1, _⟩ := I.tuple ha
    obtain ⟨its2, r2, p2, _⟩ := I.tuple hb
    obtain ⟨⟨cls, dd, data, sl⟩, ho, hc, n, hd⟩ := id p1
    obtain ⟨⟨cls2, dd2, data2, sl2⟩, ho2, hc2, n2, hd2⟩ := id p2
    simp only at hc hd hc2 hd2
    subst hc hd hc2 hd2
    have e : its = [] := r1.nil_iff.mpr hx
    exact concat_meets ⟨_, ho, rfl⟩ ⟨_, ho2, rfl⟩ noFill_tuple_add seq_tuple_add PySem.F.slot_tuple_add PySem.F.entry_tuple_add (PySem.F.args_tuple_add_2 _ _)
      (tuple_addW0 a b its.toArray its2.toArray n n2 dd dd2 sl sl2 (by simp [e])) ⟨ho, ho2, ⟨.ref b, H, I, rfl, q0 hx⟩⟩
  · exact op_catT pins s σ H _ _ v u Q I rx ry ⟨a, b, xs, ys, rfl, rfl, ha, hb, hx, hz, q1 hx, q2 hx⟩
end
end L2
namespace HT
open PySem PySem.Spec PyProof.Rows
section
variable {prog : Program} {w : World} {A : Around} {E : Value → Shared → Prop} {s : Shared}
theorem getItem_tuple_whole {t sl : Addr} {items : Array Value} {vl vu : Value} {lo hi : Option Int} {Q : Value → Shared → Prop} (ht : IsTup s.heap t items) (hs : s.heap.IsSliceOf sl vl vu .none) (pl : IsPart vl lo) (pu : IsPart vu hi)
    (hw : sIx items.size 0 lo = 0 ∧ sIx items.size items.size hi = items.size) (h : Q (.ref t) s) : wpAny (model prog w) A (getItem (.ref t) (.ref sl)) Q E s := by
  obtain ⟨os, hos, hcs, hds⟩ := id hs
  have hTs : s.TypeIs (.ref sl) "slice" := ⟨os, hos, hcs⟩
  unfold getItem
  try with_reducible refine wpAny_holding ?_
  first | refine wpAny_bind (wpAny_pure ?_) | skip
  refine wpAny_bind (wpAny_sequenceKey ht.typeIs (by decide) ?_)
  refine wpAny_bind (wpAny_callSpecial?_slot (name := Str.ofString "__getitem__") ht.typeIs PyProof.Rows.slot_tuple_getitem
    (wpAny_call_entry PyProof.Rows.slot_tuple_getitem ht.typeIs entry_tuple_getitem ?_ (args_tuple_getitem _ _)))
  show wpAny _ _ (Builtin.Tuple.tupleItemsOf (.ref t) >>= _) _ _ s
  refine wpAny_bind (tupleItemsOf_ ht ?_)
  refine wpAny_bind (wpAny_typeOf hTs ?_)
  rw [if_pos (by decide)]
  refine wpAny_bind (sliceApplied_gen hs pl pu ?_)
  have hyes : (((sIx items.size 0 lo : Nat) : Int) == 0 && (1 : Int) == 1 && (sIx items.size items.size hi - sIx items.size 0 lo) == items.size) = true := by
    rw [hw.1, hw.2]; simp
  show wpAny _ _ (if (((sIx items.size 0 lo : Nat) : Int) == 0 && (1 : Int) == 1 && (sIx items.size items.size hi - sIx items.size 0 lo) == items.size) = true then _ else _) _ _ s
  rw [if_pos hyes]
  refine wpAny_bind ?_
  unfold Builtin.Tuple.tupleIsExact
  refine wpAny_bind (wpAny_typeOf ht.typeIs (wpAny_pure ?_))
  rw [if_pos (by decide)]
  exact wpAny_bind (wpAny_rule (wpAny_pure ⟨_, rfl, wpAny_pure h⟩))
end
end HT
namespace L2
open PySem PySem.Spec PyProof.Rows
section
variable {X : Cx}
def rSlA (K : PySem.W.Frag) : V → Option Int → Option Int → Hp → VK → Prop := fun x lo hi H Q => ∃ a xs, x = .ref a ∧ SqT K H a xs ∧
  ((HT.sIx xs.length 0 lo = 0 ∧ HT.sIx xs.length xs.length hi = xs.length) → Q (.ref a) H) ∧ (¬ (HT.sIx xs.length 0 lo = 0 ∧ HT.sIx xs.length xs.length hi = xs.length) → ∀ p, H p = none → Q (.ref p) (upd H p (.tup (cutV xs lo hi))))
theorem sl_tupA : SlR X (rSlA X.K) := by
  intro pins s σ H x v vl vu lo hi sl Q I rx hs pl pu h
  obtain ⟨a, xs, rfl, hx, q1, q2⟩ := h
  by_cases hw : HT.sIx xs.length 0 lo = 0 ∧ HT.sIx xs.length xs.length hi = xs.length
  · cases rx
    obtain ⟨its, r, ht, hz⟩ := I.tuple hx
    have hlen : its.toArray.size = xs.length := by rw [List.size_toArray]; exact r.length.symm
    refine ⟨"tuple", _, PyProof.Rows.slot_tuple_getitem.lookup, ht.typeIs, ?_⟩
    refine HT.getItem_tuple_whole ht hs pl pu (by rw [hlen]; exact hw) ⟨.ref a, H, I, rfl, q1 hw⟩
  · exact sl_tup pins s σ H _ v vl vu lo hi sl Q I rx hs pl pu ⟨a, xs, rfl, hx, hw, q2 hw⟩
theorem noFill_tuple_mul : fillsNumberSlot (.type "tuple") "mul" = pure false :=
  PySem.fillsNumberSlot_seq (id := "tuple.__mul__") (r := some (.builtin "tuple.__rmul__")) PySem.F.slot_tuple_mul.lookup (by decide +kernel) PySem.F.slot_tuple_rmul.lookup (by decide +kernel)
theorem repeat_tuple : seqRepeat? (.type "tuple") = pure (some (.builtin "tuple.__mul__")) := by
  unfold seqRepeat?
  rw [PySem.seqSlot_of (T := "tuple") (name := "__mul__") (id := "tuple.__mul__") PySem.F.slot_tuple_mul.lookup (by decide +kernel), PySem.seqSlot_of (T := "tuple") (name := "__rmul__") (id := "tuple.__rmul__") PySem.F.slot_tuple_rmul.lookup (by decide +kernel)]
  rfl
theorem rmul_int_tuple (a : Int) (t : Tok) (l : Addr) (items : Array Value) (n : Nat) (dd : Option Addr) (sl : Array (Option Value)) :
    Meets (Builtin.«int.__rmul__» ⟨[.int a t, .ref l], []⟩) (fun _ R s => s.heap.get? l = some { cls := .type "tuple", dict := dd, data := .seq items n, slots := sl } ∧ R (.ok (.ret Value.notImplemented)) s) :=
  .of_wp fun prog w A R s h => by obtain ⟨hp, g, d, tk, os⟩ := s; obtain ⟨hl, h⟩ := h; wp_walk; exact ⟨_, rfl, h⟩
theorem tuple_mulW (l : Addr) (items : Array Value) (n : Nat) (x : Int) (u : Tok) (dd : Option Addr) (sl : Array (Option Value)) (h0 : items.isEmpty = false) (h1 : 2 ≤ x) (h2 : x < 2 ^ 63) (h3 : items.size * x.toNat ≤ sizeLine) :
    Meets (Builtin.«tuple.__mul__» ⟨[.ref l, .int x u], []⟩) (fun _ R s => s.heap.get? l = some { cls := .type "tuple", dict := dd, data := .seq items n, slots := sl } ∧ R (.ok (.ret (Value.ref s.heap.objs.size))) { s with heap := s.heap.push { cls := Value.type "tuple", data := Data.seq (List.foldl (fun x1 x2 => x1 ++ x2) #[] (List.replicate x.toNat items)) }, toks := s.toks }) :=
  .of_wp fun prog w A R s h => by
    obtain ⟨hp, g, d, tk, os⟩ := s; obtain ⟨hl, h⟩ := h
    have f1 := AutoSeq1.idx_int
    have hA : ¬(decide (x < -2 ^ 63) || decide (x ≥ 2 ^ 63)) = true := by simp; omega
    have hB : ¬(items.isEmpty || x == 1) = true := by rw [h0]; simp; omega
    have hC : ¬(decide (x ≤ 0) || items.isEmpty) = true := by rw [h0]; simp; omega
    have hm : ((items.size : Nat) : Int) * x = ((items.size * x.toNat : Nat) : Int) := by
      rw [Int.natCast_mul, Int.toNat_of_nonneg (by omega)]
    have hs2 : (sizeLine : Nat) ≤ (2 ^ 63 - 1) / 8 := by decide
    have hD : ¬((items.size : Nat) : Int) * x > (2 ^ 63 - 1) / 8 := by rw [hm]; omega
    have hE : ¬Builtin.Tuple.tupleTooMany (((items.size : Nat) : Int) * x) = true := by
      rw [hm]
      show ¬ decide (((items.size * x.toNat : Nat) : Int) > ((sizeLine : Nat) : Int)) = true
      rw [decide_eq_true_iff]; omega
    have hT : IsTup hp l items := ⟨_, hl, rfl, n, rfl⟩
    wp_walk using wpAny_loadPart' hl
    rw [if_neg hA]
    refine wpAny_bind (tupleItemsOf_ hT ?_)
    show wpAny _ _ (if (items.isEmpty || x == 1) = true then _ else _) _ _ _
    rw [if_neg hB]
    show wpAny _ _ (if (decide (x ≤ 0) || items.isEmpty) = true then _ else _) _ _ _
    rw [if_neg hC]
    show wpAny _ _ (if ((items.size : Nat) : Int) * x > (2 ^ 63 - 1) / 8 then _ else _) _ _ _
    rw [if_neg hD]
    show wpAny _ _ (if Builtin.Tuple.tupleTooMany (((items.size : Nat) : Int) * x) = true then _ else _) _ _ _
    rw [if_neg hE]
    have hj : (List.foldl (fun x1 x2 => x1 ++ x2) #[] (List.replicate x.toNat items)).size ≤ sizeLine := by
      have := foldl_rep items.toList x.toNat []
      rw [List.nil_append, Array.toArray_toList] at this
      rw [this, List.size_toArray, len_rep, Nat.mul_comm, Array.length_toList]
      exact h3
    exact wpAny_bind (m := Builtin.Tuple.tupleExact _) (wpAny_newObj_type (wpAny_pure ⟨_, rfl, h⟩) hj)
def rRepT (K : PySem.W.Frag) : R2 := fun x y H Q => ∃ l k xs, x = .ref l ∧ y = .int k ∧ SqT K H l xs ∧ xs ≠ [] ∧ 2 ≤ k ∧ k < 2 ^ 63 ∧ xs.length * k.toNat ≤ sizeLine ∧
  ∀ p, H p = none → Q (.ref p) (upd H p (.tup (List.replicate k.toNat xs).flatten))
theorem op_repT : OpR X (binaryOp .Mult) (rRepT X.K) := by
  intro pins s σ H x y v u Q I rx ry h
  obtain ⟨l, k, xs, rfl, rfl, hH, hx, h1, h2, hz, q⟩ := h
  cases rx
  obtain ⟨t, rfl⟩ := ry
  obtain ⟨its, r, pl, _⟩ := I.tuple hH
  have hl := r.length
  obtain ⟨⟨cls, dd, data, sl⟩, ho, hc, n, hd⟩ := id pl
  simp only at hc hd
  subst hc hd
  have hlen : its.toArray.size * k.toNat ≤ sizeLine := by rw [List.size_toArray, ← hl]; exact hz
  have hne : its.toArray.isEmpty = false := by
    cases its with
    | nil => exact absurd (r.nil_iff.mp rfl) hx
    | cons a b => rfl
  have hnew : List.foldl (fun x1 x2 => x1 ++ x2) #[] (List.replicate k.toNat its.toArray) = (List.replicate k.toNat its).flatten.toArray := by
    have := foldl_rep its k.toNat []
    rw [List.nil_append] at this
    exact this
  refine wpAny_binaryOp_repeat_ref (T := "tuple") (U := "int") (by decide) ⟨_, ho, rfl⟩ (fun s' => typeIs_int s' k t) noFill_tuple_mul F.fills_int_mul F.slot_int_rmul repeat_tuple F.slot_int_index.lookup
    (call_meets F.slot_int_rmul (typeIs_int s k t) F.entry_int_rmul (F.args_int_rmul_2 _ _) (rmul_int_tuple k t l its.toArray n dd sl)
      ⟨ho, rfl, ⟨_, ho, rfl⟩, call_meets F.slot_tuple_mul ⟨_, ho, rfl⟩ F.entry_tuple_mul (F.args_tuple_mul_2 _ _) (tuple_mulW l its.toArray n k t dd sl hne h1 h2 hlen) ⟨ho, ?_⟩⟩)
  rw [hnew]
  refine ⟨.ref s.heap.objs.size, _, I.laid (t' := s.toks) (o := .tup (List.replicate k.toNat xs).flatten) (fun b ob q => Heap.get?_push_of_some _ q) (Nat.le_refl _) ?_, rfl, q _ (I.hok.fresh (Nat.le_refl _))⟩
  exact ⟨by rw [len_rep, Nat.mul_comm]; exact hz, _, r.rep k.toNat, IsTup.new _ _, NoDict.new⟩
end
end L2
namespace L2
open PySem PySem.Spec PyProof.Rows
section
variable {X : Cx}
theorem ps_setComp {i0 : Nat} {y0 : Str} {py spos : Pos} {tg elt iter : Expr} {ifs : List Expr} {scope : Scope} {cl : List (Str × Addr)} {pos : Pos} {tgs : List Str} {caps : List (Str × Nat)} {wi : TI} {g : TG} {tc : TT} {te : TE}
    (hc : X.calm = true) (hi : PI X tg iter wi) (hclos : closureFor scope X.env = pure cl) (hcell : ∀ y ∈ scope.names, y.2 = .cell → y.1 ∉ caps.map (·.1)) (hkind : scope.kind = .function)
    (hnames : ∀ y ∈ scope.names, y.2 = .local → scope.names.lookup y.1 = some .local)
    (hcl : ∀ y c, cl.lookup y = some c → X.env.cells.lookup y = some c)
    (hhas : ∀ n y, ((relabel scope X.env).names.lookup y = some .cell ∨ (relabel scope X.env).names.lookup y = some .free) → ∃ c, (cellsFrom n scope.names cl).lookup y = some c)
    (hcap : ∀ c ∈ caps, X.N[c.2]? = some c.1 ∧ X.env.kindOf c.1 = some .cell ∧ ((relabel scope X.env).names.lookup c.1 = some .cell ∨ (relabel scope X.env).names.lookup c.1 = some .free))
    (hg : ∀ ex s0 H0, PG (X.block scope cl (tgs ++ caps.map (·.1)) ex s0 H0) tg g) (hif : ∀ ex s0 H0, PTs (X.block scope cl (tgs ++ caps.map (·.1)) ex s0 H0) ifs tc) (hel : ∀ ex s0 H0, PE (X.block scope cl (tgs ++ caps.map (·.1)) ex s0 H0) elt te)
    (hN0 : X.N.Nodup) (hi0 : X.N[i0]? = some y0) (hx0 : Loc X.env.scope y0)
    (hsw : swapsWith (.ListComp elt [⟨tg, iter, ifs, 0⟩] scope pos) (some (.Name y0 py)) spos.line X.env = pure true := by rfl)
    (hf0 : X.fn y0 = true ∨ X.env.scope.names.lookup y0 = some .local := by first | exact .inl rfl | exact .inr rfl | assumption)
    (hs : ∀ x, foldedSetIterable iter X.env x = pure x := by intro _; rfl) :
    PS X (.Assign [.Name y0 py] (.ListComp elt [⟨tg, iter, ifs, 0⟩] scope pos) spos) (fun D σ H => tComp wi g tc te (capσ tgs caps) σ H fun v H' => D.nx (σ.set i0 (some v)) H') := by
  intro pins s σ H DD I h
  rw [exec_Assign_Name_used _ _ _ _ hsw]
  refine wpAny_bind (wpAny_standAt (wpAny_bind ?_))
  show wpAny _ X.A (do let _ ← comprehension (.ListComp elt [⟨tg, iter, ifs, 0⟩] scope pos) scope X.env _ (newList []) false (eval iter X.env) (some (assign (.Name y0 py) X.env))) _ _ s
  refine wpAny_bind (wpAny_mono (wpAny_comprehension_free (use := some (assign (.Name y0 py) X.env)) (Q := fun _ s' => SP X pins DD .next s') rfl hs hclos hkind hnames
    (thn (hi pins s σ H _ I h) fun v s1 h1 => thn h1 fun itv s2 h2 => ?_)) (fun _ s' hq => wpAny_pure (wpAny_pure hq)) fun _ _ e => e)
  obtain ⟨it, fp, tn, J, H2, e, I2, T, st2, f2, hrest⟩ := h2
  subst e
  -- the new list
  have hD : H2 s2.heap.objs.size = none := I2.fresh
  obtain ⟨W, ⟨m0, w0⟩, turn⟩ := hrest _ hD
  refine wpAny_newObj_type ?_ (by show 0 ≤ sizeLine; decide)
  have I3 : Inv X pins σ (upd H2 s2.heap.objs.size (.lst [])) { s2 with heap := s2.heap.push { cls := .type "list", data := .seq ([] : List Value).toArray } } := I2.lnew (t' := s2.toks) (ys := []) (its := []) .nil (by show 0 ≤ sizeLine; decide)
  generalize hs3 : ({ s2 with heap := s2.heap.push { cls := .type "list", data := .seq ([] : List Value).toArray } } : Shared) = s3 at I3
  have lt2 : ∀ b o, s2.heap.get? b = some o → s3.heap.get? b = some o := fun b o e => by rw [← hs3]; exact Heap.get?_push_of_some _ e
  have sz3 : s2.heap.objs.size < s3.heap.objs.size := by rw [← hs3]; show _ < (s2.heap.push _).objs.size; rw [Heap.size_push]; exact Nat.lt_succ_self _
  have st3 : tn 0 s3.heap := T.keep 0 _ _ st2 fun b _ o e => lt2 b o e
  have fplt : ∀ b ∈ fp, b < s2.heap.objs.size := fun b hb => by
    obtain ⟨o, e, _⟩ := T.obj 0 _ st2 b hb
    exact Heap.lt_size e
  generalize hH3 : upd H2 s2.heap.objs.size (.lst []) = H3 at I3 w0
  have fr3 : ∀ b ∈ fp, H3 b = none := fun b hb => by rw [← hH3, upd_ne (Nat.ne_of_lt (fplt b hb))]; exact (f2 b hb).1
  have nstk : ∀ b ∈ fp, b ∉ frs X.stack := fun b hb z => by
    obtain ⟨_, n1, n2, _⟩ := f2 b hb
    rcases List.mem_cons.mp (I2.stkSub b z) with z | z
    · exact n1 z
    · exact n2 z
  refine wpAny_newFunctionEnv_block fun h4 ns4 sb4 => ?_
  have keep4 : ∀ b o, s3.heap.get? b = some o → h4.get? b = some o := fun b o e => by rw [sb4]; exact pushCells_keeps _ _ b o (Heap.get?_push_of_some _ e)
  have clt : ∀ x c, cl.lookup x = some c → c < s3.heap.objs.size := fun x c e => by
    obtain ⟨v, q⟩ := I3.cell x c (hcl x c e)
    exact q.lt
  have cor : ∀ x c, (cellsFrom (s3.heap.objs.size + 1) scope.names cl).lookup x = some c → cl.lookup x = some c ∨ s3.heap.objs.size + 1 ≤ c := fun x c e => cf_or _ _ _ e
  have cne : ∀ b ∈ fp, ∀ x c, (cellsFrom (s3.heap.objs.size + 1) scope.names cl).lookup x = some c → c ≠ b := fun b hb x c e => by
    rcases cor x c e with e | e
    · exact (f2 b hb).2.2.2.2.1 x c (hcl x c e)
    · exact Nat.ne_of_gt (Nat.lt_of_lt_of_le (Nat.lt_trans (fplt b hb) sz3) (Nat.le_of_succ_le e))
  have neC : ∀ b ∈ fp, b ≠ s3.heap.objs.size := fun b hb => Nat.ne_of_lt (Nat.lt_trans (fplt b hb) sz3)
  have ok' : (X.block scope cl (tgs ++ caps.map (·.1)) fp s3 H3).Ok :=
    ⟨I.ok.mod, hkind, I.ok.glob, I.ok.blt, Nat.le_refl _, cf_inj _ _ _ (fun x y c e1 e2 => I.ok.inj x y c (hcl x c e1) (hcl y c e2)) (fun x c e => Nat.lt_succ_of_lt (clt x c e)), hhas _, (fun x c z e => Nat.le_of_succ_le (cf_own _ _ _ (eq_of_beq z) e)), I.ok.hd, I.ok.frames, .inl rfl,
      fun b hb => ⟨neC b hb, cne b hb⟩, I3.bs, Nat.le_trans I.ok.bsz I3.sz, fun b o e hb => by
        rcases (f2 b hb).2.2.2.1 with z | z
        · exact I.ok.noex b o e z
        · exact absurd (Nat.lt_of_lt_of_le (Heap.lt_size e) (Nat.le_trans I.ok.bsz z)) (Nat.lt_irrefl _),
      nstk, I3.stack, I3.stkFree⟩
  have I4 : Inv (X.block scope cl (tgs ++ caps.map (·.1)) fp s3 H3) [] (capσ tgs caps σ) H3 { s3 with heap := h4 } := by
    refine ⟨ok', rfl, I3.bare, Un.kept keep4, ⟨_, ns4, fun i x v e1 e2 e3 => ?_⟩, fun x c e => ?_, I3.hok.fresh (Nat.le_refl _), fun x c e => (cor x c e).elim (fun e => I3.freeC x c (hcl x c e)) (fun e => I3.hok.fresh (Nat.le_of_succ_le e)), fun p hp => by simp [Cx.block] at hp, I3.hok.kept keep4, by simp [capσ, Cx.block]⟩
    · -- a captured name
      have hlen : (tgs.map (fun _ => (none : Option V))).length = tgs.length := by simp
      by_cases hi : i < tgs.length
      · have : (capσ tgs caps σ)[i]? = some none := by
          unfold capσ
          rw [List.getElem?_append_left (by simpa using hi)]
          simp [hi]
        rw [this] at e2
        cases e2
      · have e1' : (tgs ++ caps.map (·.1))[i]? = some x := e1
        rw [List.getElem?_append_right (by omega), List.getElem?_map] at e1'
        have e2' := e2
        unfold capσ at e2'
        rw [List.getElem?_append_right (by simpa using hi), hlen, List.getElem?_map] at e2'
        cases hcq : caps[i - tgs.length]? with
        | none => rw [hcq] at e1'; cases e1'
        | some cq =>
          rw [hcq] at e1' e2'
          have ex : cq.1 = x := Option.some.inj e1'
          have ev : (σ[cq.2]?).join = some v := Option.some.inj e2'
          obtain ⟨c1, c2, c3⟩ := hcap cq (List.mem_of_getElem? hcq)
          have ev' : σ[cq.2]? = some (some v) := by
            cases q : σ[cq.2]? with
            | none => rw [q] at ev; cases ev
            | some o => rw [q] at ev; cases o with
              | none => cases ev
              | some v' => rw [show v' = v from Option.some.inj ev]
          obtain ⟨m, hn, hl⟩ := I3.loc
          obtain ⟨u, r, lk⟩ := hl cq.2 cq.1 v c1 ev' (.inr (.inl c2))
          rcases lk with ⟨k1, _⟩ | ⟨_, c, ec, icl⟩
          · rw [c2] at k1; cases k1
          · obtain ⟨c', ec'⟩ := hhas (s3.heap.objs.size + 1) cq.1 c3
            have ec2 := ec'
            rw [cf_not _ _ _ fun y hy hk hyx => hcell y hy hk (by rw [hyx]; exact List.mem_map_of_mem (List.mem_of_getElem? hcq))] at ec2
            have := hcl _ _ ec2
            rw [ec] at this
            cases this
            refine ⟨u, r, .inr ⟨?_, c, ?_, ?_⟩⟩
            · rw [← ex]; exact c3
            · rw [← ex]; exact ec'
            · obtain ⟨o, ho, hd⟩ := icl
              exact ⟨o, keep4 _ _ ho, hd⟩
    · show ∃ v, h4.IsCell c v
      rw [sb4]
      refine cf_cell scope.names _ cl (fun x c f => ?_) x c (by rw [Heap.size_push]; exact e)
      obtain ⟨v, o, ho, hd⟩ := I3.cell x c (hcl x c f)
      exact ⟨v, o, Heap.get?_push_of_some _ ho, hd⟩
  have stat : ∀ {H' : Hp}, (∀ b ∈ fp, H' b = none) → ∀ b ∈ fp, FpOk (X.block scope cl (tgs ++ caps.map (·.1)) fp s3 H3) [] H' b := fun hn b hb =>
    ⟨hn b hb, neC b hb, nstk b hb, .inl hb, cne b hb, fun p hp => by simp [Cx.block] at hp⟩
  have st4 : tn 0 h4 := T.keep 0 _ _ st3 fun b _ o e => keep4 b o e
  have loop : codeAny (model X.prog X.w) X.A (.compLoop (.ListComp elt [⟨tg, iter, ifs, 0⟩] scope pos) 0 (.ref it) (.ref s2.heap.objs.size) (blockEnv scope cl s3.heap.objs.size X.env))
      (compPost (model X.prog X.w) X.A X.xe (some (assign (.Name y0 py) X.env)) (fun _ s' => SP X pins DD .next s') (.ref s2.heap.objs.size) s3.heap.objs.size) { s3 with heap := h4 } := by
    refine codeAny_compLoop_any (fun n s' => ∃ i σ' H', Inv (X.block scope cl (tgs ++ caps.map (·.1)) fp s3 H3) [] σ' H' s' ∧ tn i s'.heap ∧ (∀ b ∈ fp, H' b = none) ∧ W i n σ' H') ?_ m0 ⟨0, _, H3, I4, st4, fr3, w0⟩
    rintro n s5 ⟨i, σ5, H5, I5, st5, fr5, w5⟩
    rcases turn i n σ5 H5 w5 with ⟨stop, qn⟩ | ⟨go, N, hN, step⟩
    · refine wpAny_mono (T.done (X.block scope cl (tgs ++ caps.map (·.1)) fp s3 H3) rfl rfl rfl hc i [] s5 σ5 H5 (fun _ _ => False) I5 (stat fr5) st5 stop) (fun r s6 ⟨hr, I6⟩ => ?_) fun _ _ z => False.elim z
      subst hr
      obtain ⟨m6, hn6, _⟩ := I6.loc
      have nb : ∀ b o, s3.heap.get? b = some o → b ≠ s3.heap.objs.size := fun b o e => Nat.ne_of_lt (Heap.lt_size e)
      have uX : Un (frs X.stack) fp H3 H5 s3.heap s6.heap := I6.base
      have os6 : s6.os = s3.os := I6.os
      have I6X : Inv X pins σ H5 s6 := I3.call' (s' := s6) (ch := fp) os6 uX I6.hok I6.bare (fun b hb => ⟨(f2 b hb).2.2.2.1, (f2 b hb).2.1, (f2 b hb).2.2.2.2.1, (f2 b hb).2.2.2.2.2⟩)
      have hfC : H5 s3.heap.objs.size = none := I6.free
      show wpAny _ X.A (assign (.Name y0 py) X.env (.ref s2.heap.objs.size)) _ _ s6
      refine wpAny_assign_Name (store_ok2 I6X hN0 hi0 hx0 (v := .ref s2.heap.objs.size) rfl (fun s7 I7 ⟨a, sa, ha⟩ => ?_) hf0)
      have aC : s3.heap.objs.size ≠ a := fun z => by
        rcases ha with ha | ha
        · have h3 := I3.lt
          rw [ha] at z
          rw [← z] at h3
          exact Nat.lt_irrefl _ h3
        · obtain ⟨v, q⟩ := I3.cell _ _ ha
          have := q.lt
          rw [← z] at this
          exact Nat.lt_irrefl _ this
      refine ⟨m6, hn6.sameBut sa aC, fun h' sb => ?_⟩
      have eqb : ∀ b, b ≠ s3.heap.objs.size → h'.get? b = s7.heap.get? b := fun b hb => sb.2 b hb
      have uY : Un (frs X.stack) [s3.heap.objs.size] H5 H5 s7.heap h' := by
        refine ⟨fun b o e a1 a2 a3 => ?_, fun b o e a1 a2 a3 => ?_, fun _ _ _ q _ => q, fun b o e a3 => ?_, fun _ _ q => q, fun _ _ _ q => q, fun b ps q => ⟨#[], by simpa using q⟩⟩
        · rw [eqb b (fun z => a3 (by rw [z]; exact .head _))]; exact e
        · exact ⟨o.slots, by rw [eqb b (fun z => a3 (by rw [z]; exact .head _))]; exact e⟩
        · exact ⟨o, by rw [eqb b (fun z => a3 (by rw [z]; exact .head _))]; exact e⟩
      have hokY : HOk X.prog X.w H5 h' := fun a o e => (I7.hok a o e).stay (fun b u hb eu => by
        have hbC : b ≠ s3.heap.objs.size := fun z => by
          rcases hb with rfl | hb
          · rw [z, hfC] at e; cases e
          · rw [z, hfC] at hb; cases hb
        rw [eqb b hbC]; exact eu) (fun _ q => q) fun _ _ q => q
      refine ⟨σ.set i0 (some (.ref s2.heap.objs.size)), H5, I7.call' (s' := { s7 with heap := h' }) (ch := [s3.heap.objs.size]) rfl uY hokY I7.bare (fun b hb => ?_), qn⟩
      rw [List.mem_singleton.mp hb]
      refine ⟨.inr I3.sz, Nat.ne_of_gt I3.lt, fun x c e z => ?_, fun p hp z => ?_⟩
      · obtain ⟨v, q⟩ := I3.cell x c e
        have := q.lt
        rw [z] at this
        exact Nat.lt_irrefl _ this
      · have := Heap.lt_size (I3.pin p hp).1
        rw [z] at this
        exact Nat.lt_irrefl _ this
    · refine wpAny_mono (T.item (X.block scope cl (tgs ++ caps.map (·.1)) fp s3 H3) rfl rfl rfl hc i [] s5 σ5 H5 (fun _ _ => False) I5 (stat fr5) st5 go) (fun r s6 ⟨u, hr, h6⟩ => ?_) fun _ _ z => False.elim z
      subst hr
      refine wpAny_mono h6 (fun _ s7 ⟨x, H7, I7, r7, y7, st7, fr7⟩ => ?_) fun _ _ z => False.elim z
      have I7' := I7.pinned (stat fr7) (T.obj _ _ st7)
      have again : ∀ {s9 : Shared} {σ9 : St} {H9 : Hp}, Inv (X.block scope cl (tgs ++ caps.map (·.1)) fp s3 H3) ([] ++ pinsAt fp s7.heap) σ9 H9 s9 → N σ9 H9 →
          ∃ m, m < n ∧ ∃ i σ' H', Inv (X.block scope cl (tgs ++ caps.map (·.1)) fp s3 H3) [] σ' H' s9 ∧ tn i s9.heap ∧ (∀ b ∈ fp, H' b = none) ∧ W i m σ' H' := fun {s9 σ9 H9} I9 n9 => by
        obtain ⟨m', hm, w9⟩ := hN σ9 H9 n9
        refine ⟨m', hm, i + 1, σ9, H9, I9.unpinned, T.keep _ _ _ st7 fun b hb o e => (I9.pin (b, o) (List.mem_append_right _ (List.mem_append_right _ (mem_pinsAt hb e)))).1, fun b hb => ?_, w9⟩
        obtain ⟨o, e, d⟩ := T.obj _ _ st7 b hb
        exact (I9.pin (b, o) (List.mem_append_right _ (List.mem_append_right _ (mem_pinsAt hb e)))).2.1
      refine wpAny_mono (hg fp s3 H3 _ s7 σ5 H7 x u _ I7' r7 (step x H7 y7)) (fun _ s8 ⟨σ8, H8, I8, q8⟩ => ?_) fun _ _ z => False.elim z
      refine wpAny_mono (hif fp s3 H3 _ s8 σ8 H8 _ I8 q8) (fun b s9 ⟨H9, I9, q9⟩ => ?_) fun _ _ z => False.elim z
      cases b with
      | false =>
        rw [if_neg Bool.false_ne_true] at q9
        rw [if_neg Bool.false_ne_true]
        exact again I9 q9
      | true =>
        rw [if_pos rfl] at q9
        rw [if_pos rfl]
        refine wpAny_mono (hel fp s3 H3 _ s9 σ8 H9 _ I9 q9) (fun xv s10 ⟨v, H10, I10, rv, ys, hy, hl, q10⟩ => ?_) fun _ _ z => False.elim z
        refine wpAny_mono (mt_append (X := X.block scope cl (tgs ++ caps.map (·.1)) fp s3 H3) _ s10 σ8 H10 (.ref s2.heap.objs.size) [v] (.ref s2.heap.objs.size) [xv] (fun _ H11 => N σ8 H11) I10 rfl (.cons rv .nil) ⟨_, ys, v, rfl, rfl, hy, hl, q10⟩) (fun _ s11 ⟨_, H11, I11, _, q11⟩ => again I11 q11) fun _ _ z => False.elim z
  exact codeAny_compStart_list loop (T.self _ 0 _ _ _ st4 loop)
end
end L2
namespace L2
open PySem PySem.Spec PyProof.Rows
theorem preSum_take (ns : List Int) : ∀ j, j ≤ ns.length → preSum (fun i => ns.getD i 0) j = (ns.take j).sum
  | 0, _ => by simp [preSum]
  | j + 1, h => by
    have hj : j < ns.length := h
    unfold preSum
    rw [preSum_take ns j (Nat.le_of_lt hj), show ns.take (j + 1) = ns.take j ++ [ns[j]] from (by rw [List.take_succ_eq_append_getElem hj]), List.sum_append]
    simp [List.getD, hj]
theorem ints_get {ns : List Int} {its : List Value} (r : Vals (ns.map V.int) its) {i : Nat} {v : Value} (e : its[i]? = some v) : ∃ t, v = .int (ns.getD i 0) t := by
  have hl := r.length
  rw [List.length_map] at hl
  have hi : i < its.length := (List.getElem?_eq_some_iff.mp e).1
  have eb : ns[i]? = some ns[i] := by simp [show i < ns.length by omega]
  have em : (ns.map V.int)[i]? = some (V.int ns[i]) := by rw [List.getElem?_map, eb]; rfl
  obtain ⟨u, e2, t, q⟩ := Vals.get r em
  rw [e] at e2
  cases e2
  exact ⟨t, by rw [q]; simp [List.getD, eb]⟩
section
variable {X : Cx}
theorem call_sumI (hc : X.calm = true) : CallR X (.builtin "sum") (fun xs H Q => ∃ (p : Addr) (ns : List Int), xs = [.ref p] ∧ SqL X.K H p (ns.map V.int) ∧ Q (.int ns.sum) H) := by
  intro pins s σ H xs us Q I r h
  obtain ⟨p, ns, rfl, hq, q⟩ := h
  obtain ⟨u, rfl, rx⟩ := vals1 r
  cases rx
  obtain ⟨its, r', pl, hz⟩ := I.list hq
  have hlen := r'.length
  rw [List.length_map] at hlen
  refine call_sum_walkAnyS (wpAny_pyIter_list pl.isList ?_)
  have hlt : p < s.heap.objs.size := by
    obtain ⟨o, n, ho, _⟩ := pl
    exact Heap.lt_size ho
  refine ⟨s.heap.objs.size, _, _, _, _, _, _, fun i => ns.getD i 0, rfl, (Walks.list (by exact I.ok.hd hc) _ p (Nat.ne_of_lt hlt) its.toArray).toS, ⟨⟨_, Heap.get?_push_size _ rfl, rfl, rfl⟩, ?_⟩, ?_, fun i v e => ints_get r' (show its[i]? = some v by simpa using e), fun s' t' hm => ?_⟩
  · obtain ⟨o, ho, c⟩ := pl.isList
    exact ⟨o, Heap.get?_push_of_some _ ho, c⟩
  · intro b hb
    rw [show ({ s with heap := s.heap.push _ } : Shared).heap.objs.size = s.heap.objs.size + 1 from Heap.size_push ..]
    rcases List.mem_cons.mp hb with rfl | hb
    · exact Nat.lt_succ_self _
    · rw [List.mem_singleton.mp hb]; exact Nat.lt_succ_of_lt hlt
  · obtain ⟨h', g', d', tk, o'⟩ := s'
    have e1 : g' = s.gens := hm.gens
    have e2 : d' = s.drawn := hm.drawn
    have e3 : o' = s.os := hm.os
    subst e1; subst e2; subst e3
    have e : preSum (fun i => ns.getD i 0) its.toArray.size = ns.sum := by
      rw [show its.toArray.size = ns.length by simp [hlen], preSum_take ns _ (Nat.le_refl _), List.take_length]
    rw [e]
    refine ⟨.int ns.sum, H, I.kept (t' := tk) (fun b o eb => hm.heap b o (fun z => ?_) (Heap.get?_push_of_some _ eb)), ⟨t', rfl⟩, q⟩
    have z' : b = s.heap.objs.size := by simpa using z
    exact absurd (Heap.lt_size eb) (by rw [z']; exact Nat.lt_irrefl _)
end
end L2
namespace FT
open PySem PySem.Spec PyProof.Rows L2
def noStar : Expr → Bool
  | .Starred _ _ => false
  | _ => true
theorem star_cons {e : Expr} {es : List Expr} {env : PySem.Env} (h : noStar e = true) : starEach (e :: es) env = (false, eval e env) :: starEach es env := by
  cases e <;> first | rfl | cases h
theorem star_any {env : PySem.Env} {pos : Pos} : ∀ {es : List Expr}, es.all noStar = true → (backTo pos (starEach es env)).any (·.1) = false := by
  intro es h
  have h1 : (starEach es env).any (·.1) = false := by
    induction es with
    | nil => rfl
    | cons e es ih =>
      rw [List.all_cons, Bool.and_eq_true] at h
      rw [star_cons h.1, List.any_cons, ih h.2]
      rfl
  have h2 : ∀ l : List (Bool × Sem Value), l.any (·.1) = false → (backTo pos l).any (·.1) = false := by
    intro l hl
    unfold backTo
    rw [List.any_map]
    exact hl
  exact h2 _ h1
end FT
namespace FT
open PySem PySem.Spec PyProof.Rows L2
inductive T where
  | non | bl (b : Bool) | int (i : Int) | str (x : Str) | ty (n : String) | tup (xs : List T) | lst (xs : List T) | ref (a : Nat) | dct (kvs : List (Key × T))
inductive Cell where
  | lst (xs : List T) | dic (kvs : List (Key × T)) | ins (C : Addr) (fs : List (Str × T))
abbrev Mem := List Cell
abbrev Ev := List (Option T)
inductive Out (β : Type) where
  | ok (b : β) (M : Mem) | exn (C : Addr) (fs : List (Str × T)) (M : Mem) | bad
def Out.bind {β γ : Type} (o : Out β) (k : β → Mem → Out γ) : Out γ := match o with
  | .ok b M => k b M
  | .exn C fs M => .exn C fs M
  | .bad => .bad
theorem bind_ok {β γ : Type} (b : β) (M : Mem) (k : β → Mem → Out γ) : (Out.ok b M).bind k = k b M := rfl
theorem bind_bad {β γ : Type} (k : β → Mem → Out γ) : (Out.bad : Out β).bind k = .bad := rfl
structure Sit where
  α : Nat → Addr
  M : Mem
  H : Hp
  hid : List Addr
def Sit.off (S : Sit) (p : Addr) : Prop := (∀ a, a < S.M.length → S.α a ≠ p) ∧ p ∉ S.hid
def KL (K : PySem.W.Frag) (a : Addr) (xs : List V) : Prop :=
  ∃ (o : Obj) (its : Array Value) (n : Nat), K.lookup a = some o ∧ o.cls = .type "list" ∧ o.dict = none ∧ o.data = .seq its n ∧ its.size ≤ sizeLine ∧ Vals xs its.toList
inductive Rep (K : PySem.W.Frag) (S : Sit) : T → V → Prop where
  | non : Rep K S .non .non
  | bl (b : Bool) : Rep K S (.bl b) (.bl b)
  | int (i : Int) : Rep K S (.int i) (.int i)
  | str (x : Str) : Rep K S (.str x) (.str x)
  | ty (x : String) : Rep K S (.ty x) (.ty x)
  | tup {ts : List T} {p : Addr} {vs : List V} (h : SqT K S.H p vs) (l : ts.length = vs.length) (r : ∀ (i : Nat) t v, ts[i]? = some t → vs[i]? = some v → Rep K S t v) : Rep K S (.tup ts) (.ref p)
  | lst {ts : List T} {p : Addr} {vs : List V} (h : (Rd S.H p (.lst vs) ∧ S.off p) ∨ KL K p vs) (l : ts.length = vs.length) (r : ∀ (i : Nat) t v, ts[i]? = some t → vs[i]? = some v → Rep K S t v) : Rep K S (.lst ts) (.ref p)
  | ref {a : Nat} (h : a < S.M.length) : Rep K S (.ref a) (.ref (S.α a))
  | dct {kvs : List (Key × T)} {us : List (Key × V)} {p : Addr} {o : Obj} (h : S.H p = some (.frz o (.dK us))) (l : kvs.map (·.1) = us.map (·.1)) (r : ∀ (i : Nat) t v, (kvs.map (·.2))[i]? = some t → (us.map (·.2))[i]? = some v → Rep K S t v) : Rep K S (.dct kvs) (.ref p)
def Reps (K : PySem.W.Frag) (S : Sit) (ts : List T) (vs : List V) : Prop := ts.length = vs.length ∧ ∀ (i : Nat) t v, ts[i]? = some t → vs[i]? = some v → Rep K S t v
def RepF (K : PySem.W.Frag) (S : Sit) (fs : List (Str × T)) (us : List (Str × V)) : Prop := fs.map (·.1) = us.map (·.1) ∧ Reps K S (fs.map (·.2)) (us.map (·.2))
def RepK (K : PySem.W.Frag) (S : Sit) (fs : List (Key × T)) (us : List (Key × V)) : Prop := fs.map (·.1) = us.map (·.1) ∧ Reps K S (fs.map (·.2)) (us.map (·.2))
def CellOk (K : PySem.W.Frag) (S : Sit) (p : Addr) : Cell → Prop
  | .lst ts => ∃ vs, S.H p = some (.lst vs) ∧ Reps K S ts vs
  | .dic kvs => ∃ us, S.H p = some (.dK us) ∧ RepK K S kvs us
  | .ins C fs => ∃ dx us, S.H p = some (.ins C dx us) ∧ RepF K S fs us
structure MemOk (K : PySem.W.Frag) (S : Sit) : Prop where
  cell : ∀ a c, S.M[a]? = some c → CellOk K S (S.α a) c
  inj : ∀ a b, a < S.M.length → b < S.M.length → S.α a = S.α b → a = b
  hd : ∀ p ∈ S.hid, (∀ a, a < S.M.length → S.α a ≠ p) ∧ ∃ vs, S.H p = some (.lst vs)
structure Grow (S S' : Sit) : Prop where
  le : S.M.length ≤ S'.M.length
  al : ∀ a, a < S.M.length → S'.α a = S.α a
  fr : ∀ a, S.M.length ≤ a → a < S'.M.length → S.H (S'.α a) = none
  kp : ∀ b o, S.H b = some o → S.off b → S'.H b = some o
  hk : ∀ p ∈ S.hid, p ∈ S'.hid ∧ S'.H p = S.H p
  hf : ∀ p ∈ S'.hid, p ∈ S.hid ∨ S.H p = none
structure Stp (K : PySem.W.Frag) (S S' : Sit) : Prop extends Grow S S' where
  mok : MemOk K S'
section
variable {K : PySem.W.Frag} {S S' S'' : Sit}
theorem MemOk.some (m : MemOk K S) {a : Nat} (h : a < S.M.length) : ∃ o, S.H (S.α a) = Option.some o ∧ Mut (Option.some o) := by
  have e : S.M[a]? = Option.some S.M[a] := by simp [h]
  have c := m.cell a _ e
  cases q : S.M[a] with
  | lst ts => rw [q] at c; obtain ⟨vs, e, _⟩ := c; exact ⟨_, e, trivial⟩
  | dic ts => rw [q] at c; obtain ⟨vs, e, _⟩ := c; exact ⟨_, e, trivial⟩
  | ins C fs => rw [q] at c; obtain ⟨dx, vs, e, _⟩ := c; exact ⟨_, e, trivial⟩
theorem MemOk.off_of (m : MemOk K S) {p : Addr} {o : Option HO} (e : S.H p = o) (h : ¬ Mut o) : S.off p := by
  refine ⟨fun a ha z => ?_, fun z => ?_⟩
  · obtain ⟨o', e', mu⟩ := m.some ha
    rw [z, e] at e'
    rw [e'] at h
    exact h mu
  · obtain ⟨_, vs, q⟩ := m.hd p z
    rw [e] at q
    rw [q] at h
    exact h trivial
theorem MemOk.off_none (m : MemOk K S) {p : Addr} (e : S.H p = none) : S.off p := m.off_of e (fun z => z)
theorem Grow.tup (g : Grow S S') (m : MemOk K S) {p : Addr} {vs : List V} (h : SqT K S.H p vs) : SqT K S'.H p vs := by
  rcases h with (h | ⟨o, h⟩) | h
  · exact .inl (.inl (g.kp _ _ h (m.off_of h (fun z => z))))
  · exact .inl (.inr ⟨o, g.kp _ _ h (m.off_of h (fun z => z))⟩)
  · exact .inr h
theorem Grow.off (g : Grow S S') {p : Addr} {o : HO} (h : S.H p = some o) (f : S.off p) : S'.off p := by
  refine ⟨fun a ha z => ?_, fun z => ?_⟩
  · by_cases hl : a < S.M.length
    · rw [g.al a hl] at z; exact f.1 a hl z
    · have := g.fr a (Nat.le_of_not_lt hl) ha
      rw [z, h] at this
      cases this
  · rcases g.hf p z with q | q
    · exact f.2 q
    · rw [h] at q; cases q
theorem Grow.rd (g : Grow S S') {p : Addr} {u : HO} (h : Rd S.H p u) (f : S.off p) : Rd S'.H p u ∧ S'.off p := by
  rcases h with h | ⟨o, h⟩
  · exact ⟨.inl (g.kp _ _ h f), g.off h f⟩
  · exact ⟨.inr ⟨o, g.kp _ _ h f⟩, g.off h f⟩
theorem Rep.grow (m : MemOk K S) (g : Grow S S') {t : T} {v : V} (r : Rep K S t v) : Rep K S' t v := by
  induction r with
  | non => exact .non
  | bl b => exact .bl b
  | int b => exact .int b
  | str b => exact .str b
  | ty b => exact .ty b
  | tup h l _ ih => exact .tup (g.tup m h) l ih
  | lst h l _ ih =>
    refine .lst ?_ l ih
    rcases h with ⟨h, f⟩ | h
    · exact .inl (g.rd h f)
    · exact .inr h
  | ref h => rw [← g.al _ h]; exact .ref (Nat.lt_of_lt_of_le h g.le)
  | dct h l _ ih => exact .dct (g.kp _ _ h (m.off_of h (fun z => z))) l ih
theorem Reps.grow (m : MemOk K S) (g : Grow S S') {ts : List T} {vs : List V} (r : Reps K S ts vs) : Reps K S' ts vs := ⟨r.1, fun i t v e1 e2 => (r.2 i t v e1 e2).grow m g⟩
theorem RepF.grow (m : MemOk K S) (g : Grow S S') {ts : List (Str × T)} {vs : List (Str × V)} (r : RepF K S ts vs) : RepF K S' ts vs := ⟨r.1, r.2.grow m g⟩
theorem RepK.grow (m : MemOk K S) (g : Grow S S') {ts : List (Key × T)} {vs : List (Key × V)} (r : RepK K S ts vs) : RepK K S' ts vs := ⟨r.1, r.2.grow m g⟩
theorem Reps.nil : Reps K S [] [] := ⟨rfl, fun _ _ _ e _ => by simp at e⟩
theorem Reps.cons {t : T} {v : V} {ts : List T} {vs : List V} (r : Rep K S t v) (rs : Reps K S ts vs) : Reps K S (t :: ts) (v :: vs) := by
  refine ⟨by simp [rs.1], fun i a b e1 e2 => ?_⟩
  cases i with
  | zero => simp at e1 e2; subst e1; subst e2; exact r
  | succ i => exact rs.2 i a b (by simpa using e1) (by simpa using e2)
theorem Reps.nil_inv {ts : List T} (r : Reps K S ts []) : ts = [] := List.length_eq_zero_iff.mp (by rw [r.1]; rfl)
theorem Reps.consT {t : T} {ts : List T} {vs : List V} (r : Reps K S (t :: ts) vs) : ∃ v vs', vs = v :: vs' ∧ Rep K S t v ∧ Reps K S ts vs' := by
  cases vs with
  | nil => have := r.1; simp at this
  | cons v vs' => exact ⟨v, vs', rfl, r.2 0 t v rfl rfl, by have := r.1; simpa using this, fun i a b e1 e2 => r.2 (i + 1) a b (by simpa using e1) (by simpa using e2)⟩
theorem Reps.nilT {vs : List V} (r : Reps K S [] vs) : vs = [] := List.length_eq_zero_iff.mp (by rw [← r.1]; rfl)
theorem Reps.app {ts ts' : List T} {vs vs' : List V} (r : Reps K S ts vs) (r' : Reps K S ts' vs') : Reps K S (ts ++ ts') (vs ++ vs') := by
  induction ts generalizing vs with
  | nil => rw [r.nilT]; exact r'
  | cons t ts ih =>
    obtain ⟨v, vs1, rfl, r1, r2⟩ := r.consT
    exact (ih r2).cons r1
theorem Reps.get {ts : List T} {vs : List V} (r : Reps K S ts vs) {i : Nat} {t : T} (e : ts[i]? = some t) : ∃ v, vs[i]? = some v ∧ Rep K S t v := by
  have hi : i < vs.length := by rw [← r.1]; exact (List.getElem?_eq_some_iff.mp e).1
  have e2 : vs[i]? = some vs[i] := by simp [hi]
  exact ⟨_, e2, r.2 i t _ e e2⟩
theorem Reps.set {ts : List T} {vs : List V} (r : Reps K S ts vs) {t : T} {v : V} (q : Rep K S t v) (j : Nat) : Reps K S (ts.set j t) (vs.set j v) := by
  refine ⟨by simp [r.1], fun i a b e1 e2 => ?_⟩
  rw [List.getElem?_set] at e1 e2
  by_cases h : j = i
  · subst h
    by_cases hl : j < ts.length
    · rw [if_pos rfl, if_pos hl] at e1
      rw [if_pos rfl, if_pos (by rw [← r.1]; exact hl)] at e2
      cases e1; cases e2; exact q
    · rw [if_pos rfl, if_neg hl] at e1; cases e1
  · rw [if_neg h] at e1 e2
    exact r.2 i a b e1 e2
theorem Reps.sub {ts : List T} {vs : List V} (r : Reps K S ts vs) (a b : Nat) : Reps K S ((ts.drop a).take b) ((vs.drop a).take b) := by
  refine ⟨by simp [r.1], fun i x y e1 e2 => ?_⟩
  rw [List.getElem?_take] at e1 e2
  split at e1
  · rename_i h
    rw [if_pos h] at e2
    rw [List.getElem?_drop] at e1 e2
    exact r.2 _ x y e1 e2
  · cases e1
theorem CellOk.grow (m : MemOk K S) (g : Grow S S') {p : Addr} {c : Cell} (e : S'.H p = S.H p) (h : CellOk K S p c) : CellOk K S' p c := by
  cases c with
  | lst ts => obtain ⟨vs, q, r⟩ := h; exact ⟨vs, by rw [e]; exact q, r.grow m g⟩
  | dic ts => obtain ⟨vs, q, r⟩ := h; exact ⟨vs, by rw [e]; exact q, r.grow m g⟩
  | ins C ts => obtain ⟨dx, vs, q, r⟩ := h; exact ⟨dx, vs, by rw [e]; exact q, r.grow m g⟩
theorem Stp.refl (m : MemOk K S) : Stp K S S := ⟨⟨Nat.le_refl _, fun _ _ => rfl, fun a h1 h2 => absurd (Nat.lt_of_lt_of_le h2 h1) (Nat.lt_irrefl _), fun _ _ e _ => e, fun _ h => ⟨h, rfl⟩, fun _ h => .inl h⟩, m⟩
theorem Stp.trans (a : Stp K S S') (b : Stp K S' S'') : Stp K S S'' := by
  have nn : ∀ p, S'.H p = none → S.H p = none := fun p hn => by
    cases q : S.H p with
    | none => rfl
    | some o =>
      by_cases f : S.off p
      · rw [a.kp _ _ q f] at hn; cases hn
      · exfalso
        apply f
        refine ⟨fun c hc z => ?_, fun z => ?_⟩
        · have h3 : c < S'.M.length := Nat.lt_of_lt_of_le hc a.le
          obtain ⟨o', e', _⟩ := a.mok.some h3
          rw [a.al c hc, z, hn] at e'
          cases e'
        · rw [(a.hk p z).2, q] at hn; cases hn
  refine ⟨⟨Nat.le_trans a.le b.le, fun i hi => (b.al i (Nat.lt_of_lt_of_le hi a.le)).trans (a.al i hi), fun i h1 h2 => ?_, fun p o e f => b.kp _ _ (a.kp _ _ e f) (a.off e f), fun p h => ⟨(b.hk p (a.hk p h).1).1, (b.hk p (a.hk p h).1).2.trans (a.hk p h).2⟩, fun p h => ?_⟩, b.mok⟩
  · by_cases hl : i < S'.M.length
    · rw [b.al i hl]; exact a.fr i h1 hl
    · exact nn _ (b.fr i (Nat.le_of_not_lt hl) h2)
  · rcases b.hf p h with q | q
    · exact a.hf p q
    · exact .inr (nn p q)
theorem Stp.new (m : MemOk K S) {p : Addr} (hp : S.H p = none) (o : HO) : Stp K S ⟨S.α, S.M, upd S.H p o, S.hid⟩ := by
  have g : Grow S ⟨S.α, S.M, upd S.H p o, S.hid⟩ := ⟨Nat.le_refl _, fun _ _ => rfl, fun a h1 h2 => absurd (Nat.lt_of_lt_of_le h2 h1) (Nat.lt_irrefl _), fun b u e _ => by show upd S.H p o b = _; rw [upd_ne (ne_of_none e hp)]; exact e, fun q h => ⟨h, by obtain ⟨_, vs, e⟩ := m.hd q h; exact upd_ne (ne_of_none e hp)⟩, fun q h => .inl h⟩
  refine ⟨g, ⟨fun a c e => ?_, m.inj, fun q h => ?_⟩⟩
  rotate_left
  · obtain ⟨h1, vs, e⟩ := m.hd q h
    exact ⟨h1, vs, (upd_ne (ne_of_none e hp)).trans e⟩
  refine (m.cell a c e).grow m g ?_
  have ha : a < S.M.length := (List.getElem?_eq_some_iff.mp e).1
  exact upd_ne ((m.off_none hp).1 a ha)
def Sit.more (S : Sit) (p : Addr) (o : HO) (c : Cell) : Sit := ⟨fun a => if a = S.M.length then p else S.α a, S.M ++ [c], upd S.H p o, S.hid⟩
theorem Grow.more (m : MemOk K S) {p : Addr} (hp : S.H p = none) (o : HO) (c : Cell) : Grow S (S.more p o c) := by
  refine ⟨by show _ ≤ (S.M ++ [c]).length; simp, fun a h => if_neg (Nat.ne_of_lt h), fun a h1 h2 => ?_, fun b u e _ => ?_, fun q h => ⟨h, by obtain ⟨_, vs, e⟩ := m.hd q h; exact upd_ne (ne_of_none e hp)⟩, fun q h => .inl h⟩
  · have h3 : a < (S.M ++ [c]).length := h2
    have : a = S.M.length := by simp at h3; omega
    show S.H (if a = S.M.length then p else S.α a) = none
    rw [if_pos this]; exact hp
  · show upd S.H p o b = _; rw [upd_ne (ne_of_none e hp)]; exact e
theorem Stp.more (m : MemOk K S) {p : Addr} (hp : S.H p = none) (o : HO) (c : Cell) (hc : CellOk K (S.more p o c) p c) : Stp K S (S.more p o c) := by
  have g := Grow.more m hp o c
  refine ⟨g, ⟨fun a d e => ?_, fun a b h1 h2 e => ?_, fun q h => ?_⟩⟩
  rotate_right
  · obtain ⟨h1, vs, e⟩ := m.hd q h
    refine ⟨fun a ha z => ?_, vs, (upd_ne (ne_of_none e hp)).trans e⟩
    have z' : (if a = S.M.length then p else S.α a) = q := z
    by_cases hl : a = S.M.length
    · rw [if_pos hl] at z'; rw [← z', hp] at e; cases e
    · rw [if_neg hl] at z'
      have h3 : a < (S.M ++ [c]).length := ha
      exact h1 a (by simp at h3; omega) z'
  · have e' : (S.M ++ [c])[a]? = some d := e
    by_cases ha : a < S.M.length
    · rw [List.getElem?_append_left ha] at e'
      show CellOk K _ (if a = S.M.length then p else S.α a) d
      rw [if_neg (Nat.ne_of_lt ha)]
      exact (m.cell a d e').grow m g (upd_ne ((m.off_none hp).1 a ha))
    · rw [List.getElem?_append_right (Nat.le_of_not_lt ha)] at e'
      have h3 : a - S.M.length = 0 := by
        cases q : a - S.M.length with
        | zero => rfl
        | succ k => rw [q] at e'; simp at e'
      rw [h3] at e'
      cases e'
      show CellOk K _ (if a = S.M.length then p else S.α a) c
      rw [if_pos (by omega)]
      exact hc
  · have h1' : a < (S.M ++ [c]).length := h1
    have h2' : b < (S.M ++ [c]).length := h2
    have e' : (if a = S.M.length then p else S.α a) = (if b = S.M.length then p else S.α b) := e
    simp at h1' h2'
    by_cases ha : a = S.M.length
    · by_cases hb : b = S.M.length
      · omega
      · rw [if_pos ha, if_neg hb] at e'
        exact absurd e'.symm ((m.off_none hp).1 b (by omega))
    · by_cases hb : b = S.M.length
      · rw [if_neg ha, if_pos hb] at e'
        exact absurd e' ((m.off_none hp).1 a (by omega))
      · rw [if_neg ha, if_neg hb] at e'
        exact m.inj a b (by omega) (by omega) e'
def Sit.put (S : Sit) (a : Nat) (o : HO) (c : Cell) : Sit := ⟨S.α, S.M.set a c, upd S.H (S.α a) o, S.hid⟩
theorem Grow.put (m : MemOk K S) {a : Nat} (ha : a < S.M.length) (o : HO) (c : Cell) : Grow S (S.put a o c) := by
  refine ⟨by show _ ≤ (S.M.set a c).length; simp, fun _ _ => rfl, fun b h1 h2 => ?_, fun b u e f => ?_, fun q h => ⟨h, upd_ne (Ne.symm ((m.hd q h).1 a ha))⟩, fun q h => .inl h⟩
  · have h3 : b < (S.M.set a c).length := h2
    simp at h3
    exact absurd (Nat.lt_of_lt_of_le h3 h1) (Nat.lt_irrefl _)
  · show upd S.H (S.α a) o b = _
    rw [upd_ne (Ne.symm (f.1 a ha))]; exact e
theorem Stp.put (m : MemOk K S) {a : Nat} (ha : a < S.M.length) (o : HO) (c : Cell) (hc : CellOk K (S.put a o c) (S.α a) c) : Stp K S (S.put a o c) := by
  have g := Grow.put m ha o c
  refine ⟨g, ⟨fun b d e => ?_, fun i j h1 h2 e => ?_, fun q h => ?_⟩⟩
  rotate_right
  · obtain ⟨h1, vs, e⟩ := m.hd q h
    refine ⟨fun b hb z => ?_, vs, (upd_ne (Ne.symm (h1 a ha))).trans e⟩
    have h3 : b < (S.M.set a c).length := hb
    simp at h3
    exact h1 b h3 z
  · have e' : (S.M.set a c)[b]? = some d := e
    rw [List.getElem?_set] at e'
    by_cases h : a = b
    · subst h
      rw [if_pos rfl, if_pos ha] at e'
      cases e'
      exact hc
    · rw [if_neg h] at e'
      refine (m.cell b d e').grow m g (upd_ne fun z => h ?_)
      exact (m.inj b a (List.getElem?_eq_some_iff.mp e').1 ha z).symm
  · have h1' : i < (S.M.set a c).length := h1
    have h2' : j < (S.M.set a c).length := h2
    simp at h1' h2'
    exact m.inj i j h1' h2' e
end
def EvR (K : PySem.W.Frag) (S : Sit) (στ : Ev) (σ : L2.St) : Prop := στ.length = σ.length ∧ ∀ (i : Nat) t, στ[i]? = some (some t) → ∃ v, σ[i]? = some (some v) ∧ Rep K S t v
class Mo (K : PySem.W.Frag) {β γ : Type} (R : Sit → β → γ → Prop) : Prop where
  mo : ∀ {S S' b c}, MemOk K S → Stp K S S' → R S b c → R S' b c
def UnR : Sit → Unit → Unit → Prop := fun _ _ _ => True
def EqR {β : Type} : Sit → β → β → Prop := fun _ b c => b = c
def PrR {A AV B BV : Type} (RA : Sit → A → AV → Prop) (RB : Sit → B → BV → Prop) : Sit → A × B → AV × BV → Prop := fun S a v => RA S a.1 v.1 ∧ RB S a.2 v.2
instance (K) : Mo K (Rep K) := ⟨fun m s r => r.grow m s.toGrow⟩
instance (K) : Mo K (Reps K) := ⟨fun m s r => r.grow m s.toGrow⟩
instance (K) : Mo K (EvR K) := ⟨fun m s r => ⟨r.1, fun i t e => let ⟨v, e', q⟩ := r.2 i t e; ⟨v, e', q.grow m s.toGrow⟩⟩⟩
instance (K) : Mo K UnR := ⟨fun _ _ r => r⟩
instance (K) {β : Type} : Mo K (EqR (β := β)) := ⟨fun _ _ r => r⟩
instance (K) {A AV B BV : Type} (RA : Sit → A → AV → Prop) (RB : Sit → B → BV → Prop) [Mo K RA] [Mo K RB] : Mo K (PrR RA RB) := ⟨fun m s r => ⟨Mo.mo m s r.1, Mo.mo m s r.2⟩⟩
def XRep (K : PySem.W.Frag) (S : Sit) (fs : List (Str × T)) (od : Option Addr) : Prop := (fs = [] ∧ od = none) ∨ ∃ d us, od = some d ∧ S.H d = some (.xd us) ∧ RepF K S fs us
def Fin {β γ : Type} (XE : XK) (R : Sit → β → γ → Prop) (K : PySem.W.Frag) (S : Sit) (o : Out β) (Q : γ → Hp → Prop) : Prop := match o with
  | .ok b M' => ∀ S' c, S'.M = M' → Stp K S S' → R S' b c → Q c S'.H
  | .exn C fs M' => ∀ S' od, S'.M = M' → Stp K S S' → XRep K S' fs od → XE (.ref C) od S'.H
  | .bad => False
theorem Fin.later {β γ : Type} {XE : XK} {R : Sit → β → γ → Prop} {K : PySem.W.Frag} {S S1 : Sit} {o : Out β} {Q : γ → Hp → Prop} (s : Stp K S S1) (h : Fin XE R K S o Q) : Fin XE R K S1 o Q := by
  cases o with
  | ok b M' => exact fun S' c e s' r => h S' c e (s.trans s') r
  | exn C fs M' => exact fun S' c e s' r => h S' c e (s.trans s') r
  | bad => exact h
theorem Fin.mono {β γ : Type} {XE : XK} {R : Sit → β → γ → Prop} {K : PySem.W.Frag} {S : Sit} {o : Out β} {Q Q' : γ → Hp → Prop} (i : ∀ c H, Q c H → Q' c H) (h : Fin XE R K S o Q) : Fin XE R K S o Q' := by
  cases o with
  | ok b M' => exact fun S' c e s' r => i _ _ (h S' c e s' r)
  | exn C fs M' => exact h
  | bad => exact h
def LN {A AV β γ : Type} (XE : XK) (R : Sit → β → γ → Prop) (K : PySem.W.Frag) (RA : Sit → A → AV → Prop) (k : A → Ev → Mem → Out β) (av : AV) (σ : L2.St) (H : Hp) (Q : γ → Hp → Prop) : Prop :=
  ∃ (S : Sit) (στ : Ev) (a : A), S.H = H ∧ MemOk K S ∧ EvR K S στ σ ∧ RA S a av ∧ Fin XE R K S (k a στ S.M) Q
def L0 {A AV β γ : Type} (XE : XK) (R : Sit → β → γ → Prop) (K : PySem.W.Frag) (RA : Sit → A → AV → Prop) (k : A → Mem → Out β) (av : AV) (H : Hp) (Q : γ → Hp → Prop) : Prop :=
  ∃ (S : Sit) (a : A), S.H = H ∧ MemOk K S ∧ RA S a av ∧ Fin XE R K S (k a S.M) Q
section
variable {K : PySem.W.Frag} {XE : XK}
theorem LN.bind {A AV B BV β γ : Type} {R : Sit → β → γ → Prop} {RA : Sit → A → AV → Prop} {RB : Sit → B → BV → Prop} [Mo K RA] {f : A → Ev → Mem → Out B} {k : A → B → Ev → Mem → Out β} {av : AV} {σ : L2.St} {H : Hp} {Q : γ → Hp → Prop}
    (h : LN XE R K RA (fun a σ M => (f a σ M).bind fun b M1 => k a b σ M1) av σ H Q) :
    LN XE RB K RA f av σ H (fun bv H1 => LN XE R K (PrR RA RB) (fun ab => k ab.1 ab.2) (av, bv) σ H1 Q) := by
  obtain ⟨S, στ, a, e, m, ev, ra, fin⟩ := h
  refine ⟨S, στ, a, e, m, ev, ra, ?_⟩
  replace fin : Fin XE R K S ((f a στ S.M).bind fun b M1 => k a b στ M1) Q := fin
  cases q : f a στ S.M with
  | bad => rw [q] at fin; exact fin
  | exn C fs M' => rw [q] at fin; exact fin
  | ok b M1 =>
    rw [q] at fin
    intro S1 c e1 s1 r1
    refine ⟨S1, στ, (a, b), rfl, s1.mok, Mo.mo m s1 ev, ⟨Mo.mo m s1 ra, r1⟩, ?_⟩
    rw [e1]
    exact fin.later s1
theorem LN.l0 {A AV β γ : Type} {R : Sit → β → γ → Prop} {RA : Sit → A → AV → Prop} {k : A → Mem → Out β} {av : AV} {σ : L2.St} {H : Hp} {Q : γ → Hp → Prop} (h : LN XE R K RA (fun a _ M => k a M) av σ H Q) : L0 XE R K RA k av H Q := by
  obtain ⟨S, στ, a, e, m, ev, ra, fin⟩ := h
  exact ⟨S, a, e, m, ra, fin⟩
theorem LN.mono {A AV β γ : Type} {R : Sit → β → γ → Prop} {RA : Sit → A → AV → Prop} {k : A → Ev → Mem → Out β} {av : AV} {σ : L2.St} {H : Hp} {Q Q' : γ → Hp → Prop} (h : LN XE R K RA k av σ H Q) (i : ∀ c H, Q c H → Q' c H) : LN XE R K RA k av σ H Q' := by
  obtain ⟨S, στ, a, e, m, ev, ra, fin⟩ := h
  exact ⟨S, στ, a, e, m, ev, ra, fin.mono i⟩
theorem LN.env {A AV β γ : Type} {R : Sit → β → γ → Prop} {RA : Sit → A → AV → Prop} {f : Ev → Mem → Out β} {av : AV} {σ : L2.St} {H : Hp} {Q : γ → Hp → Prop} (h : LN XE R K RA (fun _ σ M => f σ M) av σ H Q) : LN XE R K UnR (fun _ σ M => f σ M) () σ H Q := by
  obtain ⟨S, στ, a, e, m, ev, ra, fin⟩ := h
  exact ⟨S, στ, (), e, m, ev, trivial, fin⟩
end
def lE (XE : XK) (K : PySem.W.Frag) (f : Ev → Mem → Out T) : TE := fun σ H Q => LN XE (Rep K) K UnR (fun _ σ M => f σ M) () σ H Q
def lT (XE : XK) (K : PySem.W.Frag) (f : Ev → Mem → Out Bool) : TT := fun σ H Q => LN XE EqR K UnR (fun _ σ M => f σ M) () σ H Q
def lA (XE : XK) (K : PySem.W.Frag) (f : Ev → Mem → Out (List T)) : TA := fun σ H Q => LN XE (Reps K) K UnR (fun _ σ M => f σ M) () σ H Q
def GE (X : Cx) (XE : XK) (e : Expr) (f : Ev → Mem → Out T) : Prop := PE X e (lE XE X.K f)
def GT (X : Cx) (XE : XK) (e : Expr) (f : Ev → Mem → Out Bool) : Prop := PT X e (lT XE X.K f)
def GW (X : Cx) (XE : XK) (e : Expr) (f : Ev → Mem → Out Bool) : Prop := PW X e (lT XE X.K f)
def GA (X : Cx) (XE : XK) (es : List Expr) (f : Ev → Mem → Out (List T)) : Prop := PA X es (lA XE X.K f)
theorem PE.imp {X : Cx} {e : Expr} {t t' : TE} (h : PE X e t) (i : ∀ σ H Q, t' σ H Q → t σ H Q) : PE X e t' := fun pins s σ H Q I q => h pins s σ H Q I (i σ H Q q)
theorem PT.imp {X : Cx} {e : Expr} {t t' : TT} (h : PT X e t) (i : ∀ σ H Q, t' σ H Q → t σ H Q) : PT X e t' := fun pins s σ H Q I q => h pins s σ H Q I (i σ H Q q)
theorem PW.imp {X : Cx} {e : Expr} {t t' : TT} (h : PW X e t) (i : ∀ σ H Q, t' σ H Q → t σ H Q) : PW X e t' := fun whole pins s σ H Q I q => h whole pins s σ H Q I (i σ H Q q)
theorem PA.imp {X : Cx} {e : List Expr} {t t' : TA} (h : PA X e t) (i : ∀ σ H Q, t' σ H Q → t σ H Q) : PA X e t' := fun pos pins s σ H Q I q => h pos pins s σ H Q I (i σ H Q q)
theorem PS.imp {X : Cx} {e : Stmt} {t t' : TS} (h : PS X e t) (i : ∀ D σ H, t' D σ H → t D σ H) : PS X e t' := fun pins s σ H D I q => h pins s σ H D I (i D σ H q)
theorem PSs.imp {X : Cx} {e : List Stmt} {t t' : TS} (h : PSs X e t) (i : ∀ D σ H, t' D σ H → t D σ H) : PSs X e t' := fun pins s σ H D I q => h pins s σ H D I (i D σ H q)
end FT
namespace FT
open PySem PySem.Spec PyProof.Rows L2
def eVar (i : Nat) : Ev → Mem → Out T := fun σ M => match σ[i]? with
  | some (some t) => .ok t M
  | _ => .bad
def eC (t : T) : Ev → Mem → Out T := fun _ M => .ok t M
def eOp (o : T → T → Mem → Out T) (f g : Ev → Mem → Out T) : Ev → Mem → Out T := fun σ M => (f σ M).bind fun x M1 => (g σ M1).bind fun y M2 => o x y M2
def eUn (o : T → Mem → Out T) (f : Ev → Mem → Out T) : Ev → Mem → Out T := fun σ M => (f σ M).bind fun x M1 => o x M1
def blT {β : Type} (t : T) (M : Mem) (k : Bool → Mem → Out β) : Out β := match t with
  | .bl b => k b M
  | _ => .bad
def tVal (f : Ev → Mem → Out T) : Ev → Mem → Out Bool := fun σ M => (f σ M).bind fun x M1 => blT x M1 fun b M2 => .ok b M2
def tAndF (f g : Ev → Mem → Out Bool) : Ev → Mem → Out Bool := fun σ M => (f σ M).bind fun c M1 => if c = true then g σ M1 else .ok false M1
def tOrF (f g : Ev → Mem → Out Bool) : Ev → Mem → Out Bool := fun σ M => (f σ M).bind fun c M1 => if c = true then .ok true M1 else g σ M1
def tNotF (f : Ev → Mem → Out Bool) : Ev → Mem → Out Bool := fun σ M => (f σ M).bind fun c M1 => .ok (!c) M1
def eAnd (f g : Ev → Mem → Out T) : Ev → Mem → Out T := fun σ M => (f σ M).bind fun x M1 => blT x M1 fun b M2 => if b = true then g σ M2 else .ok (.bl false) M2
def eOr (f g : Ev → Mem → Out T) : Ev → Mem → Out T := fun σ M => (f σ M).bind fun x M1 => blT x M1 fun b M2 => if b = true then .ok (.bl true) M2 else g σ M2
def eNot (f : Ev → Mem → Out T) : Ev → Mem → Out T := fun σ M => (f σ M).bind fun x M1 => blT x M1 fun b M2 => .ok (.bl (!b)) M2
def eIf (c : Ev → Mem → Out Bool) (f g : Ev → Mem → Out T) : Ev → Mem → Out T := fun σ M => (c σ M).bind fun b M1 => if b = true then f σ M1 else g σ M1
def aNil : Ev → Mem → Out (List T) := fun _ M => .ok [] M
def aCons (f : Ev → Mem → Out T) (g : Ev → Mem → Out (List T)) : Ev → Mem → Out (List T) := fun σ M => (f σ M).bind fun x M1 => (g σ M1).bind fun xs M2 => .ok (x :: xs) M2
def eTup (g : Ev → Mem → Out (List T)) : Ev → Mem → Out T := fun σ M => (g σ M).bind fun xs M1 => if xs.length ≤ sizeLine then .ok (.tup xs) M1 else .bad
def lDisp (g : Ev → Mem → Out (List T)) : Ev → Mem → Out (List T) := fun σ M => (g σ M).bind fun xs M1 => if xs.length ≤ sizeLine then .ok xs M1 else .bad
def eFz (g : Ev → Mem → Out (List T)) : Ev → Mem → Out T := fun σ M => (g σ M).bind fun xs M1 => .ok (.lst xs) M1
def eTk (g : Ev → Mem → Out (List T)) : Ev → Mem → Out T := fun σ M => (g σ M).bind fun xs M1 => .ok (.ref M1.length) (M1 ++ [.lst xs])
def eCall (f : List T → Mem → Out T) (g : Ev → Mem → Out (List T)) : Ev → Mem → Out T := fun σ M => (g σ M).bind fun ts M1 => f ts M1
def eChain (o o' : T → T → Mem → Out T) (f g h : Ev → Mem → Out T) : Ev → Mem → Out T := fun σ M => (f σ M).bind fun x M1 => (g σ M1).bind fun y M2 => (o x y M2).bind fun z M3 => blT z M3 fun b M4 => if b = true then (h σ M4).bind fun w M5 => o' y w M5 else .ok (.bl false) M4
def lR2 (XE : XK) (K : PySem.W.Frag) (o : T → T → Mem → Out T) : R2 := fun x y H Q => L0 XE (Rep K) K (PrR (Rep K) (Rep K)) (fun a M => o a.1 a.2 M) (x, y) H Q
def lR1 (XE : XK) (K : PySem.W.Frag) (o : T → Mem → Out T) : V → Hp → VK → Prop := fun x H Q => L0 XE (Rep K) K (Rep K) o x H Q
def lRN (XE : XK) (K : PySem.W.Frag) (o : List T → Mem → Out T) : List V → Hp → VK → Prop := fun xs H Q => L0 XE (Rep K) K (Reps K) o xs H Q
def FinL (XE : XK) (K : PySem.W.Frag) (S : Sit) (o : Out (List T)) (Q : VK) : Prop := match o with
  | .ok xs M' => ∀ S' p vs, S'.M = M' → Stp K S S' → S.H p = none → p ∈ S'.hid → S'.H p = some (.lst vs) → Reps K S' xs vs → Q (.ref p) S'.H
  | .exn C fs M' => ∀ S' od, S'.M = M' → Stp K S S' → XRep K S' fs od → XE (.ref C) od S'.H
  | .bad => False
theorem FinL.later {XE : XK} {K : PySem.W.Frag} {S S1 : Sit} {o : Out (List T)} {Q : VK} (s : Stp K S S1) (h : FinL XE K S o Q) : FinL XE K S1 o Q := by
  have nn : ∀ p, S1.H p = none → S.H p = none := fun p hn => by
    cases q : S.H p with
    | none => rfl
    | some o =>
      by_cases f : S.off p
      · rw [s.kp _ _ q f] at hn; cases hn
      · exfalso
        apply f
        refine ⟨fun c hc z => ?_, fun z => ?_⟩
        · have h3 : c < S1.M.length := Nat.lt_of_lt_of_le hc s.le
          obtain ⟨o', e', _⟩ := s.mok.some h3
          rw [s.al c hc, z, hn] at e'
          cases e'
        · rw [(s.hk p z).2, q] at hn; cases hn
  cases o with
  | ok b M' => exact fun S' p vs e s' f => h S' p vs e (s.trans s') (nn p f)
  | exn C fs M' => exact fun S' c e s' r => h S' c e (s.trans s') r
  | bad => exact h
def lL (XE : XK) (K : PySem.W.Frag) (f : Ev → Mem → Out (List T)) : TE := fun σ H Q => ∃ (S : Sit) (στ : Ev), S.H = H ∧ MemOk K S ∧ EvR K S στ σ ∧ FinL XE K S (f στ S.M) Q
def GL (X : Cx) (XE : XK) (e : Expr) (f : Ev → Mem → Out (List T)) : Prop := PE X e (lL XE X.K f)
section
variable {K : PySem.W.Frag} {S S' : Sit}
def Sit.show (S' : Sit) (h : List Addr) : Sit := ⟨S'.α, S'.M, S'.H, h⟩
theorem Rep.show {h : List Addr} (sub : ∀ p ∈ h, p ∈ S'.hid) {t : T} {v : V} (r : Rep K S' t v) : Rep K (S'.show h) t v := by
  induction r with
  | non => exact .non
  | bl b => exact .bl b
  | int b => exact .int b
  | str b => exact .str b
  | ty b => exact .ty b
  | tup h l _ ih => exact .tup h l ih
  | lst h l _ ih =>
    refine .lst ?_ l ih
    rcases h with ⟨h, f⟩ | h
    · exact .inl ⟨h, f.1, fun z => f.2 (sub _ z)⟩
    · exact .inr h
  | ref h => exact .ref (S := S'.show _) h
  | dct h l _ ih => exact .dct h l ih
theorem Reps.show {h : List Addr} (sub : ∀ p ∈ h, p ∈ S'.hid) {ts : List T} {vs : List V} (r : Reps K S' ts vs) : Reps K (S'.show h) ts vs := ⟨r.1, fun i t v e1 e2 => (r.2 i t v e1 e2).show sub⟩
theorem CellOk.show {h : List Addr} (sub : ∀ p ∈ h, p ∈ S'.hid) {p : Addr} {c : Cell} (q : CellOk K S' p c) : CellOk K (S'.show h) p c := by
  cases c with
  | lst ts => obtain ⟨vs, q, r⟩ := q; exact ⟨vs, q, r.show sub⟩
  | dic ts => obtain ⟨vs, q, r⟩ := q; exact ⟨vs, q, r.1, r.2.show sub⟩
  | ins C ts => obtain ⟨dx, vs, q, r⟩ := q; exact ⟨dx, vs, q, r.1, r.2.show sub⟩
theorem Stp.show (s : Stp K S S') : Stp K S (S'.show S.hid) := by
  have sub : ∀ p ∈ S.hid, p ∈ S'.hid := fun p h => (s.hk p h).1
  exact ⟨⟨s.le, s.al, s.fr, s.kp, fun p h => ⟨h, (s.hk p h).2⟩, fun p h => .inl h⟩, ⟨fun a c e => (s.mok.cell a c e).show sub, s.mok.inj, fun p h => s.mok.hd p (sub p h)⟩⟩
theorem hid_lst (s : Stp K S S') {p : Addr} {vs : List V} (hn : S.H p = none) (m : MemOk K S) (hp : p ∈ S'.hid) (e : S'.H p = some (.lst vs)) {xs : List T} (r : Reps K S' xs vs) : Rep K (S'.show S.hid) (.lst xs) (.ref p) := by
  have sub : ∀ p ∈ S.hid, p ∈ S'.hid := fun p h => (s.hk p h).1
  refine .lst (.inl ⟨.inl e, (s.mok.hd p hp).1, fun z => ?_⟩) r.1 (r.show sub).2
  obtain ⟨_, us, q⟩ := m.hd p z
  rw [hn] at q
  cases q
def Sit.track (S' : Sit) (p : Addr) (xs : List T) (h : List Addr) : Sit := ⟨fun a => if a = S'.M.length then p else S'.α a, S'.M ++ [.lst xs], S'.H, h⟩
theorem Rep.track {p : Addr} {xs : List T} {hh : List Addr} (hp : p ∈ S'.hid) (sub : ∀ p ∈ hh, p ∈ S'.hid) {t : T} {v : V} (r : Rep K S' t v) : Rep K (S'.track p xs hh) t v := by
  induction r with
  | non => exact .non
  | bl b => exact .bl b
  | int b => exact .int b
  | str b => exact .str b
  | ty b => exact .ty b
  | tup h l _ ih => exact .tup h l ih
  | lst h l _ ih =>
    refine .lst ?_ l ih
    rcases h with ⟨h, f⟩ | h
    · refine .inl ⟨h, fun a ha z => ?_, fun z => f.2 (sub _ z)⟩
      have z' : (if a = S'.M.length then p else S'.α a) = _ := z
      by_cases hl : a = S'.M.length
      · rw [if_pos hl] at z'; rw [← z'] at f; exact f.2 hp
      · rw [if_neg hl] at z'
        have h3 : a < (S'.M ++ [Cell.lst xs]).length := ha
        exact f.1 a (by simp at h3; omega) z'
    · exact .inr h
  | @ref a h =>
    have : S'.α a = (S'.track p xs hh).α a := (if_neg (Nat.ne_of_lt h)).symm
    rw [this]
    exact .ref (by show a < (S'.M ++ [Cell.lst xs]).length; simp; omega)
  | dct h l _ ih => exact .dct h l ih
theorem Reps.track {p : Addr} {xs : List T} {h : List Addr} (hp : p ∈ S'.hid) (sub : ∀ p ∈ h, p ∈ S'.hid) {ts : List T} {vs : List V} (r : Reps K S' ts vs) : Reps K (S'.track p xs h) ts vs := ⟨r.1, fun i t v e1 e2 => (r.2 i t v e1 e2).track hp sub⟩
theorem CellOk.track {p : Addr} {xs : List T} {h : List Addr} (hp : p ∈ S'.hid) (sub : ∀ p ∈ h, p ∈ S'.hid) {q : Addr} {c : Cell} (o : CellOk K S' q c) : CellOk K (S'.track p xs h) q c := by
  cases c with
  | lst ts => obtain ⟨vs, q, r⟩ := o; exact ⟨vs, q, r.track hp sub⟩
  | dic ts => obtain ⟨vs, q, r⟩ := o; exact ⟨vs, q, r.1, r.2.track hp sub⟩
  | ins C ts => obtain ⟨dx, vs, q, r⟩ := o; exact ⟨dx, vs, q, r.1, r.2.track hp sub⟩
theorem Stp.track (s : Stp K S S') (m : MemOk K S) {p : Addr} {vs : List V} (hn : S.H p = none) (hp : p ∈ S'.hid) (e : S'.H p = some (.lst vs)) {xs : List T} (r : Reps K S' xs vs) : Stp K S (S'.track p xs S.hid) := by
  have sub : ∀ p ∈ S.hid, p ∈ S'.hid := fun p h => (s.hk p h).1
  have lt : ∀ a, a < S'.M.length → (S'.track p xs S.hid).α a = S'.α a := fun a h => if_neg (Nat.ne_of_lt h)
  refine ⟨⟨Nat.le_trans s.le (by show _ ≤ (S'.M ++ [Cell.lst xs]).length; simp), fun a h => (lt a (Nat.lt_of_lt_of_le h s.le)).trans (s.al a h), fun a h1 h2 => ?_, s.kp, fun p h => ⟨h, (s.hk p h).2⟩, fun p h => .inl h⟩, ⟨fun a c e2 => ?_, fun a b h1 h2 e2 => ?_, fun q h => ?_⟩⟩
  · by_cases hl : a < S'.M.length
    · rw [lt a hl]; exact s.fr a h1 hl
    · have h3 : a < (S'.M ++ [Cell.lst xs]).length := h2
      have : a = S'.M.length := by simp at h3; omega
      show S.H (if a = S'.M.length then p else S'.α a) = none
      rw [if_pos this]; exact hn
  · have e' : (S'.M ++ [Cell.lst xs])[a]? = some c := e2
    by_cases ha : a < S'.M.length
    · rw [List.getElem?_append_left ha] at e'
      rw [lt a ha]
      exact (s.mok.cell a c e').track hp sub
    · rw [List.getElem?_append_right (Nat.le_of_not_lt ha)] at e'
      have h3 : a - S'.M.length = 0 := by
        cases q : a - S'.M.length with
        | zero => rfl
        | succ k => rw [q] at e'; simp at e'
      rw [h3] at e'
      cases e'
      show CellOk K _ (if a = S'.M.length then p else S'.α a) _
      rw [if_pos (by omega)]
      exact ⟨vs, e, r.track hp sub⟩
  · have h1' : a < (S'.M ++ [Cell.lst xs]).length := h1
    have h2' : b < (S'.M ++ [Cell.lst xs]).length := h2
    have e' : (if a = S'.M.length then p else S'.α a) = (if b = S'.M.length then p else S'.α b) := e2
    simp at h1' h2'
    by_cases ha : a = S'.M.length
    · by_cases hb : b = S'.M.length
      · omega
      · rw [if_pos ha, if_neg hb] at e'
        exact absurd e'.symm ((s.mok.hd p hp).1 b (by omega))
    · by_cases hb : b = S'.M.length
      · rw [if_neg ha, if_pos hb] at e'
        exact absurd e' ((s.mok.hd p hp).1 a (by omega))
      · rw [if_neg ha, if_neg hb] at e'
        exact s.mok.inj a b (by omega) (by omega) e'
  · obtain ⟨h1, us, q1⟩ := s.mok.hd q (sub q h)
    refine ⟨fun a ha z => ?_, us, q1⟩
    have z' : (if a = S'.M.length then p else S'.α a) = q := z
    have h3 : a < (S'.M ++ [Cell.lst xs]).length := ha
    by_cases hl : a = S'.M.length
    · rw [if_pos hl] at z'
      obtain ⟨_, us2, q2⟩ := m.hd q h
      rw [← z', hn] at q2
      cases q2
    · rw [if_neg hl] at z'
      exact h1 a (by simp at h3; omega) z'
def Sit.hide (S : Sit) (p : Addr) (vs : List V) : Sit := ⟨S.α, S.M, upd S.H p (.lst vs), p :: S.hid⟩
theorem Stp.hide (m : MemOk K S) {p : Addr} (hp : S.H p = none) (vs : List V) : Stp K S (S.hide p vs) := by
  have g : Grow S (S.hide p vs) := ⟨Nat.le_refl _, fun _ _ => rfl, fun a h1 h2 => absurd (Nat.lt_of_lt_of_le h2 h1) (Nat.lt_irrefl _), fun b u e _ => by show upd S.H p _ b = _; rw [upd_ne (ne_of_none e hp)]; exact e, fun q h => ⟨.tail _ h, by obtain ⟨_, vs, e⟩ := m.hd q h; exact upd_ne (ne_of_none e hp)⟩, fun q h => by
    cases h with
    | head => exact .inr hp
    | tail _ h => exact .inl h⟩
  refine ⟨g, ⟨fun a c e => ?_, m.inj, fun q h => ?_⟩⟩
  · have ha : a < S.M.length := (List.getElem?_eq_some_iff.mp e).1
    exact (m.cell a c e).grow m g (upd_ne ((m.off_none hp).1 a ha))
  · cases h with
    | head => exact ⟨(m.off_none hp).1, vs, upd_same⟩
    | tail _ h =>
      obtain ⟨h1, us, e⟩ := m.hd q h
      exact ⟨h1, us, (upd_ne (ne_of_none e hp)).trans e⟩
end
section
variable {X : Cx} {XE : XK} {a b c e : Expr} {es : List Expr} {f g h : Ev → Mem → Out T} {pos : Pos} {ga : Ev → Mem → Out (List T)}
theorem ge_var {i : Nat} (h : PE X e (tVar i)) : GE X XE e (eVar i) := PE.imp h fun σ H Q ⟨S, στ, _, e, m, ev, _, fin⟩ => by
  replace fin : Fin XE (Rep X.K) X.K S (eVar i στ S.M) Q := fin
  unfold eVar at fin
  cases q : στ[i]? with
  | none => rw [q] at fin; exact fin.elim
  | some o =>
    cases o with
    | none => rw [q] at fin; exact fin.elim
    | some t =>
      rw [q] at fin
      obtain ⟨v, e2, r⟩ := ev.2 i t q
      exact ⟨v, e2, by rw [← e]; exact fin S v rfl (.refl m) r⟩
theorem ge_const {t : T} {v : V} (h : PE X e (tC v)) (r : ∀ S, Rep X.K S t v) : GE X XE e (eC t) := PE.imp h fun σ H Q ⟨S, στ, _, e, m, ev, _, fin⟩ => by
  show Q v H
  rw [← e]; exact fin S v rfl (.refl m) (r S)
theorem ge_int {i j} : GE X XE (.Constant (.int i) j pos) (eC (.int i)) := ge_const pe_int fun _ => .int _
theorem ge_bl {i j} : GE X XE (.Constant (.bool i) j pos) (eC (.bl i)) := ge_const pe_bl fun _ => .bl _
theorem ge_non {j} : GE X XE (.Constant .none j pos) (eC .non) := ge_const pe_non fun _ => .non
theorem ge_str {i j} : GE X XE (.Constant (.str i) j pos) (eC (.str i)) := ge_const pe_str fun _ => .str _
theorem ge_globE {x : Str} {i : Int} (hg : Gl X x) (hm : ∃ t, X.mg x = some (.int i t)) (hd : (x == ("__debug__" : Str)) = false := by decide) : GE X XE (.Name x pos) (eC (.int i)) := by
  obtain ⟨t, hm⟩ := hm
  exact ge_const (pe_glob (v := .int i) hg hm ⟨_, rfl⟩ hd) fun _ => .int _
theorem bind2 {o : T → T → Mem → Out T} {K : PySem.W.Frag} {σ : L2.St} {H : Hp} {Q : VK} (h : lE XE K (eOp o f g) σ H Q) : lE XE K f σ H fun x H1 => lE XE K g σ H1 fun y H2 => lR2 XE K o x y H2 Q :=
  LN.mono (LN.bind (f := fun _ σ M => f σ M) (k := fun _ x σ M1 => (g σ M1).bind fun y M2 => o x y M2) (RB := Rep K) h) fun v H1 h1 =>
    LN.mono (LN.env (f := g) (LN.bind (f := fun _ σ M => g σ M) (k := fun (ax : Unit × T) y σ M2 => o ax.2 y M2) (RB := Rep K) h1)) fun w H2 h2 => by
      obtain ⟨S, στ, a, e, m, ev, ra, fin⟩ := h2
      exact ⟨S, (a.1.2, a.2), e, m, ⟨ra.1.2, ra.2⟩, fin⟩
theorem ge_op {op : Operator} {o : T → T → Mem → Out T} (ho : OpR X (binaryOp op) (lR2 XE X.K o)) (ha : GE X XE a f) (hb : GE X XE b g) : GE X XE (.BinOp a op b pos) (eOp o f g) := PE.imp (pe_op ho ha hb) fun _ _ _ h => bind2 h
theorem ge_cmp {op : CmpOp} {o : T → T → Mem → Out T} (ho : OpR X (compareOp op) (lR2 XE X.K o)) (ha : GE X XE a f) (hb : GE X XE b g) (hm : behindInMarks op b = false) : GE X XE (.Compare a [op] [b] pos) (eOp o f g) := PE.imp (pe_cmpR ho ha hb hm) fun _ _ _ h => bind2 h
theorem ge_un {op : UnaryOp} {o : T → Mem → Out T} (ho : L2.UnR X (unaryOp op) (lR1 XE X.K o)) (ha : GE X XE a f) : GE X XE (.UnaryOp op a pos) (eUn o f) := PE.imp (pe_un ho ha) fun σ H Q h =>
  LN.mono (LN.bind (f := fun _ σ M => f σ M) (k := fun _ x σ M1 => o x M1) (RB := Rep X.K) h) fun v H1 h2 => by
    obtain ⟨S, στ, a, e, m, ev, ra, fin⟩ := h2
    exact ⟨S, a.2, e, m, ra.2, fin⟩
theorem ge_ix {o : T → T → Mem → Out T} (ho : IxR X (lR2 XE X.K o)) (ha : GE X XE a f) (hb : GE X XE b g) (hs : PlainIx b) : GE X XE (.Subscript a b pos) (eOp o f g) := PE.imp (pe_ix ho ha hb hs) fun _ _ _ h => bind2 h
theorem bl_of {K : PySem.W.Frag} {β γ : Type} {R : Sit → β → γ → Prop} {S : Sit} {t : T} {v : V} {M : Mem} {k : Bool → Mem → Out β} {Q : γ → Hp → Prop} (r : Rep K S t v) (h : Fin XE R K S (blT t M k) Q) : ∃ b, v = .bl b ∧ t = .bl b ∧ Fin XE R K S (k b M) Q := by
  cases r with
  | bl b => exact ⟨b, rfl, rfl, h⟩
  | _ => exact h.elim
theorem gt_val (ha : GE X XE e f) (he : ∀ whole, isTrue e X.env whole = (do let v ← whole; standAt e.pos; holding [v] (truthy v)) := by intro _; rfl) : GT X XE e (tVal f) := PT.imp (pt_val ha he) fun σ H Q h =>
  LN.mono (LN.bind (f := fun _ σ M => f σ M) (k := fun _ x σ M1 => blT x M1 fun b M2 => .ok b M2) (RB := Rep X.K) h) fun v H1 h2 => by
    obtain ⟨S, στ, a, e, m, ev, ra, fin⟩ := h2
    obtain ⟨b, e1, _, fin⟩ := bl_of ra.2 fin
    exact ⟨b, e1, by rw [← e]; exact fin S b rfl (.refl m) rfl⟩
theorem gt_cmp {op : CmpOp} {o : T → T → Mem → Out T} (ho : OpR X (compareOp op) (lR2 XE X.K o)) (ha : GE X XE a f) (hb : GE X XE b g) (hm : behindInMarks op b = false) : GT X XE (.Compare a [op] [b] pos) (tVal (eOp o f g)) := PT.imp (pt_cmpR ho ha hb hm) fun σ H Q h => by
  have h1 := LN.bind (f := fun _ σ M => eOp o f g σ M) (k := fun _ x σ M1 => blT x M1 fun b M2 => .ok b M2) (RB := Rep X.K) h
  refine bind2 (LN.mono h1 fun v H1 h2 => ?_)
  obtain ⟨S, στ, a, e, m, ev, ra, fin⟩ := h2
  obtain ⟨b, e1, _, fin⟩ := bl_of ra.2 fin
  exact ⟨b, e1, by rw [← e]; exact fin S b rfl (.refl m) rfl⟩
theorem tif {tf tg : Ev → Mem → Out Bool} {K : PySem.W.Frag} {σ : L2.St} {H : Hp} {Q : Bool → Hp → Prop} {p : Bool → Ev → Mem → Out Bool} (h : LN XE EqR K UnR (fun _ σ M => (tf σ M).bind fun c M1 => p c σ M1) () σ H Q) : lT XE K tf σ H fun c H1 => lT XE K (fun σ M => p c σ M) σ H1 Q :=
  LN.mono (LN.bind (f := fun _ σ M => tf σ M) (k := fun _ c σ M1 => p c σ M1) (RB := EqR) h) fun c H1 h2 => by
    obtain ⟨S, στ, a, e, m, ev, ra, fin⟩ := h2
    have : a.2 = c := ra.2
    subst this
    exact ⟨S, στ, (), e, m, ev, trivial, fin⟩
theorem lT_ok {K : PySem.W.Frag} {σ : L2.St} {H : Hp} {Q : Bool → Hp → Prop} {d : Bool} (h : lT XE K (fun _ M => .ok d M) σ H Q) : Q d H := by
  obtain ⟨S, στ, a, e, m, ev, ra, fin⟩ := h
  rw [← e]; exact fin S d rfl (.refl m) rfl
theorem lE_ok {K : PySem.W.Frag} {σ : L2.St} {H : Hp} {Q : VK} {d : T} {v : V} (h : lE XE K (fun _ M => .ok d M) σ H Q) (r : ∀ S, Rep K S d v) : Q v H := by
  obtain ⟨S, στ, a, e, m, ev, ra, fin⟩ := h
  rw [← e]; exact fin S v rfl (.refl m) (r S)
variable {tf tg : Ev → Mem → Out Bool} {rest : List Expr}
theorem gw_and1 (ha : GT X XE a tf) : GW X XE (.BoolOp .And [a] pos) tf := pw_and1 ha
theorem gw_or1 (ha : GT X XE a tf) : GW X XE (.BoolOp .Or [a] pos) tf := pw_or1 ha
theorem gw_and (ha : GT X XE a tf) (hb : GW X XE (.BoolOp .And (b :: rest) pos) tg) : GW X XE (.BoolOp .And (a :: b :: rest) pos) (tAndF tf tg) := PW.imp (pw_and ha hb) fun σ H Q h =>
  LN.mono (tif (tf := tf) (tg := tg) (p := fun c σ M1 => if c = true then tg σ M1 else .ok false M1) h) fun c H1 h1 => by
    cases c with
    | true => exact (if_pos rfl).mpr h1
    | false => exact (if_neg Bool.false_ne_true).mpr (lT_ok h1)
theorem gw_or (ha : GT X XE a tf) (hb : GW X XE (.BoolOp .Or (b :: rest) pos) tg) : GW X XE (.BoolOp .Or (a :: b :: rest) pos) (tOrF tf tg) := PW.imp (pw_or ha hb) fun σ H Q h =>
  LN.mono (tif (tf := tf) (tg := tg) (p := fun c σ M1 => if c = true then .ok true M1 else tg σ M1) h) fun c H1 h1 => by
    cases c with
    | true => exact (if_pos rfl).mpr (lT_ok h1)
    | false => exact (if_neg Bool.false_ne_true).mpr h1
theorem GW.gt (h : GW X XE e tf) : GT X XE e tf := PW.pt h
theorem gt_not (ha : GT X XE a tf) : GT X XE (.UnaryOp .Not a pos) (tNotF tf) := PT.imp (pt_not ha) fun σ H Q h =>
  LN.mono (tif (tf := tf) (tg := tf) (p := fun c σ M1 => .ok (!c) M1) h) fun c H1 h1 => lT_ok h1
theorem ge_one {op} (h : GE X XE a f) : GE X XE (.BoolOp op [a] pos) f := pe_one h
theorem eif {K : PySem.W.Frag} {σ : L2.St} {H : Hp} {Q : VK} {p : Bool → Ev → Mem → Out T} (h : LN XE (Rep K) K UnR (fun _ σ M => (f σ M).bind fun x M1 => blT x M1 fun b M2 => p b σ M2) () σ H Q) : lE XE K f σ H fun x H1 => ∃ c, x = .bl c ∧ lE XE K (fun σ M => p c σ M) σ H1 Q :=
  LN.mono (LN.bind (f := fun _ σ M => f σ M) (k := fun _ x σ M1 => blT x M1 fun b M2 => p b σ M2) (RB := Rep K) h) fun c H1 h2 => by
    obtain ⟨S, στ, a, e, m, ev, ra, fin⟩ := h2
    obtain ⟨b, e1, e2, fin⟩ := bl_of ra.2 fin
    exact ⟨b, e1, S, στ, (), e, m, ev, trivial, fin⟩
theorem ge_and (ha : GE X XE a f) (hb : GE X XE (.BoolOp .And (b :: rest) pos) g) : GE X XE (.BoolOp .And (a :: b :: rest) pos) (eAnd f g) := PE.imp (pe_and ha hb) fun σ H Q h =>
  LN.mono (eif (f := f) (p := fun b σ M2 => if b = true then g σ M2 else .ok (.bl false) M2) h) fun x H1 ⟨c, e, h1⟩ => ⟨c, e, by
    cases c with
    | true => exact (if_pos rfl).mpr h1
    | false => exact (if_neg Bool.false_ne_true).mpr (lE_ok h1 fun _ => .bl _)⟩
theorem ga_nil : GA X XE [] aNil := PA.imp pa_nil fun σ H Q ⟨S, στ, _, e, m, ev, _, fin⟩ => by
  show Q [] H
  rw [← e]; exact fin S [] rfl (.refl m) .nil
theorem ga_cons (ha : GE X XE e f) (hr : GA X XE es ga) (hs : noStar e = true := by rfl) : GA X XE (e :: es) (aCons f ga) := PA.imp (pa_cons ha hr (star_cons hs)) fun σ H Q h =>
  LN.mono (LN.bind (f := fun _ σ M => f σ M) (k := fun _ x σ M1 => (ga σ M1).bind fun xs M2 => .ok (x :: xs) M2) (RB := Rep X.K) h) fun v H1 h1 =>
    LN.mono (LN.env (f := ga) (LN.bind (f := fun _ σ M => ga σ M) (k := fun (ax : Unit × T) ys σ M2 => .ok (ax.2 :: ys) M2) (RB := Reps X.K) h1)) fun w H2 h2 => by
      obtain ⟨S, στ, a, e, m, ev, ra, fin⟩ := h2
      show Q (v :: w) H2
      rw [← e]
      exact fin S _ rfl (.refl m) (Reps.cons ra.1.2 ra.2)
theorem ge_tup {x1} (h : GA X XE es ga) : GE X XE (.Tuple es x1 pos) (eTup ga) := PE.imp (pe_tup h) fun σ H Q h =>
  LN.mono (LN.bind (f := fun _ σ M => ga σ M) (k := fun _ xs σ M1 => if xs.length ≤ sizeLine then .ok (T.tup xs) M1 else .bad) (RB := Reps X.K) h) fun v H1 h2 => by
    obtain ⟨S, στ, a, e, m, ev, ra, fin⟩ := h2
    by_cases hl : a.2.length ≤ sizeLine
    · replace fin : Fin XE (Rep X.K) X.K S (if a.2.length ≤ sizeLine then .ok (.tup a.2) S.M else .bad) Q := fin
      rw [if_pos hl] at fin
      refine ⟨by rw [← ra.2.1]; exact hl, fun p hp => ?_⟩
      subst e
      have s := Stp.new m hp (.tup v)
      exact fin ⟨S.α, S.M, upd S.H p (.tup v), S.hid⟩ (.ref p) rfl s (.tup (.inl (.inl upd_same)) ra.2.1 (ra.2.grow m s.toGrow).2)
    · replace fin : Fin XE (Rep X.K) X.K S (if a.2.length ≤ sizeLine then .ok (.tup a.2) S.M else .bad) Q := fin
      rw [if_neg hl] at fin
      exact fin.elim
theorem gl_disp (h : GA X XE es ga) : GL X XE (.List es pos) (lDisp ga) := PE.imp (pe_lst h) fun σ H Q ⟨S, στ, e, m, ev, fin⟩ => by
  replace fin : FinL XE X.K S ((ga στ S.M).bind fun xs M1 => if xs.length ≤ sizeLine then .ok xs M1 else .bad) Q := fin
  refine ⟨S, στ, (), e, m, ev, trivial, ?_⟩
  show Fin XE (Reps X.K) X.K S (ga στ S.M) _
  cases q : ga στ S.M with
  | bad => rw [q] at fin; exact fin
  | exn C fs M' => rw [q] at fin; exact fin
  | ok xs M1 =>
    rw [q] at fin
    intro S1 vs e1 s1 r1
    by_cases hl : xs.length ≤ sizeLine
    · replace fin : FinL XE X.K S (if xs.length ≤ sizeLine then .ok xs M1 else .bad) Q := fin
      rw [if_pos hl] at fin
      refine ⟨by rw [← r1.1]; exact hl, fun p hp => ?_⟩
      have s2 := Stp.hide s1.mok hp vs
      exact (fin.later s1) (S1.hide p vs) p vs e1 s2 hp (.head _) upd_same (r1.grow s1.mok s2.toGrow)
    · replace fin : FinL XE X.K S (if xs.length ≤ sizeLine then .ok xs M1 else .bad) Q := fin
      rw [if_neg hl] at fin
      exact fin.elim
theorem ge_fz (h : GL X XE e ga) : GE X XE e (eFz ga) := PE.imp h fun σ H Q ⟨S, στ, _, e, m, ev, _, fin⟩ => ⟨S, στ, e, m, ev, by
  show FinL XE X.K S (ga στ S.M) Q
  replace fin : Fin XE (Rep X.K) X.K S ((ga στ S.M).bind fun xs M1 => .ok (.lst xs) M1) Q := fin
  cases q : ga στ S.M with
  | bad => rw [q] at fin; exact fin
  | exn C fs M' => rw [q] at fin; exact fin
  | ok xs M1 =>
    rw [q] at fin
    intro S1 p vs e1 s1 hn hp hv r
    exact fin (S1.show S.hid) (.ref p) e1 s1.show (hid_lst s1 hn m hp hv r)⟩
theorem ge_tk (h : GL X XE e ga) : GE X XE e (eTk ga) := PE.imp h fun σ H Q ⟨S, στ, _, e, m, ev, _, fin⟩ => ⟨S, στ, e, m, ev, by
  show FinL XE X.K S (ga στ S.M) Q
  replace fin : Fin XE (Rep X.K) X.K S ((ga στ S.M).bind fun xs M1 => .ok (.ref M1.length) (M1 ++ [.lst xs])) Q := fin
  cases q : ga στ S.M with
  | bad => rw [q] at fin; exact fin
  | exn C fs M' => rw [q] at fin; exact fin
  | ok xs M1 =>
    rw [q] at fin
    intro S1 p vs e1 s1 hn hp hv r
    refine fin (S1.track p xs S.hid) (.ref p) (by show S1.M ++ _ = _; rw [e1]) (s1.track m hn hp hv r) ?_
    have this : (S1.track p xs S.hid).α S1.M.length = p := if_pos rfl
    rw [← e1]
    have hl : S1.M.length < (S1.track p xs S.hid).M.length := by show _ < (S1.M ++ [Cell.lst xs]).length; simp
    have r2 : Rep X.K (S1.track p xs S.hid) (.ref S1.M.length) (.ref ((S1.track p xs S.hid).α S1.M.length)) := .ref hl
    rw [this] at r2
    exact r2⟩
end
end FT
namespace FT
open PySem PySem.Spec PyProof.Rows L2
inductive Fl where
  | nx (σ : Ev) | rt (t : T) | bk (σ : Ev) | ct (σ : Ev)
inductive FlV where
  | nx (σ : L2.St) | rt (v : V) | bk (σ : L2.St) | ct (σ : L2.St)
inductive FlR (K : PySem.W.Frag) (S : Sit) : Fl → FlV → Prop where
  | nx {a b} : EvR K S a b → FlR K S (.nx a) (.nx b)
  | rt {a b} : Rep K S a b → FlR K S (.rt a) (.rt b)
  | bk {a b} : EvR K S a b → FlR K S (.bk a) (.bk b)
  | ct {a b} : EvR K S a b → FlR K S (.ct a) (.ct b)
def endsQ (D : Ends) : FlV → Hp → Prop
  | .nx σ, H => D.nx σ H
  | .rt v, H => D.rt v H
  | .bk σ, H => D.bk σ H
  | .ct σ, H => D.ct σ H
def lS (XE : XK) (K : PySem.W.Frag) (g : Ev → Mem → Out Fl) : TS := fun D σ H => LN XE (FlR K) K UnR (fun _ σ M => g σ M) () σ H (endsQ D)
def GS (X : Cx) (XE : XK) (st : Stmt) (g : Ev → Mem → Out Fl) : Prop := PS X st (lS XE X.K g)
def GSs (X : Cx) (XE : XK) (st : List Stmt) (g : Ev → Mem → Out Fl) : Prop := PSs X st (lS XE X.K g)
theorem EvR.set {K : PySem.W.Frag} {S : Sit} {στ : Ev} {σ : L2.St} (r : EvR K S στ σ) {t : T} {v : V} (q : Rep K S t v) (i : Nat) : EvR K S (στ.set i (some t)) (σ.set i (some v)) := by
  refine ⟨by simp [r.1], fun j u e => ?_⟩
  rw [List.getElem?_set] at e ⊢
  by_cases h : i = j
  · subst h
    by_cases hl : i < στ.length
    · rw [if_pos rfl, if_pos hl] at e
      cases e
      exact ⟨v, by rw [if_pos rfl, if_pos (by rw [← r.1]; exact hl)], q⟩
    · rw [if_pos rfl, if_neg hl] at e; cases e
  · rw [if_neg h] at e
    obtain ⟨w, e2, q2⟩ := r.2 j u e
    exact ⟨w, by rw [if_neg h]; exact e2, q2⟩
def sNil : Ev → Mem → Out Fl := fun σ M => .ok (.nx σ) M
def sBreak : Ev → Mem → Out Fl := fun σ M => .ok (.bk σ) M
def sCont : Ev → Mem → Out Fl := fun σ M => .ok (.ct σ) M
def thenF (k : Ev → Mem → Out Fl) (fl : Fl) (M : Mem) : Out Fl := match fl with
  | .nx σ => k σ M
  | .rt t => .ok (.rt t) M
  | .bk σ => .ok (.bk σ) M
  | .ct σ => .ok (.ct σ) M
def sSeq (g h : Ev → Mem → Out Fl) : Ev → Mem → Out Fl := fun σ M => (g σ M).bind (thenF h)
def sRet (f : Ev → Mem → Out T) : Ev → Mem → Out Fl := fun σ M => (f σ M).bind fun t M1 => .ok (.rt t) M1
def sRetN : Ev → Mem → Out Fl := fun σ M => .ok (.rt .non) M
def sExp (f : Ev → Mem → Out T) : Ev → Mem → Out Fl := fun σ M => (f σ M).bind fun _ M1 => .ok (.nx σ) M1
def sIf (c : Ev → Mem → Out Bool) (g h : Ev → Mem → Out Fl) : Ev → Mem → Out Fl := fun σ M => (c σ M).bind fun b M1 => if b = true then g σ M1 else h σ M1
def sSet (i : Nat) (f : Ev → Mem → Out T) : Ev → Mem → Out Fl := fun σ M => (f σ M).bind fun t M1 => .ok (.nx (σ.set i (some t))) M1
def lG (XE : XK) (K : PySem.W.Frag) (bd : T → Ev → Mem → Out Ev) : TG := fun v σ H Q => LN XE (EvR K) K (Rep K) bd v σ H Q
def lGs (XE : XK) (K : PySem.W.Frag) (bd : List T → Ev → Mem → Out Ev) : TGs := fun v σ H Q => LN XE (EvR K) K (Reps K) bd v σ H Q
def GG (X : Cx) (XE : XK) (tg : Expr) (bd : T → Ev → Mem → Out Ev) : Prop := PG X tg (lG XE X.K bd)
def GGs (X : Cx) (XE : XK) (tg : List Expr) (bd : List T → Ev → Mem → Out Ev) : Prop := PGs X tg (lGs XE X.K bd)
def bName (i : Nat) : T → Ev → Mem → Out Ev := fun t σ M => .ok (σ.set i (some t)) M
def bNil : List T → Ev → Mem → Out Ev := fun ts σ M => match ts with
  | [] => .ok σ M
  | _ => .bad
def bCons (b : T → Ev → Mem → Out Ev) (bs : List T → Ev → Mem → Out Ev) : List T → Ev → Mem → Out Ev := fun ts σ M => match ts with
  | t :: r => (b t σ M).bind fun σ1 M1 => bs r σ1 M1
  | _ => .bad
def bTup (n : Nat) (bs : List T → Ev → Mem → Out Ev) : T → Ev → Mem → Out Ev := fun t σ M => match t with
  | .tup xs => if xs.length = n then bs xs σ M else .bad
  | _ => .bad
def sAsg (f : Ev → Mem → Out T) (b : T → Ev → Mem → Out Ev) : Ev → Mem → Out Fl := fun σ M => (f σ M).bind fun t M1 => (b t σ M1).bind fun σ1 M2 => .ok (.nx σ1) M2
def ItOk (K : PySem.W.Frag) (S : Sit) (items : List T) (J : It) : Prop := ∀ S', Stp K S S' →
  (∀ (i : Nat) t, items[i]? = some t → J.go i S'.H ∧ ∀ x H', J.yld i S'.H x H' → ∃ S'', S''.H = H' ∧ S''.M = S'.M ∧ Stp K S' S'' ∧ Rep K S'' t x) ∧ ∀ i, items.length ≤ i → J.stop i S'.H
instance (K) : Mo K (ItOk K) := ⟨fun _ s r => fun S' s' => r S' (s.trans s')⟩
def lI (XE : XK) (K : PySem.W.Frag) (f : Ev → Mem → Out (List T)) : TI := fun σ H R => LN XE (ItOk K) K UnR (fun _ σ M => f σ M) () σ H R
def GI (X : Cx) (XE : XK) (tg iter : Expr) (f : Ev → Mem → Out (List T)) : Prop := PI X tg iter (lI XE X.K f)
def loopF (k : Ev → Mem → Out Fl) (fl : Fl) (M : Mem) : Out Fl := match fl with
  | .nx σ => k σ M
  | .ct σ => k σ M
  | .bk σ => .ok (.nx σ) M
  | .rt t => .ok (.rt t) M
def forL (bd : T → Ev → Mem → Out Ev) (body : Ev → Mem → Out Fl) : List T → Ev → Mem → Out Fl
  | [], σ, M => .ok (.nx σ) M
  | x :: xs, σ, M => (bd x σ M).bind fun σ1 M1 => (body σ1 M1).bind (loopF (forL bd body xs))
def sFor (it : Ev → Mem → Out (List T)) (bd : T → Ev → Mem → Out Ev) (body : Ev → Mem → Out Fl) : Ev → Mem → Out Fl := fun σ M => (it σ M).bind fun xs M1 => forL bd body xs σ M1
def whileN (c : Ev → Mem → Out Bool) (body : Ev → Mem → Out Fl) : Nat → Ev → Mem → Out Fl
  | 0, _, _ => .bad
  | n + 1, σ, M => (c σ M).bind fun b M1 => if b = true then (body σ M1).bind (loopF (whileN c body n)) else .ok (.nx σ) M1
open Classical in
noncomputable def sWhile (c : Ev → Mem → Out Bool) (body : Ev → Mem → Out Fl) : Ev → Mem → Out Fl := fun σ M => if h : ∃ n, whileN c body n σ M ≠ .bad then whileN c body h.choose σ M else .bad
theorem whileN_mono {c : Ev → Mem → Out Bool} {body : Ev → Mem → Out Fl} : ∀ {n : Nat} {σ : Ev} {M : Mem} {r : Out Fl}, whileN c body n σ M = r → r ≠ .bad → whileN c body (n + 1) σ M = r
  | 0, _, _, _, e, h => absurd e.symm h
  | n + 1, σ, M, r, e, h => by
    unfold whileN at e ⊢
    cases q : c σ M with
    | bad => rw [q] at e; exact absurd e.symm h
    | exn C fs M' => rw [q] at e; exact e
    | ok b M1 =>
      rw [q] at e
      replace e : (if b = true then (body σ M1).bind (loopF (whileN c body n)) else Out.ok (.nx σ) M1) = r := e
      show (if b = true then (body σ M1).bind (loopF (whileN c body (n + 1))) else Out.ok (.nx σ) M1) = r
      cases b with
      | false => exact e
      | true =>
        rw [if_pos rfl] at e ⊢
        cases q2 : body σ M1 with
        | bad => rw [q2] at e; exact absurd e.symm h
        | exn C fs M' => rw [q2] at e; exact e
        | ok fl M2 =>
          rw [q2] at e
          cases fl with
          | nx σ2 => exact whileN_mono (n := n) e h
          | ct σ2 => exact whileN_mono (n := n) e h
          | bk σ2 => exact e
          | rt t => exact e
theorem whileN_le {c : Ev → Mem → Out Bool} {body : Ev → Mem → Out Fl} {n k : Nat} {σ : Ev} {M : Mem} {r : Out Fl} (e : whileN c body n σ M = r) (h : r ≠ .bad) : whileN c body (n + k) σ M = r := by
  induction k with
  | zero => exact e
  | succ k ih => exact whileN_mono ih h
theorem sWhile_eq {c : Ev → Mem → Out Bool} {body : Ev → Mem → Out Fl} {σ : Ev} {M : Mem} {r : Out Fl} (n : Nat) (e : whileN c body n σ M = r) (h : r ≠ .bad) : sWhile c body σ M = r := by
  have ex : ∃ n, whileN c body n σ M ≠ .bad := ⟨n, by rw [e]; exact h⟩
  unfold sWhile
  rw [dif_pos ex]
  have h2 := ex.choose_spec
  have e1 := whileN_le (k := ex.choose) e h
  have e2 := whileN_le (k := n) rfl h2
  rw [Nat.add_comm] at e2
  rw [← e2, e1]
def lSet (XE : XK) (K : PySem.W.Frag) (st : T → T → T → Mem → Out Unit) : TSet := fun o i v H Q => L0 XE UnR K (PrR (PrR (Rep K) (Rep K)) (Rep K)) (fun a M => st a.1.1 a.1.2 a.2 M) ((o, i), v) H (fun _ H' => Q H')
def bSub (st : T → T → T → Mem → Out Unit) (f g : Ev → Mem → Out T) : T → Ev → Mem → Out Ev := fun t σ M => (f σ M).bind fun o M1 => (g σ M1).bind fun i M2 => (st o i t M2).bind fun _ M3 => .ok σ M3
def sAug (i : Nat) (o : T → T → Mem → Out T) (f : Ev → Mem → Out T) : Ev → Mem → Out Fl := fun σ M => (eVar i σ M).bind fun x M0 => (f σ M0).bind fun y M1 => (o x y M1).bind fun z M2 => .ok (.nx (σ.set i (some z))) M2
def sAugS (get op : T → T → Mem → Out T) (st : T → T → T → Mem → Out Unit) (f g h : Ev → Mem → Out T) : Ev → Mem → Out Fl := fun σ M =>
  (f σ M).bind fun o M1 => (g σ M1).bind fun i M2 => (get o i M2).bind fun x M3 => (h σ M3).bind fun y M4 => (op x y M4).bind fun z M5 => (st o i z M5).bind fun _ M6 => .ok (.nx σ) M6
section
variable {X : Cx} {XE : XK} {a b c e iter tg : Expr} {es : List Expr} {f g h : Ev → Mem → Out T} {pos : Pos} {ga : Ev → Mem → Out (List T)} {st : Stmt} {sts rest : List Stmt} {p q r : Ev → Mem → Out Fl} {tf : Ev → Mem → Out Bool}
theorem gss_nil : GSs X XE [] sNil := PSs.imp pss_nil fun D σ H ⟨S, στ, _, e, m, ev, _, fin⟩ => by
  show D.nx σ H
  rw [← e]; exact fin S (.nx σ) rfl (.refl m) (.nx ev)
theorem lS_seq {K : PySem.W.Frag} {D : Ends} {σ : L2.St} {H : Hp} (hh : lS XE K (sSeq p q) D σ H) : lS XE K p { D with nx := lS XE K q D } σ H := by
  obtain ⟨S, στ, _, e, m, ev, _, fin⟩ := hh
  refine ⟨S, στ, (), e, m, ev, trivial, ?_⟩
  show Fin XE (FlR K) K S (p στ S.M) _
  replace fin : Fin XE (FlR K) K S ((p στ S.M).bind (thenF q)) (endsQ D) := fin
  cases o : p στ S.M with
  | bad => rw [o] at fin; exact fin
  | exn C fs M' => rw [o] at fin; exact fin
  | ok fl M1 =>
    rw [o] at fin
    intro S1 cc e1 s1 r1
    cases r1 with
    | nx r1 => exact ⟨S1, _, (), rfl, s1.mok, r1, trivial, by rw [e1]; exact Fin.later s1 fin⟩
    | rt r1 => exact fin S1 _ e1 s1 (.rt r1)
    | bk r1 => exact fin S1 _ e1 s1 (.bk r1)
    | ct r1 => exact fin S1 _ e1 s1 (.ct r1)
theorem gss_cons (h1 : GS X XE st p) (h2 : GSs X XE rest q) : GSs X XE (st :: rest) (sSeq p q) := PSs.imp (pss_cons h1 h2) fun _ _ _ hh => lS_seq hh
theorem gss_one (h1 : GS X XE st p) : GSs X XE [st] p := pss_one h1
theorem gs_ret (he : GE X XE e f) : GS X XE (.Return (some e) pos) (sRet f) := PS.imp (ps_ret he) fun D σ H hh =>
  LN.mono (LN.bind (f := fun _ σ M => f σ M) (k := fun _ t σ M1 => .ok (Fl.rt t) M1) (RB := Rep X.K) hh) fun v H1 ⟨S, στ, a, e, m, ev, ra, fin⟩ => by
    rw [← e]; exact fin S (.rt v) rfl (.refl m) (.rt ra.2)
theorem gs_exp (he : GE X XE e f) (hs : swapsWith e none pos.line X.env = pure false := by rfl) : GS X XE (.Expr e pos) (sExp f) := PS.imp (ps_expr he hs) fun D σ H hh =>
  LN.mono (LN.bind (f := fun _ σ M => f σ M) (k := fun _ t σ M1 => .ok (Fl.nx σ) M1) (RB := Rep X.K) hh) fun v H1 ⟨S, στ, a, e, m, ev, ra, fin⟩ => by
    show D.nx σ H1
    rw [← e]; exact fin S (.nx σ) rfl (.refl m) (.nx ev)
theorem gs_if (hc : GT X XE c tf) (ha : GSs X XE sts p) (hb : GSs X XE rest q) : GS X XE (.If c sts rest pos) (sIf tf p q) := PS.imp (ps_if hc ha hb) fun D σ H hh =>
  LN.mono (LN.bind (f := fun _ σ M => tf σ M) (k := fun _ c σ M1 => if c = true then p σ M1 else q σ M1) (RB := EqR) hh) fun c H1 h2 => by
    obtain ⟨S, στ, a, e, m, ev, ra, fin⟩ := h2
    have : a.2 = c := ra.2
    subst this
    replace fin : Fin XE (FlR X.K) X.K S (if a.2 = true then p στ S.M else q στ S.M) (endsQ D) := fin
    cases q : a.2 with
    | true => exact (if_pos rfl).mpr ⟨S, στ, (), e, m, ev, trivial, by rw [q] at fin; exact fin⟩
    | false => exact (if_neg Bool.false_ne_true).mpr ⟨S, στ, (), e, m, ev, trivial, by rw [q] at fin; exact fin⟩
theorem gs_set {i : Nat} {x : Str} {pos' : Pos} (hN : X.N.Nodup) (hi : X.N[i]? = some x) (hx : Loc X.env.scope x) (he : GE X XE e f) (hs : swapsWith e (some (.Name x pos')) pos.line X.env = pure false := by rfl) (hf : X.fn x = true ∨ X.env.scope.names.lookup x = some .local := by first | exact .inl rfl | exact .inr rfl | assumption) :
    GS X XE (.Assign [.Name x pos'] e pos) (sSet i f) := PS.imp (ps_set hN hi hx he hs hf) fun D σ H hh =>
  LN.mono (LN.bind (f := fun _ σ M => f σ M) (k := fun _ t σ M1 => .ok (Fl.nx (σ.set i (some t))) M1) (RB := Rep X.K) hh) fun v H1 ⟨S, στ, a, e, m, ev, ra, fin⟩ => by
    show D.nx (σ.set i (some v)) H1
    rw [← e]; exact fin S (.nx _) rfl (.refl m) (.nx (ev.set ra.2 i))
theorem PG.imp {t t' : TG} (h : PG X tg t) (i : ∀ v σ H Q, t' v σ H Q → t v σ H Q) : PG X tg t' := fun pins s σ H v u Q I r q => h pins s σ H v u Q I r (i v σ H Q q)
theorem PGs.imp {tgs : List Expr} {t t' : TGs} (h : PGs X tgs t) (i : ∀ v σ H Q, t' v σ H Q → t v σ H Q) : PGs X tgs t' := fun pins s σ H v u Q I r q => h pins s σ H v u Q I r (i v σ H Q q)
theorem gg_name {i : Nat} (h : PG X tg (gName i)) : GG X XE tg (bName i) := PG.imp h fun v σ H Q ⟨S, στ, t, e, m, ev, ra, fin⟩ => by
  show Q (σ.set i (some v)) H
  rw [← e]; exact fin S _ rfl (.refl m) (ev.set ra i)
theorem ggs_nil : GGs X XE [] bNil := PGs.imp pgs_nil fun v σ H Q ⟨S, στ, t, e, m, ev, ra, fin⟩ => by
  cases t with
  | nil => exact ⟨ra.nilT, by rw [← e]; exact fin S _ rfl (.refl m) ev⟩
  | cons t r => exact fin.elim
theorem ggs_cons {bd : T → Ev → Mem → Out Ev} {bs : List T → Ev → Mem → Out Ev} (h : PGs X (e :: es) (gCons (lG XE X.K bd) (lGs XE X.K bs))) : GGs X XE (e :: es) (bCons bd bs) := PGs.imp h fun v σ H Q ⟨S, στ, t, e, m, ev, ra, fin⟩ => by
  cases t with
  | nil => exact fin.elim
  | cons t r =>
    obtain ⟨v1, vs, rfl, r1, r2⟩ := ra.consT
    refine ⟨v1, vs, rfl, ?_⟩
    replace fin : Fin XE (EvR X.K) X.K S ((bd t στ S.M).bind fun σ1 M1 => bs r σ1 M1) Q := fin
    refine ⟨S, στ, t, e, m, ev, r1, ?_⟩
    show Fin XE (EvR X.K) X.K S (bd t στ S.M) _
    cases o : bd t στ S.M with
    | bad => rw [o] at fin; exact fin
    | exn C fs M' => rw [o] at fin; exact fin
    | ok σ1 M1 =>
      rw [o] at fin
      intro S1 cc e1 s1 ev1
      exact ⟨S1, σ1, r, rfl, s1.mok, ev1, r2.grow m s1.toGrow, by rw [e1]; exact Fin.later s1 fin⟩
theorem gg_tup {n : Nat} {bs : List T → Ev → Mem → Out Ev} (h : PG X tg (gTup X.K n (lGs XE X.K bs))) : GG X XE tg (bTup n bs) := PG.imp h fun v σ H Q ⟨S, στ, t, e, m, ev, ra, fin⟩ => by
  cases ra with
  | @tup ts p vs h l r =>
    replace fin : Fin XE (EvR X.K) X.K S (if ts.length = n then bs ts στ S.M else .bad) Q := fin
    by_cases hn : ts.length = n
    · rw [if_pos hn] at fin
      exact ⟨p, vs, rfl, by rw [← e]; exact h, by rw [← l]; exact hn, S, στ, ts, e, m, ev, ⟨l, r⟩, fin⟩
    · rw [if_neg hn] at fin; exact fin.elim
  | _ => exact fin.elim
theorem lG_nx {K : PySem.W.Frag} {bd : T → Ev → Mem → Out Ev} {v : V} {σ : L2.St} {H : Hp} {D : Ends} (hh : LN XE (FlR K) K (Rep K) (fun t σ M => (bd t σ M).bind fun σ1 M2 => .ok (Fl.nx σ1) M2) v σ H (endsQ D)) : lG XE K bd v σ H D.nx := by
  obtain ⟨S, στ, t, e, m, ev, ra, fin⟩ := hh
  refine ⟨S, στ, t, e, m, ev, ra, ?_⟩
  replace fin : Fin XE (FlR K) K S ((bd t στ S.M).bind fun σ1 M2 => .ok (Fl.nx σ1) M2) (endsQ D) := fin
  cases o : bd t στ S.M with
  | bad => rw [o] at fin; exact fin
  | exn C fs M' => rw [o] at fin; exact fin
  | ok σ1 M1 =>
    rw [o] at fin
    intro S1 cc e1 s1 ev1
    exact fin S1 (.nx cc) e1 s1 (.nx ev1)
theorem gs_asg {bd : T → Ev → Mem → Out Ev} (he : GE X XE e f) (hg : GG X XE tg bd) (hs : swapsWithSole [tg] e pos.line X.env = pure false := by rfl) (hw : swappedStores [tg] e X.env = pure none := by rfl)
    (h1 : (assignEach [tg] X.env).map (·.2) = [assign tg X.env] := by rfl) : GS X XE (.Assign [tg] e pos) (sAsg f bd) := PS.imp (ps_asg he hg hs hw h1) fun D σ H hh =>
  LN.mono (LN.bind (f := fun _ σ M => f σ M) (k := fun _ t σ M1 => (bd t σ M1).bind fun σ1 M2 => .ok (Fl.nx σ1) M2) (RB := Rep X.K) hh) fun v H1 ⟨S, στ, a, e, m, ev, ra, fin⟩ =>
    lG_nx ⟨S, στ, a.2, e, m, ev, ra.2, fin⟩
theorem PI.imp {t t' : TI} (h : PI X tg iter t) (i : ∀ σ H R, t' σ H R → t σ H R) : PI X tg iter t' := fun pins s σ H R I q => h pins s σ H R I (i σ H R q)
theorem gs_for {bd : T → Ev → Mem → Out Ev} (hp : PassesOwn (model X.prog X.w) X.A X.env X.xe) (hc : X.calm = true) (hi : GI X XE tg iter ga) (hg : GG X XE tg bd) (hb : GSs X XE sts p)
    (hs : ∀ x, foldedSetIterable iter X.env x = pure x := by intro _; rfl) : GS X XE (.For tg iter sts [] pos) (sFor ga bd p) := PS.imp (ps_for hp hc hi hg hb hs) fun D σ H hh => by
  refine LN.mono (LN.bind (f := fun _ σ M => ga σ M) (k := fun _ xs σ M1 => forL bd p xs σ M1) (RB := ItOk X.K) hh) fun J H1 h1 => ?_
  obtain ⟨S, στ, a, e, m, ev, ra, fin⟩ := h1
  refine ⟨fun i n σ H => ∃ S στ, S.H = H ∧ MemOk X.K S ∧ EvR X.K S στ σ ∧ ItOk X.K S a.2 J ∧ n = a.2.length - i ∧ i ≤ a.2.length ∧ Fin XE (FlR X.K) X.K S (forL bd p (a.2.drop i) στ S.M) (endsQ D), ⟨_, S, στ, e, m, ev, ra.2, rfl, Nat.zero_le _, fin⟩, ?_⟩
  rintro i n σ1 H2 ⟨S1, στ1, e1, m1, ev1, it1, en, hi1, fin1⟩
  subst e1
  obtain ⟨it2, it3⟩ := it1 S1 (.refl m1)
  by_cases hl : i < a.2.length
  · have eq : a.2.drop i = a.2[i] :: a.2.drop (i + 1) := List.drop_eq_getElem_cons hl
    rw [eq] at fin1
    obtain ⟨go, yl⟩ := it2 i a.2[i] (by simp [hl])
    refine .inr ⟨go, fun σ' H' => ∃ S στ, S.H = H' ∧ MemOk X.K S ∧ EvR X.K S στ σ' ∧ ItOk X.K S a.2 J ∧ Fin XE (FlR X.K) X.K S (forL bd p (a.2.drop (i + 1)) στ S.M) (endsQ D), ?_, fun x H' hy => ?_⟩
    · rintro σ' H' ⟨S2, στ2, e2, m2, ev2, it4, fin2⟩
      exact ⟨a.2.length - (i + 1), by omega, S2, στ2, e2, m2, ev2, it4, rfl, hl, fin2⟩
    · obtain ⟨S2, e2, eM, s2, r2⟩ := yl x H' hy
      replace fin1 : Fin XE (FlR X.K) X.K S1 ((bd a.2[i] στ1 S1.M).bind fun σ1 M1 => (p σ1 M1).bind (loopF (forL bd p (a.2.drop (i + 1))))) (endsQ D) := fin1
      refine ⟨S2, στ1, a.2[i], e2, s2.mok, Mo.mo m1 s2 ev1, r2, ?_⟩
      rw [eM]
      cases o : bd a.2[i] στ1 S1.M with
      | bad => rw [o] at fin1; exact fin1
      | exn C fs M' => rw [o] at fin1; exact Fin.later s2 fin1
      | ok σ3 M3 =>
        rw [o] at fin1
        intro S3 σ3v e3 s3 ev3
        have s13 := s2.trans s3
        refine ⟨S3, σ3, (), rfl, s3.mok, ev3, trivial, ?_⟩
        show Fin XE (FlR X.K) X.K S3 (p σ3 S3.M) _
        rw [e3]
        replace fin1 : Fin XE (FlR X.K) X.K S1 ((p σ3 M3).bind (loopF (forL bd p (a.2.drop (i + 1))))) (endsQ D) := fin1
        cases o2 : p σ3 M3 with
        | bad => rw [o2] at fin1; exact fin1
        | exn C fs M' => rw [o2] at fin1; exact Fin.later s13 fin1
        | ok fl M4 =>
          rw [o2] at fin1
          intro S4 fv e4 s4 r4
          have s14 := s13.trans s4
          cases r4 with
          | nx r4 => exact ⟨S4, _, rfl, s4.mok, r4, Mo.mo m1 s14 it1, by rw [e4]; exact Fin.later s14 fin1⟩
          | ct r4 => exact ⟨S4, _, rfl, s4.mok, r4, Mo.mo m1 s14 it1, by rw [e4]; exact Fin.later s14 fin1⟩
          | bk r4 => exact fin1 S4 (.nx _) e4 s14 (.nx r4)
          | rt r4 => exact fin1 S4 (.rt _) e4 s14 (.rt r4)
  · rw [List.drop_eq_nil_of_le (by omega)] at fin1
    refine .inl ⟨it3 i (by omega), ?_⟩
    exact fin1 S1 (.nx σ1) rfl (.refl m1) (.nx ev1)
theorem gs_while (hp : PassesOwn (model X.prog X.w) X.A X.env X.xe) (hc : GT X XE c tf) (hb : GSs X XE sts p) : GS X XE (.While c sts [] pos) (sWhile tf p) := PS.imp (ps_while hp hc hb) fun D σ H hh => by
  obtain ⟨S, στ, _, e, m, ev, _, fin⟩ := hh
  replace fin : Fin XE (FlR X.K) X.K S (sWhile tf p στ S.M) (endsQ D) := fin
  have ex : ∃ n, Fin XE (FlR X.K) X.K S (whileN tf p n στ S.M) (endsQ D) := by
    unfold sWhile at fin
    split at fin
    · exact ⟨_, fin⟩
    · exact fin.elim
  obtain ⟨n, fin⟩ := ex
  refine ⟨fun n σ H => ∃ S στ, S.H = H ∧ MemOk X.K S ∧ EvR X.K S στ σ ∧ Fin XE (FlR X.K) X.K S (whileN tf p n στ S.M) (endsQ D), ⟨n, S, στ, e, m, ev, fin⟩, ?_⟩
  rintro n σ1 H1 ⟨S1, στ1, e1, m1, ev1, fin1⟩
  subst e1
  cases n with
  | zero => exact fin1.elim
  | succ n =>
    replace fin1 : Fin XE (FlR X.K) X.K S1 ((tf στ1 S1.M).bind fun b M1 => if b = true then (p στ1 M1).bind (loopF (whileN tf p n)) else .ok (.nx στ1) M1) (endsQ D) := fin1
    refine ⟨S1, στ1, (), rfl, m1, ev1, trivial, ?_⟩
    show Fin XE EqR X.K S1 (tf στ1 S1.M) _
    cases o : tf στ1 S1.M with
    | bad => rw [o] at fin1; exact fin1
    | exn C fs M' => rw [o] at fin1; exact fin1
    | ok b M2 =>
      rw [o] at fin1
      intro S2 b2 e2 s2 eb
      have eb' : b = b2 := eb
      subst eb'
      replace fin1 : Fin XE (FlR X.K) X.K S1 (if b = true then (p στ1 M2).bind (loopF (whileN tf p n)) else .ok (.nx στ1) M2) (endsQ D) := fin1
      cases b with
      | false => exact (if_neg Bool.false_ne_true).mpr (fin1 S2 (.nx σ1) e2 s2 (.nx (Mo.mo m1 s2 ev1)))
      | true =>
        refine (if_pos rfl).mpr ⟨fun σ' H' => ∃ S στ, S.H = H' ∧ MemOk X.K S ∧ EvR X.K S στ σ' ∧ Fin XE (FlR X.K) X.K S (whileN tf p n στ S.M) (endsQ D), fun σ' H' h => ⟨n, Nat.lt_succ_self _, h⟩, ?_⟩
        rw [if_pos rfl] at fin1
        refine ⟨S2, στ1, (), rfl, s2.mok, Mo.mo m1 s2 ev1, trivial, ?_⟩
        show Fin XE (FlR X.K) X.K S2 (p στ1 S2.M) _
        rw [e2]
        cases o2 : p στ1 M2 with
        | bad => rw [o2] at fin1; exact fin1
        | exn C fs M' => rw [o2] at fin1; exact Fin.later s2 fin1
        | ok fl M4 =>
          rw [o2] at fin1
          intro S4 fv e4 s4 r4
          have s14 := s2.trans s4
          cases r4 with
          | nx r4 => exact ⟨S4, _, rfl, s4.mok, r4, by rw [e4]; exact Fin.later s14 fin1⟩
          | ct r4 => exact ⟨S4, _, rfl, s4.mok, r4, by rw [e4]; exact Fin.later s14 fin1⟩
          | bk r4 => exact fin1 S4 (.nx _) e4 s14 (.nx r4)
          | rt r4 => exact fin1 S4 (.rt _) e4 s14 (.rt r4)
end
end FT
namespace FT
open PySem PySem.Spec PyProof.Rows L2
def startT (n : Nat) (ts : List T) : Ev := ts.map some ++ List.replicate (n - ts.length) none
def runDef (p n : Nat) (g : Ev → Mem → Out Fl) : List T → Mem → Out T := fun ts M => if ts.length = p then match g (startT n ts) M with
  | .ok (.rt t) M' => .ok t M'
  | .ok (.nx _) M' => .ok .non M'
  | _ => .bad else .bad
def spT (K : PySem.W.Frag) (f : List T → Mem → Out T) : Sp := fun vs H Q E => L0 E (Rep K) K (Reps K) f vs H Q
structure CalT (P : Program) (w : World) (K : PySem.W.Frag) (mg : Str → Option Value) (base : Heap) (k : Nat) (x : Str) (ps : List Str) (f : List T → Mem → Out T) : Prop where
  cal : Cal P w K mg base k x ps (spT K f)
  nox : ∀ ts M C fs M', f ts M ≠ .exn C fs M'
theorem runDef_nox (p n : Nat) (g : Ev → Mem → Out Fl) : ∀ ts M C fs M', runDef p n g ts M ≠ .exn C fs M' := by
  intro ts M C fs M' z
  unfold runDef at z
  split at z
  · split at z <;> cases z
  · cases z
theorem EvR.start {K : PySem.W.Frag} {S : Sit} {ts : List T} {vs : List V} (r : Reps K S ts vs) {N : List Str} {n : Nat} (hn : N.length = n) : EvR K S (startT n ts) (L2.start N vs) := by
  subst hn
  refine ⟨by simp [startT, L2.start, r.1], fun i t e => ?_⟩
  unfold startT at e
  unfold L2.start
  by_cases hi : i < ts.length
  · rw [List.getElem?_append_left (by simpa using hi)] at e
    rw [List.getElem?_append_left (by simpa [← r.1] using hi)]
    rw [List.getElem?_map] at e ⊢
    cases q : ts[i]? with
    | none => rw [q] at e; cases e
    | some t' =>
      rw [q] at e
      have : t' = t := Option.some.inj (Option.some.inj e)
      subst this
      obtain ⟨v, e2, r2⟩ := r.get q
      exact ⟨v, by rw [e2]; rfl, r2⟩
  · rw [List.getElem?_append_right (by simpa using hi)] at e
    rw [List.getElem?_replicate] at e
    split at e <;> cases e
section
variable {P : Program} {w : World} {K : PySem.W.Frag} {mg : Str → Option Value} {base : Heap}
theorem body_run {X : Cx} {st : List Stmt} {g : Ev → Mem → Out Fl} {p n : Nat} {N : List Str} (hn : N.length = n) {E : XK} {vs : List V} {H : Hp} {Q : VK} (hX : X.K = K) (h : spT K (runDef p n g) vs H Q E) (hb : GSs X E0 st g) :
    ∃ t, PSs X st t ∧ t { nx := fun _ H' => Q .non H', rt := Q } (start N vs) H := by
  subst hX
  refine ⟨_, hb, ?_⟩
  obtain ⟨S, ts, e, m, r, fin⟩ := h
  refine ⟨S, startT n ts, (), e, m, EvR.start r hn, trivial, ?_⟩
  show Fin E0 (FlR X.K) X.K S (g (startT n ts) S.M) _
  unfold runDef at fin
  by_cases hp : ts.length = p
  · rw [if_pos hp] at fin
    cases o : g (startT n ts) S.M with
    | bad => rw [o] at fin; exact fin
    | exn C fs M' => rw [o] at fin; exact fin.elim
    | ok fl M1 =>
      rw [o] at fin
      cases fl with
      | nx σ1 =>
        intro S1 c e1 s1 r1
        cases r1 with
        | nx r1 => exact fin S1 .non e1 s1 .non
      | rt t =>
        intro S1 c e1 s1 r1
        cases r1 with
        | rt r1 => exact fin S1 _ e1 s1 r1
      | bk σ1 => exact fin.elim
      | ct σ1 => exact fin.elim
  · rw [if_neg hp] at fin; exact fin.elim
theorem sp_len {p n : Nat} {g : Ev → Mem → Out Fl} {ps : List Str} (hp : ps.length = p) : ∀ vs H Q E, spT K (runDef p n g) vs H Q E → vs.length = ps.length := by
  intro vs H Q E ⟨S, ts, e, m, r, fin⟩
  rw [← r.1, hp]
  unfold runDef at fin
  by_cases h : ts.length = p
  · exact h
  · rw [if_neg h] at fin; exact fin.elim
theorem cal_mk {x : Str} {st : Stmt} {N ps : List Str} {k p n : Nat} {g : Ev → Mem → Out Fl} (D : Df K mg x st ps) (Sc : FnScope N ps (defScope st)) (hp : ps.length = p) (hn : N.length = n)
    (hb : ∀ (f : Addr) (cdv : Value) (A : Around) (outer : List PySem.Env) (s : Shared) (H : Hp) (E : XK), Room k (A.deeper (envOfC x (defScope st) s.heap.objs.size f cdv)) → GSs (cxOf CX0 P w K mg base N x (defScope st) f cdv A outer s H E).nox E0 (defBody st) g) :
    CalT P w K mg base (k + 1) x ps (runDef p n g) :=
  ⟨D.ok Sc (sp_len hp) fun f cdv A outer s H vs Q E hr h => body_run hn rfl h (hb f cdv A outer s H E hr), runDef_nox _ _ _⟩
theorem law_ok {st : Stmt} {N ps : List Str} {x qual : Str} {f : Addr} {fd : FuncData} {k p n : Nat} {g : Ev → Mem → Out Fl} (F : Fun K x qual st f fd) (Sc : FnScope N ps (defScope st)) (hp : ps.length = p) (hn : N.length = n)
    (hb : ∀ (cdv : Value) (A : Around) (outer : List PySem.Env) (s : Shared) (H : Hp) (E : XK), Room k (A.deeper (envOfC qual (defScope st) s.heap.objs.size f cdv)) → GSs (cxOf CX0 P w K mg base N qual (defScope st) f cdv A outer s H E).nox E0 (defBody st) g) :
    FnOk P w K mg base CX0 (k + 1) f fd ps (spT K (runDef p n g)) :=
  F.ok Sc (sp_len hp) fun cdv A outer s H vs Q E hr h => body_run hn rfl h (hb cdv A outer s H E hr)
theorem law_end {f : List T → Mem → Out T} {H : Hp} {a : Addr} {ns : List Int} {M' : Mem} (hS : SqL K H a (ns.map V.int)) (h : f [.lst (ns.map .int)] [] = .ok (.bl true) M') : spT K f [.ref a] H (fun v _ => v = .bl true) fun _ _ _ => False := by
  refine ⟨⟨fun _ => 0, [], H, []⟩, [.lst (ns.map .int)], rfl, ⟨fun a c e => by simp at e, fun a b h => absurd h (Nat.not_lt_zero _), fun p h => by simp at h⟩, .cons (.lst (vs := ns.map V.int) ?_ (by simp) ?_) .nil, ?_⟩
  · rcases hS with h | h
    · exact .inl ⟨h, fun a h => absurd h (Nat.not_lt_zero _), fun z => by simp at z⟩
    · exact .inr h
  · intro i t v e1 e2
    rw [List.getElem?_map] at e1 e2
    cases q : ns[i]? with
    | none => rw [q] at e1; cases e1
    | some z => rw [q] at e1 e2; cases e1; cases e2; exact .int z
  · show Fin _ _ K _ (f [.lst (ns.map .int)] []) _
    rw [h]
    intro S' c e s r
    cases r
    rfl
end
section
variable {X : Cx} {XE : XK} {k : Nat} {ps : List Str} {x : Str} {p pos : Pos} {e : Expr} {es : List Expr} {ga : Ev → Mem → Out (List T)} {F : List T → Mem → Out T}
theorem ge_cal (C : CalT X.prog X.w X.K X.mg X.base k x ps F) (hr : Room k X.A) (hg : Gl X x) (ha : GA X XE (e :: es) ga) (hdb : (x == ("__debug__" : Str)) = false := by decide)
    (he : noStar e = true := by rfl) (hpl : es.all noStar = true := by rfl) :
    GE X XE (.Call (.Name x p) (e :: es) [] pos) (eCall F ga) := PE.imp (pe_cal C.cal hr hg ha hdb (star_cons he) (star_any hpl)) fun σ H Q hh =>
  LN.mono (LN.bind (f := fun _ σ M => ga σ M) (k := fun _ ts σ M1 => F ts M1) (RB := Reps X.K) hh) fun vs H1 ⟨S, στ, a, e, m, ev, ra, fin⟩ => by
    rw [List.append_nil]
    refine ⟨S, a.2, e, m, ra.2, ?_⟩
    show Fin E0 (Rep X.K) X.K S (F a.2 S.M) Q
    replace fin : Fin XE (Rep X.K) X.K S (F a.2 S.M) Q := fin
    cases o : F a.2 S.M with
    | bad => rw [o] at fin; exact fin
    | exn C' fs M' => exact absurd o (C.nox _ _ _ _ _)
    | ok t M1 => rw [o] at fin; exact fin
theorem ge_callB {id : String} (hc : CallR X (.builtin id) (lRN XE X.K F)) (hg : Gl X x) (hm : X.mg x = none) (hv : bootBuiltins x = some (.builtin id)) (ha : GA X XE (e :: es) ga) (hn : x ≠ "__name__" := by decide) (hdb : (x == ("__debug__" : Str)) = false := by decide)
    (he : noStar e = true := by rfl) (hpl : es.all noStar = true := by rfl) :
    GE X XE (.Call (.Name x p) (e :: es) [] pos) (eCall F ga) := PE.imp (pe_callB hc hg hm hv ha hn hdb (star_cons he) (star_any hpl)) fun σ H Q hh =>
  LN.mono (LN.bind (f := fun _ σ M => ga σ M) (k := fun _ ts σ M1 => F ts M1) (RB := Reps X.K) hh) fun vs H1 ⟨S, στ, a, e, m, ev, ra, fin⟩ => ⟨S, a.2, e, m, ra.2, fin⟩
theorem ge_callTy {id : String} (hc : CallR X (.type id) (lRN XE X.K F)) (hg : Gl X x) (hm : X.mg x = none) (hv : bootBuiltins x = some (.type id)) (ha : GA X XE (e :: es) ga) (hn : x ≠ "__name__" := by decide) (hdb : (x == ("__debug__" : Str)) = false := by decide)
    (he : noStar e = true := by rfl) (hpl : es.all noStar = true := by rfl) :
    GE X XE (.Call (.Name x p) (e :: es) [] pos) (eCall F ga) := PE.imp (pe_callTy hc hg hm hv ha hn hdb (star_cons he) (star_any hpl)) fun σ H Q hh =>
  LN.mono (LN.bind (f := fun _ σ M => ga σ M) (k := fun _ ts σ M1 => F ts M1) (RB := Reps X.K) hh) fun vs H1 ⟨S, στ, a, e, m, ev, ra, fin⟩ => ⟨S, a.2, e, m, ra.2, fin⟩
end
inductive T.lt (n : Nat) : T → Prop where
  | non : T.lt n .non
  | bl (b : Bool) : T.lt n (.bl b)
  | int (i : Int) : T.lt n (.int i)
  | str (x : Str) : T.lt n (.str x)
  | ty (x : String) : T.lt n (.ty x)
  | tup {ts : List T} (h : ∀ t ∈ ts, T.lt n t) : T.lt n (.tup ts)
  | lst {ts : List T} (h : ∀ t ∈ ts, T.lt n t) : T.lt n (.lst ts)
  | ref {a : Nat} (h : a < n) : T.lt n (.ref a)
  | dct {kvs : List (Key × T)} (h : ∀ t ∈ kvs.map (·.2), T.lt n t) : T.lt n (.dct kvs)
def Cell.lt (n : Nat) : Cell → Prop
  | .lst ts => ∀ t ∈ ts, T.lt n t
  | .dic kvs => ∀ k ∈ kvs, T.lt n k.2
  | .ins _ fs => ∀ k ∈ fs, T.lt n k.2
inductive Fz (M' : Mem) (n : Nat) : T → T → Prop where
  | same {t : T} (h : T.lt n t) : Fz M' n t t
  | tup {ts us : List T} (l : ts.length = us.length) (h : ∀ (i : Nat) t u, ts[i]? = some t → us[i]? = some u → Fz M' n t u) : Fz M' n (.tup ts) (.tup us)
  | lst {ts us : List T} (l : ts.length = us.length) (h : ∀ (i : Nat) t u, ts[i]? = some t → us[i]? = some u → Fz M' n t u) : Fz M' n (.lst ts) (.lst us)
  | ref {a : Nat} {ts us : List T} (e : M'[a]? = some (.lst ts)) (g : n ≤ a) (l : ts.length = us.length) (h : ∀ (i : Nat) t u, ts[i]? = some t → us[i]? = some u → Fz M' n t u) : Fz M' n (.ref a) (.lst us)
theorem Rep.lt {K : PySem.W.Frag} {S : Sit} {t : T} {v : V} (r : Rep K S t v) : T.lt S.M.length t := by
  induction r with
  | non => exact .non
  | bl b => exact .bl b
  | int b => exact .int b
  | str b => exact .str b
  | ty b => exact .ty b
  | @tup ts p vs h l _ ih =>
    refine .tup fun t ht => ?_
    obtain ⟨i, hi, rfl⟩ := List.getElem_of_mem ht
    exact ih i _ vs[i] (by simp [hi]) (by simp [← l, hi])
  | @lst ts p vs h l _ ih =>
    refine .lst fun t ht => ?_
    obtain ⟨i, hi, rfl⟩ := List.getElem_of_mem ht
    exact ih i _ vs[i] (by simp [hi]) (by simp [← l, hi])
  | ref h => exact .ref h
  | @dct kvs us p o h l _ ih =>
    refine .dct fun t ht => ?_
    obtain ⟨i, hi, rfl⟩ := List.getElem_of_mem ht
    have hl : i < us.length := by have := congrArg List.length l; simp at this hi; omega
    exact ih i _ (us[i]'hl).2 (List.getElem?_eq_getElem hi) (by simp [hl])
theorem Reps.lt {K : PySem.W.Frag} {S : Sit} {ts : List T} {vs : List V} (r : Reps K S ts vs) : ∀ t ∈ ts, T.lt S.M.length t := fun t ht => by
  obtain ⟨i, hi, rfl⟩ := List.getElem_of_mem ht
  have hv : i < vs.length := by rw [← r.1]; exact hi
  exact (r.2 i _ vs[i] (by simp [hi]) (by simp [hv])).lt
theorem mem_snd {κ : Type} {fs : List (κ × T)} {n : Nat} (h : ∀ t ∈ fs.map (·.2), T.lt n t) : ∀ k ∈ fs, T.lt n k.2 := fun k hk => h _ (List.mem_map_of_mem (f := (·.2)) hk)
theorem CellOk.lt {K : PySem.W.Frag} {S : Sit} {p : Addr} {c : Cell} (h : CellOk K S p c) : Cell.lt S.M.length c := by
  cases c with
  | lst ts => obtain ⟨vs, _, r⟩ := h; exact r.lt
  | dic ts => obtain ⟨vs, _, r⟩ := h; exact mem_snd r.2.lt
  | ins C ts => obtain ⟨dx, vs, _, r⟩ := h; exact mem_snd r.2.lt
theorem T.lt.mono {n m : Nat} (h : n ≤ m) {t : T} (r : T.lt n t) : T.lt m t := by
  induction r with
  | non => exact .non
  | bl b => exact .bl b
  | int b => exact .int b
  | str b => exact .str b
  | ty b => exact .ty b
  | tup _ ih => exact .tup ih
  | lst _ ih => exact .lst ih
  | ref g => exact .ref (Nat.lt_of_lt_of_le g h)
  | dct _ ih => exact .dct ih
def Sit.cut (S : Sit) (n : Nat) (h : List Addr) : Sit := ⟨S.α, S.M.take n, S.H, h⟩
section
variable {K : PySem.W.Frag} {S S' : Sit} {n : Nat} {hh : List Addr}
theorem Rep.cut (hn : n ≤ S'.M.length) (sub : ∀ p ∈ hh, p ∈ S'.hid) {t : T} {v : V} (r : Rep K S' t v) (l : T.lt n t) : Rep K (S'.cut n hh) t v := by
  have ln : (S'.cut n hh).M.length = n := by show (S'.M.take n).length = n; simp; omega
  induction r with
  | non => exact .non
  | bl b => exact .bl b
  | int b => exact .int b
  | str b => exact .str b
  | ty b => exact .ty b
  | @tup ts p vs h l2 _ ih =>
    cases l with
    | tup hl => exact .tup h l2 fun i t v e1 e2 => ih i t v e1 e2 (hl t (List.mem_of_getElem? e1))
  | @lst ts p vs h l2 _ ih =>
    cases l with
    | lst hl =>
      refine .lst ?_ l2 fun i t v e1 e2 => ih i t v e1 e2 (hl t (List.mem_of_getElem? e1))
      rcases h with ⟨h, f⟩ | h
      · exact .inl ⟨h, fun a ha z => f.1 a (by rw [ln] at ha; omega) z, fun z => f.2 (sub _ z)⟩
      · exact .inr h
  | @ref a h =>
    cases l with
    | ref hl => exact .ref (S := S'.cut n hh) (by rw [ln]; exact hl)
  | dct h l2 _ ih =>
    cases l with
    | dct hl => exact .dct (S := S'.cut n hh) h l2 fun i t v e1 e2 => ih i t v e1 e2 (hl t (List.mem_of_getElem? e1))
theorem Reps.cut (hn : n ≤ S'.M.length) (sub : ∀ p ∈ hh, p ∈ S'.hid) {t : List T} {v : List V} (r : Reps K S' t v) (l : ∀ x ∈ t, T.lt n x) : Reps K (S'.cut n hh) t v := ⟨r.1, fun i t v e1 e2 => (r.2 i t v e1 e2).cut hn sub (l t (List.mem_of_getElem? e1))⟩
theorem CellOk.cut (hn : n ≤ S'.M.length) (sub : ∀ p ∈ hh, p ∈ S'.hid) {p : Addr} {c : Cell} (r : CellOk K S' p c) (l : Cell.lt n c) : CellOk K (S'.cut n hh) p c := by
  have ms : ∀ {κ : Type} {fs : List (κ × T)}, (∀ k ∈ fs, T.lt n k.2) → ∀ t ∈ fs.map (·.2), T.lt n t := fun h t ht => by
    obtain ⟨k, hk, rfl⟩ := List.mem_map.mp ht
    exact h k hk
  cases c with
  | lst ts => obtain ⟨vs, q, r⟩ := r; exact ⟨vs, q, r.cut hn sub l⟩
  | dic ts => obtain ⟨vs, q, r⟩ := r; exact ⟨vs, q, r.1, r.2.cut hn sub (ms l)⟩
  | ins C ts => obtain ⟨dx, vs, q, r⟩ := r; exact ⟨dx, vs, q, r.1, r.2.cut hn sub (ms l)⟩
theorem Stp.cut (s : Stp K S S') (h1 : S.M.length ≤ n) (h2 : n ≤ S'.M.length) (hl : ∀ (i : Nat) c, i < n → S'.M[i]? = some c → Cell.lt n c) : Stp K S (S'.cut n S.hid) := by
  have sub : ∀ p ∈ S.hid, p ∈ S'.hid := fun p h => (s.hk p h).1
  have ln : (S'.cut n S.hid).M.length = n := by show (S'.M.take n).length = n; simp; omega
  refine ⟨⟨by rw [ln]; exact h1, s.al, fun a g1 g2 => s.fr a g1 (by rw [ln] at g2; omega), s.kp, fun p h => ⟨h, (s.hk p h).2⟩, fun p h => .inl h⟩, ⟨fun a c e => ?_, fun a b g1 g2 e => s.mok.inj a b (by rw [ln] at g1; omega) (by rw [ln] at g2; omega) e, fun p h => ?_⟩⟩
  · have e' : (S'.M.take n)[a]? = some c := e
    rw [List.getElem?_take] at e'
    split at e'
    · rename_i hi
      exact (s.mok.cell a c e').cut h2 sub (hl a c hi e')
    · cases e'
  · obtain ⟨g1, vs, g2⟩ := s.mok.hd p (sub p h)
    exact ⟨fun a ha z => g1 a (by rw [ln] at ha; omega) z, vs, g2⟩
theorem Rep.fz (m : MemOk K S') (hn : n ≤ S'.M.length) (sub : ∀ p ∈ hh, p ∈ S'.hid) {t u : T} (z : Fz S'.M n t u) : ∀ {v : V}, Rep K S' t v → Rep K (S'.cut n hh) u v := by
  have ln : (S'.cut n hh).M.length = n := by show (S'.M.take n).length = n; simp; omega
  induction z with
  | same h => exact fun r => r.cut hn sub h
  | @tup ts us l _ ih =>
    intro v r
    cases r with
    | @tup _ p vs h l2 rr =>
      refine .tup h (by rw [← l]; exact l2) fun i t v e1 e2 => ?_
      have hi : i < ts.length := by rw [l]; exact (List.getElem?_eq_some_iff.mp e1).1
      exact ih i ts[i] t (by simp [hi]) e1 (rr i _ v (by simp [hi]) e2)
  | @lst ts us l _ ih =>
    intro v r
    cases r with
    | @lst _ p vs h l2 rr =>
      refine .lst ?_ (by rw [← l]; exact l2) fun i t v e1 e2 => ?_
      · rcases h with ⟨h, f⟩ | h
        · exact .inl ⟨h, fun a ha z => f.1 a (by rw [ln] at ha; omega) z, fun z => f.2 (sub _ z)⟩
        · exact .inr h
      · have hi : i < ts.length := by rw [l]; exact (List.getElem?_eq_some_iff.mp e1).1
        exact ih i ts[i] t (by simp [hi]) e1 (rr i _ v (by simp [hi]) e2)
  | @ref a ts us e g l _ ih =>
    intro v r
    cases r with
    | ref ha =>
      obtain ⟨vs, q, rr⟩ := m.cell a _ e
      refine .lst (vs := vs) (.inl ⟨.inl q, fun b hb z => ?_, fun z => ?_⟩) (by rw [← l]; exact rr.1) fun i t v e1 e2 => ?_
      · rw [ln] at hb
        have := m.inj b a (by omega) ha z
        omega
      · exact (m.hd _ (sub _ z)).1 a ha rfl
      · have hi : i < ts.length := by rw [l]; exact (List.getElem?_eq_some_iff.mp e1).1
        exact ih i ts[i] t (by simp [hi]) e1 (rr.2 i _ v (by simp [hi]) e2)
end
def Refines (f g : List T → Mem → Out T) : Prop := ∀ ts M t' M1, (∀ c ∈ M, Cell.lt M.length c) → f ts M = .ok t' M1 → ∃ t M', g ts M = .ok t M' ∧ M.length ≤ M1.length ∧ M1.length ≤ M'.length ∧ M1 = M'.take M1.length ∧ (∀ (i : Nat) c, M1[i]? = some c → M[i]? = some c ∨ Cell.lt M1.length c) ∧ Fz M' M1.length t t'
theorem Cell.lt.mono {n m : Nat} (h : n ≤ m) {c : Cell} (r : Cell.lt n c) : Cell.lt m c := by
  cases c with
  | lst ts => exact fun t ht => (r t ht).mono h
  | dic ts => exact fun t ht => (r t ht).mono h
  | ins C ts => exact fun t ht => (r t ht).mono h
theorem CalT.refine {P : Program} {w : World} {K : PySem.W.Frag} {mg : Str → Option Value} {base : Heap} {k : Nat} {x : Str} {ps : List Str} {f g : List T → Mem → Out T} (C : CalT P w K mg base k x ps g) (h : Refines f g) (nox : ∀ ts M C fs M', f ts M ≠ .exn C fs M') : CalT P w K mg base k x ps f := by
  refine ⟨?_, nox⟩
  obtain ⟨⟨fa, fd, F, kp, b, gg⟩⟩ := C.cal
  have key : ∀ vs H Q E, spT K f vs H Q E → spT K g vs H Q E := by
    rintro vs H Q E ⟨S, ts, e, m, r, fin⟩
    refine ⟨S, ts, e, m, r, ?_⟩
    have wf : ∀ c ∈ S.M, Cell.lt S.M.length c := fun c hc => by
      obtain ⟨i, hi, rfl⟩ := List.getElem_of_mem hc
      exact (m.cell i _ (by simp [hi])).lt
    cases o : f ts S.M with
    | bad => rw [o] at fin; exact fin.elim
    | exn C' fs M' => exact absurd o (nox _ _ _ _ _)
    | ok t' M1 =>
      rw [o] at fin
      obtain ⟨t, M', eg, l1, l2, eM, hc, z⟩ := h ts S.M t' M1 wf o
      rw [eg]
      intro S' v e1 s r1
      have hl : ∀ (i : Nat) c, i < M1.length → S'.M[i]? = some c → Cell.lt M1.length c := fun i c hi ec => by
        have e2 : M1[i]? = some c := by
          rw [eM, List.getElem?_take, if_pos hi, ← e1]; exact ec
        rcases hc i c e2 with q | q
        · exact (wf c (List.mem_of_getElem? q)).mono l1
        · exact q
      have sc := s.cut l1 (by rw [e1]; exact l2) hl
      refine fin (S'.cut M1.length S.hid) v ?_ sc ?_
      · show S'.M.take M1.length = M1
        rw [e1]; exact eM.symm
      · exact Rep.fz s.mok (by rw [e1]; exact l2) (fun p h => (s.hk p h).1) (by rw [e1]; exact z) r1
  refine ⟨⟨fa, fd, ⟨fun vs H Q E q => F.len vs H Q E (key _ _ _ _ q), ?_⟩, kp, b, gg⟩⟩
  intro A outer s H args us vs Q E hr h0 hb hv hq
  exact F.run A outer s H args us vs Q E hr h0 hb hv (key _ _ _ _ hq)
end FT
namespace FT
open PySem PySem.Spec PyProof.Rows L2
def lstOf (t : T) (M : Mem) : Option (List T) := match t with
  | .lst xs => some xs
  | .ref a => match M[a]? with
    | some (.lst xs) => some xs
    | _ => none
  | _ => none
def seqItems (t : T) : Option (List T) := match t with
  | .lst xs => some xs
  | .tup xs => some xs
  | _ => none
def seqOf (t : T) (M : Mem) : Option (List T) := match t with
  | .tup xs => some xs
  | t => lstOf t M
section
variable {K : PySem.W.Frag} {S : Sit} {t : T} {v : V} {xs : List T}
theorem lst_sq {p : Addr} {vs : List V} (h : (Rd S.H p (.lst vs) ∧ S.off p) ∨ KL K p vs) : SqL K S.H p vs := by
  rcases h with ⟨h, _⟩ | h
  · exact .inl h
  · exact .inr h
theorem lstOf_rep (m : MemOk K S) (r : Rep K S t v) (e : lstOf t S.M = some xs) : ∃ p vs, v = .ref p ∧ SqL K S.H p vs ∧ Reps K S xs vs := by
  cases r with
  | @lst ts p vs h l r => cases e; exact ⟨p, vs, rfl, lst_sq h, l, r⟩
  | @ref a h =>
    unfold lstOf at e
    dsimp only at e
    split at e
    · rename_i ys q
      cases e
      obtain ⟨vs, q2, r2⟩ := m.cell a _ q
      exact ⟨_, vs, rfl, .inl (.inl q2), r2⟩
    · cases e
  | _ => cases e
theorem seqOf_rep (m : MemOk K S) (r : Rep K S t v) (e : seqOf t S.M = some xs) : ∃ p vs, v = .ref p ∧ (SqL K S.H p vs ∨ SqT K S.H p vs) ∧ Reps K S xs vs := by
  cases t with
  | tup ts =>
    cases e
    cases r with
    | @tup _ p vs h l r => exact ⟨p, vs, rfl, .inr h, l, r⟩
  | lst ts => obtain ⟨p, vs, e1, h, r2⟩ := lstOf_rep m r e; exact ⟨p, vs, e1, .inl h, r2⟩
  | ref a => obtain ⟨p, vs, e1, h, r2⟩ := lstOf_rep m r e; exact ⟨p, vs, e1, .inl h, r2⟩
  | _ => cases e
end
def iSeq (f : Ev → Mem → Out T) : Ev → Mem → Out (List T) := fun σ M => (f σ M).bind fun t M1 => match seqItems t with
  | some xs => .ok xs M1
  | none => .bad
def rngT (lo : Int) (n : Nat) : List T := (List.range n).map fun (k : Nat) => T.int (lo + (k : Int))
noncomputable def rng1 (ts : List T) (M1 : Mem) : Out (List T) := match ts with
  | [.int j] => @ite _ (-(2 ^ 62) ≤ j ∧ j < 2 ^ 62) (Classical.propDecidable _) (.ok (rngT 0 j.toNat) M1) .bad
  | _ => .bad
noncomputable def rng2 (ts : List T) (M1 : Mem) : Out (List T) := match ts with
  | [.int i, .int j] => @ite _ ((-(2 ^ 62) ≤ i ∧ i < 2 ^ 62) ∧ (-(2 ^ 62) ≤ j ∧ j < 2 ^ 62)) (Classical.propDecidable _) (.ok (rngT i (j - i).toNat) M1) .bad
  | _ => .bad
noncomputable def iRange1 (f : Ev → Mem → Out (List T)) : Ev → Mem → Out (List T) := fun σ M => (f σ M).bind fun ts M1 => rng1 ts M1
noncomputable def iRange2 (f : Ev → Mem → Out (List T)) : Ev → Mem → Out (List T) := fun σ M => (f σ M).bind fun ts M1 => rng2 ts M1
theorem itOk_rng (K : PySem.W.Frag) (S : Sit) (lo : Int) (n : Nat) : ItOk K S (rngT lo n) (Itr lo n) := fun S' s => by
  refine ⟨fun i t e => ?_, fun i h => ?_⟩
  · unfold rngT at e
    rw [List.getElem?_map] at e
    cases q : (List.range n)[i]? with
    | none => rw [q] at e; cases e
    | some k =>
      rw [q] at e
      cases e
      have hi : i < n := by have := (List.getElem?_eq_some_iff.mp q).1; simpa using this
      have hk : k = i := by rw [List.getElem?_range hi] at q; exact (Option.some.inj q).symm
      subst hk
      refine ⟨hi, fun x H' hy => ?_⟩
      obtain ⟨e1, e2⟩ := hy
      exact ⟨S', e1.symm, rfl, .refl s.mok, by rw [e2]; exact .int _⟩
  · show n ≤ i
    simpa [rngT] using h
section
variable {X : Cx} {XE : XK} {a b c e iter tg : Expr} {es : List Expr} {f g h : Ev → Mem → Out T} {pos p : Pos} {ga : Ev → Mem → Out (List T)}
theorem gi_seq (he : GE X XE e f) : GI X XE tg e (iSeq f) := PI.imp (PI.or (pi_list he) (pi_tup he)) fun σ H R ⟨S, στ, _, e, m, ev, _, fin⟩ => by
  replace fin : Fin XE (ItOk X.K) X.K S ((f στ S.M).bind fun t M1 => match seqItems t with | some xs => .ok xs M1 | none => .bad) R := fin
  cases o : f στ S.M with
  | bad => rw [o] at fin; exact fin.elim
  | exn C fs M' =>
    rw [o] at fin
    refine .inl ⟨S, στ, (), e, m, ev, trivial, ?_⟩
    show Fin XE (Rep X.K) X.K S (f στ S.M) _
    rw [o]; exact fin
  | ok t M1 =>
    rw [o] at fin
    cases t with
    | lst ts =>
      refine .inl ⟨S, στ, (), e, m, ev, trivial, ?_⟩
      show Fin XE (Rep X.K) X.K S (f στ S.M) _
      rw [o]
      intro S1 v e1 s1 r1
      cases r1 with
      | @lst _ p vs h l r =>
        have r1 : Reps X.K S1 ts vs := ⟨l, r⟩
        refine ⟨p, rfl, ⟨vs, lst_sq h⟩, fin S1 _ e1 s1 fun S3 s3 => ?_⟩
        have g3 : SqL X.K S3.H p vs := by
          rcases h with ⟨h2, f2⟩ | h2
          · exact .inl (s3.toGrow.rd h2 f2).1
          · exact .inr h2
        refine ⟨fun i t et => ?_, fun i hi => ⟨vs, g3, by rw [← l]; exact hi⟩⟩
        obtain ⟨v2, ev3, r3⟩ := r1.get et
        refine ⟨⟨vs, v2, g3, ev3⟩, fun x H' hy => ?_⟩
        obtain ⟨ey, hy⟩ := hy
        have := hy vs g3
        rw [ev3] at this
        cases this
        exact ⟨S3, ey.symm, rfl, .refl s3.mok, r3.grow s1.mok s3.toGrow⟩
    | tup ts =>
      refine .inr ⟨S, στ, (), e, m, ev, trivial, ?_⟩
      show Fin XE (Rep X.K) X.K S (f στ S.M) _
      rw [o]
      intro S1 v e1 s1 r1
      cases r1 with
      | @tup _ p vs h l r =>
        have r1 : Reps X.K S1 ts vs := ⟨l, r⟩
        refine ⟨p, rfl, ⟨vs, h⟩, fin S1 _ e1 s1 fun S3 s3 => ?_⟩
        have g3 : SqT X.K S3.H p vs := s3.toGrow.tup s1.mok h
        refine ⟨fun i t et => ?_, fun i hi => ⟨vs, g3, by rw [← l]; exact hi⟩⟩
        obtain ⟨v2, ev3, r3⟩ := r1.get et
        refine ⟨⟨vs, v2, g3, ev3⟩, fun x H' hy => ?_⟩
        obtain ⟨ey, hy⟩ := hy
        have := hy vs g3
        rw [ev3] at this
        cases this
        exact ⟨S3, ey.symm, rfl, .refl s3.mok, r3.grow s1.mok s3.toGrow⟩
    | _ => exact fin.elim
theorem gi_range1 (hg : Gl X "range") (hm : X.mg "range" = none) (ha : GA X XE [a] ga) (hs : starEach [a] X.env = [(false, eval a X.env)] := by rfl) : GI X XE tg (.Call (.Name "range" p) [a] [] pos) (iRange1 ga) := PI.imp (pi_range1 hg hm ha hs) fun σ H R hh =>
  LN.mono (LN.bind (f := fun _ σ M => ga σ M) (k := fun _ ts σ M1 => rng1 ts M1) (RB := Reps X.K) hh) fun vs H1 ⟨S, στ, a, e, m, ev, ra, fin⟩ => by
    obtain ⟨u, ts⟩ := a
    have rr : Reps X.K S ts vs := ra.2
    replace fin : Fin XE (ItOk X.K) X.K S (rng1 ts S.M) R := fin
    unfold rng1 at fin
    split at fin
    · rename_i j
      obtain ⟨v, vs', rfl, r1, r2⟩ := rr.consT
      cases r1
      rw [r2.nilT]
      split at fin
      · rename_i hj
        exact ⟨j, rfl, hj.1, hj.2, by rw [← e]; exact fin S _ rfl (.refl m) (itOk_rng _ _ _ _)⟩
      · exact fin.elim
    · exact fin.elim
end
def compL (bd : T → Ev → Mem → Out Ev) (cond : Ev → Mem → Out Bool) (el : Ev → Mem → Out T) : List T → Ev → Mem → List T → Out (List T)
  | [], _, M, acc => .ok acc M
  | x :: xs, σ, M, acc => (bd x σ M).bind fun σ1 M1 => (cond σ1 M1).bind fun b M2 => if b = true then (el σ1 M2).bind fun t M3 => if acc.length < sizeLine then compL bd cond el xs σ1 M3 (acc ++ [t]) else .bad else compL bd cond el xs σ1 M2 acc
def capT (tgs : List Str) (caps : List (Str × Nat)) (σ : Ev) : Ev := tgs.map (fun _ => none) ++ caps.map fun c => (σ[c.2]?).join
def lComp (it : Ev → Mem → Out (List T)) (bd : T → Ev → Mem → Out Ev) (cond : Ev → Mem → Out Bool) (el : Ev → Mem → Out T) (tgs : List Str) (caps : List (Str × Nat)) : Ev → Mem → Out (List T) := fun σ M => (it σ M).bind fun xs M1 => compL bd cond el xs (capT tgs caps σ) M1 []
def tYes : Ev → Mem → Out Bool := fun _ M => .ok true M
theorem EvR.cap {K : PySem.W.Frag} {S : Sit} {στ : Ev} {σ : L2.St} (r : EvR K S στ σ) (tgs : List Str) (caps : List (Str × Nat)) : EvR K S (capT tgs caps στ) (capσ tgs caps σ) := by
  refine ⟨by simp [capT, capσ], fun i t e => ?_⟩
  unfold capT at e
  unfold capσ
  by_cases hi : i < tgs.length
  · rw [List.getElem?_append_left (by simpa using hi)] at e
    rw [List.getElem?_map] at e
    cases q : tgs[i]? with
    | none => rw [q] at e; cases e
    | some x => rw [q] at e; cases e
  · rw [List.getElem?_append_right (by simpa using hi), List.getElem?_map] at e
    rw [List.getElem?_append_right (by simpa using hi), List.getElem?_map]
    simp only [List.length_map] at e ⊢
    cases q : caps[i - tgs.length]? with
    | none => rw [q] at e; cases e
    | some cq =>
      rw [q] at e
      have e2 : (στ[cq.2]?).join = some t := Option.some.inj e
      have e3 : στ[cq.2]? = some (some t) := by
        cases q2 : στ[cq.2]? with
        | none => rw [q2] at e2; cases e2
        | some o => rw [q2] at e2; cases o with
          | none => cases e2
          | some v' => rw [show v' = t from Option.some.inj e2]
      obtain ⟨v, e4, r4⟩ := r.2 _ _ e3
      exact ⟨v, by show some ((σ[cq.2]?).join) = _; rw [e4]; rfl, r4⟩
def Sit.hput (S : Sit) (p : Addr) (vs : List V) : Sit := ⟨S.α, S.M, upd S.H p (.lst vs), S.hid⟩
section
variable {K : PySem.W.Frag} {S S0 : Sit} {p : Addr} {us : List V}
theorem Rep.hput (m : MemOk K S) (hp : p ∈ S.hid) {t : T} {v : V} (r : Rep K S t v) : Rep K (S.hput p us) t v := by
  obtain ⟨_, ws, ew⟩ := m.hd p hp
  induction r with
  | non => exact .non
  | bl b => exact .bl b
  | int b => exact .int b
  | str b => exact .str b
  | ty b => exact .ty b
  | @tup ts q vs h l _ ih =>
    refine .tup ?_ l ih
    rcases h with (h | ⟨o, h⟩) | h
    · exact .inl (.inl ((upd_ne (ne_of h ew (by intro z; cases z))).trans h))
    · exact .inl (.inr ⟨o, (upd_ne (ne_of h ew (by intro z; cases z))).trans h⟩)
    · exact .inr h
  | @lst ts q vs h l _ ih =>
    refine .lst ?_ l ih
    rcases h with ⟨h, f⟩ | h
    · have hne : q ≠ p := fun z => f.2 (by rw [z]; exact hp)
      refine .inl ⟨?_, f⟩
      rcases h with h | ⟨o, h⟩
      · exact .inl ((upd_ne hne).trans h)
      · exact .inr ⟨o, (upd_ne hne).trans h⟩
    · exact .inr h
  | ref h => exact .ref (S := S.hput p us) h
  | dct h l _ ih => exact .dct (S := S.hput p us) ((upd_ne (ne_of h ew (by intro z; cases z))).trans h) l ih
theorem Reps.hput (m : MemOk K S) (hp : p ∈ S.hid) {t : List T} {v : List V} (r : Reps K S t v) : Reps K (S.hput p us) t v := ⟨r.1, fun i a b e1 e2 => (r.2 i a b e1 e2).hput m hp⟩
theorem CellOk.hput (m : MemOk K S) (hp : p ∈ S.hid) {q : Addr} {c : Cell} (hq : q ≠ p) (r : CellOk K S q c) : CellOk K (S.hput p us) q c := by
  cases c with
  | lst ts => obtain ⟨vs, q, r⟩ := r; exact ⟨vs, (upd_ne hq).trans q, r.hput m hp⟩
  | dic ts => obtain ⟨vs, q, r⟩ := r; exact ⟨vs, (upd_ne hq).trans q, r.1, r.2.hput m hp⟩
  | ins C ts => obtain ⟨dx, vs, q, r⟩ := r; exact ⟨dx, vs, (upd_ne hq).trans q, r.1, r.2.hput m hp⟩
theorem Stp.hput (s : Stp K S0 S) (hp : p ∈ S.hid) (hn : S0.H p = none) (m0 : MemOk K S0) : Stp K S0 (S.hput p us) := by
  refine ⟨⟨s.le, s.al, s.fr, fun b o e f => (upd_ne (ne_of_none e hn)).trans (s.kp b o e f), fun q h => ⟨(s.hk q h).1, ?_⟩, s.hf⟩, ⟨fun a c e => ?_, s.mok.inj, fun q h => ?_⟩⟩
  · obtain ⟨_, vs, e⟩ := m0.hd q h
    exact (upd_ne (ne_of_none e hn)).trans (s.hk q h).2
  · exact (s.mok.cell a c e).hput s.mok hp ((s.mok.hd p hp).1 a (List.getElem?_eq_some_iff.mp e).1)
  · obtain ⟨h1, vs, e⟩ := s.mok.hd q h
    refine ⟨h1, ?_⟩
    by_cases z : q = p
    · exact ⟨us, by show upd S.H p _ q = _; rw [z]; exact upd_same⟩
    · exact ⟨vs, (upd_ne z).trans e⟩
end
section
variable {X : Cx} {XE : XK}
theorem comp_imp {tgs : List Str} {caps : List (Str × Nat)} {ga : Ev → Mem → Out (List T)} {bd : T → Ev → Mem → Out Ev} {cond : Ev → Mem → Out Bool} {f : Ev → Mem → Out T} {σ : L2.St} {H : Hp} {Q : VK} (hh : lL XE X.K (lComp ga bd cond f tgs caps) σ H Q) :
    tComp (lI XE X.K ga) (lG XE X.K bd) (lT XE X.K cond) (lE XE X.K f) (capσ tgs caps) σ H Q := by
  obtain ⟨S, στ, e, m, ev, fin⟩ := hh
  replace fin : FinL XE X.K S ((ga στ S.M).bind fun xs M1 => compL bd cond f xs (capT tgs caps στ) M1 []) Q := fin
  refine ⟨S, στ, (), e, m, ev, trivial, ?_⟩
  show Fin XE (ItOk X.K) X.K S (ga στ S.M) _
  cases o : ga στ S.M with
  | bad => rw [o] at fin; exact fin
  | exn C fs M' => rw [o] at fin; exact fin
  | ok items M1 =>
    rw [o] at fin
    replace fin : FinL XE X.K S (compL bd cond f items (capT tgs caps στ) M1 []) Q := fin
    intro S0 J e0 s0 it0 D hD
    have m0 := s0.mok
    have fin0 := fin.later s0
    have s1 := Stp.hide (K := X.K) m0 hD []
    refine ⟨fun i n σ' H' => ∃ S στ acc vs, S.H = H' ∧ EvR X.K S στ σ' ∧ n = items.length - i ∧ i ≤ items.length ∧ D ∈ S.hid ∧ S.H D = some (.lst vs) ∧ Reps X.K S acc vs ∧ Stp X.K S0 S ∧ FinL XE X.K S0 (compL bd cond f (items.drop i) στ S.M acc) Q,
      ⟨items.length - 0, S0.hide D [], capT tgs caps στ, [], [], rfl, (Mo.mo (K := X.K) m0 s1 (Mo.mo (K := X.K) m s0 ev)).cap tgs caps, rfl, Nat.zero_le _, .head _, upd_same, .nil, s1, by show FinL XE X.K S0 (compL bd cond f items (capT tgs caps στ) S0.M []) Q; rw [e0]; exact fin0⟩, ?_⟩
    rintro i n σ1 H1 ⟨S2, στ2, acc, vs, e2, ev2, en, hi2, hid2, hD2, racc, s2, fin2⟩
    subst e2
    have m2 := s2.mok
    obtain ⟨itg, its⟩ := it0 S2 s2
    by_cases hl : i < items.length
    · have eq : items.drop i = items[i] :: items.drop (i + 1) := List.drop_eq_getElem_cons hl
      rw [eq] at fin2
      obtain ⟨go, yl⟩ := itg i items[i] (by simp [hl])
      refine .inr ⟨go, fun σ' H' => ∃ S στ acc vs, S.H = H' ∧ EvR X.K S στ σ' ∧ D ∈ S.hid ∧ S.H D = some (.lst vs) ∧ Reps X.K S acc vs ∧ Stp X.K S0 S ∧ FinL XE X.K S0 (compL bd cond f (items.drop (i + 1)) στ S.M acc) Q, ?_, fun x H' hy => ?_⟩
      · rintro σ' H' ⟨S, στ, acc, vs, a1, a2, a3, a4, a5, a6, a7⟩
        exact ⟨items.length - (i + 1), by omega, S, στ, acc, vs, a1, a2, rfl, hl, a3, a4, a5, a6, a7⟩
      · obtain ⟨S3, e3, eM, s3, r3⟩ := yl x H' hy
        replace fin2 : FinL XE X.K S0 ((bd items[i] στ2 S2.M).bind fun σ1 M1 => (cond σ1 M1).bind fun b M2 => if b = true then (f σ1 M2).bind fun t M3 => if acc.length < sizeLine then compL bd cond f (items.drop (i + 1)) σ1 M3 (acc ++ [t]) else .bad else compL bd cond f (items.drop (i + 1)) σ1 M2 acc) Q := fin2
        refine ⟨S3, στ2, items[i], e3, s3.mok, Mo.mo m2 s3 ev2, r3, ?_⟩
        show Fin XE (EvR X.K) X.K S3 (bd items[i] στ2 S3.M) _
        rw [eM]
        cases o1 : bd items[i] στ2 S2.M with
        | bad => rw [o1] at fin2; exact fin2
        | exn C fs M' => rw [o1] at fin2; exact fun S' od a1 a2 a3 => fin2 S' od a1 ((s2.trans s3).trans a2) a3
        | ok σ4 M4 =>
          rw [o1] at fin2
          intro S4 σ4v e4 s4 ev4
          have t4 := s3.trans s4
          replace fin2 : FinL XE X.K S0 ((cond σ4 M4).bind fun b M2 => if b = true then (f σ4 M2).bind fun t M3 => if acc.length < sizeLine then compL bd cond f (items.drop (i + 1)) σ4 M3 (acc ++ [t]) else .bad else compL bd cond f (items.drop (i + 1)) σ4 M2 acc) Q := fin2
          refine ⟨S4, σ4, (), rfl, s4.mok, ev4, trivial, ?_⟩
          show Fin XE EqR X.K S4 (cond σ4 S4.M) _
          rw [e4]
          cases o2 : cond σ4 M4 with
          | bad => rw [o2] at fin2; exact fin2
          | exn C fs M' => rw [o2] at fin2; exact fun S' od a1 a2 a3 => fin2 S' od a1 ((s2.trans t4).trans a2) a3
          | ok b M5 =>
            rw [o2] at fin2
            intro S5 b5 e5 s5 eb
            have eb' : b = b5 := eb
            subst eb'
            have t5 := t4.trans s5
            replace fin2 : FinL XE X.K S0 (if b = true then (f σ4 M5).bind fun t M3 => if acc.length < sizeLine then compL bd cond f (items.drop (i + 1)) σ4 M3 (acc ++ [t]) else .bad else compL bd cond f (items.drop (i + 1)) σ4 M5 acc) Q := fin2
            cases b with
            | false =>
              rw [if_neg Bool.false_ne_true] at fin2
              refine (if_neg Bool.false_ne_true).mpr ⟨S5, σ4, acc, vs, rfl, Mo.mo s4.mok s5 ev4, (t5.hk D hid2).1, by rw [(t5.hk D hid2).2]; exact hD2, racc.grow m2 t5.toGrow, s2.trans t5, by rw [e5]; exact fin2⟩
            | true =>
              rw [if_pos rfl] at fin2
              refine (if_pos rfl).mpr ⟨S5, σ4, (), rfl, s5.mok, Mo.mo s4.mok s5 ev4, trivial, ?_⟩
              show Fin XE (Rep X.K) X.K S5 (f σ4 S5.M) _
              rw [e5]
              cases o3 : f σ4 M5 with
              | bad => rw [o3] at fin2; exact fin2
              | exn C fs M' => rw [o3] at fin2; exact fun S' od a1 a2 a3 => fin2 S' od a1 ((s2.trans t5).trans a2) a3
              | ok t M6 =>
                rw [o3] at fin2
                replace fin2 : FinL XE X.K S0 (if acc.length < sizeLine then compL bd cond f (items.drop (i + 1)) σ4 M6 (acc ++ [t]) else .bad) Q := fin2
                intro S6 v6 e6 s6 r6
                have t6 := t5.trans s6
                have hz : acc.length < sizeLine := by
                  by_cases hz : acc.length < sizeLine
                  · exact hz
                  · rw [if_neg hz] at fin2; exact fin2.elim
                rw [if_pos hz] at fin2
                have hid6 := (t6.hk D hid2).1
                have hD6 : S6.H D = some (.lst vs) := by rw [(t6.hk D hid2).2]; exact hD2
                refine ⟨vs, hD6, by rw [← racc.1]; exact hz, S6.hput D (vs ++ [v6]), σ4, acc ++ [t], vs ++ [v6], rfl, ?_, hid6, upd_same, ?_, (s2.trans t6).hput hid6 hD m0, by show FinL XE X.K S0 (compL bd cond f (items.drop (i + 1)) σ4 S6.M (acc ++ [t])) Q; rw [e6]; exact fin2⟩
                · have ev6 : EvR X.K S6 σ4 σ4v := Mo.mo s4.mok (s5.trans s6) ev4
                  exact ⟨ev6.1, fun i t e => let ⟨v, e', q⟩ := ev6.2 i t e; ⟨v, e', q.hput s6.mok hid6⟩⟩
                · exact ((racc.grow m2 t6.toGrow).app (.cons r6 .nil)).hput s6.mok hid6
    · rw [List.drop_eq_nil_of_le (by omega)] at fin2
      refine .inl ⟨its i (by omega), ?_⟩
      exact fin2 S2 D vs rfl s2 hD hid2 hD2 racc
theorem gl_comp {tg elt iter : Expr} {ifs : List Expr} {scope : Scope} {cl : List (Str × Addr)} {pos : Pos} {tgs : List Str} {caps : List (Str × Nat)} {ga : Ev → Mem → Out (List T)} {bd : T → Ev → Mem → Out Ev} {cond : Ev → Mem → Out Bool} {f : Ev → Mem → Out T}
    (hc : X.calm = true) (hi : GI X XE tg iter ga) (hclos : closureFor scope X.env = pure cl) (hcell : ∀ y ∈ scope.names, y.2 = .cell → y.1 ∉ caps.map (·.1)) (hkind : scope.kind = .function)
    (hnames : ∀ y ∈ scope.names, y.2 = .local → scope.names.lookup y.1 = some .local)
    (hcl : ∀ y c, cl.lookup y = some c → X.env.cells.lookup y = some c)
    (hhas : ∀ n y, ((relabel scope X.env).names.lookup y = some .cell ∨ (relabel scope X.env).names.lookup y = some .free) → ∃ c, (cellsFrom n scope.names cl).lookup y = some c)
    (hcap : ∀ c ∈ caps, X.N[c.2]? = some c.1 ∧ X.env.kindOf c.1 = some .cell ∧ ((relabel scope X.env).names.lookup c.1 = some .cell ∨ (relabel scope X.env).names.lookup c.1 = some .free))
    (hg : ∀ ex s0 H0, GG (X.block scope cl (tgs ++ caps.map (·.1)) ex s0 H0) XE tg bd) (hif : ∀ ex s0 H0, PTs (X.block scope cl (tgs ++ caps.map (·.1)) ex s0 H0) ifs (lT XE X.K cond)) (hel : ∀ ex s0 H0, GE (X.block scope cl (tgs ++ caps.map (·.1)) ex s0 H0) XE elt f)
    (hs : ∀ x, foldedSetIterable iter X.env x = pure x := by intro _; rfl) :
    GL X XE (.ListComp elt [⟨tg, iter, ifs, 0⟩] scope pos) (lComp ga bd cond f tgs caps) := PE.imp (pe_comp (tgs := tgs) (g := lG XE X.K bd) (tc := lT XE X.K cond) (te := lE XE X.K f) hc hi hclos hcell hkind hnames hcl hhas hcap hg hif hel hs) fun σ H Q hh => comp_imp hh
theorem gs_setCompF {i0 : Nat} {y0 : Str} {py spos : Pos} {tg elt iter : Expr} {ifs : List Expr} {scope : Scope} {cl : List (Str × Addr)} {pos : Pos} {tgs : List Str} {caps : List (Str × Nat)} {ga : Ev → Mem → Out (List T)} {bd : T → Ev → Mem → Out Ev} {cond : Ev → Mem → Out Bool} {f : Ev → Mem → Out T}
    (hc : X.calm = true) (hi : GI X XE tg iter ga) (hclos : closureFor scope X.env = pure cl) (hcell : ∀ y ∈ scope.names, y.2 = .cell → y.1 ∉ caps.map (·.1)) (hkind : scope.kind = .function)
    (hnames : ∀ y ∈ scope.names, y.2 = .local → scope.names.lookup y.1 = some .local)
    (hcl : ∀ y c, cl.lookup y = some c → X.env.cells.lookup y = some c)
    (hhas : ∀ n y, ((relabel scope X.env).names.lookup y = some .cell ∨ (relabel scope X.env).names.lookup y = some .free) → ∃ c, (cellsFrom n scope.names cl).lookup y = some c)
    (hcap : ∀ c ∈ caps, X.N[c.2]? = some c.1 ∧ X.env.kindOf c.1 = some .cell ∧ ((relabel scope X.env).names.lookup c.1 = some .cell ∨ (relabel scope X.env).names.lookup c.1 = some .free))
    (hg : ∀ ex s0 H0, GG (X.block scope cl (tgs ++ caps.map (·.1)) ex s0 H0) XE tg bd) (hif : ∀ ex s0 H0, PTs (X.block scope cl (tgs ++ caps.map (·.1)) ex s0 H0) ifs (lT XE X.K cond)) (hel : ∀ ex s0 H0, GE (X.block scope cl (tgs ++ caps.map (·.1)) ex s0 H0) XE elt f)
    (hN0 : X.N.Nodup) (hi0 : X.N[i0]? = some y0) (hx0 : Loc X.env.scope y0)
    (hsw : swapsWith (.ListComp elt [⟨tg, iter, ifs, 0⟩] scope pos) (some (.Name y0 py)) spos.line X.env = pure true := by rfl)
    (hf0 : X.fn y0 = true ∨ X.env.scope.names.lookup y0 = some .local := by first | exact .inl rfl | exact .inr rfl | assumption)
    (hs : ∀ x, foldedSetIterable iter X.env x = pure x := by intro _; rfl) :
    GS X XE (.Assign [.Name y0 py] (.ListComp elt [⟨tg, iter, ifs, 0⟩] scope pos) spos) (sSet i0 (eFz (lComp ga bd cond f tgs caps))) := PS.imp (ps_setComp (tgs := tgs) (g := lG XE X.K bd) (tc := lT XE X.K cond) (te := lE XE X.K f) hc hi hclos hcell hkind hnames hcl hhas hcap hg hif hel hN0 hi0 hx0 hsw hf0 hs) fun D σ H ⟨S, στ, _, e, m, ev, _, fin⟩ => comp_imp ⟨S, στ, e, m, ev, by
  show FinL XE X.K S (lComp ga bd cond f tgs caps στ S.M) _
  replace fin : Fin XE (FlR X.K) X.K S (((lComp ga bd cond f tgs caps στ S.M).bind fun xs M1 => .ok (T.lst xs) M1).bind fun t M1 => .ok (.nx (στ.set i0 (some t))) M1) (endsQ D) := fin
  cases q : lComp ga bd cond f tgs caps στ S.M with
  | bad => rw [q] at fin; exact fin
  | exn C fs M' => rw [q] at fin; exact fin
  | ok xs M1 =>
    rw [q] at fin
    intro S1 p vs e1 s1 hn hp hv r
    exact fin (S1.show S.hid) (.nx (σ.set i0 (some (.ref p)))) e1 s1.show (.nx ((Mo.mo (K := X.K) m s1.show ev).set (hid_lst s1 hn m hp hv r) i0))⟩
theorem gs_setCompT {i0 : Nat} {y0 : Str} {py spos : Pos} {tg elt iter : Expr} {ifs : List Expr} {scope : Scope} {cl : List (Str × Addr)} {pos : Pos} {tgs : List Str} {caps : List (Str × Nat)} {ga : Ev → Mem → Out (List T)} {bd : T → Ev → Mem → Out Ev} {cond : Ev → Mem → Out Bool} {f : Ev → Mem → Out T}
    (hc : X.calm = true) (hi : GI X XE tg iter ga) (hclos : closureFor scope X.env = pure cl) (hcell : ∀ y ∈ scope.names, y.2 = .cell → y.1 ∉ caps.map (·.1)) (hkind : scope.kind = .function)
    (hnames : ∀ y ∈ scope.names, y.2 = .local → scope.names.lookup y.1 = some .local)
    (hcl : ∀ y c, cl.lookup y = some c → X.env.cells.lookup y = some c)
    (hhas : ∀ n y, ((relabel scope X.env).names.lookup y = some .cell ∨ (relabel scope X.env).names.lookup y = some .free) → ∃ c, (cellsFrom n scope.names cl).lookup y = some c)
    (hcap : ∀ c ∈ caps, X.N[c.2]? = some c.1 ∧ X.env.kindOf c.1 = some .cell ∧ ((relabel scope X.env).names.lookup c.1 = some .cell ∨ (relabel scope X.env).names.lookup c.1 = some .free))
    (hg : ∀ ex s0 H0, GG (X.block scope cl (tgs ++ caps.map (·.1)) ex s0 H0) XE tg bd) (hif : ∀ ex s0 H0, PTs (X.block scope cl (tgs ++ caps.map (·.1)) ex s0 H0) ifs (lT XE X.K cond)) (hel : ∀ ex s0 H0, GE (X.block scope cl (tgs ++ caps.map (·.1)) ex s0 H0) XE elt f)
    (hN0 : X.N.Nodup) (hi0 : X.N[i0]? = some y0) (hx0 : Loc X.env.scope y0)
    (hsw : swapsWith (.ListComp elt [⟨tg, iter, ifs, 0⟩] scope pos) (some (.Name y0 py)) spos.line X.env = pure true := by rfl)
    (hf0 : X.fn y0 = true ∨ X.env.scope.names.lookup y0 = some .local := by first | exact .inl rfl | exact .inr rfl | assumption)
    (hs : ∀ x, foldedSetIterable iter X.env x = pure x := by intro _; rfl) :
    GS X XE (.Assign [.Name y0 py] (.ListComp elt [⟨tg, iter, ifs, 0⟩] scope pos) spos) (sSet i0 (eTk (lComp ga bd cond f tgs caps))) := PS.imp (ps_setComp (tgs := tgs) (g := lG XE X.K bd) (tc := lT XE X.K cond) (te := lE XE X.K f) hc hi hclos hcell hkind hnames hcl hhas hcap hg hif hel hN0 hi0 hx0 hsw hf0 hs) fun D σ H ⟨S, στ, _, e, m, ev, _, fin⟩ => comp_imp ⟨S, στ, e, m, ev, by
  show FinL XE X.K S (lComp ga bd cond f tgs caps στ S.M) _
  replace fin : Fin XE (FlR X.K) X.K S (((lComp ga bd cond f tgs caps στ S.M).bind fun xs M1 => .ok (T.ref M1.length) (M1 ++ [.lst xs])).bind fun t M1 => .ok (.nx (στ.set i0 (some t))) M1) (endsQ D) := fin
  cases q : lComp ga bd cond f tgs caps στ S.M with
  | bad => rw [q] at fin; exact fin
  | exn C fs M' => rw [q] at fin; exact fin
  | ok xs M1 =>
    rw [q] at fin
    intro S1 p vs e1 s1 hn hp hv r
    have st := s1.track m hn hp hv r
    have this : (S1.track p xs S.hid).α S1.M.length = p := if_pos rfl
    have hl : S1.M.length < (S1.track p xs S.hid).M.length := by show _ < (S1.M ++ [Cell.lst xs]).length; simp
    have r2 : Rep X.K (S1.track p xs S.hid) (.ref S1.M.length) (.ref ((S1.track p xs S.hid).α S1.M.length)) := .ref hl
    rw [this, e1] at r2
    exact fin (S1.track p xs S.hid) (.nx (σ.set i0 (some (.ref p)))) (by show S1.M ++ _ = _; rw [e1]) st (.nx ((Mo.mo (K := X.K) m st ev).set r2 i0))⟩
theorem gts_nil : PTs X [] (lT XE X.K tYes) := fun pins s σ H Q I h => pts_nil pins s σ H Q I (lT_ok h)
theorem gts_one {c : Expr} {tf : Ev → Mem → Out Bool} (h : GT X XE c tf) : PTs X [c] (lT XE X.K tf) := pts_one h
end
end FT
namespace FT
open PySem PySem.Spec PyProof.Rows L2
def LNL {A AV : Type} (XE : XK) (K : PySem.W.Frag) (RA : Sit → A → AV → Prop) (k : A → Ev → Mem → Out (List T)) (av : AV) (σ : L2.St) (H : Hp) (Q : VK) : Prop :=
  ∃ (S : Sit) (στ : Ev) (a : A), S.H = H ∧ MemOk K S ∧ EvR K S στ σ ∧ RA S a av ∧ FinL XE K S (k a στ S.M) Q
theorem LNL.bind {K : PySem.W.Frag} {XE : XK} {A AV B BV : Type} {RA : Sit → A → AV → Prop} {RB : Sit → B → BV → Prop} [Mo K RA] {f : A → Ev → Mem → Out B} {k : A → B → Ev → Mem → Out (List T)} {av : AV} {σ : L2.St} {H : Hp} {Q : VK}
    (h : LNL XE K RA (fun a σ M => (f a σ M).bind fun b M1 => k a b σ M1) av σ H Q) : LN XE RB K RA f av σ H (fun bv H1 => LNL XE K (PrR RA RB) (fun ab => k ab.1 ab.2) (av, bv) σ H1 Q) := by
  obtain ⟨S, στ, a, e, m, ev, ra, fin⟩ := h
  refine ⟨S, στ, a, e, m, ev, ra, ?_⟩
  replace fin : FinL XE K S ((f a στ S.M).bind fun b M1 => k a b στ M1) Q := fin
  cases q : f a στ S.M with
  | bad => rw [q] at fin; exact fin
  | exn C fs M' => rw [q] at fin; exact fin
  | ok b M1 =>
    rw [q] at fin
    intro S1 c e1 s1 r1
    refine ⟨S1, στ, (a, b), rfl, s1.mok, Mo.mo m s1 ev, ⟨Mo.mo m s1 ra, r1⟩, ?_⟩
    rw [e1]
    exact fin.later s1
def L0L {A AV : Type} (XE : XK) (K : PySem.W.Frag) (RA : Sit → A → AV → Prop) (k : A → Mem → Out (List T)) (av : AV) (H : Hp) (Q : VK) : Prop := ∃ (S : Sit) (a : A), S.H = H ∧ MemOk K S ∧ RA S a av ∧ FinL XE K S (k a S.M) Q
def lR2L (XE : XK) (K : PySem.W.Frag) (o : T → T → Mem → Out (List T)) : R2 := fun x y H Q => L0L XE K (PrR (Rep K) (Rep K)) (fun a M => o a.1 a.2 M) (x, y) H Q
def lRNL (XE : XK) (K : PySem.W.Frag) (o : List T → Mem → Out (List T)) : List V → Hp → VK → Prop := fun xs H Q => L0L XE K (Reps K) o xs H Q
def lOp (o : T → T → Mem → Out (List T)) (f g : Ev → Mem → Out T) : Ev → Mem → Out (List T) := fun σ M => (f σ M).bind fun x M1 => (g σ M1).bind fun y M2 => o x y M2
def lCall (F : List T → Mem → Out (List T)) (g : Ev → Mem → Out (List T)) : Ev → Mem → Out (List T) := fun σ M => (g σ M).bind fun ts M1 => F ts M1
theorem new_list {XE : XK} {K : PySem.W.Frag} {S : Sit} {xs : List T} {vs : List V} {Q : VK} (m : MemOk K S) (fin : FinL XE K S (.ok xs S.M) Q) (r : Reps K S xs vs) : ∀ p, S.H p = none → Q (.ref p) (upd S.H p (.lst vs)) := fun p hp =>
  fin (S.hide p vs) p vs rfl (Stp.hide m hp vs) hp (.head _) upd_same (r.grow m (Stp.hide m hp vs).toGrow)
section
variable {X : Cx} {XE : XK} {a b e : Expr} {es : List Expr} {f g : Ev → Mem → Out T} {pos p : Pos} {ga : Ev → Mem → Out (List T)} {x : Str}
theorem gl_callTy {id : String} {F : List T → Mem → Out (List T)} (hc : CallR X (.type id) (lRNL XE X.K F)) (hg : Gl X x) (hm : X.mg x = none) (hv : bootBuiltins x = some (.type id)) (ha : GA X XE (e :: es) ga) (hn : x ≠ "__name__" := by decide) (hdb : (x == ("__debug__" : Str)) = false := by decide)
    (he : noStar e = true := by rfl) (hpl : es.all noStar = true := by rfl) :
    GL X XE (.Call (.Name x p) (e :: es) [] pos) (lCall F ga) := PE.imp (pe_callTy hc hg hm hv ha hn hdb (star_cons he) (star_any hpl)) fun σ H Q ⟨S, στ, e, m, ev, fin⟩ =>
  LN.mono (LNL.bind (f := fun (_ : Unit) σ M => ga σ M) (k := fun _ ts σ M1 => F ts M1) (RA := UnR) (RB := Reps X.K) ⟨S, στ, (), e, m, ev, trivial, fin⟩) fun vs H1 ⟨S, στ, a, e, m, ev, ra, fin⟩ => ⟨S, a.2, e, m, ra.2, fin⟩
end
def int2 (k : Int → Int → Mem → Out T) (x y : T) (M : Mem) : Out T := match x, y with
  | .int i, .int j => k i j M
  | _, _ => .bad
def Mo64 (i j : Int) : Prop := (i.natAbs < 10 ^ 3000 ∧ j.natAbs < 10 ^ 3000) ∨ (-(2 ^ 64) < i ∧ i < 2 ^ 64) ∨ (-(2 ^ 64) < j ∧ j < 2 ^ 64)
instance (i j : Int) : Decidable (Mo64 i j) := inferInstanceAs (Decidable (_ ∨ _))
theorem Mo64.ok {i j : Int} (h : Mo64 i j) : CMulB i j := by
  rcases h with h | h
  · exact .inl ⟨3000, 3000, h.1, h.2, Nat.le_refl _, Nat.le_refl _⟩
  · exact .inr h
def addI : T → T → Mem → Out T := int2 fun i j M => .ok (.int (i + j)) M
def subI : T → T → Mem → Out T := int2 fun i j M => .ok (.int (i - j)) M
def mulI : T → T → Mem → Out T := int2 fun i j M => if Mo64 i j then .ok (.int (i * j)) M else .bad
def divI : T → T → Mem → Out T := int2 fun i j M => if j ≠ 0 ∧ j.natAbs < 10 ^ 2000 then .ok (.int (i.fdiv j)) M else .bad
def modI : T → T → Mem → Out T := int2 fun i j M => if j ≠ 0 then .ok (.int (i.fmod j)) M else .bad
def powI : T → T → Mem → Out T := int2 fun i j M => if 0 ≤ j ∧ j ≤ 1000000 ∧ i.natAbs < 2 ^ 64 then .ok (.int (i ^ j.toNat)) M else .bad
def ltI : T → T → Mem → Out T := int2 fun i j M => .ok (.bl (decide (i < j))) M
def leI : T → T → Mem → Out T := int2 fun i j M => .ok (.bl (decide (i ≤ j))) M
def gtI : T → T → Mem → Out T := int2 fun i j M => .ok (.bl (decide (j < i))) M
def geI : T → T → Mem → Out T := int2 fun i j M => .ok (.bl (decide (j ≤ i))) M
def negI : T → Mem → Out T := fun x M => match x with
  | .int i => .ok (.int (-i)) M
  | _ => .bad
section
variable {X : Cx} {XE : XK}
theorem rep_int {K : PySem.W.Frag} {S : Sit} {i : Int} {v : V} (r : Rep K S (.int i) v) : v = .int i := by cases r; rfl
theorem op_int2 {fn : Value → Value → Sem Value} {r : R2} {k : Int → Int → Mem → Out T} (ho : OpR X fn r)
    (h : ∀ i j S Q, MemOk X.K S → Fin XE (Rep X.K) X.K S (k i j S.M) Q → r (.int i) (.int j) S.H Q) : OpR X fn (lR2 XE X.K (int2 k)) := by
  intro pins s σ H x y v u Q I rx ry ⟨S, ⟨tx, ty⟩, e, m, ⟨r1, r2⟩, fin⟩
  replace fin : Fin XE (Rep X.K) X.K S (int2 k tx ty S.M) Q := fin
  unfold int2 at fin
  split at fin
  · have e1 := rep_int r1
    have e2 := rep_int r2
    dsimp only at e1 e2
    subst e1; subst e2; subst e
    exact ho pins s σ S.H _ _ v u Q I rx ry (h _ _ S Q m fin)
  · exact fin.elim
theorem op_subI : OpR X (binaryOp .Sub) (lR2 XE X.K subI) := op_int2 op_sub fun i j S Q m fin => ⟨i, j, rfl, rfl, fin S _ rfl (.refl m) (.int _)⟩
theorem op_divI : OpR X (binaryOp .FloorDiv) (lR2 XE X.K divI) := op_int2 op_fdivS fun i j S Q m fin => by
  by_cases h : j ≠ 0 ∧ j.natAbs < 10 ^ 2000
  · rw [if_pos h] at fin
    exact ⟨i, j, rfl, rfl, ⟨h.1, 2000, h.2, Nat.le_refl _⟩, fin S _ rfl (.refl m) (.int _)⟩
  · rw [if_neg h] at fin; exact fin.elim
theorem op_modI : OpR X (binaryOp .Mod) (lR2 XE X.K modI) := op_int2 op_modN fun i j S Q m fin => by
  by_cases h : j ≠ 0
  · rw [if_pos h] at fin
    exact ⟨i, j, rfl, rfl, h, fin S _ rfl (.refl m) (.int _)⟩
  · rw [if_neg h] at fin; exact fin.elim
theorem op_powI : OpR X (binaryOp .Pow) (lR2 XE X.K powI) := op_int2 op_pow fun i j S Q m fin => by
  by_cases h : 0 ≤ j ∧ j ≤ 1000000 ∧ i.natAbs < 2 ^ 64
  · rw [if_pos h] at fin
    exact ⟨i, j, rfl, rfl, h, fin S _ rfl (.refl m) (.int _)⟩
  · rw [if_neg h] at fin; exact fin.elim
theorem op_ltI : OpR X (compareOp .Lt) (lR2 XE X.K ltI) := op_int2 op_lt fun i j S Q m fin => ⟨i, j, rfl, rfl, fin S _ rfl (.refl m) (.bl _)⟩
theorem op_gtI : OpR X (compareOp .Gt) (lR2 XE X.K gtI) := op_int2 op_gt fun i j S Q m fin => ⟨i, j, rfl, rfl, fin S _ rfl (.refl m) (.bl _)⟩
theorem un_negI : L2.UnR X (unaryOp .USub) (lR1 XE X.K negI) := by
  intro pins s σ H x v Q I rx ⟨S, t, e, m, r, fin⟩
  replace fin : Fin XE (Rep X.K) X.K S (negI t S.M) Q := fin
  unfold negI at fin
  split at fin
  · cases r
    subst e
    exact un_neg pins s σ S.H _ v Q I rx ⟨_, rfl, fin S _ rfl (.refl m) (.int _)⟩
  · exact fin.elim
def isB : T → T → Mem → Out T := fun x y M => match x, y with
  | .bl a, .bl b => .ok (.bl (a == b)) M
  | _, _ => .bad
def isntB : T → T → Mem → Out T := fun x y M => match x, y with
  | .bl a, .bl b => .ok (.bl (a != b)) M
  | _, _ => .bad
def nonT : T → Bool
  | .non => true
  | _ => false
def isN : T → T → Mem → Out T := fun x y M => match y with
  | .non => .ok (.bl (nonT x)) M
  | _ => .bad
def isntN : T → T → Mem → Out T := fun x y M => match y with
  | .non => .ok (.bl (!nonT x)) M
  | _ => .bad
theorem nonT_rep {K : PySem.W.Frag} {S : Sit} {t : T} {v : V} (r : Rep K S t v) : decide (v = .non) = nonT t := by
  cases r <;> first | rfl | exact decide_eq_false (by intro z; cases z)
theorem op_isNT : OpR X (compareOp .Is) (lR2 XE X.K isN) := by
  intro pins s σ H x y v u Q I rx ry ⟨S, ⟨tx, ty⟩, e, m, ⟨r1, r2⟩, fin⟩
  replace fin : Fin XE (Rep X.K) X.K S (isN tx ty S.M) Q := fin
  unfold isN at fin
  split at fin
  · cases r2; subst e
    exact op_isN pins s σ S.H _ _ v u Q I rx ry ⟨rfl, by rw [nonT_rep r1]; exact fin S _ rfl (.refl m) (.bl _)⟩
  · exact fin.elim
theorem op_isntNT : OpR X (compareOp .IsNot) (lR2 XE X.K isntN) := by
  intro pins s σ H x y v u Q I rx ry ⟨S, ⟨tx, ty⟩, e, m, ⟨r1, r2⟩, fin⟩
  replace fin : Fin XE (Rep X.K) X.K S (isntN tx ty S.M) Q := fin
  unfold isntN at fin
  split at fin
  · cases r2; subst e
    exact op_notN pins s σ S.H _ _ v u Q I rx ry ⟨rfl, by rw [nonT_rep r1]; exact fin S _ rfl (.refl m) (.bl _)⟩
  · exact fin.elim
def getT (M : Mem) : T → T → Option T
  | .tup xs, .int i => atI xs i
  | .lst xs, .int i => atI xs i
  | .ref a, .int i => match M[a]? with
    | some (.lst xs) => atI xs i
    | _ => none
  | _, _ => none
def optT (o : Option T) (M : Mem) : Out T := match o with
  | some t => .ok t M
  | none => .bad
def ixT : T → T → Mem → Out T := fun x y M => optT (getT M x y) M
theorem Reps.atI {K : PySem.W.Frag} {S : Sit} {ts : List T} {vs : List V} (r : Reps K S ts vs) {i : Int} {t : T} (e : L2.atI ts i = some t) : ∃ v, L2.atI vs i = some v ∧ Rep K S t v := by
  unfold L2.atI at e ⊢
  rw [← r.1]
  cases q : ixN ts.length i with
  | none => rw [q] at e; cases e
  | some j =>
    rw [q] at e
    obtain ⟨v, e2, r2⟩ := r.get (show ts[j]? = some t from e)
    exact ⟨v, e2, r2⟩
theorem get_rep {K : PySem.W.Frag} {S : Sit} {tx ty t : T} {x y : V} (m : MemOk K S) (r1 : Rep K S tx x) (r2 : Rep K S ty y) (e : getT S.M tx ty = some t) :
    ∃ p vs i v, x = .ref p ∧ y = .int i ∧ (SqL K S.H p vs ∨ SqT K S.H p vs) ∧ L2.atI vs i = some v ∧ Rep K S t v := by
  unfold getT at e
  split at e
  · cases r2
    cases r1 with
    | @tup _ p vs h l r =>
      obtain ⟨v, e2, r3⟩ := Reps.atI ⟨l, r⟩ e
      exact ⟨p, vs, _, v, rfl, rfl, .inr h, e2, r3⟩
  · cases r2
    cases r1 with
    | @lst _ p vs h l r =>
      obtain ⟨v, e2, r3⟩ := Reps.atI ⟨l, r⟩ e
      exact ⟨p, vs, _, v, rfl, rfl, .inl (lst_sq h), e2, r3⟩
  · split at e
    · rename_i q
      cases r2
      cases r1 with
      | ref h =>
        obtain ⟨vs, q2, r⟩ := m.cell _ _ q
        obtain ⟨v, e2, r3⟩ := Reps.atI r e
        exact ⟨_, vs, _, v, rfl, rfl, .inl (.inl (.inl q2)), e2, r3⟩
    · cases e
  · cases e
theorem optT_ok {K : PySem.W.Frag} {S : Sit} {o : Option T} {Q : VK} (fin : Fin XE (Rep K) K S (optT o S.M) Q) : ∃ t, o = some t ∧ Fin XE (Rep K) K S (.ok t S.M) Q := by
  unfold optT at fin
  split at fin
  · exact ⟨_, rfl, fin⟩
  · exact fin.elim
theorem ix_T : IxR X (lR2 XE X.K ixT) := by
  intro va sl pins s σ H x y v u Q I rx ry ⟨S, ⟨tx, ty⟩, e, m, ⟨r1, r2⟩, fin⟩ hs
  obtain ⟨t, et, fin⟩ := optT_ok (show Fin XE (Rep X.K) X.K S (optT (getT S.M tx ty) S.M) Q from fin)
  obtain ⟨p, vs, i, w, e1, e2, hq, ea, r3⟩ := get_rep m r1 r2 et
  dsimp only at e1 e2
  subst e1; subst e2; subst e
  refine ix_seq va sl pins s σ S.H _ _ v u Q I rx ry ?_ hs
  rcases hq with hq | hq
  · exact .inl ⟨p, vs, i, w, rfl, rfl, hq, ea, fin S w rfl (.refl m) r3⟩
  · exact .inr (.inl ⟨p, vs, i, w, rfl, rfl, hq, ea, fin S w rfl (.refl m) r3⟩)
def call1 (k : T → Mem → Out T) (ts : List T) (M : Mem) : Out T := match ts with
  | [t] => k t M
  | _ => .bad
def call2 (k : T → T → Mem → Out T) (ts : List T) (M : Mem) : Out T := match ts with
  | [t, u] => k t u M
  | _ => .bad
theorem call1_mk {F : Value} {k : T → Mem → Out T} (h : ∀ (pins : List (Addr × Obj)) (s : Shared) (σ : L2.St) (S : Sit) (t : T) (x : V) (v : Value) (Q : VK), Inv X pins σ S.H s → RelV x v → MemOk X.K S → Rep X.K S t x → Fin XE (Rep X.K) X.K S (k t S.M) Q → wpAny (model X.prog X.w) X.A (call F [v]) (EP X pins σ Q) X.xe s) : CallR X F (lRN XE X.K (call1 k)) := by
  intro pins s σ H xs us Q I r ⟨S, ts, e, m, rs, fin⟩
  subst e
  replace fin : Fin XE (Rep X.K) X.K S (call1 k ts S.M) Q := fin
  unfold call1 at fin
  split at fin
  · obtain ⟨v, vs, rfl, r1, r2⟩ := rs.consT
    rw [r2.nilT] at r
    obtain ⟨u, rfl, rx⟩ := vals1 r
    exact h pins s σ S _ v u Q I rx m r1 fin
  · exact fin.elim
theorem call2_mk {F : Value} {k : T → T → Mem → Out T} (h : ∀ (pins : List (Addr × Obj)) (s : Shared) (σ : L2.St) (S : Sit) (t1 t2 : T) (x1 x2 : V) (v1 v2 : Value) (Q : VK), Inv X pins σ S.H s → RelV x1 v1 → RelV x2 v2 → MemOk X.K S → Rep X.K S t1 x1 → Rep X.K S t2 x2 → Fin XE (Rep X.K) X.K S (k t1 t2 S.M) Q → wpAny (model X.prog X.w) X.A (call F [v1, v2]) (EP X pins σ Q) X.xe s) : CallR X F (lRN XE X.K (call2 k)) := by
  intro pins s σ H xs us Q I r ⟨S, ts, e, m, rs, fin⟩
  subst e
  replace fin : Fin XE (Rep X.K) X.K S (call2 k ts S.M) Q := fin
  unfold call2 at fin
  split at fin
  · obtain ⟨v, vs, rfl, r1, r2⟩ := rs.consT
    obtain ⟨v2, vs2, rfl, r3, r4⟩ := r2.consT
    rw [r4.nilT] at r
    obtain ⟨u, w, rfl, rx, ry⟩ := vals2 r
    exact h pins s σ S _ _ v v2 u w Q I rx ry m r1 r3 fin
  · exact fin.elim
def lenK : T → Mem → Out T := fun t M => match t with
  | .str z => if z.length ≤ sizeLine then .ok (.int z.length) M else .bad
  | t => match seqOf t M with
    | some xs => .ok (.int xs.length) M
    | none => .bad
theorem call_lenK : CallR X (.builtin "len") (lRN XE X.K (call1 lenK)) := call1_mk fun pins s σ S t x v Q I rx m r fin => by
  unfold lenK at fin
  split at fin
  · cases r
    split at fin
    · rename_i hz
      exact call_len_str pins s σ S.H _ _ Q I (.cons rx .nil) ⟨_, rfl, hz, fin S _ rfl (.refl m) (.int _)⟩
    · exact fin.elim
  · split at fin
    · rename_i xs q
      obtain ⟨p, vs, rfl, hq, rs⟩ := seqOf_rep m r q
      exact call_len_seq pins s σ S.H _ _ Q I (.cons rx .nil) ⟨p, vs, rfl, hq, by rw [← rs.1]; exact fin S _ rfl (.refl m) (.int _)⟩
    · exact fin.elim
def absK : T → Mem → Out T := fun t M => match t with
  | .int i => .ok (.int (if i < 0 then -i else i)) M
  | _ => .bad
theorem call_absK : CallR X (.builtin "abs") (lRN XE X.K (call1 absK)) := call1_mk fun pins s σ S t x v Q I rx m r fin => by
  unfold absK at fin
  split at fin
  · cases r
    exact call_abs pins s σ S.H _ _ Q I (.cons rx .nil) ⟨_, rfl, fin S _ rfl (.refl m) (.int _)⟩
  · exact fin.elim
def maxK : T → T → Mem → Out T := int2 fun i j M => .ok (.int (if j > i then j else i)) M
def minK : T → T → Mem → Out T := int2 fun i j M => .ok (.int (if j < i then j else i)) M
theorem call_maxK (hc : X.calm = true) : CallR X (.builtin "max") (lRN XE X.K (call2 maxK)) := call2_mk fun pins s σ S t1 t2 x1 x2 v1 v2 Q I rx ry m r1 r2 fin => by
  unfold maxK int2 at fin
  split at fin
  · cases r1; cases r2
    exact call_max2 hc pins s σ S.H _ _ Q I (.cons rx (.cons ry .nil)) ⟨_, _, rfl, fin S _ rfl (.refl m) (.int _)⟩
  · exact fin.elim
theorem call_minK (hc : X.calm = true) : CallR X (.builtin "min") (lRN XE X.K (call2 minK)) := call2_mk fun pins s σ S t1 t2 x1 x2 v1 v2 Q I rx ry m r1 r2 fin => by
  unfold minK int2 at fin
  split at fin
  · cases r1; cases r2
    exact call_min2 hc pins s σ S.H _ _ Q I (.cons rx (.cons ry .nil)) ⟨_, _, rfl, fin S _ rfl (.refl m) (.int _)⟩
  · exact fin.elim
def blOf : List T → Option (List Bool)
  | [] => some []
  | .bl b :: r => (blOf r).map (b :: ·)
  | _ => none
def allK : T → Mem → Out T := fun t M => match lstOf t M with
  | some xs => match blOf xs with
    | some bs => .ok (.bl (bs.all id)) M
    | none => .bad
  | none => .bad
def anyK : T → Mem → Out T := fun t M => match lstOf t M with
  | some xs => match blOf xs with
    | some bs => .ok (.bl (bs.any id)) M
    | none => .bad
  | none => .bad
def tupleK : T → Mem → Out T := fun t M => match seqOf t M with
  | some xs => .ok (.tup xs) M
  | none => .bad
theorem call_tupleK : CallR X (.type "tuple") (lRN XE X.K (call1 tupleK)) := call1_mk fun pins s σ S t x v Q I rx m r fin => by
  unfold tupleK at fin
  split at fin
  · rename_i xs q
    obtain ⟨p, vs, rfl, hq, rs⟩ := seqOf_rep m r q
    refine call_tuple_of pins s σ S.H _ _ Q I (.cons rx .nil) ⟨p, vs, rfl, ?_⟩
    rcases hq with hq | hq
    · refine .inl ⟨hq, fun l hl => ?_⟩
      have s2 := Stp.new m hl (.tup vs)
      exact fin ⟨S.α, S.M, upd S.H l (.tup vs), S.hid⟩ (.ref l) rfl s2 (.tup (.inl (.inl upd_same)) rs.1 (rs.grow m s2.toGrow).2)
    · exact .inr ⟨hq, fin S _ rfl (.refl m) (.tup hq rs.1 rs.2)⟩
  · exact fin.elim
def listK : List T → Mem → Out (List T) := fun ts M => match ts with
  | [t] => match seqOf t M with
    | some xs => .ok xs M
    | none => .bad
  | _ => .bad
theorem call_listK : CallR X (.type "list") (lRNL XE X.K listK) := by
  intro pins s σ H xs us Q I r ⟨S, ts, e, m, rs, fin⟩
  subst e
  replace fin : FinL XE X.K S (listK ts S.M) Q := fin
  unfold listK at fin
  split at fin
  · split at fin
    · rename_i t ys q
      obtain ⟨v, vs, rfl, r1, r2⟩ := rs.consT
      rw [r2.nilT] at r
      obtain ⟨p, ws, rfl, hq, rs2⟩ := seqOf_rep m r1 q
      exact call_list_of pins s σ S.H _ us Q I r ⟨p, ws, rfl, hq, new_list m fin rs2⟩
    · exact fin.elim
  · exact fin.elim
def catL : T → T → Mem → Out (List T) := fun x y M => match lstOf x M, lstOf y M with
  | some xs, some ys => if xs.length + ys.length ≤ sizeLine then .ok (xs ++ ys) M else .bad
  | _, _ => .bad
def appT (x : T) (ts : List T) (M : Mem) : Out T := match x, ts with
  | .ref a, [t] => match M[a]? with
    | some (.lst xs) => if xs.length < sizeLine then .ok .non (M.set a (.lst (xs ++ [t]))) else .bad
    | _ => .bad
  | _, _ => .bad
def setT (o i t : T) (M : Mem) : Out Unit := match o, i with
  | .ref a, .int k => match M[a]? with
    | some (.lst xs) => match ixN xs.length k with
      | some j => .ok () (M.set a (.lst (xs.set j t)))
      | none => .bad
    | _ => .bad
  | _, _ => .bad
theorem put_lst {K : PySem.W.Frag} {S : Sit} (m : MemOk K S) {a : Nat} {c : Cell} (e : S.M[a]? = some c) {ts : List T} {vs : List V} (r : Reps K S ts vs) : Stp K S (S.put a (.lst vs) (.lst ts)) := by
  have ha : a < S.M.length := (List.getElem?_eq_some_iff.mp e).1
  exact Stp.put m ha _ _ ⟨vs, upd_same, r.grow m (Grow.put m ha _ _)⟩
theorem set_T : PSet X (lSet XE X.K setT) := by
  intro pins s σ H o i v ov iv u Q I ro ri rv ⟨S, ⟨⟨to, ti⟩, tv⟩, e, m, ⟨⟨r1, r2⟩, r3⟩, fin⟩
  subst e
  replace fin : Fin XE UnR X.K S (setT to ti tv S.M) (fun _ H' => Q H') := fin
  unfold setT at fin
  split at fin
  · split at fin
    · rename_i a k _ xs q
      split at fin
      · rename_i j qj
        cases r1
        cases r2
        obtain ⟨vs, q2, rs⟩ := m.cell _ _ q
        refine set_list pins s σ S.H _ _ v ov iv u Q I ro ri rv ⟨S.α a, vs, k, j, rfl, rfl, q2, by rw [← rs.1]; exact qj, ?_⟩
        exact fin (S.put a (.lst (vs.set j v)) (.lst (xs.set j tv))) () rfl (put_lst m q (rs.set r3 j)) trivial
      · exact fin.elim
    · exact fin.elim
  · exact fin.elim
theorem gg_sub {o i : Expr} {f g : Ev → Mem → Out T} {pos : Pos} {st : T → T → T → Mem → Out Unit} (ho : GE X XE o f) (hi : GE X XE i g) (hs : PSet X (lSet XE X.K st))
    (ha : ∀ v, assign (.Subscript o i pos) X.env v = (do
      let ov ← holding [v] (eval o X.env)
      let iv ← holding [v, ov] (eval i X.env)
      standAt pos
      holding [v, ov, iv] (setItem ov iv v)
      release [v, ov, iv] []) := by intro _; rfl) : GG X XE (.Subscript o i pos) (bSub st f g) := PG.imp (pg_sub ho hi hs ha) fun v σ H Q hh => by
  have h1 : LN XE (EvR X.K) X.K (Rep X.K) (fun t σ M => (f σ M).bind fun o M1 => (g σ M1).bind fun i M2 => (st o i t M2).bind fun _ M3 => .ok σ M3) v σ H Q := hh
  refine LN.mono (LN.env (f := f) (LN.bind (f := fun _ σ M => f σ M) (k := fun t o σ M1 => (g σ M1).bind fun i M2 => (st o i t M2).bind fun _ M3 => .ok σ M3) (RB := Rep X.K) h1)) fun ov H1 h2 => ?_
  refine LN.mono (LN.env (f := g) (LN.bind (f := fun _ σ M => g σ M) (k := fun (to : T × T) i σ M2 => (st to.2 i to.1 M2).bind fun _ M3 => .ok σ M3) (RB := Rep X.K) h2)) fun iv H2 h3 => ?_
  obtain ⟨S, στ, a, e, m, ev, ra, fin⟩ := h3
  refine ⟨S, ((a.1.2, a.2), a.1.1), e, m, ⟨⟨ra.1.2, ra.2⟩, ra.1.1⟩, ?_⟩
  show Fin XE UnR X.K S (st a.1.2 a.2 a.1.1 S.M) _
  replace fin : Fin XE (EvR X.K) X.K S ((st a.1.2 a.2 a.1.1 S.M).bind fun _ M3 => .ok στ M3) Q := fin
  cases o : st a.1.2 a.2 a.1.1 S.M with
  | bad => rw [o] at fin; exact fin
  | exn C fs M' => rw [o] at fin; exact fin
  | ok b M1 =>
    rw [o] at fin
    intro S1 c e1 s1 _
    exact fin S1 σ e1 s1 (Mo.mo m s1 ev)
def lstChk (x : T) (M : Mem) : Out T := match lstOf x M with
  | some _ => .ok x M
  | none => .bad
def eMeth (F : T → List T → Mem → Out T) (f : Ev → Mem → Out T) (g : Ev → Mem → Out (List T)) : Ev → Mem → Out T := fun σ M => (f σ M).bind fun x M1 => (g σ M1).bind fun ts M2 => F x ts M2
theorem ge_app {o e : Expr} {f : Ev → Mem → Out T} {ga : Ev → Mem → Out (List T)} {apos cpos : Pos} (h : PE X (.Call (.Attribute o "append" apos) [e] [] cpos) (tBM X.K "list" rAppend (lE XE X.K f) (lA XE X.K ga))) : GE X XE (.Call (.Attribute o "append" apos) [e] [] cpos) (eMeth appT (eUn lstChk f) ga) := PE.imp h fun σ H Q hh => by
  obtain ⟨S, στ, _, e0, m, ev, _, fin⟩ := hh
  replace fin : Fin XE (Rep X.K) X.K S (((f στ S.M).bind fun x M1 => lstChk x M1).bind fun x M1 => (ga στ M1).bind fun ts M2 => appT x ts M2) Q := fin
  refine ⟨S, στ, (), e0, m, ev, trivial, ?_⟩
  show Fin XE (Rep X.K) X.K S (f στ S.M) _
  cases o1 : f στ S.M with
  | bad => rw [o1] at fin; exact fin
  | exn C fs M' => rw [o1] at fin; exact fin
  | ok x M1 =>
    rw [o1] at fin
    intro S1 v e1 s1 r1
    replace fin : Fin XE (Rep X.K) X.K S ((lstChk x M1).bind fun x M1 => (ga στ M1).bind fun ts M2 => appT x ts M2) Q := fin
    unfold lstChk at fin
    cases q : lstOf x M1 with
    | none => rw [q] at fin; exact fin.elim
    | some xs =>
      rw [q] at fin
      replace fin : Fin XE (Rep X.K) X.K S ((ga στ M1).bind fun ts M2 => appT x ts M2) Q := fin
      obtain ⟨p, vs, rfl, hq, _⟩ := lstOf_rep s1.mok r1 (by rw [e1]; exact q)
      refine ⟨.inl ⟨rfl, vs, hq⟩, S1, στ, (), rfl, s1.mok, Mo.mo m s1 ev, trivial, ?_⟩
      show Fin XE (Reps X.K) X.K S1 (ga στ S1.M) _
      rw [e1]
      cases o2 : ga στ M1 with
      | bad => rw [o2] at fin; exact fin
      | exn C fs M' => rw [o2] at fin; exact Fin.later s1 fin
      | ok ts M2 =>
        rw [o2] at fin
        intro S2 ws e2 s2 r2
        replace fin : Fin XE (Rep X.K) X.K S (appT x ts M2) Q := fin
        have fin2 := Fin.later (s1.trans s2) fin
        unfold appT at fin2
        split at fin2
        · split at fin2
          · rename_i a t _ ys qy
            split at fin2
            · rename_i hz
              obtain ⟨w, ws', rfl, r3, r4⟩ := r2.consT
              rw [r4.nilT]
              have r1' := r1.grow s1.mok s2.toGrow
              cases r1' with
              | ref ha2 =>
              obtain ⟨us, q3, rs⟩ := s2.mok.cell a _ (by rw [e2]; exact qy)
              refine ⟨S2.α a, us, w, rfl, rfl, q3, by rw [← rs.1]; exact hz, ?_⟩
              exact fin2 (S2.put a (.lst (us ++ [w])) (.lst (ys ++ [t]))) .non (by show S2.M.set a _ = _; rw [e2]) (put_lst s2.mok (by rw [e2]; exact qy) (rs.app (.cons r3 .nil))) .non
            · exact fin2.elim
          · exact fin2.elim
        · exact fin2.elim
end
end FT
namespace FT
open PySem PySem.Spec PyProof.Rows L2
def cutT (xs : List T) (lo hi : Option Int) : List T := (xs.drop (HT.sIx xs.length 0 lo)).take (HT.sIx xs.length xs.length hi - HT.sIx xs.length 0 lo)
theorem Reps.cutV {K : PySem.W.Frag} {S : Sit} {ts : List T} {vs : List V} (r : Reps K S ts vs) (lo hi : Option Int) : Reps K S (cutT ts lo hi) (L2.cutV vs lo hi) := by
  unfold cutT L2.cutV
  rw [← r.1]
  exact r.sub _ _
theorem cutT_whole {xs : List T} {lo hi : Option Int} (h : HT.sIx xs.length 0 lo = 0 ∧ HT.sIx xs.length xs.length hi = xs.length) : cutT xs lo hi = xs := by
  unfold cutT
  rw [h.1, h.2]
  simp
theorem new_tup {XE : XK} {K : PySem.W.Frag} {S : Sit} {xs : List T} {vs : List V} {Q : VK} (m : MemOk K S) (fin : Fin XE (Rep K) K S (.ok (.tup xs) S.M) Q) (r : Reps K S xs vs) : ∀ p, S.H p = none → Q (.ref p) (upd S.H p (.tup vs)) := fun p hp => by
  have s2 := Stp.new m hp (.tup vs)
  exact fin ⟨S.α, S.M, upd S.H p (.tup vs), S.hid⟩ (.ref p) rfl s2 (.tup (.inl (.inl upd_same)) r.1 (r.grow m s2.toGrow).2)
theorem new_frz {XE : XK} {K : PySem.W.Frag} {S : Sit} {xs : List T} {vs : List V} {Q : VK} (m : MemOk K S) (fin : Fin XE (Rep K) K S (.ok (.lst xs) S.M) Q) (r : Reps K S xs vs) : ∀ p, S.H p = none → Q (.ref p) (upd S.H p (.lst vs)) := fun p hp => by
  have s2 := Stp.new m hp (.lst vs)
  exact fin ⟨S.α, S.M, upd S.H p (.lst vs), S.hid⟩ (.ref p) rfl s2 (.lst (.inl ⟨.inl upd_same, m.off_none hp⟩) r.1 (r.grow m s2.toGrow).2)
def addA : T → T → Mem → Out T := fun x y M => match x, y with
  | .int i, .int j => .ok (.int (i + j)) M
  | .str a, .str b => if a.length + b.length ≤ sizeLine then .ok (.str (a ++ b)) M else .bad
  | .tup xs, .tup ys => if xs.length + ys.length ≤ sizeLine then .ok (.tup (xs ++ ys)) M else .bad
  | x, y => match lstOf x M, lstOf y M with
    | some xs, some ys => if xs.length + ys.length ≤ sizeLine then .ok (.lst (xs ++ ys)) M else .bad
    | _, _ => .bad
def mulA : T → T → Mem → Out T := fun x y M => match x, y with
  | .int i, .int j => if Mo64 i j then .ok (.int (i * j)) M else .bad
  | .tup xs, .int k => if xs ≠ [] ∧ 2 ≤ k ∧ k < 2 ^ 63 ∧ xs.length * k.toNat ≤ sizeLine then .ok (.tup (List.replicate k.toNat xs).flatten) M else .bad
  | _, _ => .bad
section
variable {X : Cx} {XE : XK}
theorem op_addA : OpR X (binaryOp .Add) (lR2 XE X.K addA) := by
  intro pins s σ H x y v u Q I rx ry ⟨S, ⟨tx, ty⟩, e, m, ⟨r1, r2⟩, fin⟩
  subst e
  replace fin : Fin XE (Rep X.K) X.K S (addA tx ty S.M) Q := fin
  unfold addA at fin
  split at fin
  · cases r1; cases r2
    exact op_add pins s σ S.H _ _ v u Q I rx ry ⟨_, _, rfl, rfl, fin S _ rfl (.refl m) (.int _)⟩
  · cases r1; cases r2
    split at fin
    · rename_i hz
      exact op_add_str pins s σ S.H _ _ v u Q I rx ry ⟨_, _, rfl, rfl, hz, fin S _ rfl (.refl m) (.str _)⟩
    · exact fin.elim
  · split at fin
    · rename_i hz
      cases r1 with
      | @tup _ p vs h l r =>
      cases r2 with
      | @tup _ p2 vs2 h2 l2 rr2 =>
      have r1 : Reps X.K S _ vs := ⟨l, r⟩
      have r2 : Reps X.K S _ vs2 := ⟨l2, rr2⟩
      refine op_catA pins s σ S.H _ _ v u Q I rx ry ⟨p, p2, vs, vs2, rfl, rfl, h, h2, by rw [← l, ← l2]; exact hz, fun e => ?_, fun e1 e2 => ?_, fun e1 e2 => new_tup m fin (r1.app r2)⟩
      · subst e
        rw [r1.nil_inv, List.nil_append] at fin
        exact fin S _ rfl (.refl m) (.tup h2 l2 rr2)
      · subst e2
        rw [r2.nil_inv, List.append_nil] at fin
        exact fin S _ rfl (.refl m) (.tup h l r)
    · exact fin.elim
  · split at fin
    · rename_i xs ys q1 q2
      split at fin
      · rename_i hz
        obtain ⟨p, vs, e1, h1, s1⟩ := lstOf_rep m r1 q1
        obtain ⟨p2, vs2, e2, h2, s2⟩ := lstOf_rep m r2 q2
        dsimp only at e1 e2
        subst e1; subst e2
        exact op_catS pins s σ S.H _ _ v u Q I rx ry ⟨p, p2, vs, vs2, rfl, rfl, h1, h2, by rw [← s1.1, ← s2.1]; exact hz, new_frz m fin (s1.app s2)⟩
      · exact fin.elim
    · exact fin.elim
theorem Reps.rep {K : PySem.W.Frag} {S : Sit} {ts : List T} {vs : List V} (r : Reps K S ts vs) (n : Nat) : Reps K S (List.replicate n ts).flatten (List.replicate n vs).flatten := by
  induction n with
  | zero => exact .nil
  | succ n ih => rw [List.replicate_succ, List.replicate_succ, List.flatten_cons, List.flatten_cons]; exact r.app ih
theorem op_mulA : OpR X (binaryOp .Mult) (lR2 XE X.K mulA) := by
  intro pins s σ H x y v u Q I rx ry ⟨S, ⟨tx, ty⟩, e, m, ⟨r1, r2⟩, fin⟩
  subst e
  replace fin : Fin XE (Rep X.K) X.K S (mulA tx ty S.M) Q := fin
  unfold mulA at fin
  split at fin
  · cases r1; cases r2
    split at fin
    · rename_i h
      exact op_mulB pins s σ S.H _ _ v u Q I rx ry ⟨_, _, rfl, rfl, h.ok, fin S _ rfl (.refl m) (.int _)⟩
    · exact fin.elim
  · split at fin
    · rename_i h
      cases r2
      cases r1 with
      | @tup _ p vs hq l r =>
      have r1 : Reps X.K S _ vs := ⟨l, r⟩
      exact op_repT pins s σ S.H _ _ v u Q I rx ry ⟨p, _, vs, rfl, rfl, hq, fun z => h.1 (by subst z; exact r1.nil_inv), h.2.1, h.2.2.1, by rw [← l]; exact h.2.2.2, new_tup m fin (r1.rep _)⟩
    · exact fin.elim
  · exact fin.elim
def lO (XE : XK) (K : PySem.W.Frag) (f : Ev → Mem → Out (Option Int)) : TO := fun σ H Q => LN XE EqR K UnR (fun _ σ M => f σ M) () σ H Q
def GO (X : Cx) (XE : XK) (e : Option Expr) (f : Ev → Mem → Out (Option Int)) : Prop := PO X e (lO XE X.K f)
def oNone : Ev → Mem → Out (Option Int) := fun _ M => .ok none M
def intT (x : T) (M : Mem) : Out (Option Int) := match x with
  | .int i => .ok (some i) M
  | _ => .bad
def oSome (f : Ev → Mem → Out T) : Ev → Mem → Out (Option Int) := fun σ M => (f σ M).bind intT
theorem PO.imp {e : Option Expr} {t t' : TO} (h : PO X e t) (i : ∀ σ H Q, t' σ H Q → t σ H Q) : PO X e t' := fun pins s σ H Q I q => h pins s σ H Q I (i σ H Q q)
theorem go_none : GO X XE none oNone := PO.imp po_none fun σ H Q ⟨S, στ, _, e, m, ev, _, fin⟩ => by
  show Q none H
  rw [← e]; exact fin S none rfl (.refl m) rfl
theorem go_some {e : Expr} {f : Ev → Mem → Out T} (h : GE X XE e f) : GO X XE (some e) (oSome f) := PO.imp (po_some h) fun σ H Q hh =>
  LN.mono (LN.bind (f := fun _ σ M => f σ M) (k := fun _ x σ M1 => intT x M1) (RB := Rep X.K) hh) fun v H1 ⟨S, στ, a, e, m, ev, ra, fin⟩ => by
    obtain ⟨u, t⟩ := a
    have r : Rep X.K S t v := ra.2
    replace fin : Fin XE EqR X.K S (intT t S.M) Q := fin
    cases r with
    | int i => exact ⟨i, rfl, by rw [← e]; exact fin S (some i) rfl (.refl m) rfl⟩
    | _ => exact fin.elim
def cutA (x : T) (lo hi : Option Int) (M : Mem) : Out T := match x with
  | .tup xs => .ok (.tup (cutT xs lo hi)) M
  | x => match lstOf x M with
    | some xs => .ok (.lst (cutT xs lo hi)) M
    | none => .bad
def eSl (f : Ev → Mem → Out T) (p q : Ev → Mem → Out (Option Int)) : Ev → Mem → Out T := fun σ M => (f σ M).bind fun x M1 => (p σ M1).bind fun lo M2 => (q σ M2).bind fun hi M3 => cutA x lo hi M3
def lSlA (XE : XK) (K : PySem.W.Frag) : V → Option Int → Option Int → Hp → VK → Prop := fun x lo hi H Q => ∃ S t, S.H = H ∧ MemOk K S ∧ Rep K S t x ∧ Fin XE (Rep K) K S (cutA t lo hi S.M) Q
theorem sl_A : SlR X (lSlA XE X.K) := by
  intro pins s σ H x v vl vu lo hi sl Q I rx hs pl pu ⟨S, t, e, m, r, fin⟩
  subst e
  unfold cutA at fin
  split at fin
  · cases r with
    | @tup _ p vs h l r =>
    have r1 : Reps X.K S _ vs := ⟨l, r⟩
    refine sl_tupA pins s σ S.H _ v vl vu lo hi sl Q I rx hs pl pu ⟨p, vs, rfl, h, fun w => ?_, fun w => new_tup m fin (r1.cutV lo hi)⟩
    rw [cutT_whole (by rw [l]; exact w)] at fin
    exact fin S _ rfl (.refl m) (.tup h l r)
  · split at fin
    · rename_i xs q
      obtain ⟨p, vs, e1, h1, s1⟩ := lstOf_rep m r q
      subst e1
      exact sl_list pins s σ S.H _ v vl vu lo hi sl Q I rx hs pl pu ⟨p, vs, rfl, h1, new_frz m fin (s1.cutV lo hi)⟩
    · exact fin.elim
theorem ge_sl {e : Expr} {lo hi : Option Expr} {f : Ev → Mem → Out T} {p q : Ev → Mem → Out (Option Int)} {p2 pos : Pos} (he : GE X XE e f) (hl : GO X XE lo p) (hu : GO X XE hi q) : GE X XE (.Subscript e (.Slice lo hi none p2) pos) (eSl f p q) := PE.imp (pe_slice sl_A he hl hu) fun σ H Q hh =>
  LN.mono (LN.bind (f := fun _ σ M => f σ M) (k := fun _ x σ M1 => (p σ M1).bind fun lo M2 => (q σ M2).bind fun hi M3 => cutA x lo hi M3) (RB := Rep X.K) hh) fun v H1 h1 =>
    LN.mono (LN.env (f := p) (LN.bind (f := fun _ σ M => p σ M) (k := fun (ax : Unit × T) lo σ M2 => (q σ M2).bind fun hi M3 => cutA ax.2 lo hi M3) (RB := EqR) h1)) fun l H2 h2 =>
      LN.mono (LN.env (f := q) (LN.bind (f := fun _ σ M => q σ M) (k := fun (ax : (Unit × T) × Option Int) hi σ M3 => cutA ax.1.2 ax.2 hi M3) (RB := EqR) h2)) fun w H3 ⟨S, στ, a, e, m, ev, ra, fin⟩ => by
        have e1 : a.1.2 = l := ra.1.2
        have e2 : a.2 = w := ra.2
        exact ⟨S, a.1.1.2, e, m, ra.1.1.2, by rw [← e1, ← e2]; exact fin⟩
def kit0 (T U : String) : Option Bool := if (Value.type T == Value.type U) = true then some true else if PySem.W.kitMeta U = true then (PySem.fastBuiltinMro T).map (·.contains (.type U)) else none
def tyN (t : T) (M : Mem) : Option String := match t with
  | .non => some "NoneType" | .bl _ => some "bool" | .int _ => some "int" | .str _ => some "str" | .tup _ => some "tuple" | .lst _ => some "list"
  | .ref a => match M[a]? with
    | some (.lst _) => some "list"
    | some (.dic _) => some "dict"
    | _ => none
  | _ => none
def isSub (n U : String) : Bool := n == U || (n == "bool" && U == "int")
def tyAll : List String := ["NoneType", "bool", "int", "str", "tuple", "list", "dict"]
def isinstK : T → T → Mem → Out T := fun t u M => match u with
  | .ty U => match tyN t M with
    | some n => if U ∈ tyAll ∧ U ≠ "NoneType" then .ok (.bl (isSub n U)) M else .bad
    | none => .bad
  | _ => .bad
def lGet (XE : XK) (K : PySem.W.Frag) (o : T → T → Mem → Out T) : V → V → Hp → VK → Prop := lR2 XE K o
end
end FT
namespace FT
open PySem PySem.Spec PyProof.Rows L2
def sclT : T → Bool
  | .non => true
  | .bl _ => true
  | .int _ => true
  | .str _ => true
  | _ => false
def eqS : T → T → Bool
  | .non, .non => true
  | .bl a, .bl b => a == b
  | .bl a, .int b => (if a then 1 else 0) == b
  | .int a, .bl b => a == (if b then 1 else 0)
  | .int a, .int b => a == b
  | .str a, .str b => a == b
  | _, _ => false
def eqL (f : T → T → Option Bool) : List T → List T → Option Bool
  | [], [] => some true
  | [], _ :: _ => some false
  | _ :: _, [] => some false
  | x :: xs, y :: ys => match f x y, eqL f xs ys with
    | some a, some b => some (a && b)
    | _, _ => none
def eqD (M : Mem) : Nat → T → T → Option Bool
  | d, .tup xs, .tup ys => match d with
    | 0 => none
    | d + 1 => eqL (eqD M d) xs ys
  | d, x, y => if (sclT x && sclT y) = true then some (eqS x y) else match d, lstOf x M, lstOf y M with
    | d + 1, some xs, some ys => if xs.length = ys.length then eqL (eqD M d) xs ys else some false
    | _, _, _ => none
def eqA : T → T → Mem → Out T := fun x y M => match eqD M 20 x y with
  | some b => .ok (.bl b) M
  | none => .bad
def neA : T → T → Mem → Out T := fun x y M => match eqD M 20 x y with
  | some b => .ok (.bl (!b)) M
  | none => .bad
theorem eqL_some {f : T → T → Option Bool} : ∀ {xs ys : List T} {b : Bool}, eqL f xs ys = some b →
    ∃ e : Nat → Bool, (∀ j x y, xs[j]? = some x → ys[j]? = some y → f x y = some (e j)) ∧ b = ((List.range (min xs.length ys.length)).all e && xs.length == ys.length)
  | [], [], b, h => by cases h; exact ⟨fun _ => true, fun j x y e1 => by simp at e1, by simp⟩
  | [], _ :: _, b, h => by cases h; exact ⟨fun _ => true, fun j x y e1 => by simp at e1, by simp⟩
  | _ :: _, [], b, h => by cases h; exact ⟨fun _ => true, fun j x y _ e1 => by simp at e1, by simp⟩
  | x :: xs, y :: ys, b, h => by
    unfold eqL at h
    cases q1 : f x y with
    | none => rw [q1] at h; cases h
    | some a =>
      cases q2 : eqL f xs ys with
      | none => rw [q1, q2] at h; cases h
      | some c =>
        rw [q1, q2] at h
        cases h
        obtain ⟨e, h1, h2⟩ := eqL_some q2
        refine ⟨fun j => match j with | 0 => a | j + 1 => e j, fun j u v e1 e2 => ?_, ?_⟩
        · cases j with
          | zero => simp at e1 e2; subst e1; subst e2; exact q1
          | succ j => exact h1 j u v (by simpa using e1) (by simpa using e2)
        · rw [h2]
          have : min (x :: xs).length (y :: ys).length = min xs.length ys.length + 1 := by simp only [List.length_cons]; omega
          rw [this, List.range_succ_eq_map, List.all_cons, List.all_map]
          simp [Bool.and_assoc, Function.comp_def]
section
variable {X : Cx} {XE : XK} {pins : List (Addr × Obj)} {s : Shared} {σ : L2.St} {S : Sit}
theorem scl_flat {K : PySem.W.Frag} {t : T} {v : V} (r : Rep K S t v) (h : sclT t = true) : flatV v = true := by
  cases r <;> first | rfl | (exact absurd (show false = true from h) Bool.false_ne_true)
theorem eqS_V {K : PySem.W.Frag} {t u : T} {v w : V} (r : Rep K S t v) (q : Rep K S u w) (h : sclT t = true) (h2 : sclT u = true) : eqS t u = eqV v w := by
  cases r <;> first | (exact absurd (show false = true from h) Bool.false_ne_true) | (cases q <;> first | rfl | (exact absurd (show false = true from h2) Bool.false_ne_true))
theorem scl_inj {K : PySem.W.Frag} {t u : T} {v : V} (r : Rep K S t v) (q : Rep K S u v) (h : sclT t = true) (h2 : sclT u = true) : eqS t u = true := by
  rw [eqS_V r q h h2]
  exact eqV_self v (scl_flat r h)
theorem eqD_same (I : L2.Inv X pins σ S.H s) (m : MemOk X.K S) : ∀ (d : Nat) {t u : T} {v : V} {b : Bool}, Rep X.K S t v → Rep X.K S u v → eqD S.M d t u = some b → b = true := by
  intro d
  induction d with
  | zero =>
    intro t u v b r q h
    unfold eqD at h
    split at h
    · cases h
    · split at h
      · rename_i hs
        rw [Bool.and_eq_true] at hs
        cases h
        exact scl_inj r q hs.1 hs.2
      · cases h
  | succ d ih =>
    have key : ∀ {xs ys : List T} {vs : List V} {b : Bool}, Reps X.K S xs vs → Reps X.K S ys vs → eqL (eqD S.M d) xs ys = some b → b = true := by
      intro xs ys vs b r q h
      obtain ⟨e, h1, h2⟩ := eqL_some h
      rw [h2, r.1, q.1]
      simp only [Nat.min_self, beq_self_eq_true, Bool.and_true, List.all_eq_true, List.mem_range]
      intro j hj
      have hx : j < xs.length := by rw [r.1]; exact hj
      have hy : j < ys.length := by rw [q.1]; exact hj
      have ex : xs[j]? = some xs[j] := by simp [hx]
      have ey : ys[j]? = some ys[j] := by simp [hy]
      have ev : vs[j]? = some vs[j] := by simp [hj]
      exact ih (r.2 j _ _ ex ev) (q.2 j _ _ ey ev) (h1 j _ _ ex ey)
    intro t u v b r q h
    unfold eqD at h
    split at h
    · cases r with
      | @tup _ p vs h1 l1 r1 =>
      cases q with
      | @tup _ _ vs2 h2 l2 r2 =>
      have := I.tuple_inj h1 h2
      subst this
      exact key ⟨l1, r1⟩ ⟨l2, r2⟩ h
    · split at h
      · rename_i hs
        rw [Bool.and_eq_true] at hs
        cases h
        exact scl_inj r q hs.1 hs.2
      · split at h
        · rename_i d' xs ys hd q1 q2
          cases hd
          obtain ⟨p, vs, e1, hq1, s1⟩ := lstOf_rep m r q1
          obtain ⟨p2, vs2, e2, hq2, s2⟩ := lstOf_rep m q q2
          rw [e1] at e2
          cases e2
          have := I.list_inj hq1 hq2
          subst this
          rw [if_pos (by rw [s1.1, s2.1])] at h
          exact key s1 s2 h
        · cases h
theorem eqD_at (I : L2.Inv X pins σ S.H s) (m : MemOk X.K S) : ∀ (d : Nat) {A : Around} {t u : T} {v w : V} {x y : Value} {b : Bool}, A.units + d < cLine → RelV v x → RelV w y → Rep X.K S t v → Rep X.K S u w → eqD S.M d t u = some b → SeqAt.EqAt A s x y b := by
  intro d
  induction d with
  | zero =>
    intro A t u v w x y b hu rx ry r q h
    unfold eqD at h
    split at h
    · cases h
    · split at h
      · rename_i hs
        rw [Bool.and_eq_true] at hs
        cases h
        rw [eqS_V r q hs.1 hs.2]
        exact eqAt_V rx ry (scl_flat r hs.1) (scl_flat q hs.2)
      · cases h
  | succ d ih =>
    have key : ∀ {A : Around} {xs ys : List T} {vs ws : List V} {us zs : List Value} {b : Bool}, A.units + d < cLine → Reps X.K S xs vs → Reps X.K S ys ws → Vals vs us → Vals ws zs → eqL (eqD S.M d) xs ys = some b →
        ∃ e : Nat → Bool, (∀ j (h1 : j < us.toArray.size) (h2 : j < zs.toArray.size), SeqAt.EqAt A s us.toArray[j] zs.toArray[j] (e j)) ∧ b = ((List.range (min us.toArray.size zs.toArray.size)).all e && us.toArray.size == zs.toArray.size) := by
      intro A xs ys vs ws us zs b hu r q hv hw h
      obtain ⟨e, h1, h2⟩ := eqL_some h
      have l1 : us.length = xs.length := by rw [← hv.length, r.1]
      have l2 : zs.length = ys.length := by rw [← hw.length, q.1]
      refine ⟨e, fun j g1 g2 => ?_, by rw [h2, List.size_toArray, List.size_toArray, l1, l2]⟩
      have g1' : j < us.length := by simpa using g1
      have g2' : j < zs.length := by simpa using g2
      have ex : xs[j]? = some (xs[j]'(by omega)) := List.getElem?_eq_getElem (by omega)
      have ey : ys[j]? = some (ys[j]'(by omega)) := List.getElem?_eq_getElem (by omega)
      obtain ⟨v, ev, rv⟩ := r.get ex
      obtain ⟨w, ew, rw'⟩ := q.get ey
      obtain ⟨a, ea, ra⟩ := Vals.get hv ev
      obtain ⟨c, ec, rc⟩ := Vals.get hw ew
      have : us.toArray[j] = a := by
        rw [List.getElem_toArray]; rw [List.getElem?_eq_getElem g1'] at ea; exact Option.some.inj ea
      rw [this]
      have : zs.toArray[j] = c := by
        rw [List.getElem_toArray]; rw [List.getElem?_eq_getElem g2'] at ec; exact Option.some.inj ec
      rw [this]
      exact ih hu ra rc rv rw' (h1 j _ _ ex ey)
    intro A t u v w x y b hu rx ry r q h
    have hsame : v = w → b = true := fun z => by subst z; exact eqD_same I m (d + 1) r q h
    unfold eqD at h
    split at h
    · cases r with
      | @tup _ p vs h1 l1 r1 =>
      cases q with
      | @tup _ p2 vs2 h2 l2 r2 =>
      cases rx
      cases ry
      by_cases hp : p = p2
      · subst hp
        rw [hsame rfl]
        exact SeqAt.EqAt.same _
      · obtain ⟨its, ri, pl, _⟩ := I.tuple h1
        obtain ⟨its2, ri2, pl2, _⟩ := I.tuple h2
        obtain ⟨e, he, eb⟩ := key (A := A.in1) (by show A.units + 1 + d < cLine; omega) ⟨l1, r1⟩ ⟨l2, r2⟩ ri ri2 h
        rw [eb]
        exact SeqAt.EqAt.of_refs hp (SeqAt.RcAt.tuples pl pl2 (by omega) he)
    · split at h
      · rename_i hs
        rw [Bool.and_eq_true] at hs
        cases h
        rw [eqS_V r q hs.1 hs.2]
        exact eqAt_V rx ry (scl_flat r hs.1) (scl_flat q hs.2)
      · split at h
        · rename_i d' xs ys hd q1 q2
          cases hd
          obtain ⟨p, vs, e1, hq1, s1⟩ := lstOf_rep m r q1
          obtain ⟨p2, vs2, e2, hq2, s2⟩ := lstOf_rep m q q2
          subst e1
          subst e2
          cases rx
          cases ry
          by_cases hp : p = p2
          · subst hp
            rw [hsame rfl]
            exact SeqAt.EqAt.same _
          · obtain ⟨its, ri, pl, _⟩ := I.list hq1
            obtain ⟨its2, ri2, pl2, _⟩ := I.list hq2
            have lz : its.length = xs.length := by rw [← ri.length, s1.1]
            have lz2 : its2.length = ys.length := by rw [← ri2.length, s2.1]
            by_cases hl : xs.length = ys.length
            · rw [if_pos hl] at h
              obtain ⟨e, he, eb⟩ := key (A := A.in1) (by show A.units + 1 + d < cLine; omega) s1 s2 ri ri2 h
              have hsz : its.toArray.size = its2.toArray.size := by simp [lz, lz2, hl]
              rw [eb, hsz, Nat.min_self, beq_self_eq_true, Bool.and_true, ← hsz]
              exact SeqAt.EqAt.of_refs hp (SeqAt.RcAt.lists pl.isList pl2.isList hsz (by omega) he)
            · rw [if_neg hl] at h
              cases h
              exact SeqAt.EqAt.of_refs hp (SeqAt.RcAt.lists_lengths pl.isList pl2.isList (by simp [lz, lz2, hl]) (by omega))
        · cases h
theorem rcAt_V {A : Around} {y x : V} {u v : Value} (ry : RelV y u) (rx : RelV x v) (fy : flatV y = true) (fx : flatV x = true) : SeqAt.RcAt A s u v (eqV y x) := by
  cases y with
  | non =>
    cases ry
    cases x with
    | non => cases rx; exact SeqAt.RcAt.none_none
    | bl b => cases rx; exact SeqAt.RcAt.none_bool b
    | int b => obtain ⟨t, rfl⟩ := rx; exact SeqAt.RcAt.none_int b t
    | str b => obtain ⟨t, rfl⟩ := rx; exact SeqAt.RcAt.none_str b t
    | _ => exact absurd (show false = true from fx) Bool.false_ne_true
  | bl a =>
    cases ry
    cases x with
    | non => cases rx; exact SeqAt.RcAt.bool_none a
    | bl b => cases rx; exact SeqAt.RcAt.bool_bool a b
    | int b => obtain ⟨t, rfl⟩ := rx; exact SeqAt.RcAt.bool_int a b t
    | str b => obtain ⟨t, rfl⟩ := rx; exact SeqAt.RcAt.bool_str a b t
    | _ => exact absurd (show false = true from fx) Bool.false_ne_true
  | int a =>
    obtain ⟨t', rfl⟩ := ry
    cases x with
    | non => cases rx; exact SeqAt.RcAt.int_none a t'
    | bl b => cases rx; exact SeqAt.RcAt.int_bool a t' b
    | int b => obtain ⟨t, rfl⟩ := rx; exact SeqAt.RcAt.int_int a t' b t
    | str b => obtain ⟨t, rfl⟩ := rx; exact SeqAt.RcAt.int_str a t' b t
    | _ => exact absurd (show false = true from fx) Bool.false_ne_true
  | str a =>
    obtain ⟨t', rfl⟩ := ry
    cases x with
    | non => cases rx; exact SeqAt.RcAt.str_none a t'
    | bl b => cases rx; exact SeqAt.RcAt.str_bool a t' b
    | int b => obtain ⟨t, rfl⟩ := rx; exact SeqAt.RcAt.str_int a t' b t
    | str b => obtain ⟨t, rfl⟩ := rx; exact SeqAt.RcAt.str_str a t' b t
    | _ => exact absurd (show false = true from fx) Bool.false_ne_true
  | _ => exact absurd (show false = true from fy) Bool.false_ne_true
theorem rcNeAt_V {A : Around} {y x : V} {u v : Value} (ry : RelV y u) (rx : RelV x v) (fy : flatV y = true) (fx : flatV x = true) : SeqAt.RcNeAt A s u v (!eqV y x) := by
  cases y with
  | non =>
    cases ry
    cases x with
    | non => cases rx; exact SeqAt.RcNeAt.none_none
    | bl b => cases rx; exact SeqAt.RcNeAt.none_bool b
    | int b => obtain ⟨t, rfl⟩ := rx; exact SeqAt.RcNeAt.none_int b t
    | str b => obtain ⟨t, rfl⟩ := rx; exact SeqAt.RcNeAt.none_str b t
    | _ => exact absurd (show false = true from fx) Bool.false_ne_true
  | bl a =>
    cases ry
    cases x with
    | non => cases rx; exact SeqAt.RcNeAt.bool_none a
    | bl b => cases rx; exact SeqAt.RcNeAt.bool_bool a b
    | int b => obtain ⟨t, rfl⟩ := rx; exact SeqAt.RcNeAt.bool_int a b t
    | str b => obtain ⟨t, rfl⟩ := rx; exact SeqAt.RcNeAt.bool_str a b t
    | _ => exact absurd (show false = true from fx) Bool.false_ne_true
  | int a =>
    obtain ⟨t', rfl⟩ := ry
    cases x with
    | non => cases rx; exact SeqAt.RcNeAt.int_none a t'
    | bl b => cases rx; exact SeqAt.RcNeAt.int_bool a t' b
    | int b => obtain ⟨t, rfl⟩ := rx; exact SeqAt.RcNeAt.int_int a t' b t
    | str b => obtain ⟨t, rfl⟩ := rx; exact SeqAt.RcNeAt.int_str a t' b t
    | _ => exact absurd (show false = true from fx) Bool.false_ne_true
  | str a =>
    obtain ⟨t', rfl⟩ := ry
    cases x with
    | non => cases rx; exact SeqAt.RcNeAt.str_none a t'
    | bl b => cases rx; exact SeqAt.RcNeAt.str_bool a t' b
    | int b => obtain ⟨t, rfl⟩ := rx; exact SeqAt.RcNeAt.str_int a t' b t
    | str b => obtain ⟨t, rfl⟩ := rx; exact SeqAt.RcNeAt.str_str a t' b t
    | _ => exact absurd (show false = true from fx) Bool.false_ne_true
  | _ => exact absurd (show false = true from fy) Bool.false_ne_true
theorem eqD_rc (I : L2.Inv X pins σ S.H s) (m : MemOk X.K S) (d : Nat) {t u : T} {v w : V} {x y : Value} {b : Bool} {A : Around} (hu : A.units + d < cLine) (rx : RelV v x) (ry : RelV w y) (r : Rep X.K S t v) (q : Rep X.K S u w) (h : eqD S.M d t u = some b) : SeqAt.RcAt A s x y b ∧ SeqAt.RcNeAt A s x y (!b) := by
  have at_ : ∀ {A : Around} {d : Nat} {xs ys : List T} {vs ws : List V} {us zs : List Value} {b : Bool}, A.units + d < cLine → Reps X.K S xs vs → Reps X.K S ys ws → Vals vs us → Vals ws zs → eqL (eqD S.M d) xs ys = some b →
        ∃ e : Nat → Bool, (∀ j (h1 : j < us.toArray.size) (h2 : j < zs.toArray.size), SeqAt.EqAt A s us.toArray[j] zs.toArray[j] (e j)) ∧ b = ((List.range (min us.toArray.size zs.toArray.size)).all e && us.toArray.size == zs.toArray.size) := by
    intro A d xs ys vs ws us zs b hu r q hv hw h
    obtain ⟨e, h1, h2⟩ := eqL_some h
    have l1 : us.length = xs.length := by rw [← hv.length, r.1]
    have l2 : zs.length = ys.length := by rw [← hw.length, q.1]
    refine ⟨e, fun j g1 g2 => ?_, by rw [h2, List.size_toArray, List.size_toArray, l1, l2]⟩
    have g1' : j < us.length := by simpa using g1
    have g2' : j < zs.length := by simpa using g2
    have ex : xs[j]? = some (xs[j]'(by omega)) := List.getElem?_eq_getElem (by omega)
    have ey : ys[j]? = some (ys[j]'(by omega)) := List.getElem?_eq_getElem (by omega)
    obtain ⟨v, ev, rv⟩ := r.get ex
    obtain ⟨w, ew, rw'⟩ := q.get ey
    obtain ⟨a, ea, ra⟩ := Vals.get hv ev
    obtain ⟨c, ec, rc⟩ := Vals.get hw ew
    have : us.toArray[j] = a := by
      rw [List.getElem_toArray]; rw [List.getElem?_eq_getElem g1'] at ea; exact Option.some.inj ea
    rw [this]
    have : zs.toArray[j] = c := by
      rw [List.getElem_toArray]; rw [List.getElem?_eq_getElem g2'] at ec; exact Option.some.inj ec
    rw [this]
    exact eqD_at I m d hu ra rc rv rw' (h1 j _ _ ex ey)
  unfold eqD at h
  split at h
  · split at h
    · cases h
    · rename_i d
      cases r with
      | @tup _ p vs h1 l1 r1 =>
      cases q with
      | @tup _ p2 vs2 h2 l2 r2 =>
      cases rx
      cases ry
      obtain ⟨its, ri, pl, _⟩ := I.tuple h1
      obtain ⟨its2, ri2, pl2, _⟩ := I.tuple h2
      obtain ⟨e, he, eb⟩ := at_ (A := A.in1) (by show A.units + 1 + d < cLine; omega) ⟨l1, r1⟩ ⟨l2, r2⟩ ri ri2 h
      rw [eb]
      exact ⟨SeqAt.RcAt.tuples pl pl2 (by omega) he, SeqAt.RcNeAt.tuples pl pl2 (by omega) he⟩
  · split at h
    · rename_i hs
      rw [Bool.and_eq_true] at hs
      cases h
      rw [eqS_V r q hs.1 hs.2]
      exact ⟨rcAt_V rx ry (scl_flat r hs.1) (scl_flat q hs.2), rcNeAt_V rx ry (scl_flat r hs.1) (scl_flat q hs.2)⟩
    · split at h
      · rename_i d' xs ys q1 q2
        obtain ⟨p, vs, e1, hq1, s1⟩ := lstOf_rep m r q1
        obtain ⟨p2, vs2, e2, hq2, s2⟩ := lstOf_rep m q q2
        subst e1
        subst e2
        cases rx
        cases ry
        obtain ⟨its, ri, pl, _⟩ := I.list hq1
        obtain ⟨its2, ri2, pl2, _⟩ := I.list hq2
        have lz : its.length = xs.length := by rw [← ri.length, s1.1]
        have lz2 : its2.length = ys.length := by rw [← ri2.length, s2.1]
        by_cases hl : xs.length = ys.length
        · rw [if_pos hl] at h
          obtain ⟨e, he, eb⟩ := at_ (A := A.in1) (by show A.units + 1 + d' < cLine; omega) s1 s2 ri ri2 h
          have hsz : its.toArray.size = its2.toArray.size := by simp [lz, lz2, hl]
          rw [eb, hsz, Nat.min_self, beq_self_eq_true, Bool.and_true, ← hsz]
          exact ⟨SeqAt.RcAt.lists pl.isList pl2.isList hsz (by omega) he, SeqAt.RcNeAt.lists pl.isList pl2.isList hsz (by omega) he⟩
        · rw [if_neg hl] at h
          cases h
          exact ⟨SeqAt.RcAt.lists_lengths pl.isList pl2.isList (by simp [lz, lz2, hl]) (by omega), SeqAt.RcNeAt.lists_lengths pl.isList pl2.isList (by simp [lz, lz2, hl]) (by omega)⟩
      · cases h
theorem op_eqA (hu : X.A.units + 64 < cLine) : OpR X (compareOp .Eq) (lR2 XE X.K eqA) := by
  intro pins s σ H x y v u Q I rx ry ⟨S, ⟨tx, ty⟩, e, m, ⟨r1, r2⟩, fin⟩
  subst e
  replace fin : Fin XE (Rep X.K) X.K S (eqA tx ty S.M) Q := fin
  unfold eqA at fin
  split at fin
  · rename_i b q
    exact (eqD_rc I m 20 (A := X.A) (by omega) rx ry r1 r2 q).1 _ _ _ _ ⟨.bl b, S.H, I, rfl, fin S _ rfl (.refl m) (.bl _)⟩
  · exact fin.elim
theorem op_neA (hu : X.A.units + 64 < cLine) : OpR X (compareOp .NotEq) (lR2 XE X.K neA) := by
  intro pins s σ H x y v u Q I rx ry ⟨S, ⟨tx, ty⟩, e, m, ⟨r1, r2⟩, fin⟩
  subst e
  replace fin : Fin XE (Rep X.K) X.K S (neA tx ty S.M) Q := fin
  unfold neA at fin
  split at fin
  · rename_i b q
    exact (eqD_rc I m 20 (A := X.A) (by omega) rx ry r1 r2 q).2 _ _ _ _ ⟨.bl (!b), S.H, I, rfl, fin S _ rfl (.refl m) (.bl _)⟩
  · exact fin.elim
def inA : T → T → Mem → Out T := fun x y M => match seqOf y M with
  | some ys => if (sclT x && ys.all sclT) = true then .ok (.bl (ys.any fun y => eqS y x)) M else .bad
  | none => .bad
def ninA : T → T → Mem → Out T := fun x y M => match seqOf y M with
  | some ys => if (sclT x && ys.all sclT) = true then .ok (.bl (!ys.any fun y => eqS y x)) M else .bad
  | none => .bad
end
section
variable {X : Cx} {XE : XK}
def inOf : List T → Option (List Int)
  | [] => some []
  | .int b :: r => (inOf r).map (b :: ·)
  | _ => none
theorem inOf_rep {K : PySem.W.Frag} {S : Sit} : ∀ {ts : List T} {vs : List V} {bs : List Int}, inOf ts = some bs → Reps K S ts vs → vs = bs.map V.int
  | [], vs, bs, e, r => by cases e; exact r.nilT
  | .int b :: ts, vs, bs, e, r => by
    unfold inOf at e
    obtain ⟨v, vs', rfl, r1, r2⟩ := r.consT
    cases q : inOf ts with
    | none => rw [q] at e; cases e
    | some bs' =>
      rw [q] at e
      cases e
      cases r1
      rw [inOf_rep q r2]; rfl
  | .non :: _, _, _, e, _ => by cases e
  | .bl _ :: _, _, _, e, _ => by cases e
  | .str _ :: _, _, _, e, _ => by cases e
  | .ty _ :: _, _, _, e, _ => by cases e
  | .tup _ :: _, _, _, e, _ => by cases e
  | .lst _ :: _, _, _, e, _ => by cases e
  | .ref _ :: _, _, _, e, _ => by cases e
def sumK : T → Mem → Out T := fun t M => match lstOf t M with
  | some xs => match inOf xs with
    | some bs => .ok (.int bs.sum) M
    | none => .bad
  | none => .bad
theorem call_sumK (hc : X.calm = true) : CallR X (.builtin "sum") (lRN XE X.K (call1 sumK)) := call1_mk fun pins s σ S t x v Q I rx m r fin => by
  unfold sumK at fin
  split at fin
  · rename_i xs q
    split at fin
    · rename_i bs q2
      obtain ⟨p, vs, rfl, hq, rs⟩ := lstOf_rep m r q
      rw [inOf_rep q2 rs] at hq
      exact call_sumI hc pins s σ S.H _ _ Q I (.cons rx .nil) ⟨p, bs, rfl, hq, fin S _ rfl (.refl m) (.int _)⟩
    · exact fin.elim
  · exact fin.elim
def getL : T → T → Mem → Out T := fun x y M => match y, lstOf x M with
  | .int i, some xs => optT (atI xs i) M
  | _, _ => .bad
end
section
variable {X : Cx} {XE : XK}
theorem GE.pe {e : Expr} {f : Ev → Mem → Out T} (h : GE X XE e f) : PE X e (lE XE X.K f) := h
theorem GA.pa {e : List Expr} {f : Ev → Mem → Out (List T)} (h : GA X XE e f) : PA X e (lA XE X.K f) := h
theorem GG.pg {e : Expr} {f : T → Ev → Mem → Out Ev} (h : GG X XE e f) : PG X e (lG XE X.K f) := h
end
end FT
namespace FT
open PySem L2
def retF (o : Out Fl) : Out T := match o with
  | .ok (.rt t) M' => .ok t M'
  | .ok (.nx _) M' => .ok .non M'
  | _ => .bad
theorem runDef_eq {p n : Nat} {g : Ev → Mem → Out Fl} {ts : List T} {M : Mem} (h : ts.length = p) : runDef p n g ts M = retF (g (startT n ts) M) := by
  unfold runDef
  rw [if_pos h]
  rfl
theorem retF_rt {t : T} {M : Mem} : retF (.ok (.rt t) M) = .ok t M := rfl
theorem retF_nx {σ : Ev} {M : Mem} : retF (.ok (.nx σ) M) = .ok .non M := rfl
theorem blT_bl {β : Type} {b : Bool} {M : Mem} {k : Bool → Mem → Out β} : blT (.bl b) M k = k b M := rfl
theorem thenF_nx {k : Ev → Mem → Out Fl} {σ : Ev} {M : Mem} : thenF k (.nx σ) M = k σ M := rfl
theorem thenF_rt {k : Ev → Mem → Out Fl} {t : T} {M : Mem} : thenF k (.rt t) M = .ok (.rt t) M := rfl
theorem thenF_bk {k : Ev → Mem → Out Fl} {σ : Ev} {M : Mem} : thenF k (.bk σ) M = .ok (.bk σ) M := rfl
theorem thenF_ct {k : Ev → Mem → Out Fl} {σ : Ev} {M : Mem} : thenF k (.ct σ) M = .ok (.ct σ) M := rfl
theorem loopF_nx {k : Ev → Mem → Out Fl} {σ : Ev} {M : Mem} : loopF k (.nx σ) M = k σ M := rfl
theorem loopF_rt {k : Ev → Mem → Out Fl} {t : T} {M : Mem} : loopF k (.rt t) M = .ok (.rt t) M := rfl
theorem loopF_bk {k : Ev → Mem → Out Fl} {σ : Ev} {M : Mem} : loopF k (.bk σ) M = .ok (.nx σ) M := rfl
theorem loopF_ct {k : Ev → Mem → Out Fl} {σ : Ev} {M : Mem} : loopF k (.ct σ) M = k σ M := rfl
theorem forL_cons {bd : T → Ev → Mem → Out Ev} {body : Ev → Mem → Out Fl} {x : T} {xs : List T} {σ : Ev} {M : Mem} : forL bd body (x :: xs) σ M = (bd x σ M).bind fun σ1 M1 => (body σ1 M1).bind (loopF (forL bd body xs)) := rfl
theorem call1_1 {k : T → Mem → Out T} {t : T} {M : Mem} : call1 k [t] M = k t M := rfl
theorem call2_2 {k : T → T → Mem → Out T} {t u : T} {M : Mem} : call2 k [t, u] M = k t u M := rfl
theorem addA_ii {i j : Int} {M : Mem} : addA (.int i) (.int j) M = .ok (.int (i + j)) M := rfl
theorem subI_ii {i j : Int} {M : Mem} : subI (.int i) (.int j) M = .ok (.int (i - j)) M := rfl
theorem mulA_ii {i j : Int} {M : Mem} (h : Mo64 i j) : mulA (.int i) (.int j) M = .ok (.int (i * j)) M := if_pos h
theorem divI_ii {i j : Int} {M : Mem} (h : j ≠ 0 ∧ j.natAbs < 10 ^ 2000) : divI (.int i) (.int j) M = .ok (.int (i.fdiv j)) M := if_pos h
theorem modI_ii {i j : Int} {M : Mem} (h : j ≠ 0) : modI (.int i) (.int j) M = .ok (.int (i.fmod j)) M := if_pos h
theorem powI_ii {i j : Int} {M : Mem} (h : 0 ≤ j ∧ j ≤ 1000000 ∧ i.natAbs < 2 ^ 64) : powI (.int i) (.int j) M = .ok (.int (i ^ j.toNat)) M := if_pos h
theorem ltI_ii {i j : Int} {M : Mem} : ltI (.int i) (.int j) M = .ok (.bl (decide (i < j))) M := rfl
theorem leI_ii {i j : Int} {M : Mem} : leI (.int i) (.int j) M = .ok (.bl (decide (i ≤ j))) M := rfl
theorem gtI_ii {i j : Int} {M : Mem} : gtI (.int i) (.int j) M = .ok (.bl (decide (j < i))) M := rfl
theorem geI_ii {i j : Int} {M : Mem} : geI (.int i) (.int j) M = .ok (.bl (decide (j ≤ i))) M := rfl
theorem negI_i {i : Int} {M : Mem} : negI (.int i) M = .ok (.int (-i)) M := rfl
theorem maxK_ii {i j : Int} {M : Mem} : maxK (.int i) (.int j) M = .ok (.int (if j > i then j else i)) M := rfl
theorem eqA_ii {i j : Int} {M : Mem} : eqA (.int i) (.int j) M = .ok (.bl (i == j)) M := rfl
theorem neA_ii {i j : Int} {M : Mem} : neA (.int i) (.int j) M = .ok (.bl (!(i == j))) M := rfl
theorem isB_bb {a b : Bool} {M : Mem} : isB (.bl a) (.bl b) M = .ok (.bl (a == b)) M := rfl
theorem isntB_bb {a b : Bool} {M : Mem} : isntB (.bl a) (.bl b) M = .ok (.bl (a != b)) M := rfl
theorem ixT_ref {a : Nat} {xs : List T} {i : Int} {t : T} {M : Mem} (e : M[a]? = some (.lst xs)) (h : atI xs i = some t) : ixT (.ref a) (.int i) M = .ok t M := by
  show optT (match M[a]? with | some (.lst xs) => atI xs i | _ => none) M = _
  rw [e]
  show optT (atI xs i) M = _
  rw [h]; rfl
theorem atI_nat {α : Type} {xs : List α} {n : Nat} : atI xs (n : Int) = xs[n]? := by
  unfold atI ixN
  by_cases h : n < xs.length
  · simp [h]
  · simp [h]
theorem atI_0 {α : Type} {x : α} {l : List α} : atI (x :: l) 0 = some x := by have := atI_nat (xs := x :: l) (n := 0); exact this
theorem atI_1 {α : Type} {x y : α} {l : List α} : atI (x :: y :: l) 1 = some y := by have := atI_nat (xs := x :: y :: l) (n := 1); exact this
theorem atI_2 {α : Type} {x y z : α} {l : List α} : atI (x :: y :: z :: l) 2 = some z := by have := atI_nat (xs := x :: y :: z :: l) (n := 2); exact this
theorem atI_3 {α : Type} {x y z w : α} {l : List α} : atI (x :: y :: z :: w :: l) 3 = some w := by have := atI_nat (xs := x :: y :: z :: w :: l) (n := 3); exact this
theorem ixN_0 {n : Nat} : ixN (n + 1) 0 = some 0 := by unfold ixN; simp
theorem ixN_1 {n : Nat} : ixN (n + 2) 1 = some 1 := by unfold ixN; simp; omega
theorem ixN_2 {n : Nat} : ixN (n + 3) 2 = some 2 := by unfold ixN; simp; omega
theorem setT_ref {a : Nat} {xs : List T} {k : Int} {j : Nat} {t : T} {M : Mem} (e : M[a]? = some (.lst xs)) (h : ixN xs.length k = some j) : setT (.ref a) (.int k) t M = .ok () (M.set a (.lst (xs.set j t))) := by
  unfold setT
  simp only [e, h]
theorem appT_ref {a : Nat} {xs : List T} {t : T} {M : Mem} (e : M[a]? = some (.lst xs)) (h : xs.length < sizeLine) : appT (.ref a) [t] M = .ok .non (M.set a (.lst (xs ++ [t]))) := by
  unfold appT
  simp only [e, if_pos h]
theorem lstChk_ref {a : Nat} {xs : List T} {M : Mem} (e : M[a]? = some (.lst xs)) : lstChk (.ref a) M = .ok (.ref a) M := by
  unfold lstChk lstOf
  simp only [e]
theorem tupleK_ref {a : Nat} {xs : List T} {M : Mem} (e : M[a]? = some (.lst xs)) : tupleK (.ref a) M = .ok (.tup xs) M := by
  unfold tupleK seqOf lstOf
  simp only [e]
theorem rng1_i {j : Int} {M : Mem} (h : -(2 ^ 62) ≤ j ∧ j < 2 ^ 62) : rng1 [.int j] M = .ok (rngT 0 j.toNat) M := if_pos h
theorem divI_8 {i : Int} {M : Mem} : divI (.int i) (.int 8) M = .ok (.int (i.fdiv 8)) M := divI_ii ⟨by decide, Nat.lt_of_lt_of_le (show (8 : Int).natAbs < 10 ^ 1 by decide) (Nat.pow_le_pow_right (by decide) (by decide))⟩
theorem Mo64.of {i j : Int} (m n : Nat) (hm : m ≤ 3000) (hn : n ≤ 3000) (h1 : i.natAbs < 10 ^ m) (h2 : j.natAbs < 10 ^ n) : Mo64 i j :=
  .inl ⟨Nat.lt_of_lt_of_le h1 (Nat.pow_le_pow_right (by decide) hm), Nat.lt_of_lt_of_le h2 (Nat.pow_le_pow_right (by decide) hn)⟩
theorem mulA_l {i j : Int} {M : Mem} (h : -(2 ^ 64) < i ∧ i < 2 ^ 64) : mulA (.int i) (.int j) M = .ok (.int (i * j)) M := mulA_ii (.inr (.inl h))
theorem mulA_r {i j : Int} {M : Mem} (h : -(2 ^ 64) < j ∧ j < 2 ^ 64) : mulA (.int i) (.int j) M = .ok (.int (i * j)) M := mulA_ii (.inr (.inr h))
theorem dv_ok {j : Int} (n : Nat) (hn : n ≤ 2000) (h0 : j ≠ 0) (h : j.natAbs < 10 ^ n) : j ≠ 0 ∧ j.natAbs < 10 ^ 2000 := ⟨h0, Nat.lt_of_lt_of_le h (Nat.pow_le_pow_right (by decide) hn)⟩
structure Po where
  a : Int
  b : Int
  c : Int
def Po.cell (p : Po) : Cell := .lst [.int p.a, .int p.b, .int p.c]
def Po.dig (p : Po) (base : Int) : Int := if 0 < p.a then p.a % base else
  let mixed := (p.b + 7919 * (p.c + 1)) % 1000000007
  let stir := (mixed + 11) * (mixed + 48271) % 998244353
  (stir * stir % 2147483647 / 8) % base
def Po.nxt (p : Po) (base : Int) : Po := if 0 < p.a then ⟨p.a / base, p.b, p.c⟩ else ⟨p.a, p.b, p.c + 1⟩
def Po.new (cell : Int) : Po := ⟨if cell - 10 ^ 18 > 0 then cell - 10 ^ 18 else 0, cell % 10 ^ 18, 0⟩
theorem Po.dig_lo (p : Po) {base : Int} (h : 0 < base) : 0 ≤ p.dig base := by
  unfold Po.dig
  split
  · exact Int.emod_nonneg _ (by omega)
  · exact Int.emod_nonneg _ (by omega)
theorem Po.dig_hi (p : Po) {base : Int} (h : 0 < base) : p.dig base < base := by
  unfold Po.dig
  split
  · exact Int.emod_lt_of_pos _ h
  · exact Int.emod_lt_of_pos _ h
end FT
namespace FT
open PySem L2
theorem lenK_tup {xs : List T} {M : Mem} : lenK (.tup xs) M = .ok (.int xs.length) M := rfl
theorem lenK_lst {xs : List T} {M : Mem} : lenK (.lst xs) M = .ok (.int xs.length) M := rfl
theorem lenK_ref {a : Nat} {xs : List T} {M : Mem} (e : M[a]? = some (.lst xs)) : lenK (.ref a) M = .ok (.int xs.length) M := by
  unfold lenK seqOf lstOf
  simp only [e]
theorem addA_tt {xs ys : List T} {M : Mem} (h : xs.length + ys.length ≤ sizeLine) : addA (.tup xs) (.tup ys) M = .ok (.tup (xs ++ ys)) M := if_pos h
theorem addA_ll {xs ys : List T} {M : Mem} (h : xs.length + ys.length ≤ sizeLine) : addA (.lst xs) (.lst ys) M = .ok (.lst (xs ++ ys)) M := if_pos h
end FT
namespace FT
open PySem PySem.Spec PyProof.Rows L2
def keyT : T → Option Key
  | .int i => some (.inl i)
  | .str x => some (.inr x)
  | _ => none
def dicOf (t : T) (M : Mem) : Option (List (Key × T)) := match t with
  | .ref a => match M[a]? with
    | some (.dic kvs) => some kvs
    | _ => none
  | .dct kvs => some kvs
  | _ => none
def dLook (kvs : List (Key × T)) (k : Key) : Option T := (kvs.find? fun kv => decide (kv.1 = k)).map (·.2)
def dPut (kvs : List (Key × T)) (k : Key) (t : T) : List (Key × T) :=
  if (kvs.any fun kv => decide (kv.1 = k)) = true then kvs.map (fun kv => if kv.1 = k then (kv.1, t) else kv) else kvs ++ [(k, t)]
section
variable {K : PySem.W.Frag} {S : Sit}
theorem RepK.nilT {us : List (Key × V)} (r : RepK K S [] us) : us = [] := by
  have := r.1
  simpa using this.symm
theorem RepK.nil : RepK K S [] [] := ⟨rfl, .nil⟩
theorem RepK.consT {p : Key × T} {kvs : List (Key × T)} {us : List (Key × V)} (r : RepK K S (p :: kvs) us) : ∃ u us', us = (p.1, u) :: us' ∧ Rep K S p.2 u ∧ RepK K S kvs us' := by
  cases us with
  | nil => have := r.1; simp at this
  | cons q us =>
    obtain ⟨h1, h2⟩ := r
    rw [List.map_cons, List.map_cons] at h1 h2
    injection h1 with e1 e2
    obtain ⟨v, vs, e3, r1, r2⟩ := h2.consT
    injection e3 with e3 e4
    refine ⟨q.2, us, ?_, ?_, e2, ?_⟩
    · rw [e1]
    · rw [e3]; exact r1
    · rw [e4]; exact r2
theorem RepK.cons {k : Key} {t : T} {u : V} {kvs : List (Key × T)} {us : List (Key × V)} (q : Rep K S t u) (r : RepK K S kvs us) : RepK K S ((k, t) :: kvs) ((k, u) :: us) :=
  ⟨by rw [List.map_cons, List.map_cons, r.1], by rw [List.map_cons, List.map_cons]; exact r.2.cons q⟩
theorem RepK.length {kvs : List (Key × T)} {us : List (Key × V)} (r : RepK K S kvs us) : kvs.length = us.length := by
  have := congrArg List.length r.1
  simpa using this
theorem RepK.look (k : Key) : ∀ {kvs : List (Key × T)} {us : List (Key × V)}, RepK K S kvs us → (dLook kvs k = none ∧ valV us k = none) ∨ ∃ t v, dLook kvs k = some t ∧ valV us k = some v ∧ Rep K S t v
  | [], us, r => by rw [r.nilT]; exact .inl ⟨rfl, rfl⟩
  | p :: kvs, us, r => by
    obtain ⟨u, us', rfl, r1, r2⟩ := r.consT
    by_cases h : p.1 = k
    · refine .inr ⟨p.2, u, ?_, ?_, r1⟩
      · simp [dLook, List.find?_cons, h]
      · simp [valV, List.find?_cons, h]
    · have e1 : dLook (p :: kvs) k = dLook kvs k := by simp [dLook, List.find?_cons, h]
      have e2 : valV ((p.1, u) :: us') k = valV us' k := by simp [valV, List.find?_cons, h]
      rw [e1, e2]
      exact RepK.look k r2
theorem RepK.any (k : Key) : ∀ {kvs : List (Key × T)} {us : List (Key × V)}, RepK K S kvs us → (kvs.any fun kv => decide (kv.1 = k)) = us.any fun kv => decide (kv.1 = k)
  | [], us, r => by rw [r.nilT]; rfl
  | p :: kvs, us, r => by
    obtain ⟨u, us', rfl, r1, r2⟩ := r.consT
    rw [List.any_cons, List.any_cons, RepK.any k r2]
theorem RepK.repl (k : Key) {t : T} {v : V} (q : Rep K S t v) : ∀ {kvs : List (Key × T)} {us : List (Key × V)}, RepK K S kvs us → RepK K S (kvs.map (fun kv => if kv.1 = k then (kv.1, t) else kv)) (us.map (fun kv => if kv.1 = k then (kv.1, v) else kv))
  | [], us, r => by rw [r.nilT]; exact .nil
  | p :: kvs, us, r => by
    obtain ⟨u, us', rfl, r1, r2⟩ := r.consT
    rw [List.map_cons, List.map_cons]
    by_cases h : p.1 = k
    · rw [if_pos h, if_pos h]
      exact (RepK.repl k q r2).cons q
    · rw [if_neg h, if_neg h]
      exact (RepK.repl k q r2).cons r1
theorem RepK.snoc (k : Key) {t : T} {v : V} (q : Rep K S t v) : ∀ {kvs : List (Key × T)} {us : List (Key × V)}, RepK K S kvs us → RepK K S (kvs ++ [(k, t)]) (us ++ [(k, v)])
  | [], us, r => by rw [r.nilT]; exact RepK.nil.cons q
  | p :: kvs, us, r => by
    obtain ⟨u, us', rfl, r1, r2⟩ := r.consT
    exact (RepK.snoc k q r2).cons r1
theorem RepK.put (k : Key) {t : T} {v : V} (q : Rep K S t v) {kvs : List (Key × T)} {us : List (Key × V)} (r : RepK K S kvs us) : RepK K S (dPut kvs k t) (putK us k v) := by
  unfold dPut putK
  rw [r.any k]
  split
  · exact r.repl k q
  · exact r.snoc k q
theorem _root_.L2.DGet.r {H : Hp} {a : Addr} {us : List (Key × V)} {k : Key} (e : Rd H a (.dK us)) : DGet H a (kV k) (valV us k) := .inl ⟨us, k, e, rfl, rfl⟩
theorem RepK.isSome (k : Key) {kvs : List (Key × T)} {us : List (Key × V)} (r : RepK K S kvs us) : (valV us k).isSome = (dLook kvs k).isSome := by
  rcases r.look k with ⟨a, b⟩ | ⟨t, v, a, b, _⟩
  · rw [a, b]; rfl
  · rw [a, b]; rfl
end
section
variable {X : Cx} {XE : XK}
def inD : T → T → Mem → Out T := fun x y M => match dicOf y M with
  | some kvs => match keyT x with
    | some k => .ok (.bl (dLook kvs k).isSome) M
    | none => .bad
  | none => inA x y M
def ninD : T → T → Mem → Out T := fun x y M => match dicOf y M with
  | some kvs => match keyT x with
    | some k => .ok (.bl (!(dLook kvs k).isSome)) M
    | none => .bad
  | none => ninA x y M
def setD (o i t : T) (M : Mem) : Out Unit := match o, keyT i with
  | .ref a, some k => match M[a]? with
    | some (.dic kvs) => if kvs.length < sizeLine then .ok () (M.set a (.dic (dPut kvs k t))) else .bad
    | _ => setT o i t M
  | _, _ => setT o i t M
def ixD : T → T → Mem → Out T := fun x y M => match dicOf x M with
  | some kvs => match keyT y with
    | some k => optT (dLook kvs k) M
    | none => .bad
  | none => ixT x y M
def getD : T → T → Mem → Out T := fun x y M => match dicOf x M with
  | some kvs => match keyT y with
    | some k => optT (dLook kvs k) M
    | none => .bad
  | none => getL x y M
def lenD : T → Mem → Out T := fun t M => match dicOf t M with
  | some kvs => .ok (.int kvs.length) M
  | none => lenK t M
def eDic : Ev → Mem → Out T := fun _ M => .ok (.ref M.length) (M ++ [.dic []])
def lMt (XE : XK) (K : PySem.W.Frag) (F : T → List T → Mem → Out T) : V → List V → Hp → VK → Prop := fun x xs H Q => L0 XE (Rep K) K (PrR (Rep K) (Reps K)) (fun a M => F a.1 a.2 M) (x, xs) H Q
def eMethC (chk : T → Mem → Bool) (F : T → List T → Mem → Out T) (f : Ev → Mem → Out T) (g : Ev → Mem → Out (List T)) : Ev → Mem → Out T := fun σ M => (f σ M).bind fun x M1 => if chk x M1 = true then (g σ M1).bind fun ts M2 => F x ts M2 else .bad
def isDic (t : T) (M : Mem) : Bool := (dicOf t M).isSome
def dgetK : T → List T → Mem → Out T := fun d ts M => match dicOf d M, ts with
  | some kvs, [y] => match keyT y with
    | some k => .ok ((dLook kvs k).getD .non) M
    | none => .bad
  | some kvs, [y, z] => match keyT y with
    | some k => .ok ((dLook kvs k).getD z) M
    | none => .bad
  | _, _ => .bad
theorem RepK.getD {K : PySem.W.Frag} {S : Sit} {kvs : List (Key × T)} {us : List (Key × V)} (r : RepK K S kvs us) (k : Key) {z : T} {w : V} (q : Rep K S z w) : Rep K S ((dLook kvs k).getD z) ((valV us k).getD w) := by
  rcases r.look k with ⟨a, b⟩ | ⟨t, v, a, b, h⟩
  · rw [a, b]; exact q
  · rw [a, b]; exact h
end
end FT
namespace L2
open PySem PySem.Spec PySem.W PyProof.Rows
section
variable {X : Cx}
end
end L2
namespace FT
open PySem PySem.Spec PyProof.Rows L2
def insI (x : Int) : List Int → List Int
  | [] => [x]
  | y :: ys => if x ≤ y then x :: y :: ys else y :: insI x ys
def srtI : List Int → List Int
  | [] => []
  | x :: xs => insI x (srtI xs)
theorem Reps.ints {K : PySem.W.Frag} {S : Sit} : ∀ ns : List Int, Reps K S (ns.map T.int) (ns.map V.int)
  | [] => .nil
  | n :: ns => (Reps.ints ns).cons (.int n)
def tK : Key → T
  | .inl i => .int i
  | .inr x => .str x
theorem tK_rep {K : PySem.W.Frag} {S : Sit} (k : Key) : Rep K S (tK k) (kV k) := by
  cases k with
  | inl i => exact .int i
  | inr x => exact .str x
theorem Reps.keys {K : PySem.W.Frag} {S : Sit} : ∀ ks : List Key, Reps K S (ks.map tK) (ks.map kV)
  | [] => .nil
  | k :: ks => (Reps.keys ks).cons (tK_rep k)
section
variable {X : Cx} {XE : XK}
def sortedL : List T → Mem → Out (List T) := fun ts M => match ts with
  | [t] => match lstOf t M with
    | some xs => match inOf xs with
      | some ns => if ns.length < 64 then .ok ((srtI ns).map .int) M else .bad
      | none => .bad
    | none => .bad
  | _ => .bad
def listDK : List T → Mem → Out (List T) := fun ts M => match ts with
  | [t] => match dicOf t M with
    | some kvs => .ok ((kvs.map (·.1)).map tK) M
    | none => listK [t] M
  | _ => .bad
def intK : T → Mem → Out T := fun t M => match t with
  | .bl b => .ok (.int (if b then 1 else 0)) M
  | _ => .bad
theorem call_intK : CallR X (.type "int") (lRN XE X.K (call1 intK)) := call1_mk fun pins s σ S t x v Q I rx m r fin => by
  unfold intK at fin
  split at fin
  · cases r
    cases (show v = Value.bool _ from rx)
    exact call_int_bool ⟨.int _, S.H, I.tok _, ⟨_, rfl⟩, fin S _ rfl (.refl m) (.int _)⟩
  · exact fin.elim
end
end FT
namespace FT
open PySem PySem.Spec PyProof.Rows L2
def SubL (m : List (Str × Addr)) : List (Str × Addr) → Prop
  | [] => True
  | c :: l => m.lookup c.1 = some c.2 ∧ SubL m l
theorem look_sub : ∀ {l m : List (Str × Addr)}, SubL m l → ∀ x a, l.lookup x = some a → m.lookup x = some a
  | [], _, _, _, _, h => by cases h
  | (y, b) :: l, m, g, x, a, h => by
    rw [List.lookup_cons] at h
    split at h
    · rename_i e
      cases h
      rw [eq_of_beq e]
      exact g.1
    · exact look_sub g.2 x a h
end FT
namespace L2
open PySem PySem.Spec
open PySem.Sem (wp)
end L2
namespace L2
open PySem PySem.Spec
open PySem.Sem (wp)
section
variable {prog : Program} {w : World} {K : Type} [DecidableEq K] {knd : KeyKind prog w K} {A : Around} {I : Addr} {fp wr : List Addr} {G : Array GenState → Array GenState → Prop} {n : Nat} {St : Nat → Shared → Prop} {R : Result → Shared → Prop}
def PairsAt (knd : KeyKind prog w K) (D : Addr) (wr : List Addr) (its : List Value) (prs : List (K × Value)) (h : Heap) : Prop :=
  ∀ (i : Nat) v, its[i]? = some v → ∃ b key p, prs[i]? = some p ∧ v = .ref b ∧ b ∉ D :: wr ∧ knd.is p.1 key = true ∧ h.IsTuple b #[key, p.2]
theorem PairsAt.kept {D : Addr} {its : List Value} {prs : List (K × Value)} {h h' : Heap} (x : PairsAt knd D wr its prs h) (k : ∀ b o, b ∉ D :: wr → h.get? b = some o → h'.get? b = some o) : PairsAt knd D wr its prs h' := fun i v e => by
  obtain ⟨b, key, p, e1, e2, e3, e4, o, e5, e6⟩ := x i v e
  exact ⟨b, key, p, e1, e2, e3, e4, o, k b o e3 e5, e6⟩
end
end L2
namespace L2
open PySem PySem.Spec PySem.W PyProof.Rows
section
variable {X : Cx}
end
end L2
namespace FT
open PySem PySem.Spec PyProof.Rows L2
def prOf : List T → Option (List (Key × T))
  | [] => some []
  | .tup [a, b] :: r => match keyT a, prOf r with
    | some k, some ps => some ((k, b) :: ps)
    | _, _ => none
  | _ => none
def dMerge (kvs prs : List (Key × T)) : List (Key × T) := prs.foldl (fun acc kv => dPut acc kv.1 kv.2) kvs
section
variable {X : Cx} {XE : XK}
def dictK : T → Mem → Out T := fun t M => match lstOf t M with
  | some xs => match prOf xs with
    | some prs => .ok (.ref M.length) (M ++ [.dic (dMerge [] prs)])
    | none => .bad
  | none => .bad
end
end FT
namespace L2
open PySem PySem.Spec
open PySem.Sem (wp)
end L2
namespace L2
open PySem PySem.Spec
open PySem.Sem (wp)
section
variable {prog : Program} {w : World} {K : Type} [DecidableEq K] {knd : KeyKind prog w K}
end
end L2
namespace L2
open PySem PySem.Spec PySem.W PyProof.Rows
section
variable {X : Cx}
end
end L2
namespace FT
open PySem PySem.Spec PyProof.Rows L2
section
variable {X : Cx} {XE : XK}
def dictT : T → Mem → Out T := fun t M => match t with
  | .tup xs => match prOf xs with
    | some prs => .ok (.ref M.length) (M ++ [.dic (dMerge [] prs)])
    | none => .bad
  | _ => dictK t M
end
end FT
namespace L2
open PySem PySem.Spec
section
variable {X : Cx}
open PyProof.Rows
def tTupR (ta : TA) : TE := fun σ H Q => ta σ H fun vs H1 => ∃ j : Int, vs = [.int j] ∧ -(2 ^ 62) ≤ j ∧ j ≤ 2 ^ 24 ∧ ∀ l, H1 l = none → Q (.ref l) (upd H1 l (.tup ((List.range j.toNat).map fun (i : Nat) => V.int (i : Int))))
end
end L2
namespace FT
open PySem PySem.Spec PyProof.Rows L2
noncomputable def tupR : List T → Mem → Out T := fun ts M => match ts with
  | [.int j] => @ite _ (-(2 ^ 62) ≤ j ∧ j ≤ 2 ^ 24) (Classical.propDecidable _) (.ok (.tup ((List.range j.toNat).map fun (i : Nat) => T.int (i : Int))) M) .bad
  | _ => .bad
theorem Reps.rng {K : PySem.W.Frag} {S : Sit} (n : Nat) : Reps K S ((List.range n).map fun (i : Nat) => T.int (i : Int)) ((List.range n).map fun (i : Nat) => V.int (i : Int)) := by
  have h := Reps.ints (K := K) (S := S) ((List.range n).map fun (i : Nat) => (i : Int))
  rw [List.map_map, List.map_map] at h
  exact h
section
variable {X : Cx} {XE : XK}
end
end FT
namespace FT
open PySem PySem.Spec PyProof.Rows L2
section
variable {X : Cx} {XE : XK} {e : Expr} {f : Ev → Mem → Out T} {pos : Pos}
end
end FT
namespace FT
open PySem PySem.Spec PyProof.Rows L2
def forR (bd : T → Ev → Mem → Out Ev) (body : Ev → Mem → Out Fl) (a : Nat) : Nat → Nat → Ev → Mem → Out Fl
  | 0, i, σ, M => match M[a]? with
    | some (.lst xs) => if xs.length ≤ i then .ok (.nx σ) M else .bad
    | _ => .bad
  | n + 1, i, σ, M => match M[a]? with
    | some (.lst xs) => match xs[i]? with
      | some x => (bd x σ M).bind fun σ1 M1 => (body σ1 M1).bind (loopF (forR bd body a n (i + 1)))
      | none => .ok (.nx σ) M
    | _ => .bad
def walkR (bd : T → Ev → Mem → Out Ev) (body : Ev → Mem → Out Fl) (t : T) (σ : Ev) (M : Mem) : Out Fl := match t with
  | .ref a => match M[a]? with
    | some (.lst xs) => forR bd body a xs.length 0 σ M
    | _ => .bad
  | _ => .bad
def sForR (f : Ev → Mem → Out T) (bd : T → Ev → Mem → Out Ev) (body : Ev → Mem → Out Fl) : Ev → Mem → Out Fl := fun σ M => (f σ M).bind fun t M1 => walkR bd body t σ M1
section
variable {X : Cx} {XE : XK} {e tg : Expr} {f : Ev → Mem → Out T} {pos : Pos} {sts : List Stmt} {p : Ev → Mem → Out Fl}
end
theorem forR_inv {bd : T → Ev → Mem → Out Ev} {body : Ev → Mem → Out Fl} {a : Nat} {xs : List T} (P : Nat → Ev → Mem → Prop) (hP : ∀ k σ M, P k σ M → M[a]? = some (.lst xs))
    (t : ∀ k x σ M, xs[k]? = some x → P k σ M → ∃ σ' M', ((bd x σ M).bind fun σ1 M1 => body σ1 M1) = .ok (.nx σ') M' ∧ P (k + 1) σ' M') : ∀ n i, i + n = xs.length → ∀ σ M, P i σ M → ∃ σ' M', forR bd body a n i σ M = .ok (.nx σ') M' ∧ P xs.length σ' M'
  | 0, i, hi, σ, M, h => by
    have hM := hP i σ M h
    refine ⟨σ, M, ?_, by rw [← hi]; exact h⟩
    unfold forR
    rw [hM]
    exact if_pos (by omega)
  | n + 1, i, hi, σ, M, h => by
    have hM := hP i σ M h
    have hx : xs[i]? = some xs[i] := by simp [show i < xs.length by omega]
    obtain ⟨σ1, M1, e1, h1⟩ := t i _ σ M hx h
    obtain ⟨σ2, M2, e2, h2⟩ := forR_inv P hP t n (i + 1) (by omega) σ1 M1 h1
    refine ⟨σ2, M2, ?_, h2⟩
    unfold forR
    rw [hM]
    simp only [hx]
    cases q : bd xs[i] σ M with
    | bad => rw [q] at e1; cases e1
    | exn C fs M' => rw [q] at e1; cases e1
    | ok σ3 M3 =>
      rw [q] at e1
      replace e1 : body σ3 M3 = .ok (.nx σ1) M1 := e1
      show (body σ3 M3).bind (loopF (forR bd body a n (i + 1))) = _
      rw [e1]
      exact e2
end FT
namespace FT
open PySem PySem.Spec PyProof.Rows L2
def countK : T → List T → Mem → Out T := fun x ts M => match ts with
  | [.int k] => match lstOf x M with
    | some xs => match inOf xs with
      | some ns => .ok (.int (ns.count k : Nat)) M
      | none => .bad
    | none => .bad
  | _ => .bad
def isLst (t : T) (M : Mem) : Bool := (lstOf t M).isSome
section
variable {X : Cx} {XE : XK}
end
end FT
namespace L2
open PySem PySem.Spec PySem.W PyProof.Rows
def mxI (ns : List Int) : Int := ns.getD (argBest (fun i j => decide (ns.getD i 0 > ns.getD j 0)) (ns.length - 1)) 0
def mnI (ns : List Int) : Int := ns.getD (argBest (fun i j => decide (ns.getD i 0 < ns.getD j 0)) (ns.length - 1)) 0
section
variable {X : Cx}
def tLstR2 (ta : TA) : TE := fun σ H Q => ta σ H fun vs H1 => ∃ i j : Int, vs = [.int i, .int j] ∧ ((-(2 ^ 62) ≤ i ∧ i < 2 ^ 62) ∧ (-(2 ^ 62) ≤ j ∧ j < 2 ^ 62)) ∧ j - i ≤ 2 ^ 24 ∧ ∀ l, H1 l = none → Q (.ref l) (upd H1 l (.lst ((List.range (j - i).toNat).map fun (k : Nat) => V.int (i + (k : Int)))))
def tMaxV (to : TE) : TE := fun σ H Q => to σ H fun x H1 => ∃ (p : Addr) (kvs : List (Key × V)) (ns : List Int), x = .ref p ∧ Rd H1 p (.dK kvs) ∧ kvs.map (·.2) = ns.map V.int ∧ ns ≠ [] ∧ Q (.int (mxI ns)) H1
end
end L2
namespace FT
open PySem PySem.Spec PyProof.Rows L2
def maxL : T → Mem → Out T := fun t M => match lstOf t M with
  | some xs => match inOf xs with
    | some ns => if ns = [] then .bad else .ok (.int (mxI ns)) M
    | none => .bad
  | none => .bad
def minL : T → Mem → Out T := fun t M => match lstOf t M with
  | some xs => match inOf xs with
    | some ns => if ns = [] then .bad else .ok (.int (mnI ns)) M
    | none => .bad
  | none => .bad
def maxV : T → Mem → Out T := fun t M => match dicOf t M with
  | some kvs => match inOf (kvs.map (·.2)) with
    | some ns => if ns = [] then .bad else .ok (.int (mxI ns)) M
    | none => .bad
  | none => .bad
noncomputable def lr2 (ts : List T) (M1 : Mem) : Out (List T) := match ts with
  | [.int i, .int j] => @ite _ (((-(2 ^ 62) ≤ i ∧ i < 2 ^ 62) ∧ (-(2 ^ 62) ≤ j ∧ j < 2 ^ 62)) ∧ j - i ≤ 2 ^ 24) (Classical.propDecidable _) (.ok (rngT i (j - i).toNat) M1) .bad
  | _ => .bad
noncomputable def lstR2 (ga : Ev → Mem → Out (List T)) : Ev → Mem → Out (List T) := fun σ M => (ga σ M).bind fun ts M1 => lr2 ts M1
section
variable {X : Cx} {XE : XK}
end
end FT
namespace L2
open PySem PySem.Spec PySem.W PyProof.Rows
section
variable {prog : Program} {w : World} {A : Around} {E : Value → Shared → Prop} {s : Shared}
theorem tupNext_item {q t : Addr} {i : Nat} {items : Array Value} {x : Value} {Q : Value → Shared → Prop} (hit : s.heap.IsTupleIter q t i) (ht : s.heap.IsTuple t items) (hx : items[i]? = some x)
    (hQ : ∀ k, k.IsTupleIter q t (i + 1) → Heap.SameBut q s.heap k → Q x { s with heap := k }) : wpAny (model prog w) A (Builtin.SmallTypes.nextOf (.ref q)) Q E s := by
  obtain ⟨o, ho, cc, dd⟩ := id hit
  obtain ⟨o2, ho2, _, n2, dd2⟩ := ht
  unfold Builtin.SmallTypes.nextOf
  refine wpAny_bind (wpAny_callSpecial?_slot (name := Str.ofString "__next__") hit.typeIs PySem.F.slot_tuple_iterator_next (wpAny_call_entry PySem.F.slot_tuple_iterator_next hit.typeIs PySem.F.entry_tuple_iterator_next ?_ (PySem.F.args_tuple_iterator_next_1 _)))
  refine (show wpAny _ _ (field (.ref q) 0 >>= _) _ _ s from wpAny_bind (wpAny_field ho dd (x := .ref t) rfl ?_))
  refine (show wpAny _ _ (if (Value.ref t == Value.none) = true then _ else _) _ _ s from ?_)
  rw [if_neg (show ¬ (Value.ref t == Value.none) = true from Bool.false_ne_true)]
  refine (show wpAny _ _ (field (.ref q) 1 >>= _) _ _ s from wpAny_bind (wpAny_field ho dd (x := .int i 0) rfl ?_))
  refine (show wpAny _ _ (seqItems? (.ref t) >>= _) _ _ s from wpAny_bind (wpAny_seqItems ho2 dd2 ?_))
  simp only [hx, Int.toNat_natCast]
  refine wpAny_bind (wpAny_setField ho dd (by simp) (wpAny_pure ⟨_, rfl, wpAny_pure (hQ _ ⟨_, Heap.get?_update_self _ ho (Obj.isFreed_of_fields (Obj.data_mapFields dd _)), (Obj.cls_mapFields ..).trans cc, ?_⟩ (Heap.SameBut.update ..))⟩))
  rw [Obj.data_mapFields dd]
  simp [rawInt]
theorem tupNext_end {q t : Addr} {i : Nat} {items : Array Value} {Q : Value → Shared → Prop} (hh : A.handled = none) (hit : s.heap.IsTupleIter q t i) (ht : s.heap.IsTuple t items) (hx : items[i]? = none)
    (hE : ∀ k e, Heap.ExtBut q s.heap k → (∃ o, k.get? e = some o ∧ o.cls = .type "StopIteration") → E (.ref e) { s with heap := k }) : wpAny (model prog w) A (Builtin.SmallTypes.nextOf (.ref q)) Q E s := by
  obtain ⟨o, ho, cc, dd⟩ := id hit
  obtain ⟨o2, ho2, _, n2, dd2⟩ := ht
  unfold Builtin.SmallTypes.nextOf
  refine wpAny_bind (wpAny_callSpecial?_slot (name := Str.ofString "__next__") hit.typeIs PySem.F.slot_tuple_iterator_next (wpAny_call_entry PySem.F.slot_tuple_iterator_next hit.typeIs PySem.F.entry_tuple_iterator_next ?_ (PySem.F.args_tuple_iterator_next_1 _)))
  refine (show wpAny _ _ (field (.ref q) 0 >>= _) _ _ s from wpAny_bind (wpAny_field ho dd (x := .ref t) rfl ?_))
  refine (show wpAny _ _ (if (Value.ref t == Value.none) = true then _ else _) _ _ s from ?_)
  rw [if_neg (show ¬ (Value.ref t == Value.none) = true from Bool.false_ne_true)]
  refine (show wpAny _ _ (field (.ref q) 1 >>= _) _ _ s from wpAny_bind (wpAny_field ho dd (x := .int i 0) rfl ?_))
  refine (show wpAny _ _ (seqItems? (.ref t) >>= _) _ _ s from wpAny_bind (wpAny_seqItems ho2 dd2 ?_))
  simp only [hx, Int.toNat_natCast]
  refine wpAny_bind (wpAny_rule (wpAny_bind (wpAny_setField ho dd (by simp) ?_)))
  refine (show wpAny _ _ (newExc (.type "StopIteration") [] >>= _) _ _ _ from wpAny_bind ?_)
  simp only [newTuple, newExc]
  refine wpAny_bind (wpAny_newObj_type (wpAny_bind (m := firstArgMember _ _) (wpAny_of_eq (a := Value.none) (by first | rfl | (simp only [firstArgMember]; rfl)) (wpAny_newObj_type ?_ (by size_fits)))) (by size_fits))
  simp only [raiseNew]
  refine wpAny_bind (wpAny_handled ?_)
  first | rw [show A.in1.handled = none from hh] | rw [hh]
  exact wpAny_bind (wpAny_pure (wpAny_throw (hE _ _ (((Heap.SameBut.update ..).extBut.push _).push _) ⟨_, Heap.get?_push_size _ rfl, rfl⟩)))
theorem draws_tuple (hh : A.handled = none) (q t : Addr) (hne : t ≠ q) (items : Array Value) : Draws prog w A q [q, t] items.size (fun i v => items[i]? = some v) (fun i h => h.IsTupleIter q t i ∧ h.IsTuple t items) where
  live := fun _ _ st => let ⟨o, ho, _⟩ := st.1; ⟨o, ho⟩
  frame := fun _ _ _ st hk => ⟨st.1.at fun o e => hk q (by simp) o e, let ⟨o, ho, r⟩ := st.2; ⟨o, hk t (by simp) o ho, r⟩⟩
  item := fun i s Q E hi st hQ => tupNext_item st.1 st.2 (x := items[i]) (by simp [hi]) fun k a b => hQ _ k s.toks (by simp [hi]) ⟨a, let ⟨o, ho, r⟩ := st.2; ⟨o, (b.2 t hne).trans ho, r⟩⟩ b
  done := fun s Q E st hE => tupNext_end hh st.1 st.2 (by simp) hE
end
end L2
namespace L2
open PySem PySem.Spec PySem.W PyProof.Rows
abbrev tupIt (l : Addr) : Obj := { cls := .type "tuple_iterator", data := .fields #[.ref l, .int 0 0] }
abbrev enObj (q : Addr) : Obj := { cls := .type "enumerate", data := .fields #[.none, .bool false, .ref q, rawInt 0, .none, .none] }
theorem meets_enumT (l : Addr) (items : Array Value) : Meets (Builtin.«enumerate.__new__» ⟨[.type "enumerate", .ref l], []⟩) (fun _ R s => s.heap.IsTuple l items ∧ R (.ok (.ret (.ref (s.heap.push (tupIt l)).objs.size))) { s with heap := (s.heap.push (tupIt l)).push (enObj s.heap.objs.size) }) :=
  .of_wp fun prog w A R s h => by
    obtain ⟨hp, g, d, tk, os⟩ := s
    obtain ⟨ht, h⟩ := h
    have se := sub_enumerate
    obtain ⟨⟨cl, di, da, sl⟩, ho, hc, n, hd⟩ := id ht
    simp only at hc hd
    subst hc hd
    wp_walk using AutoSeq1.wpAny_loadPart' ho
    refine wpAny_stack_any fun st => wpAny_pure ?_
    split
    · rename_i c _ _ _ _ _
      cases (c == Value.type "enumerate") <;> (wp_walk using AutoSeq1.wpAny_loadPart' ho, wpAny_pyIter_tuple ht; exact ⟨_, rfl, h⟩)
    · wp_walk using AutoSeq1.wpAny_loadPart' ho, wpAny_pyIter_tuple ht
      exact ⟨_, rfl, h⟩
section
variable {prog : Program} {w : World} {A : Around} {E : Value → Shared → Prop} {s : Shared}
theorem call_enumT {l : Addr} {items : Array Value} {Q : Value → Shared → Prop} (hl : s.heap.IsTuple l items)
    (h : ∀ k, IsEnum k (s.heap.objs.size + 1) s.heap.objs.size 0 .none → k.IsTupleIter s.heap.objs.size l 0 → k.objs.size = s.heap.objs.size + 2 → (∀ b o, s.heap.get? b = some o → k.get? b = some o) → Q (.ref (s.heap.objs.size + 1)) { s with heap := k }) :
    wpAny (model prog w) A (call (.type "enumerate") [.ref l]) Q E s := by
  have hz : (s.heap.push (tupIt l)).objs.size = s.heap.objs.size + 1 := Heap.size_push ..
  have he : IsEnum ((s.heap.push (tupIt l)).push (enObj s.heap.objs.size)) (s.heap.objs.size + 1) s.heap.objs.size 0 .none := by
    rw [← hz]; exact Heap.get?_push_size _ rfl
  refine callType_new PySem.F.called_enumerate (by decide) (PySem.F.typeCall_enumerate_1 _) (PySem.F.newCall_enumerate_1 _) (fun obj => PySem.F.args_object_init_2 obj _) PySem.F.entry_enumerate_new (meets_enumT l items) ⟨hl, ?_⟩
  show _ ∧ _
  rw [hz]
  exact ⟨⟨_, he, rfl⟩, h _ he ⟨_, Heap.get?_push_of_some _ (Heap.get?_push_size _ rfl), rfl, rfl⟩ (by rw [Heap.size_push, hz]) fun b o e => Heap.get?_push_of_some _ (Heap.get?_push_of_some _ e)⟩
end
end L2
namespace L2
open PySem PySem.Spec PySem.W PyProof.Rows
section
variable {X : Cx} {pins : List (Addr × Obj)} {σ : St} {H : Hp} {s : Shared} {h' : Heap}
theorem Inv.turned2 {t' : Nat} {e it : Addr} (I : Inv X pins σ H s) (k : ∀ b o, b ≠ e → b ≠ it → s.heap.get? b = some o → h'.get? b = some o) (fe : FpOk X pins H e) (fi : FpOk X pins H it) : Inv X pins σ H { s with heap := h', toks := t' } := by
  have ne : ∀ b u, H b = some u → b ≠ e := fun b u q z => by rw [z, fe.1] at q; cases q
  have ni : ∀ b u, H b = some u → b ≠ it := fun b u q z => by rw [z, fi.1] at q; cases q
  have kk : ∀ b o, b ∉ [e, it] → s.heap.get? b = some o → h'.get? b = some o := fun b o hc q => k b o (fun z => hc (by simp [z])) (fun z => hc (by simp [z])) q
  refine I.step (g' := s.gens) (d' := s.drawn) (ch := [e, it]) (fun b hb => ?_) (fun b o _ _ hc q _ => kk b o hc q) (fun b o _ _ hc q _ => ⟨o.slots, kk b o hc q⟩) (fun _ _ _ _ n => n)
    (fun b o hc q => ⟨o, kk b o hc q⟩) (fun _ _ q => q) (fun _ _ _ q => q) (fun b ps q => ⟨#[], by rw [q]; simp⟩) (fun m hm => ?_) (fun b u q => ?_) I.bare
  · rcases List.mem_cons.mp hb with z | z
    · subst z; exact ⟨fe.2.2.2.1, fe.2.1, fe.2.2.2.2.1, fe.2.2.2.2.2⟩
    · have z := List.mem_singleton.mp z
      subst z; exact ⟨fi.2.2.2.1, fi.2.1, fi.2.2.2.2.1, fi.2.2.2.2.2⟩
  · obtain ⟨o, es, ep, ho, r⟩ := hm
    exact ⟨o, es, ep, k _ o (Ne.symm fe.2.1) (Ne.symm fi.2.1) ho, r⟩
  · refine (I.hok b u q).stay (fun c v hc z => k c v ?_ ?_ z) (fun _ z => z) fun _ _ z => z
    · rcases hc with z | z
      · rw [z]; exact ne b u q
      · exact ne c _ z
    · rcases hc with z | z
      · rw [z]; exact ni b u q
      · exact ni c _ z
end
def Ite (K : PySem.W.Frag) (a : Addr) : It :=
  ⟨fun i H => ∃ xs x, SqT K H a xs ∧ xs[i]? = some x, fun i H y H' => ∃ p x, H p = none ∧ y = .ref p ∧ H' = upd H p (.tup [.int (i : Int), x]) ∧ ∀ xs, SqT K H a xs → xs[i]? = some x, fun i H => ∃ xs, SqT K H a xs ∧ xs.length ≤ i⟩
theorem turn_enumT {P : Program} {w : World} {K : PySem.W.Frag} {elts : List Expr} {x1} {pos : Pos} (a e it : Addr) (hne : e ≠ it) (hae : a ≠ e) (hai : a ≠ it) :
    Turn P w K (.Tuple elts x1 pos) (Ite K a) [e, it] e (fun i h => (∃ old, IsEnum h e it i old) ∧ h.IsTupleIter it a i) where
  mem := by simp
  obj := fun i h st b hb => by
    rcases List.mem_cons.mp hb with z | z
    · subst z
      obtain ⟨old, q⟩ := st.1
      exact ⟨_, q, fun v z => by cases z⟩
    · have z := List.mem_singleton.mp z
      subst z
      obtain ⟨o, q, c, d⟩ := st.2
      exact ⟨o, q, fun v z => by rw [d] at z; cases z⟩
  keep := fun i h k st kk => ⟨let ⟨old, q⟩ := st.1; ⟨old, kk e (by simp) _ q⟩, st.2.at fun o q => kk it (by simp) o q⟩
  item := by
    intro X hP hw hK hc i pins s σ H E I hf st hg
    subst hP hw hK
    obtain ⟨xs, x, hq, hx⟩ := hg
    obtain ⟨its, rv, p, hz⟩ := I.tuple hq
    obtain ⟨u, hu, ru⟩ := rv.get hx
    obtain ⟨⟨old, he⟩, hi⟩ := st
    have hl : i < its.toArray.size := by simpa using (List.getElem?_eq_some_iff.mp hu).1
    have D := draws_tuple (prog := X.prog) (w := X.w) (A := X.A.in1) (by exact I.ok.hd hc) it a hai its.toArray
    refine wpAny_pyNext_enum_itemD D he ⟨hi, show s.heap.IsTuple a its.toArray from p⟩ hl hne (by simp [hne, Ne.symm hae]) fun y k tk hy out st' htup hsz hk => ?_
    have hy' : y = u := by
      have : its[i]? = some y := by simpa using hy
      rw [hu] at this
      exact (Option.some.inj this).symm
    subst hy'
    refine ⟨.ref s.heap.objs.size, rfl, wpAny_letOwnedTupleGo_enum (s := { s with heap := k, toks := tk + 1 }) out fun k2 en2 sb => ?_⟩
    have fe := hf e (by simp)
    have fi := hf it (by simp)
    have eS : e ≠ s.heap.objs.size := Nat.ne_of_lt (Heap.lt_size he)
    have iS : it ≠ s.heap.objs.size := by
      obtain ⟨o, q, _⟩ := hi
      exact Nat.ne_of_lt (Heap.lt_size q)
    have IA := I.laid (h' := s.heap.push { cls := .type "tuple", data := .seq #[.int i tk, y] }) (t' := tk + 1) (a := s.heap.objs.size) (o := .tup [.int (i : Int), x]) (fun b o q => Heap.get?_push_of_some _ q) (Nat.le_refl _) (show ObjOk X.prog X.w _ _ _ (.tup [.int (i : Int), x]) from ⟨by show 2 ≤ sizeLine; rw [sizeLine_eq]; omega, [.int i tk, y], .cons ⟨tk, rfl⟩ (.cons ru .nil), by have := IsTup.new s.heap #[.int i tk, y]; simpa using this, NoDict.new⟩)
    have up : ∀ b, b ≠ s.heap.objs.size → (upd H s.heap.objs.size (.tup [.int (i : Int), x])) b = H b := fun b hb => if_neg hb
    have IB := IA.turned2 (t' := tk + 1) (h' := k2) (e := e) (it := it) (fun b o hbe hbi q => by
      rcases Heap.get?_push_cases q with ⟨z1, z2⟩ | q
      · subst z1; subst z2
        exact (sb.2 _ (Ne.symm eS)).trans htup
      · exact (sb.2 b hbe).trans (hk b o hbe hbi q)) ⟨by rw [up e eS]; exact fe.1, fe.2⟩ ⟨by rw [up it iS]; exact fi.1, fi.2⟩
    refine ⟨.ref s.heap.objs.size, _, IB, rfl, ⟨s.heap.objs.size, x, I.hok.fresh (Nat.le_refl _), rfl, rfl, fun ys hys => by rw [I.tuple_inj hys hq]; exact hx⟩, ⟨⟨_, by push_cast at en2 ⊢; exact en2⟩, ?_⟩, fun b hb => ?_⟩
    · obtain ⟨o, q, r⟩ := st'.1
      exact ⟨o, (sb.2 it (Ne.symm hne)).trans q, r⟩
    · rcases List.mem_cons.mp hb with z | z
      · subst z; rw [up _ eS]; exact fe.1
      · have z := List.mem_singleton.mp z
        subst z; rw [up _ iS]; exact fi.1
  done := by
    intro X hP hw hK hc i pins s σ H E I hf st hg
    subst hP hw hK
    obtain ⟨xs, hq, hx⟩ := hg
    obtain ⟨its, rv, p, hz⟩ := I.tuple hq
    obtain ⟨⟨old, he⟩, hi⟩ := st
    obtain ⟨f0, f1, f2, f3, f4, f5⟩ := hf it (by simp)
    have hl := rv.length
    have D : Draws X.prog X.w X.A.in1 it [it, a] i (fun _ _ => True) (fun j h => j = i ∧ h.IsTupleIter it a i ∧ h.IsTuple a its.toArray) := {
      live := fun _ _ st => let ⟨o, ho, _⟩ := st.2.1; ⟨o, ho⟩
      frame := fun _ _ _ st hk => ⟨st.1, st.2.1.at fun o q => hk it (by simp) o q, let ⟨o, ho, r⟩ := st.2.2; ⟨o, hk a (by simp) o ho, r⟩⟩
      item := fun j s Q E hj st hQ => absurd st.1 (Nat.ne_of_lt hj)
      done := fun s Q E st hE => tupNext_end (by exact I.ok.hd hc) st.2.1 st.2.2 (by simp; omega) hE }
    exact wpAny_pyNext_enum_endD D he ⟨rfl, hi, show s.heap.IsTuple a its.toArray from p⟩ fun k eb => ⟨rfl, I.turned (t' := s.toks) (fun b o hb q => eb b o hb q) f0 f1 f3 f4 f5⟩
  self := fun _ _ _ _ _ st h => let ⟨_, q⟩ := st.1; wpAny_pyIter_enum q h
section
variable {X : Cx}
def iEnT (K : PySem.W.Frag) (tl : TE) : TI := fun σ H R => tl σ H fun x H1 => ∃ a, x = .ref a ∧ (∃ xs, SqT K H1 a xs) ∧ R (Ite K a) H1
theorem pi_enumT {l : Expr} {tl : TE} {elts : List Expr} {x1} {tp p pos : Pos} (hg : Gl X "enumerate") (hm : X.mg "enumerate" = none) (hl : PE X l tl) (hs : starEach [l] X.env = [(false, eval l X.env)] := by rfl) :
    PI X (.Tuple elts x1 tp) (.Call (.Name "enumerate" p) [l] [] pos) (iEnT X.K tl) := by
  intro pins s σ H R I h
  refine Call_ (ld_blt I hg hm (show bootBuiltins "enumerate" = some (.type "enumerate") by decide +kernel) (PyProof.Rows.callWith_type1 ?_ hs rfl))
  rw [hs]
  refine Calls.spliced_cons (thn (hl pins s σ H _ I h) fun v s1 ⟨x, H1, I1, r1, q1⟩ => Calls.spliced_nil ?_)
  obtain ⟨a, e, ⟨xs, hq⟩, q⟩ := q1
  subst e
  cases r1
  obtain ⟨its, rv, pt, hz⟩ := I1.tuple hq
  have ha : a < s1.heap.objs.size := by
    obtain ⟨o, ho, _⟩ := pt
    exact Heap.lt_size ho
  refine call_enumT (show s1.heap.IsTuple a its.toArray from pt) fun k en ti hsz hk => ?_
  refine wpAny_pyIter_enum en ?_
  refine ⟨s1.heap.objs.size + 1, [s1.heap.objs.size + 1, s1.heap.objs.size], _, _, H1, rfl, I1.kept (t' := s1.toks) hk, turn_enumT a _ _ (Nat.ne_of_gt (Nat.lt_succ_self _)) (Nat.ne_of_lt (Nat.lt_succ_of_lt ha)) (Nat.ne_of_lt ha), ⟨⟨_, en⟩, ti⟩, fun b hb => ?_, q⟩
  rcases List.mem_cons.mp hb with z | z
  · subst z; exact I1.fpOk (Nat.le_succ _) (I1.hok.fresh (Nat.le_succ _))
  · have z := List.mem_singleton.mp z
    subst z; exact I1.fpOk (Nat.le_refl _) (I1.hok.fresh (Nat.le_refl _))
end
end L2
namespace FT
open PySem PySem.Spec PyProof.Rows L2
def enT (ts : List T) : List T := ts.mapIdx fun i t => .tup [.int (i : Int), t]
def iEnum (f : Ev → Mem → Out T) : Ev → Mem → Out (List T) := fun σ M => (f σ M).bind fun t M1 => match t with
  | .tup ts => .ok (enT ts) M1
  | _ => .bad
section
variable {X : Cx} {XE : XK}
theorem gi_enum {l : Expr} {f : Ev → Mem → Out T} {elts : List Expr} {x1} {tp p pos : Pos} (hg : Gl X "enumerate") (hm : X.mg "enumerate" = none) (he : GE X XE l f) (hs : noStar l = true := by rfl) :
    GI X XE (.Tuple elts x1 tp) (.Call (.Name "enumerate" p) [l] [] pos) (iEnum f) := PI.imp (pi_enumT hg hm he (star_cons hs)) fun σ H R ⟨S, στ, _, e, m, ev, _, fin⟩ => by
  replace fin : Fin XE (ItOk X.K) X.K S ((f στ S.M).bind fun t M1 => match t with | .tup ts => .ok (enT ts) M1 | _ => .bad) R := fin
  refine ⟨S, στ, (), e, m, ev, trivial, ?_⟩
  show Fin XE (Rep X.K) X.K S (f στ S.M) _
  cases o : f στ S.M with
  | bad => rw [o] at fin; exact fin.elim
  | exn C fs M' => rw [o] at fin; exact fin
  | ok t M1 =>
    rw [o] at fin
    cases t with
    | tup ts =>
      intro S1 v e1 s1 r1
      cases r1 with
      | @tup _ p vs h l r =>
        have r1 : Reps X.K S1 ts vs := ⟨l, r⟩
        refine ⟨p, rfl, ⟨vs, h⟩, fin S1 _ e1 s1 fun S3 s3 => ?_⟩
        have g3 : SqT X.K S3.H p vs := s3.toGrow.tup s1.mok h
        refine ⟨fun i t et => ?_, fun i hi => ⟨vs, g3, by rw [← l]; simpa [enT] using hi⟩⟩
        unfold enT at et
        rw [List.getElem?_mapIdx] at et
        obtain ⟨t0, et0, rfl⟩ := Option.map_eq_some_iff.mp et
        obtain ⟨v2, ev3, r3⟩ := r1.get et0
        refine ⟨⟨vs, v2, g3, ev3⟩, fun x H' hy => ?_⟩
        obtain ⟨q, y, hq, rfl, rfl, hy⟩ := hy
        have := hy vs g3
        rw [ev3] at this
        cases this
        have s4 := Stp.new s3.mok hq (.tup [.int (i : Int), v2])
        have r4 := (r3.grow s1.mok s3.toGrow).grow s3.mok s4.toGrow
        refine ⟨⟨S3.α, S3.M, upd S3.H q (.tup [.int (i : Int), v2]), S3.hid⟩, rfl, rfl, s4, ?_⟩
        have rr : Reps X.K ⟨S3.α, S3.M, upd S3.H q (.tup [.int (i : Int), v2]), S3.hid⟩ [.int (i : Int), t0] [.int (i : Int), v2] := .cons (.int _) (.cons r4 .nil)
        exact .tup (.inl (.inl upd_same)) rr.1 rr.2
    | _ => exact fin.elim
end
end FT
namespace FT
open PySem PySem.Spec PyProof.Rows L2
def sdefK : T → List T → Mem → Out T := fun d ts M => match d, ts with
  | .ref a, [y, z] => match M[a]?, keyT y with
    | some (.dic kvs), some k => match dLook kvs k with
      | some t => .ok t M
      | none => if kvs.length < sizeLine then .ok z (M.set a (.dic (dPut kvs k z))) else .bad
    | _, _ => .bad
  | _, _ => .bad
section
variable {X : Cx} {XE : XK}
end
end FT
namespace L2
open PySem PySem.Spec PySem.W PyProof.Rows
def revIx (n i : Nat) : Int := if i ≤ n then (n : Int) - 1 - (i : Int) else -1
def Itv (K : PySem.W.Frag) (a : Addr) (n : Nat) : It :=
  ⟨fun i H => i < n ∧ ∃ xs x, SqL K H a xs ∧ xs[n - 1 - i]? = some x, fun i H x H' => H' = H ∧ ∀ xs, SqL K H a xs → xs[n - 1 - i]? = some x, fun i _ => n ≤ i⟩
section
variable {X : Cx} {tg : Expr}
def iRevL (K : PySem.W.Frag) (tl : TE) : TI := fun σ H R => tl σ H fun x H1 => ∃ a xs, x = .ref a ∧ SqL K H1 a xs ∧ R (Itv K a xs.length) H1
end
end L2
namespace FT
open PySem PySem.Spec PyProof.Rows L2
def iRev (f : Ev → Mem → Out T) : Ev → Mem → Out (List T) := fun σ M => (f σ M).bind fun t M1 => match t with
  | .lst ts => .ok ts.reverse M1
  | _ => .bad
section
variable {X : Cx} {XE : XK} {tg : Expr}
end
end FT
namespace L2
open PySem PySem.Spec PySem.W PyProof.Rows
section
variable {prog : Program} {w : World} {A : Around} {E : Value → Shared → Prop} {s : Shared}
end
end L2
namespace L2
open PySem PySem.Spec PySem.W PyProof.Rows
section
variable {prog : Program} {w : World} {A : Around} {E : Value → Shared → Prop} {s : Shared}
end
end L2
namespace L2
open PySem PySem.Spec PySem.W PyProof.Rows
section
variable {X : Cx}
def tLstRev (K : PySem.W.Frag) (tl : TE) : TE := fun σ H Q => tl σ H fun x H1 => ∃ a xs, x = .ref a ∧ SqL K H1 a xs ∧ ∀ l, H1 l = none → Q (.ref l) (upd H1 l (.lst xs.reverse))
end
end L2
namespace FT
open PySem PySem.Spec PyProof.Rows L2
def rvL (t : T) (M : Mem) : Out (List T) := match lstOf t M with
  | some ts => .ok ts.reverse M
  | none => .bad
def lRev (f : Ev → Mem → Out T) : Ev → Mem → Out (List T) := fun σ M => (f σ M).bind fun t M1 => rvL t M1
section
variable {X : Cx} {XE : XK}
end
end FT
namespace FT
open PySem PySem.Spec PyProof.Rows L2
noncomputable def rpL (xs : List T) (y : T) (M : Mem) : Out (List T) := match y with
  | .int k => @ite _ ((-(2 ^ 63) ≤ k ∧ k < 2 ^ 63) ∧ xs.length * k.toNat ≤ sizeLine) (Classical.propDecidable _) (.ok (List.replicate k.toNat xs).flatten M) .bad
  | _ => .bad
noncomputable def lRep (f : Ev → Mem → Out (List T)) (g : Ev → Mem → Out T) : Ev → Mem → Out (List T) := fun σ M => (f σ M).bind fun xs M1 => (g σ M1).bind fun y M2 => rpL xs y M2
section
variable {X : Cx} {XE : XK}
end
end FT
namespace L2
open PySem PySem.Spec PyProof.Rows
open AutoSeq1 (wpAny_loadPart')
section
variable {X : Cx}
end
end L2
namespace FT
open PySem PySem.Spec PyProof.Rows L2
noncomputable def mulTu : T → T → Mem → Out T := fun x y M => match x, y with
  | .tup xs, .int k => @ite _ (xs ≠ [] ∧ -(2 ^ 63) ≤ k ∧ k < 2 ^ 63 ∧ xs.length * k.toNat ≤ sizeLine) (Classical.propDecidable _) (.ok (.tup (List.replicate k.toNat xs).flatten) M) .bad
  | _, _ => .bad
section
variable {X : Cx} {XE : XK}
end
end FT
namespace FT
open PySem PySem.Spec PyProof.Rows L2
def eqAll (M : Mem) (x : T) : List T → Option (List Bool)
  | [] => some []
  | t :: ts => match eqD M 20 t x, eqAll M x ts with
    | some b, some bs => some (b :: bs)
    | _, _ => none
def inN : T → T → Mem → Out T := fun x y M => match seqOf y M with
  | some ys => match eqAll M x ys with
    | some bs => .ok (.bl (bs.any id)) M
    | none => .bad
  | none => .bad
def ninN : T → T → Mem → Out T := fun x y M => match seqOf y M with
  | some ys => match eqAll M x ys with
    | some bs => .ok (.bl (!bs.any id)) M
    | none => .bad
  | none => .bad
section
variable {X : Cx} {XE : XK} {pins : List (Addr × Obj)} {s : Shared} {σ : L2.St} {S : Sit}
end
end FT
namespace L2
open PySem PySem.Spec PySem.W PyProof.Rows PySem.Calls
section
variable {prog : Program} {w : World} {A : Around} {E : Value → Shared → Prop} {s : Shared} {T : String} {r d : Addr} {n : Nat} {P : Nat → Value → Prop} {OK : Heap → Prop}
end
section
variable {X : Cx}
end
end L2
namespace FT
open PySem PySem.Spec PyProof.Rows L2
def keyI : List Key → Option (List Int)
  | [] => some []
  | .inl n :: ks => (keyI ks).map (n :: ·)
  | _ :: _ => none
def sortedDL : List T → Mem → Out (List T) := fun ts M => match ts with
  | [t] => match dicOf t M with
    | some kvs => match keyI (kvs.map (·.1)) with
      | some ns => if ns.length < 64 then .ok ((srtI ns).map .int) M else .bad
      | none => .bad
    | none => sortedL [t] M
  | _ => .bad
section
variable {X : Cx} {XE : XK}
end
end FT
namespace L2
open PySem PySem.Spec PySem.W PyProof.Rows
end L2
namespace L2
open PySem PySem.Spec PySem.W PyProof.Rows
section
variable {X : Cx}
def tNinR (neg : Bool) (ta : TE) (tb : TA) : TT := fun σ H Q => ta σ H fun x H1 => tb σ H1 fun vs H2 => ∃ i j : Int, x = .int i ∧ vs = [.int j] ∧ Q (if neg then !decide (0 ≤ i ∧ i < j) else decide (0 ≤ i ∧ i < j)) H2
end
end L2
namespace FT
open PySem PySem.Spec PyProof.Rows L2
def ninR (neg : Bool) (x : T) (ts : List T) (M : Mem) : Out Bool := match x, ts with
  | .int i, [.int j] => .ok (if neg then !decide (0 ≤ i ∧ i < j) else decide (0 ≤ i ∧ i < j)) M
  | _, _ => .bad
def tNinRF (neg : Bool) (f : Ev → Mem → Out T) (g : Ev → Mem → Out (List T)) : Ev → Mem → Out Bool := fun σ M => (f σ M).bind fun x M1 => (g σ M1).bind fun ts M2 => ninR neg x ts M2
section
variable {X : Cx} {XE : XK}
end
end FT
namespace L2
open PySem PySem.Spec PySem.W PyProof.Rows
section
variable {X : Cx} {pins : List (Addr × Obj)} {σ : St} {H : Hp} {s : Shared} {l : Addr} {us : List (Key × V)}
theorem Inv.freeze (I : Inv X pins σ H s) (e : H l = some (.dK us)) : ∃ ob, Inv X pins σ (upd H l (.frz ob (.dK us))) s := by
  obtain ⟨z, hs, vs, rel, o, es, ep, ho, r⟩ := (show ObjOk X.prog X.w H s.heap l (.dK us) from I.hok l _ e)
  exact ⟨o, I.write (x := l) (e := l) (o := .frz o (.dK us)) (h' := s.heap) (t' := s.toks) (by rw [e]; trivial) (.inl rfl) (fun b u _ q => q) ⟨o, ho⟩ ⟨ho, z, hs, vs, rel, o, es, ep, ho, r⟩⟩
end
def frzK (Q : VK) : VK := fun v H' => ∃ l us, v = .ref l ∧ H' l = some (.dK us) ∧ ∀ ob, Q v (upd H' l (.frz ob (.dK us)))
theorem CallR.frz {X : Cx} {f : Value} {r : List V → Hp → VK → Prop} (h : CallR X f r) : CallR X f (fun xs H Q => r xs H (frzK Q)) := by
  intro pins s σ H xs us Q I rv hr
  refine wpAny_mono (h pins s σ H xs us _ I rv hr) (fun v s' ⟨x, H', I', r', l, us', ex, e, q⟩ => ?_) fun _ _ z => z
  obtain ⟨ob, I2⟩ := I'.freeze e
  exact ⟨x, _, I2, r', q ob⟩
def epOf (o : Obj) : Nat := match o.data with
  | .dict _ ep => ep
  | _ => 0
def Itd (a : Addr) (ob : Obj) (us : List (Key × V)) : It :=
  ⟨fun i H => H a = some (.frz ob (.dK us)) ∧ i < us.length, fun i H x H' => H' = H ∧ ∃ q, us[i]? = some q ∧ x = kV q.1, fun i H => H a = some (.frz ob (.dK us)) ∧ us.length ≤ i⟩
section
variable {X : Cx} {tg : Expr}
def iDict (tl : TE) : TI := fun σ H R => tl σ H fun x H1 => ∃ a ob us, x = .ref a ∧ H1 a = some (.frz ob (.dK us)) ∧ R (Itd a ob us) H1
end
end L2
namespace FT
open PySem PySem.Spec PyProof.Rows L2
section
variable {X : Cx} {XE : XK}
def dictF : T → Mem → Out T := fun t M => match t with
  | .tup xs => match prOf xs with
    | some prs => .ok (.dct (dMerge [] prs)) M
    | none => .bad
  | _ => match lstOf t M with
    | some xs => match prOf xs with
      | some prs => .ok (.dct (dMerge [] prs)) M
      | none => .bad
    | none => .bad
def iDct (f : Ev → Mem → Out T) : Ev → Mem → Out (List T) := fun σ M => (f σ M).bind fun t M1 => match t with
  | .dct kvs => .ok ((kvs.map (·.1)).map tK) M1
  | _ => .bad
end
end FT
namespace FT
open PySem PySem.Spec PyProof.Rows L2
def putT (f : Str) (v : T) : List (Str × T) → List (Str × T)
  | [] => [(f, v)]
  | (g, x) :: r => if g = f then (g, v) :: r else (g, x) :: putT f v r
section
variable {K : PySem.W.Frag} {S : Sit}
theorem RepF.nil : RepF K S [] [] := ⟨rfl, .nil⟩
theorem RepF.nilT {us : List (Str × V)} (r : RepF K S [] us) : us = [] := by
  have := r.1
  simpa using this.symm
theorem RepF.consT {p : Str × T} {fs : List (Str × T)} {us : List (Str × V)} (r : RepF K S (p :: fs) us) : ∃ u us', us = (p.1, u) :: us' ∧ Rep K S p.2 u ∧ RepF K S fs us' := by
  cases us with
  | nil => have := r.1; simp at this
  | cons q us' =>
    have h1 := r.1
    simp only [List.map_cons, List.cons.injEq] at h1
    obtain ⟨v, vs, e, r1, r2⟩ := (show Reps K S (p.2 :: fs.map (·.2)) (q.2 :: us'.map (·.2)) from r.2).consT
    cases e
    exact ⟨q.2, us', by rw [h1.1], r1, h1.2, r2⟩
theorem RepF.cons {g : Str} {t : T} {u : V} {fs : List (Str × T)} {us : List (Str × V)} (q : Rep K S t u) (r : RepF K S fs us) : RepF K S ((g, t) :: fs) ((g, u) :: us) := ⟨by simp [r.1], r.2.cons q⟩
theorem RepF.look (f : Str) : ∀ {fs : List (Str × T)} {us : List (Str × V)}, RepF K S fs us → ∀ {t : T}, fs.lookup f = some t → ∃ v, us.lookup f = some v ∧ Rep K S t v
  | [], us, r, t, e => by cases e
  | (g, x) :: fs, us, r, t, e => by
    obtain ⟨u, us', rfl, r1, r2⟩ := r.consT
    rw [List.lookup_cons] at e ⊢
    cases h : f == g with
    | true => rw [h] at e; cases e; exact ⟨u, rfl, r1⟩
    | false => rw [h] at e; exact RepF.look f r2 e
theorem RepF.put (f : Str) {t : T} {v : V} (q : Rep K S t v) : ∀ {fs : List (Str × T)} {us : List (Str × V)}, RepF K S fs us → RepF K S (putT f t fs) (putF f v us)
  | [], us, r => by rw [r.nilT]; exact RepF.cons q .nil
  | (g, x) :: fs, us, r => by
    obtain ⟨u, us', rfl, r1, r2⟩ := r.consT
    unfold putT putF
    by_cases h : g = f
    · rw [if_pos h, if_pos h]; exact RepF.cons q r2
    · rw [if_neg h, if_neg h]; exact RepF.cons r1 (RepF.put f q r2)
theorem RepF.len {fs : List (Str × T)} {us : List (Str × V)} (r : RepF K S fs us) : fs.length = us.length := by
  have := congrArg List.length r.1
  simpa using this
end
def fldT (Cs : List Addr) (f : Str) (x : T) (M : Mem) : Out T := match x with
  | .ref a => match M[a]? with
    | some (.ins C fs) => if C ∈ Cs then optT (fs.lookup f) M else .bad
    | _ => .bad
  | _ => .bad
def eFld (Cs : List Addr) (f : Str) (g : Ev → Mem → Out T) : Ev → Mem → Out T := fun σ M => (g σ M).bind fun x M1 => fldT Cs f x M1
def setF (Cs : List Addr) (f : Str) (x y : T) (M : Mem) : Out Unit := match x with
  | .ref a => match M[a]? with
    | some (.ins C fs) => if C ∈ Cs ∧ fs.length < 1000 then .ok () (M.set a (.ins C (putT f y fs))) else .bad
    | _ => .bad
  | _ => .bad
def sFldS (Cs : List Addr) (f : Str) (fo fv : Ev → Mem → Out T) : Ev → Mem → Out Fl := fun σ M => (fv σ M).bind fun y M1 => (fo σ M1).bind fun x M2 => (setF Cs f x y M2).bind fun _ M3 => .ok (.nx σ) M3
section
variable {X : Cx} {XE : XK} {Cs : List Addr} {f : Str}
theorem ge_fld {e : Expr} {g : Ev → Mem → Out T} {pos : Pos} (hC : ∀ C ∈ Cs, Cls X.K C ∧ NoAttr X.K C f) (he : GE X XE e g) (hb : attributeBase e f X.env (eval e X.env) = eval e X.env := by rfl) : GE X XE (.Attribute e f pos) (eFld Cs f g) := PE.imp (pe_fld he hb) fun σ H Q hh =>
  LN.mono (LN.bind (f := fun _ σ M => g σ M) (k := fun _ x σ M1 => fldT Cs f x M1) (RB := Rep X.K) hh) fun v H1 ⟨S, στ, a, e, m, ev, ra, fin⟩ => by
    obtain ⟨u0, t⟩ := a
    subst e
    have rt : Rep X.K S t v := ra.2
    replace fin : Fin XE (Rep X.K) X.K S (fldT Cs f t S.M) Q := fin
    unfold fldT at fin
    split at fin
    · rename_i a
      split at fin
      · rename_i C fs q
        split at fin
        · rename_i hc
          obtain ⟨t, et, fin⟩ := optT_ok fin
          cases rt
          obtain ⟨dx, us, h1, rf⟩ := m.cell _ _ q
          obtain ⟨w, ew, rw'⟩ := rf.look f et
          exact ⟨S.α a, C, dx, us, w, rfl, h1, (hC C hc).1, (hC C hc).2, ew, fin S w rfl (.refl m) rw'⟩
        · exact fin.elim
      · exact fin.elim
    · exact fin.elim
theorem gs_fld {o value : Expr} {fo fv : Ev → Mem → Out T} {pos pos' : Pos} (hC : ∀ C ∈ Cs, Cls X.K C ∧ NoAttr X.K C f) (ho : GE X XE o fo) (hv : GE X XE value fv) (hs : swapsWith value (some (.Attribute o f pos')) pos.line X.env = pure false := by rfl) :
    GS X XE (.Assign [.Attribute o f pos'] value pos) (sFldS Cs f fo fv) := PS.imp (ps_fld ho hv hs) fun D σ H hh => by
  refine LN.mono (LN.bind (f := fun _ σ M => fv σ M) (k := fun _ y σ M1 => (fo σ M1).bind fun x M2 => (setF Cs f x y M2).bind fun _ M3 => .ok (Fl.nx σ) M3) (RB := Rep X.K) hh) fun yv H1 h1 => ?_
  refine LN.mono (LN.env (f := fo) (LN.bind (f := fun _ σ M => fo σ M) (k := fun (a : Unit × T) x σ M2 => (setF Cs f x a.2 M2).bind fun _ M3 => .ok (Fl.nx σ) M3) (RB := Rep X.K) h1)) fun xv H2 h2 => ?_
  obtain ⟨S, στ, ⟨⟨u0, y⟩, x⟩, e, m, ev, ⟨⟨hu0, ry⟩, rx⟩, fin⟩ := h2
  subst e
  dsimp only at ry rx
  replace fin : Fin XE (FlR X.K) X.K S ((setF Cs f x y S.M).bind fun _ M3 => .ok (Fl.nx στ) M3) (endsQ D) := fin
  unfold setF at fin
  split at fin
  · rename_i a
    split at fin
    · rename_i C fs q
      split at fin
      · rename_i hc
        cases rx
        obtain ⟨dx, us, h3, rf⟩ := m.cell _ _ q
        have ha : a < S.M.length := (List.getElem?_eq_some_iff.mp q).1
        refine ⟨S.α a, C, dx, us, rfl, h3, (hC C hc.1).1, (hC C hc.1).2, by rw [← rf.len]; exact hc.2, ?_⟩
        have s1 := Stp.put m ha (.ins C dx (putF f yv us)) (.ins C (putT f y fs)) ⟨dx, _, upd_same, (rf.put f ry).grow m (Grow.put m ha _ _)⟩
        exact fin (S.put a (.ins C dx (putF f yv us)) (.ins C (putT f y fs))) (.nx σ) rfl s1 (.nx (Mo.mo m s1 ev))
      · exact fin.elim
    · exact fin.elim
  · exact fin.elim
end
structure MakT (P : Program) (w : World) (K : PySem.W.Frag) (mg : Str → Option Value) (base : Heap) (k : Nat) (x : Str) (C : Addr) (ps : List Str) (f : List T → Mem → Out T) : Prop where
  ex : ∃ (fI : Addr) (fd : FuncData), Mk K C fI ∧ FnOk P w K mg base CX0 k fI fd ps (spT K f) ∧ Binds K fd ps [] ∧ mg x = some (.ref C)
  nox : ∀ ts M C fs M', f ts M ≠ .exn C fs M'
structure Di (K : PySem.W.Frag) (mg : Str → Option Value) (x qual : Str) (C : Addr) (st : Stmt) (ps : List Str) : Prop where
  ex : ∃ (fI : Addr) (fd : FuncData), Mk K C fI ∧ Fun K "__init__" qual st fI fd ∧ Binds K fd ps [] ∧ mg x = some (.ref C)
theorem mak_mk {P : Program} {w : World} {K : PySem.W.Frag} {mg : Str → Option Value} {base : Heap} {x qual : Str} {C : Addr} {st : Stmt} {N ps : List Str} {k p n : Nat} {g : Ev → Mem → Out Fl} (D : Di K mg x qual C st ps) (Sc : FnScope N ps (defScope st)) (hp : ps.length = p) (hn : N.length = n)
    (hb : ∀ (f : Addr) (cdv : Value) (A : Around) (outer : List PySem.Env) (s : Shared) (H : Hp) (E : XK), Room k (A.deeper (envOfC qual (defScope st) s.heap.objs.size f cdv)) → GSs (cxOf CX0 P w K mg base N qual (defScope st) f cdv A outer s H E).nox E0 (defBody st) g) :
    MakT P w K mg base (k + 1) x C ps (runDef p n g) := by
  obtain ⟨fI, fd, M, F, b, e⟩ := D.ex
  exact ⟨⟨fI, fd, M, F.ok Sc (sp_len hp) fun cdv A outer s H vs Q E hr h => body_run hn rfl h (hb fI cdv A outer s H E hr), b, e⟩, runDef_nox _ _ _⟩
def nonK (a : Nat) (t : T) (M : Mem) : Out T := match t with
  | .non => .ok (.ref a) M
  | _ => .bad
def eMake (C : Addr) (F : List T → Mem → Out T) (ga : Ev → Mem → Out (List T)) : Ev → Mem → Out T := fun σ M => (ga σ M).bind fun ts M1 => (F (.ref M1.length :: ts) (M1 ++ [.ins C []])).bind fun t M2 => nonK M1.length t M2
section
variable {X : Cx} {XE : XK} {k : Nat} {ps : List Str} {x : Str} {C : Addr} {p pos : Pos} {e : Expr} {es : List Expr} {ga : Ev → Mem → Out (List T)} {F : List T → Mem → Out T}
theorem ge_make (M : MakT X.prog X.w X.K X.mg X.base k x C ps F) (hr : Room (k + 1) X.A) (hg : Gl X x) (ha : GA X XE (e :: es) ga) (hdb : (x == ("__debug__" : Str)) = false := by decide) (he : noStar e = true := by rfl) (hpl : es.all noStar = true := by rfl) :
    GE X XE (.Call (.Name x p) (e :: es) [] pos) (eMake C F ga) := by
  obtain ⟨fI, fd, Mk1, Fo, b, hm⟩ := M.ex
  refine PE.imp (pe_make Mk1 Fo hr hg hm b .nil pass0 ha hdb (star_cons he) (star_any hpl)) fun σ H Q hh => ?_
  refine LN.mono (LN.bind (f := fun _ σ M => ga σ M) (k := fun _ ts σ M1 => (F (T.ref M1.length :: ts) (M1 ++ [Cell.ins C []])).bind fun t M2 => nonK M1.length t M2) (RB := Reps X.K) (R := Rep X.K) hh) fun vs H1 ⟨S, στ, a, e, m, ev, ra, fin⟩ => ?_
  obtain ⟨u0, ts⟩ := a
  subst e
  intro y dx hy hdx hne
  rw [List.append_nil]
  replace ra : Reps X.K S ts vs := ra.2
  replace fin : Fin XE (Rep X.K) X.K S ((F (.ref S.M.length :: ts) (S.M ++ [.ins C []])).bind fun t M2 => nonK S.M.length t M2) Q := fin
  have s1 := Stp.new m hdx (.own y)
  have hy1 : (upd S.H dx (.own y)) y = none := by rw [upd_ne (Ne.symm hne)]; exact hy
  have s2 : Stp X.K ⟨S.α, S.M, upd S.H dx (.own y), S.hid⟩ (Sit.more ⟨S.α, S.M, upd S.H dx (.own y), S.hid⟩ y (.ins C dx []) (.ins C [])) := Stp.more s1.mok hy1 _ _ ⟨dx, [], upd_same, .nil⟩
  have s12 := s1.trans s2
  have al : (Sit.more ⟨S.α, S.M, upd S.H dx (.own y), S.hid⟩ y (.ins C dx []) (.ins C [])).α S.M.length = y := if_pos rfl
  have h0 : S.M.length < (S.M ++ [Cell.ins C []]).length := by simp
  have r0 : Rep X.K (Sit.more ⟨S.α, S.M, upd S.H dx (.own y), S.hid⟩ y (.ins C dx []) (.ins C [])) (.ref S.M.length) (.ref y) := by
    have := Rep.ref (K := X.K) (S := Sit.more ⟨S.α, S.M, upd S.H dx (.own y), S.hid⟩ y (.ins C dx []) (.ins C [])) (a := S.M.length) h0
    rw [al] at this
    exact this
  refine ⟨_, .ref S.M.length :: ts, rfl, s2.mok, (ra.grow m s12.toGrow).cons r0, ?_⟩
  show Fin E0 (Rep X.K) X.K _ (F (.ref S.M.length :: ts) (S.M ++ [.ins C []])) _
  cases o : F (.ref S.M.length :: ts) (S.M ++ [.ins C []]) with
  | bad => rw [o] at fin; exact fin.elim
  | exn C' fs M' => exact absurd o (M.nox _ _ _ _ _)
  | ok t M2 =>
    rw [o] at fin
    intro S3 c e3 s3 r3
    cases t with
    | non =>
      cases r3
      exact ⟨rfl, fin S3 (.ref y) e3 (s12.trans s3) (r0.grow s2.mok s3.toGrow)⟩
    | _ => exact fin.elim
end
end FT
namespace FT
open PySem PySem.Spec PyProof.Rows L2
theorem forC_nil {P : Addr → Prop} : ∀ C ∈ ([] : List Addr), P C := fun C h => by simp at h
theorem forC_cons {P : Addr → Prop} {a : Addr} {l : List Addr} (h : P a) (r : ∀ C ∈ l, P C) : ∀ C ∈ a :: l, P C := fun C hc => by
  rcases List.mem_cons.mp hc with rfl | hc
  · exact h
  · exact r C hc
def clOf (K : PySem.W.Frag) (x : Str) : Addr := match PySem.W.nsIn K mainGlobals x with
  | some (some (.ref a)) => a
  | _ => 0
theorem clOf_eq {K : PySem.W.Frag} {x : Str} {C : Addr} (a : PySem.W.nsIn K mainGlobals x = some (some (.ref C))) : clOf K x = C := by
  unfold clOf
  rw [a]
theorem na_mk {K : PySem.W.Frag} {x f : Str} {C : Addr} (a : PySem.W.nsIn K mainGlobals x = some (some (.ref C))) (n : PySem.W.findIn K (.ref C) f = some none) : NoAttr K (clOf K x) f := by
  rw [clOf_eq a]; exact n
theorem cls_mk {K : PySem.W.Frag} {x : Str} {C : Addr} (a : PySem.W.nsIn K mainGlobals x = some (some (.ref C))) (pg : PySem.W.plainGet K C Str.empty = true) (hd : PySem.W.hasDictIn K C = true) (po : PySem.W.plainOver K C = true)
    (sa : PySem.W.findIn K (.ref C) "__setattr__" = some (some (.builtin "object.__setattr__"))) : Cls K (clOf K x) := by
  rw [clOf_eq a]; exact ⟨pg, hd, po, sa⟩
theorem di_mk {K : PySem.W.Frag} {mg : Str → Option Value} {h : Heap} (X : K.In h) (G : h.Ns mainGlobals mg) {x qual : Str} {st : Stmt} {ps : List Str} {C fI : Addr} {od an : Option Addr} {sl : Array (Option Value)} {oc kV dc pm cd ct : Value}
    (a : PySem.W.nsIn K mainGlobals x = some (some (.ref C))) (a1 : PySem.W.findIn K (.ref C) "__init__" = some (some (.ref fI))) (i1 : PySem.W.isFn K (.ref fI) = true)
    (l1 : K.lookup fI = some ⟨oc, od, .func (PySem.W.fnOf "__init__" qual (defArgs st) (defBody st) (defScope st) .none kV dc pm an cd ct), sl⟩) (c1 : PySem.W.codeIn K cd qual = true) (k1 : PySem.W.keepIn K (.ref fI) = true) (mk : PySem.W.makesIn K C = true) (kc : PySem.W.keepIn K (.ref C) = true)
    (hb : ∀ (kV doc pm : Value) (an : Option Addr) (cdv ct : Value) (us : List Value), us.length = ps.length → bindArgs (PySem.W.fnOf "__init__" qual (defArgs st) (defBody st) (defScope st) .none kV doc pm an cdv ct) ⟨us, []⟩ = pure (ps.zip us)) : Di K mg x qual (clOf K x) st ps := by
  have F := fun_mk (st := st) l1 c1 k1
  rw [clOf_eq a]
  exact ⟨⟨fI, _, ⟨mk, a1, i1, kc⟩, F, F.binds hb, PySem.W.mg_of X G a⟩⟩
end FT
namespace L2
open PySem PySem.Spec PySem.W PyProof.Rows
section
variable {prog : Program} {w : World} {A : Around} {E : Value → Shared → Prop} {s : Shared}
theorem draws_listL (hh : A.handled = none) (q t : Addr) (hne : t ≠ q) (items : Array Value) : Draws prog w A q [q, t] items.size (fun i v => items[i]? = some v) (fun i h => h.IsListIter q t i ∧ h.IsList t items) where
  live := fun _ _ st => let ⟨o, ho, _⟩ := st.1; ⟨o, ho⟩
  frame := fun _ _ _ st hk => ⟨st.1.at fun o e => hk q (by simp) o e, let ⟨o, ho, r⟩ := st.2; ⟨o, hk t (by simp) o ho, r⟩⟩
  item := fun i s Q E hi st hQ => wpAny_nextOf_list_item st.1 st.2 (x := items[i]) (by simp [hi]) fun k a b => hQ _ k s.toks (by simp [hi]) ⟨a, let ⟨o, ho, r⟩ := st.2; ⟨o, (b.2 t hne).trans ho, r⟩⟩ b
  done := fun s Q E st hE => wpAny_nextOf_list_end hh st.1 st.2 (by simp) hE
end
section
variable {prog : Program} {w : World} {A : Around} {E : Value → Shared → Prop} {s : Shared}
theorem call_enumL {l : Addr} {items : Array Value} {Q : Value → Shared → Prop} (hl : s.heap.IsList l items)
    (h : ∀ k, IsEnum k (s.heap.objs.size + 1) s.heap.objs.size 0 .none → k.IsListIter s.heap.objs.size l 0 → k.objs.size = s.heap.objs.size + 2 → (∀ b o, s.heap.get? b = some o → k.get? b = some o) → Q (.ref (s.heap.objs.size + 1)) { s with heap := k }) :
    wpAny (model prog w) A (call (.type "enumerate") [.ref l]) Q E s := call_enumerate_list hl h
end
def ItL (K : PySem.W.Frag) (a : Addr) : It :=
  ⟨fun i H => ∃ xs x, SqL K H a xs ∧ xs[i]? = some x, fun i H y H' => ∃ p x, H p = none ∧ y = .ref p ∧ H' = upd H p (.tup [.int (i : Int), x]) ∧ ∀ xs, SqL K H a xs → xs[i]? = some x, fun i H => ∃ xs, SqL K H a xs ∧ xs.length ≤ i⟩
theorem turn_enumL {P : Program} {w : World} {K : PySem.W.Frag} {elts : List Expr} {x1} {pos : Pos} (a e it : Addr) (hne : e ≠ it) (hae : a ≠ e) (hai : a ≠ it) :
    Turn P w K (.Tuple elts x1 pos) (ItL K a) [e, it] e (fun i h => (∃ old, IsEnum h e it i old) ∧ h.IsListIter it a i) where
  mem := by simp
  obj := fun i h st b hb => by
    rcases List.mem_cons.mp hb with z | z
    · subst z
      obtain ⟨old, q⟩ := st.1
      exact ⟨_, q, fun v z => by cases z⟩
    · have z := List.mem_singleton.mp z
      subst z
      obtain ⟨o, q, c, d⟩ := st.2
      exact ⟨o, q, fun v z => by rw [d] at z; cases z⟩
  keep := fun i h k st kk => ⟨let ⟨old, q⟩ := st.1; ⟨old, kk e (by simp) _ q⟩, st.2.at fun o q => kk it (by simp) o q⟩
  item := by
    intro X hP hw hK hc i pins s σ H E I hf st hg
    subst hP hw hK
    obtain ⟨xs, x, hq, hx⟩ := hg
    obtain ⟨its, rv, p, hz⟩ := I.list hq
    obtain ⟨u, hu, ru⟩ := rv.get hx
    obtain ⟨⟨old, he⟩, hi⟩ := st
    have hl : i < its.toArray.size := by simpa using (List.getElem?_eq_some_iff.mp hu).1
    have D := draws_listL (prog := X.prog) (w := X.w) (A := X.A.in1) (by exact I.ok.hd hc) it a hai its.toArray
    refine wpAny_pyNext_enum_itemD D he ⟨hi, p.isList⟩ hl hne (by simp [hne, Ne.symm hae]) fun y k tk hy out st' htup hsz hk => ?_
    have hy' : y = u := by
      have : its[i]? = some y := by simpa using hy
      rw [hu] at this
      exact (Option.some.inj this).symm
    subst hy'
    refine ⟨.ref s.heap.objs.size, rfl, wpAny_letOwnedTupleGo_enum (s := { s with heap := k, toks := tk + 1 }) out fun k2 en2 sb => ?_⟩
    have fe := hf e (by simp)
    have fi := hf it (by simp)
    have eS : e ≠ s.heap.objs.size := Nat.ne_of_lt (Heap.lt_size he)
    have iS : it ≠ s.heap.objs.size := by
      obtain ⟨o, q, _⟩ := hi
      exact Nat.ne_of_lt (Heap.lt_size q)
    have IA := I.laid (h' := s.heap.push { cls := .type "tuple", data := .seq #[.int i tk, y] }) (t' := tk + 1) (a := s.heap.objs.size) (o := .tup [.int (i : Int), x]) (fun b o q => Heap.get?_push_of_some _ q) (Nat.le_refl _) (show ObjOk X.prog X.w _ _ _ (.tup [.int (i : Int), x]) from ⟨by show 2 ≤ sizeLine; rw [sizeLine_eq]; omega, [.int i tk, y], .cons ⟨tk, rfl⟩ (.cons ru .nil), by have := IsTup.new s.heap #[.int i tk, y]; simpa using this, NoDict.new⟩)
    have up : ∀ b, b ≠ s.heap.objs.size → (upd H s.heap.objs.size (.tup [.int (i : Int), x])) b = H b := fun b hb => if_neg hb
    have IB := IA.turned2 (t' := tk + 1) (h' := k2) (e := e) (it := it) (fun b o hbe hbi q => by
      rcases Heap.get?_push_cases q with ⟨z1, z2⟩ | q
      · subst z1; subst z2
        exact (sb.2 _ (Ne.symm eS)).trans htup
      · exact (sb.2 b hbe).trans (hk b o hbe hbi q)) ⟨by rw [up e eS]; exact fe.1, fe.2⟩ ⟨by rw [up it iS]; exact fi.1, fi.2⟩
    refine ⟨.ref s.heap.objs.size, _, IB, rfl, ⟨s.heap.objs.size, x, I.hok.fresh (Nat.le_refl _), rfl, rfl, fun ys hys => by rw [I.list_inj hys hq]; exact hx⟩, ⟨⟨_, by push_cast at en2 ⊢; exact en2⟩, ?_⟩, fun b hb => ?_⟩
    · obtain ⟨o, q, r⟩ := st'.1
      exact ⟨o, (sb.2 it (Ne.symm hne)).trans q, r⟩
    · rcases List.mem_cons.mp hb with z | z
      · subst z; rw [up _ eS]; exact fe.1
      · have z := List.mem_singleton.mp z
        subst z; rw [up _ iS]; exact fi.1
  done := by
    intro X hP hw hK hc i pins s σ H E I hf st hg
    subst hP hw hK
    obtain ⟨xs, hq, hx⟩ := hg
    obtain ⟨its, rv, p, hz⟩ := I.list hq
    obtain ⟨⟨old, he⟩, hi⟩ := st
    obtain ⟨f0, f1, f2, f3, f4, f5⟩ := hf it (by simp)
    have hl := rv.length
    have D : Draws X.prog X.w X.A.in1 it [it, a] i (fun _ _ => True) (fun j h => j = i ∧ h.IsListIter it a i ∧ h.IsList a its.toArray) := {
      live := fun _ _ st => let ⟨o, ho, _⟩ := st.2.1; ⟨o, ho⟩
      frame := fun _ _ _ st hk => ⟨st.1, st.2.1.at fun o q => hk it (by simp) o q, let ⟨o, ho, r⟩ := st.2.2; ⟨o, hk a (by simp) o ho, r⟩⟩
      item := fun j s Q E hj st hQ => absurd st.1 (Nat.ne_of_lt hj)
      done := fun s Q E st hE => wpAny_nextOf_list_end (by exact I.ok.hd hc) st.2.1 st.2.2 (by simp; omega) hE }
    exact wpAny_pyNext_enum_endD D he ⟨rfl, hi, p.isList⟩ fun k eb => ⟨rfl, I.turned (t' := s.toks) (fun b o hb q => eb b o hb q) f0 f1 f3 f4 f5⟩
  self := fun _ _ _ _ _ st h => let ⟨_, q⟩ := st.1; wpAny_pyIter_enum q h
section
variable {X : Cx}
def iEnL (K : PySem.W.Frag) (tl : TE) : TI := fun σ H R => tl σ H fun x H1 => ∃ a, x = .ref a ∧ (∃ xs, SqL K H1 a xs) ∧ R (ItL K a) H1
theorem pi_enumL {l : Expr} {tl : TE} {elts : List Expr} {x1} {tp p pos : Pos} (hg : Gl X "enumerate") (hm : X.mg "enumerate" = none) (hl : PE X l tl) (hs : starEach [l] X.env = [(false, eval l X.env)] := by rfl) :
    PI X (.Tuple elts x1 tp) (.Call (.Name "enumerate" p) [l] [] pos) (iEnL X.K tl) := by
  intro pins s σ H R I h
  refine Call_ (ld_blt I hg hm (show bootBuiltins "enumerate" = some (.type "enumerate") by decide +kernel) (PyProof.Rows.callWith_type1 ?_ hs rfl))
  rw [hs]
  refine Calls.spliced_cons (thn (hl pins s σ H _ I h) fun v s1 ⟨x, H1, I1, r1, q1⟩ => Calls.spliced_nil ?_)
  obtain ⟨a, e, ⟨xs, hq⟩, q⟩ := q1
  subst e
  cases r1
  obtain ⟨its, rv, pt, hz⟩ := I1.list hq
  have ha : a < s1.heap.objs.size := by
    obtain ⟨o, ho, _⟩ := pt.isList
    exact Heap.lt_size ho
  refine call_enumL pt.isList fun k en ti hsz hk => ?_
  refine wpAny_pyIter_enum en ?_
  refine ⟨s1.heap.objs.size + 1, [s1.heap.objs.size + 1, s1.heap.objs.size], _, _, H1, rfl, I1.kept (t' := s1.toks) hk, turn_enumL a _ _ (Nat.ne_of_gt (Nat.lt_succ_self _)) (Nat.ne_of_lt (Nat.lt_succ_of_lt ha)) (Nat.ne_of_lt ha), ⟨⟨_, en⟩, ti⟩, fun b hb => ?_, q⟩
  rcases List.mem_cons.mp hb with z | z
  · subst z; exact I1.fpOk (Nat.le_succ _) (I1.hok.fresh (Nat.le_succ _))
  · have z := List.mem_singleton.mp z
    subst z; exact I1.fpOk (Nat.le_refl _) (I1.hok.fresh (Nat.le_refl _))
end
end L2
namespace FT
open PySem PySem.Spec PyProof.Rows L2
def iEnumL (f : Ev → Mem → Out T) : Ev → Mem → Out (List T) := fun σ M => (f σ M).bind fun t M1 => match t with
  | .lst ts => .ok (enT ts) M1
  | _ => .bad
section
variable {X : Cx} {XE : XK}
end
end FT
namespace L2
open PySem PySem.Spec PySem.W PyProof.Rows
section
variable {X : Cx} {pins : List (Addr × Obj)} {σ : St} {H : Hp} {s : Shared} {h' : Heap}
theorem Inv.turnedN {t' : Nat} {l : List Addr} (I : Inv X pins σ H s) (k : ∀ b o, b ∉ l → s.heap.get? b = some o → h'.get? b = some o) (f : ∀ e ∈ l, FpOk X pins H e) : Inv X pins σ H { s with heap := h', toks := t' } := by
  have ne : ∀ b u, H b = some u → b ∉ l := fun b u q z => by rw [(f b z).1] at q; cases q
  refine I.step (g' := s.gens) (d' := s.drawn) (ch := l) (fun b hb => ?_) (fun b o _ _ hc q _ => k b o hc q) (fun b o _ _ hc q _ => ⟨o.slots, k b o hc q⟩) (fun _ _ _ _ n => n)
    (fun b o hc q => ⟨o, k b o hc q⟩) (fun _ _ q => q) (fun _ _ _ q => q) (fun b ps q => ⟨#[], by rw [q]; simp⟩) (fun m hm => ?_) (fun b u q => ?_) I.bare
  · have fe := f b hb
    exact ⟨fe.2.2.2.1, fe.2.1, fe.2.2.2.2.1, fe.2.2.2.2.2⟩
  · obtain ⟨o, es, ep, ho, r⟩ := hm
    exact ⟨o, es, ep, k _ o (fun z => (f _ z).2.1 rfl) ho, r⟩
  · refine (I.hok b u q).stay (fun c v hc z => k c v ?_ z) (fun _ z => z) fun _ _ z => z
    rcases hc with z | z
    · rw [z]; exact ne b u q
    · exact ne c _ z
end
def ItZ (K : PySem.W.Frag) (a b : Addr) : It :=
  ⟨fun i H => ∃ xs x ys y, SqL K H a xs ∧ xs[i]? = some x ∧ SqL K H b ys ∧ ys[i]? = some y,
   fun i H v H' => ∃ p x y, H p = none ∧ v = .ref p ∧ H' = upd H p (.tup [x, y]) ∧ (∀ xs, SqL K H a xs → xs[i]? = some x) ∧ ∀ ys, SqL K H b ys → ys[i]? = some y,
   fun i H => ∃ xs ys, SqL K H a xs ∧ SqL K H b ys ∧ (xs.length ≤ i ∨ ys.length ≤ i)⟩
section
variable {X : Cx}
def iZipL (K : PySem.W.Frag) (tl : TA) : TI := fun σ H R => tl σ H fun vs H1 => ∃ a b, vs = [.ref a, .ref b] ∧ (∃ xs, SqL K H1 a xs) ∧ (∃ ys, SqL K H1 b ys) ∧ R (ItZ K a b) H1
end
end L2
namespace FT
open PySem PySem.Spec PyProof.Rows L2
def zipT : List T → List T → List T
  | x :: xs, y :: ys => .tup [x, y] :: zipT xs ys
  | _, _ => []
theorem zipT_get : ∀ (xs ys : List T) (i : Nat) (t : T), (zipT xs ys)[i]? = some t → ∃ x y, xs[i]? = some x ∧ ys[i]? = some y ∧ t = .tup [x, y]
  | [], ys, i, t, h => by simp [zipT] at h
  | x :: xs, [], i, t, h => by simp [zipT] at h
  | x :: xs, y :: ys, i, t, h => by
    cases i with
    | zero => exact ⟨x, y, rfl, rfl, (Option.some.inj h).symm⟩
    | succ i =>
      obtain ⟨a, b, h1, h2, h3⟩ := zipT_get xs ys i t (by simpa [zipT] using h)
      exact ⟨a, b, by simpa using h1, by simpa using h2, h3⟩
theorem zipT_len : ∀ (xs ys : List T), (zipT xs ys).length = min xs.length ys.length
  | [], ys => by simp [zipT]
  | x :: xs, [] => by simp [zipT]
  | x :: xs, y :: ys => by simp [zipT, zipT_len xs ys]
def zp (ts : List T) (M : Mem) : Out (List T) := match ts with
  | [.lst xs, .lst ys] => .ok (zipT xs ys) M
  | _ => .bad
def iZip (ga : Ev → Mem → Out (List T)) : Ev → Mem → Out (List T) := fun σ M => (ga σ M).bind fun ts M1 => zp ts M1
section
variable {X : Cx} {XE : XK}
theorem lst_stays {K : PySem.W.Frag} {S1 S3 : Sit} (s3 : Stp K S1 S3) {p : Addr} {vs : List V} (h : (Rd S1.H p (.lst vs) ∧ S1.off p) ∨ KL K p vs) : SqL K S3.H p vs := by
  rcases h with ⟨h2, f2⟩ | h2
  · exact .inl (s3.toGrow.rd h2 f2).1
  · exact .inr h2
end
end FT
namespace FT
open PySem PySem.Spec PyProof.Rows L2
abbrev Gd := List (Nat × List T)
def gdOk (G : Gd) (M : Mem) : Prop := ∀ g ∈ G, M[g.1]? = some (.lst g.2)
noncomputable def gdK {β : Type} (G : Gd) (M : Mem) (o : Out β) : Out β := @ite _ (gdOk G M) (Classical.propDecidable _) o .bad
theorem gdK_ok {β : Type} {G : Gd} {M : Mem} {o : Out β} (h : gdOk G M) : gdK G M o = o := if_pos h
theorem gdOk_nil (M : Mem) : gdOk [] M := fun g h => by simp at h
theorem gdOk_one {a : Nat} {xs : List T} {M : Mem} (h : M[a]? = some (.lst xs)) : gdOk [(a, xs)] M := fun g hg => by rw [List.mem_singleton.mp hg]; exact h
def ItG (K : PySem.W.Frag) (S : Sit) (items : List T × Gd) (J : It) : Prop := ∀ S', Stp K S S' → gdOk items.2 S'.M →
  (∀ (i : Nat) t, items.1[i]? = some t → J.go i S'.H ∧ ∀ x H', J.yld i S'.H x H' → ∃ S'', S''.H = H' ∧ S''.M = S'.M ∧ Stp K S' S'' ∧ Rep K S'' t x) ∧ ∀ i, items.1.length ≤ i → J.stop i S'.H
instance (K) : Mo K (ItG K) := ⟨fun _ s r => fun S' s' => r S' (s.trans s')⟩
def lIG (XE : XK) (K : PySem.W.Frag) (f : Ev → Mem → Out (List T × Gd)) : TI := fun σ H R => LN XE (ItG K) K UnR (fun _ σ M => f σ M) () σ H R
def GIG (X : Cx) (XE : XK) (tg iter : Expr) (f : Ev → Mem → Out (List T × Gd)) : Prop := PI X tg iter (lIG XE X.K f)
noncomputable def forG (G : Gd) (bd : T → Ev → Mem → Out Ev) (body : Ev → Mem → Out Fl) : List T → Ev → Mem → Out Fl
  | [], σ, M => gdK G M (.ok (.nx σ) M)
  | x :: xs, σ, M => gdK G M ((bd x σ M).bind fun σ1 M1 => (body σ1 M1).bind (loopF (forG G bd body xs)))
noncomputable def sForG (it : Ev → Mem → Out (List T × Gd)) (bd : T → Ev → Mem → Out Ev) (body : Ev → Mem → Out Fl) : Ev → Mem → Out Fl := fun σ M => (it σ M).bind fun xs M1 => forG xs.2 bd body xs.1 σ M1
noncomputable def compG (G : Gd) (bd : T → Ev → Mem → Out Ev) (cond : Ev → Mem → Out Bool) (el : Ev → Mem → Out T) : List T → Ev → Mem → List T → Out (List T)
  | [], _, M, acc => gdK G M (.ok acc M)
  | x :: xs, σ, M, acc => gdK G M ((bd x σ M).bind fun σ1 M1 => (cond σ1 M1).bind fun b M2 => if b = true then (el σ1 M2).bind fun t M3 => if acc.length < sizeLine then compG G bd cond el xs σ1 M3 (acc ++ [t]) else .bad else compG G bd cond el xs σ1 M2 acc)
noncomputable def lCompG (it : Ev → Mem → Out (List T × Gd)) (bd : T → Ev → Mem → Out Ev) (cond : Ev → Mem → Out Bool) (el : Ev → Mem → Out T) (tgs : List Str) (caps : List (Str × Nat)) : Ev → Mem → Out (List T) := fun σ M => (it σ M).bind fun xs M1 => compG xs.2 bd cond el xs.1 (capT tgs caps σ) M1 []
theorem Fin.gd {β γ : Type} {XE : XK} {R : Sit → β → γ → Prop} {K : PySem.W.Frag} {S : Sit} {G : Gd} {M : Mem} {o : Out β} {Q : γ → Hp → Prop} (h : Fin XE R K S (gdK G M o) Q) : gdOk G M ∧ Fin XE R K S o Q := by
  by_cases g : gdOk G M
  · rw [gdK_ok g] at h; exact ⟨g, h⟩
  · rw [show gdK G M o = .bad from if_neg g] at h; exact h.elim
theorem FinL.gd {XE : XK} {K : PySem.W.Frag} {S : Sit} {G : Gd} {M : Mem} {o : Out (List T)} {Q : VK} (h : FinL XE K S (gdK G M o) Q) : gdOk G M ∧ FinL XE K S o Q := by
  by_cases g : gdOk G M
  · rw [gdK_ok g] at h; exact ⟨g, h⟩
  · rw [show gdK G M o = .bad from if_neg g] at h; exact h.elim
theorem forG_step {XE : XK} {K : PySem.W.Frag} {S : Sit} {G : Gd} {bd : T → Ev → Mem → Out Ev} {p : Ev → Mem → Out Fl} {xs : List T} {σ : Ev} {M : Mem} {Q : FlV → Hp → Prop} (h : Fin XE (FlR K) K S (forG G bd p xs σ M) Q) : gdOk G M := by
  cases xs with
  | nil => exact (Fin.gd h).1
  | cons x xs => exact (Fin.gd h).1
theorem compG_step {XE : XK} {K : PySem.W.Frag} {S : Sit} {G : Gd} {bd : T → Ev → Mem → Out Ev} {c : Ev → Mem → Out Bool} {f : Ev → Mem → Out T} {xs acc : List T} {σ : Ev} {M : Mem} {Q : VK} (h : FinL XE K S (compG G bd c f xs σ M acc) Q) : gdOk G M := by
  cases xs with
  | nil => exact (FinL.gd h).1
  | cons x xs => exact (FinL.gd h).1
section
variable {X : Cx} {XE : XK} {a b c e iter tg : Expr} {es : List Expr} {pos pp : Pos} {sts : List Stmt} {p : Ev → Mem → Out Fl} {ga : Ev → Mem → Out (List T × Gd)}
theorem gs_forG {bd : T → Ev → Mem → Out Ev} (hp : PassesOwn (model X.prog X.w) X.A X.env X.xe) (hc : X.calm = true) (hi : GIG X XE tg iter ga) (hg : GG X XE tg bd) (hb : GSs X XE sts p)
    (hs : ∀ x, foldedSetIterable iter X.env x = pure x := by intro _; rfl) : GS X XE (.For tg iter sts [] pos) (sForG ga bd p) := PS.imp (ps_for hp hc hi hg hb hs) fun D σ H hh => by
  refine LN.mono (LN.bind (f := fun _ σ M => ga σ M) (k := fun _ xs σ M1 => forG xs.2 bd p xs.1 σ M1) (RB := ItG X.K) hh) fun J H1 h1 => ?_
  obtain ⟨S, στ, a, e, m, ev, ra, fin⟩ := h1
  refine ⟨fun i n σ H => ∃ S στ, S.H = H ∧ MemOk X.K S ∧ EvR X.K S στ σ ∧ ItG X.K S a.2 J ∧ n = a.2.1.length - i ∧ i ≤ a.2.1.length ∧ Fin XE (FlR X.K) X.K S (forG a.2.2 bd p (a.2.1.drop i) στ S.M) (endsQ D), ⟨_, S, στ, e, m, ev, ra.2, rfl, Nat.zero_le _, fin⟩, ?_⟩
  rintro i n σ1 H2 ⟨S1, στ1, e1, m1, ev1, it1, en, hi1, fin1⟩
  subst e1
  have hgd := forG_step fin1
  obtain ⟨it2, it3⟩ := it1 S1 (.refl m1) hgd
  by_cases hl : i < a.2.1.length
  · have eq : a.2.1.drop i = a.2.1[i] :: a.2.1.drop (i + 1) := List.drop_eq_getElem_cons hl
    rw [eq] at fin1
    replace fin1 := (Fin.gd fin1).2
    obtain ⟨go, yl⟩ := it2 i a.2.1[i] (by simp [hl])
    refine .inr ⟨go, fun σ' H' => ∃ S στ, S.H = H' ∧ MemOk X.K S ∧ EvR X.K S στ σ' ∧ ItG X.K S a.2 J ∧ Fin XE (FlR X.K) X.K S (forG a.2.2 bd p (a.2.1.drop (i + 1)) στ S.M) (endsQ D), ?_, fun x H' hy => ?_⟩
    · rintro σ' H' ⟨S2, στ2, e2, m2, ev2, it4, fin2⟩
      exact ⟨a.2.1.length - (i + 1), by omega, S2, στ2, e2, m2, ev2, it4, rfl, hl, fin2⟩
    · obtain ⟨S2, e2, eM, s2, r2⟩ := yl x H' hy
      replace fin1 : Fin XE (FlR X.K) X.K S1 ((bd a.2.1[i] στ1 S1.M).bind fun σ1 M1 => (p σ1 M1).bind (loopF (forG a.2.2 bd p (a.2.1.drop (i + 1))))) (endsQ D) := fin1
      refine ⟨S2, στ1, a.2.1[i], e2, s2.mok, Mo.mo m1 s2 ev1, r2, ?_⟩
      rw [eM]
      cases o : bd a.2.1[i] στ1 S1.M with
      | bad => rw [o] at fin1; exact fin1
      | exn C fs M' => rw [o] at fin1; exact Fin.later s2 fin1
      | ok σ3 M3 =>
        rw [o] at fin1
        intro S3 σ3v e3 s3 ev3
        have s13 := s2.trans s3
        refine ⟨S3, σ3, (), rfl, s3.mok, ev3, trivial, ?_⟩
        show Fin XE (FlR X.K) X.K S3 (p σ3 S3.M) _
        rw [e3]
        replace fin1 : Fin XE (FlR X.K) X.K S1 ((p σ3 M3).bind (loopF (forG a.2.2 bd p (a.2.1.drop (i + 1))))) (endsQ D) := fin1
        cases o2 : p σ3 M3 with
        | bad => rw [o2] at fin1; exact fin1
        | exn C fs M' => rw [o2] at fin1; exact Fin.later s13 fin1
        | ok fl M4 =>
          rw [o2] at fin1
          intro S4 fv e4 s4 r4
          have s14 := s13.trans s4
          cases r4 with
          | nx r4 => exact ⟨S4, _, rfl, s4.mok, r4, Mo.mo m1 s14 it1, by rw [e4]; exact Fin.later s14 fin1⟩
          | ct r4 => exact ⟨S4, _, rfl, s4.mok, r4, Mo.mo m1 s14 it1, by rw [e4]; exact Fin.later s14 fin1⟩
          | bk r4 => exact fin1 S4 (.nx _) e4 s14 (.nx r4)
          | rt r4 => exact fin1 S4 (.rt _) e4 s14 (.rt r4)
  · rw [List.drop_eq_nil_of_le (by omega)] at fin1
    replace fin1 := (Fin.gd fin1).2
    refine .inl ⟨it3 i (by omega), ?_⟩
    exact fin1 S1 (.nx σ1) rfl (.refl m1) (.nx ev1)
theorem comp_impG {tgs : List Str} {caps : List (Str × Nat)} {ga : Ev → Mem → Out (List T × Gd)} {bd : T → Ev → Mem → Out Ev} {cond : Ev → Mem → Out Bool} {f : Ev → Mem → Out T} {σ : L2.St} {H : Hp} {Q : VK} (hh : lL XE X.K (lCompG ga bd cond f tgs caps) σ H Q) :
    tComp (lIG XE X.K ga) (lG XE X.K bd) (lT XE X.K cond) (lE XE X.K f) (capσ tgs caps) σ H Q := by
  obtain ⟨S, στ, e, m, ev, fin⟩ := hh
  replace fin : FinL XE X.K S ((ga στ S.M).bind fun xs M1 => compG xs.2 bd cond f xs.1 (capT tgs caps στ) M1 []) Q := fin
  refine ⟨S, στ, (), e, m, ev, trivial, ?_⟩
  show Fin XE (ItG X.K) X.K S (ga στ S.M) _
  cases o : ga στ S.M with
  | bad => rw [o] at fin; exact fin
  | exn C fs M' => rw [o] at fin; exact fin
  | ok items M1 =>
    rw [o] at fin
    replace fin : FinL XE X.K S (compG items.2 bd cond f items.1 (capT tgs caps στ) M1 []) Q := fin
    intro S0 J e0 s0 it0 D hD
    have m0 := s0.mok
    have fin0 := fin.later s0
    have s1 := Stp.hide (K := X.K) m0 hD []
    refine ⟨fun i n σ' H' => ∃ S στ acc vs, S.H = H' ∧ EvR X.K S στ σ' ∧ n = items.1.length - i ∧ i ≤ items.1.length ∧ D ∈ S.hid ∧ S.H D = some (.lst vs) ∧ Reps X.K S acc vs ∧ Stp X.K S0 S ∧ FinL XE X.K S0 (compG items.2 bd cond f (items.1.drop i) στ S.M acc) Q,
      ⟨items.1.length - 0, S0.hide D [], capT tgs caps στ, [], [], rfl, (Mo.mo (K := X.K) m0 s1 (Mo.mo (K := X.K) m s0 ev)).cap tgs caps, rfl, Nat.zero_le _, .head _, upd_same, .nil, s1, by show FinL XE X.K S0 (compG items.2 bd cond f items.1 (capT tgs caps στ) S0.M []) Q; rw [e0]; exact fin0⟩, ?_⟩
    rintro i n σ1 H1 ⟨S2, στ2, acc, vs, e2, ev2, en, hi2, hid2, hD2, racc, s2, fin2⟩
    subst e2
    have m2 := s2.mok
    have hgd := compG_step fin2
    obtain ⟨itg, its⟩ := it0 S2 s2 hgd
    by_cases hl : i < items.1.length
    · have eq : items.1.drop i = items.1[i] :: items.1.drop (i + 1) := List.drop_eq_getElem_cons hl
      rw [eq] at fin2
      replace fin2 := (FinL.gd fin2).2
      obtain ⟨go, yl⟩ := itg i items.1[i] (by simp [hl])
      refine .inr ⟨go, fun σ' H' => ∃ S στ acc vs, S.H = H' ∧ EvR X.K S στ σ' ∧ D ∈ S.hid ∧ S.H D = some (.lst vs) ∧ Reps X.K S acc vs ∧ Stp X.K S0 S ∧ FinL XE X.K S0 (compG items.2 bd cond f (items.1.drop (i + 1)) στ S.M acc) Q, ?_, fun x H' hy => ?_⟩
      · rintro σ' H' ⟨S, στ, acc, vs, a1, a2, a3, a4, a5, a6, a7⟩
        exact ⟨items.1.length - (i + 1), by omega, S, στ, acc, vs, a1, a2, rfl, hl, a3, a4, a5, a6, a7⟩
      · obtain ⟨S3, e3, eM, s3, r3⟩ := yl x H' hy
        replace fin2 : FinL XE X.K S0 ((bd items.1[i] στ2 S2.M).bind fun σ1 M1 => (cond σ1 M1).bind fun b M2 => if b = true then (f σ1 M2).bind fun t M3 => if acc.length < sizeLine then compG items.2 bd cond f (items.1.drop (i + 1)) σ1 M3 (acc ++ [t]) else .bad else compG items.2 bd cond f (items.1.drop (i + 1)) σ1 M2 acc) Q := fin2
        refine ⟨S3, στ2, items.1[i], e3, s3.mok, Mo.mo m2 s3 ev2, r3, ?_⟩
        show Fin XE (EvR X.K) X.K S3 (bd items.1[i] στ2 S3.M) _
        rw [eM]
        cases o1 : bd items.1[i] στ2 S2.M with
        | bad => rw [o1] at fin2; exact fin2
        | exn C fs M' => rw [o1] at fin2; exact fun S' od a1 a2 a3 => fin2 S' od a1 ((s2.trans s3).trans a2) a3
        | ok σ4 M4 =>
          rw [o1] at fin2
          intro S4 σ4v e4 s4 ev4
          have t4 := s3.trans s4
          replace fin2 : FinL XE X.K S0 ((cond σ4 M4).bind fun b M2 => if b = true then (f σ4 M2).bind fun t M3 => if acc.length < sizeLine then compG items.2 bd cond f (items.1.drop (i + 1)) σ4 M3 (acc ++ [t]) else .bad else compG items.2 bd cond f (items.1.drop (i + 1)) σ4 M2 acc) Q := fin2
          refine ⟨S4, σ4, (), rfl, s4.mok, ev4, trivial, ?_⟩
          show Fin XE EqR X.K S4 (cond σ4 S4.M) _
          rw [e4]
          cases o2 : cond σ4 M4 with
          | bad => rw [o2] at fin2; exact fin2
          | exn C fs M' => rw [o2] at fin2; exact fun S' od a1 a2 a3 => fin2 S' od a1 ((s2.trans t4).trans a2) a3
          | ok b M5 =>
            rw [o2] at fin2
            intro S5 b5 e5 s5 eb
            have eb' : b = b5 := eb
            subst eb'
            have t5 := t4.trans s5
            replace fin2 : FinL XE X.K S0 (if b = true then (f σ4 M5).bind fun t M3 => if acc.length < sizeLine then compG items.2 bd cond f (items.1.drop (i + 1)) σ4 M3 (acc ++ [t]) else .bad else compG items.2 bd cond f (items.1.drop (i + 1)) σ4 M5 acc) Q := fin2
            cases b with
            | false =>
              rw [if_neg Bool.false_ne_true] at fin2
              refine (if_neg Bool.false_ne_true).mpr ⟨S5, σ4, acc, vs, rfl, Mo.mo s4.mok s5 ev4, (t5.hk D hid2).1, by rw [(t5.hk D hid2).2]; exact hD2, racc.grow m2 t5.toGrow, s2.trans t5, by rw [e5]; exact fin2⟩
            | true =>
              rw [if_pos rfl] at fin2
              refine (if_pos rfl).mpr ⟨S5, σ4, (), rfl, s5.mok, Mo.mo s4.mok s5 ev4, trivial, ?_⟩
              show Fin XE (Rep X.K) X.K S5 (f σ4 S5.M) _
              rw [e5]
              cases o3 : f σ4 M5 with
              | bad => rw [o3] at fin2; exact fin2
              | exn C fs M' => rw [o3] at fin2; exact fun S' od a1 a2 a3 => fin2 S' od a1 ((s2.trans t5).trans a2) a3
              | ok t M6 =>
                rw [o3] at fin2
                replace fin2 : FinL XE X.K S0 (if acc.length < sizeLine then compG items.2 bd cond f (items.1.drop (i + 1)) σ4 M6 (acc ++ [t]) else .bad) Q := fin2
                intro S6 v6 e6 s6 r6
                have t6 := t5.trans s6
                have hz : acc.length < sizeLine := by
                  by_cases hz : acc.length < sizeLine
                  · exact hz
                  · rw [if_neg hz] at fin2; exact fin2.elim
                rw [if_pos hz] at fin2
                have hid6 := (t6.hk D hid2).1
                have hD6 : S6.H D = some (.lst vs) := by rw [(t6.hk D hid2).2]; exact hD2
                refine ⟨vs, hD6, by rw [← racc.1]; exact hz, S6.hput D (vs ++ [v6]), σ4, acc ++ [t], vs ++ [v6], rfl, ?_, hid6, upd_same, ?_, (s2.trans t6).hput hid6 hD m0, by show FinL XE X.K S0 (compG items.2 bd cond f (items.1.drop (i + 1)) σ4 S6.M (acc ++ [t])) Q; rw [e6]; exact fin2⟩
                · have ev6 : EvR X.K S6 σ4 σ4v := Mo.mo s4.mok (s5.trans s6) ev4
                  exact ⟨ev6.1, fun i t e => let ⟨v, e', q⟩ := ev6.2 i t e; ⟨v, e', q.hput s6.mok hid6⟩⟩
                · exact ((racc.grow m2 t6.toGrow).app (.cons r6 .nil)).hput s6.mok hid6
    · rw [List.drop_eq_nil_of_le (by omega)] at fin2
      replace fin2 := (FinL.gd fin2).2
      refine .inl ⟨its i (by omega), ?_⟩
      exact fin2 S2 D vs rfl s2 hD hid2 hD2 racc
theorem gl_compG {tg elt iter : Expr} {ifs : List Expr} {scope : Scope} {cl : List (Str × Addr)} {pos : Pos} {tgs : List Str} {caps : List (Str × Nat)} {ga : Ev → Mem → Out (List T × Gd)} {bd : T → Ev → Mem → Out Ev} {cond : Ev → Mem → Out Bool} {f : Ev → Mem → Out T}
    (hc : X.calm = true) (hi : GIG X XE tg iter ga) (hclos : closureFor scope X.env = pure cl) (hcell : ∀ y ∈ scope.names, y.2 = .cell → y.1 ∉ caps.map (·.1)) (hkind : scope.kind = .function)
    (hnames : ∀ y ∈ scope.names, y.2 = .local → scope.names.lookup y.1 = some .local)
    (hcl : ∀ y c, cl.lookup y = some c → X.env.cells.lookup y = some c)
    (hhas : ∀ n y, ((relabel scope X.env).names.lookup y = some .cell ∨ (relabel scope X.env).names.lookup y = some .free) → ∃ c, (cellsFrom n scope.names cl).lookup y = some c)
    (hcap : ∀ c ∈ caps, X.N[c.2]? = some c.1 ∧ X.env.kindOf c.1 = some .cell ∧ ((relabel scope X.env).names.lookup c.1 = some .cell ∨ (relabel scope X.env).names.lookup c.1 = some .free))
    (hg : ∀ ex s0 H0, GG (X.block scope cl (tgs ++ caps.map (·.1)) ex s0 H0) XE tg bd) (hif : ∀ ex s0 H0, PTs (X.block scope cl (tgs ++ caps.map (·.1)) ex s0 H0) ifs (lT XE X.K cond)) (hel : ∀ ex s0 H0, GE (X.block scope cl (tgs ++ caps.map (·.1)) ex s0 H0) XE elt f)
    (hs : ∀ x, foldedSetIterable iter X.env x = pure x := by intro _; rfl) :
    GL X XE (.ListComp elt [⟨tg, iter, ifs, 0⟩] scope pos) (lCompG ga bd cond f tgs caps) := PE.imp (pe_comp (tgs := tgs) (g := lG XE X.K bd) (tc := lT XE X.K cond) (te := lE XE X.K f) hc hi hclos hcell hkind hnames hcl hhas hcap hg hif hel hs) fun σ H Q hh => comp_impG hh
theorem gs_setCompGF {i0 : Nat} {y0 : Str} {py spos : Pos} {tg elt iter : Expr} {ifs : List Expr} {scope : Scope} {cl : List (Str × Addr)} {pos : Pos} {tgs : List Str} {caps : List (Str × Nat)} {ga : Ev → Mem → Out (List T × Gd)} {bd : T → Ev → Mem → Out Ev} {cond : Ev → Mem → Out Bool} {f : Ev → Mem → Out T}
    (hc : X.calm = true) (hi : GIG X XE tg iter ga) (hclos : closureFor scope X.env = pure cl) (hcell : ∀ y ∈ scope.names, y.2 = .cell → y.1 ∉ caps.map (·.1)) (hkind : scope.kind = .function)
    (hnames : ∀ y ∈ scope.names, y.2 = .local → scope.names.lookup y.1 = some .local)
    (hcl : ∀ y c, cl.lookup y = some c → X.env.cells.lookup y = some c)
    (hhas : ∀ n y, ((relabel scope X.env).names.lookup y = some .cell ∨ (relabel scope X.env).names.lookup y = some .free) → ∃ c, (cellsFrom n scope.names cl).lookup y = some c)
    (hcap : ∀ c ∈ caps, X.N[c.2]? = some c.1 ∧ X.env.kindOf c.1 = some .cell ∧ ((relabel scope X.env).names.lookup c.1 = some .cell ∨ (relabel scope X.env).names.lookup c.1 = some .free))
    (hg : ∀ ex s0 H0, GG (X.block scope cl (tgs ++ caps.map (·.1)) ex s0 H0) XE tg bd) (hif : ∀ ex s0 H0, PTs (X.block scope cl (tgs ++ caps.map (·.1)) ex s0 H0) ifs (lT XE X.K cond)) (hel : ∀ ex s0 H0, GE (X.block scope cl (tgs ++ caps.map (·.1)) ex s0 H0) XE elt f)
    (hN0 : X.N.Nodup) (hi0 : X.N[i0]? = some y0) (hx0 : Loc X.env.scope y0)
    (hsw : swapsWith (.ListComp elt [⟨tg, iter, ifs, 0⟩] scope pos) (some (.Name y0 py)) spos.line X.env = pure true := by rfl)
    (hf0 : X.fn y0 = true ∨ X.env.scope.names.lookup y0 = some .local := by first | exact .inl rfl | exact .inr rfl | assumption)
    (hs : ∀ x, foldedSetIterable iter X.env x = pure x := by intro _; rfl) :
    GS X XE (.Assign [.Name y0 py] (.ListComp elt [⟨tg, iter, ifs, 0⟩] scope pos) spos) (sSet i0 (eFz (lCompG ga bd cond f tgs caps))) := PS.imp (ps_setComp (tgs := tgs) (g := lG XE X.K bd) (tc := lT XE X.K cond) (te := lE XE X.K f) hc hi hclos hcell hkind hnames hcl hhas hcap hg hif hel hN0 hi0 hx0 hsw hf0 hs) fun D σ H ⟨S, στ, _, e, m, ev, _, fin⟩ => comp_impG ⟨S, στ, e, m, ev, by
  show FinL XE X.K S (lCompG ga bd cond f tgs caps στ S.M) _
  replace fin : Fin XE (FlR X.K) X.K S (((lCompG ga bd cond f tgs caps στ S.M).bind fun xs M1 => .ok (T.lst xs) M1).bind fun t M1 => .ok (.nx (στ.set i0 (some t))) M1) (endsQ D) := fin
  cases q : lCompG ga bd cond f tgs caps στ S.M with
  | bad => rw [q] at fin; exact fin
  | exn C fs M' => rw [q] at fin; exact fin
  | ok xs M1 =>
    rw [q] at fin
    intro S1 p vs e1 s1 hn hp hv r
    exact fin (S1.show S.hid) (.nx (σ.set i0 (some (.ref p)))) e1 s1.show (.nx ((Mo.mo (K := X.K) m s1.show ev).set (hid_lst s1 hn m hp hv r) i0))⟩
theorem gs_setCompGT {i0 : Nat} {y0 : Str} {py spos : Pos} {tg elt iter : Expr} {ifs : List Expr} {scope : Scope} {cl : List (Str × Addr)} {pos : Pos} {tgs : List Str} {caps : List (Str × Nat)} {ga : Ev → Mem → Out (List T × Gd)} {bd : T → Ev → Mem → Out Ev} {cond : Ev → Mem → Out Bool} {f : Ev → Mem → Out T}
    (hc : X.calm = true) (hi : GIG X XE tg iter ga) (hclos : closureFor scope X.env = pure cl) (hcell : ∀ y ∈ scope.names, y.2 = .cell → y.1 ∉ caps.map (·.1)) (hkind : scope.kind = .function)
    (hnames : ∀ y ∈ scope.names, y.2 = .local → scope.names.lookup y.1 = some .local)
    (hcl : ∀ y c, cl.lookup y = some c → X.env.cells.lookup y = some c)
    (hhas : ∀ n y, ((relabel scope X.env).names.lookup y = some .cell ∨ (relabel scope X.env).names.lookup y = some .free) → ∃ c, (cellsFrom n scope.names cl).lookup y = some c)
    (hcap : ∀ c ∈ caps, X.N[c.2]? = some c.1 ∧ X.env.kindOf c.1 = some .cell ∧ ((relabel scope X.env).names.lookup c.1 = some .cell ∨ (relabel scope X.env).names.lookup c.1 = some .free))
    (hg : ∀ ex s0 H0, GG (X.block scope cl (tgs ++ caps.map (·.1)) ex s0 H0) XE tg bd) (hif : ∀ ex s0 H0, PTs (X.block scope cl (tgs ++ caps.map (·.1)) ex s0 H0) ifs (lT XE X.K cond)) (hel : ∀ ex s0 H0, GE (X.block scope cl (tgs ++ caps.map (·.1)) ex s0 H0) XE elt f)
    (hN0 : X.N.Nodup) (hi0 : X.N[i0]? = some y0) (hx0 : Loc X.env.scope y0)
    (hsw : swapsWith (.ListComp elt [⟨tg, iter, ifs, 0⟩] scope pos) (some (.Name y0 py)) spos.line X.env = pure true := by rfl)
    (hf0 : X.fn y0 = true ∨ X.env.scope.names.lookup y0 = some .local := by first | exact .inl rfl | exact .inr rfl | assumption)
    (hs : ∀ x, foldedSetIterable iter X.env x = pure x := by intro _; rfl) :
    GS X XE (.Assign [.Name y0 py] (.ListComp elt [⟨tg, iter, ifs, 0⟩] scope pos) spos) (sSet i0 (eTk (lCompG ga bd cond f tgs caps))) := PS.imp (ps_setComp (tgs := tgs) (g := lG XE X.K bd) (tc := lT XE X.K cond) (te := lE XE X.K f) hc hi hclos hcell hkind hnames hcl hhas hcap hg hif hel hN0 hi0 hx0 hsw hf0 hs) fun D σ H ⟨S, στ, _, e, m, ev, _, fin⟩ => comp_impG ⟨S, στ, e, m, ev, by
  show FinL XE X.K S (lCompG ga bd cond f tgs caps στ S.M) _
  replace fin : Fin XE (FlR X.K) X.K S (((lCompG ga bd cond f tgs caps στ S.M).bind fun xs M1 => .ok (T.ref M1.length) (M1 ++ [.lst xs])).bind fun t M1 => .ok (.nx (στ.set i0 (some t))) M1) (endsQ D) := fin
  cases q : lCompG ga bd cond f tgs caps στ S.M with
  | bad => rw [q] at fin; exact fin
  | exn C fs M' => rw [q] at fin; exact fin
  | ok xs M1 =>
    rw [q] at fin
    intro S1 p vs e1 s1 hn hp hv r
    have st := s1.track m hn hp hv r
    have this : (S1.track p xs S.hid).α S1.M.length = p := if_pos rfl
    have hl : S1.M.length < (S1.track p xs S.hid).M.length := by show _ < (S1.M ++ [Cell.lst xs]).length; simp
    have r2 : Rep X.K (S1.track p xs S.hid) (.ref S1.M.length) (.ref ((S1.track p xs S.hid).α S1.M.length)) := .ref hl
    rw [this, e1] at r2
    exact fin (S1.track p xs S.hid) (.nx (σ.set i0 (some (.ref p)))) (by show S1.M ++ _ = _; rw [e1]) st (.nx ((Mo.mo (K := X.K) m st ev).set r2 i0))⟩
end
end FT
namespace FT
open PySem PySem.Spec PyProof.Rows L2
def lstG (t : T) (M : Mem) : Option (List T × Gd) := match t with
  | .lst xs => some (xs, [])
  | .ref a => match M[a]? with
    | some (.lst xs) => some (xs, [(a, xs)])
    | _ => none
  | _ => none
theorem lstG_ok {K : PySem.W.Frag} {S : Sit} (m : MemOk K S) {t : T} {v : V} (r : Rep K S t v) {xs : List T} {G : Gd} (e : lstG t S.M = some (xs, G)) : ∃ p vs, v = .ref p ∧ SqL K S.H p vs ∧ ∀ S3, Stp K S S3 → gdOk G S3.M → ∃ vs3, SqL K S3.H p vs3 ∧ Reps K S3 xs vs3 := by
  unfold lstG at e
  split at e
  · cases e
    cases r with
    | @lst _ p vs h l rr =>
      refine ⟨p, vs, rfl, lst_sq h, fun S3 s3 _ => ⟨vs, lst_stays s3 h, ?_⟩⟩
      exact (show Reps K S xs vs from ⟨l, rr⟩).grow m s3.toGrow
  · rename_i a
    split at e
    · rename_i ys q
      cases e
      cases r with
      | ref ha =>
        obtain ⟨vs, h1, r1⟩ := m.cell a _ q
        refine ⟨S.α a, vs, rfl, .inl (.inl h1), fun S3 s3 g => ?_⟩
        obtain ⟨vs3, h3, r3⟩ := s3.mok.cell a _ (g (a, xs) (.head _))
        rw [s3.al a ha] at h3
        exact ⟨vs3, .inl (.inl h3), r3⟩
    · cases e
  · cases e
def iSeqG (f : Ev → Mem → Out T) : Ev → Mem → Out (List T × Gd) := fun σ M => (f σ M).bind fun t M1 => match lstG t M1 with
  | some g => .ok g M1
  | none => .bad
def iEnumG (f : Ev → Mem → Out T) : Ev → Mem → Out (List T × Gd) := fun σ M => (f σ M).bind fun t M1 => match lstG t M1 with
  | some g => .ok (enT g.1, g.2) M1
  | none => .bad
def zpG (ts : List T) (M : Mem) : Out (List T × Gd) := match ts with
  | [t, u] => match lstG t M, lstG u M with
    | some g, some h => .ok (zipT g.1 h.1, g.2 ++ h.2) M
    | _, _ => .bad
  | _ => .bad
def iZipG (ga : Ev → Mem → Out (List T)) : Ev → Mem → Out (List T × Gd) := fun σ M => (ga σ M).bind fun ts M1 => zpG ts M1
section
variable {X : Cx} {XE : XK}
theorem gi_seqG {e tg : Expr} {f : Ev → Mem → Out T} (he : GE X XE e f) : GIG X XE tg e (iSeqG f) := PI.imp (pi_list he) fun σ H R hh =>
  LN.mono (LN.bind (f := fun _ σ M => f σ M) (k := fun _ t σ M1 => match lstG t M1 with | some g => .ok g M1 | none => .bad) (RB := Rep X.K) hh) fun v H1 ⟨S, στ, a, e, m, ev, ra, fin⟩ => by
    obtain ⟨u, t⟩ := a
    subst e
    have rt : Rep X.K S t v := ra.2
    replace fin : Fin XE (ItG X.K) X.K S (match lstG t S.M with | some g => .ok g S.M | none => .bad) R := fin
    cases q : lstG t S.M with
    | none => rw [q] at fin; exact fin.elim
    | some g =>
      rw [q] at fin
      obtain ⟨xs, G⟩ := g
      obtain ⟨p, vs, rfl, h1, h2⟩ := lstG_ok m rt q
      refine ⟨p, rfl, ⟨vs, h1⟩, fin S _ rfl (.refl m) fun S3 s3 gd => ?_⟩
      obtain ⟨vs3, g3, r3⟩ := h2 S3 s3 gd
      refine ⟨fun i t et => ?_, fun i hi => ⟨vs3, g3, by rw [← r3.1]; exact hi⟩⟩
      obtain ⟨v2, ev3, rv⟩ := r3.get et
      refine ⟨⟨vs3, v2, g3, ev3⟩, fun x H' hy => ?_⟩
      obtain ⟨ey, hy⟩ := hy
      have := hy vs3 g3
      rw [ev3] at this
      cases this
      exact ⟨S3, ey.symm, rfl, .refl s3.mok, rv⟩
theorem gi_enumG {l : Expr} {f : Ev → Mem → Out T} {elts : List Expr} {x1} {tp p pos : Pos} (hg : Gl X "enumerate") (hm : X.mg "enumerate" = none) (he : GE X XE l f) (hs : noStar l = true := by rfl) :
    GIG X XE (.Tuple elts x1 tp) (.Call (.Name "enumerate" p) [l] [] pos) (iEnumG f) := PI.imp (pi_enumL hg hm he (star_cons hs)) fun σ H R hh =>
  LN.mono (LN.bind (f := fun _ σ M => f σ M) (k := fun _ t σ M1 => match lstG t M1 with | some g => .ok (enT g.1, g.2) M1 | none => .bad) (RB := Rep X.K) hh) fun v H1 ⟨S, στ, a, e, m, ev, ra, fin⟩ => by
    obtain ⟨u, t⟩ := a
    subst e
    have rt : Rep X.K S t v := ra.2
    replace fin : Fin XE (ItG X.K) X.K S (match lstG t S.M with | some g => .ok (enT g.1, g.2) S.M | none => .bad) R := fin
    cases q : lstG t S.M with
    | none => rw [q] at fin; exact fin.elim
    | some g =>
      rw [q] at fin
      obtain ⟨xs, G⟩ := g
      obtain ⟨p, vs, rfl, h1, h2⟩ := lstG_ok m rt q
      refine ⟨p, rfl, ⟨vs, h1⟩, fin S _ rfl (.refl m) fun S3 s3 gd => ?_⟩
      obtain ⟨vs3, g3, r3⟩ := h2 S3 s3 gd
      refine ⟨fun i t et => ?_, fun i hi => ⟨vs3, g3, by rw [← r3.1]; simpa [enT] using hi⟩⟩
      unfold enT at et
      rw [List.getElem?_mapIdx] at et
      obtain ⟨t0, et0, rfl⟩ := Option.map_eq_some_iff.mp et
      obtain ⟨v2, ev3, rv⟩ := r3.get et0
      refine ⟨⟨vs3, v2, g3, ev3⟩, fun x H' hy => ?_⟩
      obtain ⟨q, y, hq, rfl, rfl, hy⟩ := hy
      have := hy vs3 g3
      rw [ev3] at this
      cases this
      have s4 := Stp.new s3.mok hq (.tup [.int (i : Int), v2])
      refine ⟨⟨S3.α, S3.M, upd S3.H q (.tup [.int (i : Int), v2]), S3.hid⟩, rfl, rfl, s4, ?_⟩
      have rr : Reps X.K ⟨S3.α, S3.M, upd S3.H q (.tup [.int (i : Int), v2]), S3.hid⟩ [.int (i : Int), t0] [.int (i : Int), v2] := .cons (.int _) (.cons (rv.grow s3.mok s4.toGrow) .nil)
      exact .tup (.inl (.inl upd_same)) rr.1 rr.2
end
end FT
namespace L2
open PySem PySem.Spec PySem.W PyProof.Rows
def SI (b : Bool) (h : Heap) (q t : Addr) (k : Nat) : Prop := match b with
  | true => h.IsTupleIter q t k
  | false => h.IsListIter q t k
def SS (b : Bool) (h : Heap) (t : Addr) (xs : Array Value) : Prop := match b with
  | true => h.IsTuple t xs
  | false => h.IsList t xs
section
variable {b : Bool} {h h' : Heap} {q t : Addr} {k : Nat} {xs : Array Value}
theorem SI.mv (x : SI b h q t k) (g : ∀ o, h.get? q = some o → h'.get? q = some o) : SI b h' q t k := by
  cases b
  · exact Heap.IsListIter.at x g
  · exact Heap.IsTupleIter.at x g
theorem SS.mv (x : SS b h t xs) (g : ∀ o, h.get? t = some o → h'.get? t = some o) : SS b h' t xs := by
  cases b
  · obtain ⟨o, ho, r⟩ := (x : h.IsList t xs); exact ⟨o, g o ho, r⟩
  · obtain ⟨o, ho, r⟩ := (x : h.IsTuple t xs); exact ⟨o, g o ho, r⟩
theorem SI.ob (x : SI b h q t k) : ∃ o, h.get? q = some o ∧ ∀ v, o.data ≠ .cell v := by
  cases b
  · obtain ⟨o, e, c, d⟩ := (x : h.IsListIter q t k); exact ⟨o, e, fun v z => by rw [d] at z; cases z⟩
  · obtain ⟨o, e, c, d⟩ := (x : h.IsTupleIter q t k); exact ⟨o, e, fun v z => by rw [d] at z; cases z⟩
theorem SS.lt (x : SS b h t xs) : t < h.objs.size := by
  cases b
  · obtain ⟨o, ho, r⟩ := (x : h.IsList t xs); exact Heap.lt_size ho
  · obtain ⟨o, ho, r⟩ := (x : h.IsTuple t xs); exact Heap.lt_size ho
end
section
variable {prog : Program} {w : World} {A : Around} {E : Value → Shared → Prop} {s : Shared}
theorem sn_item {b : Bool} {q t : Addr} {i : Nat} {items : Array Value} {x : Value} {Q : Value → Shared → Prop} (hit : SI b s.heap q t i) (ht : SS b s.heap t items) (hx : items[i]? = some x)
    (hQ : ∀ k, SI b k q t (i + 1) → Heap.SameBut q s.heap k → Q x { s with heap := k }) : wpAny (model prog w) A (Builtin.SmallTypes.nextOf (.ref q)) Q E s := by
  cases b
  · exact wpAny_nextOf_list_item hit ht hx hQ
  · exact tupNext_item hit ht hx hQ
theorem sn_end {b : Bool} {q t : Addr} {i : Nat} {items : Array Value} {Q : Value → Shared → Prop} (hh : A.handled = none) (hit : SI b s.heap q t i) (ht : SS b s.heap t items) (hx : items[i]? = none)
    (hE : ∀ k e, Heap.ExtBut q s.heap k → (∃ o, k.get? e = some o ∧ o.cls = .type "StopIteration") → E (.ref e) { s with heap := k }) : wpAny (model prog w) A (Builtin.SmallTypes.nextOf (.ref q)) Q E s := by
  cases b
  · exact wpAny_nextOf_list_end hh hit ht hx hE
  · exact tupNext_end hh hit ht hx hE
theorem zs_step {b1 b2 : Bool} {z TI TO i1 i2 l1 l2 : Addr} {k1 k2 : Nat} {xs ys : Array Value} {a b : Value} {Q : Fin → Shared → Prop} (hh : A.handled = none) (D : ZipApart z TI TO i1 i2 l1 l2)
    (hz : IsZip s.heap z TI TO .none) (hTI : IsPair s.heap TI (.ref i1) (.ref i2)) (hTO : IsPair s.heap TO a b)
    (h1 : SI b1 s.heap i1 l1 k1) (h2 : SI b2 s.heap i2 l2 k2) (hl1 : SS b1 s.heap l1 xs) (hl2 : SS b2 s.heap l2 ys)
    (hE : (xs[k1]? = none ∨ ys[k2]? = none) → ∀ h' e, (∀ c o, c ≠ z → c ≠ TO → c ≠ i1 → c ≠ i2 → s.heap.get? c = some o → h'.get? c = some o) → (∃ o, h'.get? e = some o ∧ o.cls = .type "StopIteration") → E (.ref e) { s with heap := h' })
    (hQ : ∀ x y, xs[k1]? = some x → ys[k2]? = some y → ∀ h', IsZip h' z TI TO (rawInt s.heap.objs.size) → IsPair h' TO x y → SI b1 h' i1 l1 (k1 + 1) → SI b2 h' i2 l2 (k2 + 1) → IsPair h' s.heap.objs.size x y → h'.objs.size = s.heap.objs.size + 1 →
      (∀ c o, c ≠ z → c ≠ TO → c ≠ i1 → c ≠ i2 → s.heap.get? c = some o → h'.get? c = some o) → Q (.done (.ret (.ref s.heap.objs.size))) { s with heap := h' }) :
    wpAny (model prog w) A (Builtin.«zip.__next__» ⟨[.ref z], []⟩) Q E s := by
  show wpAny _ _ (field (.ref z) 2 >>= _) _ _ _
  refine wpAny_bind (wpAny_field hz rfl (x := .bool false) rfl ?_)
  show wpAny _ _ (field (.ref z) 3 >>= _) _ _ _
  refine wpAny_bind (wpAny_field hz rfl (x := .ref TI) rfl (wpAny_bind (wpAny_seqItems hTI rfl ?_)))
  show wpAny _ _ (Builtin.SmallTypes.ownedTupleIsFree (.ref z) >>= _) _ _ _
  refine wpAny_bind ?_
  unfold Builtin.SmallTypes.ownedTupleIsFree
  refine wpAny_bind (wpAny_field hz rfl (x := .none) rfl (wpAny_pure ?_))
  simp only [if_true]
  refine wpAny_bind (wpAny_rule (wpAny_bind (wpAny_field hz rfl (x := .ref TO) rfl (wpAny_bind (wpAny_setField_rec hz (by simp) fun m1 hz1 s1 => ?_)))))
  replace hz1 : IsZip m1 z TI TO .ellipsis := hz1
  refine wpAny_bind ?_
  simp only [List.zipIdx_cons, List.zipIdx_nil, List.forIn_cons, List.forIn_nil]
  refine wpAny_bind (wpAny_bind (wpAny_onRaise ?_))
  show wpAny _ _ (Builtin.SmallTypes.nextOf (.ref i1) >>= _) _ _ _
  have a1 : SI b1 m1 i1 l1 k1 := h1.mv fun o e => s1.extBut _ o D.i1z e
  have c1 : SS b1 m1 l1 xs := hl1.mv fun o e => s1.extBut _ o D.l1z e
  cases hx : xs[k1]? with
  | none =>
    refine wpAny_bind (sn_end hh a1 c1 hx fun m2 e s2 he => ?_)
    obtain ⟨oe, q1, q2⟩ := he
    have hz2 : IsZip m2 z TI TO .ellipsis := s2 _ _ D.i1z.symm hz1
    have ez : e ≠ z := fun x => by subst x; rw [hz2] at q1; cases q1; simp at q2
    exact wpAny_setField_rec hz2 (by simp) fun m3 _ s3 => hE (.inl hx) m3 e (fun c o n1 _ n3 _ x => s3.extBut _ _ n1 (s2 _ _ n3 (s1.extBut _ _ n1 x))) ⟨oe, s3.extBut _ _ ez q1, q2⟩
  | some x =>
    refine wpAny_bind (sn_item a1 c1 hx fun m2 g1 s2 => wpAny_pure ?_)
    have hTO2 : IsPair m2 TO a b := s2.extBut _ _ D.TOi1 (s1.extBut _ _ D.TOz hTO)
    refine wpAny_bind (wpAny_seqItems hTO2 rfl (wpAny_bind (wpAny_updateSeq_pair hTO2 fun m3 hTO3 s3 => ?_)))
    replace hTO3 : IsPair m3 TO x b := hTO3
    refine wpAny_bind (wpAny_letGo (wpAny_pure ?_))
    refine wpAny_bind (wpAny_bind (wpAny_onRaise ?_))
    show wpAny _ _ (Builtin.SmallTypes.nextOf (.ref i2) >>= _) _ _ _
    have up3 : ∀ c o, c ≠ z → c ≠ TO → c ≠ i1 → s.heap.get? c = some o → m3.get? c = some o := fun c o n1 n2 n3 e => s3.extBut _ _ n2 (s2.extBut _ _ n3 (s1.extBut _ _ n1 e))
    have a2 : SI b2 m3 i2 l2 k2 := h2.mv fun o e => up3 _ o D.i2z D.TOi2.symm D.i12.symm e
    have c2 : SS b2 m3 l2 ys := hl2.mv fun o e => up3 _ o D.l2z D.l2TO D.l2i1 e
    have hz3 : IsZip m3 z TI TO .ellipsis := s3.extBut _ _ D.TOz.symm (s2.extBut _ _ D.i1z.symm hz1)
    cases hy : ys[k2]? with
    | none =>
      refine wpAny_bind (sn_end hh a2 c2 hy fun m4 e s4 he => ?_)
      obtain ⟨oe, q1, q2⟩ := he
      have hz4 : IsZip m4 z TI TO .ellipsis := s4 _ _ D.i2z.symm hz3
      have ez : e ≠ z := fun x => by subst x; rw [hz4] at q1; cases q1; simp at q2
      exact wpAny_setField_rec hz4 (by simp) fun m5 _ s5 => hE (.inr hy) m5 e (fun c o n1 n2 n3 n4 x => s5.extBut _ _ n1 (s4 _ _ n4 (up3 c o n1 n2 n3 x))) ⟨oe, s5.extBut _ _ ez q1, q2⟩
    | some y =>
      refine wpAny_bind (sn_item a2 c2 hy fun m4 g2 s4 => wpAny_pure ?_)
      have hTO4 : IsPair m4 TO x b := s4.extBut _ _ D.TOi2 hTO3
      refine wpAny_bind (wpAny_seqItems hTO4 rfl (wpAny_bind (wpAny_updateSeq_pair hTO4 fun m5 hTO5 s5 => ?_)))
      replace hTO5 : IsPair m5 TO x y := hTO5
      refine wpAny_bind (wpAny_letGo (wpAny_pure (wpAny_pure ?_)))
      refine wpAny_bind (wpAny_seqItems hTO5 rfl (wpAny_bind (wpAny_newTuple ?_)))
      have sz : m5.objs.size = s.heap.objs.size := by rw [s5.1, s4.1, s3.1, s2.1, s1.1]
      have hz5 : IsZip m5 z TI TO .ellipsis := s5.extBut _ _ D.TOz.symm (s4.extBut _ _ D.i2z.symm hz3)
      have zlt : z < m5.objs.size := Heap.lt_size hz5
      show wpAny _ _ (Builtin.SmallTypes.ownedTupleHandOut (.ref z) (.ref m5.objs.size) >>= _) _ _ _
      refine wpAny_bind ?_
      unfold Builtin.SmallTypes.ownedTupleHandOut
      have hz6 : IsZip (m5.push { cls := .type "tuple", data := .seq #[x, y] }) z TI TO .ellipsis := Heap.get?_push_of_some _ hz5
      refine wpAny_bind (wpAny_setField_rec hz6 (by simp) fun m7 hz7 s7 => ?_)
      replace hz7 : IsZip m7 z TI TO (rawInt m5.objs.size) := hz7
      refine wpAny_setField_rec hz7 (by simp) fun m8 hz8 s8 => ?_
      replace hz8 : IsZip m8 z TI TO (rawInt m5.objs.size) := hz8
      have up : ∀ c o, c ≠ z → m5.get? c = some o → m8.get? c = some o := fun c o n1 e => s8.extBut _ _ n1 (s7.extBut _ _ n1 (Heap.get?_push_of_some _ e))
      have tp : IsPair m8 m5.objs.size x y := s8.extBut _ _ (Nat.ne_of_gt zlt) (s7.extBut _ _ (Nat.ne_of_gt zlt) (Heap.get?_push_size _ rfl))
      have z8 : m8.objs.size = m5.objs.size + 1 := by rw [s8.1, s7.1, Heap.size_push]
      rw [sz] at hz8 tp z8
      refine wpAny_pure ?_
      show Q (.done (.ret (.ref m5.objs.size))) _
      rw [sz]
      refine hQ x y hx hy m8 hz8 (up _ _ D.TOz hTO5) ?_ ?_ tp z8 fun c o n1 n2 n3 n4 e => up c o n1 (s5.extBut _ _ n2 (s4.extBut _ _ n4 (up3 c o n1 n2 n3 e)))
      · exact g1.mv fun o e => up _ o D.i1z (s5.extBut _ _ D.TOi1.symm (s4.extBut _ _ D.i12 (s3.extBut _ _ D.TOi1.symm e)))
      · exact g2.mv fun o e => up _ o D.i2z (s5.extBut _ _ D.TOi2.symm e)
theorem zs_item {b1 b2 : Bool} {z TI TO i1 i2 l1 l2 : Addr} {k1 k2 : Nat} {xs ys : Array Value} {x y a b : Value} {Q : Option Value → Shared → Prop} (hh : A.handled = none) (D : ZipApart z TI TO i1 i2 l1 l2)
    (hz : IsZip s.heap z TI TO .none) (hTI : IsPair s.heap TI (.ref i1) (.ref i2)) (hTO : IsPair s.heap TO a b)
    (h1 : SI b1 s.heap i1 l1 k1) (h2 : SI b2 s.heap i2 l2 k2) (hl1 : SS b1 s.heap l1 xs) (hl2 : SS b2 s.heap l2 ys) (hx : xs[k1]? = some x) (hy : ys[k2]? = some y)
    (hQ : ∀ h', IsZip h' z TI TO (rawInt s.heap.objs.size) → IsPair h' TO x y → SI b1 h' i1 l1 (k1 + 1) → SI b2 h' i2 l2 (k2 + 1) → IsPair h' s.heap.objs.size x y → h'.objs.size = s.heap.objs.size + 1 →
      (∀ c o, c ≠ z → c ≠ TO → c ≠ i1 → c ≠ i2 → s.heap.get? c = some o → h'.get? c = some o) → Q (some (.ref s.heap.objs.size)) { s with heap := h' }) :
    wpAny (model prog w) A (pyNext (.ref z)) Q E s := by
  have hT : s.TypeIs (.ref z) "zip" := ⟨_, hz, rfl⟩
  unfold pyNext
  refine wpAny_bind (wpAny_attempt (wpAny_callSpecial?_slot (name := Str.ofString "__next__") hT PySem.F.slot_zip_next (wpAny_call_entry PySem.F.slot_zip_next hT PySem.F.entry_zip_next ?_ (PySem.F.args_zip_next_1 _))))
  refine zs_step (by first | exact hh | rfl) D hz hTI hTO h1 h2 hl1 hl2 (fun g => ?_) fun x' y' ex ey h' a1 a2 a3 a4 a5 a6 a7 => ?_
  · rcases g with g | g
    · rw [hx] at g; cases g
    · rw [hy] at g; cases g
  · rw [hx] at ex; rw [hy] at ey
    cases ex; cases ey
    exact ⟨_, rfl, wpAny_pure (hQ h' a1 a2 a3 a4 a5 a6 a7)⟩
theorem zs_end {b1 b2 : Bool} {z TI TO i1 i2 l1 l2 : Addr} {k1 k2 : Nat} {xs ys : Array Value} {a b : Value} {Q : Option Value → Shared → Prop} (hh : A.handled = none) (D : ZipApart z TI TO i1 i2 l1 l2)
    (hz : IsZip s.heap z TI TO .none) (hTI : IsPair s.heap TI (.ref i1) (.ref i2)) (hTO : IsPair s.heap TO a b)
    (h1 : SI b1 s.heap i1 l1 k1) (h2 : SI b2 s.heap i2 l2 k2) (hl1 : SS b1 s.heap l1 xs) (hl2 : SS b2 s.heap l2 ys) (hend : xs[k1]? = none ∨ ys[k2]? = none)
    (hQ : ∀ h', (∀ c o, c ≠ z → c ≠ TO → c ≠ i1 → c ≠ i2 → s.heap.get? c = some o → h'.get? c = some o) → Q none { s with heap := h' }) : wpAny (model prog w) A (pyNext (.ref z)) Q E s := by
  have hT : s.TypeIs (.ref z) "zip" := ⟨_, hz, rfl⟩
  unfold pyNext
  refine wpAny_bind (wpAny_attempt (wpAny_callSpecial?_slot (name := Str.ofString "__next__") hT PySem.F.slot_zip_next (wpAny_call_entry PySem.F.slot_zip_next hT PySem.F.entry_zip_next ?_ (PySem.F.args_zip_next_1 _))))
  refine zs_step (by first | exact hh | rfl) D hz hTI hTO h1 h2 hl1 hl2 (fun _ h' e hk he => ?_) fun x y ex ey _ _ _ _ _ _ _ _ => ?_
  · obtain ⟨o, ho, hc⟩ := he
    exact wpAny_bind (wpAny_isInstance (T := "StopIteration") (b := true) ⟨o, ho, hc⟩ isSubtype_stop (wpAny_pure (hQ _ hk)))
  · rcases hend with g | g
    · rw [ex] at g; cases g
    · rw [ey] at g; cases g
end
abbrev siObj (b : Bool) (l : Addr) : Obj := match b with
  | true => { cls := .type "tuple_iterator", data := .fields #[.ref l, .int 0 0] }
  | false => { cls := .type "list_iterator", data := .fields #[.ref l, .int 0 0] }
abbrev zs1 (b : Bool) (h : Heap) (l1 : Addr) : Heap := h.push (siObj b l1)
abbrev zs2 (b b' : Bool) (h : Heap) (l1 l2 : Addr) : Heap := (zs1 b h l1).push (siObj b' l2)
abbrev zs3 (b b' : Bool) (h : Heap) (l1 l2 : Addr) : Heap := (zs2 b b' h l1 l2).push { cls := .type "tuple", data := .seq #[.ref h.objs.size, .ref (zs1 b h l1).objs.size] }
abbrev zs4 (b b' : Bool) (h : Heap) (l1 l2 : Addr) : Heap := (zs3 b b' h l1 l2).push { cls := .type "tuple", data := .seq #[.none, .none] }
abbrev zs5 (b b' : Bool) (h : Heap) (l1 l2 : Addr) : Heap := (zs4 b b' h l1 l2).push { cls := .type "zip", data := .fields #[.none, .bool false, .bool false, .ref (zs2 b b' h l1 l2).objs.size, .ref (zs3 b b' h l1 l2).objs.size] }
theorem meets_zs (b b' : Bool) (l1 l2 : Addr) (xs ys : Array Value) : Meets (Builtin.«zip.__new__» ⟨[.type "zip", .ref l1, .ref l2], []⟩) (fun _ R s => SS b s.heap l1 xs ∧ SS b' s.heap l2 ys ∧ R (.ok (.ret (.ref (zs4 b b' s.heap l1 l2).objs.size))) { s with heap := zs5 b b' s.heap l1 l2 }) :=
  .of_wp fun prog w A R s h => by
    obtain ⟨hp, g, d, tk, os⟩ := s
    obtain ⟨h1, h2, h⟩ := h
    have se := sub_zip
    have p2 : SS b' (hp.push (siObj b l1)) l2 ys := h2.mv fun o e => Heap.get?_push_of_some _ e
    cases b <;> cases b'
    · have q1 : Heap.IsList (Shared.heap ⟨hp, g, d, tk, os⟩) l1 xs := h1
      have q2 : Heap.IsList (Shared.heap ⟨hp.push (siObj false l1), g, d, tk, os⟩) l2 ys := p2
      wp_walk using wpAny_pyIter_list q1, wpAny_pyIter_list q2
      exact ⟨_, rfl, h⟩
    · have q1 : Heap.IsList (Shared.heap ⟨hp, g, d, tk, os⟩) l1 xs := h1
      have q2 : Heap.IsTuple (Shared.heap ⟨hp.push (siObj false l1), g, d, tk, os⟩) l2 ys := p2
      wp_walk using wpAny_pyIter_list q1, wpAny_pyIter_tuple q2
      exact ⟨_, rfl, h⟩
    · have q1 : Heap.IsTuple (Shared.heap ⟨hp, g, d, tk, os⟩) l1 xs := h1
      have q2 : Heap.IsList (Shared.heap ⟨hp.push (siObj true l1), g, d, tk, os⟩) l2 ys := p2
      wp_walk using wpAny_pyIter_tuple q1, wpAny_pyIter_list q2
      exact ⟨_, rfl, h⟩
    · have q1 : Heap.IsTuple (Shared.heap ⟨hp, g, d, tk, os⟩) l1 xs := h1
      have q2 : Heap.IsTuple (Shared.heap ⟨hp.push (siObj true l1), g, d, tk, os⟩) l2 ys := p2
      wp_walk using wpAny_pyIter_tuple q1, wpAny_pyIter_tuple q2
      exact ⟨_, rfl, h⟩
section
variable {prog : Program} {w : World} {A : Around} {E : Value → Shared → Prop} {s : Shared}
theorem si_new (b : Bool) (h : Heap) (l : Addr) : SI b (h.push (siObj b l)) h.objs.size l 0 := by
  cases b
  · exact ⟨_, Heap.get?_push_size _ rfl, rfl, rfl⟩
  · exact ⟨_, Heap.get?_push_size _ rfl, rfl, rfl⟩
theorem call_zs {b b' : Bool} {l1 l2 : Addr} {xs ys : Array Value} {Q : Value → Shared → Prop} (hl1 : SS b s.heap l1 xs) (hl2 : SS b' s.heap l2 ys)
    (h : ∀ h', IsZip h' (s.heap.objs.size + 4) (s.heap.objs.size + 2) (s.heap.objs.size + 3) .none → IsPair h' (s.heap.objs.size + 2) (.ref s.heap.objs.size) (.ref (s.heap.objs.size + 1)) →
      IsPair h' (s.heap.objs.size + 3) .none .none → SI b h' s.heap.objs.size l1 0 → SI b' h' (s.heap.objs.size + 1) l2 0 →
      (∀ c o, s.heap.get? c = some o → h'.get? c = some o) → Q (.ref (s.heap.objs.size + 4)) { s with heap := h' }) :
    wpAny (model prog w) A (call (.type "zip") [.ref l1, .ref l2]) Q E s := by
  refine callType_new PySem.F.called_zip (by decide) (PySem.F.typeCall_zip_2 _ _) (PySem.F.newCall_zip_2 _ _) (fun obj => PySem.F.args_object_init_3 obj _ _) PySem.F.entry_zip_new (meets_zs b b' l1 l2 xs ys) ⟨hl1, hl2, ?_⟩
  have e1 : (zs1 b s.heap l1).objs.size = s.heap.objs.size + 1 := Heap.size_push ..
  have e2 : (zs2 b b' s.heap l1 l2).objs.size = s.heap.objs.size + 2 := by rw [Heap.size_push, e1]
  have e3 : (zs3 b b' s.heap l1 l2).objs.size = s.heap.objs.size + 3 := by rw [Heap.size_push, e2]
  have e4 : (zs4 b b' s.heap l1 l2).objs.size = s.heap.objs.size + 4 := by rw [Heap.size_push, e3]
  have g5 : IsZip (zs5 b b' s.heap l1 l2) (zs4 b b' s.heap l1 l2).objs.size (zs2 b b' s.heap l1 l2).objs.size (zs3 b b' s.heap l1 l2).objs.size .none := Heap.get?_push_size _ rfl
  have g4 : IsPair (zs5 b b' s.heap l1 l2) (zs3 b b' s.heap l1 l2).objs.size .none .none := Heap.get?_push_of_some _ (Heap.get?_push_size _ rfl)
  have g3 : IsPair (zs5 b b' s.heap l1 l2) (zs2 b b' s.heap l1 l2).objs.size (.ref s.heap.objs.size) (.ref (zs1 b s.heap l1).objs.size) := Heap.get?_push_of_some _ (Heap.get?_push_of_some _ (Heap.get?_push_size _ rfl))
  have g2 : SI b' (zs5 b b' s.heap l1 l2) (zs1 b s.heap l1).objs.size l2 0 := (si_new b' (zs1 b s.heap l1) l2).mv fun o e => Heap.get?_push_of_some _ (Heap.get?_push_of_some _ (Heap.get?_push_of_some _ e))
  have g1 : SI b (zs5 b b' s.heap l1 l2) s.heap.objs.size l1 0 := (si_new b s.heap l1).mv fun o e => Heap.get?_push_of_some _ (Heap.get?_push_of_some _ (Heap.get?_push_of_some _ (Heap.get?_push_of_some _ e)))
  show _ ∧ _
  rw [e4, e2, e3] at g5
  rw [e3] at g4
  rw [e2, e1] at g3
  rw [e1] at g2
  rw [e4]
  refine ⟨⟨_, g5, rfl⟩, h _ g5 g3 g4 g1 g2 fun c o e => Heap.get?_push_of_some _ (Heap.get?_push_of_some _ (Heap.get?_push_of_some _ (Heap.get?_push_of_some _ (Heap.get?_push_of_some _ e))))⟩
end
end L2
namespace L2
open PySem PySem.Spec PySem.W PyProof.Rows
def SqX (K : PySem.W.Frag) (H : Hp) (b : Bool) (a : Addr) (xs : List V) : Prop := match b with
  | true => SqT K H a xs
  | false => SqL K H a xs
section
variable {X : Cx} {pins : List (Addr × Obj)} {σ : St} {H : Hp} {s : Shared} {b : Bool} {a : Addr} {xs ys : List V}
theorem Inv.seqX (I : Inv X pins σ H s) (h : SqX X.K H b a xs) : ∃ its : List Value, Vals xs its ∧ SS b s.heap a its.toArray := by
  cases b
  · obtain ⟨its, rv, p, _⟩ := I.list h
    exact ⟨its, rv, p.isList⟩
  · obtain ⟨its, rv, p, _⟩ := I.tuple h
    exact ⟨its, rv, p⟩
theorem Inv.seqX_inj (I : Inv X pins σ H s) (h : SqX X.K H b a xs) (h' : SqX X.K H b a ys) : xs = ys := by
  cases b
  · exact I.list_inj h h'
  · exact I.tuple_inj h h'
end
def ItX (K : PySem.W.Frag) (b b' : Bool) (a c : Addr) : It :=
  ⟨fun i H => ∃ xs x ys y, SqX K H b a xs ∧ xs[i]? = some x ∧ SqX K H b' c ys ∧ ys[i]? = some y,
   fun i H v H' => ∃ p x y, H p = none ∧ v = .ref p ∧ H' = upd H p (.tup [x, y]) ∧ (∀ xs, SqX K H b a xs → xs[i]? = some x) ∧ ∀ ys, SqX K H b' c ys → ys[i]? = some y,
   fun i H => ∃ xs ys, SqX K H b a xs ∧ SqX K H b' c ys ∧ (xs.length ≤ i ∨ ys.length ≤ i)⟩
theorem turn_zipX {P : Program} {w : World} {K : PySem.W.Frag} {elts : List Expr} {x1} {pos : Pos} (b b' : Bool) (a c z TI TO i1 i2 : Addr) (D : ZipApart z TI TO i1 i2 a c) :
    Turn P w K (.Tuple elts x1 pos) (ItX K b b' a c) [z, TI, TO, i1, i2] z (fun i h => IsZip h z TI TO .none ∧ IsPair h TI (.ref i1) (.ref i2) ∧ (∃ u v, IsPair h TO u v) ∧ SI b h i1 a i ∧ SI b' h i2 c i) where
  mem := by simp
  obj := fun i h st d hd => by
    obtain ⟨h1, h2, ⟨u, v, h3⟩, h4, h5⟩ := st
    simp only [List.mem_cons, List.mem_singleton, List.not_mem_nil, or_false] at hd
    rcases hd with rfl | rfl | rfl | rfl | rfl
    · exact ⟨_, h1, fun v z => by cases z⟩
    · exact ⟨_, h2, fun v z => by cases z⟩
    · exact ⟨_, h3, fun v z => by cases z⟩
    · exact h4.ob
    · exact h5.ob
  keep := fun i h k st kk => by
    obtain ⟨h1, h2, ⟨u, v, h3⟩, h4, h5⟩ := st
    exact ⟨kk z (by simp) _ h1, kk TI (by simp) _ h2, ⟨u, v, kk TO (by simp) _ h3⟩, h4.mv fun o q => kk i1 (by simp) o q, h5.mv fun o q => kk i2 (by simp) o q⟩
  item := by
    intro X hP hw hK hc i pins s σ H E I hf st hg
    subst hP hw hK
    obtain ⟨xs, x, ys, y, hq1, hx, hq2, hy⟩ := hg
    obtain ⟨its1, rv1, p1⟩ := I.seqX hq1
    obtain ⟨its2, rv2, p2⟩ := I.seqX hq2
    obtain ⟨u1, hu1, ru1⟩ := rv1.get hx
    obtain ⟨u2, hu2, ru2⟩ := rv2.get hy
    obtain ⟨h1, h2, ⟨u, v, h3⟩, h4, h5⟩ := st
    refine zs_item (I.ok.hd hc) D h1 h2 h3 h4 h5 p1 p2 (x := u1) (y := u2) (by simpa using hu1) (by simpa using hu2) fun k g1 g2 g3 g4 g5 hsz hk => ?_
    refine ⟨.ref s.heap.objs.size, rfl, wpAny_letOwnedTupleGo_zip (s := { s with heap := k }) g1 fun k2 en2 sb => ?_⟩
    have zS : z ≠ s.heap.objs.size := Nat.ne_of_lt (Heap.lt_size h1)
    have TS : TI ≠ s.heap.objs.size := Nat.ne_of_lt (Heap.lt_size h2)
    have OS : TO ≠ s.heap.objs.size := Nat.ne_of_lt (Heap.lt_size h3)
    have iS : i1 ≠ s.heap.objs.size := by obtain ⟨o, q, _⟩ := h4.ob; exact Nat.ne_of_lt (Heap.lt_size q)
    have jS : i2 ≠ s.heap.objs.size := by obtain ⟨o, q, _⟩ := h5.ob; exact Nat.ne_of_lt (Heap.lt_size q)
    have IA := I.laid (h' := s.heap.push { cls := .type "tuple", data := .seq #[u1, u2] }) (t' := s.toks) (a := s.heap.objs.size) (o := .tup [x, y]) (fun b o q => Heap.get?_push_of_some _ q) (Nat.le_refl _) (show ObjOk X.prog X.w _ _ _ (.tup [x, y]) from ⟨by show 2 ≤ sizeLine; rw [sizeLine_eq]; omega, [u1, u2], .cons ru1 (.cons ru2 .nil), by have := IsTup.new s.heap #[u1, u2]; simpa using this, NoDict.new⟩)
    have up : ∀ b, b ≠ s.heap.objs.size → (upd H s.heap.objs.size (.tup [x, y])) b = H b := fun b hb => if_neg hb
    have fr : ∀ c ∈ [z, TI, TO, i1, i2], c ≠ s.heap.objs.size := fun c hc => by
      simp only [List.mem_cons, List.mem_singleton, List.not_mem_nil, or_false] at hc
      rcases hc with rfl | rfl | rfl | rfl | rfl <;> assumption
    have IB := IA.turnedN (t' := s.toks) (h' := k2) (l := [z, TI, TO, i1, i2]) (fun c o hcl q => by
      have hcz : c ≠ z := fun e => hcl (by simp [e])
      have hcO : c ≠ TO := fun e => hcl (by simp [e])
      have hc1 : c ≠ i1 := fun e => hcl (by simp [e])
      have hc2 : c ≠ i2 := fun e => hcl (by simp [e])
      rcases Heap.get?_push_cases q with ⟨z1, z2⟩ | q
      · subst z1; subst z2
        exact (sb.2 _ (Ne.symm zS)).trans g5
      · exact (sb.2 c hcz).trans (hk c o hcz hcO hc1 hc2 q)) (fun c hc => ⟨by rw [up c (fr c hc)]; exact (hf c hc).1, (hf c hc).2⟩)
    refine ⟨.ref s.heap.objs.size, _, IB, rfl, ⟨s.heap.objs.size, x, y, I.hok.fresh (Nat.le_refl _), rfl, rfl, fun zs hzs => by rw [I.seqX_inj hzs hq1]; exact hx, fun zs hzs => by rw [I.seqX_inj hzs hq2]; exact hy⟩, ⟨en2, ?_, ⟨u1, u2, ?_⟩, ?_, ?_⟩, fun c hc => by rw [up c (fr c hc)]; exact (hf c hc).1⟩
    · exact (sb.2 TI D.TIz).trans (hk TI _ D.TIz D.TITO D.TIi1 D.TIi2 h2)
    · exact (sb.2 TO D.TOz).trans g2
    · exact g3.mv fun o q => (sb.2 i1 D.i1z).trans q
    · exact g4.mv fun o q => (sb.2 i2 D.i2z).trans q
  done := by
    intro X hP hw hK hc i pins s σ H E I hf st hg
    subst hP hw hK
    obtain ⟨xs, ys, hq1, hq2, hend⟩ := hg
    obtain ⟨its1, rv1, p1⟩ := I.seqX hq1
    obtain ⟨its2, rv2, p2⟩ := I.seqX hq2
    obtain ⟨h1, h2, ⟨u, v, h3⟩, h4, h5⟩ := st
    have l1 := rv1.length
    have l2 := rv2.length
    refine zs_end (I.ok.hd hc) D h1 h2 h3 h4 h5 p1 p2 (hend.imp (fun q => by simp; omega) (fun q => by simp; omega)) fun k hk => ⟨rfl, ?_⟩
    refine I.turnedN (t' := s.toks) (l := [z, TI, TO, i1, i2]) (fun c o hcl q => hk c o (fun e => hcl (by simp [e])) (fun e => hcl (by simp [e])) (fun e => hcl (by simp [e])) (fun e => hcl (by simp [e])) q) hf
  self := fun _ _ _ _ _ st h => wpAny_pyIter_zip st.1 h
section
variable {X : Cx}
def iZipX (K : PySem.W.Frag) (tl : TA) : TI := fun σ H R => tl σ H fun vs H1 => ∃ b b' a c, vs = [.ref a, .ref c] ∧ (∃ xs, SqX K H1 b a xs) ∧ (∃ ys, SqX K H1 b' c ys) ∧ R (ItX K b b' a c) H1
theorem pi_zipX {l m : Expr} {tl : TA} {elts : List Expr} {x1} {tp p pos : Pos} (hg : Gl X "zip") (hm : X.mg "zip" = none) (hl : PA X [l, m] tl) (hs : starEach [l, m] X.env = [(false, eval l X.env), (false, eval m X.env)] := by rfl) (hs2 : starEach [m] X.env = [(false, eval m X.env)] := by rfl) :
    PI X (.Tuple elts x1 tp) (.Call (.Name "zip" p) [l, m] [] pos) (iZipX X.K tl) := by
  intro pins s σ H R I h
  refine Call_ (ld_blt I hg hm (show bootBuiltins "zip" = some (.type "zip") by decide +kernel) (PyProof.Rows.callWith_type1 (thn (hl pos pins s σ H _ I h) fun us s1 ⟨vs, H1, I1, r1, q1⟩ => ?_) (by rw [hs, hs2]) (by rw [hs2]; rfl)))
  obtain ⟨b, b', a, c, e, ⟨xs, hq1⟩, ⟨ys, hq2⟩, q⟩ := q1
  subst e
  cases r1 with
  | cons r rr =>
    cases rr with
    | cons r' rr =>
      cases rr
      cases r
      cases r'
      obtain ⟨its1, rv1, p1⟩ := I1.seqX hq1
      obtain ⟨its2, rv2, p2⟩ := I1.seqX hq2
      have ha : a < s1.heap.objs.size := p1.lt
      have hb : c < s1.heap.objs.size := p2.lt
      generalize hS : s1.heap.objs.size = S at ha hb
      refine call_zs p1 p2 fun k g1 g2 g3 g4 g5 hk => ?_
      rw [hS] at g1 g2 g3 g4 g5 ⊢
      refine wpAny_pyIter_zip g1 ?_
      have ha' : @LT.lt Nat instLTNat a S := ha
      have hb' : @LT.lt Nat instLTNat c S := hb
      have D : ZipApart (S + 4) (S + 2) (S + 3) S (S + 1) a c := by
        refine ⟨?_, ?_, ?_, ?_, ?_, ?_, ?_, ?_, ?_, ?_, ?_, ?_, ?_, ?_, ?_, ?_, ?_, ?_⟩ <;> (intro z; have z' : (_ : Nat) = _ := z; omega)
      refine ⟨S + 4, [S + 4, S + 2, S + 3, S, S + 1], _, _, H1, rfl, I1.kept (t' := s1.toks) hk, turn_zipX b b' a c _ _ _ _ _ D, ⟨g1, g2, ⟨_, _, g3⟩, g4, g5⟩, fun d hd => ?_, q⟩
      have hd2 : s1.heap.objs.size ≤ d := by
        rw [hS]
        simp only [List.mem_cons, List.mem_singleton, List.not_mem_nil, or_false] at hd
        rcases hd with e | e | e | e | e <;> (rw [e]; first | exact Nat.le_refl _ | exact Nat.le_add_right _ _)
      exact I1.fpOk hd2 (I1.hok.fresh hd2)
end
end L2
namespace FT
open PySem PySem.Spec PyProof.Rows L2
def seqG (t : T) (M : Mem) : Option (List T × Gd) := match t with
  | .tup xs => some (xs, [])
  | t => lstG t M
theorem seqG_ok {K : PySem.W.Frag} {S : Sit} (m : MemOk K S) {t : T} {v : V} (r : Rep K S t v) {xs : List T} {G : Gd} (e : seqG t S.M = some (xs, G)) : ∃ b p vs, v = .ref p ∧ SqX K S.H b p vs ∧ ∀ S3, Stp K S S3 → gdOk G S3.M → ∃ vs3, SqX K S3.H b p vs3 ∧ Reps K S3 xs vs3 := by
  cases t with
  | tup ts =>
    cases e
    cases r with
    | @tup _ p vs h l rr => exact ⟨true, p, vs, rfl, h, fun S3 s3 _ => ⟨vs, s3.toGrow.tup m h, (show Reps K S xs vs from ⟨l, rr⟩).grow m s3.toGrow⟩⟩
  | lst ts => obtain ⟨p, vs, e1, h1, h2⟩ := lstG_ok m r e; exact ⟨false, p, vs, e1, h1, h2⟩
  | ref a => obtain ⟨p, vs, e1, h1, h2⟩ := lstG_ok m r e; exact ⟨false, p, vs, e1, h1, h2⟩
  | _ => cases e
def zpX (ts : List T) (M : Mem) : Out (List T × Gd) := match ts with
  | [t, u] => match seqG t M, seqG u M with
    | some g, some h => .ok (zipT g.1 h.1, g.2 ++ h.2) M
    | _, _ => .bad
  | _ => .bad
def iZipX (ga : Ev → Mem → Out (List T)) : Ev → Mem → Out (List T × Gd) := fun σ M => (ga σ M).bind fun ts M1 => zpX ts M1
section
variable {X : Cx} {XE : XK}
theorem gi_zipX {l l' : Expr} {ga : Ev → Mem → Out (List T)} {elts : List Expr} {x1} {tp p pos : Pos} (hg : Gl X "zip") (hm : X.mg "zip" = none) (ha : GA X XE [l, l'] ga) (hs : noStar l = true := by rfl) (hs2 : noStar l' = true := by rfl) :
    GIG X XE (.Tuple elts x1 tp) (.Call (.Name "zip" p) [l, l'] [] pos) (FT.iZipX ga) := PI.imp (pi_zipX hg hm ha (by rw [star_cons hs, star_cons hs2]; rfl) (star_cons hs2)) fun σ H R hh =>
  LN.mono (LN.bind (f := fun _ σ M => ga σ M) (k := fun _ ts σ M1 => zpX ts M1) (RB := Reps X.K) hh) fun vs H1 ⟨S, στ, a, e, m, ev, ra, fin⟩ => by
    obtain ⟨u, ts⟩ := a
    subst e
    have rr : Reps X.K S ts vs := ra.2
    replace fin : Fin XE (ItG X.K) X.K S (zpX ts S.M) R := fin
    unfold zpX at fin
    split at fin
    · rename_i t t'
      split at fin
      · rename_i g h qg qh
        obtain ⟨xs, G⟩ := g
        obtain ⟨ys, G'⟩ := h
        obtain ⟨v1, vs1, rfl, r1, r2⟩ := rr.consT
        obtain ⟨v2, vs2, rfl, r3, r4⟩ := r2.consT
        rw [r4.nilT]
        obtain ⟨b1, p1, us1, rfl, h1, k1⟩ := seqG_ok m r1 qg
        obtain ⟨b2, p2, us2, rfl, h2, k2⟩ := seqG_ok m r3 qh
        refine ⟨b1, b2, p1, p2, rfl, ⟨us1, h1⟩, ⟨us2, h2⟩, fin S _ rfl (.refl m) fun S3 s3 gd => ?_⟩
        obtain ⟨w1, g1, e1⟩ := k1 S3 s3 (fun z hz => gd z (List.mem_append_left _ hz))
        obtain ⟨w2, g2, e2⟩ := k2 S3 s3 (fun z hz => gd z (List.mem_append_right _ hz))
        refine ⟨fun i t et => ?_, fun i hi => ⟨w1, w2, g1, g2, by have := e1.1; have := e2.1; have hi' : (zipT xs ys).length ≤ i := hi; rw [zipT_len] at hi'; omega⟩⟩
        obtain ⟨x, y, hx, hy, rfl⟩ := zipT_get xs ys i t et
        obtain ⟨z1, ew1, rw1⟩ := e1.get hx
        obtain ⟨z2, ew2, rw2⟩ := e2.get hy
        refine ⟨⟨w1, z1, w2, z2, g1, ew1, g2, ew2⟩, fun z H' hz => ?_⟩
        obtain ⟨q, x', y', hq, rfl, rfl, hx', hy'⟩ := hz
        have a1 := hx' w1 g1
        have a2 := hy' w2 g2
        rw [ew1] at a1
        rw [ew2] at a2
        cases a1
        cases a2
        have s4 := Stp.new s3.mok hq (.tup [z1, z2])
        refine ⟨⟨S3.α, S3.M, upd S3.H q (.tup [z1, z2]), S3.hid⟩, rfl, rfl, s4, ?_⟩
        have rr : Reps X.K ⟨S3.α, S3.M, upd S3.H q (.tup [z1, z2]), S3.hid⟩ [x, y] [z1, z2] := .cons (rw1.grow s3.mok s4.toGrow) (.cons (rw2.grow s3.mok s4.toGrow) .nil)
        exact .tup (.inl (.inl upd_same)) rr.1 rr.2
      · exact fin.elim
    · exact fin.elim
end
end FT
namespace FT
open PySem PySem.Spec PyProof.Rows L2
def iSeqX (f : Ev → Mem → Out T) : Ev → Mem → Out (List T × Gd) := fun σ M => (f σ M).bind fun t M1 => match seqG t M1 with
  | some g => .ok g M1
  | none => .bad
def iEnumX (f : Ev → Mem → Out T) : Ev → Mem → Out (List T × Gd) := fun σ M => (f σ M).bind fun t M1 => match seqG t M1 with
  | some g => .ok (enT g.1, g.2) M1
  | none => .bad
section
variable {X : Cx} {XE : XK}
end
end FT
namespace FT
open PySem PySem.Spec PyProof.Rows L2
structure WE (X : Cx) (XE : XK) (e : Expr) (f : Ev → Mem → Out T) : Prop where
  pe : GE X XE e f
structure WT (X : Cx) (XE : XK) (e : Expr) (f : Ev → Mem → Out Bool) : Prop where
  pe : GT X XE e f
structure WW (X : Cx) (XE : XK) (e : Expr) (f : Ev → Mem → Out Bool) : Prop where
  pe : GW X XE e f
structure WA (X : Cx) (XE : XK) (e : List Expr) (f : Ev → Mem → Out (List T)) : Prop where
  pe : GA X XE e f
structure WSs (X : Cx) (XE : XK) (e : List Stmt) (f : Ev → Mem → Out Fl) : Prop where
  pe : GSs X XE e f
structure WS (X : Cx) (XE : XK) (e : Stmt) (f : Ev → Mem → Out Fl) : Prop where
  pe : GS X XE e f
structure WL (X : Cx) (XE : XK) (e : Expr) (f : Ev → Mem → Out (List T)) : Prop where
  pe : GL X XE e f
structure WGs (X : Cx) (XE : XK) (e : List Expr) (f : List T → Ev → Mem → Out Ev) : Prop where
  pe : GGs X XE e f
structure WG (X : Cx) (XE : XK) (e : Expr) (f : T → Ev → Mem → Out Ev) : Prop where
  pe : GG X XE e f
structure WO (X : Cx) (XE : XK) (e : Option Expr) (f : Ev → Mem → Out (Option Int)) : Prop where
  pe : GO X XE e f
structure WI (X : Cx) (XE : XK) (tg iter : Expr) (f : Ev → Mem → Out (List T)) : Prop where
  pe : GI X XE tg iter f
structure WIG (X : Cx) (XE : XK) (tg iter : Expr) (f : Ev → Mem → Out (List T × Gd)) : Prop where
  pe : GIG X XE tg iter f
section
variable {K : PySem.W.Frag} {S S' : Sit}
end
section
variable {X : Cx} {XE : XK} {a b c e : Expr} {es : List Expr} {f g h : Ev → Mem → Out T} {pos : Pos} {ga : Ev → Mem → Out (List T)}
theorem wge_var {i : Nat} (h : PE X e (tVar i)) : WE X XE e (eVar i) := ⟨ge_var h⟩
theorem wge_int {i j} : WE X XE (.Constant (.int i) j pos) (eC (.int i)) := ⟨ge_int ⟩
theorem wge_bl {i j} : WE X XE (.Constant (.bool i) j pos) (eC (.bl i)) := ⟨ge_bl ⟩
theorem wge_non {j} : WE X XE (.Constant .none j pos) (eC .non) := ⟨ge_non ⟩
theorem wge_str {i j} : WE X XE (.Constant (.str i) j pos) (eC (.str i)) := ⟨ge_str ⟩
theorem wge_globE {x : Str} {i : Int} (hg : Gl X x) (hm : ∃ t, X.mg x = some (.int i t)) (hd : (x == ("__debug__" : Str)) = false := by decide) : WE X XE (.Name x pos) (eC (.int i)) := ⟨ge_globE hg hm hd⟩
theorem wge_op {op : Operator} {o : T → T → Mem → Out T} (ho : OpR X (binaryOp op) (lR2 XE X.K o)) (ha : WE X XE a f) (hb : WE X XE b g) : WE X XE (.BinOp a op b pos) (eOp o f g) := ⟨ge_op ho ha.pe hb.pe⟩
theorem wge_cmp {op : CmpOp} {o : T → T → Mem → Out T} (ho : OpR X (compareOp op) (lR2 XE X.K o)) (ha : WE X XE a f) (hb : WE X XE b g) (hm : behindInMarks op b = false) : WE X XE (.Compare a [op] [b] pos) (eOp o f g) := ⟨ge_cmp ho ha.pe hb.pe hm⟩
theorem wge_un {op : UnaryOp} {o : T → Mem → Out T} (ho : L2.UnR X (unaryOp op) (lR1 XE X.K o)) (ha : WE X XE a f) : WE X XE (.UnaryOp op a pos) (eUn o f) := ⟨ge_un ho ha.pe⟩
theorem wge_ix {o : T → T → Mem → Out T} (ho : IxR X (lR2 XE X.K o)) (ha : WE X XE a f) (hb : WE X XE b g) (hs : PlainIx b) : WE X XE (.Subscript a b pos) (eOp o f g) := ⟨ge_ix ho ha.pe hb.pe hs⟩
theorem wgt_val (ha : WE X XE e f) (he : ∀ whole, isTrue e X.env whole = (do let v ← whole; standAt e.pos; holding [v] (truthy v)) := by intro _; rfl) : WT X XE e (tVal f) := ⟨gt_val ha.pe he⟩
theorem wgt_cmp {op : CmpOp} {o : T → T → Mem → Out T} (ho : OpR X (compareOp op) (lR2 XE X.K o)) (ha : WE X XE a f) (hb : WE X XE b g) (hm : behindInMarks op b = false) : WT X XE (.Compare a [op] [b] pos) (tVal (eOp o f g)) := ⟨gt_cmp ho ha.pe hb.pe hm⟩
variable {tf tg : Ev → Mem → Out Bool} {rest : List Expr}
theorem wgw_and1 (ha : WT X XE a tf) : WW X XE (.BoolOp .And [a] pos) tf := ⟨gw_and1 ha.pe⟩
theorem wgw_or1 (ha : WT X XE a tf) : WW X XE (.BoolOp .Or [a] pos) tf := ⟨gw_or1 ha.pe⟩
theorem wgw_and (ha : WT X XE a tf) (hb : WW X XE (.BoolOp .And (b :: rest) pos) tg) : WW X XE (.BoolOp .And (a :: b :: rest) pos) (tAndF tf tg) := ⟨gw_and ha.pe hb.pe⟩
theorem wgw_or (ha : WT X XE a tf) (hb : WW X XE (.BoolOp .Or (b :: rest) pos) tg) : WW X XE (.BoolOp .Or (a :: b :: rest) pos) (tOrF tf tg) := ⟨gw_or ha.pe hb.pe⟩
theorem WW.gt (h : WW X XE e tf) : WT X XE e tf := ⟨GW.gt h.pe⟩
theorem wgt_not (ha : WT X XE a tf) : WT X XE (.UnaryOp .Not a pos) (tNotF tf) := ⟨gt_not ha.pe⟩
theorem wge_one {op} (h : WE X XE a f) : WE X XE (.BoolOp op [a] pos) f := ⟨ge_one h.pe⟩
theorem wge_and (ha : WE X XE a f) (hb : WE X XE (.BoolOp .And (b :: rest) pos) g) : WE X XE (.BoolOp .And (a :: b :: rest) pos) (eAnd f g) := ⟨ge_and ha.pe hb.pe⟩
theorem wga_nil  : WA X XE [] aNil := ⟨ga_nil ⟩
theorem wga_cons (ha : WE X XE e f) (hr : WA X XE es ga) (hs : noStar e = true := by rfl) : WA X XE (e :: es) (aCons f ga) := ⟨ga_cons ha.pe hr.pe hs⟩
theorem wge_tup {x1} (h : WA X XE es ga) : WE X XE (.Tuple es x1 pos) (eTup ga) := ⟨ge_tup h.pe⟩
theorem wgl_disp (h : WA X XE es ga) : WL X XE (.List es pos) (lDisp ga) := ⟨gl_disp h.pe⟩
theorem wge_fz (h : WL X XE e ga) : WE X XE e (eFz ga) := ⟨ge_fz h.pe⟩
theorem wge_tk (h : WL X XE e ga) : WE X XE e (eTk ga) := ⟨ge_tk h.pe⟩
end
section
variable {X : Cx} {XE : XK} {a b c e iter tg : Expr} {es : List Expr} {f g h : Ev → Mem → Out T} {pos : Pos} {ga : Ev → Mem → Out (List T)} {st : Stmt} {sts rest : List Stmt} {p q r : Ev → Mem → Out Fl} {tf : Ev → Mem → Out Bool}
theorem wgss_nil  : WSs X XE [] sNil := ⟨gss_nil ⟩
theorem wgss_cons (h1 : WS X XE st p) (h2 : WSs X XE rest q) : WSs X XE (st :: rest) (sSeq p q) := ⟨gss_cons h1.pe h2.pe⟩
theorem wgss_one (h1 : WS X XE st p) : WSs X XE [st] p := ⟨gss_one h1.pe⟩
theorem wgs_ret (he : WE X XE e f) : WS X XE (.Return (some e) pos) (sRet f) := ⟨gs_ret he.pe⟩
theorem wgs_exp (he : WE X XE e f) (hs : swapsWith e none pos.line X.env = pure false := by rfl) : WS X XE (.Expr e pos) (sExp f) := ⟨gs_exp he.pe hs⟩
theorem wgs_if (hc : WT X XE c tf) (ha : WSs X XE sts p) (hb : WSs X XE rest q) : WS X XE (.If c sts rest pos) (sIf tf p q) := ⟨gs_if hc.pe ha.pe hb.pe⟩
theorem wgs_set {i : Nat} {x : Str} {pos' : Pos} (hN : X.N.Nodup) (hi : X.N[i]? = some x) (hx : Loc X.env.scope x) (he : WE X XE e f) (hs : swapsWith e (some (.Name x pos')) pos.line X.env = pure false := by rfl) (hf : X.fn x = true ∨ X.env.scope.names.lookup x = some .local := by first | exact .inl rfl | exact .inr rfl | assumption) : WS X XE (.Assign [.Name x pos'] e pos) (sSet i f) := ⟨gs_set hN hi hx he.pe hs hf⟩
theorem wgg_name {i : Nat} (h : PG X tg (gName i)) : WG X XE tg (bName i) := ⟨gg_name h⟩
theorem wggs_nil  : WGs X XE [] bNil := ⟨ggs_nil ⟩
theorem wggs_cons {bd : T → Ev → Mem → Out Ev} {bs : List T → Ev → Mem → Out Ev} (h : PGs X (e :: es) (gCons (lG XE X.K bd) (lGs XE X.K bs))) : WGs X XE (e :: es) (bCons bd bs) := ⟨ggs_cons h⟩
theorem wgg_tup {n : Nat} {bs : List T → Ev → Mem → Out Ev} (h : PG X tg (gTup X.K n (lGs XE X.K bs))) : WG X XE tg (bTup n bs) := ⟨gg_tup h⟩
theorem wgs_asg {bd : T → Ev → Mem → Out Ev} (he : WE X XE e f) (hg : WG X XE tg bd) (hs : swapsWithSole [tg] e pos.line X.env = pure false := by rfl) (hw : swappedStores [tg] e X.env = pure none := by rfl) (h1 : (assignEach [tg] X.env).map (·.2) = [assign tg X.env] := by rfl) : WS X XE (.Assign [tg] e pos) (sAsg f bd) := ⟨gs_asg he.pe hg.pe hs hw h1⟩
theorem wgs_for {bd : T → Ev → Mem → Out Ev} (hp : PassesOwn (model X.prog X.w) X.A X.env X.xe) (hc : X.calm = true) (hi : WI X XE tg iter ga) (hg : WG X XE tg bd) (hb : WSs X XE sts p) (hs : ∀ x, foldedSetIterable iter X.env x = pure x := by intro _; rfl) : WS X XE (.For tg iter sts [] pos) (sFor ga bd p) := ⟨gs_for hp hc hi.pe hg.pe hb.pe hs⟩
theorem wgs_while (hp : PassesOwn (model X.prog X.w) X.A X.env X.xe) (hc : WT X XE c tf) (hb : WSs X XE sts p) : WS X XE (.While c sts [] pos) (sWhile tf p) := ⟨gs_while hp hc.pe hb.pe⟩
end
section
variable {P : Program} {w : World} {K : PySem.W.Frag} {mg : Str → Option Value} {base : Heap}
end
section
variable {X : Cx} {XE : XK} {k : Nat} {ps : List Str} {x : Str} {p pos : Pos} {e : Expr} {es : List Expr} {ga : Ev → Mem → Out (List T)} {F : List T → Mem → Out T}
theorem wge_cal (C : CalT X.prog X.w X.K X.mg X.base k x ps F) (hr : Room k X.A) (hg : Gl X x) (ha : WA X XE (e :: es) ga) (hdb : (x == ("__debug__" : Str)) = false := by decide) (he : noStar e = true := by rfl) (hpl : es.all noStar = true := by rfl) : WE X XE (.Call (.Name x p) (e :: es) [] pos) (eCall F ga) := ⟨ge_cal C hr hg ha.pe hdb he hpl⟩
theorem wge_callB {id : String} (hc : CallR X (.builtin id) (lRN XE X.K F)) (hg : Gl X x) (hm : X.mg x = none) (hv : bootBuiltins x = some (.builtin id)) (ha : WA X XE (e :: es) ga) (hn : x ≠ "__name__" := by decide) (hdb : (x == ("__debug__" : Str)) = false := by decide) (he : noStar e = true := by rfl) (hpl : es.all noStar = true := by rfl) : WE X XE (.Call (.Name x p) (e :: es) [] pos) (eCall F ga) := ⟨ge_callB hc hg hm hv ha.pe hn hdb he hpl⟩
theorem wge_callTy {id : String} (hc : CallR X (.type id) (lRN XE X.K F)) (hg : Gl X x) (hm : X.mg x = none) (hv : bootBuiltins x = some (.type id)) (ha : WA X XE (e :: es) ga) (hn : x ≠ "__name__" := by decide) (hdb : (x == ("__debug__" : Str)) = false := by decide) (he : noStar e = true := by rfl) (hpl : es.all noStar = true := by rfl) : WE X XE (.Call (.Name x p) (e :: es) [] pos) (eCall F ga) := ⟨ge_callTy hc hg hm hv ha.pe hn hdb he hpl⟩
end
section
variable {K : PySem.W.Frag} {S S' : Sit} {n : Nat} {hh : List Addr}
end
section
variable {K : PySem.W.Frag} {S : Sit} {t : T} {v : V} {xs : List T}
end
section
variable {X : Cx} {XE : XK} {a b c e iter tg : Expr} {es : List Expr} {f g h : Ev → Mem → Out T} {pos p : Pos} {ga : Ev → Mem → Out (List T)}
theorem wgi_seq (he : WE X XE e f) : WI X XE tg e (iSeq f) := ⟨gi_seq he.pe⟩
theorem wgi_range1 (hg : Gl X "range") (hm : X.mg "range" = none) (ha : WA X XE [a] ga) (hs : starEach [a] X.env = [(false, eval a X.env)] := by rfl) : WI X XE tg (.Call (.Name "range" p) [a] [] pos) (iRange1 ga) := ⟨gi_range1 hg hm ha.pe hs⟩
end
section
variable {K : PySem.W.Frag} {S S0 : Sit} {p : Addr} {us : List V}
end
section
variable {X : Cx} {XE : XK}
theorem wgl_comp {tg elt iter : Expr} {ifs : List Expr} {scope : Scope} {cl : List (Str × Addr)} {pos : Pos} {tgs : List Str} {caps : List (Str × Nat)} {ga : Ev → Mem → Out (List T)} {bd : T → Ev → Mem → Out Ev} {cond : Ev → Mem → Out Bool} {f : Ev → Mem → Out T} (hc : X.calm = true) (hi : WI X XE tg iter ga) (hclos : closureFor scope X.env = pure cl) (hcell : ∀ y ∈ scope.names, y.2 = .cell → y.1 ∉ caps.map (·.1)) (hkind : scope.kind = .function) (hnames : ∀ y ∈ scope.names, y.2 = .local → scope.names.lookup y.1 = some .local) (hcl : ∀ y c, cl.lookup y = some c → X.env.cells.lookup y = some c) (hhas : ∀ n y, ((relabel scope X.env).names.lookup y = some .cell ∨ (relabel scope X.env).names.lookup y = some .free) → ∃ c, (cellsFrom n scope.names cl).lookup y = some c) (hcap : ∀ c ∈ caps, X.N[c.2]? = some c.1 ∧ X.env.kindOf c.1 = some .cell ∧ ((relabel scope X.env).names.lookup c.1 = some .cell ∨ (relabel scope X.env).names.lookup c.1 = some .free)) (hg : ∀ ex s0 H0, WG (X.block scope cl (tgs ++ caps.map (·.1)) ex s0 H0) XE tg bd) (hif : ∀ ex s0 H0, PTs (X.block scope cl (tgs ++ caps.map (·.1)) ex s0 H0) ifs (lT XE X.K cond)) (hel : ∀ ex s0 H0, WE (X.block scope cl (tgs ++ caps.map (·.1)) ex s0 H0) XE elt f) (hs : ∀ x, foldedSetIterable iter X.env x = pure x := by intro _; rfl) : WL X XE (.ListComp elt [⟨tg, iter, ifs, 0⟩] scope pos) (lComp ga bd cond f tgs caps) := ⟨gl_comp hc hi.pe hclos hcell hkind hnames hcl hhas hcap (fun ex s0 H0 => (hg ex s0 H0).pe) hif (fun ex s0 H0 => (hel ex s0 H0).pe) hs⟩
theorem wgs_setCompF {i0 : Nat} {y0 : Str} {py spos : Pos} {tg elt iter : Expr} {ifs : List Expr} {scope : Scope} {cl : List (Str × Addr)} {pos : Pos} {tgs : List Str} {caps : List (Str × Nat)} {ga : Ev → Mem → Out (List T)} {bd : T → Ev → Mem → Out Ev} {cond : Ev → Mem → Out Bool} {f : Ev → Mem → Out T} (hc : X.calm = true) (hi : WI X XE tg iter ga) (hclos : closureFor scope X.env = pure cl) (hcell : ∀ y ∈ scope.names, y.2 = .cell → y.1 ∉ caps.map (·.1)) (hkind : scope.kind = .function) (hnames : ∀ y ∈ scope.names, y.2 = .local → scope.names.lookup y.1 = some .local) (hcl : ∀ y c, cl.lookup y = some c → X.env.cells.lookup y = some c) (hhas : ∀ n y, ((relabel scope X.env).names.lookup y = some .cell ∨ (relabel scope X.env).names.lookup y = some .free) → ∃ c, (cellsFrom n scope.names cl).lookup y = some c) (hcap : ∀ c ∈ caps, X.N[c.2]? = some c.1 ∧ X.env.kindOf c.1 = some .cell ∧ ((relabel scope X.env).names.lookup c.1 = some .cell ∨ (relabel scope X.env).names.lookup c.1 = some .free)) (hg : ∀ ex s0 H0, WG (X.block scope cl (tgs ++ caps.map (·.1)) ex s0 H0) XE tg bd) (hif : ∀ ex s0 H0, PTs (X.block scope cl (tgs ++ caps.map (·.1)) ex s0 H0) ifs (lT XE X.K cond)) (hel : ∀ ex s0 H0, WE (X.block scope cl (tgs ++ caps.map (·.1)) ex s0 H0) XE elt f) (hN0 : X.N.Nodup) (hi0 : X.N[i0]? = some y0) (hx0 : Loc X.env.scope y0) (hsw : swapsWith (.ListComp elt [⟨tg, iter, ifs, 0⟩] scope pos) (some (.Name y0 py)) spos.line X.env = pure true := by rfl) (hf0 : X.fn y0 = true ∨ X.env.scope.names.lookup y0 = some .local := by first | exact .inl rfl | exact .inr rfl | assumption) (hs : ∀ x, foldedSetIterable iter X.env x = pure x := by intro _; rfl) : WS X XE (.Assign [.Name y0 py] (.ListComp elt [⟨tg, iter, ifs, 0⟩] scope pos) spos) (sSet i0 (eFz (lComp ga bd cond f tgs caps))) := ⟨gs_setCompF hc hi.pe hclos hcell hkind hnames hcl hhas hcap (fun ex s0 H0 => (hg ex s0 H0).pe) hif (fun ex s0 H0 => (hel ex s0 H0).pe) hN0 hi0 hx0 hsw hf0 hs⟩
theorem wgs_setCompT {i0 : Nat} {y0 : Str} {py spos : Pos} {tg elt iter : Expr} {ifs : List Expr} {scope : Scope} {cl : List (Str × Addr)} {pos : Pos} {tgs : List Str} {caps : List (Str × Nat)} {ga : Ev → Mem → Out (List T)} {bd : T → Ev → Mem → Out Ev} {cond : Ev → Mem → Out Bool} {f : Ev → Mem → Out T} (hc : X.calm = true) (hi : WI X XE tg iter ga) (hclos : closureFor scope X.env = pure cl) (hcell : ∀ y ∈ scope.names, y.2 = .cell → y.1 ∉ caps.map (·.1)) (hkind : scope.kind = .function) (hnames : ∀ y ∈ scope.names, y.2 = .local → scope.names.lookup y.1 = some .local) (hcl : ∀ y c, cl.lookup y = some c → X.env.cells.lookup y = some c) (hhas : ∀ n y, ((relabel scope X.env).names.lookup y = some .cell ∨ (relabel scope X.env).names.lookup y = some .free) → ∃ c, (cellsFrom n scope.names cl).lookup y = some c) (hcap : ∀ c ∈ caps, X.N[c.2]? = some c.1 ∧ X.env.kindOf c.1 = some .cell ∧ ((relabel scope X.env).names.lookup c.1 = some .cell ∨ (relabel scope X.env).names.lookup c.1 = some .free)) (hg : ∀ ex s0 H0, WG (X.block scope cl (tgs ++ caps.map (·.1)) ex s0 H0) XE tg bd) (hif : ∀ ex s0 H0, PTs (X.block scope cl (tgs ++ caps.map (·.1)) ex s0 H0) ifs (lT XE X.K cond)) (hel : ∀ ex s0 H0, WE (X.block scope cl (tgs ++ caps.map (·.1)) ex s0 H0) XE elt f) (hN0 : X.N.Nodup) (hi0 : X.N[i0]? = some y0) (hx0 : Loc X.env.scope y0) (hsw : swapsWith (.ListComp elt [⟨tg, iter, ifs, 0⟩] scope pos) (some (.Name y0 py)) spos.line X.env = pure true := by rfl) (hf0 : X.fn y0 = true ∨ X.env.scope.names.lookup y0 = some .local := by first | exact .inl rfl | exact .inr rfl | assumption) (hs : ∀ x, foldedSetIterable iter X.env x = pure x := by intro _; rfl) : WS X XE (.Assign [.Name y0 py] (.ListComp elt [⟨tg, iter, ifs, 0⟩] scope pos) spos) (sSet i0 (eTk (lComp ga bd cond f tgs caps))) := ⟨gs_setCompT hc hi.pe hclos hcell hkind hnames hcl hhas hcap (fun ex s0 H0 => (hg ex s0 H0).pe) hif (fun ex s0 H0 => (hel ex s0 H0).pe) hN0 hi0 hx0 hsw hf0 hs⟩
theorem wgts_nil  : PTs X [] (lT XE X.K tYes) := gts_nil 
theorem wgts_one {c : Expr} {tf : Ev → Mem → Out Bool} (h : WT X XE c tf) : PTs X [c] (lT XE X.K tf) := gts_one h.pe
end
section
variable {X : Cx} {XE : XK} {a b e : Expr} {es : List Expr} {f g : Ev → Mem → Out T} {pos p : Pos} {ga : Ev → Mem → Out (List T)} {x : Str}
theorem wgl_callTy {id : String} {F : List T → Mem → Out (List T)} (hc : CallR X (.type id) (lRNL XE X.K F)) (hg : Gl X x) (hm : X.mg x = none) (hv : bootBuiltins x = some (.type id)) (ha : WA X XE (e :: es) ga) (hn : x ≠ "__name__" := by decide) (hdb : (x == ("__debug__" : Str)) = false := by decide) (he : noStar e = true := by rfl) (hpl : es.all noStar = true := by rfl) : WL X XE (.Call (.Name x p) (e :: es) [] pos) (lCall F ga) := ⟨gl_callTy hc hg hm hv ha.pe hn hdb he hpl⟩
end
section
variable {X : Cx} {XE : XK}
theorem wgg_sub {o i : Expr} {f g : Ev → Mem → Out T} {pos : Pos} {st : T → T → T → Mem → Out Unit} (ho : WE X XE o f) (hi : WE X XE i g) (hs : PSet X (lSet XE X.K st)) (ha : ∀ v, assign (.Subscript o i pos) X.env v = (do
      let ov ← holding [v] (eval o X.env)
      let iv ← holding [v, ov] (eval i X.env)
      standAt pos
      holding [v, ov, iv] (setItem ov iv v)
      release [v, ov, iv] []) := by intro _; rfl) : WG X XE (.Subscript o i pos) (bSub st f g) := ⟨gg_sub ho.pe hi.pe hs ha⟩
theorem wge_app {o e : Expr} {f : Ev → Mem → Out T} {ga : Ev → Mem → Out (List T)} {apos cpos : Pos} (h : PE X (.Call (.Attribute o "append" apos) [e] [] cpos) (tBM X.K "list" rAppend (lE XE X.K f) (lA XE X.K ga))) : WE X XE (.Call (.Attribute o "append" apos) [e] [] cpos) (eMeth appT (eUn lstChk f) ga) := ⟨ge_app h⟩
end
section
variable {X : Cx} {XE : XK}
theorem wgo_none  : WO X XE none oNone := ⟨go_none ⟩
theorem wgo_some {e : Expr} {f : Ev → Mem → Out T} (h : WE X XE e f) : WO X XE (some e) (oSome f) := ⟨go_some h.pe⟩
theorem wge_sl {e : Expr} {lo hi : Option Expr} {f : Ev → Mem → Out T} {p q : Ev → Mem → Out (Option Int)} {p2 pos : Pos} (he : WE X XE e f) (hl : WO X XE lo p) (hu : WO X XE hi q) : WE X XE (.Subscript e (.Slice lo hi none p2) pos) (eSl f p q) := ⟨ge_sl he.pe hl.pe hu.pe⟩
end
section
variable {X : Cx} {XE : XK} {pins : List (Addr × Obj)} {s : Shared} {σ : L2.St} {S : Sit}
end
section
variable {X : Cx} {XE : XK}
end
section
variable {X : Cx} {XE : XK}
end
section
variable {K : PySem.W.Frag} {S : Sit}
end
section
variable {X : Cx} {XE : XK}
end
section
variable {X : Cx} {XE : XK}
end
section
variable {X : Cx} {XE : XK} {e : Expr} {f : Ev → Mem → Out T} {pos : Pos}
end
section
variable {X : Cx} {XE : XK} {e tg : Expr} {f : Ev → Mem → Out T} {pos : Pos} {sts : List Stmt} {p : Ev → Mem → Out Fl}
end
section
variable {X : Cx} {XE : XK}
end
section
variable {X : Cx} {XE : XK}
theorem wgi_enum {l : Expr} {f : Ev → Mem → Out T} {elts : List Expr} {x1} {tp p pos : Pos} (hg : Gl X "enumerate") (hm : X.mg "enumerate" = none) (he : WE X XE l f) (hs : noStar l = true := by rfl) : WI X XE (.Tuple elts x1 tp) (.Call (.Name "enumerate" p) [l] [] pos) (iEnum f) := ⟨gi_enum hg hm he.pe hs⟩
end
section
variable {X : Cx} {tg : Expr}
end
section
variable {X : Cx} {XE : XK} {tg : Expr}
end
section
variable {X : Cx}
end
section
variable {X : Cx} {XE : XK}
end
section
variable {X : Cx} {XE : XK}
end
section
variable {X : Cx}
end
section
variable {X : Cx} {XE : XK}
end
section
variable {X : Cx} {XE : XK}
end
section
variable {K : PySem.W.Frag} {S : Sit}
end
section
variable {X : Cx} {XE : XK} {Cs : List Addr} {f : Str}
theorem wge_fld {e : Expr} {g : Ev → Mem → Out T} {pos : Pos} (hC : ∀ C ∈ Cs, Cls X.K C ∧ NoAttr X.K C f) (he : WE X XE e g) (hb : attributeBase e f X.env (eval e X.env) = eval e X.env := by rfl) : WE X XE (.Attribute e f pos) (eFld Cs f g) := ⟨ge_fld hC he.pe hb⟩
theorem wgs_fld {o value : Expr} {fo fv : Ev → Mem → Out T} {pos pos' : Pos} (hC : ∀ C ∈ Cs, Cls X.K C ∧ NoAttr X.K C f) (ho : WE X XE o fo) (hv : WE X XE value fv) (hs : swapsWith value (some (.Attribute o f pos')) pos.line X.env = pure false := by rfl) : WS X XE (.Assign [.Attribute o f pos'] value pos) (sFldS Cs f fo fv) := ⟨gs_fld hC ho.pe hv.pe hs⟩
end
section
variable {X : Cx} {XE : XK} {k : Nat} {ps : List Str} {x : Str} {C : Addr} {p pos : Pos} {e : Expr} {es : List Expr} {ga : Ev → Mem → Out (List T)} {F : List T → Mem → Out T}
theorem wge_make (M : MakT X.prog X.w X.K X.mg X.base k x C ps F) (hr : Room (k + 1) X.A) (hg : Gl X x) (ha : WA X XE (e :: es) ga) (hdb : (x == ("__debug__" : Str)) = false := by decide) (he : noStar e = true := by rfl) (hpl : es.all noStar = true := by rfl) : WE X XE (.Call (.Name x p) (e :: es) [] pos) (eMake C F ga) := ⟨ge_make M hr hg ha.pe hdb he hpl⟩
end
section
variable {X : Cx} {XE : XK}
end
section
variable {X : Cx} {XE : XK}
end
section
variable {X : Cx} {XE : XK} {a b c e iter tg : Expr} {es : List Expr} {pos pp : Pos} {sts : List Stmt} {p : Ev → Mem → Out Fl} {ga : Ev → Mem → Out (List T × Gd)}
theorem wgs_forG {bd : T → Ev → Mem → Out Ev} (hp : PassesOwn (model X.prog X.w) X.A X.env X.xe) (hc : X.calm = true) (hi : WIG X XE tg iter ga) (hg : WG X XE tg bd) (hb : WSs X XE sts p) (hs : ∀ x, foldedSetIterable iter X.env x = pure x := by intro _; rfl) : WS X XE (.For tg iter sts [] pos) (sForG ga bd p) := ⟨gs_forG hp hc hi.pe hg.pe hb.pe hs⟩
theorem wgl_compG {tg elt iter : Expr} {ifs : List Expr} {scope : Scope} {cl : List (Str × Addr)} {pos : Pos} {tgs : List Str} {caps : List (Str × Nat)} {ga : Ev → Mem → Out (List T × Gd)} {bd : T → Ev → Mem → Out Ev} {cond : Ev → Mem → Out Bool} {f : Ev → Mem → Out T} (hc : X.calm = true) (hi : WIG X XE tg iter ga) (hclos : closureFor scope X.env = pure cl) (hcell : ∀ y ∈ scope.names, y.2 = .cell → y.1 ∉ caps.map (·.1)) (hkind : scope.kind = .function) (hnames : ∀ y ∈ scope.names, y.2 = .local → scope.names.lookup y.1 = some .local) (hcl : ∀ y c, cl.lookup y = some c → X.env.cells.lookup y = some c) (hhas : ∀ n y, ((relabel scope X.env).names.lookup y = some .cell ∨ (relabel scope X.env).names.lookup y = some .free) → ∃ c, (cellsFrom n scope.names cl).lookup y = some c) (hcap : ∀ c ∈ caps, X.N[c.2]? = some c.1 ∧ X.env.kindOf c.1 = some .cell ∧ ((relabel scope X.env).names.lookup c.1 = some .cell ∨ (relabel scope X.env).names.lookup c.1 = some .free)) (hg : ∀ ex s0 H0, WG (X.block scope cl (tgs ++ caps.map (·.1)) ex s0 H0) XE tg bd) (hif : ∀ ex s0 H0, PTs (X.block scope cl (tgs ++ caps.map (·.1)) ex s0 H0) ifs (lT XE X.K cond)) (hel : ∀ ex s0 H0, WE (X.block scope cl (tgs ++ caps.map (·.1)) ex s0 H0) XE elt f) (hs : ∀ x, foldedSetIterable iter X.env x = pure x := by intro _; rfl) : WL X XE (.ListComp elt [⟨tg, iter, ifs, 0⟩] scope pos) (lCompG ga bd cond f tgs caps) := ⟨gl_compG hc hi.pe hclos hcell hkind hnames hcl hhas hcap (fun ex s0 H0 => (hg ex s0 H0).pe) hif (fun ex s0 H0 => (hel ex s0 H0).pe) hs⟩
theorem wgs_setCompGF {i0 : Nat} {y0 : Str} {py spos : Pos} {tg elt iter : Expr} {ifs : List Expr} {scope : Scope} {cl : List (Str × Addr)} {pos : Pos} {tgs : List Str} {caps : List (Str × Nat)} {ga : Ev → Mem → Out (List T × Gd)} {bd : T → Ev → Mem → Out Ev} {cond : Ev → Mem → Out Bool} {f : Ev → Mem → Out T} (hc : X.calm = true) (hi : WIG X XE tg iter ga) (hclos : closureFor scope X.env = pure cl) (hcell : ∀ y ∈ scope.names, y.2 = .cell → y.1 ∉ caps.map (·.1)) (hkind : scope.kind = .function) (hnames : ∀ y ∈ scope.names, y.2 = .local → scope.names.lookup y.1 = some .local) (hcl : ∀ y c, cl.lookup y = some c → X.env.cells.lookup y = some c) (hhas : ∀ n y, ((relabel scope X.env).names.lookup y = some .cell ∨ (relabel scope X.env).names.lookup y = some .free) → ∃ c, (cellsFrom n scope.names cl).lookup y = some c) (hcap : ∀ c ∈ caps, X.N[c.2]? = some c.1 ∧ X.env.kindOf c.1 = some .cell ∧ ((relabel scope X.env).names.lookup c.1 = some .cell ∨ (relabel scope X.env).names.lookup c.1 = some .free)) (hg : ∀ ex s0 H0, WG (X.block scope cl (tgs ++ caps.map (·.1)) ex s0 H0) XE tg bd) (hif : ∀ ex s0 H0, PTs (X.block scope cl (tgs ++ caps.map (·.1)) ex s0 H0) ifs (lT XE X.K cond)) (hel : ∀ ex s0 H0, WE (X.block scope cl (tgs ++ caps.map (·.1)) ex s0 H0) XE elt f) (hN0 : X.N.Nodup) (hi0 : X.N[i0]? = some y0) (hx0 : Loc X.env.scope y0) (hsw : swapsWith (.ListComp elt [⟨tg, iter, ifs, 0⟩] scope pos) (some (.Name y0 py)) spos.line X.env = pure true := by rfl) (hf0 : X.fn y0 = true ∨ X.env.scope.names.lookup y0 = some .local := by first | exact .inl rfl | exact .inr rfl | assumption) (hs : ∀ x, foldedSetIterable iter X.env x = pure x := by intro _; rfl) : WS X XE (.Assign [.Name y0 py] (.ListComp elt [⟨tg, iter, ifs, 0⟩] scope pos) spos) (sSet i0 (eFz (lCompG ga bd cond f tgs caps))) := ⟨gs_setCompGF hc hi.pe hclos hcell hkind hnames hcl hhas hcap (fun ex s0 H0 => (hg ex s0 H0).pe) hif (fun ex s0 H0 => (hel ex s0 H0).pe) hN0 hi0 hx0 hsw hf0 hs⟩
theorem wgs_setCompGT {i0 : Nat} {y0 : Str} {py spos : Pos} {tg elt iter : Expr} {ifs : List Expr} {scope : Scope} {cl : List (Str × Addr)} {pos : Pos} {tgs : List Str} {caps : List (Str × Nat)} {ga : Ev → Mem → Out (List T × Gd)} {bd : T → Ev → Mem → Out Ev} {cond : Ev → Mem → Out Bool} {f : Ev → Mem → Out T} (hc : X.calm = true) (hi : WIG X XE tg iter ga) (hclos : closureFor scope X.env = pure cl) (hcell : ∀ y ∈ scope.names, y.2 = .cell → y.1 ∉ caps.map (·.1)) (hkind : scope.kind = .function) (hnames : ∀ y ∈ scope.names, y.2 = .local → scope.names.lookup y.1 = some .local) (hcl : ∀ y c, cl.lookup y = some c → X.env.cells.lookup y = some c) (hhas : ∀ n y, ((relabel scope X.env).names.lookup y = some .cell ∨ (relabel scope X.env).names.lookup y = some .free) → ∃ c, (cellsFrom n scope.names cl).lookup y = some c) (hcap : ∀ c ∈ caps, X.N[c.2]? = some c.1 ∧ X.env.kindOf c.1 = some .cell ∧ ((relabel scope X.env).names.lookup c.1 = some .cell ∨ (relabel scope X.env).names.lookup c.1 = some .free)) (hg : ∀ ex s0 H0, WG (X.block scope cl (tgs ++ caps.map (·.1)) ex s0 H0) XE tg bd) (hif : ∀ ex s0 H0, PTs (X.block scope cl (tgs ++ caps.map (·.1)) ex s0 H0) ifs (lT XE X.K cond)) (hel : ∀ ex s0 H0, WE (X.block scope cl (tgs ++ caps.map (·.1)) ex s0 H0) XE elt f) (hN0 : X.N.Nodup) (hi0 : X.N[i0]? = some y0) (hx0 : Loc X.env.scope y0) (hsw : swapsWith (.ListComp elt [⟨tg, iter, ifs, 0⟩] scope pos) (some (.Name y0 py)) spos.line X.env = pure true := by rfl) (hf0 : X.fn y0 = true ∨ X.env.scope.names.lookup y0 = some .local := by first | exact .inl rfl | exact .inr rfl | assumption) (hs : ∀ x, foldedSetIterable iter X.env x = pure x := by intro _; rfl) : WS X XE (.Assign [.Name y0 py] (.ListComp elt [⟨tg, iter, ifs, 0⟩] scope pos) spos) (sSet i0 (eTk (lCompG ga bd cond f tgs caps))) := ⟨gs_setCompGT hc hi.pe hclos hcell hkind hnames hcl hhas hcap (fun ex s0 H0 => (hg ex s0 H0).pe) hif (fun ex s0 H0 => (hel ex s0 H0).pe) hN0 hi0 hx0 hsw hf0 hs⟩
end
section
variable {X : Cx} {XE : XK}
theorem wgi_seqG {e tg : Expr} {f : Ev → Mem → Out T} (he : WE X XE e f) : WIG X XE tg e (iSeqG f) := ⟨gi_seqG he.pe⟩
theorem wgi_enumG {l : Expr} {f : Ev → Mem → Out T} {elts : List Expr} {x1} {tp p pos : Pos} (hg : Gl X "enumerate") (hm : X.mg "enumerate" = none) (he : WE X XE l f) (hs : noStar l = true := by rfl) : WIG X XE (.Tuple elts x1 tp) (.Call (.Name "enumerate" p) [l] [] pos) (iEnumG f) := ⟨gi_enumG hg hm he.pe hs⟩
end
section
variable {X : Cx} {XE : XK}
theorem wgi_zipX {l l' : Expr} {ga : Ev → Mem → Out (List T)} {elts : List Expr} {x1} {tp p pos : Pos} (hg : Gl X "zip") (hm : X.mg "zip" = none) (ha : WA X XE [l, l'] ga) (hs : noStar l = true := by rfl) (hs2 : noStar l' = true := by rfl) : WIG X XE (.Tuple elts x1 tp) (.Call (.Name "zip" p) [l, l'] [] pos) (FT.iZipX ga) := ⟨gi_zipX hg hm ha.pe hs hs2⟩
end
section
variable {X : Cx} {XE : XK}
end
section
variable {P : Program} {w : World} {K : PySem.W.Frag} {mg : Str → Option Value} {base : Heap}
theorem wcal_mk {x : Str} {st : Stmt} {N ps : List Str} {k p n : Nat} {g : Ev → Mem → Out Fl} (D : Df K mg x st ps) (Sc : FnScope N ps (defScope st)) (hp : ps.length = p) (hn : N.length = n)
    (hb : ∀ (f : Addr) (cdv : Value) (A : Around) (outer : List PySem.Env) (s : Shared) (H : Hp) (E : XK), Room k (A.deeper (envOfC x (defScope st) s.heap.objs.size f cdv)) → WSs (cxOf CX0 P w K mg base N x (defScope st) f cdv A outer s H E).nox E0 (defBody st) g) :
    CalT P w K mg base (k + 1) x ps (runDef p n g) := cal_mk D Sc hp hn fun f cdv A outer s H E hr => (hb f cdv A outer s H E hr).pe
theorem wlaw_ok {st : Stmt} {N ps : List Str} {x qual : Str} {f : Addr} {fd : FuncData} {k p n : Nat} {g : Ev → Mem → Out Fl} (F : Fun K x qual st f fd) (Sc : FnScope N ps (defScope st)) (hp : ps.length = p) (hn : N.length = n)
    (hb : ∀ (cdv : Value) (A : Around) (outer : List PySem.Env) (s : Shared) (H : Hp) (E : XK), Room k (A.deeper (envOfC qual (defScope st) s.heap.objs.size f cdv)) → WSs (cxOf CX0 P w K mg base N qual (defScope st) f cdv A outer s H E).nox E0 (defBody st) g) :
    FnOk P w K mg base CX0 (k + 1) f fd ps (spT K (runDef p n g)) := law_ok F Sc hp hn fun cdv A outer s H E hr => (hb cdv A outer s H E hr).pe
theorem wmak_mk {x qual : Str} {C : Addr} {st : Stmt} {N ps : List Str} {k p n : Nat} {g : Ev → Mem → Out Fl} (D : Di K mg x qual C st ps) (Sc : FnScope N ps (defScope st)) (hp : ps.length = p) (hn : N.length = n)
    (hb : ∀ (f : Addr) (cdv : Value) (A : Around) (outer : List PySem.Env) (s : Shared) (H : Hp) (E : XK), Room k (A.deeper (envOfC qual (defScope st) s.heap.objs.size f cdv)) → WSs (cxOf CX0 P w K mg base N qual (defScope st) f cdv A outer s H E).nox E0 (defBody st) g) :
    MakT P w K mg base (k + 1) x C ps (runDef p n g) := mak_mk D Sc hp hn fun f cdv A outer s H E hr => (hb f cdv A outer s H E hr).pe
end
end FT
namespace FT
open PySem L2
def Ok {β : Type} (o : Out β) (Q : β → Mem → Prop) : Prop := ∃ b M, o = .ok b M ∧ Q b M
theorem Ok.ret {β : Type} {b : β} {M : Mem} {Q : β → Mem → Prop} (h : Q b M) : Ok (.ok b M) Q := ⟨b, M, rfl, h⟩
theorem Ok.of {β : Type} {o : Out β} {b : β} {M : Mem} {Q : β → Mem → Prop} (e : o = .ok b M) (h : Q b M) : Ok o Q := ⟨b, M, e, h⟩
theorem Ok.bind {β γ : Type} {o : Out β} {k : β → Mem → Out γ} {P : β → Mem → Prop} {Q : γ → Mem → Prop} (h : Ok o P) (g : ∀ b M, P b M → Ok (k b M) Q) : Ok (o.bind k) Q := by
  obtain ⟨b, M, e, p⟩ := h
  rw [e]
  exact g b M p
theorem Ok.mono {β : Type} {o : Out β} {P Q : β → Mem → Prop} (h : Ok o P) (g : ∀ b M, P b M → Q b M) : Ok o Q := by
  obtain ⟨b, M, e, p⟩ := h
  exact ⟨b, M, e, g b M p⟩
theorem bind_asc {β γ δ : Type} {o : Out β} {k : β → Mem → Out γ} {l : γ → Mem → Out δ} : (o.bind k).bind l = o.bind fun b M => (k b M).bind l := by cases o <;> rfl
theorem bind_ite {β γ : Type} {p : Prop} [Decidable p] {x y : Out β} {k : β → Mem → Out γ} : (if p then x else y).bind k = if p then x.bind k else y.bind k := by split <;> rfl
theorem blT_bind {β γ : Type} {t : T} {M : Mem} {k : Bool → Mem → Out β} {l : β → Mem → Out γ} : (blT t M k).bind l = blT t M fun b M => (k b M).bind l := by cases t <;> rfl
def retK (fl : Fl) (M : Mem) : Out T := match fl with
  | .rt t => .ok t M
  | .nx _ => .ok .non M
  | _ => .bad
theorem retK_rt {t : T} {M : Mem} : retK (.rt t) M = .ok t M := rfl
theorem retK_nx {σ : Ev} {M : Mem} : retK (.nx σ) M = .ok .non M := rfl
theorem runDef_ok {p n : Nat} {g : Ev → Mem → Out Fl} {ts : List T} {M : Mem} {Q : T → Mem → Prop} (h : ts.length = p) (k : Ok ((g (startT n ts) M).bind retK) Q) : Ok (runDef p n g ts M) Q := by
  obtain ⟨b, M1, e, q⟩ := k
  refine ⟨b, M1, ?_, q⟩
  rw [runDef_eq h]
  cases r : g (startT n ts) M with
  | bad => rw [r] at e; cases e
  | exn C fs M' => rw [r] at e; cases e
  | ok fl M' =>
    rw [r] at e
    cases fl with
    | rt t => exact e
    | nx σ => exact e
    | bk σ => cases e
    | ct σ => cases e
def Fr (S : List Nat) (M M' : Mem) : Prop := M.length ≤ M'.length ∧ ∀ i, i < M.length → i ∉ S → M'[i]? = M[i]?
theorem Fr.refl (S : List Nat) (M : Mem) : Fr S M M := ⟨Nat.le_refl _, fun _ _ _ => rfl⟩
theorem Fr.trans {S : List Nat} {A B C : Mem} (h : Fr S A B) (g : Fr S B C) : Fr S A C := ⟨Nat.le_trans h.1 g.1, fun i hi hs => by rw [g.2 i (Nat.lt_of_lt_of_le hi h.1) hs, h.2 i hi hs]⟩
theorem Fr.tr {S S' : List Nat} {A B C : Mem} (h : Fr S A B) (g : Fr S' B C) (s : ∀ i ∈ S', i ∈ S ∨ A.length ≤ i) : Fr S A C := ⟨Nat.le_trans h.1 g.1, fun i hi hs => by
  rw [g.2 i (Nat.lt_of_lt_of_le hi h.1) (fun z => by rcases s i z with a | a; exact hs a; omega), h.2 i hi hs]⟩
theorem Fr.get {S : List Nat} {M M' : Mem} (h : Fr S M M') {i : Nat} {c : Cell} (e : M[i]? = some c) (hs : i ∉ S) : M'[i]? = some c := by
  rw [h.2 i (List.getElem?_eq_some_iff.mp e).1 hs]; exact e
theorem Fr.get0 {M M' : Mem} (h : Fr [] M M') {i : Nat} {c : Cell} (e : M[i]? = some c) : M'[i]? = some c := h.get e (by simp)
theorem Fr.sub {S S' : List Nat} {M M' : Mem} (h : Fr S M M') (s : ∀ i ∈ S, i ∈ S' ∨ M.length ≤ i) : Fr S' M M' := ⟨h.1, fun i hi hs => h.2 i hi fun z => by
  rcases s i z with a | a
  · exact hs a
  · omega⟩
theorem Fr.app (M : Mem) (l : List Cell) : Fr [] M (M ++ l) := ⟨by simp, fun i hi _ => by rw [List.getElem?_append_left hi]⟩
theorem Fr.set (M : Mem) (a : Nat) (c : Cell) : Fr [a] M (M.set a c) := ⟨by simp, fun i _ hs => by rw [List.getElem?_set, if_neg (by simp at hs; omega)]⟩
theorem Fr.mono {S : List Nat} {M M' : Mem} (h : Fr [] M M') : Fr S M M' := h.sub (fun i hi => by simp at hi)
theorem get_lt {M : Mem} {i : Nat} {c : Cell} (e : M[i]? = some c) : i < M.length := (List.getElem?_eq_some_iff.mp e).1
theorem get_app {M : Mem} {c : Cell} : (M ++ [c])[M.length]? = some c := List.getElem?_concat_length
theorem get_app1 {M : Mem} {c d : Cell} : (M ++ [c] ++ [d])[M.length]? = some c := by rw [List.getElem?_append_left (by simp)]; exact get_app
theorem get_set {M : Mem} {a : Nat} {c c' : Cell} (e : M[a]? = some c) : (M.set a c')[a]? = some c' := by
  rw [List.getElem?_set, if_pos rfl, if_pos (get_lt e)]
theorem Ok.loop {bd : T → Ev → Mem → Out Ev} {body : Ev → Mem → Out Fl} {α : Type} {r : α → T} (P : Nat → Ev → Mem → Prop) {R : T → Mem → Prop} : ∀ (xs : List α) (i : Nat) {σ : Ev} {M : Mem},
    P i σ M → (∀ (k : Nat) x σ M, xs[k]? = some x → P (i + k) σ M → Ok ((bd (r x) σ M).bind fun σ1 M1 => body σ1 M1) fun fl M' => (∃ σ', (fl = .nx σ' ∨ fl = .ct σ') ∧ P (i + k + 1) σ' M') ∨ (∃ σ', fl = .bk σ' ∧ P (i + xs.length) σ' M') ∨ ∃ t, fl = .rt t ∧ R t M') →
    Ok (forL bd body (xs.map r) σ M) fun fl M' => (∃ σ', fl = .nx σ' ∧ P (i + xs.length) σ' M') ∨ ∃ t, fl = .rt t ∧ R t M'
  | [], i, σ, M, h, _ => ⟨.nx σ, M, rfl, .inl ⟨σ, rfl, h⟩⟩
  | x :: xs, i, σ, M, h, t => by
    obtain ⟨fl, M1, e1, h1⟩ := t 0 x σ M rfl h
    rw [List.map_cons, forL_cons]
    cases q : bd (r x) σ M with
    | bad => rw [q] at e1; cases e1
    | exn C fs M' => rw [q] at e1; cases e1
    | ok σ3 M3 =>
      rw [q] at e1
      replace e1 : body σ3 M3 = .ok fl M1 := e1
      show Ok ((body σ3 M3).bind (loopF (forL bd body (xs.map r)))) _
      rw [e1]
      have go : ∀ σ1, P (i + 1) σ1 M1 → Ok (forL bd body (xs.map r) σ1 M1) fun fl M' => (∃ σ', fl = .nx σ' ∧ P (i + (x :: xs).length) σ' M') ∨ ∃ t, fl = .rt t ∧ R t M' := fun σ1 h1 => by
        have ih := Ok.loop (R := R) P xs (i + 1) (bd := bd) (body := body) h1 (fun k y σ M hk hp => by
          have := t (k + 1) y σ M (by simpa using hk) (by rw [show i + (k + 1) = i + 1 + k by omega]; exact hp)
          rw [show i + (k + 1) + 1 = i + 1 + k + 1 by omega, List.length_cons, show i + (xs.length + 1) = i + 1 + xs.length by omega] at this
          exact this)
        rw [List.length_cons, show i + (xs.length + 1) = i + 1 + xs.length by omega]
        exact ih
      rcases h1 with ⟨σ1, h1 | h1, h2⟩ | ⟨σ1, h1, h2⟩ | ⟨u, h1, h2⟩
      · rw [h1]; exact go σ1 h2
      · rw [h1]; exact go σ1 h2
      · rw [h1]; exact ⟨.nx σ1, M1, rfl, .inl ⟨σ1, rfl, h2⟩⟩
      · rw [h1]; exact ⟨.rt u, M1, rfl, .inr ⟨u, rfl, h2⟩⟩
theorem Ok.for {bd : T → Ev → Mem → Out Ev} {body : Ev → Mem → Out Fl} {α : Type} {r : α → T} (P : Nat → Ev → Mem → Prop) {xs : List α} {σ : Ev} {M : Mem}
    (h : P 0 σ M) (t : ∀ (k : Nat) x σ M, xs[k]? = some x → P k σ M → Ok ((bd (r x) σ M).bind fun σ1 M1 => body σ1 M1) fun fl M' => ∃ σ', fl = .nx σ' ∧ P (k + 1) σ' M') :
    Ok (forL bd body (xs.map r) σ M) fun fl M' => ∃ σ', fl = .nx σ' ∧ P xs.length σ' M' := by
  refine (Ok.loop (R := fun _ _ => False) P xs 0 h (fun k x σ M hk hp => ?_)).mono ?_
  · rw [Nat.zero_add] at hp
    refine (t k x σ M hk hp).mono ?_
    rintro fl M' ⟨σ', e, q⟩
    exact .inl ⟨σ', .inl e, by rw [Nat.zero_add]; exact q⟩
  · rintro fl M' (⟨σ', e, q⟩ | ⟨t, _, f⟩)
    · exact ⟨σ', e, by rw [Nat.zero_add] at q; exact q⟩
    · exact f.elim
end FT
namespace FT
open PySem L2
theorem Ok.whileN {c : Ev → Mem → Out Bool} {body : Ev → Mem → Out Fl} (P : Ev → Mem → Prop) (μ : Ev → Mem → Nat) {Q : Ev → Mem → Prop} {R : T → Mem → Prop}
    (t : ∀ σ M, P σ M → Ok (c σ M) fun b M1 => (b = true ∧ Ok (body σ M1) fun fl M2 => (∃ σ', (fl = .nx σ' ∨ fl = .ct σ') ∧ P σ' M2 ∧ μ σ' M2 < μ σ M) ∨ (∃ σ', fl = .bk σ' ∧ Q σ' M2) ∨ ∃ t, fl = .rt t ∧ R t M2) ∨ (b = false ∧ Q σ M1)) :
    ∀ (n : Nat) (σ : Ev) (M : Mem), μ σ M < n → P σ M → Ok (whileN c body n σ M) fun fl M' => (∃ σ', fl = .nx σ' ∧ Q σ' M') ∨ ∃ t, fl = .rt t ∧ R t M'
  | 0, _, _, hn, _ => absurd hn (by omega)
  | n + 1, σ, M, hn, h => by
    obtain ⟨b, M1, e, r⟩ := t σ M h
    unfold FT.whileN
    rw [e]
    rcases r with ⟨rfl, fl, M2, e2, r⟩ | ⟨rfl, q⟩
    · show Ok ((body σ M1).bind _) _
      rw [e2]
      rcases r with ⟨σ1, h1 | h1, h2, h3⟩ | ⟨σ1, h1, h2⟩ | ⟨u, h1, h2⟩
      · rw [h1]; exact Ok.whileN P μ t n σ1 M2 (by omega) h2
      · rw [h1]; exact Ok.whileN P μ t n σ1 M2 (by omega) h2
      · rw [h1]; exact ⟨.nx σ1, M2, rfl, .inl ⟨σ1, rfl, h2⟩⟩
      · rw [h1]; exact ⟨.rt u, M2, rfl, .inr ⟨u, rfl, h2⟩⟩
    · exact ⟨.nx σ, M1, rfl, .inl ⟨σ, rfl, q⟩⟩
theorem Ok.while {c : Ev → Mem → Out Bool} {body : Ev → Mem → Out Fl} {σ : Ev} {M : Mem} (P : Ev → Mem → Prop) (μ : Ev → Mem → Nat) {Q : Ev → Mem → Prop} {R : T → Mem → Prop} (h : P σ M)
    (t : ∀ σ M, P σ M → Ok (c σ M) fun b M1 => (b = true ∧ Ok (body σ M1) fun fl M2 => (∃ σ', (fl = .nx σ' ∨ fl = .ct σ') ∧ P σ' M2 ∧ μ σ' M2 < μ σ M) ∨ (∃ σ', fl = .bk σ' ∧ Q σ' M2) ∨ ∃ t, fl = .rt t ∧ R t M2) ∨ (b = false ∧ Q σ M1)) :
    Ok (sWhile c body σ M) fun fl M' => (∃ σ', fl = .nx σ' ∧ Q σ' M') ∨ ∃ t, fl = .rt t ∧ R t M' := by
  obtain ⟨fl, M', e, r⟩ := Ok.whileN P μ t (μ σ M + 1) σ M (by omega) h
  exact ⟨fl, M', sWhile_eq _ e (by simp), r⟩
end FT
namespace FT
open PySem L2
def rgI (n : Nat) : List Int := (List.range n).map fun (k : Nat) => (k : Int)
theorem rgI_len (n : Nat) : (rgI n).length = n := by simp [rgI]
theorem rgI_get {n k : Nat} {x : Int} (h : (rgI n)[k]? = some x) : k < n ∧ x = k := by
  unfold rgI at h
  rw [List.getElem?_map] at h
  cases q : (List.range n)[k]? with
  | none => rw [q] at h; cases h
  | some j =>
    rw [q] at h
    have hk : k < n := by have := (List.getElem?_eq_some_iff.mp q).1; simpa using this
    rw [List.getElem?_range hk] at q
    cases q
    exact ⟨hk, (Option.some.inj h).symm⟩
theorem rngT_rgI (n : Nat) : rngT 0 n = (rgI n).map .int := by
  unfold rngT rgI
  rw [List.map_map]
  congr 1
  funext k
  simp
theorem rng1_rg {j : Int} {M : Mem} (h : -(2 ^ 62) ≤ j ∧ j < 2 ^ 62) : rng1 [.int j] M = .ok ((rgI j.toNat).map .int) M := by rw [rng1_i h, rngT_rgI]
def rgF (lo : Int) (n : Nat) : List Int := (List.range n).map fun (k : Nat) => lo + (k : Int)
def atZ (ws : List Int) (x : Int) : Int := (ws[x.toNat]?).getD 0
theorem ixN_at {n : Nat} {x : Int} (h : 0 ≤ x ∧ x < n) : ixN n x = some x.toNat := by
  unfold ixN
  rw [if_pos (by omega)]
  simp
  try omega
theorem Ok.filt {bd : T → Ev → Mem → Out Ev} {cond : Ev → Mem → Out Bool} {el : Ev → Mem → Out T} {M : Mem} {α : Type} {r : α → T} (I : Ev → Prop) (c : α → Bool) (f : α → T) {xs : List α} {σ : Ev} (h : I σ) (hl : xs.length ≤ 1000000)
    (t : ∀ x σ, x ∈ xs → I σ → ∃ σ1, bd (r x) σ M = .ok σ1 M ∧ I σ1 ∧ cond σ1 M = .ok (c x) M ∧ (c x = true → el σ1 M = .ok (f x) M)) : compL bd cond el (xs.map r) σ M [] = .ok ((xs.filter c).map f) M := by
  have key : ∀ (xs : List α) (σ : Ev) (acc : List T), (∀ x σ, x ∈ xs → I σ → ∃ σ1, bd (r x) σ M = .ok σ1 M ∧ I σ1 ∧ cond σ1 M = .ok (c x) M ∧ (c x = true → el σ1 M = .ok (f x) M)) → I σ → acc.length + xs.length ≤ sizeLine → compL bd cond el (xs.map r) σ M acc = .ok (acc ++ (xs.filter c).map f) M := by
    intro xs
    induction xs with
    | nil => intro σ acc _ _ _; simp [compL]
    | cons x xs ih =>
      intro σ acc t h hl
      obtain ⟨σ1, e1, h1, e2, e3⟩ := t x σ (.head _) h
      rw [List.length_cons] at hl
      rw [List.map_cons]
      unfold compL
      rw [e1]
      show ((cond σ1 M).bind _) = _
      rw [e2]
      cases hc : c x with
      | true =>
        have ih := ih σ1 (acc ++ [f x]) (fun y σ hy => t y σ (.tail _ hy)) h1 (by rw [List.length_append, List.length_cons, List.length_nil]; omega)
        show ((el σ1 M).bind _) = _
        rw [e3 hc]
        show (if acc.length < sizeLine then compL bd cond el (xs.map r) σ1 M (acc ++ [f x]) else .bad) = _
        rw [if_pos (by omega), ih, List.filter_cons_of_pos hc]
        simp
      | false =>
        have ih := ih σ1 acc (fun y σ hy => t y σ (.tail _ hy)) h1 (by omega)
        show compL bd cond el (xs.map r) σ1 M acc = _
        rw [ih, List.filter_cons_of_neg (by rw [hc]; exact Bool.false_ne_true)]
  have := key xs σ [] t h (by rw [List.length_nil, Nat.zero_add]; exact Nat.le_trans hl (by decide))
  rw [this, List.nil_append]
theorem Ok.mapc {bd : T → Ev → Mem → Out Ev} {el : Ev → Mem → Out T} {M : Mem} {α : Type} {r : α → T} (I : Ev → Prop) (f : α → T) {xs : List α} {σ : Ev} (h : I σ) (hl : xs.length ≤ 1000000)
    (t : ∀ x σ, x ∈ xs → I σ → ∃ σ1, bd (r x) σ M = .ok σ1 M ∧ I σ1 ∧ el σ1 M = .ok (f x) M) : compL bd tYes el (xs.map r) σ M [] = .ok (xs.map f) M := by
  have := Ok.filt (cond := tYes) I (fun _ => true) f h hl (fun x σ hx hs => by
    obtain ⟨σ1, a, b, c⟩ := t x σ hx hs
    exact ⟨σ1, a, b, rfl, fun _ => c⟩)
  rw [this, List.filter_eq_self.mpr (fun _ _ => rfl)]
theorem lstOf_ref {a : Nat} {xs : List T} {M : Mem} (e : M[a]? = some (.lst xs)) : lstOf (.ref a) M = some xs := by
  unfold lstOf
  simp only [e]
end FT
namespace FT
open PySem L2
theorem Ok.forR {bd : T → Ev → Mem → Out Ev} {body : Ev → Mem → Out Fl} {α : Type} {r : α → T} {a : Nat} {xs : List α} (P : Nat → Ev → Mem → Prop) {σ : Ev} {M : Mem} (hP : ∀ k σ M, P k σ M → M[a]? = some (.lst (xs.map r)))
    (h : P 0 σ M) (t : ∀ (k : Nat) x σ M, xs[k]? = some x → P k σ M → Ok ((bd (r x) σ M).bind fun σ1 M1 => body σ1 M1) fun fl M' => ∃ σ', fl = .nx σ' ∧ P (k + 1) σ' M') :
    Ok (walkR bd body (.ref a) σ M) fun fl M' => ∃ σ', fl = .nx σ' ∧ P xs.length σ' M' := by
  have e0 := hP 0 σ M h
  obtain ⟨σ', M', e, p⟩ := forR_inv (bd := bd) (body := body) (a := a) (xs := xs.map r) P hP (fun k x σ M hx hp => by
    rw [List.getElem?_map] at hx
    cases q : xs[k]? with
    | none => rw [q] at hx; cases hx
    | some y =>
      rw [q] at hx
      cases hx
      obtain ⟨fl, M1, e, σ1, rfl, p⟩ := t k y σ M q hp
      exact ⟨σ1, M1, e, p⟩) xs.length 0 (by simp) σ M h
  refine ⟨.nx σ', M', ?_, σ', rfl, by simpa using p⟩
  unfold walkR
  simp only [e0, List.length_map]
  exact e
end FT
namespace FT
open PySem L2
theorem Ok.loopG {G : Gd} {bd : T → Ev → Mem → Out Ev} {body : Ev → Mem → Out Fl} {α : Type} {r : α → T} (P : Nat → Ev → Mem → Prop) {R : T → Mem → Prop} (hG : ∀ i σ M, P i σ M → gdOk G M) : ∀ (xs : List α) (i : Nat) {σ : Ev} {M : Mem},
    P i σ M → (∀ (k : Nat) x σ M, xs[k]? = some x → P (i + k) σ M → Ok ((bd (r x) σ M).bind fun σ1 M1 => body σ1 M1) fun fl M' => (∃ σ', (fl = .nx σ' ∨ fl = .ct σ') ∧ P (i + k + 1) σ' M') ∨ (∃ σ', fl = .bk σ' ∧ P (i + xs.length) σ' M') ∨ ∃ t, fl = .rt t ∧ R t M') →
    Ok (forG G bd body (xs.map r) σ M) fun fl M' => (∃ σ', fl = .nx σ' ∧ P (i + xs.length) σ' M') ∨ ∃ t, fl = .rt t ∧ R t M'
  | [], i, σ, M, h, _ => ⟨.nx σ, M, by rw [List.map_nil]; unfold forG; exact gdK_ok (hG _ _ _ h), .inl ⟨σ, rfl, h⟩⟩
  | x :: xs, i, σ, M, h, t => by
    obtain ⟨fl, M1, e1, h1⟩ := t 0 x σ M rfl h
    rw [List.map_cons]
    unfold forG
    rw [gdK_ok (hG _ _ _ h)]
    cases q : bd (r x) σ M with
    | bad => rw [q] at e1; cases e1
    | exn C fs M' => rw [q] at e1; cases e1
    | ok σ3 M3 =>
      rw [q] at e1
      replace e1 : body σ3 M3 = .ok fl M1 := e1
      show Ok ((body σ3 M3).bind (loopF (forG G bd body (xs.map r)))) _
      rw [e1]
      have go : ∀ σ1, P (i + 1) σ1 M1 → Ok (forG G bd body (xs.map r) σ1 M1) fun fl M' => (∃ σ', fl = .nx σ' ∧ P (i + (x :: xs).length) σ' M') ∨ ∃ t, fl = .rt t ∧ R t M' := fun σ1 h1 => by
        have ih := Ok.loopG (R := R) P hG xs (i + 1) (bd := bd) (body := body) h1 (fun k y σ M hk hp => by
          have := t (k + 1) y σ M (by simpa using hk) (by rw [show i + (k + 1) = i + 1 + k by omega]; exact hp)
          rw [show i + (k + 1) + 1 = i + 1 + k + 1 by omega, List.length_cons, show i + (xs.length + 1) = i + 1 + xs.length by omega] at this
          exact this)
        rw [List.length_cons, show i + (xs.length + 1) = i + 1 + xs.length by omega]
        exact ih
      rcases h1 with ⟨σ1, h1 | h1, h2⟩ | ⟨σ1, h1, h2⟩ | ⟨u, h1, h2⟩
      · rw [h1]; exact go σ1 h2
      · rw [h1]; exact go σ1 h2
      · rw [h1]; exact ⟨.nx σ1, M1, rfl, .inl ⟨σ1, rfl, h2⟩⟩
      · rw [h1]; exact ⟨.rt u, M1, rfl, .inr ⟨u, rfl, h2⟩⟩
theorem Ok.forG {G : Gd} {bd : T → Ev → Mem → Out Ev} {body : Ev → Mem → Out Fl} {α : Type} {r : α → T} (P : Nat → Ev → Mem → Prop) {xs : List α} {σ : Ev} {M : Mem} (hG : ∀ i σ M, P i σ M → gdOk G M)
    (h : P 0 σ M) (t : ∀ (k : Nat) x σ M, xs[k]? = some x → P k σ M → Ok ((bd (r x) σ M).bind fun σ1 M1 => body σ1 M1) fun fl M' => ∃ σ', fl = .nx σ' ∧ P (k + 1) σ' M') :
    Ok (forG G bd body (xs.map r) σ M) fun fl M' => ∃ σ', fl = .nx σ' ∧ P xs.length σ' M' := by
  refine (Ok.loopG (R := fun _ _ => False) P hG xs 0 h (fun k x σ M hk hp => ?_)).mono ?_
  · rw [Nat.zero_add] at hp
    refine (t k x σ M hk hp).mono ?_
    rintro fl M' ⟨σ', e, q⟩
    exact .inl ⟨σ', .inl e, by rw [Nat.zero_add]; exact q⟩
  · rintro fl M' (⟨σ', e, q⟩ | ⟨t, _, f⟩)
    · exact ⟨σ', e, by rw [Nat.zero_add] at q; exact q⟩
    · exact f.elim
end FT
namespace My
open PySem L2 FT
def top (i : Nat) : Stmt := PySem.Challenge.pw_tryweir_k18_one_unknown.main.body.getD i (.Pass ⟨0, 0, 0, 0⟩)
abbrev s_common : Stmt := top 1
abbrev s_lowest : Stmt := top 2
abbrev s_Corner_init : Stmt := inClass (top 5) 0
abbrev s_first_corner : Stmt := top 6
abbrev s_all_demands : Stmt := top 7
abbrev s_lack_of : Stmt := top 8
abbrev s_most_broken : Stmt := top 9
abbrev s_gains_of : Stmt := top 10
abbrev s_is_cheaper : Stmt := top 11
abbrev s_cheapest : Stmt := top 12
abbrev s_blended : Stmt := top 13
abbrev s_moved_corner : Stmt := top 14
abbrev s_shares_of : Stmt := top 15
abbrev s_least_told : Stmt := top 16
abbrev s_never_told : Stmt := top 17
abbrev s_least_sums : Stmt := top 18
abbrev s_l_cell : Stmt := top 20
abbrev s_l_left : Stmt := top 21
abbrev s_l_next : Stmt := top 22
abbrev s_l_wide : Stmt := top 23
abbrev s_l_number : Stmt := top 24
abbrev s_l_demands : Stmt := top 25
abbrev s_l_aim : Stmt := top 26
abbrev s_l_total : Stmt := top 27
abbrev s_l_meets : Stmt := top 28
abbrev s_l_column : Stmt := top 29
abbrev s_l_holds : Stmt := top 30
abbrev s_l_ends : Stmt := top 31
abbrev s_law : Stmt := top 32
structure Txt (K : PySem.W.Frag) (mg : Str → Option Value) (k_Corner : Addr) : Prop where
  cls_Corner : Cls K k_Corner
  na_Corner_bottom : NoAttr K k_Corner "bottom"
  na_Corner_chosen : NoAttr K k_Corner "chosen"
  na_Corner_lines : NoAttr K k_Corner "lines"
  na_Corner_point : NoAttr K k_Corner "point"
  n_abs : mg "abs" = none
  n_len : mg "len" = none
  n_range : mg "range" = none
  n_enumerate : mg "enumerate" = none
  n_sum : mg "sum" = none
  n_zip : mg "zip" = none
  n_list : mg "list" = none
  n_tuple : mg "tuple" = none
  n_max : mg "max" = none
  n_int : mg "int" = none
  n_min : mg "min" = none
  c_AHEAD : ∃ t, mg "AHEAD" = some (.int 2 t)
theorem boot_abs : bootBuiltins "abs" = some (.builtin "abs") := by decide +kernel
theorem boot_len : bootBuiltins "len" = some (.builtin "len") := by decide +kernel
theorem boot_range : bootBuiltins "range" = some (.type "range") := by decide +kernel
theorem boot_sum : bootBuiltins "sum" = some (.builtin "sum") := by decide +kernel
theorem boot_list : bootBuiltins "list" = some (.type "list") := by decide +kernel
theorem boot_tuple : bootBuiltins "tuple" = some (.type "tuple") := by decide +kernel
theorem boot_max : bootBuiltins "max" = some (.builtin "max") := by decide +kernel
theorem boot_int : bootBuiltins "int" = some (.type "int") := by decide +kernel
theorem boot_min : bootBuiltins "min" = some (.builtin "min") := by decide +kernel
end My
namespace My
open PySem L2 FT
noncomputable def b0_common (k_Corner : Addr) : Ev → Mem → Out Fl :=
  (sSeq (sSet 4 (eOp modI (eVar 2) (eVar 3)))
  (sSeq (sSet 2 (eVar 3))
  (sSet 3 (eVar 4))))
noncomputable def b1_common (k_Corner : Addr) : Ev → Mem → Out Bool :=
  (tVal (eOp neA (eVar 3) (eC (.int 0))))
noncomputable def g_common (k_Corner : Addr) : Ev → Mem → Out Fl :=
  (sSeq (sSet 2 (eCall (call1 absK) (aCons (eVar 0) aNil)))
  (sSeq (sSet 3 (eCall (call1 absK) (aCons (eVar 1) aNil)))
  (sSeq (sWhile (b1_common k_Corner) (b0_common k_Corner))
  (sRet (eVar 2)))))
noncomputable def f_common (k_Corner : Addr) : List FT.T → Mem → Out FT.T := runDef 2 5 (g_common k_Corner)
section
variable {P : Program} {w : World} {K : PySem.W.Frag} {mg : Str → Option Value} {base : Heap} {k_Corner : Addr}
theorem sc_common : FnScope ["one", "other", "upper", "lower", "rest"] ["one", "other"] (defScope s_common) := ⟨rfl, rfl, rfl, by decide +kernel, rfl, by decide +kernel, by decide +kernel⟩
theorem c_common (D : Df K mg "common" s_common ["one", "other"]) (T : Txt K mg k_Corner)  : CalT P w K mg base 1 "common" ["one", "other"] (f_common k_Corner) :=
  wcal_mk D sc_common rfl rfl (fun f cdv A outer s H E hr => (wgss_cons (wgs_set (i := 2) sc_common.nd rfl (Or.inl rfl) (wge_callB call_absK rfl T.n_abs boot_abs (wga_cons (wge_var (pv 0)) wga_nil)))
    (wgss_cons (wgs_set (i := 3) sc_common.nd rfl (Or.inl rfl) (wge_callB call_absK rfl T.n_abs boot_abs (wga_cons (wge_var (pv 1)) wga_nil)))
    (wgss_cons (wgs_while PassesOwn.never (wgt_cmp (op_neA hr.units) (wge_var (pv 3)) wge_int (nomark _)) (wgss_cons (wgs_set (i := 4) sc_common.nd rfl (Or.inl rfl) (wge_op op_modI (wge_var (pv 2)) (wge_var (pv 3))))
    (wgss_cons (wgs_set (i := 2) sc_common.nd rfl (Or.inl rfl) (wge_var (pv 3)))
    (wgss_one (wgs_set (i := 3) sc_common.nd rfl (Or.inl rfl) (wge_var (pv 4)))))))
    (wgss_one (wgs_ret (wge_var (pv 2))))))))
end
end My
namespace My
open PySem L2 FT
noncomputable def g_lowest (k_Corner : Addr) : Ev → Mem → Out Fl :=
  (sSeq (sSet 2 (eCall (f_common k_Corner) (aCons (eVar 0) (aCons (eVar 1) aNil))))
  (sSeq (sIf (tVal (eOp ltI (eVar 1) (eC (.int 0)))) (sSet 2 (eUn negI (eVar 2))) sNil)
  (sRet (eTup (aCons (eOp divI (eVar 0) (eVar 2)) (aCons (eOp divI (eVar 1) (eVar 2)) aNil))))))
noncomputable def f_lowest (k_Corner : Addr) : List FT.T → Mem → Out FT.T := runDef 2 3 (g_lowest k_Corner)
section
variable {P : Program} {w : World} {K : PySem.W.Frag} {mg : Str → Option Value} {base : Heap} {k_Corner : Addr}
theorem sc_lowest : FnScope ["top", "bottom", "divisor"] ["top", "bottom"] (defScope s_lowest) := ⟨rfl, rfl, rfl, by decide +kernel, rfl, by decide +kernel, by decide +kernel⟩
theorem c_lowest (D : Df K mg "lowest" s_lowest ["top", "bottom"]) (T : Txt K mg k_Corner) (c_common : CalT P w K mg base 1 "common" ["one", "other"] (f_common k_Corner)) : CalT P w K mg base 2 "lowest" ["top", "bottom"] (f_lowest k_Corner) :=
  wcal_mk D sc_lowest rfl rfl (fun f cdv A outer s H E hr => (wgss_cons (wgs_set (i := 2) sc_lowest.nd rfl (Or.inl rfl) (wge_cal c_common (hr.mono (by decide)) rfl (wga_cons (wge_var (pv 0)) (wga_cons (wge_var (pv 1)) wga_nil))))
    (wgss_cons (wgs_if (wgt_cmp op_ltI (wge_var (pv 1)) wge_int (nomark _)) (wgss_one (wgs_set (i := 2) sc_lowest.nd rfl (Or.inl rfl) (wge_un un_negI (wge_var (pv 2))))) wgss_nil)
    (wgss_one (wgs_ret (wge_tup (wga_cons (wge_op op_divI (wge_var (pv 0)) (wge_var (pv 2))) (wga_cons (wge_op op_divI (wge_var (pv 1)) (wge_var (pv 2))) wga_nil))))))))
end
end My
namespace My
open PySem L2 FT
noncomputable def g_Corner_init (k_Corner : Addr) : Ev → Mem → Out Fl :=
  (sSeq (sFldS [k_Corner] "chosen" (eVar 0) (eVar 1))
  (sSeq (sFldS [k_Corner] "point" (eVar 0) (eVar 2))
  (sSeq (sFldS [k_Corner] "lines" (eVar 0) (eVar 3))
  (sFldS [k_Corner] "bottom" (eVar 0) (eVar 4)))))
noncomputable def f_Corner_init (k_Corner : Addr) : List FT.T → Mem → Out FT.T := runDef 5 5 (g_Corner_init k_Corner)
section
variable {P : Program} {w : World} {K : PySem.W.Frag} {mg : Str → Option Value} {base : Heap} {k_Corner : Addr}
theorem sc_Corner_init : FnScope ["self", "chosen", "point", "lines", "bottom"] ["self", "chosen", "point", "lines", "bottom"] (defScope s_Corner_init) := ⟨rfl, rfl, rfl, by decide +kernel, rfl, by decide +kernel, by decide +kernel⟩
theorem m_Corner (D : Di K mg "Corner" "Corner.__init__" k_Corner s_Corner_init ["self", "chosen", "point", "lines", "bottom"]) (T : Txt K mg k_Corner)  : MakT P w K mg base 1 "Corner" k_Corner ["self", "chosen", "point", "lines", "bottom"] (f_Corner_init k_Corner) :=
  wmak_mk D sc_Corner_init rfl rfl (fun f cdv A outer s H E hr => (wgss_cons (wgs_fld (forC_cons ⟨T.cls_Corner, T.na_Corner_chosen⟩ forC_nil) (wge_var (pv 0)) (wge_var (pv 1)))
    (wgss_cons (wgs_fld (forC_cons ⟨T.cls_Corner, T.na_Corner_point⟩ forC_nil) (wge_var (pv 0)) (wge_var (pv 2)))
    (wgss_cons (wgs_fld (forC_cons ⟨T.cls_Corner, T.na_Corner_lines⟩ forC_nil) (wge_var (pv 0)) (wge_var (pv 3)))
    (wgss_one (wgs_fld (forC_cons ⟨T.cls_Corner, T.na_Corner_bottom⟩ forC_nil) (wge_var (pv 0)) (wge_var (pv 4))))))))
end
end My
namespace My
open PySem L2 FT
noncomputable def b0_first_corner (k_Corner : Addr) : Ev → Mem → Out Fl :=
  (sSeq (sSet 5 (eTk (lComp (iRange1 (aCons (eVar 2) aNil)) (bName 0) tYes (eC (.int 0)) ["unknown"] [])))
  (sSeq (sAsg (eC (.int 1)) (bSub setT (eVar 5) (eVar 4)))
  (sExp (eMeth appT (eUn lstChk (eVar 3)) (aCons (eOp addA (eFz (lDisp (aCons (eOp ixT (eVar 1) (eVar 4)) (aCons (eC (.int 1)) aNil)))) (eVar 5)) aNil)))))
noncomputable def g_first_corner (k_Corner : Addr) : Ev → Mem → Out Fl :=
  (sSeq (sSet 2 (eCall (call1 lenK) (aCons (eVar 1) aNil)))
  (sSeq (sSet 3 (eTk (lDisp aNil)))
  (sSeq (sFor (iRange1 (aCons (eVar 2) aNil)) (bName 4) (b0_first_corner k_Corner))
  (sSeq (sSet 6 (eFz (lComp (iRange1 (aCons (eVar 2) aNil)) (bName 0) tYes (eOp addA (eVar 1) (eVar 0)) ["own"] [("demand_count", 0)])))
  (sRet (eMake k_Corner (f_Corner_init k_Corner) (aCons (eVar 6) (aCons (eFz (lComp (iRange1 (aCons (eVar 2) aNil)) (bName 0) tYes (eC (.int 0)) ["own"] [])) (aCons (eVar 3) (aCons (eC (.int 1)) aNil))))))))))
noncomputable def f_first_corner (k_Corner : Addr) : List FT.T → Mem → Out FT.T := runDef 2 7 (g_first_corner k_Corner)
section
variable {P : Program} {w : World} {K : PySem.W.Frag} {mg : Str → Option Value} {base : Heap} {k_Corner : Addr}
theorem sc_first_corner : FnScope ["demand_count", "aim", "size", "lines", "own", "way", "chosen"] ["demand_count", "aim"] (defScope s_first_corner) := ⟨rfl, rfl, rfl, by decide +kernel, rfl, by decide +kernel, by decide +kernel⟩
theorem c_first_corner (D : Df K mg "first_corner" s_first_corner ["demand_count", "aim"]) (T : Txt K mg k_Corner) (m_Corner : MakT P w K mg base 1 "Corner" k_Corner ["self", "chosen", "point", "lines", "bottom"] (f_Corner_init k_Corner)) : CalT P w K mg base 3 "first_corner" ["demand_count", "aim"] (f_first_corner k_Corner) :=
  wcal_mk D sc_first_corner rfl rfl (fun f cdv A outer s H E hr => (wgss_cons (wgs_set (i := 2) sc_first_corner.nd rfl (Or.inl rfl) (wge_callB call_lenK rfl T.n_len boot_len (wga_cons (wge_var (pv 1)) wga_nil)))
    (wgss_cons (wgs_set (i := 3) sc_first_corner.nd rfl (Or.inl rfl) (wge_tk (wgl_disp wga_nil)))
    (wgss_cons (wgs_for PassesOwn.never rfl (wgi_range1 rfl T.n_range (wga_cons (wge_var (pv 2)) wga_nil)) (wgg_name (pg_name (i := 4) sc_first_corner.nd rfl (by first | exact Or.inl rfl | exact Or.inr rfl))) (wgss_cons (wgs_setCompT (i0 := 5) (tgs := ["unknown"]) (caps := []) rfl (wgi_range1 rfl T.n_range (wga_cons (wge_var (pv 2)) wga_nil)) rfl (by decide +kernel) rfl (by decide +kernel) (by first | exact (fun _ _ h => h) | exact look_sub (by repeat (first | exact True.intro | refine ⟨rfl, ?_⟩))) (fun _ => has_of (by repeat (first | exact True.intro | (refine ⟨?_, ?_⟩; first | exact (fun _ => ⟨_, rfl⟩) | exact (fun h => h.elim (fun h => nomatch h) (fun h => nomatch h)))))) (by intro c hc; cases hc) (fun _ _ _ => (wgg_name (pg_name (i := 0) (show (["unknown"] : List Str).Nodup by decide +kernel) rfl (by first | exact Or.inl rfl | exact Or.inr rfl)))) (fun _ _ _ => wgts_nil) (fun _ _ _ => wge_int) sc_first_corner.nd rfl (Or.inl rfl))
    (wgss_cons (wgs_asg wge_int (wgg_sub (wge_var (pv 5)) (wge_var (pv 4)) set_T))
    (wgss_one (wgs_exp (wge_app (pe_bm PySem.F.plainAttrs_list PySem.F.slot_list_append PySem.F.type_list_append mt_append (WE.pe (wge_var (pv 3))) (WA.pe (wga_cons (wge_op op_addA (wge_fz (wgl_disp (wga_cons (wge_ix ix_T (wge_var (pv 1)) (wge_var (pv 4)) (fun _ _ => rfl)) (wga_cons wge_int wga_nil)))) (wge_var (pv 5))) wga_nil)))))))))
    (wgss_cons (wgs_setCompF (i0 := 6) (tgs := ["own"]) (caps := [("demand_count", 0)]) rfl (wgi_range1 rfl T.n_range (wga_cons (wge_var (pv 2)) wga_nil)) rfl (by decide +kernel) rfl (by decide +kernel) (by first | exact (fun _ _ h => h) | exact look_sub (by repeat (first | exact True.intro | refine ⟨rfl, ?_⟩))) (fun _ => has_of (by repeat (first | exact True.intro | (refine ⟨?_, ?_⟩; first | exact (fun _ => ⟨_, rfl⟩) | exact (fun h => h.elim (fun h => nomatch h) (fun h => nomatch h)))))) (by intro c hc; cases hc with | head => exact ⟨rfl, rfl, by first | exact .inl rfl | exact .inr rfl⟩ | tail _ hc => (cases hc)) (fun _ _ _ => (wgg_name (pg_name (i := 0) (show (["own", "demand_count"] : List Str).Nodup by decide +kernel) rfl (by first | exact Or.inl rfl | exact Or.inr rfl)))) (fun _ _ _ => wgts_nil) (fun _ _ _ => (wge_op op_addA (wge_var (pv 1)) (wge_var (pv 0)))) sc_first_corner.nd rfl (Or.inl rfl))
    (wgss_one (wgs_ret (wge_make m_Corner (hr.mono (by decide)) rfl (wga_cons (wge_var (pv 6)) (wga_cons (wge_fz (wgl_comp (tgs := ["own"]) (caps := []) rfl (wgi_range1 rfl T.n_range (wga_cons (wge_var (pv 2)) wga_nil)) rfl (by decide +kernel) rfl (by decide +kernel) (by first | exact (fun _ _ h => h) | exact look_sub (by repeat (first | exact True.intro | refine ⟨rfl, ?_⟩))) (fun _ => has_of (by repeat (first | exact True.intro | (refine ⟨?_, ?_⟩; first | exact (fun _ => ⟨_, rfl⟩) | exact (fun h => h.elim (fun h => nomatch h) (fun h => nomatch h)))))) (by intro c hc; cases hc) (fun _ _ _ => (wgg_name (pg_name (i := 0) (show (["own"] : List Str).Nodup by decide +kernel) rfl (by first | exact Or.inl rfl | exact Or.inr rfl)))) (fun _ _ _ => wgts_nil) (fun _ _ _ => wge_int))) (wga_cons (wge_var (pv 3)) (wga_cons wge_int wga_nil))))))))))))
end
end My
namespace My
open PySem L2 FT
noncomputable def b0_all_demands (k_Corner : Addr) : Ev → Mem → Out Fl :=
  (sSeq (sSet 5 (eFz (lComp (iEnum (eVar 3)) (bTup 2 (bCons (bName 0) (bCons (bName 1) bNil))) (tVal (eOp neA (eVar 1) (eC (.int 0)))) (eTup (aCons (eVar 0) (aCons (eVar 1) aNil))) ["unknown", "number"] [])))
  (sExp (eMeth appT (eUn lstChk (eVar 2)) (aCons (eTup (aCons (eVar 5) (aCons (eVar 4) (aCons (eCall (call1 sumK) (aCons (eFz (lComp (iSeq (eVar 5)) (bTup 2 (bCons (bName 0) (bCons (bName 1) bNil))) tYes (eOp mulA (eVar 1) (eVar 1)) ["unknown", "number"] [])) aNil)) aNil)))) aNil))))
noncomputable def b1_all_demands (k_Corner : Addr) : Ev → Mem → Out Fl :=
  (sExp (eMeth appT (eUn lstChk (eVar 2)) (aCons (eTup (aCons (eFz (lDisp (aCons (eTup (aCons (eVar 6) (aCons (eC (.int 1)) aNil))) aNil))) (aCons (eC (.int 0)) (aCons (eC (.int 1)) aNil)))) aNil)))
noncomputable def g_all_demands (k_Corner : Addr) : Ev → Mem → Out Fl :=
  (sSeq (sSet 2 (eTk (lDisp aNil)))
  (sSeq (sForG (iSeqG (eVar 0)) (bTup 2 (bCons (bName 3) (bCons (bName 4) bNil))) (b0_all_demands k_Corner))
  (sSeq (sFor (iRange1 (aCons (eVar 1) aNil)) (bName 6) (b1_all_demands k_Corner))
  (sRet (eVar 2)))))
noncomputable def f_all_demands (k_Corner : Addr) : List FT.T → Mem → Out FT.T := runDef 2 7 (g_all_demands k_Corner)
section
variable {P : Program} {w : World} {K : PySem.W.Frag} {mg : Str → Option Value} {base : Heap} {k_Corner : Addr}
theorem sc_all_demands : FnScope ["demands", "size", "every", "numbers", "least", "parts", "unknown"] ["demands", "size"] (defScope s_all_demands) := ⟨rfl, rfl, rfl, by decide +kernel, rfl, by decide +kernel, by decide +kernel⟩
theorem c_all_demands (D : Df K mg "all_demands" s_all_demands ["demands", "size"]) (T : Txt K mg k_Corner)  : CalT P w K mg base 1 "all_demands" ["demands", "size"] (f_all_demands k_Corner) :=
  wcal_mk D sc_all_demands rfl rfl (fun f cdv A outer s H E hr => (wgss_cons (wgs_set (i := 2) sc_all_demands.nd rfl (Or.inl rfl) (wge_tk (wgl_disp wga_nil)))
    (wgss_cons (wgs_forG PassesOwn.never rfl (wgi_seqG (wge_var (pv 0))) (wgg_tup (pg_tup rfl (WGs.pe (wggs_cons (pgs_cons (WG.pe (wgg_name (pg_name (i := 3) sc_all_demands.nd rfl (by first | exact Or.inl rfl | exact Or.inr rfl)))) (WGs.pe (wggs_cons (pgs_cons (WG.pe (wgg_name (pg_name (i := 4) sc_all_demands.nd rfl (by first | exact Or.inl rfl | exact Or.inr rfl)))) (WGs.pe wggs_nil))))))))) (wgss_cons (wgs_setCompF (i0 := 5) (tgs := ["unknown", "number"]) (caps := []) rfl (wgi_enum rfl T.n_enumerate (wge_var (pv 3))) rfl (by decide +kernel) rfl (by decide +kernel) (by first | exact (fun _ _ h => h) | exact look_sub (by repeat (first | exact True.intro | refine ⟨rfl, ?_⟩))) (fun _ => has_of (by repeat (first | exact True.intro | (refine ⟨?_, ?_⟩; first | exact (fun _ => ⟨_, rfl⟩) | exact (fun h => h.elim (fun h => nomatch h) (fun h => nomatch h)))))) (by intro c hc; cases hc) (fun _ _ _ => (wgg_tup (pg_tup rfl (WGs.pe (wggs_cons (pgs_cons (WG.pe (wgg_name (pg_name (i := 0) (show (["unknown", "number"] : List Str).Nodup by decide +kernel) rfl (by first | exact Or.inl rfl | exact Or.inr rfl)))) (WGs.pe (wggs_cons (pgs_cons (WG.pe (wgg_name (pg_name (i := 1) (show (["unknown", "number"] : List Str).Nodup by decide +kernel) rfl (by first | exact Or.inl rfl | exact Or.inr rfl)))) (WGs.pe wggs_nil)))))))))) (fun _ _ _ => (wgts_one (wgt_cmp (op_neA hr.units) (wge_var (pv 1)) wge_int (nomark _)))) (fun _ _ _ => (wge_tup (wga_cons (wge_var (pv 0)) (wga_cons (wge_var (pv 1)) wga_nil)))) sc_all_demands.nd rfl (Or.inl rfl))
    (wgss_one (wgs_exp (wge_app (pe_bm PySem.F.plainAttrs_list PySem.F.slot_list_append PySem.F.type_list_append mt_append (WE.pe (wge_var (pv 2))) (WA.pe (wga_cons (wge_tup (wga_cons (wge_var (pv 5)) (wga_cons (wge_var (pv 4)) (wga_cons (wge_callB (call_sumK rfl) rfl T.n_sum boot_sum (wga_cons (wge_fz (wgl_comp (tgs := ["unknown", "number"]) (caps := []) rfl (wgi_seq (wge_var (pv 5))) rfl (by decide +kernel) rfl (by decide +kernel) (by first | exact (fun _ _ h => h) | exact look_sub (by repeat (first | exact True.intro | refine ⟨rfl, ?_⟩))) (fun _ => has_of (by repeat (first | exact True.intro | (refine ⟨?_, ?_⟩; first | exact (fun _ => ⟨_, rfl⟩) | exact (fun h => h.elim (fun h => nomatch h) (fun h => nomatch h)))))) (by intro c hc; cases hc) (fun _ _ _ => (wgg_tup (pg_tup rfl (WGs.pe (wggs_cons (pgs_cons (WG.pe (wgg_name (pg_name (i := 0) (show (["unknown", "number"] : List Str).Nodup by decide +kernel) rfl (by first | exact Or.inl rfl | exact Or.inr rfl)))) (WGs.pe (wggs_cons (pgs_cons (WG.pe (wgg_name (pg_name (i := 1) (show (["unknown", "number"] : List Str).Nodup by decide +kernel) rfl (by first | exact Or.inl rfl | exact Or.inr rfl)))) (WGs.pe wggs_nil)))))))))) (fun _ _ _ => wgts_nil) (fun _ _ _ => (wge_op op_mulA (wge_var (pv 1)) (wge_var (pv 1)))))) wga_nil)) wga_nil)))) wga_nil))))))))
    (wgss_cons (wgs_for PassesOwn.never rfl (wgi_range1 rfl T.n_range (wga_cons (wge_var (pv 1)) wga_nil)) (wgg_name (pg_name (i := 6) sc_all_demands.nd rfl (by first | exact Or.inl rfl | exact Or.inr rfl))) (wgss_one (wgs_exp (wge_app (pe_bm PySem.F.plainAttrs_list PySem.F.slot_list_append PySem.F.type_list_append mt_append (WE.pe (wge_var (pv 2))) (WA.pe (wga_cons (wge_tup (wga_cons (wge_fz (wgl_disp (wga_cons (wge_tup (wga_cons (wge_var (pv 6)) (wga_cons wge_int wga_nil))) wga_nil))) (wga_cons wge_int (wga_cons wge_int wga_nil)))) wga_nil)))))))
    (wgss_one (wgs_ret (wge_var (pv 2))))))))
end
end My
namespace My
open PySem L2 FT
noncomputable def g_lack_of (k_Corner : Addr) : Ev → Mem → Out Fl :=
  (sSeq (sSet 2 (eFld [k_Corner] "point" (eVar 1)))
  (sRet (eOp subI (eOp mulA (eOp ixT (eVar 0) (eC (.int 1))) (eFld [k_Corner] "bottom" (eVar 1))) (eCall (call1 sumK) (aCons (eFz (lComp (iSeq (eOp ixT (eVar 0) (eC (.int 0)))) (bTup 2 (bCons (bName 0) (bCons (bName 1) bNil))) tYes (eOp mulA (eVar 1) (eOp ixT (eVar 2) (eVar 0))) ["unknown", "number"] [("point", 2)])) aNil)))))
noncomputable def f_lack_of (k_Corner : Addr) : List FT.T → Mem → Out FT.T := runDef 2 3 (g_lack_of k_Corner)
section
variable {P : Program} {w : World} {K : PySem.W.Frag} {mg : Str → Option Value} {base : Heap} {k_Corner : Addr}
theorem sc_lack_of : FnScope ["demand", "corner", "point"] ["demand", "corner"] (defScope s_lack_of) := ⟨rfl, rfl, rfl, by decide +kernel, rfl, by decide +kernel, by decide +kernel⟩
theorem c_lack_of (D : Df K mg "lack_of" s_lack_of ["demand", "corner"]) (T : Txt K mg k_Corner)  : CalT P w K mg base 1 "lack_of" ["demand", "corner"] (f_lack_of k_Corner) :=
  wcal_mk D sc_lack_of rfl rfl (fun f cdv A outer s H E hr => (wgss_cons (wgs_set (i := 2) sc_lack_of.nd rfl (Or.inr rfl) (wge_fld (forC_cons ⟨T.cls_Corner, T.na_Corner_point⟩ forC_nil) (wge_var (pv 1))))
    (wgss_one (wgs_ret (wge_op op_subI (wge_op op_mulA (wge_ix ix_T (wge_var (pv 0)) wge_int (fun _ _ => rfl)) (wge_fld (forC_cons ⟨T.cls_Corner, T.na_Corner_bottom⟩ forC_nil) (wge_var (pv 1)))) (wge_callB (call_sumK rfl) rfl T.n_sum boot_sum (wga_cons (wge_fz (wgl_comp (tgs := ["unknown", "number"]) (caps := [("point", 2)]) rfl (wgi_seq (wge_ix ix_T (wge_var (pv 0)) wge_int (fun _ _ => rfl))) rfl (by decide +kernel) rfl (by decide +kernel) (by first | exact (fun _ _ h => h) | exact look_sub (by repeat (first | exact True.intro | refine ⟨rfl, ?_⟩))) (fun _ => has_of (by repeat (first | exact True.intro | (refine ⟨?_, ?_⟩; first | exact (fun _ => ⟨_, rfl⟩) | exact (fun h => h.elim (fun h => nomatch h) (fun h => nomatch h)))))) (by intro c hc; cases hc with | head => exact ⟨rfl, rfl, by first | exact .inl rfl | exact .inr rfl⟩ | tail _ hc => (cases hc)) (fun _ _ _ => (wgg_tup (pg_tup rfl (WGs.pe (wggs_cons (pgs_cons (WG.pe (wgg_name (pg_name (i := 0) (show (["unknown", "number", "point"] : List Str).Nodup by decide +kernel) rfl (by first | exact Or.inl rfl | exact Or.inr rfl)))) (WGs.pe (wggs_cons (pgs_cons (WG.pe (wgg_name (pg_name (i := 1) (show (["unknown", "number", "point"] : List Str).Nodup by decide +kernel) rfl (by first | exact Or.inl rfl | exact Or.inr rfl)))) (WGs.pe wggs_nil)))))))))) (fun _ _ _ => wgts_nil) (fun _ _ _ => (wge_op op_mulA (wge_var (pv 1)) (wge_ix ix_T (wge_var (pv 2)) (wge_var (pv 0)) (fun _ _ => rfl)))))) wga_nil)))))))
end
end My
namespace My
open PySem L2 FT
noncomputable def b0_most_broken (k_Corner : Addr) : Ev → Mem → Out Fl :=
  (sSeq (sSet 6 (eCall (f_lack_of k_Corner) (aCons (eVar 5) (aCons (eVar 1) aNil))))
  (sIf (tAndF (tVal (eOp gtI (eVar 6) (eC (.int 0)))) (tOrF (tVal (eOp isN (eVar 2) (eC .non))) (tVal (eOp gtI (eOp mulA (eOp mulA (eVar 6) (eVar 6)) (eOp ixT (eOp ixT (eVar 0) (eVar 2)) (eC (.int 2)))) (eOp mulA (eOp mulA (eVar 3) (eVar 3)) (eOp ixT (eVar 5) (eC (.int 2)))))))) (sSeq (sSet 2 (eVar 4))
  (sSet 3 (eVar 6))) sNil))
noncomputable def g_most_broken (k_Corner : Addr) : Ev → Mem → Out Fl :=
  (sSeq (sSet 2 (eC .non))
  (sSeq (sSet 3 (eC (.int 0)))
  (sSeq (sForG (iEnumG (eVar 0)) (bTup 2 (bCons (bName 4) (bCons (bName 5) bNil))) (b0_most_broken k_Corner))
  (sRet (eVar 2)))))
noncomputable def f_most_broken (k_Corner : Addr) : List FT.T → Mem → Out FT.T := runDef 2 7 (g_most_broken k_Corner)
section
variable {P : Program} {w : World} {K : PySem.W.Frag} {mg : Str → Option Value} {base : Heap} {k_Corner : Addr}
theorem sc_most_broken : FnScope ["every", "corner", "worst", "worst_lack", "number", "demand", "lack"] ["every", "corner"] (defScope s_most_broken) := ⟨rfl, rfl, rfl, by decide +kernel, rfl, by decide +kernel, by decide +kernel⟩
theorem c_most_broken (D : Df K mg "most_broken" s_most_broken ["every", "corner"]) (T : Txt K mg k_Corner) (c_lack_of : CalT P w K mg base 1 "lack_of" ["demand", "corner"] (f_lack_of k_Corner)) : CalT P w K mg base 2 "most_broken" ["every", "corner"] (f_most_broken k_Corner) :=
  wcal_mk D sc_most_broken rfl rfl (fun f cdv A outer s H E hr => (wgss_cons (wgs_set (i := 2) sc_most_broken.nd rfl (Or.inl rfl) wge_non)
    (wgss_cons (wgs_set (i := 3) sc_most_broken.nd rfl (Or.inl rfl) wge_int)
    (wgss_cons (wgs_forG PassesOwn.never rfl (wgi_enumG rfl T.n_enumerate (wge_var (pv 0))) (wgg_tup (pg_tup rfl (WGs.pe (wggs_cons (pgs_cons (WG.pe (wgg_name (pg_name (i := 4) sc_most_broken.nd rfl (by first | exact Or.inl rfl | exact Or.inr rfl)))) (WGs.pe (wggs_cons (pgs_cons (WG.pe (wgg_name (pg_name (i := 5) sc_most_broken.nd rfl (by first | exact Or.inl rfl | exact Or.inr rfl)))) (WGs.pe wggs_nil))))))))) (wgss_cons (wgs_set (i := 6) sc_most_broken.nd rfl (Or.inl rfl) (wge_cal c_lack_of (hr.mono (by decide)) rfl (wga_cons (wge_var (pv 5)) (wga_cons (wge_var (pv 1)) wga_nil))))
    (wgss_one (wgs_if (WW.gt (wgw_and (wgt_cmp op_gtI (wge_var (pv 6)) wge_int (nomark _)) (wgw_and1 (WW.gt (wgw_or (wgt_cmp op_isNT (wge_var (pv 2)) wge_non (nomark _)) (wgw_or1 (wgt_cmp op_gtI (wge_op op_mulA (wge_op op_mulA (wge_var (pv 6)) (wge_var (pv 6))) (wge_ix ix_T (wge_ix ix_T (wge_var (pv 0)) (wge_var (pv 2)) (fun _ _ => rfl)) wge_int (fun _ _ => rfl))) (wge_op op_mulA (wge_op op_mulA (wge_var (pv 3)) (wge_var (pv 3))) (wge_ix ix_T (wge_var (pv 5)) wge_int (fun _ _ => rfl))) (nomark _)))))))) (wgss_cons (wgs_set (i := 2) sc_most_broken.nd rfl (Or.inl rfl) (wge_var (pv 4)))
    (wgss_one (wgs_set (i := 3) sc_most_broken.nd rfl (Or.inl rfl) (wge_var (pv 6))))) wgss_nil))))
    (wgss_one (wgs_ret (wge_var (pv 2))))))))
end
end My
namespace My
open PySem L2 FT
noncomputable def g_gains_of (k_Corner : Addr) : Ev → Mem → Out Fl :=
  (sSeq (sSet 2 (eOp ixT (eVar 1) (eC (.int 0))))
  (sRet (eFz (lCompG (iSeqG (eFld [k_Corner] "lines" (eVar 0))) (bName 0) tYes (eCall (call1 sumK) (aCons (eFz (lComp (iSeq (eVar 1)) (bTup 2 (bCons (bName 0) (bCons (bName 1) bNil))) tYes (eOp mulA (eVar 1) (eOp ixT (eVar 2) (eOp addA (eC (.int 2)) (eVar 0)))) ["unknown", "number"] [("line", 0)])) aNil)) ["line"] [("parts", 2)]))))
noncomputable def f_gains_of (k_Corner : Addr) : List FT.T → Mem → Out FT.T := runDef 2 3 (g_gains_of k_Corner)
section
variable {P : Program} {w : World} {K : PySem.W.Frag} {mg : Str → Option Value} {base : Heap} {k_Corner : Addr}
theorem sc_gains_of : FnScope ["corner", "demand", "parts"] ["corner", "demand"] (defScope s_gains_of) := ⟨rfl, rfl, rfl, by decide +kernel, rfl, by decide +kernel, by decide +kernel⟩
theorem c_gains_of (D : Df K mg "gains_of" s_gains_of ["corner", "demand"]) (T : Txt K mg k_Corner)  : CalT P w K mg base 1 "gains_of" ["corner", "demand"] (f_gains_of k_Corner) :=
  wcal_mk D sc_gains_of rfl rfl (fun f cdv A outer s H E hr => (wgss_cons (wgs_set (i := 2) sc_gains_of.nd rfl (Or.inr rfl) (wge_ix ix_T (wge_var (pv 1)) wge_int (fun _ _ => rfl)))
    (wgss_one (wgs_ret (wge_fz (wgl_compG (tgs := ["line"]) (caps := [("parts", 2)]) rfl (wgi_seqG (wge_fld (forC_cons ⟨T.cls_Corner, T.na_Corner_lines⟩ forC_nil) (wge_var (pv 0)))) rfl (by decide +kernel) rfl (by decide +kernel) (by first | exact (fun _ _ h => h) | exact look_sub (by repeat (first | exact True.intro | refine ⟨rfl, ?_⟩))) (fun _ => has_of (by repeat (first | exact True.intro | (refine ⟨?_, ?_⟩; first | exact (fun _ => ⟨_, rfl⟩) | exact (fun h => h.elim (fun h => nomatch h) (fun h => nomatch h)))))) (by intro c hc; cases hc with | head => exact ⟨rfl, rfl, by first | exact .inl rfl | exact .inr rfl⟩ | tail _ hc => (cases hc)) (fun _ _ _ => (wgg_name (pg_name (i := 0) (show (["line", "parts"] : List Str).Nodup by decide +kernel) rfl (by first | exact Or.inl rfl | exact Or.inr rfl)))) (fun _ _ _ => wgts_nil) (fun _ _ _ => (wge_callB (call_sumK rfl) rfl T.n_sum boot_sum (wga_cons (wge_fz (wgl_comp (tgs := ["unknown", "number"]) (caps := [("line", 0)]) rfl (wgi_seq (wge_var (pv 1))) rfl (by decide +kernel) rfl (by decide +kernel) (by first | exact (fun _ _ h => h) | exact look_sub (by repeat (first | exact True.intro | refine ⟨rfl, ?_⟩))) (fun _ => has_of (by repeat (first | exact True.intro | (refine ⟨?_, ?_⟩; first | exact (fun _ => ⟨_, rfl⟩) | exact (fun h => h.elim (fun h => nomatch h) (fun h => nomatch h)))))) (by intro c hc; cases hc with | head => exact ⟨rfl, rfl, by first | exact .inl rfl | exact .inr rfl⟩ | tail _ hc => (cases hc)) (fun _ _ _ => (wgg_tup (pg_tup rfl (WGs.pe (wggs_cons (pgs_cons (WG.pe (wgg_name (pg_name (i := 0) (show (["unknown", "number", "line"] : List Str).Nodup by decide +kernel) rfl (by first | exact Or.inl rfl | exact Or.inr rfl)))) (WGs.pe (wggs_cons (pgs_cons (WG.pe (wgg_name (pg_name (i := 1) (show (["unknown", "number", "line"] : List Str).Nodup by decide +kernel) rfl (by first | exact Or.inl rfl | exact Or.inr rfl)))) (WGs.pe wggs_nil)))))))))) (fun _ _ _ => wgts_nil) (fun _ _ _ => (wge_op op_mulA (wge_var (pv 1)) (wge_ix ix_T (wge_var (pv 2)) (wge_op op_addA (wge_globE rfl T.c_AHEAD) (wge_var (pv 0))) (fun _ _ => rfl)))))) wga_nil)))))))))
end
end My
namespace My
open PySem L2 FT
noncomputable def b0_is_cheaper (k_Corner : Addr) : Ev → Mem → Out Fl :=
  (sSeq (sSet 6 (eOp subI (eOp mulA (eVar 4) (eVar 3)) (eOp mulA (eVar 5) (eVar 1))))
  (sIf (tVal (eOp neA (eVar 6) (eC (.int 0)))) (sRet (eOp ltI (eVar 6) (eC (.int 0)))) sNil))
noncomputable def g_is_cheaper (k_Corner : Addr) : Ev → Mem → Out Fl :=
  (sSeq (sForG (FT.iZipX (aCons (eVar 0) (aCons (eVar 2) aNil))) (bTup 2 (bCons (bName 4) (bCons (bName 5) bNil))) (b0_is_cheaper k_Corner))
  (sRet (eC (.bl false))))
noncomputable def f_is_cheaper (k_Corner : Addr) : List FT.T → Mem → Out FT.T := runDef 4 7 (g_is_cheaper k_Corner)
section
variable {P : Program} {w : World} {K : PySem.W.Frag} {mg : Str → Option Value} {base : Heap} {k_Corner : Addr}
theorem sc_is_cheaper : FnScope ["line", "gain", "other", "other_gain", "number", "other_number", "difference"] ["line", "gain", "other", "other_gain"] (defScope s_is_cheaper) := ⟨rfl, rfl, rfl, by decide +kernel, rfl, by decide +kernel, by decide +kernel⟩
theorem c_is_cheaper (D : Df K mg "is_cheaper" s_is_cheaper ["line", "gain", "other", "other_gain"]) (T : Txt K mg k_Corner)  : CalT P w K mg base 1 "is_cheaper" ["line", "gain", "other", "other_gain"] (f_is_cheaper k_Corner) :=
  wcal_mk D sc_is_cheaper rfl rfl (fun f cdv A outer s H E hr => (wgss_cons (wgs_forG PassesOwn.never rfl (wgi_zipX rfl T.n_zip (wga_cons (wge_var (pv 0)) (wga_cons (wge_var (pv 2)) wga_nil))) (wgg_tup (pg_tup rfl (WGs.pe (wggs_cons (pgs_cons (WG.pe (wgg_name (pg_name (i := 4) sc_is_cheaper.nd rfl (by first | exact Or.inl rfl | exact Or.inr rfl)))) (WGs.pe (wggs_cons (pgs_cons (WG.pe (wgg_name (pg_name (i := 5) sc_is_cheaper.nd rfl (by first | exact Or.inl rfl | exact Or.inr rfl)))) (WGs.pe wggs_nil))))))))) (wgss_cons (wgs_set (i := 6) sc_is_cheaper.nd rfl (Or.inl rfl) (wge_op op_subI (wge_op op_mulA (wge_var (pv 4)) (wge_var (pv 3))) (wge_op op_mulA (wge_var (pv 5)) (wge_var (pv 1)))))
    (wgss_one (wgs_if (wgt_cmp (op_neA hr.units) (wge_var (pv 6)) wge_int (nomark _)) (wgss_one (wgs_ret (wge_cmp op_ltI (wge_var (pv 6)) wge_int (nomark _)))) wgss_nil))))
    (wgss_one (wgs_ret wge_bl))))
end
end My
namespace My
open PySem L2 FT
noncomputable def b0_cheapest (k_Corner : Addr) : Ev → Mem → Out Fl :=
  (sIf (tAndF (tVal (eOp gtI (eVar 4) (eC (.int 0)))) (tOrF (tVal (eOp isN (eVar 2) (eC .non))) (tVal (eCall (f_is_cheaper k_Corner) (aCons (eOp ixT (eVar 0) (eVar 3)) (aCons (eVar 4) (aCons (eOp ixT (eVar 0) (eVar 2)) (aCons (eOp ixT (eVar 1) (eVar 2)) aNil)))))))) (sSet 2 (eVar 3)) sNil)
noncomputable def g_cheapest (k_Corner : Addr) : Ev → Mem → Out Fl :=
  (sSeq (sSet 2 (eC .non))
  (sSeq (sForG (iEnumG (eVar 1)) (bTup 2 (bCons (bName 3) (bCons (bName 4) bNil))) (b0_cheapest k_Corner))
  (sRet (eVar 2))))
noncomputable def f_cheapest (k_Corner : Addr) : List FT.T → Mem → Out FT.T := runDef 2 5 (g_cheapest k_Corner)
section
variable {P : Program} {w : World} {K : PySem.W.Frag} {mg : Str → Option Value} {base : Heap} {k_Corner : Addr}
theorem sc_cheapest : FnScope ["lines", "gains", "best", "place", "gain"] ["lines", "gains"] (defScope s_cheapest) := ⟨rfl, rfl, rfl, by decide +kernel, rfl, by decide +kernel, by decide +kernel⟩
theorem c_cheapest (D : Df K mg "cheapest" s_cheapest ["lines", "gains"]) (T : Txt K mg k_Corner) (c_is_cheaper : CalT P w K mg base 1 "is_cheaper" ["line", "gain", "other", "other_gain"] (f_is_cheaper k_Corner)) : CalT P w K mg base 2 "cheapest" ["lines", "gains"] (f_cheapest k_Corner) :=
  wcal_mk D sc_cheapest rfl rfl (fun f cdv A outer s H E hr => (wgss_cons (wgs_set (i := 2) sc_cheapest.nd rfl (Or.inl rfl) wge_non)
    (wgss_cons (wgs_forG PassesOwn.never rfl (wgi_enumG rfl T.n_enumerate (wge_var (pv 1))) (wgg_tup (pg_tup rfl (WGs.pe (wggs_cons (pgs_cons (WG.pe (wgg_name (pg_name (i := 3) sc_cheapest.nd rfl (by first | exact Or.inl rfl | exact Or.inr rfl)))) (WGs.pe (wggs_cons (pgs_cons (WG.pe (wgg_name (pg_name (i := 4) sc_cheapest.nd rfl (by first | exact Or.inl rfl | exact Or.inr rfl)))) (WGs.pe wggs_nil))))))))) (wgss_one (wgs_if (WW.gt (wgw_and (wgt_cmp op_gtI (wge_var (pv 4)) wge_int (nomark _)) (wgw_and1 (WW.gt (wgw_or (wgt_cmp op_isNT (wge_var (pv 2)) wge_non (nomark _)) (wgw_or1 (wgt_val (wge_cal c_is_cheaper (hr.mono (by decide)) rfl (wga_cons (wge_ix ix_T (wge_var (pv 0)) (wge_var (pv 3)) (fun _ _ => rfl)) (wga_cons (wge_var (pv 4)) (wga_cons (wge_ix ix_T (wge_var (pv 0)) (wge_var (pv 2)) (fun _ _ => rfl)) (wga_cons (wge_ix ix_T (wge_var (pv 1)) (wge_var (pv 2)) (fun _ _ => rfl)) wga_nil)))))))))))) (wgss_one (wgs_set (i := 2) sc_cheapest.nd rfl (Or.inl rfl) (wge_var (pv 3)))) wgss_nil)))
    (wgss_one (wgs_ret (wge_var (pv 2)))))))
end
end My
namespace My
open PySem L2 FT
noncomputable def g_blended (k_Corner : Addr) : Ev → Mem → Out Fl :=
  (sRet (eFz (lCompG (FT.iZipX (aCons (eVar 0) (aCons (eVar 2) aNil))) (bTup 2 (bCons (bName 0) (bCons (bName 1) bNil))) tYes (eOp divI (eOp subI (eOp mulA (eVar 2) (eVar 0)) (eOp mulA (eVar 3) (eVar 1))) (eVar 4)) ["number", "other"] [("factor", 1), ("other_factor", 3), ("bottom", 4)])))
noncomputable def f_blended (k_Corner : Addr) : List FT.T → Mem → Out FT.T := runDef 5 5 (g_blended k_Corner)
section
variable {P : Program} {w : World} {K : PySem.W.Frag} {mg : Str → Option Value} {base : Heap} {k_Corner : Addr}
theorem sc_blended : FnScope ["numbers", "factor", "others", "other_factor", "bottom"] ["numbers", "factor", "others", "other_factor", "bottom"] (defScope s_blended) := ⟨rfl, rfl, rfl, by decide +kernel, rfl, by decide +kernel, by decide +kernel⟩
theorem c_blended (D : Df K mg "blended" s_blended ["numbers", "factor", "others", "other_factor", "bottom"]) (T : Txt K mg k_Corner)  : CalT P w K mg base 1 "blended" ["numbers", "factor", "others", "other_factor", "bottom"] (f_blended k_Corner) :=
  wcal_mk D sc_blended rfl rfl (fun f cdv A outer s H E hr => (wgss_one (wgs_ret (wge_fz (wgl_compG (tgs := ["number", "other"]) (caps := [("factor", 1), ("other_factor", 3), ("bottom", 4)]) rfl (wgi_zipX rfl T.n_zip (wga_cons (wge_var (pv 0)) (wga_cons (wge_var (pv 2)) wga_nil))) rfl (by decide +kernel) rfl (by decide +kernel) (by first | exact (fun _ _ h => h) | exact look_sub (by repeat (first | exact True.intro | refine ⟨rfl, ?_⟩))) (fun _ => has_of (by repeat (first | exact True.intro | (refine ⟨?_, ?_⟩; first | exact (fun _ => ⟨_, rfl⟩) | exact (fun h => h.elim (fun h => nomatch h) (fun h => nomatch h)))))) (by intro c hc; cases hc with | head => exact ⟨rfl, rfl, by first | exact .inl rfl | exact .inr rfl⟩ | tail _ hc => (cases hc with | head => exact ⟨rfl, rfl, by first | exact .inl rfl | exact .inr rfl⟩ | tail _ hc => (cases hc with | head => exact ⟨rfl, rfl, by first | exact .inl rfl | exact .inr rfl⟩ | tail _ hc => (cases hc)))) (fun _ _ _ => (wgg_tup (pg_tup rfl (WGs.pe (wggs_cons (pgs_cons (WG.pe (wgg_name (pg_name (i := 0) (show (["number", "other", "factor", "other_factor", "bottom"] : List Str).Nodup by decide +kernel) rfl (by first | exact Or.inl rfl | exact Or.inr rfl)))) (WGs.pe (wggs_cons (pgs_cons (WG.pe (wgg_name (pg_name (i := 1) (show (["number", "other", "factor", "other_factor", "bottom"] : List Str).Nodup by decide +kernel) rfl (by first | exact Or.inl rfl | exact Or.inr rfl)))) (WGs.pe wggs_nil)))))))))) (fun _ _ _ => wgts_nil) (fun _ _ _ => (wge_op op_divI (wge_op op_subI (wge_op op_mulA (wge_var (pv 2)) (wge_var (pv 0))) (wge_op op_mulA (wge_var (pv 3)) (wge_var (pv 1)))) (wge_var (pv 4)))))))))
end
end My
namespace My
open PySem L2 FT
noncomputable def g_moved_corner (k_Corner : Addr) : Ev → Mem → Out Fl :=
  (sSeq (sSet 5 (eOp ixT (eVar 1) (eVar 2)))
  (sSeq (sSet 6 (eOp ixT (eFld [k_Corner] "lines" (eVar 0)) (eVar 2)))
  (sSeq (sSet 7 (eTk (lCompG (iEnumG (eFld [k_Corner] "lines" (eVar 0))) (bTup 2 (bCons (bName 0) (bCons (bName 1) bNil))) tYes (eCall (f_blended k_Corner) (aCons (eVar 1) (aCons (eVar 2) (aCons (eVar 3) (aCons (eOp ixT (eVar 4) (eVar 0)) (aCons (eFld [k_Corner] "bottom" (eVar 5)) aNil)))))) ["at", "other"] [("gain", 5), ("line", 6), ("gains", 1), ("corner", 0)])))
  (sSeq (sAsg (eVar 6) (bSub setT (eVar 7) (eVar 2)))
  (sSeq (sSet 8 (eCall (f_blended k_Corner) (aCons (eFld [k_Corner] "point" (eVar 0)) (aCons (eVar 5) (aCons (eSl (eVar 6) (oSome (eC (.int 2))) oNone) (aCons (eUn negI (eVar 4)) (aCons (eFld [k_Corner] "bottom" (eVar 0)) aNil)))))))
  (sSeq (sSet 9 (eTk (lCall listK (aCons (eFld [k_Corner] "chosen" (eVar 0)) aNil))))
  (sSeq (sAsg (eVar 3) (bSub setT (eVar 9) (eVar 2)))
  (sRet (eMake k_Corner (f_Corner_init k_Corner) (aCons (eVar 9) (aCons (eVar 8) (aCons (eVar 7) (aCons (eVar 5) aNil)))))))))))))
noncomputable def f_moved_corner (k_Corner : Addr) : List FT.T → Mem → Out FT.T := runDef 5 10 (g_moved_corner k_Corner)
section
variable {P : Program} {w : World} {K : PySem.W.Frag} {mg : Str → Option Value} {base : Heap} {k_Corner : Addr}
theorem sc_moved_corner : FnScope ["corner", "gains", "place", "number", "lack", "gain", "line", "lines", "point", "chosen"] ["corner", "gains", "place", "number", "lack"] (defScope s_moved_corner) := ⟨rfl, rfl, rfl, by decide +kernel, rfl, by decide +kernel, by decide +kernel⟩
theorem c_moved_corner (D : Df K mg "moved_corner" s_moved_corner ["corner", "gains", "place", "number", "lack"]) (T : Txt K mg k_Corner) (c_blended : CalT P w K mg base 1 "blended" ["numbers", "factor", "others", "other_factor", "bottom"] (f_blended k_Corner)) (m_Corner : MakT P w K mg base 1 "Corner" k_Corner ["self", "chosen", "point", "lines", "bottom"] (f_Corner_init k_Corner)) : CalT P w K mg base 3 "moved_corner" ["corner", "gains", "place", "number", "lack"] (f_moved_corner k_Corner) :=
  wcal_mk D sc_moved_corner rfl rfl (fun f cdv A outer s H E hr => (wgss_cons (wgs_set (i := 5) sc_moved_corner.nd rfl (Or.inr rfl) (wge_ix ix_T (wge_var (pv 1)) (wge_var (pv 2)) (fun _ _ => rfl)))
    (wgss_cons (wgs_set (i := 6) sc_moved_corner.nd rfl (Or.inr rfl) (wge_ix ix_T (wge_fld (forC_cons ⟨T.cls_Corner, T.na_Corner_lines⟩ forC_nil) (wge_var (pv 0))) (wge_var (pv 2)) (fun _ _ => rfl)))
    (wgss_cons (wgs_setCompGT (i0 := 7) (tgs := ["at", "other"]) (caps := [("gain", 5), ("line", 6), ("gains", 1), ("corner", 0)]) rfl (wgi_enumG rfl T.n_enumerate (wge_fld (forC_cons ⟨T.cls_Corner, T.na_Corner_lines⟩ forC_nil) (wge_var (pv 0)))) rfl (by decide +kernel) rfl (by decide +kernel) (by first | exact (fun _ _ h => h) | exact look_sub (by repeat (first | exact True.intro | refine ⟨rfl, ?_⟩))) (fun _ => has_of (by repeat (first | exact True.intro | (refine ⟨?_, ?_⟩; first | exact (fun _ => ⟨_, rfl⟩) | exact (fun h => h.elim (fun h => nomatch h) (fun h => nomatch h)))))) (by intro c hc; cases hc with | head => exact ⟨rfl, rfl, by first | exact .inl rfl | exact .inr rfl⟩ | tail _ hc => (cases hc with | head => exact ⟨rfl, rfl, by first | exact .inl rfl | exact .inr rfl⟩ | tail _ hc => (cases hc with | head => exact ⟨rfl, rfl, by first | exact .inl rfl | exact .inr rfl⟩ | tail _ hc => (cases hc with | head => exact ⟨rfl, rfl, by first | exact .inl rfl | exact .inr rfl⟩ | tail _ hc => (cases hc))))) (fun _ _ _ => (wgg_tup (pg_tup rfl (WGs.pe (wggs_cons (pgs_cons (WG.pe (wgg_name (pg_name (i := 0) (show (["at", "other", "gain", "line", "gains", "corner"] : List Str).Nodup by decide +kernel) rfl (by first | exact Or.inl rfl | exact Or.inr rfl)))) (WGs.pe (wggs_cons (pgs_cons (WG.pe (wgg_name (pg_name (i := 1) (show (["at", "other", "gain", "line", "gains", "corner"] : List Str).Nodup by decide +kernel) rfl (by first | exact Or.inl rfl | exact Or.inr rfl)))) (WGs.pe wggs_nil)))))))))) (fun _ _ _ => wgts_nil) (fun _ _ _ => (wge_cal c_blended (hr.mono (by decide)) rfl (wga_cons (wge_var (pv 1)) (wga_cons (wge_var (pv 2)) (wga_cons (wge_var (pv 3)) (wga_cons (wge_ix ix_T (wge_var (pv 4)) (wge_var (pv 0)) (fun _ _ => rfl)) (wga_cons (wge_fld (forC_cons ⟨T.cls_Corner, T.na_Corner_bottom⟩ forC_nil) (wge_var (pv 5))) wga_nil))))))) sc_moved_corner.nd rfl (Or.inl rfl))
    (wgss_cons (wgs_asg (wge_var (pv 6)) (wgg_sub (wge_var (pv 7)) (wge_var (pv 2)) set_T))
    (wgss_cons (wgs_set (i := 8) sc_moved_corner.nd rfl (Or.inl rfl) (wge_cal c_blended (hr.mono (by decide)) rfl (wga_cons (wge_fld (forC_cons ⟨T.cls_Corner, T.na_Corner_point⟩ forC_nil) (wge_var (pv 0))) (wga_cons (wge_var (pv 5)) (wga_cons (wge_sl (wge_var (pv 6)) (wgo_some (wge_globE rfl T.c_AHEAD)) wgo_none) (wga_cons (wge_un un_negI (wge_var (pv 4))) (wga_cons (wge_fld (forC_cons ⟨T.cls_Corner, T.na_Corner_bottom⟩ forC_nil) (wge_var (pv 0))) wga_nil)))))))
    (wgss_cons (wgs_set (i := 9) sc_moved_corner.nd rfl (Or.inl rfl) (wge_tk (wgl_callTy call_listK rfl T.n_list boot_list (wga_cons (wge_fld (forC_cons ⟨T.cls_Corner, T.na_Corner_chosen⟩ forC_nil) (wge_var (pv 0))) wga_nil))))
    (wgss_cons (wgs_asg (wge_var (pv 3)) (wgg_sub (wge_var (pv 9)) (wge_var (pv 2)) set_T))
    (wgss_one (wgs_ret (wge_make m_Corner (hr.mono (by decide)) rfl (wga_cons (wge_var (pv 9)) (wga_cons (wge_var (pv 8)) (wga_cons (wge_var (pv 7)) (wga_cons (wge_var (pv 5)) wga_nil)))))))))))))))
end
end My
namespace My
open PySem L2 FT
noncomputable def b0_shares_of (k_Corner : Addr) : Ev → Mem → Out Fl :=
  (sIf (tVal (eOp ltI (eVar 5) (eVar 0))) (sAsg (eCall (f_lowest k_Corner) (aCons (eVar 6) (aCons (eVar 3) aNil))) (bSub setT (eVar 4) (eVar 5))) sNil)
noncomputable def g_shares_of (k_Corner : Addr) : Ev → Mem → Out Fl :=
  (sSeq (sSet 4 (eTk (lComp (iRange1 (aCons (eVar 0) aNil)) (bName 0) tYes (eTup (aCons (eC (.int 0)) (aCons (eC (.int 1)) aNil))) ["number"] [])))
  (sSeq (sForG (FT.iZipX (aCons (eVar 1) (aCons (eVar 2) aNil))) (bTup 2 (bCons (bName 5) (bCons (bName 6) bNil))) (b0_shares_of k_Corner))
  (sRet (eCall (call1 tupleK) (aCons (eVar 4) aNil)))))
noncomputable def f_shares_of (k_Corner : Addr) : List FT.T → Mem → Out FT.T := runDef 4 7 (g_shares_of k_Corner)
section
variable {P : Program} {w : World} {K : PySem.W.Frag} {mg : Str → Option Value} {base : Heap} {k_Corner : Addr}
theorem sc_shares_of : FnScope ["demand_count", "chosen", "tops", "bottom", "shares", "number", "top"] ["demand_count", "chosen", "tops", "bottom"] (defScope s_shares_of) := ⟨rfl, rfl, rfl, by decide +kernel, rfl, by decide +kernel, by decide +kernel⟩
theorem c_shares_of (D : Df K mg "shares_of" s_shares_of ["demand_count", "chosen", "tops", "bottom"]) (T : Txt K mg k_Corner) (c_lowest : CalT P w K mg base 2 "lowest" ["top", "bottom"] (f_lowest k_Corner)) : CalT P w K mg base 3 "shares_of" ["demand_count", "chosen", "tops", "bottom"] (f_shares_of k_Corner) :=
  wcal_mk D sc_shares_of rfl rfl (fun f cdv A outer s H E hr => (wgss_cons (wgs_setCompT (i0 := 4) (tgs := ["number"]) (caps := []) rfl (wgi_range1 rfl T.n_range (wga_cons (wge_var (pv 0)) wga_nil)) rfl (by decide +kernel) rfl (by decide +kernel) (by first | exact (fun _ _ h => h) | exact look_sub (by repeat (first | exact True.intro | refine ⟨rfl, ?_⟩))) (fun _ => has_of (by repeat (first | exact True.intro | (refine ⟨?_, ?_⟩; first | exact (fun _ => ⟨_, rfl⟩) | exact (fun h => h.elim (fun h => nomatch h) (fun h => nomatch h)))))) (by intro c hc; cases hc) (fun _ _ _ => (wgg_name (pg_name (i := 0) (show (["number"] : List Str).Nodup by decide +kernel) rfl (by first | exact Or.inl rfl | exact Or.inr rfl)))) (fun _ _ _ => wgts_nil) (fun _ _ _ => (wge_tup (wga_cons wge_int (wga_cons wge_int wga_nil)))) sc_shares_of.nd rfl (Or.inl rfl))
    (wgss_cons (wgs_forG PassesOwn.never rfl (wgi_zipX rfl T.n_zip (wga_cons (wge_var (pv 1)) (wga_cons (wge_var (pv 2)) wga_nil))) (wgg_tup (pg_tup rfl (WGs.pe (wggs_cons (pgs_cons (WG.pe (wgg_name (pg_name (i := 5) sc_shares_of.nd rfl (by first | exact Or.inl rfl | exact Or.inr rfl)))) (WGs.pe (wggs_cons (pgs_cons (WG.pe (wgg_name (pg_name (i := 6) sc_shares_of.nd rfl (by first | exact Or.inl rfl | exact Or.inr rfl)))) (WGs.pe wggs_nil))))))))) (wgss_one (wgs_if (wgt_cmp op_ltI (wge_var (pv 5)) (wge_var (pv 0)) (nomark _)) (wgss_one (wgs_asg (wge_cal c_lowest (hr.mono (by decide)) rfl (wga_cons (wge_var (pv 6)) (wga_cons (wge_var (pv 3)) wga_nil))) (wgg_sub (wge_var (pv 4)) (wge_var (pv 5)) set_T))) wgss_nil)))
    (wgss_one (wgs_ret (wge_callTy call_tupleK rfl T.n_tuple boot_tuple (wga_cons (wge_var (pv 4)) wga_nil)))))))
end
end My
namespace My
open PySem L2 FT
noncomputable def g_least_told (k_Corner : Addr) : Ev → Mem → Out Fl :=
  (sSeq (sSet 2 (eFz (lCompG (iSeqG (eFld [k_Corner] "point" (eVar 1))) (bName 0) tYes (eCall (f_lowest k_Corner) (aCons (eVar 0) (aCons (eFld [k_Corner] "bottom" (eVar 1)) aNil))) ["top"] [("corner", 1)])))
  (sSeq (sSet 3 (eCall (f_shares_of k_Corner) (aCons (eVar 0) (aCons (eFld [k_Corner] "chosen" (eVar 1)) (aCons (eFz (lCompG (iSeqG (eFld [k_Corner] "lines" (eVar 1))) (bName 0) tYes (eOp ixT (eVar 0) (eC (.int 0))) ["line"] [])) (aCons (eFld [k_Corner] "bottom" (eVar 1)) aNil))))))
  (sRet (eTup (aCons (eC (.str "least")) (aCons (eCall (call1 tupleK) (aCons (eVar 2) aNil)) (aCons (eVar 3) aNil)))))))
noncomputable def f_least_told (k_Corner : Addr) : List FT.T → Mem → Out FT.T := runDef 2 4 (g_least_told k_Corner)
section
variable {P : Program} {w : World} {K : PySem.W.Frag} {mg : Str → Option Value} {base : Heap} {k_Corner : Addr}
theorem sc_least_told : FnScope ["demand_count", "corner", "point", "shares"] ["demand_count", "corner"] (defScope s_least_told) := ⟨rfl, rfl, rfl, by decide +kernel, rfl, by decide +kernel, by decide +kernel⟩
theorem c_least_told (D : Df K mg "least_told" s_least_told ["demand_count", "corner"]) (T : Txt K mg k_Corner) (c_shares_of : CalT P w K mg base 3 "shares_of" ["demand_count", "chosen", "tops", "bottom"] (f_shares_of k_Corner)) (c_lowest : CalT P w K mg base 2 "lowest" ["top", "bottom"] (f_lowest k_Corner)) : CalT P w K mg base 4 "least_told" ["demand_count", "corner"] (f_least_told k_Corner) :=
  wcal_mk D sc_least_told rfl rfl (fun f cdv A outer s H E hr => (wgss_cons (wgs_setCompGF (i0 := 2) (tgs := ["top"]) (caps := [("corner", 1)]) rfl (wgi_seqG (wge_fld (forC_cons ⟨T.cls_Corner, T.na_Corner_point⟩ forC_nil) (wge_var (pv 1)))) rfl (by decide +kernel) rfl (by decide +kernel) (by first | exact (fun _ _ h => h) | exact look_sub (by repeat (first | exact True.intro | refine ⟨rfl, ?_⟩))) (fun _ => has_of (by repeat (first | exact True.intro | (refine ⟨?_, ?_⟩; first | exact (fun _ => ⟨_, rfl⟩) | exact (fun h => h.elim (fun h => nomatch h) (fun h => nomatch h)))))) (by intro c hc; cases hc with | head => exact ⟨rfl, rfl, by first | exact .inl rfl | exact .inr rfl⟩ | tail _ hc => (cases hc)) (fun _ _ _ => (wgg_name (pg_name (i := 0) (show (["top", "corner"] : List Str).Nodup by decide +kernel) rfl (by first | exact Or.inl rfl | exact Or.inr rfl)))) (fun _ _ _ => wgts_nil) (fun _ _ _ => (wge_cal c_lowest (hr.mono (by decide)) rfl (wga_cons (wge_var (pv 0)) (wga_cons (wge_fld (forC_cons ⟨T.cls_Corner, T.na_Corner_bottom⟩ forC_nil) (wge_var (pv 1))) wga_nil)))) sc_least_told.nd rfl (Or.inl rfl))
    (wgss_cons (wgs_set (i := 3) sc_least_told.nd rfl (Or.inl rfl) (wge_cal c_shares_of (hr.mono (by decide)) rfl (wga_cons (wge_var (pv 0)) (wga_cons (wge_fld (forC_cons ⟨T.cls_Corner, T.na_Corner_chosen⟩ forC_nil) (wge_var (pv 1))) (wga_cons (wge_fz (wgl_compG (tgs := ["line"]) (caps := []) rfl (wgi_seqG (wge_fld (forC_cons ⟨T.cls_Corner, T.na_Corner_lines⟩ forC_nil) (wge_var (pv 1)))) rfl (by decide +kernel) rfl (by decide +kernel) (by first | exact (fun _ _ h => h) | exact look_sub (by repeat (first | exact True.intro | refine ⟨rfl, ?_⟩))) (fun _ => has_of (by repeat (first | exact True.intro | (refine ⟨?_, ?_⟩; first | exact (fun _ => ⟨_, rfl⟩) | exact (fun h => h.elim (fun h => nomatch h) (fun h => nomatch h)))))) (by intro c hc; cases hc) (fun _ _ _ => (wgg_name (pg_name (i := 0) (show (["line"] : List Str).Nodup by decide +kernel) rfl (by first | exact Or.inl rfl | exact Or.inr rfl)))) (fun _ _ _ => wgts_nil) (fun _ _ _ => (wge_ix ix_T (wge_var (pv 0)) wge_int (fun _ _ => rfl))))) (wga_cons (wge_fld (forC_cons ⟨T.cls_Corner, T.na_Corner_bottom⟩ forC_nil) (wge_var (pv 1))) wga_nil))))))
    (wgss_one (wgs_ret (wge_tup (wga_cons wge_str (wga_cons (wge_callTy call_tupleK rfl T.n_tuple boot_tuple (wga_cons (wge_var (pv 2)) wga_nil)) (wga_cons (wge_var (pv 3)) wga_nil)))))))))
end
end My
namespace My
open PySem L2 FT
noncomputable def g_never_told (k_Corner : Addr) : Ev → Mem → Out Fl :=
  (sSeq (sSet 4 (eOp addA (eFld [k_Corner] "chosen" (eVar 1)) (eFz (lDisp (aCons (eVar 3) aNil)))))
  (sSeq (sSet 5 (eOp addA (eFz (lComp (iSeq (eVar 2)) (bName 0) tYes (eUn negI (eVar 0)) ["gain"] [])) (eFz (lDisp (aCons (eFld [k_Corner] "bottom" (eVar 1)) aNil)))))
  (sRet (eTup (aCons (eC (.str "never")) (aCons (eCall (f_shares_of k_Corner) (aCons (eVar 0) (aCons (eVar 4) (aCons (eVar 5) (aCons (eFld [k_Corner] "bottom" (eVar 1)) aNil))))) aNil))))))
noncomputable def f_never_told (k_Corner : Addr) : List FT.T → Mem → Out FT.T := runDef 4 6 (g_never_told k_Corner)
section
variable {P : Program} {w : World} {K : PySem.W.Frag} {mg : Str → Option Value} {base : Heap} {k_Corner : Addr}
theorem sc_never_told : FnScope ["demand_count", "corner", "gains", "broken", "chosen", "tops"] ["demand_count", "corner", "gains", "broken"] (defScope s_never_told) := ⟨rfl, rfl, rfl, by decide +kernel, rfl, by decide +kernel, by decide +kernel⟩
theorem c_never_told (D : Df K mg "never_told" s_never_told ["demand_count", "corner", "gains", "broken"]) (T : Txt K mg k_Corner) (c_shares_of : CalT P w K mg base 3 "shares_of" ["demand_count", "chosen", "tops", "bottom"] (f_shares_of k_Corner)) : CalT P w K mg base 4 "never_told" ["demand_count", "corner", "gains", "broken"] (f_never_told k_Corner) :=
  wcal_mk D sc_never_told rfl rfl (fun f cdv A outer s H E hr => (wgss_cons (wgs_set (i := 4) sc_never_told.nd rfl (Or.inl rfl) (wge_op op_addA (wge_fld (forC_cons ⟨T.cls_Corner, T.na_Corner_chosen⟩ forC_nil) (wge_var (pv 1))) (wge_fz (wgl_disp (wga_cons (wge_var (pv 3)) wga_nil)))))
    (wgss_cons (wgs_set (i := 5) sc_never_told.nd rfl (Or.inl rfl) (wge_op op_addA (wge_fz (wgl_comp (tgs := ["gain"]) (caps := []) rfl (wgi_seq (wge_var (pv 2))) rfl (by decide +kernel) rfl (by decide +kernel) (by first | exact (fun _ _ h => h) | exact look_sub (by repeat (first | exact True.intro | refine ⟨rfl, ?_⟩))) (fun _ => has_of (by repeat (first | exact True.intro | (refine ⟨?_, ?_⟩; first | exact (fun _ => ⟨_, rfl⟩) | exact (fun h => h.elim (fun h => nomatch h) (fun h => nomatch h)))))) (by intro c hc; cases hc) (fun _ _ _ => (wgg_name (pg_name (i := 0) (show (["gain"] : List Str).Nodup by decide +kernel) rfl (by first | exact Or.inl rfl | exact Or.inr rfl)))) (fun _ _ _ => wgts_nil) (fun _ _ _ => (wge_un un_negI (wge_var (pv 0)))))) (wge_fz (wgl_disp (wga_cons (wge_fld (forC_cons ⟨T.cls_Corner, T.na_Corner_bottom⟩ forC_nil) (wge_var (pv 1))) wga_nil)))))
    (wgss_one (wgs_ret (wge_tup (wga_cons wge_str (wga_cons (wge_cal c_shares_of (hr.mono (by decide)) rfl (wga_cons (wge_var (pv 0)) (wga_cons (wge_var (pv 4)) (wga_cons (wge_var (pv 5)) (wga_cons (wge_fld (forC_cons ⟨T.cls_Corner, T.na_Corner_bottom⟩ forC_nil) (wge_var (pv 1))) wga_nil))))) wga_nil))))))))
end
end My
namespace My
open PySem L2 FT
noncomputable def b0_least_sums (k_Corner : Addr) : Ev → Mem → Out Fl :=
  (sSeq (sSet 5 (eCall (f_gains_of k_Corner) (aCons (eVar 3) (aCons (eOp ixT (eVar 2) (eVar 4)) aNil))))
  (sSeq (sSet 6 (eCall (f_cheapest k_Corner) (aCons (eFld [k_Corner] "lines" (eVar 3)) (aCons (eVar 5) aNil))))
  (sSeq (sIf (tVal (eOp isN (eVar 6) (eC .non))) (sRet (eCall (f_never_told k_Corner) (aCons (eCall (call1 lenK) (aCons (eVar 0) aNil)) (aCons (eVar 3) (aCons (eVar 5) (aCons (eVar 4) aNil)))))) sNil)
  (sSeq (sSet 3 (eCall (f_moved_corner k_Corner) (aCons (eVar 3) (aCons (eVar 5) (aCons (eVar 6) (aCons (eVar 4) (aCons (eCall (f_lack_of k_Corner) (aCons (eOp ixT (eVar 2) (eVar 4)) (aCons (eVar 3) aNil))) aNil)))))))
  (sSet 4 (eCall (f_most_broken k_Corner) (aCons (eVar 2) (aCons (eVar 3) aNil))))))))
noncomputable def b1_least_sums (k_Corner : Addr) : Ev → Mem → Out Bool :=
  (tVal (eOp isntN (eVar 4) (eC .non)))
noncomputable def g_least_sums (k_Corner : Addr) : Ev → Mem → Out Fl :=
  (sSeq (sSet 2 (eCall (f_all_demands k_Corner) (aCons (eVar 0) (aCons (eCall (call1 lenK) (aCons (eVar 1) aNil)) aNil))))
  (sSeq (sSet 3 (eCall (f_first_corner k_Corner) (aCons (eCall (call1 lenK) (aCons (eVar 0) aNil)) (aCons (eVar 1) aNil))))
  (sSeq (sSet 4 (eCall (f_most_broken k_Corner) (aCons (eVar 2) (aCons (eVar 3) aNil))))
  (sSeq (sWhile (b1_least_sums k_Corner) (b0_least_sums k_Corner))
  (sRet (eCall (f_least_told k_Corner) (aCons (eCall (call1 lenK) (aCons (eVar 0) aNil)) (aCons (eVar 3) aNil))))))))
noncomputable def f_least_sums (k_Corner : Addr) : List FT.T → Mem → Out FT.T := runDef 2 7 (g_least_sums k_Corner)
section
variable {P : Program} {w : World} {K : PySem.W.Frag} {mg : Str → Option Value} {base : Heap} {k_Corner : Addr}
theorem sc_least_sums : FnScope ["demands", "aim", "every", "corner", "broken", "gains", "place"] ["demands", "aim"] (defScope s_least_sums) := ⟨rfl, rfl, rfl, by decide +kernel, rfl, by decide +kernel, by decide +kernel⟩
theorem c_least_sums (D : Df K mg "least_sums" s_least_sums ["demands", "aim"]) (T : Txt K mg k_Corner) (c_all_demands : CalT P w K mg base 1 "all_demands" ["demands", "size"] (f_all_demands k_Corner)) (c_first_corner : CalT P w K mg base 3 "first_corner" ["demand_count", "aim"] (f_first_corner k_Corner)) (c_most_broken : CalT P w K mg base 2 "most_broken" ["every", "corner"] (f_most_broken k_Corner)) (c_least_told : CalT P w K mg base 4 "least_told" ["demand_count", "corner"] (f_least_told k_Corner)) (c_gains_of : CalT P w K mg base 1 "gains_of" ["corner", "demand"] (f_gains_of k_Corner)) (c_cheapest : CalT P w K mg base 2 "cheapest" ["lines", "gains"] (f_cheapest k_Corner)) (c_moved_corner : CalT P w K mg base 3 "moved_corner" ["corner", "gains", "place", "number", "lack"] (f_moved_corner k_Corner)) (c_never_told : CalT P w K mg base 4 "never_told" ["demand_count", "corner", "gains", "broken"] (f_never_told k_Corner)) (c_lack_of : CalT P w K mg base 1 "lack_of" ["demand", "corner"] (f_lack_of k_Corner)) : CalT P w K mg base 5 "least_sums" ["demands", "aim"] (f_least_sums k_Corner) :=
  wcal_mk D sc_least_sums rfl rfl (fun f cdv A outer s H E hr => (wgss_cons (wgs_set (i := 2) sc_least_sums.nd rfl (Or.inl rfl) (wge_cal c_all_demands (hr.mono (by decide)) rfl (wga_cons (wge_var (pv 0)) (wga_cons (wge_callB call_lenK rfl T.n_len boot_len (wga_cons (wge_var (pv 1)) wga_nil)) wga_nil))))
    (wgss_cons (wgs_set (i := 3) sc_least_sums.nd rfl (Or.inl rfl) (wge_cal c_first_corner (hr.mono (by decide)) rfl (wga_cons (wge_callB call_lenK rfl T.n_len boot_len (wga_cons (wge_var (pv 0)) wga_nil)) (wga_cons (wge_var (pv 1)) wga_nil))))
    (wgss_cons (wgs_set (i := 4) sc_least_sums.nd rfl (Or.inl rfl) (wge_cal c_most_broken (hr.mono (by decide)) rfl (wga_cons (wge_var (pv 2)) (wga_cons (wge_var (pv 3)) wga_nil))))
    (wgss_cons (wgs_while PassesOwn.never (wgt_cmp op_isntNT (wge_var (pv 4)) wge_non (nomark _)) (wgss_cons (wgs_set (i := 5) sc_least_sums.nd rfl (Or.inl rfl) (wge_cal c_gains_of (hr.mono (by decide)) rfl (wga_cons (wge_var (pv 3)) (wga_cons (wge_ix ix_T (wge_var (pv 2)) (wge_var (pv 4)) (fun _ _ => rfl)) wga_nil))))
    (wgss_cons (wgs_set (i := 6) sc_least_sums.nd rfl (Or.inl rfl) (wge_cal c_cheapest (hr.mono (by decide)) rfl (wga_cons (wge_fld (forC_cons ⟨T.cls_Corner, T.na_Corner_lines⟩ forC_nil) (wge_var (pv 3))) (wga_cons (wge_var (pv 5)) wga_nil))))
    (wgss_cons (wgs_if (wgt_cmp op_isNT (wge_var (pv 6)) wge_non (nomark _)) (wgss_one (wgs_ret (wge_cal c_never_told (hr.mono (by decide)) rfl (wga_cons (wge_callB call_lenK rfl T.n_len boot_len (wga_cons (wge_var (pv 0)) wga_nil)) (wga_cons (wge_var (pv 3)) (wga_cons (wge_var (pv 5)) (wga_cons (wge_var (pv 4)) wga_nil))))))) wgss_nil)
    (wgss_cons (wgs_set (i := 3) sc_least_sums.nd rfl (Or.inl rfl) (wge_cal c_moved_corner (hr.mono (by decide)) rfl (wga_cons (wge_var (pv 3)) (wga_cons (wge_var (pv 5)) (wga_cons (wge_var (pv 6)) (wga_cons (wge_var (pv 4)) (wga_cons (wge_cal c_lack_of (hr.mono (by decide)) rfl (wga_cons (wge_ix ix_T (wge_var (pv 2)) (wge_var (pv 4)) (fun _ _ => rfl)) (wga_cons (wge_var (pv 3)) wga_nil))) wga_nil)))))))
    (wgss_one (wgs_set (i := 4) sc_least_sums.nd rfl (Or.inl rfl) (wge_cal c_most_broken (hr.mono (by decide)) rfl (wga_cons (wge_var (pv 2)) (wga_cons (wge_var (pv 3)) wga_nil))))))))))
    (wgss_one (wgs_ret (wge_cal c_least_told (hr.mono (by decide)) rfl (wga_cons (wge_callB call_lenK rfl T.n_len boot_len (wga_cons (wge_var (pv 0)) wga_nil)) (wga_cons (wge_var (pv 3)) wga_nil))))))))))
end
end My
namespace My
open PySem L2 FT
noncomputable def g_l_cell (k_Corner : Addr) : Ev → Mem → Out Fl :=
  (sSeq (sIf (tVal (eOp ltI (eVar 1) (eCall (call1 lenK) (aCons (eVar 0) aNil)))) (sRet (eOp ixT (eVar 0) (eVar 1))) sNil)
  (sRet (eC (.int 0))))
noncomputable def f_l_cell (k_Corner : Addr) : List FT.T → Mem → Out FT.T := runDef 2 2 (g_l_cell k_Corner)
section
variable {P : Program} {w : World} {K : PySem.W.Frag} {mg : Str → Option Value} {base : Heap} {k_Corner : Addr}
theorem sc_l_cell : FnScope ["script", "k"] ["script", "k"] (defScope s_l_cell) := ⟨rfl, rfl, rfl, by decide +kernel, rfl, by decide +kernel, by decide +kernel⟩
theorem c_l_cell (D : Df K mg "_law_cell" s_l_cell ["script", "k"]) (T : Txt K mg k_Corner)  : CalT P w K mg base 1 "_law_cell" ["script", "k"] (f_l_cell k_Corner) :=
  wcal_mk D sc_l_cell rfl rfl (fun f cdv A outer s H E hr => (wgss_cons (wgs_if (wgt_cmp op_ltI (wge_var (pv 1)) (wge_callB call_lenK rfl T.n_len boot_len (wga_cons (wge_var (pv 0)) wga_nil)) (nomark _)) (wgss_one (wgs_ret (wge_ix ix_T (wge_var (pv 0)) (wge_var (pv 1)) (fun _ _ => rfl)))) wgss_nil)
    (wgss_one (wgs_ret wge_int))))
end
end My
namespace My
open PySem L2 FT
noncomputable def g_l_left (k_Corner : Addr) : Ev → Mem → Out Fl :=
  (sRet (eTk (lDisp (aCons (eCall (call2 maxK) (aCons (eC (.int 0)) (aCons (eOp subI (eVar 0) (eOp powI (eC (.int 10)) (eC (.int 18)))) aNil))) (aCons (eOp modI (eVar 0) (eOp powI (eC (.int 10)) (eC (.int 18)))) (aCons (eC (.int 0)) aNil))))))
noncomputable def f_l_left (k_Corner : Addr) : List FT.T → Mem → Out FT.T := runDef 1 1 (g_l_left k_Corner)
section
variable {P : Program} {w : World} {K : PySem.W.Frag} {mg : Str → Option Value} {base : Heap} {k_Corner : Addr}
theorem sc_l_left : FnScope ["cell"] ["cell"] (defScope s_l_left) := ⟨rfl, rfl, rfl, by decide +kernel, rfl, by decide +kernel, by decide +kernel⟩
theorem c_l_left (D : Df K mg "_law_left" s_l_left ["cell"]) (T : Txt K mg k_Corner)  : CalT P w K mg base 1 "_law_left" ["cell"] (f_l_left k_Corner) :=
  wcal_mk D sc_l_left rfl rfl (fun f cdv A outer s H E hr => (wgss_one (wgs_ret (wge_tk (wgl_disp (wga_cons (wge_callB (call_maxK rfl) rfl T.n_max boot_max (wga_cons wge_int (wga_cons (wge_op op_subI (wge_var (pv 0)) (wge_op op_powI wge_int wge_int)) wga_nil))) (wga_cons (wge_op op_modI (wge_var (pv 0)) (wge_op op_powI wge_int wge_int)) (wga_cons wge_int wga_nil))))))))
end
end My
namespace My
open PySem L2 FT
noncomputable def g_l_next (k_Corner : Addr) : Ev → Mem → Out Fl :=
  (sSeq (sIf (tVal (eOp gtI (eOp ixT (eVar 0) (eC (.int 0))) (eC (.int 0)))) (sSeq (sSet 2 (eOp modI (eOp ixT (eVar 0) (eC (.int 0))) (eVar 1)))
  (sSeq (sAsg (eOp divI (eOp ixT (eVar 0) (eC (.int 0))) (eVar 1)) (bSub setT (eVar 0) (eC (.int 0))))
  (sRet (eVar 2)))) sNil)
  (sSeq (sAsg (eOp addA (eOp ixT (eVar 0) (eC (.int 2))) (eC (.int 1))) (bSub setT (eVar 0) (eC (.int 2))))
  (sSeq (sSet 3 (eOp modI (eOp addA (eOp ixT (eVar 0) (eC (.int 1))) (eOp mulA (eC (.int 7919)) (eOp ixT (eVar 0) (eC (.int 2))))) (eC (.int 1000000007))))
  (sSeq (sSet 4 (eOp modI (eOp mulA (eOp addA (eVar 3) (eC (.int 11))) (eOp addA (eVar 3) (eC (.int 48271)))) (eC (.int 998244353))))
  (sRet (eOp modI (eOp divI (eOp modI (eOp mulA (eVar 4) (eVar 4)) (eC (.int 2147483647))) (eC (.int 8))) (eVar 1)))))))
noncomputable def f_l_next (k_Corner : Addr) : List FT.T → Mem → Out FT.T := runDef 2 5 (g_l_next k_Corner)
section
variable {P : Program} {w : World} {K : PySem.W.Frag} {mg : Str → Option Value} {base : Heap} {k_Corner : Addr}
theorem sc_l_next : FnScope ["pool", "base", "digit", "mixed", "stir"] ["pool", "base"] (defScope s_l_next) := ⟨rfl, rfl, rfl, by decide +kernel, rfl, by decide +kernel, by decide +kernel⟩
theorem c_l_next (D : Df K mg "_law_next" s_l_next ["pool", "base"]) (T : Txt K mg k_Corner)  : CalT P w K mg base 1 "_law_next" ["pool", "base"] (f_l_next k_Corner) :=
  wcal_mk D sc_l_next rfl rfl (fun f cdv A outer s H E hr => (wgss_cons (wgs_if (wgt_cmp op_gtI (wge_ix ix_T (wge_var (pv 0)) wge_int (fun _ _ => rfl)) wge_int (nomark _)) (wgss_cons (wgs_set (i := 2) sc_l_next.nd rfl (Or.inl rfl) (wge_op op_modI (wge_ix ix_T (wge_var (pv 0)) wge_int (fun _ _ => rfl)) (wge_var (pv 1))))
    (wgss_cons (wgs_asg (wge_op op_divI (wge_ix ix_T (wge_var (pv 0)) wge_int (fun _ _ => rfl)) (wge_var (pv 1))) (wgg_sub (wge_var (pv 0)) wge_int set_T))
    (wgss_one (wgs_ret (wge_var (pv 2)))))) wgss_nil)
    (wgss_cons (wgs_asg (wge_op op_addA (wge_ix ix_T (wge_var (pv 0)) wge_int (fun _ _ => rfl)) wge_int) (wgg_sub (wge_var (pv 0)) wge_int set_T))
    (wgss_cons (wgs_set (i := 3) sc_l_next.nd rfl (Or.inl rfl) (wge_op op_modI (wge_op op_addA (wge_ix ix_T (wge_var (pv 0)) wge_int (fun _ _ => rfl)) (wge_op op_mulA wge_int (wge_ix ix_T (wge_var (pv 0)) wge_int (fun _ _ => rfl)))) wge_int))
    (wgss_cons (wgs_set (i := 4) sc_l_next.nd rfl (Or.inl rfl) (wge_op op_modI (wge_op op_mulA (wge_op op_addA (wge_var (pv 3)) wge_int) (wge_op op_addA (wge_var (pv 3)) wge_int)) wge_int))
    (wgss_one (wgs_ret (wge_op op_modI (wge_op op_divI (wge_op op_modI (wge_op op_mulA (wge_var (pv 4)) (wge_var (pv 4))) wge_int) wge_int) (wge_var (pv 1))))))))))
end
end My
namespace My
open PySem L2 FT
noncomputable def b0_l_wide (k_Corner : Addr) : Ev → Mem → Out Fl :=
  (sSet 2 (eOp addA (eOp mulA (eVar 2) (eOp powI (eC (.int 2)) (eC (.int 28)))) (eCall (f_l_next k_Corner) (aCons (eVar 0) (aCons (eOp powI (eC (.int 2)) (eC (.int 28))) aNil)))))
noncomputable def g_l_wide (k_Corner : Addr) : Ev → Mem → Out Fl :=
  (sSeq (sIf (tVal (eOp ltI (eVar 1) (eOp powI (eC (.int 10)) (eC (.int 8))))) (sRet (eCall (f_l_next k_Corner) (aCons (eVar 0) (aCons (eVar 1) aNil)))) sNil)
  (sSeq (sSet 2 (eC (.int 0)))
  (sSeq (sFor (iRange1 (aCons (eC (.int 4)) aNil)) (bName 3) (b0_l_wide k_Corner))
  (sRet (eOp modI (eVar 2) (eVar 1))))))
noncomputable def f_l_wide (k_Corner : Addr) : List FT.T → Mem → Out FT.T := runDef 2 4 (g_l_wide k_Corner)
section
variable {P : Program} {w : World} {K : PySem.W.Frag} {mg : Str → Option Value} {base : Heap} {k_Corner : Addr}
theorem sc_l_wide : FnScope ["pool", "base", "found", "k"] ["pool", "base"] (defScope s_l_wide) := ⟨rfl, rfl, rfl, by decide +kernel, rfl, by decide +kernel, by decide +kernel⟩
theorem c_l_wide (D : Df K mg "_law_wide" s_l_wide ["pool", "base"]) (T : Txt K mg k_Corner) (c_l_next : CalT P w K mg base 1 "_law_next" ["pool", "base"] (f_l_next k_Corner)) : CalT P w K mg base 2 "_law_wide" ["pool", "base"] (f_l_wide k_Corner) :=
  wcal_mk D sc_l_wide rfl rfl (fun f cdv A outer s H E hr => (wgss_cons (wgs_if (wgt_cmp op_ltI (wge_var (pv 1)) (wge_op op_powI wge_int wge_int) (nomark _)) (wgss_one (wgs_ret (wge_cal c_l_next (hr.mono (by decide)) rfl (wga_cons (wge_var (pv 0)) (wga_cons (wge_var (pv 1)) wga_nil))))) wgss_nil)
    (wgss_cons (wgs_set (i := 2) sc_l_wide.nd rfl (Or.inl rfl) wge_int)
    (wgss_cons (wgs_for PassesOwn.never rfl (wgi_range1 rfl T.n_range (wga_cons wge_int wga_nil)) (wgg_name (pg_name (i := 3) sc_l_wide.nd rfl (by first | exact Or.inl rfl | exact Or.inr rfl))) (wgss_one (wgs_set (i := 2) sc_l_wide.nd rfl (Or.inl rfl) (wge_op op_addA (wge_op op_mulA (wge_var (pv 2)) (wge_op op_powI wge_int wge_int)) (wge_cal c_l_next (hr.mono (by decide)) rfl (wga_cons (wge_var (pv 0)) (wga_cons (wge_op op_powI wge_int wge_int) wga_nil)))))))
    (wgss_one (wgs_ret (wge_op op_modI (wge_var (pv 2)) (wge_var (pv 1)))))))))
end
end My
namespace My
open PySem L2 FT
noncomputable def g_l_number (k_Corner : Addr) : Ev → Mem → Out Fl :=
  (sSeq (sIf (tVal (eOp eqA (eVar 2) (eC (.int 0)))) (sRet (eOp subI (eCall (f_l_wide k_Corner) (aCons (eVar 0) (aCons (eOp addA (eOp mulA (eC (.int 2)) (eVar 1)) (eC (.int 1))) aNil))) (eVar 1))) sNil)
  (sRet (eOp subI (eCall (f_l_wide k_Corner) (aCons (eVar 0) (aCons (eOp addA (eVar 1) (eC (.int 1))) aNil))) (eOp mulA (eOp ixT (eFz (lDisp (aCons (eC (.int 0)) (aCons (eC (.int 0)) (aCons (eC (.int 0)) (aCons (eC (.int 1)) aNil)))))) (eCall (f_l_next k_Corner) (aCons (eVar 0) (aCons (eC (.int 4)) aNil)))) (eCall (f_l_wide k_Corner) (aCons (eVar 0) (aCons (eOp addA (eVar 1) (eC (.int 1))) aNil)))))))
noncomputable def f_l_number (k_Corner : Addr) : List FT.T → Mem → Out FT.T := runDef 3 3 (g_l_number k_Corner)
section
variable {P : Program} {w : World} {K : PySem.W.Frag} {mg : Str → Option Value} {base : Heap} {k_Corner : Addr}
theorem sc_l_number : FnScope ["pool", "size", "sort"] ["pool", "size", "sort"] (defScope s_l_number) := ⟨rfl, rfl, rfl, by decide +kernel, rfl, by decide +kernel, by decide +kernel⟩
theorem c_l_number (D : Df K mg "_law_number" s_l_number ["pool", "size", "sort"]) (T : Txt K mg k_Corner) (c_l_wide : CalT P w K mg base 2 "_law_wide" ["pool", "base"] (f_l_wide k_Corner)) (c_l_next : CalT P w K mg base 1 "_law_next" ["pool", "base"] (f_l_next k_Corner)) : CalT P w K mg base 3 "_law_number" ["pool", "size", "sort"] (f_l_number k_Corner) :=
  wcal_mk D sc_l_number rfl rfl (fun f cdv A outer s H E hr => (wgss_cons (wgs_if (wgt_cmp (op_eqA hr.units) (wge_var (pv 2)) wge_int (nomark _)) (wgss_one (wgs_ret (wge_op op_subI (wge_cal c_l_wide (hr.mono (by decide)) rfl (wga_cons (wge_var (pv 0)) (wga_cons (wge_op op_addA (wge_op op_mulA wge_int (wge_var (pv 1))) wge_int) wga_nil))) (wge_var (pv 1))))) wgss_nil)
    (wgss_one (wgs_ret (wge_op op_subI (wge_cal c_l_wide (hr.mono (by decide)) rfl (wga_cons (wge_var (pv 0)) (wga_cons (wge_op op_addA (wge_var (pv 1)) wge_int) wga_nil))) (wge_op op_mulA (wge_ix ix_T (wge_fz (wgl_disp (wga_cons wge_int (wga_cons wge_int (wga_cons wge_int (wga_cons wge_int wga_nil)))))) (wge_cal c_l_next (hr.mono (by decide)) rfl (wga_cons (wge_var (pv 0)) (wga_cons wge_int wga_nil))) (fun _ _ => rfl)) (wge_cal c_l_wide (hr.mono (by decide)) rfl (wga_cons (wge_var (pv 0)) (wga_cons (wge_op op_addA (wge_var (pv 1)) wge_int) wga_nil)))))))))
end
end My
namespace My
open PySem L2 FT
noncomputable def b0_l_demands (k_Corner : Addr) : Ev → Mem → Out Fl :=
  (sSeq (sSet 7 (eCall (call1 tupleK) (aCons (eFz (lComp (iRange1 (aCons (eVar 1) aNil)) (bName 0) tYes (eCall (f_l_number k_Corner) (aCons (eVar 1) (aCons (eVar 2) (aCons (eVar 3) aNil)))) ["k"] [("pool", 0), ("bound", 3), ("sort", 4)])) aNil)))
  (sExp (eMeth appT (eUn lstChk (eVar 5)) (aCons (eTup (aCons (eVar 7) (aCons (eCall (f_l_number k_Corner) (aCons (eVar 0) (aCons (eVar 3) (aCons (eCall (f_l_next k_Corner) (aCons (eVar 0) (aCons (eC (.int 2)) aNil))) aNil)))) aNil))) aNil))))
noncomputable def g_l_demands (k_Corner : Addr) : Ev → Mem → Out Fl :=
  (sSeq (sSet 3 (eOp ixT (eFz (lDisp (aCons (eC (.int 2)) (aCons (eC (.int 4)) (aCons (eC (.int 10)) (aCons (eOp powI (eC (.int 10)) (eC (.int 30))) aNil)))))) (eCall (f_l_next k_Corner) (aCons (eVar 0) (aCons (eC (.int 4)) aNil)))))
  (sSeq (sSet 4 (eCall (f_l_next k_Corner) (aCons (eVar 0) (aCons (eC (.int 2)) aNil))))
  (sSeq (sSet 5 (eTk (lDisp aNil)))
  (sSeq (sFor (iRange1 (aCons (eVar 2) aNil)) (bName 6) (b0_l_demands k_Corner))
  (sRet (eVar 5))))))
noncomputable def f_l_demands (k_Corner : Addr) : List FT.T → Mem → Out FT.T := runDef 3 8 (g_l_demands k_Corner)
section
variable {P : Program} {w : World} {K : PySem.W.Frag} {mg : Str → Option Value} {base : Heap} {k_Corner : Addr}
theorem sc_l_demands : FnScope ["pool", "size", "many", "bound", "sort", "found", "turn", "numbers"] ["pool", "size", "many"] (defScope s_l_demands) := ⟨rfl, rfl, rfl, by decide +kernel, rfl, by decide +kernel, by decide +kernel⟩
theorem c_l_demands (D : Df K mg "_law_demands" s_l_demands ["pool", "size", "many"]) (T : Txt K mg k_Corner) (c_l_next : CalT P w K mg base 1 "_law_next" ["pool", "base"] (f_l_next k_Corner)) (c_l_number : CalT P w K mg base 3 "_law_number" ["pool", "size", "sort"] (f_l_number k_Corner)) : CalT P w K mg base 4 "_law_demands" ["pool", "size", "many"] (f_l_demands k_Corner) :=
  wcal_mk D sc_l_demands rfl rfl (fun f cdv A outer s H E hr => (wgss_cons (wgs_set (i := 3) sc_l_demands.nd rfl (Or.inr rfl) (wge_ix ix_T (wge_fz (wgl_disp (wga_cons wge_int (wga_cons wge_int (wga_cons wge_int (wga_cons (wge_op op_powI wge_int wge_int) wga_nil)))))) (wge_cal c_l_next (hr.mono (by decide)) rfl (wga_cons (wge_var (pv 0)) (wga_cons wge_int wga_nil))) (fun _ _ => rfl)))
    (wgss_cons (wgs_set (i := 4) sc_l_demands.nd rfl (Or.inr rfl) (wge_cal c_l_next (hr.mono (by decide)) rfl (wga_cons (wge_var (pv 0)) (wga_cons wge_int wga_nil))))
    (wgss_cons (wgs_set (i := 5) sc_l_demands.nd rfl (Or.inl rfl) (wge_tk (wgl_disp wga_nil)))
    (wgss_cons (wgs_for PassesOwn.never rfl (wgi_range1 rfl T.n_range (wga_cons (wge_var (pv 2)) wga_nil)) (wgg_name (pg_name (i := 6) sc_l_demands.nd rfl (by first | exact Or.inl rfl | exact Or.inr rfl))) (wgss_cons (wgs_set (i := 7) sc_l_demands.nd rfl (Or.inl rfl) (wge_callTy call_tupleK rfl T.n_tuple boot_tuple (wga_cons (wge_fz (wgl_comp (tgs := ["k"]) (caps := [("pool", 0), ("bound", 3), ("sort", 4)]) rfl (wgi_range1 rfl T.n_range (wga_cons (wge_var (pv 1)) wga_nil)) rfl (by decide +kernel) rfl (by decide +kernel) (by first | exact (fun _ _ h => h) | exact look_sub (by repeat (first | exact True.intro | refine ⟨rfl, ?_⟩))) (fun _ => has_of (by repeat (first | exact True.intro | (refine ⟨?_, ?_⟩; first | exact (fun _ => ⟨_, rfl⟩) | exact (fun h => h.elim (fun h => nomatch h) (fun h => nomatch h)))))) (by intro c hc; cases hc with | head => exact ⟨rfl, rfl, by first | exact .inl rfl | exact .inr rfl⟩ | tail _ hc => (cases hc with | head => exact ⟨rfl, rfl, by first | exact .inl rfl | exact .inr rfl⟩ | tail _ hc => (cases hc with | head => exact ⟨rfl, rfl, by first | exact .inl rfl | exact .inr rfl⟩ | tail _ hc => (cases hc)))) (fun _ _ _ => (wgg_name (pg_name (i := 0) (show (["k", "pool", "bound", "sort"] : List Str).Nodup by decide +kernel) rfl (by first | exact Or.inl rfl | exact Or.inr rfl)))) (fun _ _ _ => wgts_nil) (fun _ _ _ => (wge_cal c_l_number (hr.mono (by decide)) rfl (wga_cons (wge_var (pv 1)) (wga_cons (wge_var (pv 2)) (wga_cons (wge_var (pv 3)) wga_nil))))))) wga_nil)))
    (wgss_one (wgs_exp (wge_app (pe_bm PySem.F.plainAttrs_list PySem.F.slot_list_append PySem.F.type_list_append mt_append (WE.pe (wge_var (pv 5))) (WA.pe (wga_cons (wge_tup (wga_cons (wge_var (pv 7)) (wga_cons (wge_cal c_l_number (hr.mono (by decide)) rfl (wga_cons (wge_var (pv 0)) (wga_cons (wge_var (pv 3)) (wga_cons (wge_cal c_l_next (hr.mono (by decide)) rfl (wga_cons (wge_var (pv 0)) (wga_cons wge_int wga_nil))) wga_nil)))) wga_nil))) wga_nil))))))))
    (wgss_one (wgs_ret (wge_var (pv 5)))))))))
end
end My
namespace My
open PySem L2 FT
noncomputable def g_l_aim (k_Corner : Addr) : Ev → Mem → Out Fl :=
  (sSeq (sSet 2 (eOp ixT (eFz (lDisp (aCons (eC (.int 1)) (aCons (eC (.int 3)) (aCons (eC (.int 9)) (aCons (eOp powI (eC (.int 10)) (eC (.int 30))) aNil)))))) (eCall (f_l_next k_Corner) (aCons (eVar 0) (aCons (eC (.int 4)) aNil)))))
  (sRet (eCall (call1 tupleK) (aCons (eFz (lComp (iRange1 (aCons (eVar 1) aNil)) (bName 0) tYes (eCall (f_l_wide k_Corner) (aCons (eVar 1) (aCons (eOp addA (eVar 2) (eC (.int 1))) aNil))) ["k"] [("pool", 0), ("bound", 2)])) aNil))))
noncomputable def f_l_aim (k_Corner : Addr) : List FT.T → Mem → Out FT.T := runDef 2 3 (g_l_aim k_Corner)
section
variable {P : Program} {w : World} {K : PySem.W.Frag} {mg : Str → Option Value} {base : Heap} {k_Corner : Addr}
theorem sc_l_aim : FnScope ["pool", "size", "bound"] ["pool", "size"] (defScope s_l_aim) := ⟨rfl, rfl, rfl, by decide +kernel, rfl, by decide +kernel, by decide +kernel⟩
theorem c_l_aim (D : Df K mg "_law_aim" s_l_aim ["pool", "size"]) (T : Txt K mg k_Corner) (c_l_next : CalT P w K mg base 1 "_law_next" ["pool", "base"] (f_l_next k_Corner)) (c_l_wide : CalT P w K mg base 2 "_law_wide" ["pool", "base"] (f_l_wide k_Corner)) : CalT P w K mg base 3 "_law_aim" ["pool", "size"] (f_l_aim k_Corner) :=
  wcal_mk D sc_l_aim rfl rfl (fun f cdv A outer s H E hr => (wgss_cons (wgs_set (i := 2) sc_l_aim.nd rfl (Or.inr rfl) (wge_ix ix_T (wge_fz (wgl_disp (wga_cons wge_int (wga_cons wge_int (wga_cons wge_int (wga_cons (wge_op op_powI wge_int wge_int) wga_nil)))))) (wge_cal c_l_next (hr.mono (by decide)) rfl (wga_cons (wge_var (pv 0)) (wga_cons wge_int wga_nil))) (fun _ _ => rfl)))
    (wgss_one (wgs_ret (wge_callTy call_tupleK rfl T.n_tuple boot_tuple (wga_cons (wge_fz (wgl_comp (tgs := ["k"]) (caps := [("pool", 0), ("bound", 2)]) rfl (wgi_range1 rfl T.n_range (wga_cons (wge_var (pv 1)) wga_nil)) rfl (by decide +kernel) rfl (by decide +kernel) (by first | exact (fun _ _ h => h) | exact look_sub (by repeat (first | exact True.intro | refine ⟨rfl, ?_⟩))) (fun _ => has_of (by repeat (first | exact True.intro | (refine ⟨?_, ?_⟩; first | exact (fun _ => ⟨_, rfl⟩) | exact (fun h => h.elim (fun h => nomatch h) (fun h => nomatch h)))))) (by intro c hc; cases hc with | head => exact ⟨rfl, rfl, by first | exact .inl rfl | exact .inr rfl⟩ | tail _ hc => (cases hc with | head => exact ⟨rfl, rfl, by first | exact .inl rfl | exact .inr rfl⟩ | tail _ hc => (cases hc))) (fun _ _ _ => (wgg_name (pg_name (i := 0) (show (["k", "pool", "bound"] : List Str).Nodup by decide +kernel) rfl (by first | exact Or.inl rfl | exact Or.inr rfl)))) (fun _ _ _ => wgts_nil) (fun _ _ _ => (wge_cal c_l_wide (hr.mono (by decide)) rfl (wga_cons (wge_var (pv 1)) (wga_cons (wge_op op_addA (wge_var (pv 2)) wge_int) wga_nil)))))) wga_nil))))))
end
end My
namespace My
open PySem L2 FT
noncomputable def b0_l_total (k_Corner : Addr) : Ev → Mem → Out Fl :=
  (sSeq (sSet 2 (eOp addA (eOp mulA (eVar 2) (eOp ixT (eVar 5) (eC (.int 1)))) (eOp mulA (eOp mulA (eVar 4) (eOp ixT (eVar 5) (eC (.int 0)))) (eVar 3))))
  (sSet 3 (eOp mulA (eVar 3) (eOp ixT (eVar 5) (eC (.int 1))))))
noncomputable def g_l_total (k_Corner : Addr) : Ev → Mem → Out Fl :=
  (sSeq (sSet 2 (eC (.int 0)))
  (sSeq (sSet 3 (eC (.int 1)))
  (sSeq (sForG (FT.iZipX (aCons (eVar 0) (aCons (eVar 1) aNil))) (bTup 2 (bCons (bName 4) (bCons (bName 5) bNil))) (b0_l_total k_Corner))
  (sRet (eTup (aCons (eVar 2) (aCons (eVar 3) aNil)))))))
noncomputable def f_l_total (k_Corner : Addr) : List FT.T → Mem → Out FT.T := runDef 2 6 (g_l_total k_Corner)
section
variable {P : Program} {w : World} {K : PySem.W.Frag} {mg : Str → Option Value} {base : Heap} {k_Corner : Addr}
theorem sc_l_total : FnScope ["numbers", "some", "top", "bottom", "number", "one"] ["numbers", "some"] (defScope s_l_total) := ⟨rfl, rfl, rfl, by decide +kernel, rfl, by decide +kernel, by decide +kernel⟩
theorem c_l_total (D : Df K mg "_law_total" s_l_total ["numbers", "some"]) (T : Txt K mg k_Corner)  : CalT P w K mg base 1 "_law_total" ["numbers", "some"] (f_l_total k_Corner) :=
  wcal_mk D sc_l_total rfl rfl (fun f cdv A outer s H E hr => (wgss_cons (wgs_set (i := 2) sc_l_total.nd rfl (Or.inl rfl) wge_int)
    (wgss_cons (wgs_set (i := 3) sc_l_total.nd rfl (Or.inl rfl) wge_int)
    (wgss_cons (wgs_forG PassesOwn.never rfl (wgi_zipX rfl T.n_zip (wga_cons (wge_var (pv 0)) (wga_cons (wge_var (pv 1)) wga_nil))) (wgg_tup (pg_tup rfl (WGs.pe (wggs_cons (pgs_cons (WG.pe (wgg_name (pg_name (i := 4) sc_l_total.nd rfl (by first | exact Or.inl rfl | exact Or.inr rfl)))) (WGs.pe (wggs_cons (pgs_cons (WG.pe (wgg_name (pg_name (i := 5) sc_l_total.nd rfl (by first | exact Or.inl rfl | exact Or.inr rfl)))) (WGs.pe wggs_nil))))))))) (wgss_cons (wgs_set (i := 2) sc_l_total.nd rfl (Or.inl rfl) (wge_op op_addA (wge_op op_mulA (wge_var (pv 2)) (wge_ix ix_T (wge_var (pv 5)) wge_int (fun _ _ => rfl))) (wge_op op_mulA (wge_op op_mulA (wge_var (pv 4)) (wge_ix ix_T (wge_var (pv 5)) wge_int (fun _ _ => rfl))) (wge_var (pv 3)))))
    (wgss_one (wgs_set (i := 3) sc_l_total.nd rfl (Or.inl rfl) (wge_op op_mulA (wge_var (pv 3)) (wge_ix ix_T (wge_var (pv 5)) wge_int (fun _ _ => rfl)))))))
    (wgss_one (wgs_ret (wge_tup (wga_cons (wge_var (pv 2)) (wga_cons (wge_var (pv 3)) wga_nil)))))))))
end
end My
namespace My
open PySem L2 FT
noncomputable def b0_l_meets (k_Corner : Addr) : Ev → Mem → Out Fl :=
  (sSeq (sAsg (eCall (f_l_total k_Corner) (aCons (eVar 2) (aCons (eVar 1) aNil))) (bTup 2 (bCons (bName 4) (bCons (bName 5) bNil))))
  (sIf (tVal (eOp ltI (eVar 4) (eOp mulA (eVar 3) (eVar 5)))) (sRet (eC (.bl false))) sNil))
noncomputable def g_l_meets (k_Corner : Addr) : Ev → Mem → Out Fl :=
  (sSeq (sForG (iSeqG (eVar 0)) (bTup 2 (bCons (bName 2) (bCons (bName 3) bNil))) (b0_l_meets k_Corner))
  (sRet (eC (.bl true))))
noncomputable def f_l_meets (k_Corner : Addr) : List FT.T → Mem → Out FT.T := runDef 2 6 (g_l_meets k_Corner)
section
variable {P : Program} {w : World} {K : PySem.W.Frag} {mg : Str → Option Value} {base : Heap} {k_Corner : Addr}
theorem sc_l_meets : FnScope ["demands", "x", "numbers", "least", "top", "bottom"] ["demands", "x"] (defScope s_l_meets) := ⟨rfl, rfl, rfl, by decide +kernel, rfl, by decide +kernel, by decide +kernel⟩
theorem c_l_meets (D : Df K mg "_law_meets" s_l_meets ["demands", "x"]) (T : Txt K mg k_Corner) (c_l_total : CalT P w K mg base 1 "_law_total" ["numbers", "some"] (f_l_total k_Corner)) : CalT P w K mg base 2 "_law_meets" ["demands", "x"] (f_l_meets k_Corner) :=
  wcal_mk D sc_l_meets rfl rfl (fun f cdv A outer s H E hr => (wgss_cons (wgs_forG PassesOwn.never rfl (wgi_seqG (wge_var (pv 0))) (wgg_tup (pg_tup rfl (WGs.pe (wggs_cons (pgs_cons (WG.pe (wgg_name (pg_name (i := 2) sc_l_meets.nd rfl (by first | exact Or.inl rfl | exact Or.inr rfl)))) (WGs.pe (wggs_cons (pgs_cons (WG.pe (wgg_name (pg_name (i := 3) sc_l_meets.nd rfl (by first | exact Or.inl rfl | exact Or.inr rfl)))) (WGs.pe wggs_nil))))))))) (wgss_cons (wgs_asg (wge_cal c_l_total (hr.mono (by decide)) rfl (wga_cons (wge_var (pv 2)) (wga_cons (wge_var (pv 1)) wga_nil))) (wgg_tup (pg_tup rfl (WGs.pe (wggs_cons (pgs_cons (WG.pe (wgg_name (pg_name (i := 4) sc_l_meets.nd rfl (by first | exact Or.inl rfl | exact Or.inr rfl)))) (WGs.pe (wggs_cons (pgs_cons (WG.pe (wgg_name (pg_name (i := 5) sc_l_meets.nd rfl (by first | exact Or.inl rfl | exact Or.inr rfl)))) (WGs.pe wggs_nil))))))))))
    (wgss_one (wgs_if (wgt_cmp op_ltI (wge_var (pv 4)) (wge_op op_mulA (wge_var (pv 3)) (wge_var (pv 5))) (nomark _)) (wgss_one (wgs_ret wge_bl)) wgss_nil))))
    (wgss_one (wgs_ret wge_bl))))
end
end My
namespace My
open PySem L2 FT
noncomputable def g_l_column (k_Corner : Addr) : Ev → Mem → Out Fl :=
  (sRet (eFz (lCompG (iSeqG (eVar 0)) (bTup 2 (bCons (bName 0) (bCons (bName 1) bNil))) tYes (eOp ixT (eVar 0) (eVar 2)) ["numbers", "least"] [("k", 1)])))
noncomputable def f_l_column (k_Corner : Addr) : List FT.T → Mem → Out FT.T := runDef 2 2 (g_l_column k_Corner)
section
variable {P : Program} {w : World} {K : PySem.W.Frag} {mg : Str → Option Value} {base : Heap} {k_Corner : Addr}
theorem sc_l_column : FnScope ["demands", "k"] ["demands", "k"] (defScope s_l_column) := ⟨rfl, rfl, rfl, by decide +kernel, rfl, by decide +kernel, by decide +kernel⟩
theorem c_l_column (D : Df K mg "_law_column" s_l_column ["demands", "k"]) (T : Txt K mg k_Corner)  : CalT P w K mg base 1 "_law_column" ["demands", "k"] (f_l_column k_Corner) :=
  wcal_mk D sc_l_column rfl rfl (fun f cdv A outer s H E hr => (wgss_one (wgs_ret (wge_fz (wgl_compG (tgs := ["numbers", "least"]) (caps := [("k", 1)]) rfl (wgi_seqG (wge_var (pv 0))) rfl (by decide +kernel) rfl (by decide +kernel) (by first | exact (fun _ _ h => h) | exact look_sub (by repeat (first | exact True.intro | refine ⟨rfl, ?_⟩))) (fun _ => has_of (by repeat (first | exact True.intro | (refine ⟨?_, ?_⟩; first | exact (fun _ => ⟨_, rfl⟩) | exact (fun h => h.elim (fun h => nomatch h) (fun h => nomatch h)))))) (by intro c hc; cases hc with | head => exact ⟨rfl, rfl, by first | exact .inl rfl | exact .inr rfl⟩ | tail _ hc => (cases hc)) (fun _ _ _ => (wgg_tup (pg_tup rfl (WGs.pe (wggs_cons (pgs_cons (WG.pe (wgg_name (pg_name (i := 0) (show (["numbers", "least", "k"] : List Str).Nodup by decide +kernel) rfl (by first | exact Or.inl rfl | exact Or.inr rfl)))) (WGs.pe (wggs_cons (pgs_cons (WG.pe (wgg_name (pg_name (i := 1) (show (["numbers", "least", "k"] : List Str).Nodup by decide +kernel) rfl (by first | exact Or.inl rfl | exact Or.inr rfl)))) (WGs.pe wggs_nil)))))))))) (fun _ _ _ => wgts_nil) (fun _ _ _ => (wge_ix ix_T (wge_var (pv 0)) (wge_var (pv 2)) (fun _ _ => rfl))))))))
end
end My
namespace My
open PySem L2 FT
noncomputable def b0_l_holds (k_Corner : Addr) : Ev → Mem → Out Fl :=
  (sIf (tVal (eOp ltI (eOp ixT (eVar 5) (eC (.int 0))) (eC (.int 0)))) (sRet (eC (.bl false))) sNil)
noncomputable def b1_l_holds (k_Corner : Addr) : Ev → Mem → Out Fl :=
  (sSeq (sAsg (eCall (f_l_total k_Corner) (aCons (eCall (f_l_column k_Corner) (aCons (eVar 0) (aCons (eVar 8) aNil))) (aCons (eVar 4) aNil))) (bTup 2 (bCons (bName 9) (bCons (bName 10) bNil))))
  (sIf (tVal (eOp gtI (eVar 9) (eOp mulA (eOp mulA (eOp ixT (eVar 1) (eVar 8)) (eVar 10)) (eCall (call1 intK) (aCons (eOp eqA (eVar 2) (eC (.str "least"))) aNil))))) (sRet (eC (.bl false))) sNil))
noncomputable def g_l_holds (k_Corner : Addr) : Ev → Mem → Out Fl :=
  (sSeq (sFor (iSeq (eOp addA (eFz (lCall listK (aCons (eVar 3) aNil))) (eFz (lCall listK (aCons (eVar 4) aNil))))) (bName 5) (b0_l_holds k_Corner))
  (sSeq (sAsg (eCall (f_l_total k_Corner) (aCons (eFz (lCompG (iSeqG (eVar 0)) (bTup 2 (bCons (bName 0) (bCons (bName 1) bNil))) tYes (eVar 1) ["numbers", "least"] [])) (aCons (eVar 4) aNil))) (bTup 2 (bCons (bName 6) (bCons (bName 7) bNil))))
  (sSeq (sFor (iRange1 (aCons (eCall (call1 lenK) (aCons (eVar 1) aNil)) aNil)) (bName 8) (b1_l_holds k_Corner))
  (sSeq (sIf (tVal (eOp eqA (eVar 2) (eC (.str "never")))) (sRet (eOp gtI (eVar 6) (eC (.int 0)))) sNil)
  (sSeq (sAsg (eCall (f_l_total k_Corner) (aCons (eVar 1) (aCons (eVar 3) aNil))) (bTup 2 (bCons (bName 9) (bCons (bName 10) bNil))))
  (sRet (eAnd (eCall (f_l_meets k_Corner) (aCons (eVar 0) (aCons (eVar 3) aNil))) (eOp eqA (eOp mulA (eVar 9) (eVar 7)) (eOp mulA (eVar 6) (eVar 10))))))))))
noncomputable def f_l_holds (k_Corner : Addr) : List FT.T → Mem → Out FT.T := runDef 5 11 (g_l_holds k_Corner)
section
variable {P : Program} {w : World} {K : PySem.W.Frag} {mg : Str → Option Value} {base : Heap} {k_Corner : Addr}
theorem sc_l_holds : FnScope ["demands", "aim", "word", "x", "shares", "one", "gain", "under", "k", "top", "bottom"] ["demands", "aim", "word", "x", "shares"] (defScope s_l_holds) := ⟨rfl, rfl, rfl, by decide +kernel, rfl, by decide +kernel, by decide +kernel⟩
theorem c_l_holds (D : Df K mg "_law_holds" s_l_holds ["demands", "aim", "word", "x", "shares"]) (T : Txt K mg k_Corner) (c_l_total : CalT P w K mg base 1 "_law_total" ["numbers", "some"] (f_l_total k_Corner)) (c_l_meets : CalT P w K mg base 2 "_law_meets" ["demands", "x"] (f_l_meets k_Corner)) (c_l_column : CalT P w K mg base 1 "_law_column" ["demands", "k"] (f_l_column k_Corner)) : CalT P w K mg base 3 "_law_holds" ["demands", "aim", "word", "x", "shares"] (f_l_holds k_Corner) :=
  wcal_mk D sc_l_holds rfl rfl (fun f cdv A outer s H E hr => (wgss_cons (wgs_for PassesOwn.never rfl (wgi_seq (wge_op op_addA (wge_fz (wgl_callTy call_listK rfl T.n_list boot_list (wga_cons (wge_var (pv 3)) wga_nil))) (wge_fz (wgl_callTy call_listK rfl T.n_list boot_list (wga_cons (wge_var (pv 4)) wga_nil))))) (wgg_name (pg_name (i := 5) sc_l_holds.nd rfl (by first | exact Or.inl rfl | exact Or.inr rfl))) (wgss_one (wgs_if (wgt_cmp op_ltI (wge_ix ix_T (wge_var (pv 5)) wge_int (fun _ _ => rfl)) wge_int (nomark _)) (wgss_one (wgs_ret wge_bl)) wgss_nil)))
    (wgss_cons (wgs_asg (wge_cal c_l_total (hr.mono (by decide)) rfl (wga_cons (wge_fz (wgl_compG (tgs := ["numbers", "least"]) (caps := []) rfl (wgi_seqG (wge_var (pv 0))) rfl (by decide +kernel) rfl (by decide +kernel) (by first | exact (fun _ _ h => h) | exact look_sub (by repeat (first | exact True.intro | refine ⟨rfl, ?_⟩))) (fun _ => has_of (by repeat (first | exact True.intro | (refine ⟨?_, ?_⟩; first | exact (fun _ => ⟨_, rfl⟩) | exact (fun h => h.elim (fun h => nomatch h) (fun h => nomatch h)))))) (by intro c hc; cases hc) (fun _ _ _ => (wgg_tup (pg_tup rfl (WGs.pe (wggs_cons (pgs_cons (WG.pe (wgg_name (pg_name (i := 0) (show (["numbers", "least"] : List Str).Nodup by decide +kernel) rfl (by first | exact Or.inl rfl | exact Or.inr rfl)))) (WGs.pe (wggs_cons (pgs_cons (WG.pe (wgg_name (pg_name (i := 1) (show (["numbers", "least"] : List Str).Nodup by decide +kernel) rfl (by first | exact Or.inl rfl | exact Or.inr rfl)))) (WGs.pe wggs_nil)))))))))) (fun _ _ _ => wgts_nil) (fun _ _ _ => (wge_var (pv 1))))) (wga_cons (wge_var (pv 4)) wga_nil))) (wgg_tup (pg_tup rfl (WGs.pe (wggs_cons (pgs_cons (WG.pe (wgg_name (pg_name (i := 6) sc_l_holds.nd rfl (by first | exact Or.inl rfl | exact Or.inr rfl)))) (WGs.pe (wggs_cons (pgs_cons (WG.pe (wgg_name (pg_name (i := 7) sc_l_holds.nd rfl (by first | exact Or.inl rfl | exact Or.inr rfl)))) (WGs.pe wggs_nil))))))))))
    (wgss_cons (wgs_for PassesOwn.never rfl (wgi_range1 rfl T.n_range (wga_cons (wge_callB call_lenK rfl T.n_len boot_len (wga_cons (wge_var (pv 1)) wga_nil)) wga_nil)) (wgg_name (pg_name (i := 8) sc_l_holds.nd rfl (by first | exact Or.inl rfl | exact Or.inr rfl))) (wgss_cons (wgs_asg (wge_cal c_l_total (hr.mono (by decide)) rfl (wga_cons (wge_cal c_l_column (hr.mono (by decide)) rfl (wga_cons (wge_var (pv 0)) (wga_cons (wge_var (pv 8)) wga_nil))) (wga_cons (wge_var (pv 4)) wga_nil))) (wgg_tup (pg_tup rfl (WGs.pe (wggs_cons (pgs_cons (WG.pe (wgg_name (pg_name (i := 9) sc_l_holds.nd rfl (by first | exact Or.inl rfl | exact Or.inr rfl)))) (WGs.pe (wggs_cons (pgs_cons (WG.pe (wgg_name (pg_name (i := 10) sc_l_holds.nd rfl (by first | exact Or.inl rfl | exact Or.inr rfl)))) (WGs.pe wggs_nil))))))))))
    (wgss_one (wgs_if (wgt_cmp op_gtI (wge_var (pv 9)) (wge_op op_mulA (wge_op op_mulA (wge_ix ix_T (wge_var (pv 1)) (wge_var (pv 8)) (fun _ _ => rfl)) (wge_var (pv 10))) (wge_callTy call_intK rfl T.n_int boot_int (wga_cons (wge_cmp (op_eqA hr.units) (wge_var (pv 2)) wge_str (nomark _)) wga_nil))) (nomark _)) (wgss_one (wgs_ret wge_bl)) wgss_nil))))
    (wgss_cons (wgs_if (wgt_cmp (op_eqA hr.units) (wge_var (pv 2)) wge_str (nomark _)) (wgss_one (wgs_ret (wge_cmp op_gtI (wge_var (pv 6)) wge_int (nomark _)))) wgss_nil)
    (wgss_cons (wgs_asg (wge_cal c_l_total (hr.mono (by decide)) rfl (wga_cons (wge_var (pv 1)) (wga_cons (wge_var (pv 3)) wga_nil))) (wgg_tup (pg_tup rfl (WGs.pe (wggs_cons (pgs_cons (WG.pe (wgg_name (pg_name (i := 9) sc_l_holds.nd rfl (by first | exact Or.inl rfl | exact Or.inr rfl)))) (WGs.pe (wggs_cons (pgs_cons (WG.pe (wgg_name (pg_name (i := 10) sc_l_holds.nd rfl (by first | exact Or.inl rfl | exact Or.inr rfl)))) (WGs.pe wggs_nil))))))))))
    (wgss_one (wgs_ret (wge_and (wge_cal c_l_meets (hr.mono (by decide)) rfl (wga_cons (wge_var (pv 0)) (wga_cons (wge_var (pv 3)) wga_nil))) (wge_one (wge_cmp (op_eqA hr.units) (wge_op op_mulA (wge_var (pv 9)) (wge_var (pv 7))) (wge_op op_mulA (wge_var (pv 6)) (wge_var (pv 10))) (nomark _))))))))))))
end
end My
namespace My
open PySem L2 FT
noncomputable def b0_l_ends (k_Corner : Addr) : Ev → Mem → Out Fl :=
  (sSeq (sSet 5 (eOp ixT (eVar 3) (eC (.int 0))))
  (sSeq (sIf (tAndF (tVal (eOp eqA (eVar 5) (eC (.int 0)))) (tVal (eOp gtI (eVar 4) (eC (.int 0))))) (sRet (eC .non)) sNil)
  (sSeq (sIf (tAndF (tVal (eOp gtI (eVar 5) (eC (.int 0)))) (tVal (eOp gtI (eOp mulA (eVar 4) (eOp ixT (eVar 1) (eC (.int 1)))) (eOp mulA (eOp ixT (eVar 1) (eC (.int 0))) (eVar 5))))) (sSet 1 (eTup (aCons (eVar 4) (aCons (eVar 5) aNil)))) sNil)
  (sIf (tAndF (tVal (eOp ltI (eVar 5) (eC (.int 0)))) (tOrF (tVal (eOp isN (eVar 2) (eC .non))) (tVal (eOp ltI (eOp mulA (eUn negI (eVar 4)) (eOp ixT (eVar 2) (eC (.int 1)))) (eOp mulA (eOp ixT (eVar 2) (eC (.int 0))) (eUn negI (eVar 5))))))) (sSet 2 (eTup (aCons (eUn negI (eVar 4)) (aCons (eUn negI (eVar 5)) aNil)))) sNil))))
noncomputable def g_l_ends (k_Corner : Addr) : Ev → Mem → Out Fl :=
  (sSeq (sSet 1 (eTup (aCons (eC (.int 0)) (aCons (eC (.int 1)) aNil))))
  (sSeq (sSet 2 (eC .non))
  (sSeq (sForG (iSeqG (eVar 0)) (bTup 2 (bCons (bName 3) (bCons (bName 4) bNil))) (b0_l_ends k_Corner))
  (sSeq (sIf (tAndF (tVal (eOp isntN (eVar 2) (eC .non))) (tVal (eOp ltI (eOp mulA (eOp ixT (eVar 2) (eC (.int 0))) (eOp ixT (eVar 1) (eC (.int 1)))) (eOp mulA (eOp ixT (eVar 1) (eC (.int 0))) (eOp ixT (eVar 2) (eC (.int 1))))))) (sRet (eC .non)) sNil)
  (sRet (eTup (aCons (eVar 1) (aCons (eVar 2) aNil))))))))
noncomputable def f_l_ends (k_Corner : Addr) : List FT.T → Mem → Out FT.T := runDef 1 6 (g_l_ends k_Corner)
section
variable {P : Program} {w : World} {K : PySem.W.Frag} {mg : Str → Option Value} {base : Heap} {k_Corner : Addr}
theorem sc_l_ends : FnScope ["demands", "low", "high", "numbers", "least", "number"] ["demands"] (defScope s_l_ends) := ⟨rfl, rfl, rfl, by decide +kernel, rfl, by decide +kernel, by decide +kernel⟩
theorem c_l_ends (D : Df K mg "_law_ends" s_l_ends ["demands"]) (T : Txt K mg k_Corner)  : CalT P w K mg base 1 "_law_ends" ["demands"] (f_l_ends k_Corner) :=
  wcal_mk D sc_l_ends rfl rfl (fun f cdv A outer s H E hr => (wgss_cons (wgs_set (i := 1) sc_l_ends.nd rfl (Or.inl rfl) (wge_tup (wga_cons wge_int (wga_cons wge_int wga_nil))))
    (wgss_cons (wgs_set (i := 2) sc_l_ends.nd rfl (Or.inl rfl) wge_non)
    (wgss_cons (wgs_forG PassesOwn.never rfl (wgi_seqG (wge_var (pv 0))) (wgg_tup (pg_tup rfl (WGs.pe (wggs_cons (pgs_cons (WG.pe (wgg_name (pg_name (i := 3) sc_l_ends.nd rfl (by first | exact Or.inl rfl | exact Or.inr rfl)))) (WGs.pe (wggs_cons (pgs_cons (WG.pe (wgg_name (pg_name (i := 4) sc_l_ends.nd rfl (by first | exact Or.inl rfl | exact Or.inr rfl)))) (WGs.pe wggs_nil))))))))) (wgss_cons (wgs_set (i := 5) sc_l_ends.nd rfl (Or.inl rfl) (wge_ix ix_T (wge_var (pv 3)) wge_int (fun _ _ => rfl)))
    (wgss_cons (wgs_if (WW.gt (wgw_and (wgt_cmp (op_eqA hr.units) (wge_var (pv 5)) wge_int (nomark _)) (wgw_and1 (wgt_cmp op_gtI (wge_var (pv 4)) wge_int (nomark _))))) (wgss_one (wgs_ret wge_non)) wgss_nil)
    (wgss_cons (wgs_if (WW.gt (wgw_and (wgt_cmp op_gtI (wge_var (pv 5)) wge_int (nomark _)) (wgw_and1 (wgt_cmp op_gtI (wge_op op_mulA (wge_var (pv 4)) (wge_ix ix_T (wge_var (pv 1)) wge_int (fun _ _ => rfl))) (wge_op op_mulA (wge_ix ix_T (wge_var (pv 1)) wge_int (fun _ _ => rfl)) (wge_var (pv 5))) (nomark _))))) (wgss_one (wgs_set (i := 1) sc_l_ends.nd rfl (Or.inl rfl) (wge_tup (wga_cons (wge_var (pv 4)) (wga_cons (wge_var (pv 5)) wga_nil))))) wgss_nil)
    (wgss_one (wgs_if (WW.gt (wgw_and (wgt_cmp op_ltI (wge_var (pv 5)) wge_int (nomark _)) (wgw_and1 (WW.gt (wgw_or (wgt_cmp op_isNT (wge_var (pv 2)) wge_non (nomark _)) (wgw_or1 (wgt_cmp op_ltI (wge_op op_mulA (wge_un un_negI (wge_var (pv 4))) (wge_ix ix_T (wge_var (pv 2)) wge_int (fun _ _ => rfl))) (wge_op op_mulA (wge_ix ix_T (wge_var (pv 2)) wge_int (fun _ _ => rfl)) (wge_un un_negI (wge_var (pv 5)))) (nomark _)))))))) (wgss_one (wgs_set (i := 2) sc_l_ends.nd rfl (Or.inl rfl) (wge_tup (wga_cons (wge_un un_negI (wge_var (pv 4))) (wga_cons (wge_un un_negI (wge_var (pv 5))) wga_nil))))) wgss_nil))))))
    (wgss_cons (wgs_if (WW.gt (wgw_and (wgt_cmp op_isntNT (wge_var (pv 2)) wge_non (nomark _)) (wgw_and1 (wgt_cmp op_ltI (wge_op op_mulA (wge_ix ix_T (wge_var (pv 2)) wge_int (fun _ _ => rfl)) (wge_ix ix_T (wge_var (pv 1)) wge_int (fun _ _ => rfl))) (wge_op op_mulA (wge_ix ix_T (wge_var (pv 1)) wge_int (fun _ _ => rfl)) (wge_ix ix_T (wge_var (pv 2)) wge_int (fun _ _ => rfl))) (nomark _))))) (wgss_one (wgs_ret wge_non)) wgss_nil)
    (wgss_one (wgs_ret (wge_tup (wga_cons (wge_var (pv 1)) (wga_cons (wge_var (pv 2)) wga_nil))))))))))
end
end My
namespace My
open PySem L2 FT
noncomputable def b0_law (k_Corner : Addr) : Ev → Mem → Out Fl :=
  (sSeq (sSet 2 (eCall (f_l_left k_Corner) (aCons (eCall (f_l_cell k_Corner) (aCons (eOp addA (eFz (lDisp (aCons (eC (.int 0)) aNil))) (eVar 0)) (aCons (eVar 1) aNil))) aNil)))
  (sSeq (sSet 3 (eCall (f_l_demands k_Corner) (aCons (eVar 2) (aCons (eC (.int 1)) (aCons (eCall (f_l_next k_Corner) (aCons (eVar 2) (aCons (eC (.int 10)) aNil))) aNil)))))
  (sSeq (sSet 4 (eCall (f_l_aim k_Corner) (aCons (eVar 2) (aCons (eC (.int 1)) aNil))))
  (sSeq (sSet 5 (eCall (f_least_sums k_Corner) (aCons (eVar 3) (aCons (eVar 4) aNil))))
  (sSeq (sSet 6 (eCall (f_l_ends k_Corner) (aCons (eVar 3) aNil)))
  (sSeq (sIf (tVal (eOp neA (eOp eqA (eOp ixT (eVar 5) (eC (.int 0))) (eC (.str "never"))) (eOp isN (eVar 6) (eC .non)))) (sRet (eC (.bl false))) sNil)
  (sSeq (sSet 7 (eFz (lDisp (aCons (eTup (aCons (eC (.int 0)) (aCons (eC (.int 1)) aNil))) aNil))))
  (sSeq (sIf (tVal (eOp isntN (eVar 6) (eC .non))) (sSeq (sSet 7 (eOp ixT (eVar 5) (eC (.int 1))))
  (sSeq (sSet 8 (eOp ixT (eVar 6) (eC (.int 0))))
  (sIf (tVal (eOp neA (eOp mulA (eOp mulA (eOp ixT (eVar 4) (eC (.int 0))) (eOp ixT (eOp ixT (eVar 7) (eC (.int 0))) (eC (.int 0)))) (eOp ixT (eVar 8) (eC (.int 1)))) (eOp mulA (eOp mulA (eOp ixT (eVar 4) (eC (.int 0))) (eOp ixT (eVar 8) (eC (.int 0)))) (eOp ixT (eOp ixT (eVar 7) (eC (.int 0))) (eC (.int 1)))))) (sRet (eC (.bl false))) sNil))) sNil)
  (sIf (tNotF (tVal (eCall (f_l_holds k_Corner) (aCons (eVar 3) (aCons (eVar 4) (aCons (eOp ixT (eVar 5) (eC (.int 0))) (aCons (eVar 7) (aCons (eOp ixT (eVar 5) (eUn negI (eC (.int 1)))) aNil)))))))) (sRet (eC (.bl false))) sNil)))))))))
noncomputable def g_law (k_Corner : Addr) : Ev → Mem → Out Fl :=
  (sSeq (sFor (iRange1 (aCons (eOp addA (eC (.int 1)) (eCall (call2 minK) (aCons (eCall (call1 lenK) (aCons (eVar 0) aNil)) (aCons (eC (.int 40)) aNil)))) aNil)) (bName 1) (b0_law k_Corner))
  (sRet (eC (.bl true))))
noncomputable def f_law (k_Corner : Addr) : List FT.T → Mem → Out FT.T := runDef 1 9 (g_law k_Corner)
section
variable {P : Program} {w : World} {K : PySem.W.Frag} {mg : Str → Option Value} {base : Heap} {k_Corner : Addr}
theorem sc_law : FnScope ["script", "k", "pool", "demands", "aim", "found", "ends", "x", "low"] ["script"] (defScope s_law) := ⟨rfl, rfl, rfl, by decide +kernel, rfl, by decide +kernel, by decide +kernel⟩
theorem ok_law {f : Addr} {fd : FuncData} (D : Fun K "law" "law" s_law f fd) (T : Txt K mg k_Corner) (c_l_left : CalT P w K mg base 1 "_law_left" ["cell"] (f_l_left k_Corner)) (c_l_demands : CalT P w K mg base 4 "_law_demands" ["pool", "size", "many"] (f_l_demands k_Corner)) (c_l_aim : CalT P w K mg base 3 "_law_aim" ["pool", "size"] (f_l_aim k_Corner)) (c_least_sums : CalT P w K mg base 5 "least_sums" ["demands", "aim"] (f_least_sums k_Corner)) (c_l_ends : CalT P w K mg base 1 "_law_ends" ["demands"] (f_l_ends k_Corner)) (c_l_cell : CalT P w K mg base 1 "_law_cell" ["script", "k"] (f_l_cell k_Corner)) (c_l_next : CalT P w K mg base 1 "_law_next" ["pool", "base"] (f_l_next k_Corner)) (c_l_holds : CalT P w K mg base 3 "_law_holds" ["demands", "aim", "word", "x", "shares"] (f_l_holds k_Corner)) : FnOk P w K mg base CX0 6 f fd ["script"] (spT K (f_law k_Corner)) :=
  wlaw_ok D sc_law rfl rfl (fun cdv A outer s H E hr => (wgss_cons (wgs_for PassesOwn.never rfl (wgi_range1 rfl T.n_range (wga_cons (wge_op op_addA wge_int (wge_callB (call_minK rfl) rfl T.n_min boot_min (wga_cons (wge_callB call_lenK rfl T.n_len boot_len (wga_cons (wge_var (pv 0)) wga_nil)) (wga_cons wge_int wga_nil)))) wga_nil)) (wgg_name (pg_name (i := 1) sc_law.nd rfl (by first | exact Or.inl rfl | exact Or.inr rfl))) (wgss_cons (wgs_set (i := 2) sc_law.nd rfl (Or.inl rfl) (wge_cal c_l_left (hr.mono (by decide)) rfl (wga_cons (wge_cal c_l_cell (hr.mono (by decide)) rfl (wga_cons (wge_op op_addA (wge_fz (wgl_disp (wga_cons wge_int wga_nil))) (wge_var (pv 0))) (wga_cons (wge_var (pv 1)) wga_nil))) wga_nil)))
    (wgss_cons (wgs_set (i := 3) sc_law.nd rfl (Or.inl rfl) (wge_cal c_l_demands (hr.mono (by decide)) rfl (wga_cons (wge_var (pv 2)) (wga_cons wge_int (wga_cons (wge_cal c_l_next (hr.mono (by decide)) rfl (wga_cons (wge_var (pv 2)) (wga_cons wge_int wga_nil))) wga_nil)))))
    (wgss_cons (wgs_set (i := 4) sc_law.nd rfl (Or.inl rfl) (wge_cal c_l_aim (hr.mono (by decide)) rfl (wga_cons (wge_var (pv 2)) (wga_cons wge_int wga_nil))))
    (wgss_cons (wgs_set (i := 5) sc_law.nd rfl (Or.inl rfl) (wge_cal c_least_sums (hr.mono (by decide)) rfl (wga_cons (wge_var (pv 3)) (wga_cons (wge_var (pv 4)) wga_nil))))
    (wgss_cons (wgs_set (i := 6) sc_law.nd rfl (Or.inl rfl) (wge_cal c_l_ends (hr.mono (by decide)) rfl (wga_cons (wge_var (pv 3)) wga_nil)))
    (wgss_cons (wgs_if (wgt_cmp (op_neA hr.units) (wge_cmp (op_eqA hr.units) (wge_ix ix_T (wge_var (pv 5)) wge_int (fun _ _ => rfl)) wge_str (nomark _)) (wge_cmp op_isNT (wge_var (pv 6)) wge_non (nomark _)) (nomark _)) (wgss_one (wgs_ret wge_bl)) wgss_nil)
    (wgss_cons (wgs_set (i := 7) sc_law.nd rfl (Or.inl rfl) (wge_fz (wgl_disp (wga_cons (wge_tup (wga_cons wge_int (wga_cons wge_int wga_nil))) wga_nil))))
    (wgss_cons (wgs_if (wgt_cmp op_isntNT (wge_var (pv 6)) wge_non (nomark _)) (wgss_cons (wgs_set (i := 7) sc_law.nd rfl (Or.inl rfl) (wge_ix ix_T (wge_var (pv 5)) wge_int (fun _ _ => rfl)))
    (wgss_cons (wgs_set (i := 8) sc_law.nd rfl (Or.inl rfl) (wge_ix ix_T (wge_var (pv 6)) wge_int (fun _ _ => rfl)))
    (wgss_one (wgs_if (wgt_cmp (op_neA hr.units) (wge_op op_mulA (wge_op op_mulA (wge_ix ix_T (wge_var (pv 4)) wge_int (fun _ _ => rfl)) (wge_ix ix_T (wge_ix ix_T (wge_var (pv 7)) wge_int (fun _ _ => rfl)) wge_int (fun _ _ => rfl))) (wge_ix ix_T (wge_var (pv 8)) wge_int (fun _ _ => rfl))) (wge_op op_mulA (wge_op op_mulA (wge_ix ix_T (wge_var (pv 4)) wge_int (fun _ _ => rfl)) (wge_ix ix_T (wge_var (pv 8)) wge_int (fun _ _ => rfl))) (wge_ix ix_T (wge_ix ix_T (wge_var (pv 7)) wge_int (fun _ _ => rfl)) wge_int (fun _ _ => rfl))) (nomark _)) (wgss_one (wgs_ret wge_bl)) wgss_nil)))) wgss_nil)
    (wgss_one (wgs_if (wgt_not (wgt_val (wge_cal c_l_holds (hr.mono (by decide)) rfl (wga_cons (wge_var (pv 3)) (wga_cons (wge_var (pv 4)) (wga_cons (wge_ix ix_T (wge_var (pv 5)) wge_int (fun _ _ => rfl)) (wga_cons (wge_var (pv 7)) (wga_cons (wge_ix ix_T (wge_var (pv 5)) (wge_un un_negI wge_int) (fun _ _ => rfl)) wga_nil)))))))) (wgss_one (wgs_ret wge_bl)) wgss_nil)))))))))))
    (wgss_one (wgs_ret wge_bl))))
end
end My
open PySem L2 FT in
local macro_rules | `(tactic| simp_all_arith [$xs,*]) => `(tactic| simp (config := {decide := true}) only [startT, sSeq, sRet, sSet, sIf, sExp, sAsg, sNil, sFor, eVar, eC, eOp, eUn, eAnd, eOr, eNot, eIf, eCall, eTup, eFz, eTk, lDisp, lCall, eChain, lOp, eSl, oNone, oSome, intT, cutA, sBreak, sCont, eMeth, aNil, aCons, tVal, tAndF, tOrF, tNotF, blT_bl, bind_ok, bind_bad, thenF_nx, thenF_rt, thenF_bk, thenF_ct, loopF_nx, loopF_rt, loopF_bk, loopF_ct, bName, bSub, bTup, bCons, bNil, iSeq, iRange1, iRange2, seqItems, ixT, optT, getT, atI_0, atI_1, atI_2, atI_3, lComp, capT, tYes, Option.join_some, Option.join_none, lenK_tup, lenK_lst, setT, ixN_0, ixN_1, ixN_2, List.map_cons, List.map_nil, List.length_cons, List.length_nil, List.cons_append, List.nil_append, List.getElem?_cons_zero, List.getElem?_cons_succ, List.set_cons_zero, List.set_cons_succ, List.replicate, Nat.zero_add, Nat.reduceAdd, Nat.reduceSub, call1_1, call2_2, addA_ii, addA_tt, Int.reduceBEq, Int.reduceLT, subI_ii, ltI_ii, leI_ii, gtI_ii, geI_ii, negI_i, maxK_ii, eqA_ii, neA_ii, isB_bb, isntB_bb, Bool.false_eq_true, reduceIte, Nat.reduceEqDiff, Nat.succ.injEq, Bool.not_true, Bool.not_false, modI_ii, powI_ii, divI_8, Int.reduceToNat, Int.reducePow, ne_eq, Int.reduceEq, not_false_eq_true, Int.reduceNeg, Bool.bne_true, Bool.bne_false, Bool.true_bne, Bool.false_bne, decide_true, decide_false, bind_asc, bind_ite, blT_bind, retK_rt, retK_nx, List.map_nil, $xs,*])
open PySem L2 FT in
local macro_rules | `(tactic| simp_arith [$xs,*]) => `(tactic| simp (config := {decide := true}) only [runDef_eq, retF_rt, retF_nx, startT, sSeq, sRet, sSet, sIf, sExp, sAsg, sNil, sFor, eVar, eC, eOp, eUn, eAnd, eOr, eNot, eIf, eCall, eTup, eFz, eTk, lDisp, lCall, eChain, lOp, eSl, oNone, oSome, intT, cutA, sBreak, sCont, eMeth, aNil, aCons, tVal, tAndF, tOrF, tNotF, blT_bl, bind_ok, bind_bad, thenF_nx, thenF_rt, thenF_bk, thenF_ct, loopF_nx, loopF_rt, loopF_bk, loopF_ct, bName, bSub, bTup, bCons, bNil, iSeq, iRange1, iRange2, seqItems, ixT, optT, getT, atI_0, atI_1, atI_2, atI_3, lComp, capT, tYes, Option.join_some, Option.join_none, lenK_tup, lenK_lst, setT, ixN_0, ixN_1, ixN_2, List.map_cons, List.map_nil, List.length_cons, List.length_nil, List.cons_append, List.nil_append, List.getElem?_cons_zero, List.getElem?_cons_succ, List.set_cons_zero, List.set_cons_succ, List.replicate, Nat.zero_add, Nat.reduceAdd, Nat.reduceSub, call1_1, call2_2, addA_ii, addA_tt, Int.reduceBEq, Int.reduceLT, subI_ii, ltI_ii, leI_ii, gtI_ii, geI_ii, negI_i, maxK_ii, eqA_ii, neA_ii, isB_bb, isntB_bb, Bool.false_eq_true, reduceIte, Nat.reduceEqDiff, Nat.succ.injEq, Bool.not_true, Bool.not_false, modI_ii, powI_ii, divI_8, Int.reduceToNat, Int.reducePow, ne_eq, Int.reduceEq, not_false_eq_true, Int.reduceNeg, Bool.bne_true, Bool.bne_false, Bool.true_bne, Bool.false_bne, decide_true, decide_false, $xs,*])
namespace My
open PySem L2 FT
variable (kC : Addr)
theorem l_left_eq (c : Int) (M : Mem) : f_l_left kC [.int c] M = .ok (.ref M.length) (M ++ [(Po.new c).cell]) := by
  unfold f_l_left g_l_left
  simp_arith [and_self]
  rw [show Po.new c = ⟨if c - 10 ^ 18 > 0 then c - 10 ^ 18 else 0, c % 10 ^ 18, 0⟩ from rfl, Int.fmod_eq_emod_of_nonneg _ (by decide)]
  rfl
theorem l_next_eq (p : Po) (a : Nat) (base : Int) (M : Mem) (e : M[a]? = some p.cell) (h : 0 < base) (hb : base.natAbs < 10 ^ 100) : f_l_next kC [.ref a, .int base] M = .ok (.int (p.dig base)) (M.set a (p.nxt base).cell) := by
  unfold f_l_next g_l_next
  have ha : a < M.length := (List.getElem?_eq_some_iff.mp e).1
  have hd : ∀ i M, divI (.int i) (.int base) M = .ok (.int (i.fdiv base)) M := fun i M => divI_ii (dv_ok 100 (by decide) (by omega) hb)
  have hm : ∀ i M, modI (.int i) (.int base) M = .ok (.int (i.fmod base)) M := fun i M => modI_ii (by omega)
  by_cases hp : 0 < p.a
  · simp_arith [e, Po.cell, hd, hm, decide_eq_true hp]
    unfold Po.dig Po.nxt
    rw [if_pos hp, if_pos hp, Int.fmod_eq_emod_of_nonneg _ (by omega), Int.fdiv_eq_ediv_of_nonneg _ (by omega)]
  · have hs : ∀ c : Cell, (M.set a c)[a]? = some c := fun c => by rw [List.getElem?_set, if_pos rfl, if_pos ha]
    have h1 : ∀ j M, mulA (.int 7919) (.int j) M = .ok (.int (7919 * j)) M := fun j M => mulA_l (by decide)
    have hx : ∀ x : Int, 0 ≤ x.fmod 1000000007 ∧ x.fmod 1000000007 < 1000000007 := fun x => by rw [Int.fmod_eq_emod_of_nonneg _ (by decide)]; omega
    have hy : ∀ x : Int, 0 ≤ x.fmod 998244353 ∧ x.fmod 998244353 < 998244353 := fun x => by rw [Int.fmod_eq_emod_of_nonneg _ (by decide)]; omega
    have h2 : ∀ (x y : Int) M, mulA (.int (x.fmod 1000000007 + 11)) (.int y) M = .ok (.int ((x.fmod 1000000007 + 11) * y)) M := fun x y M => mulA_l (by have := hx x; omega)
    have h3 : ∀ (x y : Int) M, mulA (.int (x.fmod 998244353)) (.int y) M = .ok (.int (x.fmod 998244353 * y)) M := fun x y M => mulA_l (by have := hy x; omega)
    simp_arith [e, Po.cell, hd, hm, decide_eq_false hp, hs, h1, h2, h3]
    unfold Po.dig Po.nxt
    rw [if_neg hp, if_neg hp]
    simp only [Int.fmod_eq_emod_of_nonneg _ (show (0 : Int) ≤ 1000000007 by decide), Int.fmod_eq_emod_of_nonneg _ (show (0 : Int) ≤ 998244353 by decide), Int.fmod_eq_emod_of_nonneg _ (show (0 : Int) ≤ 2147483647 by decide), Int.fdiv_eq_ediv_of_nonneg _ (show (0 : Int) ≤ 8 by decide), Int.fmod_eq_emod_of_nonneg _ (show (0 : Int) ≤ base by omega)]
def PO (a : Nat) (M : Mem) : Prop := ∃ p : Po, M[a]? = some p.cell
theorem PO.fr {a : Nat} {M M' : Mem} (h : PO a M) {S : List Nat} (f : Fr S M M') (hs : a ∉ S) : PO a M' := by
  obtain ⟨p, e⟩ := h
  exact ⟨p, f.get e hs⟩
theorem next_ok {a : Nat} {base : Int} {M : Mem} (e : PO a M) (h : 0 < base) (hb : base.natAbs < 10 ^ 100) :
    Ok (f_l_next kC [.ref a, .int base] M) fun t M' => ∃ d : Int, t = .int d ∧ 0 ≤ d ∧ d < base ∧ PO a M' ∧ Fr [a] M M' := by
  obtain ⟨p, e⟩ := e
  exact Ok.of (l_next_eq kC p a base M e h hb) ⟨_, rfl, p.dig_lo h, p.dig_hi h, ⟨_, get_set e⟩, Fr.set _ _ _⟩
theorem wide_ok {a : Nat} {base : Int} {M : Mem} (e : PO a M) (h : 0 < base) (hb : base.natAbs < 10 ^ 100) :
    Ok (f_l_wide kC [.ref a, .int base] M) fun t M' => ∃ d : Int, t = .int d ∧ 0 ≤ d ∧ d < base ∧ PO a M' ∧ Fr [a] M M' := by
  refine runDef_ok rfl ?_
  unfold g_l_wide
  by_cases hs : base < 100000000
  · simp_all_arith [decide_eq_true hs]
    refine Ok.bind (next_ok kC e h hb) ?_
    rintro t M1 ⟨d, rfl, h1, h2, h3, h4⟩
    try simp_all_arith [and_self]
    exact Ok.ret ⟨d, rfl, h1, h2, h3, h4⟩
  · simp_all_arith [decide_eq_false hs, rng1_rg (show -(2 ^ 62) ≤ (4 : Int) ∧ (4 : Int) < 2 ^ 62 by decide)]
    refine Ok.bind (Ok.for (fun _ σ M' => ∃ (f : Int) (k : Option FT.T), σ = [some (.ref a), some (.int base), some (.int f), k] ∧ PO a M' ∧ Fr [a] M M') ⟨0, none, rfl, e, Fr.refl _ _⟩ ?_) ?_
    · rintro k x σ M1 hx ⟨f, kk, rfl, h1, h2⟩
      unfold b0_l_wide
      have hm : mulA (.int f) (.int 268435456) M1 = .ok (.int (f * 268435456)) M1 := mulA_r (by decide)
      simp_all_arith [hm]
      refine Ok.bind (next_ok kC h1 (by decide) (by decide)) ?_
      rintro t M2 ⟨d, rfl, d1, d2, d3, d4⟩
      try simp_all_arith [and_self]
      exact Ok.ret ⟨_, rfl, _, _, rfl, d3, h2.trans d4⟩
    · rintro fl M1 ⟨σ, rfl, f, kk, rfl, h1, h2⟩
      have hm : modI (.int f) (.int base) M1 = .ok (.int (f.fmod base)) M1 := modI_ii (by omega)
      simp_all_arith [hm]
      refine Ok.ret ⟨_, rfl, ?_, ?_, h1, h2⟩
      · rw [Int.fmod_eq_emod_of_nonneg _ (by omega)]; exact Int.emod_nonneg _ (by omega)
      · rw [Int.fmod_eq_emod_of_nonneg _ (by omega)]; exact Int.emod_lt_of_pos _ h
def BN (x : Int) : Prop := -(10 ^ 30) ≤ x ∧ x ≤ 10 ^ 30
theorem ix01 {d : Int} (h : 0 ≤ d ∧ d < 4) : ∃ z : Int, atI [FT.T.int 0, .int 0, .int 0, .int 1] d = some (.int z) ∧ (z = 0 ∨ z = 1) := by
  have : d = 0 ∨ d = 1 ∨ d = 2 ∨ d = 3 := by omega
  rcases this with rfl | rfl | rfl | rfl
  · exact ⟨0, rfl, .inl rfl⟩
  · exact ⟨0, rfl, .inl rfl⟩
  · exact ⟨0, rfl, .inl rfl⟩
  · exact ⟨1, rfl, .inr rfl⟩
theorem number_ok {a : Nat} {size sort : Int} {M : Mem} (e : PO a M) (h : 0 < size) (hb : size ≤ 10 ^ 30) :
    Ok (f_l_number kC [.ref a, .int size, .int sort] M) fun t M' => ∃ d : Int, t = .int d ∧ BN d ∧ PO a M' ∧ Fr [a] M M' := by
  refine runDef_ok rfl ?_
  unfold g_l_number BN
  simp only [Int.reducePow] at hb ⊢
  have m2 : ∀ M, mulA (.int 2) (.int size) M = .ok (.int (2 * size)) M := fun M => mulA_l (by decide)
  have bd : ∀ x : Int, 0 < x → x ≤ 10000000000000000000000000000000 → x.natAbs < 10 ^ 100 := fun x h1 h2 => Nat.lt_of_le_of_lt (show x.natAbs ≤ 10 ^ 31 by simp only [Nat.reducePow]; omega) (Nat.pow_lt_pow_right (by decide) (by decide))
  by_cases hs : sort = 0
  · simp_all_arith [hs, m2, decide_true]
    refine Ok.bind (wide_ok kC e (by omega) (bd _ (by omega) (by omega))) ?_
    rintro t M1 ⟨d, rfl, h1, h2, h3, h4⟩
    try simp_all_arith [and_self]
    exact Ok.ret ⟨_, rfl, by omega, h3, h4⟩
  · have hne : (sort == 0) = false := by simpa using hs
    simp_all_arith [hne]
    refine Ok.bind (wide_ok kC e (by omega) (bd _ (by omega) (by omega))) ?_
    rintro t M1 ⟨d, rfl, h1, h2, h3, h4⟩
    try simp_all_arith [and_self]
    refine Ok.bind (next_ok kC h3 (by decide) (by decide)) ?_
    rintro t M2 ⟨i, rfl, i1, i2, i3, i4⟩
    obtain ⟨z, hz, hz2⟩ := ix01 ⟨i1, i2⟩
    simp_all_arith [hz]
    refine Ok.bind (wide_ok kC i3 (by omega) (bd _ (by omega) (by omega))) ?_
    rintro t M3 ⟨d', rfl, g1, g2, g3, g4⟩
    have hm : mulA (.int z) (.int d') M3 = .ok (.int (z * d')) M3 := mulA_l (by omega)
    simp_all_arith [hm]
    refine Ok.ret ⟨_, rfl, ?_, g3, (h4.trans i4).trans g4⟩
    rcases hz2 with rfl | rfl
    · rw [Int.zero_mul]; omega
    · rw [Int.one_mul]; omega
end My
namespace My
open PySem L2 FT
variable (kC : Addr)
abbrev Dm := Int × Int
def dmT (d : Dm) : FT.T := .tup [.tup [.int d.1], .int d.2]
def BD (d : Dm) : Prop := BN d.1 ∧ BN d.2
theorem bound_at {d : Int} (h : 0 ≤ d ∧ d < 4) (x y z : Int) (hx : 0 < x ∧ x ≤ 10 ^ 30) (hy : 0 < y ∧ y ≤ 10 ^ 30) (hz : 0 < z ∧ z ≤ 10 ^ 30) : ∃ b : Int, atI [FT.T.int x, .int y, .int z, .int 1000000000000000000000000000000] d = some (.int b) ∧ 0 < b ∧ b ≤ 10 ^ 30 := by
  have : d = 0 ∨ d = 1 ∨ d = 2 ∨ d = 3 := by omega
  rcases this with rfl | rfl | rfl | rfl
  · exact ⟨x, rfl, hx⟩
  · exact ⟨y, rfl, hy⟩
  · exact ⟨z, rfl, hz⟩
  · exact ⟨_, rfl, by decide, by decide⟩
theorem demands_ok {a : Nat} {n : Int} {M : Mem} (e : PO a M) (hn : 0 ≤ n ∧ n < 10) :
    Ok (f_l_demands kC [.ref a, .int 1, .int n] M) fun t M' => ∃ (r : Nat) (ds : List Dm), t = .ref r ∧ r ≠ a ∧ M'[r]? = some (.lst (ds.map dmT)) ∧ ds.length = n.toNat ∧ (∀ d ∈ ds, BD d) ∧ PO a M' ∧ Fr [a] M M' := by
  refine runDef_ok rfl ?_
  unfold g_l_demands
  try simp_all_arith [and_self]
  refine Ok.bind (next_ok kC e (by decide) (by decide)) ?_
  rintro t M1 ⟨i, rfl, i1, i2, i3, i4⟩
  obtain ⟨b, hb, b1, b2⟩ := bound_at ⟨i1, i2⟩ 2 4 10 (by decide) (by decide) (by decide)
  simp_all_arith [hb]
  refine Ok.bind (next_ok kC i3 (by decide) (by decide)) ?_
  rintro t M2 ⟨so, rfl, s1, s2, s3, s4⟩
  simp_all_arith [rng1_rg (show -(2 ^ 62) ≤ n ∧ n < 2 ^ 62 by omega)]
  have al : a < M2.length := by obtain ⟨p, q⟩ := s3; exact get_lt q
  refine Ok.bind (Ok.for (fun j σ M' => ∃ (ds : List Dm) (k1 k2 : Option FT.T), σ = [some (.ref a), some (.int 1), some (.int n), some (.int b), some (.int so), some (.ref M2.length), k1, k2] ∧ M'[M2.length]? = some (.lst (ds.map dmT)) ∧ ds.length = j ∧ (∀ d ∈ ds, BD d) ∧ PO a M' ∧ Fr [a] M M') ?_ ?_) ?_
  · exact ⟨[], none, none, rfl, get_app, rfl, by simp, s3.fr (Fr.app _ _) (by simp), (i4.trans s4).trans (Fr.app _ _).mono⟩
  · rintro k x σ M3 hx ⟨ds, k1, k2, rfl, c1, c2, c3, c4, c5⟩
    have hk := (rgI_get hx).1
    unfold b0_l_demands
    simp_all_arith [rng1_rg (show -(2 ^ 62) ≤ (1 : Int) ∧ (1 : Int) < 2 ^ 62 by decide)]
    rw [show rgI 1 = [0] from rfl]
    have one : Ok (compL (bName 0) tYes (eCall (f_l_number kC) (aCons (eVar 1) (aCons (eVar 2) (aCons (eVar 3) aNil)))) [FT.T.int 0] [none, some (FT.T.ref a), some (.int b), some (.int so)] M3 []) fun ts M' => ∃ d : Int, ts = [.int d] ∧ BN d ∧ PO a M' ∧ Fr [a] M3 M' := by
      unfold compL
      try simp_all_arith [and_self]
      refine Ok.bind (number_ok kC c4 b1 b2) ?_
      rintro t M4 ⟨d, rfl, d1, d2, d3⟩
      unfold compL
      exact Ok.ret ⟨d, rfl, d1, d2, d3⟩
    refine Ok.bind one ?_
    rintro ts M4 ⟨d, rfl, d1, d2, d3⟩
    have cc := d3.get c1 (by simp; omega)
    simp_all_arith [lstChk_ref cc, show ∀ (xs : List FT.T) M, tupleK (.lst xs) M = .ok (.tup xs) M from fun _ _ => rfl]
    refine Ok.bind (next_ok kC d2 (by decide) (by decide)) ?_
    rintro t M5 ⟨so2, rfl, q1, q2, q3, q4⟩
    try simp_all_arith [and_self]
    refine Ok.bind (number_ok kC q3 b1 b2) ?_
    rintro t M6 ⟨d', rfl, f1, f2, f3⟩
    have fr36 : Fr [a] M3 M6 := (d3.trans q4).trans f3
    have c6 := fr36.get c1 (by simp; omega)
    have ap := appT_ref (t := .tup [.tup [.int d], .int d']) c6 (by rw [List.length_map, sizeLine_eq]; omega)
    simp_all_arith [ap]
    refine Ok.ret ⟨_, rfl, ds ++ [(d, d')], _, _, rfl, ?_, by simp [c2], ?_, ?_, ?_⟩
    · rw [get_set c6]; simp [dmT]
    · intro z hz
      rcases List.mem_append.mp hz with hz | hz
      · exact c3 z hz
      · rw [List.mem_singleton.mp hz]; exact ⟨d1, f1⟩
    · exact f2.fr (Fr.set _ _ _) (by simp; omega)
    · have l6 : M.length ≤ M2.length := (i4.trans s4).1
      exact (c5.trans fr36).tr (Fr.set _ _ _) (by simp; omega)
  · rintro fl M3 ⟨σ, rfl, ds, k1, k2, rfl, c1, c2, c3, c4, c5⟩
    try simp_all_arith [and_self]
    exact Ok.ret ⟨_, ds, rfl, by omega, c1, by rw [c2, rgI_len], c3, c4, c5⟩
theorem aim_ok {a : Nat} {M : Mem} (e : PO a M) :
    Ok (f_l_aim kC [.ref a, .int 1] M) fun t M' => ∃ c : Int, t = .tup [.int c] ∧ 0 ≤ c ∧ BN c ∧ PO a M' ∧ Fr [a] M M' := by
  refine runDef_ok rfl ?_
  unfold g_l_aim
  try simp_all_arith [and_self]
  refine Ok.bind (next_ok kC e (by decide) (by decide)) ?_
  rintro t M1 ⟨i, rfl, i1, i2, i3, i4⟩
  obtain ⟨b, hb, b1, b2⟩ := bound_at ⟨i1, i2⟩ 1 3 9 (by decide) (by decide) (by decide)
  simp_all_arith [hb, rng1_rg (show -(2 ^ 62) ≤ (1 : Int) ∧ (1 : Int) < 2 ^ 62 by decide)]
  rw [show rgI 1 = [0] from rfl]
  have one : Ok (compL (bName 0) tYes (eCall (f_l_wide kC) (aCons (eVar 1) (aCons (eOp addA (eVar 2) (eC (.int 1))) aNil))) [FT.T.int 0] [none, some (FT.T.ref a), some (.int b)] M1 []) fun ts M' => ∃ d : Int, ts = [.int d] ∧ 0 ≤ d ∧ BN d ∧ PO a M' ∧ Fr [a] M1 M' := by
    unfold compL
    try simp_all_arith [and_self]
    simp only [Int.reducePow] at b2
    refine Ok.bind (wide_ok kC i3 (by omega) (Nat.lt_of_le_of_lt (show (b + 1).natAbs ≤ 10 ^ 31 by simp only [Nat.reducePow]; omega) (Nat.pow_lt_pow_right (by decide) (by decide)))) ?_
    rintro t M4 ⟨d, rfl, d1, d2, d3, d4⟩
    unfold compL
    exact Ok.ret ⟨d, rfl, d1, by unfold BN; simp only [Int.reducePow]; omega, d3, d4⟩
  refine Ok.bind one ?_
  rintro ts M4 ⟨d, rfl, d0, d1, d2, d3⟩
  simp_all_arith [show ∀ (xs : List FT.T) M, tupleK (.lst xs) M = .ok (.tup xs) M from fun _ _ => rfl]
  exact Ok.ret ⟨d, rfl, d0, d1, d2, i4.trans d3⟩
theorem cell_ok (ns : List Int) (n : Nat) (hn : n ≤ 100) (M : Mem) : ∃ c, f_l_cell kC [.lst (ns.map .int), .int (n : Int)] M = .ok (.int c) M := by
  unfold f_l_cell g_l_cell
  by_cases h : n < ns.length
  · refine ⟨ns[n], ?_⟩
    have a : atI (ns.map FT.T.int) (n : Int) = some (.int ns[n]) := by rw [FT.atI_nat]; simp [h]
    have d : decide ((n : Int) < ((ns.map FT.T.int).length : Int)) = true := decide_eq_true (by rw [List.length_map]; omega)
    simp_arith [d, a]
  · have d : decide ((n : Int) < ((ns.map FT.T.int).length : Int)) = false := decide_eq_false (by rw [List.length_map]; omega)
    exact ⟨0, by simp_arith [d]⟩
end My
namespace My
open PySem L2 FT
variable (kC : Addr)
theorem mulB {i j : Int} {M : Mem} (m n : Nat) (h1 : i.natAbs < 10 ^ m) (h2 : j.natAbs < 10 ^ n) (hm : m ≤ 3000 := by decide) (hn : n ≤ 3000 := by decide) : mulA (.int i) (.int j) M = .ok (.int (i * j)) M := mulA_ii (Mo64.of m n hm hn h1 h2)
theorem absK_i {i : Int} {M : Mem} : absK (.int i) M = .ok (.int (if i < 0 then -i else i)) M := rfl
def y3 (σ : FT.Ev) : Nat := match (σ[3]? : Option (Option FT.T)) with
  | some (some (FT.T.int y)) => y.toNat
  | _ => 0
theorem common_ok (a b : Int) (M : Mem) : Ok (f_common kC [.int a, .int b] M) fun t M' => t = .int (Int.gcd a b) ∧ M' = M := by
  refine runDef_ok rfl ?_
  unfold g_common
  simp_all_arith [absK_i]
  refine Ok.bind (Ok.while (fun σ M' => M' = M ∧ ∃ (x y : Int) (v : Option FT.T), σ = [some (.int a), some (.int b), some (.int x), some (.int y), v] ∧ 0 ≤ x ∧ 0 ≤ y ∧ Int.gcd x y = Int.gcd a b) (fun σ _ => y3 σ)
    (Q := fun σ M' => M' = M ∧ ∃ (x y : Int) (v : Option FT.T), σ = [some (.int a), some (.int b), some (.int (Int.gcd a b)), some (.int y), v]) (R := fun _ _ => False) ?_ ?_) ?_
  · exact ⟨rfl, _, _, none, rfl, abs_nn a, abs_nn b, by rw [gcd_abs, Int.gcd_comm, gcd_abs, Int.gcd_comm]⟩
  · rintro σ M' ⟨rfl, x, y, v, rfl, hx, hy, hg⟩
    unfold b1_common b0_common
    by_cases h0 : y = 0
    · subst h0
      simp_all_arith [and_self]
      refine Ok.ret (.inr ⟨rfl, rfl, x, 0, v, ?_⟩)
      rw [← hg, gcd_zero x hx]
    · have hne : (!(y == 0)) = true := by simpa using h0
      simp_all_arith [hne]
      refine Ok.ret (.inl ⟨rfl, ?_⟩)
      have hm : modI (.int x) (.int y) M' = .ok (.int (x.fmod y)) M' := modI_ii h0
      simp_all_arith [hm]
      have e : x.fmod y = x % y := Int.fmod_eq_emod_of_nonneg _ hy
      have l1 := Int.emod_nonneg x h0
      have l2 := Int.emod_lt_of_pos x (show 0 < y by omega)
      refine Ok.ret (.inl ⟨_, .inl rfl, ⟨rfl, y, x.fmod y, _, rfl, hy, by omega, ?_⟩, ?_⟩)
      · rw [e]; exact (gcd_step x y).trans hg
      · show (x.fmod y).toNat < y.toNat
        omega
  · rintro fl M' (⟨σ, rfl, rfl, x, y, v, rfl⟩ | ⟨t, _, z⟩)
    · simp_all_arith [and_self]
      exact Ok.ret ⟨rfl, rfl⟩
    · exact z.elim
structure Low (t b : Int) (q : Int × Int) : Prop where
  eq : q.1 * b = t * q.2
  pos : 0 < q.2
  le : q.2 ≤ b
  bd : q.1.natAbs ≤ t.natAbs
  nn : 0 ≤ t → 0 ≤ q.1
def qT (q : Int × Int) : FT.T := .tup [.int q.1, .int q.2]
theorem lowest_ok {t b : Int} (hb : 0 < b) (bb : b.natAbs < 10 ^ 100) (M : Mem) : Ok (f_lowest kC [.int t, .int b] M) fun r M' => ∃ q : Int × Int, r = qT q ∧ Low t b q ∧ M' = M := by
  refine runDef_ok rfl ?_
  unfold g_lowest
  simp_all_arith [and_self]
  refine Ok.bind (common_ok kC t b M) ?_
  rintro r M' ⟨rfl, rfl⟩
  have gp : 0 < Int.gcd t b := Int.gcd_pos_of_ne_zero_right _ (by omega)
  have gb : Int.gcd t b ≤ b.natAbs := Nat.le_of_dvd (by omega) (Int.gcd_dvd_natAbs_right t b)
  have hd : ∀ i M, divI (.int i) (.int (Int.gcd t b : Int)) M = .ok (.int (i.fdiv (Int.gcd t b : Int))) M := fun i M => divI_ii (dv_ok 100 (by decide) (by omega) (Nat.lt_of_le_of_lt (by omega) bb))
  simp_all_arith [decide_eq_false (show ¬ b < 0 by omega), hd]
  have d1 : (Int.gcd t b : Int) ∣ t := Int.gcd_dvd_left t b
  have d2 : (Int.gcd t b : Int) ∣ b := Int.gcd_dvd_right t b
  rw [Int.fdiv_eq_ediv_of_nonneg _ (by omega), Int.fdiv_eq_ediv_of_nonneg _ (by omega)]
  have e1 := Int.ediv_mul_cancel d1
  have e2 := Int.ediv_mul_cancel d2
  have g0 : 0 < (Int.gcd t b : Int) := by omega
  generalize (Int.gcd t b : Int) = g at *
  generalize t / g = u at *
  generalize b / g = w at *
  refine Ok.ret ⟨(u, w), rfl, ⟨?_, ?_, ?_, ?_, ?_⟩, rfl⟩
  · show u * b = t * w
    rw [← e1, ← e2]
    simp [Int.mul_comm, Int.mul_left_comm, Int.mul_assoc]
  · show 0 < w
    rw [← e2] at hb
    exact Int.pos_of_mul_pos_left hb g0
  · show w ≤ b
    have hw : 0 < w := by rw [← e2] at hb; exact Int.pos_of_mul_pos_left hb g0
    have := Int.mul_le_mul_of_nonneg_left (show 1 ≤ g by omega) (show 0 ≤ w by omega)
    rw [e2] at this
    omega
  · show u.natAbs ≤ t.natAbs
    rw [← e1, Int.natAbs_mul]
    exact Nat.le_mul_of_pos_right _ (by omega)
  · intro ht
    show 0 ≤ u
    rw [← e1] at ht
    exact Int.nonneg_of_mul_nonneg_left ht g0
end My
namespace My
open PySem L2 FT
variable (kC : Addr)
def NB (m : Nat) (x : Int) : Prop := x.natAbs < 10 ^ m
theorem NB.mul {m n : Nat} {x y : Int} (h : NB m x) (g : NB n y) : NB (m + n) (x * y) := by
  unfold NB at *
  rw [Int.natAbs_mul, Nat.pow_add]
  exact Nat.mul_lt_mul'' h g
theorem NB.mono {m n : Nat} {x : Int} (h : NB m x) (l : m ≤ n) : NB n x := Nat.lt_of_lt_of_le h (Nat.pow_le_pow_right (by decide) l)
theorem NB.add {m : Nat} {x y : Int} (h : NB m x) (g : NB m y) : NB (m + 1) (x + y) := by
  unfold NB at *
  rw [Nat.pow_succ]
  omega
theorem NB.sub {m : Nat} {x y : Int} (h : NB m x) (g : NB m y) : NB (m + 1) (x - y) := by
  unfold NB at *
  rw [Nat.pow_succ]
  omega
theorem NB.neg {m : Nat} {x : Int} (h : NB m x) : NB m (-x) := by unfold NB at *; omega
theorem BN.nb {x : Int} (h : BN x) : NB 31 x := by
  unfold BN at h
  unfold NB
  simp only [Int.reducePow, Nat.reducePow] at *
  omega
theorem mulN {x y : Int} {M : Mem} {m n : Nat} (h : NB m x) (g : NB n y) (hm : m ≤ 3000 := by decide) (hn : n ≤ 3000 := by decide) : mulA (.int x) (.int y) M = .ok (.int (x * y)) M := mulB m n h g hm hn
def pt (d : Dm) : List FT.T := if d.1 = 0 then [] else [.tup [.int 0, .int d.1]]
def evD (d : Dm) : FT.T := .tup [.lst (pt d), .int d.2, .int (d.1 * d.1)]
theorem sum0 {M : Mem} : sumK (.lst []) M = .ok (.int 0) M := rfl
theorem sum1 {x : Int} {M : Mem} : sumK (.lst [.int x]) M = .ok (.int x) M := by
  show Out.ok (FT.T.int ([x].sum)) M = _
  simp
theorem en1 (x : FT.T) : enT [x] = [.tup [.int 0, x]] := rfl
theorem iSeqG_ref {f : FT.Ev → Mem → Out FT.T} {σ : FT.Ev} {M : Mem} {a : Nat} {xs : List FT.T} (e : f σ M = .ok (.ref a) M) (h : M[a]? = some (.lst xs)) : iSeqG f σ M = .ok (xs, [(a, xs)]) M := by
  unfold iSeqG
  rw [e]
  show (match lstG (.ref a) M with | some g => Out.ok g M | none => .bad) = _
  have : lstG (.ref a) M = some (xs, [(a, xs)]) := by unfold lstG; simp only [h]
  rw [this]
theorem all_ok {r : Nat} {ds : List Dm} {M : Mem} (h : M[r]? = some (.lst (ds.map dmT))) (hb : ∀ d ∈ ds, BD d) (hl : ds.length < 10) :
    Ok (f_all_demands kC [.ref r, .int 1] M) fun t M' => ∃ e, t = .ref e ∧ M.length ≤ e ∧ M'[e]? = some (.lst ((ds ++ [(1, 0)]).map evD)) ∧ Fr [] M M' := by
  refine runDef_ok rfl ?_
  unfold g_all_demands
  simp_all_arith [and_self]
  have hr : r < M.length := get_lt h
  have h1 : (M ++ [.lst []])[r]? = some (.lst (ds.map dmT)) := (Fr.app M [.lst []]).get0 h
  simp only [sForG, iSeqG_ref (f := eVar 0) (σ := [some (FT.T.ref r), some (.int 1), some (.ref M.length), none, none, none, none]) (M := M ++ [.lst []]) rfl h1]
  simp_all_arith [and_self]
  refine Ok.bind (Ok.forG (r := dmT) (fun j σ M' => ∃ v3 v4 v5 v6 : Option FT.T, σ = [some (.ref r), some (.int 1), some (.ref M.length), v3, v4, v5, v6] ∧ M'[r]? = some (.lst (ds.map dmT)) ∧ M'[M.length]? = some (.lst ((ds.take j).map evD)) ∧ Fr [] M M') ?_ ?_ ?_) ?_
  · rintro j σ M' ⟨_, _, _, _, _, q, _⟩
    exact gdOk_one q
  · exact ⟨none, none, none, none, rfl, h1, by simp [get_app], Fr.app _ _⟩
  · rintro k d σ M1 hk ⟨v3, v4, v5, v6, rfl, c1, c2, c3⟩
    have bd := hb d (List.mem_of_getElem? hk)
    have kl : k < ds.length := (List.getElem?_eq_some_iff.mp hk).1
    unfold b0_all_demands dmT
    have fin : ∀ (ps : List FT.T) (sq : Int), ps = pt d → sq = d.1 * d.1 → Ok (Out.ok (Fl.nx [some (FT.T.ref r), some (.int 1), some (.ref M.length), some (.tup [.int d.1]), some (.int d.2), some (.lst ps), v6]) (M1.set M.length (.lst ((ds.take k).map evD ++ [.tup [.lst ps, .int d.2, .int sq]])))) fun fl M' =>
        ∃ σ', fl = .nx σ' ∧ ∃ v3 v4 v5 v6 : Option FT.T, σ' = [some (.ref r), some (.int 1), some (.ref M.length), v3, v4, v5, v6] ∧ M'[r]? = some (.lst (ds.map dmT)) ∧ M'[M.length]? = some (.lst ((ds.take (k + 1)).map evD)) ∧ Fr [] M M' := by
      intro ps sq e1 e2
      subst e1; subst e2
      refine Ok.ret ⟨_, rfl, _, _, _, _, rfl, (Fr.set _ _ _).get c1 (by simp; omega), ?_, ?_⟩
      · rw [get_set c2, List.take_add_one, hk]
        simp [evD]
      · exact c3.tr (Fr.set _ _ _) (by simp)
    have lc := lstChk_ref c2
    by_cases h0 : d.1 = 0
    · have ap := appT_ref (t := .tup [.lst [], .int d.2, .int 0]) c2 (by rw [List.length_map, List.length_take, sizeLine_eq]; omega)
      simp_all_arith [iEnum, en1, compL, h0, beq_self_eq_true, lc, sum0, ap]
      have := fin [] 0 (by simp [pt, h0]) (by simp [h0])
      rw [h0] at this
      exact this
    · have hne : (!(d.1 == 0)) = true := by simpa using h0
      have m1 : ∀ M, mulA (.int d.1) (.int d.1) M = .ok (.int (d.1 * d.1)) M := fun M => mulN bd.1.nb bd.1.nb
      have ap := appT_ref (t := .tup [.lst [.tup [.int 0, .int d.1]], .int d.2, .int (d.1 * d.1)]) c2 (by rw [List.length_map, List.length_take, sizeLine_eq]; omega)
      simp_all_arith [iEnum, en1, compL, hne, lc, sum1, ap, m1, show (0 : Nat) < sizeLine by decide]
      exact fin [.tup [.int 0, .int d.1]] _ (by simp [pt, h0]) rfl
  · rintro fl M1 ⟨σ, rfl, v3, v4, v5, v6, rfl, c1, c2, c3⟩
    rw [List.take_length] at c2
    have lc := lstChk_ref c2
    have ap := appT_ref (t := .tup [.lst [.tup [.int 0, .int 1]], .int 0, .int 1]) c2 (by rw [List.length_map, sizeLine_eq]; omega)
    simp_all_arith [rng1_rg (show -(2 ^ 62) ≤ (1 : Int) ∧ (1 : Int) < 2 ^ 62 by decide)]
    rw [show rgI 1 = [0] from rfl]
    simp only [List.map_cons, List.map_nil, forL]
    unfold b1_all_demands
    simp_all_arith [lc, ap]
    refine Ok.ret ⟨_, rfl, Nat.le_refl _, ?_, c3.tr (Fr.set _ _ _) (by simp)⟩
    rw [get_set c2]
    simp [evD, pt]
end My
namespace My
open PySem L2 FT
variable (kC : Addr)
def corF (ch : FT.T) (p b : Int) (l : Nat) : List (Str × FT.T) := [("chosen", ch), ("point", .lst [.int p]), ("lines", .ref l), ("bottom", .int b)]
structure Cor (M : Mem) (k : Nat) (i p b c : Int) (ch : FT.T) (l : Nat) : Prop where
  ins : M[k]? = some (.ins kC (corF ch p b l))
  lin : M[l]? = some (.lst [.lst [.int c, .int 1, .int 1]])
  cho : lstOf ch M = some [.int i]
theorem Cor.fr {M M' : Mem} {k : Nat} {i p b c : Int} {ch : FT.T} {l : Nat} (h : Cor kC M k i p b c ch l) (f : Fr [] M M') : Cor kC M' k i p b c ch l := by
  refine ⟨f.get0 h.ins, f.get0 h.lin, ?_⟩
  have := h.cho
  cases ch with
  | ref a =>
    replace this : (match M[a]? with | some (.lst xs) => some xs | _ => none) = some [FT.T.int i] := this
    show (match M'[a]? with | some (.lst xs) => some xs | _ => none) = some [FT.T.int i]
    cases q : M[a]? with
    | none => rw [q] at this; cases this
    | some cl => rw [q] at this; rw [f.get0 q]; exact this
  | _ => exact this
theorem fld_eq {k : Nat} {fs : List (Str × FT.T)} {f : Str} {t : FT.T} {M : Mem} (h : M[k]? = some (.ins kC fs)) (e : fs.lookup f = some t) : fldT [kC] f (.ref k) M = .ok t M := by
  unfold fldT
  simp only [h, e, List.mem_singleton, if_true, optT]
section
variable {kC}
variable {M : Mem} {k : Nat} {i p b c : Int} {ch : FT.T} {l : Nat}
theorem Cor.point (h : Cor kC M k i p b c ch l) : fldT [kC] "point" (.ref k) M = .ok (.lst [.int p]) M := fld_eq kC h.ins rfl
theorem Cor.bottom (h : Cor kC M k i p b c ch l) : fldT [kC] "bottom" (.ref k) M = .ok (.int b) M := fld_eq kC h.ins rfl
theorem Cor.lines (h : Cor kC M k i p b c ch l) : fldT [kC] "lines" (.ref k) M = .ok (.ref l) M := fld_eq kC h.ins rfl
theorem Cor.chosen (h : Cor kC M k i p b c ch l) : fldT [kC] "chosen" (.ref k) M = .ok ch M := fld_eq kC h.ins rfl
end
def lack (d : Dm) (p b : Int) : Int := d.2 * b - d.1 * p
theorem lack_eq {M : Mem} {k : Nat} {i p b c : Int} {ch : FT.T} {l : Nat} (h : Cor kC M k i p b c ch l) {d : Dm} (hd : BD d) (hp : BN p) (hb : BN b) : f_lack_of kC [evD d, .ref k] M = .ok (.int (lack d p b)) M := by
  have : Ok (f_lack_of kC [evD d, .ref k] M) fun t M' => t = .int (lack d p b) ∧ M' = M := by
    refine runDef_ok rfl ?_
    unfold g_lack_of evD lack
    have m1 : mulA (.int d.2) (.int b) M = .ok (.int (d.2 * b)) M := mulN hd.2.nb hb.nb
    have m2 : mulA (.int d.1) (.int p) M = .ok (.int (d.1 * p)) M := mulN hd.1.nb hp.nb
    by_cases h0 : d.1 = 0
    · simp_all_arith [eFld, h.point, h.bottom, pt, h0, m1, compL, sum0]
      exact Ok.ret ⟨by simp, rfl⟩
    · simp_all_arith [eFld, h.point, h.bottom, pt, h0, m1, compL, m2, sum1, show (0 : Nat) < sizeLine by decide]
      exact Ok.ret ⟨rfl, rfl⟩
  obtain ⟨t, M', e, rfl, rfl⟩ := this
  exact e
theorem enT_map (es : List Dm) : enT (es.map evD) = (es.mapIdx fun j d => ((j : Nat), d)).map fun x => .tup [.int (x.1 : Int), evD x.2] := by
  unfold enT
  apply List.ext_getElem?
  intro n
  simp [List.getElem?_mapIdx]
  rfl
theorem mI_get {es : List Dm} {k : Nat} {x : Nat × Dm} (h : (es.mapIdx fun j d => ((j : Nat), d))[k]? = some x) : x.1 = k ∧ es[k]? = some x.2 := by
  rw [List.getElem?_mapIdx] at h
  obtain ⟨d, e, rfl⟩ := Option.map_eq_some_iff.mp h
  exact ⟨rfl, e⟩
theorem iEnumG_ref {f : FT.Ev → Mem → Out FT.T} {σ : FT.Ev} {M : Mem} {a : Nat} {xs : List FT.T} (e : f σ M = .ok (.ref a) M) (h : M[a]? = some (.lst xs)) : iEnumG f σ M = .ok (enT xs, [(a, xs)]) M := by
  unfold iEnumG
  rw [e]
  show (match lstG (.ref a) M with | some g => Out.ok (enT g.1, g.2) M | none => .bad) = _
  have : lstG (.ref a) M = some (xs, [(a, xs)]) := by unfold lstG; simp only [h]
  rw [this]
theorem iEnumG_lst {f : FT.Ev → Mem → Out FT.T} {σ : FT.Ev} {M : Mem} {xs : List FT.T} (e : f σ M = .ok (.lst xs) M) : iEnumG f σ M = .ok (enT xs, []) M := by
  unfold iEnumG
  rw [e]
  rfl
def Brk (es : List Dm) (p b : Int) (t : FT.T) : Prop := (t = .non ∧ ∀ d ∈ es, lack d p b ≤ 0) ∨ ∃ (n : Nat) (d : Dm), t = .int (n : Int) ∧ es[n]? = some d ∧ 0 < lack d p b
theorem isN_non {M : Mem} : isN .non .non M = .ok (.bl true) M := rfl
theorem isN_int {i : Int} {M : Mem} : isN (.int i) .non M = .ok (.bl false) M := rfl
theorem isntN_non {M : Mem} : isntN .non .non M = .ok (.bl false) M := rfl
theorem isntN_int {i : Int} {M : Mem} : isntN (.int i) .non M = .ok (.bl true) M := rfl
theorem most_ok {e k : Nat} {es : List Dm} {M : Mem} {i p b c : Int} {ch : FT.T} {l : Nat} (he : M[e]? = some (.lst (es.map evD))) (h : Cor kC M k i p b c ch l) (hd : ∀ d ∈ es, BD d) (hp : BN p) (hb : BN b) (hl : es.length < 100) :
    Ok (f_most_broken kC [.ref e, .ref k] M) fun t M' => M' = M ∧ Brk es p b t := by
  refine runDef_ok rfl ?_
  unfold g_most_broken
  simp_all_arith [and_self]
  simp only [sForG, iEnumG_ref (f := eVar 0) (σ := [some (FT.T.ref e), some (.ref k), some .non, some (.int 0), none, none, none]) (M := M) rfl he]
  simp_all_arith [enT_map]
  refine Ok.bind (Ok.forG (fun j σ M' => M' = M ∧ ∃ (w : FT.T) (wl : Int) (v4 v5 v6 : Option FT.T), σ = [some (.ref e), some (.ref k), some w, some (.int wl), v4, v5, v6] ∧
    ((w = .non ∧ ∀ n d, n < j → es[n]? = some d → lack d p b ≤ 0) ∨ ∃ (n : Nat) (d : Dm), w = .int (n : Int) ∧ es[n]? = some d ∧ 0 < lack d p b ∧ wl = lack d p b)) ?_ ?_ ?_) ?_
  · rintro j σ M' ⟨rfl, _⟩
    exact gdOk_one he
  · exact ⟨rfl, .non, 0, none, none, none, rfl, .inl ⟨rfl, fun n d hn => by omega⟩⟩
  · rintro j ⟨n, d⟩ σ M' hx ⟨rfl, w, wl, v4, v5, v6, rfl, hw⟩
    obtain ⟨rfl, hj⟩ := mI_get hx
    dsimp only at hj ⊢
    have bd := hd d (List.mem_of_getElem? hj)
    have le := lack_eq kC h bd hp hb
    unfold b0_most_broken
    have keep : lack d p b ≤ 0 → ∃ (w' : FT.T) (wl' : Int) (v4' v5' v6' : Option FT.T), [some (FT.T.ref e), some (.ref k), some w, some (.int wl), some (.int (n : Int)), some (evD d), some (.int (lack d p b))] = [some (.ref e), some (.ref k), some w', some (.int wl'), v4', v5', v6'] ∧
        ((w' = .non ∧ ∀ m d, m < n + 1 → es[m]? = some d → lack d p b ≤ 0) ∨ ∃ (m : Nat) (d : Dm), w' = .int (m : Int) ∧ es[m]? = some d ∧ 0 < lack d p b ∧ wl' = lack d p b) := fun hle => by
      refine ⟨w, wl, _, _, _, rfl, ?_⟩
      rcases hw with ⟨hw, hall⟩ | hw
      · refine .inl ⟨hw, fun m d' hm hd' => ?_⟩
        by_cases q : m = n
        · subst q; rw [hj] at hd'; cases hd'; exact hle
        · exact hall m d' (by omega) hd'
      · exact .inr hw
    by_cases h0 : 0 < lack d p b
    · rcases hw with ⟨rfl, hall⟩ | ⟨m, d', rfl, hm, hl2, rfl⟩
      · simp_all_arith [le, decide_eq_true h0, isN_non]
        exact Ok.ret ⟨_, rfl, rfl, _, _, _, _, _, rfl, .inr ⟨n, d, rfl, hj, h0, rfl⟩⟩
      · have bd' := hd d' (List.mem_of_getElem? hm)
        have ix : ixT (.ref e) (.int (m : Int)) M' = .ok (evD d') M' := ixT_ref he (by rw [FT.atI_nat]; simp [hm])
        have nl : ∀ d, BD d → NB 63 (lack d p b) := fun d bd => NB.sub (m := 62) ((bd.2.nb.mul hb.nb)) (bd.1.nb.mul hp.nb)
        have a1 : mulA (.int (lack d p b)) (.int (lack d p b)) M' = .ok (.int (lack d p b * lack d p b)) M' := mulN (nl d bd) (nl d bd)
        have a2 : mulA (.int (lack d p b * lack d p b)) (.int (d'.1 * d'.1)) M' = .ok (.int (lack d p b * lack d p b * (d'.1 * d'.1))) M' := mulN ((nl d bd).mul (nl d bd)) (bd'.1.nb.mul bd'.1.nb)
        have a3 : mulA (.int (lack d' p b)) (.int (lack d' p b)) M' = .ok (.int (lack d' p b * lack d' p b)) M' := mulN (nl d' bd') (nl d' bd')
        have a4 : mulA (.int (lack d' p b * lack d' p b)) (.int (d.1 * d.1)) M' = .ok (.int (lack d' p b * lack d' p b * (d.1 * d.1))) M' := mulN ((nl d' bd').mul (nl d' bd')) (bd.1.nb.mul bd.1.nb)
        have i2 : ∀ z : Dm, ∀ M, ixT (evD z) (.int 2) M = .ok (.int (z.1 * z.1)) M := fun z M => rfl
        cases q : decide (lack d' p b * lack d' p b * (d.1 * d.1) < lack d p b * lack d p b * (d'.1 * d'.1)) with
        | true =>
          simp (config := {decide := true}) only [sSeq, sIf, eCall, eOp, eVar, eC, aCons, aNil, tAndF, tOrF, tVal, bind_ok, bTup, bCons, bName, bNil, seqItems, getT, optT, List.length_cons, List.length_nil, List.set_cons_zero, List.set_cons_succ, List.getElem?_cons_zero, List.getElem?_cons_succ, Nat.zero_add, Nat.reduceAdd, reduceIte, Option.join_some, sSet, thenF_nx, blT_bl, bind_asc, le, decide_eq_true h0, isN_int, ix, i2, a1, a2, a3, a4, gtI_ii, q]
          exact Ok.ret ⟨_, rfl, rfl, _, _, _, _, _, rfl, .inr ⟨n, d, rfl, hj, h0, rfl⟩⟩
        | false =>
          simp (config := {decide := true}) only [sSeq, sIf, eCall, eOp, eVar, eC, aCons, aNil, tAndF, tOrF, tVal, bind_ok, bTup, bCons, bName, bNil, seqItems, getT, optT, List.length_cons, List.length_nil, List.set_cons_zero, List.set_cons_succ, List.getElem?_cons_zero, List.getElem?_cons_succ, Nat.zero_add, Nat.reduceAdd, reduceIte, Option.join_some, sSet, sNil, thenF_nx, blT_bl, bind_asc, le, decide_eq_true h0, isN_int, ix, i2, a1, a2, a3, a4, gtI_ii, q]
          exact Ok.ret ⟨_, rfl, rfl, _, _, _, _, _, rfl, .inr ⟨m, d', rfl, hm, hl2, rfl⟩⟩
    · simp_all_arith [le, decide_eq_false h0]
      exact Ok.ret ⟨_, rfl, rfl, keep (by omega)⟩
  · rintro fl M' ⟨σ, rfl, rfl, w, wl, v4, v5, v6, rfl, hw⟩
    simp_all_arith [and_self]
    refine Ok.ret ⟨rfl, ?_⟩
    rcases hw with ⟨rfl, hall⟩ | ⟨n, d, rfl, hn, h0, _⟩
    · refine .inl ⟨rfl, fun d hd => ?_⟩
      obtain ⟨n, hn, e⟩ := List.getElem_of_mem hd
      exact hall n d (by simpa using hn) (by rw [List.getElem?_eq_getElem hn, e])
    · exact .inr ⟨n, d, rfl, hn, h0⟩
end My
namespace My
open PySem L2 FT
variable (kC : Addr)
theorem setF_eq {k : Nat} {fs : List (Str × FT.T)} {f : Str} {y : FT.T} {M : Mem} (h : M[k]? = some (.ins kC fs)) (hl : fs.length < 1000) : setF [kC] f (.ref k) y M = .ok () (M.set k (.ins kC (putT f y fs))) := by
  unfold setF
  simp only [h, List.mem_singleton, true_and, if_pos hl]
theorem init_eq {k : Nat} {ch pn ln bt : FT.T} {M : Mem} (h : M[k]? = some (.ins kC [])) : f_Corner_init kC [.ref k, ch, pn, ln, bt] M = .ok .non (M.set k (.ins kC [("chosen", ch), ("point", pn), ("lines", ln), ("bottom", bt)])) := by
  have : Ok (f_Corner_init kC [.ref k, ch, pn, ln, bt] M) fun t M' => t = .non ∧ M' = M.set k (.ins kC [("chosen", ch), ("point", pn), ("lines", ln), ("bottom", bt)]) := by
    refine runDef_ok rfl ?_
    unfold g_Corner_init
    have s1 := setF_eq kC (f := "chosen") (y := ch) h (by decide)
    have e1 := get_set (c' := .ins kC (putT "chosen" ch [])) h
    have s2 := setF_eq kC (f := "point") (y := pn) e1 (show (1 : Nat) < 1000 by decide)
    rw [List.set_set] at s2
    have e2 := get_set (c' := .ins kC (putT "point" pn (putT "chosen" ch []))) h
    have s3 := setF_eq kC (f := "lines") (y := ln) e2 (show (2 : Nat) < 1000 by decide)
    rw [List.set_set] at s3
    have e3 := get_set (c' := .ins kC (putT "lines" ln (putT "point" pn (putT "chosen" ch [])))) h
    have s4 := setF_eq kC (f := "bottom") (y := bt) e3 (show (3 : Nat) < 1000 by decide)
    rw [List.set_set] at s4
    simp_all_arith [sFldS, s1, s2, s3, s4]
    exact Ok.ret ⟨rfl, rfl⟩
  obtain ⟨t, M', e, rfl, rfl⟩ := this
  exact e
theorem set_app {M : Mem} {x y : Cell} : (M ++ [x]).set M.length y = M ++ [y] := by simp
theorem make_eq {ga : FT.Ev → Mem → Out (List FT.T)} {σ : FT.Ev} {ch : FT.T} {p b : Int} {l : Nat} {M M1 : Mem} (e : ga σ M = .ok [ch, .lst [.int p], .ref l, .int b] M1) : eMake kC (f_Corner_init kC) ga σ M = .ok (.ref M1.length) (M1 ++ [.ins kC (corF ch p b l)]) := by
  unfold eMake
  rw [e]
  show (Out.bind (f_Corner_init kC [.ref M1.length, ch, .lst [.int p], .ref l, .int b] (M1 ++ [.ins kC []])) _) = _
  rw [init_eq kC get_app, set_app]
  rfl
theorem gd0 {β : Type} {M : Mem} {o : Out β} : gdK [] M o = o := gdK_ok (gdOk_nil M)
theorem fd {x b : Int} {M : Mem} (hb : 0 < b) (bb : BN b) : divI (.int x) (.int b) M = .ok (.int (x.fdiv b)) M := divI_ii (dv_ok 31 (by decide) (by omega) bb.nb)
theorem bl1 {x f y g b : Int} {M : Mem} {m n q r : Nat} (hb : 0 < b) (bb : BN b) (h1 : NB m f) (h2 : NB n x) (h3 : NB q g) (h4 : NB r y) (hm : m ≤ 3000 := by decide) (hn : n ≤ 3000 := by decide) (hq : q ≤ 3000 := by decide) (hr : r ≤ 3000 := by decide) : f_blended kC [.lst [.int x], .int f, .lst [.int y], .int g, .int b] M = .ok (.lst [.int ((f * x - g * y).fdiv b)]) M := by
  have : Ok (f_blended kC [.lst [.int x], .int f, .lst [.int y], .int g, .int b] M) fun t M' => t = .lst [.int ((f * x - g * y).fdiv b)] ∧ M' = M := by
    refine runDef_ok rfl ?_
    unfold g_blended
    simp_all_arith [FT.iZipX, zpX, seqG, lstG, zipT, lCompG, compG, gd0, List.append_nil, mulN (M := M) h1 h2 hm hn, mulN (M := M) h3 h4 hq hr, fd (M := M) hb bb, show (0 : Nat) < sizeLine by decide]
    exact Ok.ret ⟨rfl, rfl⟩
  obtain ⟨t, M', e, rfl, rfl⟩ := this
  exact e
theorem bl3 {c g b : Int} {M : Mem} (hb : 0 < b) (bb : BN b) (hg : BN g) (hc : BN c) : ∃ t, f_blended kC [.lst [.int c, .int 1, .int 1], .int g, .lst [.int c, .int 1, .int 1], .int g, .int b] M = .ok t M := by
  have : Ok (f_blended kC [.lst [.int c, .int 1, .int 1], .int g, .lst [.int c, .int 1, .int 1], .int g, .int b] M) fun t M' => M' = M := by
    refine runDef_ok rfl ?_
    unfold g_blended
    simp_all_arith [FT.iZipX, zpX, seqG, lstG, zipT, lCompG, compG, gd0, List.append_nil, mulN (M := M) hg.nb hc.nb, mulA_r (i := g) (j := 1) (M := M) (by decide), fd (M := M) hb bb, show (0 : Nat) < sizeLine by decide, show (1 : Nat) < sizeLine by decide, show (2 : Nat) < sizeLine by decide]
    exact Ok.ret rfl
  obtain ⟨t, M', e, rfl⟩ := this
  exact ⟨t, e⟩
theorem addA_ll {x y : FT.T} {xs ys : List FT.T} {M : Mem} (hx : ∃ z, x = .lst z ∨ ∃ a, x = .ref a) (e1 : lstOf x M = some xs) (e2 : lstOf y M = some ys) (hl : xs.length + ys.length ≤ 1000) : addA x y M = .ok (.lst (xs ++ ys)) M := by
  have hs : xs.length + ys.length ≤ sizeLine := by rw [sizeLine_eq]; omega
  obtain ⟨z, hx⟩ := hx
  rcases hx with rfl | ⟨a, rfl⟩
  · unfold addA
    simp only [e1, e2, if_pos hs]
  · unfold addA
    simp only [e1, e2, if_pos hs]
theorem first_ok {m c : Int} {M : Mem} : Ok (f_first_corner kC [.int m, .tup [.int c]] M) fun t M' => ∃ k ch l, t = .ref k ∧ M.length ≤ k ∧ Cor kC M' k m 0 1 c ch l ∧ Fr [] M M' := by
  refine runDef_ok rfl ?_
  unfold g_first_corner
  simp_all_arith [rng1_rg (show -(2 ^ 62) ≤ ((0 + 1 : Nat) : Int) ∧ ((0 + 1 : Nat) : Int) < 2 ^ 62 by decide), rng1_rg (show -(2 ^ 62) ≤ (1 : Int) ∧ (1 : Int) < 2 ^ 62 by decide), Int.ofNat_eq_natCast, Int.cast_ofNat_Int]
  refine Ok.bind (P := fun fl M' => fl = .nx [some (.int m), some (.tup [.int c]), some (.int 1), some (.ref M.length), some (.int 0), some (.ref (M ++ [Cell.lst []]).length), none] ∧ M' = (M ++ [Cell.lst []] ++ [Cell.lst [.int 1]]).set M.length (.lst [.lst [.int c, .int 1, .int 1]])) ?_ ?_
  · rw [show rgI 1 = [0] from rfl]
    simp only [List.map_cons, List.map_nil, forL]
    unfold b0_first_corner
    have e1 : (M ++ [Cell.lst []] ++ [.lst [.int 0]])[(M ++ [Cell.lst []]).length]? = some (.lst [.int 0]) := get_app
    have s1 := setT_ref (k := 0) (j := 0) (t := .int 1) e1 rfl
    rw [set_app] at s1
    have e2 : (M ++ [Cell.lst []] ++ [.lst [.int 1]])[M.length]? = some (.lst []) := get_app1
    have e3 : (M ++ [Cell.lst []] ++ [.lst [.int 1]])[(M ++ [Cell.lst []]).length]? = some (.lst [.int 1]) := get_app
    have ad := addA_ll (xs := [.int c, .int 1]) (ys := [.int 1]) (x := .lst [.int c, .int 1]) (y := .ref (M ++ [Cell.lst []]).length) (M := M ++ [Cell.lst []] ++ [.lst [.int 1]]) ⟨_, .inl rfl⟩ rfl (lstOf_ref e3) (show (2 + 1 : Nat) ≤ 1000 by decide)
    have ap := appT_ref (t := .lst ([.int c, .int 1] ++ [.int 1])) e2 (by decide)
    simp (config := {decide := true}) only [bName, sSeq, sSet, eTk, lComp, iRange1, aCons, aNil, eVar, eC, bind_ok, bind_asc, thenF_nx, capT, List.map_nil, List.map_cons, List.append_nil, List.nil_append, List.getElem?_cons_zero, List.getElem?_cons_succ, getT, optT, Option.join_some, List.set_cons_zero, List.set_cons_succ, rng1_rg (show -(2 ^ 62) ≤ (1 : Int) ∧ (1 : Int) < 2 ^ 62 by decide), Int.reduceToNat, show rgI 1 = [0] from rfl, compL, tYes, reduceIte, List.length_nil, sAsg, bSub, s1, sExp, eMeth, eUn, lstChk_ref e2, eOp, eFz, lDisp, ixT, atI_0, ad, ap, loopF_nx, List.length_cons, Nat.reduceAdd, Nat.zero_add]
    exact Ok.ret ⟨rfl, rfl⟩
  · rintro fl M' ⟨rfl, rfl⟩
    have mk := make_eq kC (ga := aCons (eVar 6) (aCons (eFz (lComp (iRange1 (aCons (eVar 2) aNil)) (bName 0) tYes (eC (FT.T.int 0)) ["own"] [])) (aCons (eVar 3) (aCons (eC (FT.T.int 1)) aNil)))) (σ := [some (.int m), some (.tup [.int c]), some (.int 1), some (.ref M.length), some (.int 0), some (.ref (M ++ [Cell.lst []]).length), some (.lst [.int m])])
      (M := (M ++ [Cell.lst []] ++ [Cell.lst [.int 1]]).set M.length (.lst [.lst [.int c, .int 1, .int 1]])) (M1 := (M ++ [Cell.lst []] ++ [Cell.lst [.int 1]]).set M.length (.lst [.lst [.int c, .int 1, .int 1]])) (ch := .lst [.int m]) (p := 0) (b := 1) (l := M.length)
      (by simp_arith [rng1_rg (show -(2 ^ 62) ≤ (1 : Int) ∧ (1 : Int) < 2 ^ 62 by decide), show rgI 1 = [0] from rfl, compL, show (0 : Nat) < sizeLine by decide])
    simp_all_arith [rng1_rg (show -(2 ^ 62) ≤ (1 : Int) ∧ (1 : Int) < 2 ^ 62 by decide), show rgI 1 = [0] from rfl, compL, show (0 : Nat) < sizeLine by decide, Int.add_zero]
    rw [mk]
    have fr : Fr [] M ((M ++ [Cell.lst []] ++ [Cell.lst [.int 1]]).set M.length (.lst [.lst [.int c, .int 1, .int 1]])) := ((Fr.app M _).trans (Fr.app _ _)).tr (Fr.set _ _ _) (by simp)
    refine Ok.ret ⟨_, _, _, rfl, fr.1, ⟨get_app, ?_, rfl⟩, fr.trans (Fr.app _ _)⟩
    exact (Fr.app _ _).get0 (get_set get_app1)
theorem gains_eq {M : Mem} {k : Nat} {i p b c : Int} {ch : FT.T} {l : Nat} (h : Cor kC M k i p b c ch l) {d : Dm} (hd : BD d) : f_gains_of kC [.ref k, evD d] M = .ok (.lst [.int d.1]) M := by
  have : Ok (f_gains_of kC [.ref k, evD d] M) fun t M' => t = .lst [.int d.1] ∧ M' = M := by
    refine runDef_ok rfl ?_
    unfold g_gains_of evD
    have gk : ∀ {β : Type} (o : Out β), gdK [(l, [FT.T.lst [.int c, .int 1, .int 1]])] M o = o := fun o => gdK_ok (gdOk_one h.lin)
    have sq := fun σ e => iSeqG_ref (f := eFld [kC] "lines" (eVar 0)) (σ := σ) (M := M) (a := l) e h.lin
    have m1 : mulA (.int d.1) (.int 1) M = .ok (.int (d.1 * 1)) M := mulA_r (by decide)
    by_cases h0 : d.1 = 0
    · simp_all_arith [and_self]
      simp only [lCompG, sq _ (show eFld [kC] "lines" (eVar 0) [some (.ref k), some (.tup [.lst (pt d), .int d.2, .int (d.1 * d.1)]), some (.lst (pt d))] M = .ok (.ref l) M from h.lines)]
      simp_all_arith [compG, gk, pt, h0, compL, sum0, show (0 : Nat) < sizeLine by decide]
      exact Ok.ret ⟨rfl, rfl⟩
    · simp_all_arith [and_self]
      simp only [lCompG, sq _ (show eFld [kC] "lines" (eVar 0) [some (.ref k), some (.tup [.lst (pt d), .int d.2, .int (d.1 * d.1)]), some (.lst (pt d))] M = .ok (.ref l) M from h.lines)]
      simp_all_arith [compG, gk, pt, h0, compL, sum1, m1, show (0 : Nat) < sizeLine by decide, Int.reduceAdd]
      exact Ok.ret ⟨by rw [Int.mul_one], rfl⟩
  obtain ⟨t, M', e, rfl, rfl⟩ := this
  exact e
theorem cheap_eq {M : Mem} {l : Nat} {g : Int} : f_cheapest kC [.ref l, .lst [.int g]] M = .ok (if 0 < g then .int 0 else .non) M := by
  have : Ok (f_cheapest kC [.ref l, .lst [.int g]] M) fun t M' => t = (if 0 < g then .int 0 else .non) ∧ M' = M := by
    refine runDef_ok rfl ?_
    unfold g_cheapest
    simp_all_arith [and_self]
    simp only [sForG, iEnumG_lst (f := eVar 1) (σ := [some (FT.T.ref l), some (.lst [.int g]), some .non, none, none]) (M := M) rfl]
    by_cases h0 : 0 < g
    · simp_all_arith [en1, forG, gd0, b0_cheapest, decide_eq_true h0, isN_non]
      exact Ok.ret ⟨by rw [if_pos h0], rfl⟩
    · simp_all_arith [en1, forG, gd0, b0_cheapest, decide_eq_false h0]
      exact Ok.ret ⟨by rw [if_neg h0], rfl⟩
  obtain ⟨t, M', e, rfl, rfl⟩ := this
  exact e
end My
namespace My
open PySem L2 FT
variable (kC : Addr)
theorem listK_of {ch : FT.T} {xs : List FT.T} {M : Mem} (h : lstOf ch M = some xs) : listK [ch] M = .ok xs M := by
  cases ch with
  | lst ys => cases h; rfl
  | ref a =>
    show (match lstOf (.ref a) M with | some xs => Out.ok xs M | none => .bad) = _
    rw [h]
  | _ => cases h
theorem moved_ok {M : Mem} {k : Nat} {i p b c g n la : Int} {ch : FT.T} {l : Nat} (h : Cor kC M k i p b c ch l) (hg : BN g) (hc : BN c) (hp : BN p) (hb : BN b) (hla : NB 63 la) (b0 : 0 < b) :
    Ok (f_moved_corner kC [.ref k, .lst [.int g], .int 0, .int n, .int la] M) fun t M' => ∃ k' ch' l', t = .ref k' ∧ Cor kC M' k' n ((g * p - -la * 1).fdiv b) g c ch' l' ∧ Fr [] M M' := by
  refine runDef_ok rfl ?_
  unfold g_moved_corner
  have gk : ∀ {β : Type} (o : Out β), gdK [(l, [FT.T.lst [.int c, .int 1, .int 1]])] M o = o := fun o => gdK_ok (gdOk_one h.lin)
  obtain ⟨t3, hb3⟩ := bl3 kC (M := M) b0 hb hg hc
  simp_all_arith [eFld, h.lines, h.lin]
  simp only [iEnumG_ref (f := eFld [kC] "lines" (eVar 0)) (σ := [some (FT.T.ref k), some (.lst [.int g]), some (.int 0), some (.int n), some (.int la), some (.int g), some (.lst [.int c, .int 1, .int 1]), none, none, none]) (M := M) h.lines h.lin, lCompG]
  have h2 := h.fr kC (Fr.app M [Cell.lst [.lst [.int c, .int 1, .int 1]]])
  have ct : cutT [FT.T.int c, .int 1, .int 1] (some 2) none = [.int 1] := rfl
  have b1 := bl1 kC (x := p) (f := g) (y := 1) (g := -la) (b := b) (M := M ++ [Cell.lst [.lst [.int c, .int 1, .int 1]]]) b0 hb hg.nb hp.nb hla.neg (show NB 1 1 from by unfold NB; decide)
  have g1 : ∀ x, (M ++ [Cell.lst x])[M.length]? = some (.lst x) := fun x => get_app
  have g2 : ∀ x, (M ++ [Cell.lst [.lst [.int c, .int 1, .int 1]]] ++ [Cell.lst x])[(M ++ [Cell.lst [.lst [.int c, .int 1, .int 1]]]).length]? = some (.lst x) := fun x => get_app
  have mk := make_eq kC (ga := aCons (eVar 9) (aCons (eVar 8) (aCons (eVar 7) (aCons (eVar 5) aNil)))) (σ := [some (FT.T.ref k), some (.lst [.int g]), some (.int 0), some (.int n), some (.int la), some (.int g), some (.lst [.int c, .int 1, .int 1]), some (.ref M.length), some (.lst [.int ((g * p - -la * 1).fdiv b)]), some (.ref (M ++ [Cell.lst [.lst [.int c, .int 1, .int 1]]]).length)])
    (M := M ++ [Cell.lst [.lst [.int c, .int 1, .int 1]]] ++ [Cell.lst [.int n]]) (M1 := M ++ [Cell.lst [.lst [.int c, .int 1, .int 1]]] ++ [Cell.lst [.int n]]) (ch := .ref (M ++ [Cell.lst [.lst [.int c, .int 1, .int 1]]]).length) (p := (g * p - -la * 1).fdiv b) (b := g) (l := M.length) rfl
  simp_all_arith [en1, compG, gk, eFld, h.bottom, hb3, show (0 : Nat) < sizeLine by decide, g1, set_app, h2.point, lstOf, ct, h2.bottom, b1, h2.chosen, listK_of h2.cho, g2]
  rw [mk]
  refine Ok.ret ⟨_, _, _, rfl, ⟨get_app, ?_, ?_⟩, ((Fr.app _ _).trans (Fr.app _ _)).trans (Fr.app _ _)⟩
  · exact (Fr.app _ _).get0 ((Fr.app _ _).get0 get_app)
  · exact lstOf_ref ((Fr.app _ _).get0 get_app)
end My
namespace My
open PySem L2 FT
variable (kC : Addr)
theorem gd_fr {G : Gd} {M M' : Mem} (h : gdOk G M) (f : Fr [] M M') : gdOk G M' := fun g hg => f.get0 (h g hg)
theorem zip_ps (ps : List (Int × Int)) : zipT (ps.map fun x => FT.T.int x.1) (ps.map fun x => FT.T.int x.2) = ps.map fun x => .tup [.int x.1, .int x.2] := by
  induction ps with
  | nil => rfl
  | cons x ps ih => simp [zipT, ih]
def wf (m : Int) (ps : List (Int × Int)) : List Int := ps.foldl (fun ws x => if x.1 < m then ws.set x.1.toNat x.2 else ws) (List.replicate m.toNat 0)
def ShR (b : Int) (ws : List Int) (sh : List (Int × Int)) : Prop := sh.length = ws.length ∧ ∀ (n : Nat) q w, sh[n]? = some q → ws[n]? = some w → Low w b q
theorem ShR.set {b : Int} {ws : List Int} {sh : List (Int × Int)} (h : ShR b ws sh) {n : Nat} {w : Int} {q : Int × Int} (hq : Low w b q) : ShR b (ws.set n w) (sh.set n q) := by
  refine ⟨by simp [h.1], fun j q' w' e1 e2 => ?_⟩
  rw [List.getElem?_set] at e1 e2
  by_cases hj : n = j
  · subst hj
    rw [if_pos rfl] at e1 e2
    have l := h.1
    by_cases hl : n < sh.length
    · rw [if_pos hl] at e1
      rw [if_pos (by omega)] at e2
      cases e1; cases e2; exact hq
    · rw [if_neg hl] at e1; cases e1
  · rw [if_neg hj] at e1 e2
    exact h.2 j q' w' e1 e2
theorem ShR.zero {b : Int} (hb : 0 < b) (n : Nat) : ShR b (List.replicate n 0) (List.replicate n (0, 1)) := by
  refine ⟨by simp, fun j q w e1 e2 => ?_⟩
  have a1 := List.eq_of_mem_replicate (List.mem_of_getElem? e1)
  have a2 := List.eq_of_mem_replicate (List.mem_of_getElem? e2)
  subst a1; subst a2
  exact ⟨by simp, by decide, by show (1 : Int) ≤ b; omega, by decide, fun _ => by decide⟩
theorem zpX_of {x y : FT.T} {M : Mem} {xs ys : List FT.T} {G G' : Gd} (h1 : seqG x M = some (xs, G)) (h2 : seqG y M = some (ys, G')) : zpX [x, y] M = .ok (zipT xs ys, G ++ G') M := by
  unfold zpX
  simp only [h1, h2]
theorem seqG_fr {t : FT.T} {g : List FT.T × Gd} {M M' : Mem} (hg : seqG t M = some g) (f1 : Fr [] M M') : seqG t M' = some g := by
  cases t with
  | tup xs => exact hg
  | lst xs => exact hg
  | ref a =>
    replace hg : (match M[a]? with | some (.lst xs) => some (xs, [(a, xs)]) | _ => none) = some g := hg
    show (match M'[a]? with | some (.lst xs) => some (xs, [(a, xs)]) | _ => none) = some g
    cases q : M[a]? with
    | none => rw [q] at hg; cases hg
    | some c => rw [q] at hg; rw [f1.get0 q]; exact hg
  | _ => cases hg
theorem shares_ok {m b : Int} {x y : FT.T} {ps : List (Int × Int)} {G : Gd} {M : Mem} (hm : 0 ≤ m ∧ m < 100) (hb : 0 < b) (bb : BN b) (hx : seqG x M = some (ps.map (fun x => .int x.1), G)) (hy : seqG y M = some (ps.map (fun x => .int x.2), [])) (hG : gdOk (G ++ []) M) (hp : ∀ q ∈ ps, 0 ≤ q.1) :
    Ok (f_shares_of kC [.int m, x, y, .int b] M) fun t M' => ∃ sh, t = .tup (sh.map qT) ∧ ShR b (wf m ps) sh ∧ Fr [] M M' := by
  refine runDef_ok rfl ?_
  unfold g_shares_of
  have cm : ∀ σ, compL (bName 0) tYes (eTup (aCons (eC (.int 0)) (aCons (eC (.int 1)) aNil))) ((rgI m.toNat).map FT.T.int) [σ] M [] = .ok ((rgI m.toNat).map fun _ => qT (0, 1)) M := fun σ =>
    Ok.mapc (fun σ => ∃ v, σ = [v]) (fun _ => qT (0, 1)) ⟨σ, rfl⟩ (by rw [rgI_len]; omega) (fun z σ hz ⟨v, hv⟩ => by
      subst hv
      exact ⟨[some (.int z)], rfl, ⟨_, rfl⟩, rfl⟩)
  have rp : ((rgI m.toNat).map fun _ => qT (0, 1)) = (List.replicate m.toNat ((0 : Int), (1 : Int))).map qT := by
    rw [List.map_replicate, List.map_const', rgI_len]
  rw [rp] at cm
  simp_all_arith [rng1_rg (show -(2 ^ 62) ≤ m ∧ m < 2 ^ 62 by omega), cm]
  have f1 := Fr.app M [Cell.lst ((List.replicate m.toNat ((0 : Int), (1 : Int))).map qT)]
  have hx1 := zpX_of (seqG_fr hx f1) (seqG_fr hy f1)
  rw [zip_ps] at hx1
  simp only [sForG, FT.iZipX]
  simp_all_arith [hx1]
  refine Ok.bind (Ok.forG (fun j σ M' => ∃ (sh : List (Int × Int)) (v5 v6 : Option FT.T), σ = [some (.int m), some x, some y, some (.int b), some (.ref M.length), v5, v6] ∧ M'[M.length]? = some (.lst (sh.map qT)) ∧ ShR b (wf m (ps.take j)) sh ∧ (wf m (ps.take j)).length = m.toNat ∧ Fr [] M M') ?_ ?_ ?_) ?_
  · rintro j σ M' ⟨sh, v5, v6, _, _, _, _, q⟩
    exact gd_fr hG q
  · exact ⟨_, none, none, rfl, get_app, by simpa [wf] using ShR.zero hb m.toNat, by simp [wf], f1⟩
  · rintro j ⟨n, t⟩ σ M1 hj ⟨sh, v5, v6, rfl, c1, c2, c3, c4⟩
    have hn := hp _ (List.mem_of_getElem? hj)
    dsimp only at hn ⊢
    unfold b0_shares_of
    have wt : wf m (ps.take (j + 1)) = if n < m then (wf m (ps.take j)).set n.toNat t else wf m (ps.take j) := by
      unfold wf
      rw [List.take_add_one, hj]
      simp [List.foldl_append]
    by_cases hnm : n < m
    · simp_all_arith [decide_eq_true hnm]
      refine Ok.bind (lowest_ok kC hb (bb.nb.mono (by decide)) M1) ?_
      rintro r M2 ⟨q, rfl, lq, rfl⟩
      have hix : ixN sh.length n = some n.toNat := ixN_at (by rw [c2.1, c3]; omega)
      simp_all_arith [c1, List.length_map, hix]
      refine Ok.ret ⟨_, rfl, sh.set n.toNat q, _, _, rfl, ?_, ?_, ?_, c4.tr (Fr.set _ _ _) (by simp)⟩
      · rw [get_set c1, List.map_set]
      · rw [wt, if_pos hnm]; exact c2.set lq
      · rw [wt, if_pos hnm, List.length_set]; exact c3
    · simp_all_arith [decide_eq_false hnm]
      exact Ok.ret ⟨_, rfl, sh, _, _, rfl, c1, by rw [wt, if_neg hnm]; exact c2, by rw [wt, if_neg hnm]; exact c3, c4⟩
  · rintro fl M1 ⟨σ, rfl, sh, v5, v6, rfl, c1, c2, c3, c4⟩
    rw [List.take_length] at c2
    simp_all_arith [tupleK_ref c1]
    exact Ok.ret ⟨sh, rfl, c2, c4⟩
end My
namespace My
open PySem L2 FT
variable (kC : Addr)
theorem iSeqG_lst {f : FT.Ev → Mem → Out FT.T} {σ : FT.Ev} {M : Mem} {xs : List FT.T} (e : f σ M = .ok (.lst xs) M) : iSeqG f σ M = .ok (xs, []) M := by
  unfold iSeqG
  rw [e]
  rfl
theorem seqG_of {ch : FT.T} {xs : List FT.T} {M : Mem} (h : lstOf ch M = some xs) : ∃ G, seqG ch M = some (xs, G) ∧ gdOk G M := by
  cases ch with
  | lst ys => cases h; exact ⟨[], rfl, gdOk_nil _⟩
  | ref a =>
    replace h : (match M[a]? with | some (.lst xs) => some xs | _ => none) = some xs := h
    cases q : M[a]? with
    | none => rw [q] at h; cases h
    | some c =>
      rw [q] at h
      cases c with
      | lst ys =>
        cases h
        refine ⟨[(a, xs)], ?_, gdOk_one q⟩
        show (match M[a]? with | some (.lst xs) => some (xs, [(a, xs)]) | _ => none) = _
        rw [q]
      | _ => cases h
  | _ => cases h
theorem lst_or {ch : FT.T} {xs : List FT.T} {M : Mem} (h : lstOf ch M = some xs) : ∃ z, ch = .lst z ∨ ∃ a, ch = .ref a := by
  cases ch with
  | lst ys => exact ⟨ys, .inl rfl⟩
  | ref a => exact ⟨[], .inr ⟨a, rfl⟩⟩
  | _ => cases h
theorem least_ok {M : Mem} {k : Nat} {m i p b c : Int} {ch : FT.T} {l : Nat} (h : Cor kC M k i p b c ch l) (hm : 0 ≤ m ∧ m < 100) (hb : 0 < b) (bb : BN b) (hi : 0 ≤ i) :
    Ok (f_least_told kC [.int m, .ref k] M) fun t M' => ∃ x sh, t = .tup [.str "least", .tup [qT x], .tup (sh.map qT)] ∧ Low p b x ∧ ShR b (wf m [(i, c)]) sh ∧ Fr [] M M' := by
  refine runDef_ok rfl ?_
  unfold g_least_told
  have gk : ∀ {β : Type} (o : Out β), gdK [(l, [FT.T.lst [.int c, .int 1, .int 1]])] M o = o := fun o => gdK_ok (gdOk_one h.lin)
  obtain ⟨G, hG, hg⟩ := seqG_of h.cho
  simp only [sSeq, sSet, eFz, lCompG, startT, List.map_cons, List.map_nil, List.replicate, List.cons_append, List.nil_append, List.length_cons, List.length_nil, Nat.zero_add, Nat.reduceAdd, Nat.reduceSub, iSeqG_lst (f := eFld [kC] "point" (eVar 1)) (σ := [some (.int m), some (.ref k), none, none]) (M := M) h.point]
  simp_all_arith [compG, gd0, eFld, h.bottom]
  refine Ok.bind (lowest_ok kC hb (bb.nb.mono (by decide)) M) ?_
  rintro r M1 ⟨x, rfl, lx, rfl⟩
  simp only [h.chosen, bind_ok, lCompG, iSeqG_ref (f := eFld [kC] "lines" (eVar 1)) (σ := [some (.int m), some (.ref k), some (.lst [qT x]), none]) (M := M1) h.lines h.lin]
  simp_all_arith [h.chosen, compG, gk, h.bottom, show (0 : Nat) < sizeLine by decide]
  refine Ok.bind (shares_ok kC (ps := [(i, c)]) hm hb bb hG rfl (by rw [List.append_nil]; exact hg) (by simp; exact hi)) ?_
  rintro t M2 ⟨sh, rfl, c1, c2⟩
  simp_all_arith [show ∀ (xs : List FT.T) M, tupleK (.lst xs) M = .ok (.tup xs) M from fun _ _ => rfl]
  exact Ok.ret ⟨x, sh, rfl, lx, c1, c2⟩
theorem never_ok {M : Mem} {k : Nat} {m i p b c g j : Int} {ch : FT.T} {l : Nat} (h : Cor kC M k i p b c ch l) (hm : 0 ≤ m ∧ m < 100) (hb : 0 < b) (bb : BN b) (hi : 0 ≤ i) (hj : 0 ≤ j) :
    Ok (f_never_told kC [.int m, .ref k, .lst [.int g], .int j] M) fun t M' => ∃ sh, t = .tup [.str "never", .tup (sh.map qT)] ∧ ShR b (wf m [(i, -g), (j, b)]) sh ∧ Fr [] M M' := by
  refine runDef_ok rfl ?_
  unfold g_never_told
  have a1 := addA_ll (x := ch) (y := .lst [.int j]) (xs := [.int i]) (ys := [.int j]) (M := M) (lst_or h.cho) h.cho rfl (show (1 + 1 : Nat) ≤ 1000 by decide)
  have a2 := addA_ll (x := .lst [.int (-g)]) (y := .lst [.int b]) (xs := [.int (-g)]) (ys := [.int b]) (M := M) ⟨_, .inl rfl⟩ rfl rfl (show (1 + 1 : Nat) ≤ 1000 by decide)
  simp_all_arith [eFld, h.chosen, h.bottom, a1, a2, compL, show (0 : Nat) < sizeLine by decide]
  refine Ok.bind (shares_ok kC (ps := [(i, -g), (j, b)]) (G := []) hm hb bb rfl rfl (gdOk_nil _) (by simp; exact ⟨hi, hj⟩)) ?_
  rintro t M2 ⟨sh, rfl, c1, c2⟩
  try simp_all_arith [and_self]
  exact Ok.ret ⟨sh, rfl, c1, c2⟩
end My
namespace FT
open PySem L2
theorem Ok.whileP {c : Ev → Mem → Out Bool} {body : Ev → Mem → Out Fl} (P : Nat → Ev → Mem → Prop) {Q : Ev → Mem → Prop} {R : T → Mem → Prop}
    (t : ∀ n σ M, P n σ M → Ok (c σ M) fun b M1 => (b = true ∧ Ok (body σ M1) fun fl M2 => (∃ σ' n', fl = .nx σ' ∧ n' < n ∧ P n' σ' M2) ∨ ∃ t, fl = .rt t ∧ R t M2) ∨ (b = false ∧ Q σ M1)) :
    ∀ (N n : Nat) (σ : Ev) (M : Mem), n < N → P n σ M → Ok (FT.whileN c body N σ M) fun fl M' => (∃ σ', fl = .nx σ' ∧ Q σ' M') ∨ ∃ t, fl = .rt t ∧ R t M'
  | 0, _, _, _, hn, _ => absurd hn (by omega)
  | N + 1, n, σ, M, hn, h => by
    obtain ⟨b, M1, e, r⟩ := t n σ M h
    unfold FT.whileN
    rw [e]
    rcases r with ⟨rfl, fl, M2, e2, r⟩ | ⟨rfl, q⟩
    · show Ok ((body σ M1).bind _) _
      rw [e2]
      rcases r with ⟨σ1, n1, h1, h2, h3⟩ | ⟨u, h1, h2⟩
      · rw [h1]; exact Ok.whileP P t N n1 σ1 M2 (by omega) h3
      · rw [h1]; exact ⟨.rt u, M2, rfl, .inr ⟨u, rfl, h2⟩⟩
    · exact ⟨.nx σ, M1, rfl, .inl ⟨σ, rfl, q⟩⟩
theorem Ok.whileQ {c : Ev → Mem → Out Bool} {body : Ev → Mem → Out Fl} {σ : Ev} {M : Mem} (P : Nat → Ev → Mem → Prop) {Q : Ev → Mem → Prop} {R : T → Mem → Prop} {n : Nat} (h : P n σ M)
    (t : ∀ n σ M, P n σ M → Ok (c σ M) fun b M1 => (b = true ∧ Ok (body σ M1) fun fl M2 => (∃ σ' n', fl = .nx σ' ∧ n' < n ∧ P n' σ' M2) ∨ ∃ t, fl = .rt t ∧ R t M2) ∨ (b = false ∧ Q σ M1)) :
    Ok (sWhile c body σ M) fun fl M' => (∃ σ', fl = .nx σ' ∧ Q σ' M') ∨ ∃ t, fl = .rt t ∧ R t M' := by
  obtain ⟨fl, M', e, r⟩ := Ok.whileP P t (n + 1) n σ M (by omega) h
  exact ⟨fl, M', sWhile_eq _ e (by simp), r⟩
end FT
namespace My
open PySem L2 FT
variable (kC : Addr)
theorem filt_lt {α : Type} {p q : α → Bool} : ∀ {l : List α}, (∀ x ∈ l, q x = true → p x = true) → (∃ x ∈ l, p x = true ∧ q x = false) → (l.filter q).length < (l.filter p).length
  | [], _, h => by obtain ⟨x, hx, _⟩ := h; simp at hx
  | y :: l, h, g => by
    have le : ∀ l : List α, (∀ x ∈ l, q x = true → p x = true) → (l.filter q).length ≤ (l.filter p).length := by
      intro l
      induction l with
      | nil => intro _; simp
      | cons z l ih =>
        intro hz
        have := ih (fun x hx => hz x (.tail _ hx))
        by_cases qz : q z = true
        · rw [List.filter_cons_of_pos qz, List.filter_cons_of_pos (hz z (.head _) qz)]; simp; omega
        · rw [List.filter_cons_of_neg qz]
          by_cases pz : p z = true
          · rw [List.filter_cons_of_pos pz]; simp; omega
          · rw [List.filter_cons_of_neg pz]; omega
    have hl := le l (fun x hx => h x (.tail _ hx))
    obtain ⟨x, hx, px, qx⟩ := g
    rcases List.mem_cons.mp hx with rfl | hx
    · rw [List.filter_cons_of_pos px, List.filter_cons_of_neg (by rw [qx]; simp)]; simp; omega
    · have ih := filt_lt (fun x hx => h x (.tail _ hx)) ⟨x, hx, px, qx⟩
      by_cases qy : q y = true
      · rw [List.filter_cons_of_pos qy, List.filter_cons_of_pos (h y (.head _) qy)]; simp; omega
      · rw [List.filter_cons_of_neg qy]
        by_cases py : p y = true
        · rw [List.filter_cons_of_pos py]; simp; omega
        · rw [List.filter_cons_of_neg py]; omega
def Row (ds : List Dm) (i p b : Int) : Prop := 0 < b ∧ 0 ≤ p ∧ ((i = ds.length ∧ p = 0 ∧ b = 1) ∨ ∃ n : Nat, i = n ∧ ds[n]? = some (b, p))
def cnt (ds : List Dm) (p b : Int) : Nat := (ds.filter fun d => decide (0 < d.1) && decide (0 < lack d p b)).length
theorem lt_chain {x1 x2 d1 d2 p b : Int} (b0 : 0 < b) (d0 : 0 < d1) (x0 : 0 < x1) (h1 : x1 * d2 < x2 * d1) (h2 : d1 * p < d2 * b) : x1 * p < x2 * b := by
  refine Int.lt_of_not_ge fun h => ?_
  have a1 := Int.mul_le_mul_of_nonneg_right h (Int.le_of_lt d0)
  have a2 := Int.mul_lt_mul_of_pos_right h1 b0
  have a3 := Int.mul_lt_mul_of_pos_right h2 x0
  simp only [Int.mul_comm, Int.mul_left_comm, Int.mul_assoc] at a1 a2 a3
  omega
theorem cnt_lt {ds : List Dm} {d : Dm} {p b : Int} (hd : d ∈ ds) (b0 : 0 < b) (d0 : 0 < d.1) (hl : 0 < lack d p b) : cnt ds d.2 d.1 < cnt ds p b := by
  refine filt_lt (fun x hx hq => ?_) ⟨d, hd, by simp [d0, hl], by simp [lack]; intro _; rw [Int.mul_comm]; exact Int.le_refl _⟩
  simp only [Bool.and_eq_true, decide_eq_true_eq] at hq ⊢
  refine ⟨hq.1, ?_⟩
  unfold lack at *
  have := lt_chain (x1 := x.1) (x2 := x.2) (d1 := d.1) (d2 := d.2) (p := p) (b := b) b0 d0 hq.1 (by omega) (by omega)
  omega
theorem moved_p {d : Dm} {p b : Int} (b0 : 0 < b) : (d.1 * p - -(lack d p b) * 1).fdiv b = d.2 := by
  rw [Int.mul_one, show d.1 * p - -(lack d p b) = d.2 * b by unfold lack; omega]
  exact Int.mul_fdiv_cancel _ (by omega)
def Told (ds : List Dm) (c : Int) (t : FT.T) : Prop := ∃ i p b, Row ds i p b ∧ BN p ∧ BN b ∧
  ((∃ x sh, t = .tup [.str "least", .tup [qT x], .tup (sh.map qT)] ∧ Low p b x ∧ ShR b (wf ds.length [(i, c)]) sh ∧ ∀ d ∈ ds, lack d p b ≤ 0) ∨
   (∃ (n : Nat) (d : Dm) (sh : List (Int × Int)), t = .tup [.str "never", .tup (sh.map qT)] ∧ ds[n]? = some d ∧ d.1 ≤ 0 ∧ 0 < lack d p b ∧ ShR b (wf ds.length [(i, -d.1), ((n : Int), b)]) sh))
theorem Row.bn {ds : List Dm} {i p b : Int} (h : Row ds i p b) (hd : ∀ d ∈ ds, BD d) : BN p ∧ BN b := by
  rcases h.2.2 with ⟨_, rfl, rfl⟩ | ⟨n, _, e⟩
  · exact ⟨by unfold BN; decide, by unfold BN; decide⟩
  · have := hd _ (List.mem_of_getElem? e)
    exact ⟨this.2, this.1⟩
theorem sums_ok {r : Nat} {ds : List Dm} {c : Int} {M : Mem} (h : M[r]? = some (.lst (ds.map dmT))) (hd : ∀ d ∈ ds, BD d) (hl : ds.length < 10) (hc : BN c) :
    Ok (f_least_sums kC [.ref r, .tup [.int c]] M) fun t M' => Told ds c t ∧ Fr [] M M' := by
  refine runDef_ok rfl ?_
  unfold g_least_sums
  have len : ∀ M', M'[r]? = some (.lst (ds.map dmT)) → lenK (.ref r) M' = .ok (.int (ds.length : Int)) M' := fun M' e => by
    have := lenK_ref e
    rw [List.length_map] at this
    exact this
  have hes : ∀ d ∈ ds ++ [((1, 0) : Dm)], BD d := fun d hm => by
    rcases List.mem_append.mp hm with hm | hm
    · exact hd d hm
    · rw [List.mem_singleton.mp hm]; exact ⟨by unfold BN; decide, by unfold BN; decide⟩
  simp_all_arith [Int.ofNat_eq_natCast, Int.cast_ofNat_Int]
  refine Ok.bind (all_ok kC h hd hl) ?_
  rintro t M1 ⟨e, rfl, e0, e1, e2⟩
  have h1 := e2.get0 h
  simp_all_arith [len M1 h1]
  refine Ok.bind (first_ok kC) ?_
  rintro t M2 ⟨k, ch, l, rfl, k0, k1, k2⟩
  have h2 := k2.get0 h1
  have ee := k2.get0 e1
  have rw0 : Row ds ds.length 0 1 := ⟨by decide, by decide, .inl ⟨rfl, rfl, rfl⟩⟩
  try simp_all_arith [and_self]
  refine Ok.bind (most_ok kC ee k1 hes (rw0.bn hd).1 (rw0.bn hd).2 (by simp; omega)) ?_
  rintro t M3 ⟨rfl, br⟩
  try simp_all_arith [and_self]
  refine Ok.bind (Ok.whileQ (fun n σ M' => ∃ (k : Nat) (i p b : Int) (ch : FT.T) (l : Nat) (w : FT.T) (v5 v6 : Option FT.T), σ = [some (.ref r), some (.tup [.int c]), some (.ref e), some (.ref k), some w, v5, v6] ∧ M'[r]? = some (.lst (ds.map dmT)) ∧ M'[e]? = some (.lst ((ds ++ [(1, 0)]).map evD)) ∧
      Cor kC M' k i p b c ch l ∧ Row ds i p b ∧ Brk (ds ++ [(1, 0)]) p b w ∧ Fr [] M M' ∧ n = cnt ds p b)
    (Q := fun σ M' => ∃ (k : Nat) (i p b : Int) (ch : FT.T) (l : Nat) (w : FT.T) (v5 v6 : Option FT.T), σ = [some (.ref r), some (.tup [.int c]), some (.ref e), some (.ref k), some w, v5, v6] ∧ M'[r]? = some (.lst (ds.map dmT)) ∧ Cor kC M' k i p b c ch l ∧ Row ds i p b ∧ (∀ d ∈ ds, lack d p b ≤ 0) ∧ Fr [] M M')
    (R := fun t M' => Told ds c t ∧ Fr [] M M')
    ⟨k, _, _, _, ch, l, _, none, none, rfl, h2, ee, k1, rw0, br, e2.trans k2, rfl⟩ ?_) ?_
  · rintro n σ M4 ⟨k, i, p, b, ch, l, w, v5, v6, rfl, r1, r2, cr, rw1, br, fr, rfl⟩
    obtain ⟨bp, bb⟩ := rw1.bn hd
    unfold b1_least_sums
    rcases br with ⟨rfl, hall⟩ | ⟨n, d, rfl, hn, hlk⟩
    · simp_all_arith [isntN_non]
      exact Ok.ret (.inr ⟨rfl, k, i, p, b, ch, l, _, v5, v6, rfl, r1, cr, rw1, fun d hd => hall d (List.mem_append_left _ hd), fr⟩)
    · simp_all_arith [isntN_int]
      refine Ok.ret (.inl ⟨rfl, ?_⟩)
      have hn2 : ds[n]? = some d := by
        by_cases q : n < ds.length
        · rw [List.getElem?_append_left q] at hn; exact hn
        · rw [List.getElem?_append_right (by omega)] at hn
          have : d = (1, 0) := by
            have := List.mem_of_getElem? hn
            simpa using this
          subst this
          have := rw1.2.1
          unfold lack at hlk
          omega
      have dm := List.mem_of_getElem? hn2
      have bd := hd d dm
      have ix : atI ((ds ++ [((1, 0) : Dm)]).map evD) (n : Int) = some (evD d) := by rw [FT.atI_nat, List.getElem?_map, hn]; rfl
      have nl : NB 63 (lack d p b) := NB.sub (m := 62) (bd.2.nb.mul bb.nb) (bd.1.nb.mul bp.nb)
      unfold b0_least_sums
      by_cases g0 : 0 < d.1
      · simp_all_arith [r2, ix, gains_eq kC cr bd, eFld, cr.lines, cheap_eq kC, if_pos g0, isN_int, lack_eq kC cr bd bp bb]
        refine Ok.bind (moved_ok kC cr bd.1 hc bp bb nl rw1.1) ?_
        rintro t M5 ⟨k', ch', l', rfl, cr', f5⟩
        rw [moved_p rw1.1] at cr'
        have d2 : 0 < d.2 := by
          have a1 := Int.mul_nonneg (Int.le_of_lt g0) rw1.2.1
          unfold lack at hlk
          exact Int.pos_of_mul_pos_left (show 0 < d.2 * b by omega) rw1.1
        have rw2 : Row ds n d.2 d.1 := ⟨g0, Int.le_of_lt d2, .inr ⟨n, rfl, hn2⟩⟩
        try simp_all_arith [and_self]
        refine Ok.bind (most_ok kC (f5.get0 r2) cr' hes bd.2 bd.1 (by simp; omega)) ?_
        rintro t M6 ⟨rfl, br6⟩
        try simp_all_arith [and_self]
        exact Ok.ret (.inl ⟨_, _, rfl, cnt_lt dm rw1.1 g0 hlk, k', _, _, _, ch', l', _, _, _, rfl, f5.get0 r1, f5.get0 r2, cr', rw2, br6, fr.trans f5, rfl⟩)
      · simp_all_arith [r2, ix, gains_eq kC cr bd, eFld, cr.lines, cheap_eq kC, if_neg g0, isN_non, len M4 r1]
        refine Ok.bind (never_ok kC cr (m := ds.length) (by omega) rw1.1 bb ?_ (by omega)) ?_
        · rcases rw1.2.2 with ⟨q, _⟩ | ⟨q, q2, _⟩ <;> omega
        · rintro t M5 ⟨sh, rfl, c1, c2⟩
          try simp_all_arith [and_self]
          exact Ok.ret (.inr ⟨_, rfl, ⟨i, p, b, rw1, bp, bb, .inr ⟨n, d, sh, rfl, hn2, by omega, hlk, c1⟩⟩, fr.trans c2⟩)
  · rintro fl M4 (⟨σ, rfl, k, i, p, b, ch, l, w, v5, v6, rfl, r1, cr, rw1, hall, fr⟩ | ⟨t, rfl, q1, q2⟩)
    · obtain ⟨bp, bb⟩ := rw1.bn hd
      simp_all_arith [len M4 r1]
      refine Ok.bind (least_ok kC cr (m := ds.length) (by omega) rw1.1 bb ?_) ?_
      · rcases rw1.2.2 with ⟨q, _⟩ | ⟨q, q2, _⟩ <;> omega
      · rintro t M5 ⟨x, sh, rfl, lx, c1, c2⟩
        try simp_all_arith [and_self]
        exact Ok.ret ⟨⟨i, p, b, rw1, bp, bb, .inl ⟨x, sh, rfl, lx, c1, hall⟩⟩, fr.trans c2⟩
    · try simp_all_arith [and_self]
      exact Ok.ret ⟨q1, q2⟩
end My
namespace My
open PySem L2 FT
variable (kC : Addr)
def Inf (ds : List Dm) : Prop := ∀ p b : Int, 0 < b → 0 ≤ p → ∃ d ∈ ds, 0 < lack d p b
def Feas (ds : List Dm) (q : Int × Int) : Prop := ∀ d ∈ ds, d.2 * q.2 ≤ d.1 * q.1
def LowIn (ds : List Dm) (q : Int × Int) : Prop := 0 < q.2 ∧ 0 ≤ q.1 ∧ (q = (0, 1) ∨ ∃ d ∈ ds, 0 < d.1 ∧ q = (d.2, d.1))
def LowOk (ds : List Dm) (j : Nat) (q : Int × Int) : Prop := LowIn ds q ∧ ∀ d ∈ ds.take j, (d.1 = 0 → d.2 ≤ 0) ∧ (0 < d.1 → d.2 * q.2 ≤ q.1 * d.1)
def HiOk (ds : List Dm) (j : Nat) (t : FT.T) : Prop := (t = .non ∧ ∀ d ∈ ds.take j, ¬ d.1 < 0) ∨ ∃ h : Int × Int, t = qT h ∧ 0 < h.2 ∧ (∃ d ∈ ds, d.1 < 0 ∧ h = (-d.2, -d.1)) ∧ ∀ d ∈ ds.take j, d.1 < 0 → h.1 * (-d.1) ≤ -d.2 * h.2
theorem LowIn.bn {ds : List Dm} {q : Int × Int} (h : LowIn ds q) (hd : ∀ d ∈ ds, BD d) : NB 31 q.1 ∧ NB 31 q.2 := by
  rcases h.2.2 with rfl | ⟨d, hm, _, rfl⟩
  · exact ⟨by unfold NB; decide, by unfold NB; decide⟩
  · exact ⟨(hd d hm).2.nb, (hd d hm).1.nb⟩
theorem up_low {l1 l2 d1 d2 x1 x2 : Int} (l0 : 0 < l2) (d0 : 0 < d1) (h : l1 * d1 < d2 * l2) (g : x2 * l2 ≤ l1 * x1) (x0 : 0 < x1) : x2 * d1 ≤ d2 * x1 := by
  refine Int.le_of_not_gt fun q => ?_
  have a1 := Int.mul_lt_mul_of_pos_right q l0
  have a2 := Int.mul_le_mul_of_nonneg_right g (Int.le_of_lt d0)
  have a3 := Int.mul_lt_mul_of_pos_right h x0
  simp only [Int.mul_comm, Int.mul_left_comm, Int.mul_assoc] at a1 a2 a3
  omega
theorem up_hi {h1 h2 d1 d2 x1 x2 : Int} (l0 : 0 < h2) (d0 : 0 < d1) (h : d2 * h2 < h1 * d1) (g : h1 * x1 ≤ x2 * h2) (x0 : 0 < x1) : d2 * x1 ≤ x2 * d1 := by
  refine Int.le_of_not_gt fun q => ?_
  have a1 := Int.mul_lt_mul_of_pos_right q l0
  have a2 := Int.mul_le_mul_of_nonneg_right g (Int.le_of_lt d0)
  have a3 := Int.mul_lt_mul_of_pos_right h x0
  simp only [Int.mul_comm, Int.mul_left_comm, Int.mul_assoc] at a1 a2 a3
  omega
theorem no_room {l1 l2 h1 h2 p b : Int} (b0 : 0 < b) (l0 : 0 < l2) (k0 : 0 < h2) (h : h1 * l2 < l1 * h2) (g1 : l1 * b ≤ l2 * p) (g2 : h2 * p ≤ h1 * b) : False := by
  have a1 := Int.mul_lt_mul_of_pos_right h b0
  have a2 := Int.mul_le_mul_of_nonneg_right g1 (Int.le_of_lt k0)
  have a3 := Int.mul_le_mul_of_nonneg_right g2 (Int.le_of_lt l0)
  simp only [Int.mul_comm, Int.mul_left_comm, Int.mul_assoc] at a1 a2 a3
  omega
theorem neg_feas {l1 l2 h1 h2 d1 d2 : Int} (l0 : 0 < l2) (k0 : 0 < h2) (d0 : d1 < 0) (h : l1 * h2 ≤ h1 * l2) (g : h1 * (-d1) ≤ -d2 * h2) : d2 * l2 ≤ d1 * l1 := by
  refine Int.le_of_not_gt fun q => ?_
  have a1 := Int.mul_lt_mul_of_pos_right q k0
  have a2 := Int.mul_le_mul_of_nonneg_right h (show 0 ≤ -d1 by omega)
  have a3 := Int.mul_le_mul_of_nonneg_right g (Int.le_of_lt l0)
  simp only [Int.mul_comm, Int.mul_left_comm, Int.mul_assoc, Int.mul_neg, Int.neg_mul] at a1 a2 a3
  omega
theorem ends_ok {r : Nat} {ds : List Dm} {M : Mem} (h : M[r]? = some (.lst (ds.map dmT))) (hd : ∀ d ∈ ds, BD d) :
    Ok (f_l_ends kC [.ref r] M) fun t M' => M' = M ∧ ((t = .non ∧ Inf ds) ∨ ∃ low high, t = .tup [qT low, high] ∧ LowIn ds low ∧ Feas ds low) := by
  refine runDef_ok rfl ?_
  unfold g_l_ends
  simp_all_arith [and_self]
  simp only [sForG, iSeqG_ref (f := eVar 0) (σ := [some (FT.T.ref r), some (.tup [.int 0, .int 1]), some .non, none, none, none]) (M := M) rfl h, bind_ok]
  refine Ok.bind (Ok.loopG (r := dmT) (fun j σ M' => M' = M ∧ ∃ (q : Int × Int) (hi : FT.T) (v3 v4 v5 : Option FT.T), σ = [some (.ref r), some (qT q), some hi, v3, v4, v5] ∧ LowOk ds j q ∧ HiOk ds j hi) (R := fun t M' => M' = M ∧ t = .non ∧ Inf ds) ?_ ds 0 ?_ ?_) ?_
  · rintro j σ M' ⟨rfl, _⟩
    exact gdOk_one h
  · exact ⟨rfl, (0, 1), .non, none, none, none, rfl, ⟨⟨by decide, by decide, .inl rfl⟩, by simp⟩, .inl ⟨rfl, by simp⟩⟩
  · rintro k d σ M' hk ⟨rfl, q, hi, v3, v4, v5, rfl, lo, hg⟩
    rw [Nat.zero_add] at lo hg
    have dm := List.mem_of_getElem? hk
    have bd := hd d dm
    have tk : ds.take (k + 1) = ds.take k ++ [d] := by rw [List.take_add_one, hk]; rfl
    have lb := lo.1.bn hd
    unfold b0_l_ends dmT qT
    have m1 : ∀ M, mulA (.int d.2) (.int q.2) M = .ok (.int (d.2 * q.2)) M := fun M => mulN bd.2.nb lb.2
    have m2 : ∀ M, mulA (.int q.1) (.int d.1) M = .ok (.int (q.1 * d.1)) M := fun M => mulN lb.1 bd.1.nb
    have hiK : ¬ d.1 < 0 → HiOk ds (k + 1) hi := fun hn => by
      unfold HiOk at hg ⊢
      rw [tk]
      rcases hg with ⟨a, g⟩ | ⟨z, a1, a2, a3, g⟩
      · refine .inl ⟨a, fun x hx => ?_⟩
        rcases List.mem_append.mp hx with hx | hx
        · exact g x hx
        · rw [List.mem_singleton.mp hx]; exact hn
      · refine .inr ⟨z, a1, a2, a3, fun x hx => ?_⟩
        rcases List.mem_append.mp hx with hx | hx
        · exact g x hx
        · rw [List.mem_singleton.mp hx]; exact fun q => absurd q hn
    have loK : (d.1 = 0 → d.2 ≤ 0) → (0 < d.1 → d.2 * q.2 ≤ q.1 * d.1) → LowOk ds (k + 1) q := fun a1 a2 => by
      unfold LowOk at lo ⊢
      rw [tk]
      refine ⟨lo.1, fun x hx => ?_⟩
      rcases List.mem_append.mp hx with hx | hx
      · exact lo.2 x hx
      · rw [List.mem_singleton.mp hx]; exact ⟨a1, a2⟩
    rcases Int.lt_trichotomy d.1 0 with hs | hs | hs
    · have hz : (d.1 == 0) = false := by simp; omega
      have lo' := loK (by omega) (by omega)
      rcases hg with ⟨rfl, g⟩ | ⟨z, rfl, z0, ⟨dz, zm, zn, ze⟩, g⟩
      · simp_all_arith [hz, decide_eq_false (show ¬ 0 < d.1 by omega), decide_eq_true hs, isN_non]
        refine Ok.ret (.inl ⟨_, .inl rfl, rfl, q, qT (-d.2, -d.1), _, _, _, rfl, lo', .inr ⟨(-d.2, -d.1), rfl, by show 0 < -d.1; omega, ⟨d, dm, hs, rfl⟩, ?_⟩⟩)
        rw [tk]
        intro x hx xn
        rcases List.mem_append.mp hx with hx | hx
        · exact absurd xn (g x hx)
        · rw [List.mem_singleton.mp hx]; exact Int.le_refl _
      · have bz := hd dz zm
        have n1 : NB 31 z.1 := by rw [ze]; exact bz.2.nb.neg
        have n2 : NB 31 z.2 := by rw [ze]; exact bz.1.nb.neg
        have m3 : ∀ M, mulA (.int (-d.2)) (.int z.2) M = .ok (.int (-d.2 * z.2)) M := fun M => mulN bd.2.nb.neg n2
        have m4 : ∀ M, mulA (.int z.1) (.int (-d.1)) M = .ok (.int (z.1 * -d.1)) M := fun M => mulN n1 bd.1.nb.neg
        by_cases up : -d.2 * z.2 < z.1 * -d.1
        · simp_all_arith [hz, decide_eq_false (show ¬ 0 < d.1 by omega), decide_eq_true hs, qT, isN, nonT, m3, m4, decide_eq_true up]
          refine Ok.ret (.inl ⟨_, .inl rfl, rfl, q, qT (-d.2, -d.1), _, _, _, rfl, lo', .inr ⟨(-d.2, -d.1), rfl, by show 0 < -d.1; omega, ⟨d, dm, hs, rfl⟩, ?_⟩⟩)
          rw [tk]
          intro x hx xn
          rcases List.mem_append.mp hx with hx | hx
          · exact up_hi z0 (show 0 < -d.1 by omega) up (g x hx xn) (by omega)
          · rw [List.mem_singleton.mp hx]; exact Int.le_refl _
        · simp_all_arith [hz, decide_eq_false (show ¬ 0 < d.1 by omega), decide_eq_true hs, qT, isN, nonT, m3, m4, decide_eq_false up]
          refine Ok.ret (.inl ⟨_, .inl rfl, rfl, q, qT z, _, _, _, rfl, lo', .inr ⟨z, rfl, z0, ⟨dz, zm, zn, ze⟩, ?_⟩⟩)
          rw [tk]
          intro x hx xn
          rcases List.mem_append.mp hx with hx | hx
          · exact g x hx xn
          · rw [List.mem_singleton.mp hx]; omega
    · have hz : (d.1 == 0) = true := by simp [hs]
      by_cases h0 : 0 < d.2
      · simp_all_arith [hz, decide_eq_true h0]
        refine Ok.ret (.inr (.inr ⟨_, rfl, rfl, rfl, fun p b b0 p0 => ⟨d, dm, ?_⟩⟩))
        unfold lack
        rw [hs, Int.zero_mul]
        have := Int.mul_pos h0 b0
        omega
      · simp_all_arith [hz, decide_eq_false h0, decide_eq_false (show ¬ 0 < d.1 by omega), decide_eq_false (show ¬ d.1 < 0 by omega)]
        exact Ok.ret (.inl ⟨_, .inl rfl, rfl, q, hi, _, _, _, rfl, loK (by omega) (by omega), hiK (by omega)⟩)
    · have hz : (d.1 == 0) = false := by simp; omega
      by_cases up : q.1 * d.1 < d.2 * q.2
      · simp_all_arith [hz, decide_eq_true hs, m1, m2, decide_eq_true up, decide_eq_false (show ¬ d.1 < 0 by omega)]
        have d2 : 0 ≤ d.2 := by
          refine Int.le_of_not_gt fun z => ?_
          have a1 := Int.mul_nonneg lo.1.2.1 (Int.le_of_lt hs)
          have a2 := Int.mul_neg_of_neg_of_pos z lo.1.1
          omega
        refine Ok.ret (.inl ⟨_, .inl rfl, rfl, (d.2, d.1), hi, _, _, _, rfl, ⟨⟨hs, d2, .inr ⟨d, dm, hs, rfl⟩⟩, ?_⟩, hiK (by omega)⟩)
        rw [tk]
        intro x hx
        rcases List.mem_append.mp hx with hx | hx
        · exact ⟨(lo.2 x hx).1, fun x0 => up_low lo.1.1 hs up ((lo.2 x hx).2 x0) x0⟩
        · rw [List.mem_singleton.mp hx]; exact ⟨by omega, fun _ => Int.le_refl _⟩
      · simp_all_arith [hz, decide_eq_true hs, m1, m2, decide_eq_false up, decide_eq_false (show ¬ d.1 < 0 by omega)]
        exact Ok.ret (.inl ⟨_, .inl rfl, rfl, q, hi, _, _, _, rfl, loK (by omega) (fun _ => by omega), hiK (by omega)⟩)
  · rintro fl M' (⟨σ, rfl, rfl, q, hi, v3, v4, v5, rfl, lo, hg⟩ | ⟨t, rfl, rfl, rfl, hinf⟩)
    · rw [Nat.zero_add] at lo hg
      unfold LowOk at lo
      unfold HiOk at hg
      rw [List.take_length] at lo hg
      rcases hg with ⟨rfl, g⟩ | ⟨z, rfl, z0, ⟨dz, zm, zn, ze⟩, g⟩
      · simp_all_arith [isntN_non]
        refine Ok.ret ⟨rfl, .inr ⟨q, _, rfl, lo.1, fun d dm => ?_⟩⟩
        rcases Int.lt_trichotomy d.1 0 with hs | hs | hs
        · exact absurd hs (g d dm)
        · have a1 := (lo.2 d dm).1 hs
          rw [hs, Int.zero_mul]
          exact Int.mul_nonpos_of_nonpos_of_nonneg a1 (Int.le_of_lt lo.1.1)
        · rw [Int.mul_comm d.1]; exact (lo.2 d dm).2 hs
      · have bz := hd dz zm
        have lb := lo.1.bn hd
        have n1 : NB 31 z.1 := by rw [ze]; exact bz.2.nb.neg
        have n2 : NB 31 z.2 := by rw [ze]; exact bz.1.nb.neg
        have m3 : ∀ M, mulA (.int z.1) (.int q.2) M = .ok (.int (z.1 * q.2)) M := fun M => mulN n1 lb.2
        have m4 : ∀ M, mulA (.int q.1) (.int z.2) M = .ok (.int (q.1 * z.2)) M := fun M => mulN lb.1 n2
        by_cases cr : z.1 * q.2 < q.1 * z.2
        · simp_all_arith [qT, isntN, nonT, m3, m4, decide_eq_true cr]
          refine Ok.ret ⟨rfl, .inl ⟨rfl, fun p b b0 p0 => ?_⟩⟩
          refine Classical.byContradiction fun no => ?_
          have al : ∀ d ∈ ds, lack d p b ≤ 0 := fun d dm => Int.le_of_not_gt fun w => no ⟨d, dm, w⟩
          refine no_room (p := p) b0 lo.1.1 z0 cr ?_ ?_
          · rcases lo.1.2.2 with e | ⟨d, dm, _, e⟩
            · rw [e]; simp; exact p0
            · have := al d dm; unfold lack at this; rw [e]; show d.2 * b ≤ d.1 * p; omega
          · have := al dz zm
            unfold lack at this
            rw [ze]
            show -dz.1 * p ≤ -dz.2 * b
            rw [Int.neg_mul, Int.neg_mul]
            omega
        · simp_all_arith [qT, isntN, nonT, m3, m4, decide_eq_false cr]
          refine Ok.ret ⟨rfl, .inr ⟨q, _, rfl, lo.1, fun d dm => ?_⟩⟩
          rcases Int.lt_trichotomy d.1 0 with hs | hs | hs
          · exact neg_feas lo.1.1 z0 hs (by omega) (g d dm hs)
          · have a1 := (lo.2 d dm).1 hs
            rw [hs, Int.zero_mul]
            exact Int.mul_nonpos_of_nonpos_of_nonneg a1 (Int.le_of_lt lo.1.1)
          · rw [Int.mul_comm d.1]; exact (lo.2 d dm).2 hs
    · simp_all_arith [and_self]
      exact Ok.ret ⟨rfl, .inl ⟨rfl, hinf⟩⟩
end My
namespace My
open PySem L2 FT
variable (kC : Addr)
def dot : List Int → List Int → Int
  | n :: ns, w :: ws => n * w + dot ns ws
  | _, _ => 0
theorem mapG {G : Gd} {bd : FT.T → FT.Ev → Mem → Out FT.Ev} {el : FT.Ev → Mem → Out FT.T} {M : Mem} {α : Type} {r : α → FT.T} (hG : gdOk G M) (I : FT.Ev → Prop) (f : α → FT.T) : ∀ {xs : List α} {σ : FT.Ev} {acc : List FT.T}, I σ → acc.length + xs.length ≤ 1000 →
    (∀ x σ, x ∈ xs → I σ → ∃ σ1, bd (r x) σ M = .ok σ1 M ∧ I σ1 ∧ el σ1 M = .ok (f x) M) → compG G bd tYes el (xs.map r) σ M acc = .ok (acc ++ xs.map f) M
  | [], σ, acc, _, _, _ => by simp [compG, gdK_ok hG]
  | x :: xs, σ, acc, h, hl, t => by
    obtain ⟨σ1, e1, h1, e2⟩ := t x σ (.head _) h
    rw [List.length_cons] at hl
    have ih := mapG hG I f (xs := xs) (σ := σ1) (acc := acc ++ [f x]) h1 (by rw [List.length_append, List.length_cons, List.length_nil]; omega) (fun y σ hy => t y σ (.tail _ hy))
    rw [List.map_cons]
    unfold compG
    rw [gdK_ok hG, e1]
    show ((el σ1 M).bind _) = _
    rw [e2]
    show (if acc.length < sizeLine then compG G bd tYes el (xs.map r) σ1 M (acc ++ [f x]) else .bad) = _
    rw [if_pos (by rw [sizeLine_eq]; omega), ih]
    simp
theorem zip_q : ∀ (ns : List Int) (qs : List (Int × Int)), zipT (ns.map FT.T.int) (qs.map qT) = (ns.zip qs).map fun x => .tup [.int x.1, qT x.2]
  | [], qs => by simp [zipT]
  | n :: ns, [] => by simp [zipT]
  | n :: ns, q :: qs => by simp [zipT, zip_q ns qs]
theorem dot_take {n w : Int} : ∀ {j : Nat} {ns ws : List Int}, ns[j]? = some n → ws[j]? = some w → dot (ns.take (j + 1)) (ws.take (j + 1)) = dot (ns.take j) (ws.take j) + n * w
  | 0, a :: ns, v :: ws, h1, h2 => by cases h1; cases h2; simp [dot]
  | j + 1, a :: ns, v :: ws, h1, h2 => by
    have := dot_take (j := j) (ns := ns) (ws := ws) (by simpa using h1) (by simpa using h2)
    simp only [List.take_succ_cons, dot, this]
    omega
  | _, [], _, h1, _ => by simp at h1
  | _, _ :: _, [], _, h2 => by simp at h2
theorem tot_step {T B S x1 x2 n w Y : Int} (h : T * Y = B * S) (e : x1 * Y = w * x2) : (T * x2 + n * x1 * B) * Y = B * x2 * (S + n * w) := by
  rw [Int.add_mul, Int.mul_right_comm T, h, Int.mul_add, Int.mul_right_comm B S x2]
  congr 1
  calc n * x1 * B * Y = n * B * (x1 * Y) := by simp only [Int.mul_comm, Int.mul_left_comm, Int.mul_assoc]
    _ = n * B * (w * x2) := by rw [e]
    _ = B * x2 * (n * w) := by simp only [Int.mul_comm, Int.mul_left_comm, Int.mul_assoc]
theorem total_ok {x y : FT.T} {ns : List Int} {qs : List (Int × Int)} {ws : List Int} {Y : Int} {G G' : Gd} {M : Mem} (hx : seqG x M = some (ns.map FT.T.int, G)) (hy : seqG y M = some (qs.map qT, G')) (hG : gdOk (G ++ G') M)
    (hl : ns.length = qs.length) (h10 : ns.length ≤ 10) (hs : ShR Y ws qs) (hn : ∀ n ∈ ns, NB 31 n) (hw : ∀ w ∈ ws, NB 31 w) (hY : NB 31 Y) (y0 : 0 < Y) :
    Ok (f_l_total kC [x, y] M) fun t M' => M' = M ∧ ∃ T B, t = .tup [.int T, .int B] ∧ 0 < B ∧ T * Y = B * dot ns ws ∧ NB 1100 T ∧ NB 1100 B := by
  refine runDef_ok rfl ?_
  unfold g_l_total
  have hz := zpX_of hx hy
  rw [zip_q] at hz
  simp_all_arith [sForG, FT.iZipX, hz]
  refine Ok.bind (Ok.forG (fun j σ M' => M' = M ∧ ∃ (T B : Int) (v4 v5 : Option FT.T), σ = [some x, some y, some (.int T), some (.int B), v4, v5] ∧ 0 < B ∧ T * Y = B * dot (ns.take j) (ws.take j) ∧ (j ≤ 10 → NB (100 * j + 1) T ∧ NB (100 * j + 1) B)) ?_ ?_ ?_) ?_
  · rintro j σ M' ⟨rfl, _⟩
    exact hG
  · exact ⟨rfl, 0, 1, none, none, rfl, by decide, by simp [dot], fun _ => ⟨by unfold NB; decide, by unfold NB; decide⟩⟩
  · rintro j ⟨n, q⟩ σ M' hj ⟨rfl, T, B, v4, v5, rfl, B0, e, bd⟩
    rw [List.getElem?_zip_eq_some] at hj
    obtain ⟨j1, j2⟩ := hj
    dsimp only at j1 j2 ⊢
    have jn : j < ns.length := (List.getElem?_eq_some_iff.mp j1).1
    have jq : j < qs.length := (List.getElem?_eq_some_iff.mp j2).1
    obtain ⟨w, j3⟩ : ∃ w, ws[j]? = some w := ⟨ws[j]'(by have := hs.1; omega), List.getElem?_eq_getElem _⟩
    have lq := hs.2 j q w j2 j3
    have nn := hn n (List.mem_of_getElem? j1)
    have nw := hw w (List.mem_of_getElem? j3)
    have n1 : NB 31 q.1 := Nat.lt_of_le_of_lt lq.bd nw
    have n2 : NB 31 q.2 := Nat.lt_of_le_of_lt (by have := lq.pos; have := lq.le; omega) hY
    obtain ⟨bT, bB⟩ := bd (by omega)
    unfold b0_l_total qT
    have hj3 : 100 * j + 1 ≤ 3000 := by omega
    have m1 : ∀ M, mulA (.int T) (.int q.2) M = .ok (.int (T * q.2)) M := fun M => mulN bT n2 hj3
    have m2 : ∀ M, mulA (.int n) (.int q.1) M = .ok (.int (n * q.1)) M := fun M => mulN nn n1
    have m3 : ∀ M, mulA (.int (n * q.1)) (.int B) M = .ok (.int (n * q.1 * B)) M := fun M => mulN (nn.mul n1) bB (by decide) hj3
    have m4 : ∀ M, mulA (.int B) (.int q.2) M = .ok (.int (B * q.2)) M := fun M => mulN bB n2 hj3
    simp_all_arith [m1, m2, m3, m4]
    refine Ok.ret ⟨_, rfl, rfl, _, _, _, _, rfl, Int.mul_pos B0 lq.pos, ?_, fun _ => ⟨?_, ?_⟩⟩
    · rw [dot_take j1 j3]
      exact tot_step e lq.eq
    · have a1 : NB (100 * j + 1 + 62) (T * q.2) := (bT.mul n2).mono (by omega)
      have a2 : NB (100 * j + 1 + 62) (n * q.1 * B) := ((nn.mul n1).mul bB).mono (by omega)
      exact (a1.add a2).mono (by omega)
    · exact (bB.mul n2).mono (by omega)
  · rintro fl M' ⟨σ, rfl, rfl, T, B, v4, v5, rfl, B0, e, bd⟩
    have zl : (ns.zip qs).length = ns.length := by rw [List.length_zip]; omega
    rw [zl] at e bd
    have wl : ws.length = ns.length := by rw [← hs.1, hl]
    rw [List.take_length, List.take_of_length_le (by omega)] at e
    try simp_all_arith [and_self]
    exact Ok.ret ⟨rfl, T, B, rfl, B0, e, (bd h10).1.mono (by omega), (bd h10).2.mono (by omega)⟩
theorem column_eq {r : Nat} {ds : List Dm} {M : Mem} (h : M[r]? = some (.lst (ds.map dmT))) (hl : ds.length < 10) : f_l_column kC [.ref r, .int 0] M = .ok (.lst (ds.map fun d => .int d.1)) M := by
  have : Ok (f_l_column kC [.ref r, .int 0] M) fun t M' => t = .lst (ds.map fun d => .int d.1) ∧ M' = M := by
    refine runDef_ok rfl ?_
    unfold g_l_column
    have cg := mapG (G := [(r, ds.map dmT)]) (bd := bTup 2 (bCons (bName 0) (bCons (bName 1) bNil))) (el := eOp ixT (eVar 0) (eVar 2)) (r := dmT) (gdOk_one h) (fun σ => ∃ v0 v1 : Option FT.T, σ = [v0, v1, some (.int 0)]) (fun d => .int d.1) (xs := ds) (σ := [none, none, some (.int 0)]) (acc := []) ⟨none, none, rfl⟩ (by simp; omega) (fun d σ hd ⟨v0, v1, hσ⟩ => by
      subst hσ
      exact ⟨[some (.tup [.int d.1]), some (.int d.2), some (.int 0)], rfl, ⟨_, _, rfl⟩, rfl⟩)
    rw [List.nil_append] at cg
    simp only [lCompG, sRet, eFz, startT, List.map_cons, List.map_nil, List.replicate, List.cons_append, List.nil_append, List.length_cons, List.length_nil, Nat.zero_add, Nat.reduceAdd, Nat.reduceSub, iSeqG_ref (f := eVar 0) (σ := [some (FT.T.ref r), some (.int 0)]) (M := M) rfl h]
    simp_all_arith [cg]
    exact Ok.ret ⟨rfl, rfl⟩
  obtain ⟨t, M', e, rfl, rfl⟩ := this
  exact e
theorem leasts_eq {r : Nat} {ds : List Dm} {M : Mem} (h : M[r]? = some (.lst (ds.map dmT))) (hl : ds.length < 10) : compG [(r, ds.map dmT)] (bTup 2 (bCons (bName 0) (bCons (bName 1) bNil))) tYes (eVar 1) (ds.map dmT) [none, none] M [] = .ok (ds.map fun d => .int d.2) M := by
  have cg := mapG (G := [(r, ds.map dmT)]) (bd := bTup 2 (bCons (bName 0) (bCons (bName 1) bNil))) (el := eVar 1) (r := dmT) (gdOk_one h) (fun σ => ∃ v0 v1 : Option FT.T, σ = [v0, v1]) (fun d => .int d.2) (xs := ds) (σ := [none, none]) (acc := []) ⟨none, none, rfl⟩ (by simp; omega) (fun d σ hd ⟨v0, v1, hσ⟩ => by
      subst hσ
      exact ⟨[some (.tup [.int d.1]), some (.int d.2)], rfl, ⟨_, _, rfl⟩, rfl⟩)
  rw [List.nil_append] at cg
  exact cg
end My
namespace My
open PySem L2 FT
variable (kC : Addr)
theorem sh1 {p b : Int} {q : Int × Int} (h : Low p b q) : ShR b [p] [q] := by
  refine ⟨rfl, fun n q' w' e1 e2 => ?_⟩
  cases n with
  | zero => cases e1; cases e2; exact h
  | succ n => simp at e1
theorem le_cancel {a c b : Int} (b0 : 0 < b) (h : a * b ≤ c * b) : a ≤ c := Int.le_of_mul_le_mul_right h b0
theorem meets_ok {r : Nat} {ds : List Dm} {M : Mem} {p b : Int} {q : Int × Int} (h : M[r]? = some (.lst (ds.map dmT))) (hd : ∀ d ∈ ds, BD d) (b0 : 0 < b) (bb : BN b) (bp : BN p) (lq : Low p b q) (al : ∀ d ∈ ds, lack d p b ≤ 0) :
    Ok (f_l_meets kC [.ref r, .tup [qT q]] M) fun t M' => t = .bl true ∧ M' = M := by
  refine runDef_ok rfl ?_
  unfold g_l_meets
  simp only [sSeq, sForG, startT, List.map_cons, List.map_nil, List.replicate, List.cons_append, List.nil_append, List.length_cons, List.length_nil, Nat.zero_add, Nat.reduceAdd, Nat.reduceSub, iSeqG_ref (f := eVar 0) (σ := [some (FT.T.ref r), some (.tup [qT q]), none, none, none, none]) (M := M) rfl h, bind_ok, bind_asc]
  refine Ok.bind (Ok.forG (r := dmT) (fun j σ M' => M' = M ∧ ∃ v2 v3 v4 v5 : Option FT.T, σ = [some (.ref r), some (.tup [qT q]), v2, v3, v4, v5]) ?_ ⟨rfl, none, none, none, none, rfl⟩ ?_) ?_
  · rintro j σ M' ⟨rfl, _⟩
    exact gdOk_one h
  · rintro j d σ M' hj ⟨rfl, v2, v3, v4, v5, rfl⟩
    have dm := List.mem_of_getElem? hj
    have bd := hd d dm
    unfold b0_l_meets dmT
    simp_all_arith [and_self]
    refine Ok.bind (total_ok kC (x := .tup [.int d.1]) (y := .tup [qT q]) (ns := [d.1]) (qs := [q]) (ws := [p]) (Y := b) (G := []) (G' := []) (M := M') rfl rfl (gdOk_nil _) rfl (by simp) (sh1 lq) (by simp; exact bd.1.nb) (by simp; exact bp.nb) bb.nb b0) ?_
    rintro t M2 ⟨rfl, T, B, rfl, B0, e, nT, nB⟩
    have m1 : mulA (.int d.2) (.int B) M2 = .ok (.int (d.2 * B)) M2 := mulN bd.2.nb nB
    have no : ¬ T < d.2 * B := by
      have a1 := al d dm
      unfold lack at a1
      have a2 := Int.mul_le_mul_of_nonneg_left (show d.2 * b ≤ d.1 * p by omega) (Int.le_of_lt B0)
      have : d.2 * B ≤ T := le_cancel b0 (by
        rw [e]
        simp only [dot, Int.add_zero]
        calc d.2 * B * b = B * (d.2 * b) := by simp only [Int.mul_comm, Int.mul_left_comm, Int.mul_assoc]
          _ ≤ _ := a2)
      omega
    simp_all_arith [m1, decide_eq_false no]
    exact Ok.ret ⟨_, rfl, rfl, _, _, _, _, rfl⟩
  · rintro fl M' ⟨σ, rfl, rfl, v2, v3, v4, v5, rfl⟩
    simp_all_arith [and_self]
    exact Ok.ret ⟨rfl, rfl⟩
theorem eq_ln {M : Mem} : eqA (.str "least") (.str "never") M = .ok (.bl false) M := by rfl
theorem eq_nn {M : Mem} : eqA (.str "never") (.str "never") M = .ok (.bl true) M := by rfl
theorem eq_ll {M : Mem} : eqA (.str "least") (.str "least") M = .ok (.bl true) M := by rfl
theorem eq_nl {M : Mem} : eqA (.str "never") (.str "least") M = .ok (.bl false) M := by rfl
theorem intK_b {b : Bool} {M : Mem} : intK (.bl b) M = .ok (.int (if b then 1 else 0)) M := by cases b <;> rfl
structure Cert (ds : List Dm) (c p b : Int) (wd : Str) (xt : FT.T) (ws : List Int) : Prop where
  cas : (wd = "never" ∧ 0 < dot (ds.map (·.2)) ws ∧ dot (ds.map (·.1)) ws ≤ 0) ∨ (wd = "least" ∧ dot (ds.map (·.1)) ws ≤ c * b ∧ dot (ds.map (·.2)) ws = c * p ∧ (∀ d ∈ ds, lack d p b ≤ 0) ∧ ∃ x, xt = .tup [qT x] ∧ Low p b x)
theorem holds_ok {r : Nat} {ds : List Dm} {M : Mem} {c p b : Int} {wd : Str} {xt : FT.T} {x : Int × Int} {sh : List (Int × Int)} {ws : List Int} (h : M[r]? = some (.lst (ds.map dmT))) (hd : ∀ d ∈ ds, BD d) (hl : ds.length < 10) (c0 : 0 ≤ c) (bc : BN c) (b0 : 0 < b) (bb : BN b) (bp : BN p)
    (hx : listK [xt] M = .ok [qT x] M) (x0 : 0 ≤ x.1) (s0 : ∀ q ∈ sh, 0 ≤ q.1) (hs : ShR b ws sh) (sl : sh.length = ds.length) (hw : ∀ w ∈ ws, NB 31 w) (ct : Cert ds c p b wd xt ws) :
    Ok (f_l_holds kC [.ref r, .tup [.int c], .str wd, xt, .tup (sh.map qT)] M) fun t M' => t = .bl true ∧ M' = M := by
  refine runDef_ok rfl ?_
  unfold g_l_holds
  have lk : listK [.tup (sh.map qT)] M = .ok (sh.map qT) M := rfl
  have ad := addA_ll (x := .lst [qT x]) (y := .lst (sh.map qT)) (xs := [qT x]) (ys := sh.map qT) (M := M) ⟨_, .inl rfl⟩ rfl rfl (by rw [List.length_map]; simp; omega)
  simp_all_arith [hx, lk, ad]
  rw [show (qT x :: sh.map qT) = (x :: sh).map qT from rfl]
  refine Ok.bind (Ok.for (r := qT) (fun j σ M' => M' = M ∧ ∃ v5 : Option FT.T, σ = [some (.ref r), some (.tup [.int c]), some (.str wd), some xt, some (.tup (sh.map qT)), v5, none, none, none, none, none]) ⟨rfl, none, rfl⟩ ?_) ?_
  · rintro j q σ M' hj ⟨rfl, v5, rfl⟩
    have q0 : 0 ≤ q.1 := by
      rcases List.mem_cons.mp (List.mem_of_getElem? hj) with rfl | hm
      · exact x0
      · exact s0 q hm
    unfold b0_l_holds qT
    simp_all_arith [decide_eq_false (show ¬ q.1 < 0 by omega)]
    exact Ok.ret ⟨_, rfl, rfl, _, rfl⟩
  · rintro fl M' ⟨σ, rfl, rfl, v5, rfl⟩
    simp only [thenF_nx, sSeq, sAsg, eCall, aCons, eFz, lCompG, iSeqG_ref (f := eVar 0) (σ := [some (FT.T.ref r), some (.tup [.int c]), some (.str wd), some xt, some (.tup (sh.map qT)), v5, none, none, none, none, none]) (M := M') rfl h]
    simp_all_arith [leasts_eq h hl]
    have nb2 : ∀ n ∈ ds.map (·.2), NB 31 n := fun n hn => by
      obtain ⟨d, dm, rfl⟩ := List.mem_map.mp hn
      exact (hd d dm).2.nb
    have nb1 : ∀ n ∈ ds.map (·.1), NB 31 n := fun n hn => by
      obtain ⟨d, dm, rfl⟩ := List.mem_map.mp hn
      exact (hd d dm).1.nb
    refine Ok.bind (total_ok kC (ns := ds.map (·.2)) (qs := sh) (ws := ws) (Y := b) (G := []) (G' := []) (M := M') (by rw [List.map_map]; rfl) rfl (gdOk_nil _) (by rw [List.length_map, sl]) (by rw [List.length_map]; omega) hs nb2 hw bb.nb b0) ?_
    rintro t M2 ⟨rfl, G, U, rfl, U0, eG, nG, nU⟩
    simp_all_arith [rng1_rg (show -(2 ^ 62) ≤ (1 : Int) ∧ (1 : Int) < 2 ^ 62 by decide), Int.ofNat_eq_natCast, Int.cast_ofNat_Int]
    rw [show rgI 1 = [0] from rfl]
    simp only [List.map_cons, List.map_nil, forL]
    unfold b1_l_holds
    simp_all_arith [column_eq kC h hl]
    refine Ok.bind (total_ok kC (ns := ds.map (·.1)) (qs := sh) (ws := ws) (Y := b) (G := []) (G' := []) (M := M2) (by rw [List.map_map]; rfl) rfl (gdOk_nil _) (by rw [List.length_map, sl]) (by rw [List.length_map]; omega) hs nb1 hw bb.nb b0) ?_
    rintro t M3 ⟨rfl, T, B, rfl, B0, eT, nT, nB⟩
    have m1 : mulA (.int c) (.int B) M3 = .ok (.int (c * B)) M3 := mulN bc.nb nB
    rcases ct.cas with ⟨rfl, g1, g2⟩ | ⟨rfl, g1, g2, g3, x', rfl, lx⟩
    · have T0 : T ≤ 0 := le_cancel b0 (by
        rw [eT, Int.zero_mul]
        exact Int.mul_nonpos_of_nonneg_of_nonpos (Int.le_of_lt U0 |> fun _ => Int.le_of_lt B0) g2)
      have G0 : 0 < G := by
        have : 0 < G * b := by rw [eG]; exact Int.mul_pos U0 g1
        exact Int.pos_of_mul_pos_left this b0
      have m2 : mulA (.int (c * B)) (.int 0) M3 = .ok (.int (c * B * 0)) M3 := mulA_r (by decide)
      simp_all_arith [m1, eq_nl, eq_nn, intK_b, m2, Int.mul_zero, decide_eq_false (show ¬ 0 < T by omega), decide_eq_true G0]
      exact Ok.ret ⟨rfl, rfl⟩
    · have TB : ¬ c * B * 1 < T := by
        have a2 := Int.mul_le_mul_of_nonneg_left g1 (Int.le_of_lt B0)
        have : T ≤ c * B := le_cancel b0 (by
          rw [eT]
          calc B * dot (ds.map (·.1)) ws ≤ B * (c * b) := a2
            _ = c * B * b := by simp only [Int.mul_comm, Int.mul_left_comm, Int.mul_assoc])
        rw [Int.mul_one]; omega
      have m2 : mulA (.int (c * B)) (.int 1) M3 = .ok (.int (c * B * 1)) M3 := mulA_r (by decide)
      simp_all_arith [m1, eq_ll, eq_ln, intK_b, m2, decide_eq_false TB]
      refine Ok.bind (total_ok kC (x := .tup [.int c]) (y := .tup [qT x']) (ns := [c]) (qs := [x']) (ws := [p]) (Y := b) (G := []) (G' := []) (M := M3) rfl rfl (gdOk_nil _) rfl (by simp) (sh1 lx) (by simp; exact bc.nb) (by simp; exact bp.nb) bb.nb b0) ?_
      rintro t M4 ⟨rfl, T2, B2, rfl, B20, e2, nT2, nB2⟩
      try simp_all_arith [and_self]
      refine Ok.bind (meets_ok kC h hd b0 bb bp lx g3) ?_
      rintro t M5 ⟨rfl, rfl⟩
      have m5 : mulA (.int T2) (.int U) M5 = .ok (.int (T2 * U)) M5 := mulN nT2 nU
      have m6 : mulA (.int G) (.int B2) M5 = .ok (.int (G * B2)) M5 := mulN nG nB2
      have eq : T2 * U = G * B2 := by
        refine Int.eq_of_mul_eq_mul_right (Int.ne_of_gt b0) ?_
        calc T2 * U * b = U * (T2 * b) := by simp only [Int.mul_comm, Int.mul_left_comm, Int.mul_assoc]
          _ = U * (B2 * (c * p)) := by rw [e2]; simp [dot]
          _ = B2 * (U * (c * p)) := by simp only [Int.mul_comm, Int.mul_left_comm, Int.mul_assoc]
          _ = B2 * (G * b) := by rw [eG, g2]
          _ = G * B2 * b := by simp only [Int.mul_comm, Int.mul_left_comm, Int.mul_assoc]
      simp_all_arith [m5, m6, eq, beq_self_eq_true]
      exact Ok.ret ⟨rfl, rfl⟩
end My
namespace My
open PySem L2 FT
variable (kC : Addr)
theorem dot_rep : ∀ (ns : List Int) (k : Nat), dot ns (List.replicate k 0) = 0
  | [], k => by cases k <;> rfl
  | n :: ns, 0 => rfl
  | n :: ns, k + 1 => by rw [List.replicate_succ]; unfold dot; rw [dot_rep ns k]; simp
theorem dot_set {n w0 v : Int} : ∀ {k : Nat} {ns ws : List Int}, ns[k]? = some n → ws[k]? = some w0 → dot ns (ws.set k v) = dot ns ws + n * (v - w0)
  | 0, a :: ns, w :: ws, h1, h2 => by
    cases h1; cases h2
    simp only [List.set_cons_zero, dot]
    rw [Int.mul_sub]
    omega
  | k + 1, a :: ns, w :: ws, h1, h2 => by
    have := dot_set (v := v) (k := k) (ns := ns) (ws := ws) (by simpa using h1) (by simpa using h2)
    simp only [List.set_cons_succ, dot, this]
    omega
  | _, [], _, h1, _ => by simp at h1
  | _, _ :: _, [], _, h2 => by simp at h2
def WsOk (m : Nat) (ws : List Int) : Prop := ws.length = m ∧ ∀ w ∈ ws, 0 ≤ w ∧ NB 31 w
theorem WsOk.zero (m : Nat) : WsOk m (List.replicate m 0) := ⟨by simp, fun w hw => by rw [List.eq_of_mem_replicate hw]; exact ⟨by decide, by unfold NB; decide⟩⟩
theorem WsOk.set {m : Nat} {ws : List Int} (h : WsOk m ws) {k : Nat} {v : Int} (v0 : 0 ≤ v) (nv : NB 31 v) : WsOk m (ws.set k v) := ⟨by simp [h.1], fun w hw => by
  rcases List.mem_or_eq_of_mem_set hw with hw | rfl
  · exact h.2 w hw
  · exact ⟨v0, nv⟩⟩
theorem sh_nn {b : Int} {ws : List Int} {sh : List (Int × Int)} {m : Nat} (h : ShR b ws sh) (w : WsOk m ws) : ∀ q ∈ sh, 0 ≤ q.1 := fun q hq => by
  obtain ⟨n, hn, e⟩ := List.getElem_of_mem hq
  have hw : n < ws.length := by rw [← h.1]; exact hn
  exact (h.2 n q ws[n] (by rw [List.getElem?_eq_getElem hn, e]) (List.getElem?_eq_getElem hw)).nn (w.2 _ (List.getElem_mem hw)).1
theorem row_lt {ds : List Dm} {n : Nat} {d : Dm} (h : ds[n]? = some d) : n < ds.length := (List.getElem?_eq_some_iff.mp h).1
theorem map_at {ds : List Dm} {n : Nat} {d : Dm} (f : Dm → Int) (h : ds[n]? = some d) : (ds.map f)[n]? = some (f d) := by rw [List.getElem?_map, h]; rfl
theorem cert_least {ds : List Dm} {c i p b : Int} (rw1 : Row ds i p b) (hd : ∀ d ∈ ds, BD d) (c0 : 0 ≤ c) (bc : BN c) :
    WsOk ds.length (wf ds.length [(i, c)]) ∧ dot (ds.map (·.1)) (wf ds.length [(i, c)]) ≤ c * b ∧ dot (ds.map (·.2)) (wf ds.length [(i, c)]) = c * p := by
  rcases rw1.2.2 with ⟨rfl, rfl, rfl⟩ | ⟨n, rfl, e⟩
  · have : wf ds.length [((ds.length : Int), c)] = List.replicate ds.length 0 := by simp [wf]
    rw [this]
    exact ⟨.zero _, by rw [dot_rep]; omega, by rw [dot_rep]; simp⟩
  · have nl := row_lt e
    have : wf ds.length [((n : Int), c)] = (List.replicate ds.length 0).set n c := by
      simp only [wf, List.foldl_cons, List.foldl_nil]
      rw [if_pos (by omega)]
      simp
    rw [this]
    have z : (List.replicate ds.length (0 : Int))[n]? = some 0 := by rw [List.getElem?_replicate, if_pos nl]
    refine ⟨(WsOk.zero _).set c0 bc.nb, ?_, ?_⟩
    · rw [dot_set (map_at (·.1) e) z, dot_rep]
      simp [Int.mul_comm]
    · rw [dot_set (map_at (·.2) e) z, dot_rep]
      simp [Int.mul_comm]
theorem cert_never {ds : List Dm} {i p b : Int} {n : Nat} {d : Dm} (rw1 : Row ds i p b) (bb : BN b) (hd : ∀ d ∈ ds, BD d) (hn : ds[n]? = some d) (d0 : d.1 ≤ 0) (hl : 0 < lack d p b) :
    WsOk ds.length (wf ds.length [(i, -d.1), ((n : Int), b)]) ∧ dot (ds.map (·.1)) (wf ds.length [(i, -d.1), ((n : Int), b)]) ≤ 0 ∧ 0 < dot (ds.map (·.2)) (wf ds.length [(i, -d.1), ((n : Int), b)]) := by
  have nl := row_lt hn
  have bd := hd d (List.mem_of_getElem? hn)
  rcases rw1.2.2 with ⟨rfl, rfl, rfl⟩ | ⟨k, rfl, e⟩
  · have : wf ds.length [((ds.length : Int), -d.1), ((n : Int), 1)] = (List.replicate ds.length 0).set n 1 := by
      simp only [wf, List.foldl_cons, List.foldl_nil, if_neg (show ¬ ((ds.length : Int) < (ds.length : Int)) by omega), if_pos (show (n : Int) < (ds.length : Int) by omega)]
      simp
    rw [this]
    have z : (List.replicate ds.length (0 : Int))[n]? = some 0 := by rw [List.getElem?_replicate, if_pos nl]
    refine ⟨(WsOk.zero _).set (by decide) bb.nb, ?_, ?_⟩
    · rw [dot_set (map_at (·.1) hn) z, dot_rep]
      simp; exact d0
    · rw [dot_set (map_at (·.2) hn) z, dot_rep]
      unfold lack at hl
      simp at hl ⊢; exact hl
  · have kl := row_lt e
    have kn : k ≠ n := fun q => by
      subst q
      rw [hn] at e
      cases e
      unfold lack at hl
      simp only [Int.mul_comm] at hl
      omega
    have : wf ds.length [((k : Int), -d.1), ((n : Int), b)] = ((List.replicate ds.length 0).set k (-d.1)).set n b := by
      simp only [wf, List.foldl_cons, List.foldl_nil]
      rw [if_pos (by omega), if_pos (by omega)]
      simp
    rw [this]
    have z1 : (List.replicate ds.length (0 : Int))[k]? = some 0 := by rw [List.getElem?_replicate, if_pos kl]
    have z2 : ((List.replicate ds.length (0 : Int)).set k (-d.1))[n]? = some 0 := by rw [List.getElem?_set, if_neg kn, List.getElem?_replicate, if_pos nl]
    refine ⟨((WsOk.zero _).set (by omega) bd.1.nb.neg).set (Int.le_of_lt rw1.1) bb.nb, ?_, ?_⟩
    · rw [dot_set (map_at (·.1) hn) z2, dot_set (map_at (·.1) e) z1, dot_rep]
      simp only [Int.sub_zero, Int.zero_add, Int.mul_neg]
      rw [Int.mul_comm b]
      omega
    · rw [dot_set (map_at (·.2) hn) z2, dot_set (map_at (·.2) e) z1, dot_rep]
      simp only [Int.sub_zero, Int.zero_add, Int.mul_neg]
      unfold lack at hl
      rw [Int.mul_comm p]
      omega
theorem le_low {ds : List Dm} {i p b : Int} {q : Int × Int} (rw1 : Row ds i p b) (lo : LowIn ds q) (fe : Feas ds q) : p * q.2 ≤ q.1 * b := by
  rcases rw1.2.2 with ⟨_, rfl, rfl⟩ | ⟨n, _, e⟩
  · simp; exact lo.2.1
  · have := fe _ (List.mem_of_getElem? e)
    rw [Int.mul_comm q.1]; exact this
theorem ge_low {ds : List Dm} {p b : Int} {q : Int × Int} (p0 : 0 ≤ p) (lo : LowIn ds q) (al : ∀ d ∈ ds, lack d p b ≤ 0) : q.1 * b ≤ p * q.2 := by
  rcases lo.2.2 with rfl | ⟨d, dm, _, rfl⟩
  · simp; exact p0
  · have := al d dm
    unfold lack at this
    rw [Int.mul_comm p]
    show d.2 * b ≤ d.1 * p
    omega
theorem nv {d1 d2 p b l1 l2 : Int} (b0 : 0 < b) (l0 : 0 < l2) (d0 : d1 ≤ 0) (h : d1 * p < d2 * b) (f : d2 * l2 ≤ d1 * l1) (g : p * l2 ≤ l1 * b) : False := by
  have a1 := Int.mul_lt_mul_of_pos_right h l0
  have a2 := Int.mul_le_mul_of_nonneg_right f (Int.le_of_lt b0)
  have a3 := Int.mul_le_mul_of_nonneg_left g (show 0 ≤ -d1 by omega)
  simp only [Int.neg_mul] at a3
  simp only [Int.mul_comm, Int.mul_left_comm, Int.mul_assoc] at a1 a2 a3
  omega
theorem at3m {a b c : FT.T} : atI [a, b, c] (-1) = some c := rfl
theorem at2m {a b : FT.T} : atI [a, b] (-1) = some b := rfl
theorem neA_b {a b : Bool} {M : Mem} : neA (.bl a) (.bl b) M = .ok (.bl (!(a == b))) M := rfl
theorem isN_t {xs : List FT.T} {M : Mem} : isN (.tup xs) .non M = .ok (.bl false) M := rfl
theorem isntN_t {xs : List FT.T} {M : Mem} : isntN (.tup xs) .non M = .ok (.bl true) M := rfl
theorem step {β γ : Type} {o : Out β} {k : β → Mem → Out γ} {b : β} {M : Mem} {Q : γ → Mem → Prop} (e : o = .ok b M) (h : Ok (k b M) Q) : Ok (o.bind k) Q := by rw [e]; exact h
theorem law_true (ns : List Int) (hn : ns.length ≤ 63) : ∃ M, f_law kC [.lst (ns.map .int)] [] = .ok (.bl true) M := by
  have : Ok (f_law kC [.lst (ns.map .int)] []) fun t _ => t = .bl true := by
    refine runDef_ok rfl ?_
    unfold g_law
    have mn : ∃ k : Int, minK (.int ((ns.map FT.T.int).length : Int)) (.int 40) [] = .ok (.int k) [] ∧ 0 ≤ k ∧ k ≤ 40 := by
      refine ⟨if 40 < ((ns.map FT.T.int).length : Int) then 40 else ((ns.map FT.T.int).length : Int), rfl, ?_, ?_⟩ <;> (rw [List.length_map]; split <;> omega)
    obtain ⟨kk, mn, k0, k1⟩ := mn
    simp_all_arith [mn, rng1_rg (show -(2 ^ 62) ≤ 1 + kk ∧ 1 + kk < 2 ^ 62 by omega)]
    refine Ok.bind (Ok.for (fun _ σ M => ∃ v1 v2 v3 v4 v5 v6 v7 v8 : Option FT.T, σ = [some (.lst (ns.map .int)), v1, v2, v3, v4, v5, v6, v7, v8]) ⟨_, _, _, _, _, _, _, _, rfl⟩ ?_) ?_
    · rintro j z σ M0 hj ⟨v1, v2, v3, v4, v5, v6, v7, v8, rfl⟩
      obtain ⟨hj1, rfl⟩ := rgI_get hj
      unfold b0_law
      have ad := addA_ll (x := .lst [.int 0]) (y := .lst (ns.map FT.T.int)) (xs := [.int 0]) (ys := ns.map FT.T.int) (M := M0) ⟨_, .inl rfl⟩ rfl rfl (by rw [List.length_map]; simp; omega)
      rw [show [FT.T.int 0] ++ ns.map FT.T.int = ((0 :: ns).map FT.T.int) from rfl] at ad
      obtain ⟨ce, hce⟩ := cell_ok kC (0 :: ns) j (by omega) M0
      have sz : [FT.T.int 0].length ≤ sizeLine := by rw [sizeLine_eq]; exact Nat.le_of_ble_eq_true rfl
      simp only [if_pos sz, bName, List.set_cons_zero, List.set_cons_succ, bind_ok, sSeq, sSet, eCall, aCons, aNil, eOp, eFz, lDisp, eC, eVar, getT, optT, List.getElem?_cons_zero, List.getElem?_cons_succ, Option.join_some, bind_asc]
      refine step ad ?_
      try simp only [bind_ok]
      refine step hce ?_
      try simp only [bind_ok]
      refine step (l_left_eq kC ce M0) ?_
      simp only [thenF_nx, List.set_cons_zero, List.set_cons_succ, bind_ok, sSeq, sSet, eCall, aCons, aNil, eC, eVar, getT, optT, List.getElem?_cons_zero, List.getElem?_cons_succ, Option.join_some, bind_asc]
      have po : PO M0.length (M0 ++ [(Po.new ce).cell]) := ⟨_, get_app⟩
      refine Ok.bind (next_ok kC po (by decide) (by decide)) ?_
      rintro t M1 ⟨nd, rfl, d1, d2, po1, f1⟩
      try simp_all_arith [and_self]
      refine Ok.bind (demands_ok kC po1 ⟨d1, d2⟩) ?_
      rintro t M2 ⟨r, ds, rfl, hra, hr, hlen, hbd, po2, f2⟩
      have hl : ds.length < 10 := by omega
      try simp_all_arith [and_self]
      refine Ok.bind (aim_ok kC po2) ?_
      rintro t M3 ⟨c, rfl, c0, bc, po3, f3⟩
      have hr3 := f3.get hr (by simp; exact hra)
      try simp_all_arith [and_self]
      refine Ok.bind (sums_ok kC hr3 hbd hl bc) ?_
      rintro t M4 ⟨⟨i, p, b, rw1, bp, bb, told⟩, f4⟩
      have hr4 := f4.get0 hr3
      try simp_all_arith [and_self]
      refine Ok.bind (ends_ok kC hr4 hbd) ?_
      rintro te M5 ⟨rfl, ends⟩
      rcases told with ⟨x, sh, rfl, lx, hs, al⟩ | ⟨n, d, sh, rfl, hn2, d0, hlk, hs⟩
      · rcases ends with ⟨rfl, inf⟩ | ⟨low, hi, rfl, lo, fe⟩
        · obtain ⟨d, dm, hlt⟩ := inf p b rw1.1 rw1.2.1
          have := al d dm
          omega
        · obtain ⟨w1, w2, w3⟩ := cert_least (c := c) rw1 hbd c0 bc
          have lb := lo.bn hbd
          have nx0 : NB 31 x.1 := Nat.lt_of_le_of_lt lx.bd bp.nb
          have nx1 : NB 31 x.2 := Nat.lt_of_le_of_lt (by have := lx.pos; have := lx.le; omega) bb.nb
          have a1 : mulA (.int c) (.int x.1) M5 = .ok (.int (c * x.1)) M5 := mulN bc.nb nx0
          have a2 : mulA (.int (c * x.1)) (.int low.2) M5 = .ok (.int (c * x.1 * low.2)) M5 := mulN (bc.nb.mul nx0) lb.2
          have a3 : mulA (.int c) (.int low.1) M5 = .ok (.int (c * low.1)) M5 := mulN bc.nb lb.1
          have a4 : mulA (.int (c * low.1)) (.int x.2) M5 = .ok (.int (c * low.1 * x.2)) M5 := mulN (bc.nb.mul lb.1) nx1
          have eq : c * x.1 * low.2 = c * low.1 * x.2 := by
            have e1 : p * low.2 = low.1 * b := Int.le_antisymm (le_low rw1 lo fe) (ge_low rw1.2.1 lo al)
            refine Int.eq_of_mul_eq_mul_right (Int.ne_of_gt rw1.1) ?_
            calc c * x.1 * low.2 * b = c * low.2 * (x.1 * b) := by simp only [Int.mul_comm, Int.mul_left_comm, Int.mul_assoc]
              _ = c * low.2 * (p * x.2) := by rw [lx.eq]
              _ = c * x.2 * (p * low.2) := by simp only [Int.mul_comm, Int.mul_left_comm, Int.mul_assoc]
              _ = c * x.2 * (low.1 * b) := by rw [e1]
              _ = c * low.1 * x.2 * b := by simp only [Int.mul_comm, Int.mul_left_comm, Int.mul_assoc]
          have ne : (!(c * x.1 * low.2 == c * low.1 * x.2)) = false := by rw [eq]; simp
          simp_all_arith [eq_ln, isN_t, isntN_t, neA_b, qT, a1, a2, a3, a4, ne, at3m]
          refine Ok.bind (holds_ok kC (wd := "least") (xt := .tup [qT x]) (x := x) (sh := sh) (ws := wf ds.length [(i, c)]) hr4 hbd hl c0 bc rw1.1 bb bp rfl (lx.nn rw1.2.1) (sh_nn hs w1) hs (by rw [hs.1, w1.1]) (fun w hw => (w1.2 w hw).2) ⟨.inr ⟨rfl, w2, w3, al, x, rfl, lx⟩⟩) ?_
          rintro t M6 ⟨rfl, rfl⟩
          simp_all_arith [and_self]
          exact Ok.ret ⟨_, rfl, _, _, _, _, _, _, _, _, rfl⟩
      · rcases ends with ⟨rfl, inf⟩ | ⟨low, hi, rfl, lo, fe⟩
        · obtain ⟨w1, w2, w3⟩ := cert_never rw1 bb hbd hn2 d0 hlk
          simp_all_arith [eq_nn, isN_non, isntN_non, neA_b, at2m]
          refine Ok.bind (holds_ok kC (wd := "never") (xt := .lst [qT (0, 1)]) (x := (0, 1)) (sh := sh) (ws := wf ds.length [(i, -d.1), ((n : Int), b)]) hr4 hbd hl c0 bc rw1.1 bb bp rfl (by decide) (sh_nn hs w1) hs (by rw [hs.1, w1.1]) (fun w hw => (w1.2 w hw).2) ⟨.inl ⟨rfl, w3, w2⟩⟩) ?_
          rintro t M6 ⟨rfl, rfl⟩
          simp_all_arith [and_self]
          exact Ok.ret ⟨_, rfl, _, _, _, _, _, _, _, _, rfl⟩
        · unfold lack at hlk
          exact (nv rw1.1 lo.1 d0 (show d.1 * p < d.2 * b by omega) (fe d (List.mem_of_getElem? hn2)) (le_low rw1 lo fe)).elim
    · rintro fl M ⟨σ, rfl, v1, v2, v3, v4, v5, v6, v7, v8, rfl⟩
      simp_all_arith [and_self]
      exact Ok.ret rfl
  obtain ⟨t, M, e, rfl⟩ := this
  exact ⟨M, e⟩
end My
open PySem PySem.W PyProof.Rows
set_option maxRecDepth 100000 in
set_option maxHeartbeats 0 in
theorem PySem.Challenge.cw_tryweir_k18_one_unknown_holds : PySem.Challenge.rw_tryweir_k18_one_unknown.Holds := by
  w_on; o_law; k_head; (case hw => w_witness2)
  k_fill
  refine L2.walk_ofK (l := PySem.Challenge.rw_tryweir_k18_one_unknown) (n := 63) (k := 6) (x := "script") (CX := L2.CX0) (sp := fun K => FT.spT K (My.f_law (FT.clOf K "Corner"))) rfl (by decide) rfl ⟨rfl, by decide, by decide⟩ (fun w h Y => PySem.W.kIn_of Y) ?F ?S ?C
  case F =>
    intro w mg fa h KX G hmg
    have D_common : L2.Df (L2.KOf KX) mg "common" My.s_common ["one", "other"] := by
      dsimp only [L2.KOf]
      refine' L2.df_mk KX G ?a1 ?l1 ?c1 ?k1 ?b1
      (case a1 => k_is); (case l1 => k_is); (case c1 => k_is); (case k1 => k_is)
      exact fun _ _ _ _ _ _ us hl => match us, hl with | [_, _], _ => rfl
    have D_lowest : L2.Df (L2.KOf KX) mg "lowest" My.s_lowest ["top", "bottom"] := by
      dsimp only [L2.KOf]
      refine' L2.df_mk KX G ?a2 ?l2 ?c2 ?k2 ?b2
      (case a2 => k_is); (case l2 => k_is); (case c2 => k_is); (case k2 => k_is)
      exact fun _ _ _ _ _ _ us hl => match us, hl with | [_, _], _ => rfl
    have D_Corner : FT.Di (L2.KOf KX) mg "Corner" "Corner.__init__" (FT.clOf (L2.KOf KX) "Corner") My.s_Corner_init ["self", "chosen", "point", "lines", "bottom"] := by
      dsimp only [L2.KOf]
      refine' FT.di_mk KX G ?a3 ?e3 ?i3 ?l3 ?c3 ?k3 ?m3 ?q3 ?b3
      (case a3 => k_is); (case e3 => k_is); (case i3 => k_is); (case l3 => k_is); (case c3 => k_is); (case k3 => k_is); (case m3 => k_is); (case q3 => k_is)
      exact fun _ _ _ _ _ _ us hl => match us, hl with | [_, _, _, _, _], _ => rfl
    have cls_Corner : L2.Cls (L2.KOf KX) (FT.clOf (L2.KOf KX) "Corner") := by
      dsimp only [L2.KOf]
      refine' FT.cls_mk ?a4 ?p4 ?h4 ?o4 ?s4
      (case a4 => k_is); (case p4 => k_is); (case h4 => k_is); (case o4 => k_is); (case s4 => k_is)
    have na_Corner_bottom : L2.NoAttr (L2.KOf KX) (FT.clOf (L2.KOf KX) "Corner") "bottom" := by
      dsimp only [L2.KOf]
      refine' FT.na_mk ?a5 ?n5
      (case a5 => k_is); (case n5 => k_is)
    have na_Corner_chosen : L2.NoAttr (L2.KOf KX) (FT.clOf (L2.KOf KX) "Corner") "chosen" := by
      dsimp only [L2.KOf]
      refine' FT.na_mk ?a6 ?n6
      (case a6 => k_is); (case n6 => k_is)
    have na_Corner_lines : L2.NoAttr (L2.KOf KX) (FT.clOf (L2.KOf KX) "Corner") "lines" := by
      dsimp only [L2.KOf]
      refine' FT.na_mk ?a7 ?n7
      (case a7 => k_is); (case n7 => k_is)
    have na_Corner_point : L2.NoAttr (L2.KOf KX) (FT.clOf (L2.KOf KX) "Corner") "point" := by
      dsimp only [L2.KOf]
      refine' FT.na_mk ?a8 ?n8
      (case a8 => k_is); (case n8 => k_is)
    have D_first_corner : L2.Df (L2.KOf KX) mg "first_corner" My.s_first_corner ["demand_count", "aim"] := by
      dsimp only [L2.KOf]
      refine' L2.df_mk KX G ?a9 ?l9 ?c9 ?k9 ?b9
      (case a9 => k_is); (case l9 => k_is); (case c9 => k_is); (case k9 => k_is)
      exact fun _ _ _ _ _ _ us hl => match us, hl with | [_, _], _ => rfl
    have D_all_demands : L2.Df (L2.KOf KX) mg "all_demands" My.s_all_demands ["demands", "size"] := by
      dsimp only [L2.KOf]
      refine' L2.df_mk KX G ?a10 ?l10 ?c10 ?k10 ?b10
      (case a10 => k_is); (case l10 => k_is); (case c10 => k_is); (case k10 => k_is)
      exact fun _ _ _ _ _ _ us hl => match us, hl with | [_, _], _ => rfl
    have D_lack_of : L2.Df (L2.KOf KX) mg "lack_of" My.s_lack_of ["demand", "corner"] := by
      dsimp only [L2.KOf]
      refine' L2.df_mk KX G ?a11 ?l11 ?c11 ?k11 ?b11
      (case a11 => k_is); (case l11 => k_is); (case c11 => k_is); (case k11 => k_is)
      exact fun _ _ _ _ _ _ us hl => match us, hl with | [_, _], _ => rfl
    have D_most_broken : L2.Df (L2.KOf KX) mg "most_broken" My.s_most_broken ["every", "corner"] := by
      dsimp only [L2.KOf]
      refine' L2.df_mk KX G ?a12 ?l12 ?c12 ?k12 ?b12
      (case a12 => k_is); (case l12 => k_is); (case c12 => k_is); (case k12 => k_is)
      exact fun _ _ _ _ _ _ us hl => match us, hl with | [_, _], _ => rfl
    have D_gains_of : L2.Df (L2.KOf KX) mg "gains_of" My.s_gains_of ["corner", "demand"] := by
      dsimp only [L2.KOf]
      refine' L2.df_mk KX G ?a13 ?l13 ?c13 ?k13 ?b13
      (case a13 => k_is); (case l13 => k_is); (case c13 => k_is); (case k13 => k_is)
      exact fun _ _ _ _ _ _ us hl => match us, hl with | [_, _], _ => rfl
    have D_is_cheaper : L2.Df (L2.KOf KX) mg "is_cheaper" My.s_is_cheaper ["line", "gain", "other", "other_gain"] := by
      dsimp only [L2.KOf]
      refine' L2.df_mk KX G ?a14 ?l14 ?c14 ?k14 ?b14
      (case a14 => k_is); (case l14 => k_is); (case c14 => k_is); (case k14 => k_is)
      exact fun _ _ _ _ _ _ us hl => match us, hl with | [_, _, _, _], _ => rfl
    have D_cheapest : L2.Df (L2.KOf KX) mg "cheapest" My.s_cheapest ["lines", "gains"] := by
      dsimp only [L2.KOf]
      refine' L2.df_mk KX G ?a15 ?l15 ?c15 ?k15 ?b15
      (case a15 => k_is); (case l15 => k_is); (case c15 => k_is); (case k15 => k_is)
      exact fun _ _ _ _ _ _ us hl => match us, hl with | [_, _], _ => rfl
    have D_blended : L2.Df (L2.KOf KX) mg "blended" My.s_blended ["numbers", "factor", "others", "other_factor", "bottom"] := by
      dsimp only [L2.KOf]
      refine' L2.df_mk KX G ?a16 ?l16 ?c16 ?k16 ?b16
      (case a16 => k_is); (case l16 => k_is); (case c16 => k_is); (case k16 => k_is)
      exact fun _ _ _ _ _ _ us hl => match us, hl with | [_, _, _, _, _], _ => rfl
    have D_moved_corner : L2.Df (L2.KOf KX) mg "moved_corner" My.s_moved_corner ["corner", "gains", "place", "number", "lack"] := by
      dsimp only [L2.KOf]
      refine' L2.df_mk KX G ?a17 ?l17 ?c17 ?k17 ?b17
      (case a17 => k_is); (case l17 => k_is); (case c17 => k_is); (case k17 => k_is)
      exact fun _ _ _ _ _ _ us hl => match us, hl with | [_, _, _, _, _], _ => rfl
    have D_shares_of : L2.Df (L2.KOf KX) mg "shares_of" My.s_shares_of ["demand_count", "chosen", "tops", "bottom"] := by
      dsimp only [L2.KOf]
      refine' L2.df_mk KX G ?a18 ?l18 ?c18 ?k18 ?b18
      (case a18 => k_is); (case l18 => k_is); (case c18 => k_is); (case k18 => k_is)
      exact fun _ _ _ _ _ _ us hl => match us, hl with | [_, _, _, _], _ => rfl
    have D_least_told : L2.Df (L2.KOf KX) mg "least_told" My.s_least_told ["demand_count", "corner"] := by
      dsimp only [L2.KOf]
      refine' L2.df_mk KX G ?a19 ?l19 ?c19 ?k19 ?b19
      (case a19 => k_is); (case l19 => k_is); (case c19 => k_is); (case k19 => k_is)
      exact fun _ _ _ _ _ _ us hl => match us, hl with | [_, _], _ => rfl
    have D_never_told : L2.Df (L2.KOf KX) mg "never_told" My.s_never_told ["demand_count", "corner", "gains", "broken"] := by
      dsimp only [L2.KOf]
      refine' L2.df_mk KX G ?a20 ?l20 ?c20 ?k20 ?b20
      (case a20 => k_is); (case l20 => k_is); (case c20 => k_is); (case k20 => k_is)
      exact fun _ _ _ _ _ _ us hl => match us, hl with | [_, _, _, _], _ => rfl
    have D_least_sums : L2.Df (L2.KOf KX) mg "least_sums" My.s_least_sums ["demands", "aim"] := by
      dsimp only [L2.KOf]
      refine' L2.df_mk KX G ?a21 ?l21 ?c21 ?k21 ?b21
      (case a21 => k_is); (case l21 => k_is); (case c21 => k_is); (case k21 => k_is)
      exact fun _ _ _ _ _ _ us hl => match us, hl with | [_, _], _ => rfl
    have D_l_cell : L2.Df (L2.KOf KX) mg "_law_cell" My.s_l_cell ["script", "k"] := by
      dsimp only [L2.KOf]
      refine' L2.df_mk KX G ?a22 ?l22 ?c22 ?k22 ?b22
      (case a22 => k_is); (case l22 => k_is); (case c22 => k_is); (case k22 => k_is)
      exact fun _ _ _ _ _ _ us hl => match us, hl with | [_, _], _ => rfl
    have D_l_left : L2.Df (L2.KOf KX) mg "_law_left" My.s_l_left ["cell"] := by
      dsimp only [L2.KOf]
      refine' L2.df_mk KX G ?a23 ?l23 ?c23 ?k23 ?b23
      (case a23 => k_is); (case l23 => k_is); (case c23 => k_is); (case k23 => k_is)
      exact fun _ _ _ _ _ _ us hl => match us, hl with | [_], _ => rfl
    have D_l_next : L2.Df (L2.KOf KX) mg "_law_next" My.s_l_next ["pool", "base"] := by
      dsimp only [L2.KOf]
      refine' L2.df_mk KX G ?a24 ?l24 ?c24 ?k24 ?b24
      (case a24 => k_is); (case l24 => k_is); (case c24 => k_is); (case k24 => k_is)
      exact fun _ _ _ _ _ _ us hl => match us, hl with | [_, _], _ => rfl
    have D_l_wide : L2.Df (L2.KOf KX) mg "_law_wide" My.s_l_wide ["pool", "base"] := by
      dsimp only [L2.KOf]
      refine' L2.df_mk KX G ?a25 ?l25 ?c25 ?k25 ?b25
      (case a25 => k_is); (case l25 => k_is); (case c25 => k_is); (case k25 => k_is)
      exact fun _ _ _ _ _ _ us hl => match us, hl with | [_, _], _ => rfl
    have D_l_number : L2.Df (L2.KOf KX) mg "_law_number" My.s_l_number ["pool", "size", "sort"] := by
      dsimp only [L2.KOf]
      refine' L2.df_mk KX G ?a26 ?l26 ?c26 ?k26 ?b26
      (case a26 => k_is); (case l26 => k_is); (case c26 => k_is); (case k26 => k_is)
      exact fun _ _ _ _ _ _ us hl => match us, hl with | [_, _, _], _ => rfl
    have D_l_demands : L2.Df (L2.KOf KX) mg "_law_demands" My.s_l_demands ["pool", "size", "many"] := by
      dsimp only [L2.KOf]
      refine' L2.df_mk KX G ?a27 ?l27 ?c27 ?k27 ?b27
      (case a27 => k_is); (case l27 => k_is); (case c27 => k_is); (case k27 => k_is)
      exact fun _ _ _ _ _ _ us hl => match us, hl with | [_, _, _], _ => rfl
    have D_l_aim : L2.Df (L2.KOf KX) mg "_law_aim" My.s_l_aim ["pool", "size"] := by
      dsimp only [L2.KOf]
      refine' L2.df_mk KX G ?a28 ?l28 ?c28 ?k28 ?b28
      (case a28 => k_is); (case l28 => k_is); (case c28 => k_is); (case k28 => k_is)
      exact fun _ _ _ _ _ _ us hl => match us, hl with | [_, _], _ => rfl
    have D_l_total : L2.Df (L2.KOf KX) mg "_law_total" My.s_l_total ["numbers", "some"] := by
      dsimp only [L2.KOf]
      refine' L2.df_mk KX G ?a29 ?l29 ?c29 ?k29 ?b29
      (case a29 => k_is); (case l29 => k_is); (case c29 => k_is); (case k29 => k_is)
      exact fun _ _ _ _ _ _ us hl => match us, hl with | [_, _], _ => rfl
    have D_l_meets : L2.Df (L2.KOf KX) mg "_law_meets" My.s_l_meets ["demands", "x"] := by
      dsimp only [L2.KOf]
      refine' L2.df_mk KX G ?a30 ?l30 ?c30 ?k30 ?b30
      (case a30 => k_is); (case l30 => k_is); (case c30 => k_is); (case k30 => k_is)
      exact fun _ _ _ _ _ _ us hl => match us, hl with | [_, _], _ => rfl
    have D_l_column : L2.Df (L2.KOf KX) mg "_law_column" My.s_l_column ["demands", "k"] := by
      dsimp only [L2.KOf]
      refine' L2.df_mk KX G ?a31 ?l31 ?c31 ?k31 ?b31
      (case a31 => k_is); (case l31 => k_is); (case c31 => k_is); (case k31 => k_is)
      exact fun _ _ _ _ _ _ us hl => match us, hl with | [_, _], _ => rfl
    have D_l_holds : L2.Df (L2.KOf KX) mg "_law_holds" My.s_l_holds ["demands", "aim", "word", "x", "shares"] := by
      dsimp only [L2.KOf]
      refine' L2.df_mk KX G ?a32 ?l32 ?c32 ?k32 ?b32
      (case a32 => k_is); (case l32 => k_is); (case c32 => k_is); (case k32 => k_is)
      exact fun _ _ _ _ _ _ us hl => match us, hl with | [_, _, _, _, _], _ => rfl
    have D_l_ends : L2.Df (L2.KOf KX) mg "_law_ends" My.s_l_ends ["demands"] := by
      dsimp only [L2.KOf]
      refine' L2.df_mk KX G ?a33 ?l33 ?c33 ?k33 ?b33
      (case a33 => k_is); (case l33 => k_is); (case c33 => k_is); (case k33 => k_is)
      exact fun _ _ _ _ _ _ us hl => match us, hl with | [_], _ => rfl
    have n_abs : mg "abs" = none := by
      refine' PySem.W.mg_none_of KX G ?z34
      k_is
    have n_len : mg "len" = none := by
      refine' PySem.W.mg_none_of KX G ?z35
      k_is
    have n_range : mg "range" = none := by
      refine' PySem.W.mg_none_of KX G ?z36
      k_is
    have n_enumerate : mg "enumerate" = none := by
      refine' PySem.W.mg_none_of KX G ?z37
      k_is
    have n_sum : mg "sum" = none := by
      refine' PySem.W.mg_none_of KX G ?z38
      k_is
    have n_zip : mg "zip" = none := by
      refine' PySem.W.mg_none_of KX G ?z39
      k_is
    have n_list : mg "list" = none := by
      refine' PySem.W.mg_none_of KX G ?z40
      k_is
    have n_tuple : mg "tuple" = none := by
      refine' PySem.W.mg_none_of KX G ?z41
      k_is
    have n_max : mg "max" = none := by
      refine' PySem.W.mg_none_of KX G ?z42
      k_is
    have n_int : mg "int" = none := by
      refine' PySem.W.mg_none_of KX G ?z43
      k_is
    have n_min : mg "min" = none := by
      refine' PySem.W.mg_none_of KX G ?z44
      k_is
    have c_AHEAD : ∃ t, mg "AHEAD" = some (.int 2 t) := by
      have h : ∃ v, mg "AHEAD" = some v ∧ ∃ t, v = .int 2 t := by
        refine' ⟨_, PySem.W.mg_of KX G ?z45, ?y45⟩
        (case z45 => k_is)
        exact ⟨_, rfl⟩
      obtain ⟨v, h1, t, h2⟩ := h
      exact ⟨t, by rw [h1, h2]⟩
    have L := by
      refine' L2.law_mk (st := My.s_law) KX G ?la ?ll ?lc ?lk ?lb
      (case la => k_is); (case ll => k_is); (case lc => k_is); (case lk => k_is)
      exact fun _ _ _ _ _ _ s u => .of_eq rfl
    obtain ⟨f, fd, F, g, hb⟩ := L
    have e := hmg.symm.trans g
    cases e
    have T : My.Txt (L2.KOf KX) mg (FT.clOf (L2.KOf KX) "Corner") := ⟨cls_Corner, na_Corner_bottom, na_Corner_chosen, na_Corner_lines, na_Corner_point, n_abs, n_len, n_range, n_enumerate, n_sum, n_zip, n_list, n_tuple, n_max, n_int, n_min, c_AHEAD⟩
    refine ⟨fd, hb, fun base _ _ => ?_⟩
    have c_common := My.c_common (P := PySem.Challenge.rw_tryweir_k18_one_unknown.prog) (w := w) (base := base) D_common T 
    have c_lowest := My.c_lowest (P := PySem.Challenge.rw_tryweir_k18_one_unknown.prog) (w := w) (base := base) D_lowest T c_common
    have m_Corner := My.m_Corner (P := PySem.Challenge.rw_tryweir_k18_one_unknown.prog) (w := w) (base := base) D_Corner T 
    have c_first_corner := My.c_first_corner (P := PySem.Challenge.rw_tryweir_k18_one_unknown.prog) (w := w) (base := base) D_first_corner T m_Corner
    have c_all_demands := My.c_all_demands (P := PySem.Challenge.rw_tryweir_k18_one_unknown.prog) (w := w) (base := base) D_all_demands T 
    have c_lack_of := My.c_lack_of (P := PySem.Challenge.rw_tryweir_k18_one_unknown.prog) (w := w) (base := base) D_lack_of T 
    have c_most_broken := My.c_most_broken (P := PySem.Challenge.rw_tryweir_k18_one_unknown.prog) (w := w) (base := base) D_most_broken T c_lack_of
    have c_gains_of := My.c_gains_of (P := PySem.Challenge.rw_tryweir_k18_one_unknown.prog) (w := w) (base := base) D_gains_of T 
    have c_is_cheaper := My.c_is_cheaper (P := PySem.Challenge.rw_tryweir_k18_one_unknown.prog) (w := w) (base := base) D_is_cheaper T 
    have c_cheapest := My.c_cheapest (P := PySem.Challenge.rw_tryweir_k18_one_unknown.prog) (w := w) (base := base) D_cheapest T c_is_cheaper
    have c_blended := My.c_blended (P := PySem.Challenge.rw_tryweir_k18_one_unknown.prog) (w := w) (base := base) D_blended T 
    have c_moved_corner := My.c_moved_corner (P := PySem.Challenge.rw_tryweir_k18_one_unknown.prog) (w := w) (base := base) D_moved_corner T c_blended m_Corner
    have c_shares_of := My.c_shares_of (P := PySem.Challenge.rw_tryweir_k18_one_unknown.prog) (w := w) (base := base) D_shares_of T c_lowest
    have c_least_told := My.c_least_told (P := PySem.Challenge.rw_tryweir_k18_one_unknown.prog) (w := w) (base := base) D_least_told T c_shares_of c_lowest
    have c_never_told := My.c_never_told (P := PySem.Challenge.rw_tryweir_k18_one_unknown.prog) (w := w) (base := base) D_never_told T c_shares_of
    have c_least_sums := My.c_least_sums (P := PySem.Challenge.rw_tryweir_k18_one_unknown.prog) (w := w) (base := base) D_least_sums T c_all_demands c_first_corner c_most_broken c_least_told c_gains_of c_cheapest c_moved_corner c_never_told c_lack_of
    have c_l_cell := My.c_l_cell (P := PySem.Challenge.rw_tryweir_k18_one_unknown.prog) (w := w) (base := base) D_l_cell T 
    have c_l_left := My.c_l_left (P := PySem.Challenge.rw_tryweir_k18_one_unknown.prog) (w := w) (base := base) D_l_left T 
    have c_l_next := My.c_l_next (P := PySem.Challenge.rw_tryweir_k18_one_unknown.prog) (w := w) (base := base) D_l_next T 
    have c_l_wide := My.c_l_wide (P := PySem.Challenge.rw_tryweir_k18_one_unknown.prog) (w := w) (base := base) D_l_wide T c_l_next
    have c_l_number := My.c_l_number (P := PySem.Challenge.rw_tryweir_k18_one_unknown.prog) (w := w) (base := base) D_l_number T c_l_wide c_l_next
    have c_l_demands := My.c_l_demands (P := PySem.Challenge.rw_tryweir_k18_one_unknown.prog) (w := w) (base := base) D_l_demands T c_l_next c_l_number
    have c_l_aim := My.c_l_aim (P := PySem.Challenge.rw_tryweir_k18_one_unknown.prog) (w := w) (base := base) D_l_aim T c_l_next c_l_wide
    have c_l_total := My.c_l_total (P := PySem.Challenge.rw_tryweir_k18_one_unknown.prog) (w := w) (base := base) D_l_total T 
    have c_l_meets := My.c_l_meets (P := PySem.Challenge.rw_tryweir_k18_one_unknown.prog) (w := w) (base := base) D_l_meets T c_l_total
    have c_l_column := My.c_l_column (P := PySem.Challenge.rw_tryweir_k18_one_unknown.prog) (w := w) (base := base) D_l_column T 
    have c_l_holds := My.c_l_holds (P := PySem.Challenge.rw_tryweir_k18_one_unknown.prog) (w := w) (base := base) D_l_holds T c_l_total c_l_meets c_l_column
    have c_l_ends := My.c_l_ends (P := PySem.Challenge.rw_tryweir_k18_one_unknown.prog) (w := w) (base := base) D_l_ends T 
    exact My.ok_law F T c_l_left c_l_demands c_l_aim c_least_sums c_l_ends c_l_cell c_l_next c_l_holds
  case S =>
    intro K H a ns hl _ hS
    obtain ⟨M, h⟩ := My.law_true (FT.clOf K "Corner") ns hl
    exact FT.law_end hS h
  case C => exact fun _ _ _ _ z => z
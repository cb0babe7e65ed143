import PyProof.Rows.All
import Wide.All
import OpenK.AllK
import Wide.FinOn
import PyProof.EqAt
import PyProof.EqKinds
import PyProof.TupleCall
import KE.BitLaws
import Open.SpecLaws
import KE.OsHead
import KE.OsGo
import PyUx04
import PyFlatLaws
import KE.KTupSum
import KE.KLam
import KE.KNestM
import PyProof.WalkInts
import PyProof.MinMaxWalk
import KE.KSortKey
import KE.KMinKey
import PyProof.Rows.CallKwBuiltin
import PyProof.DictDisplay
import PyProof.ListMulRoad
import PyProof.FactsAll.tuple_2
import PySem.Challenge.RW_bittenbar_s01_answers
section
set_option Elab.async false
set_option linter.all false
set_option maxRecDepth 100000
namespace L2
open PySem PySem.Spec PyProof.Rows

/-- a key: an int or a str -/
abbrev Key := Sum Int Str
def keyIs : Key → Value → Bool
  | .inl k, v => Value.isInt k v
  | .inr x, v => Value.isStrOf x v
def keyH (w : World) : Key → Int
  | .inl k => hashInt k
  | .inr x => hashStr w x
theorem keyIs_shape : ∀ {k : Key} {v : Value}, keyIs k v = true → (∃ i t, k = Sum.inl i ∧ v = Value.int i t) ∨ (∃ x t, k = Sum.inr x ∧ v = Value.str x t)
  | .inl i, v, h => by
    obtain ⟨t, e⟩ := Value.isInt_shape (k := i) (v := v) h
    exact .inl ⟨i, t, rfl, e⟩
  | .inr x, v, h => by
    obtain ⟨t, e⟩ := Value.isStrOf_shape (x := x) (v := v) h
    exact .inr ⟨x, t, rfl, e⟩
theorem keyIs_int (i : Int) (t : Tok) : keyIs (.inl i) (.int i t) = true := by simp [keyIs, Value.isInt]
theorem keyIs_str (x : Str) (t : Tok) : keyIs (.inr x) (.str x t) = true := by simp [keyIs, Value.isStrOf]
theorem key_ll (a b : Int) : decide ((Sum.inl a : Key) = Sum.inl b) = (a == b) := by
  by_cases e : a = b
  · subst e; simp
  · have h : ¬ (Sum.inl a : Key) = Sum.inl b := fun q => e (Sum.inl.inj q)
    rw [decide_eq_false h]
    exact (beq_eq_false_iff_ne.mpr e).symm
theorem key_rr (a b : Str) : decide ((Sum.inr a : Key) = Sum.inr b) = decide (a = b) := by
  by_cases e : a = b
  · subst e; simp
  · have h : ¬ (Sum.inr a : Key) = Sum.inr b := fun q => e (Sum.inr.inj q)
    rw [decide_eq_false h, decide_eq_false e]
theorem key_lr (a : Int) (b : Str) : decide ((Sum.inl a : Key) = Sum.inr b) = false := decide_eq_false (fun q => nomatch q)
theorem key_rl (a : Str) (b : Int) : decide ((Sum.inr a : Key) = Sum.inl b) = false := decide_eq_false (fun q => nomatch q)

def mixKind (prog : Program) (w : World) : PySem.KeyKind prog w Key where
  is := keyIs
  hash := keyH w
  inj := fun v a b ha hb => by
    rcases keyIs_shape ha with ⟨i, t, rfl, rfl⟩ | ⟨x, t, rfl, rfl⟩
    · rcases keyIs_shape hb with ⟨j, u, rfl, e⟩ | ⟨y, u, rfl, e⟩
      · injection e with e1 _; rw [e1]
      · exact nomatch e
    · rcases keyIs_shape hb with ⟨j, u, rfl, e⟩ | ⟨y, u, rfl, e⟩
      · exact nomatch e
      · injection e with e1 _; rw [e1]
  byValue := fun k v h => by
    rcases keyIs_shape h with ⟨i, t, rfl, rfl⟩ | ⟨x, t, rfl, rfl⟩ <;> rfl
  pyHash := fun hv h => by
    rcases keyIs_shape hv with ⟨i, t, rfl, rfl⟩ | ⟨x, t, rfl, rfl⟩
    · exact wpAny_pyHash_int h
    · exact wpAny_pyHash_str h
  eqBool := fun hu hv h => by
    rcases keyIs_shape hu with ⟨i, t, rfl, rfl⟩ | ⟨x, t, rfl, rfl⟩
    · rcases keyIs_shape hv with ⟨j, u, rfl, rfl⟩ | ⟨y, u, rfl, rfl⟩
      · rw [key_ll] at h; exact wpAny_eqBool_int h
      · rw [key_lr] at h; exact SeqAt.EqAt.int_str i t y u _ _ _ _ h
    · rcases keyIs_shape hv with ⟨j, u, rfl, rfl⟩ | ⟨y, u, rfl, rfl⟩
      · rw [key_rl] at h; exact SeqAt.EqAt.str_int x t j u _ _ _ _ h
      · rw [key_rr] at h; exact wpAny_eqBool_str h
  «strs» := fun k x t v h => by
    rcases keyIs_shape h with ⟨i, u, rfl, e⟩ | ⟨y, u, rfl, e⟩
    · exact nomatch e
    · injection e with e1 _
      subst e1
      cases v <;> rfl

theorem mixKind_int (prog : Program) (w : World) (i : Int) (t : Tok) : (mixKind prog w).is (.inl i) (.int i t) = true := keyIs_int i t
theorem mixKind_str (prog : Program) (w : World) (x : Str) (t : Tok) : (mixKind prog w).is (.inr x) (.str x t) = true := keyIs_str x t
end L2

namespace L2
open PySem PySem.Spec PyProof.Rows

/-- a value, without the heap -/
inductive V where
  | non | bl (b : Bool) | int (i : Int) | str (x : Str) | byt (b : Array UInt8) | flt (b : UInt64) | ref (a : Addr) | ty (n : String)
  deriving DecidableEq

def RelV : V → Value → Prop
  | .non, u => u = Value.none
  | .bl b, u => u = Value.bool b
  | .int i, u => ∃ t, u = Value.int i t
  | .str x, u => ∃ t, u = Value.str x t
  | .byt b, u => ∃ t, u = Value.bytes b t
  | .flt b, u => ∃ t, u = Value.float b t
  | .ref a, u => u = Value.ref a
  | .ty n, u => u = Value.type n

abbrev Vals : List V → List Value → Prop := Paired RelV
theorem Vals.length {xs : List V} {us : List Value} (r : Vals xs us) : xs.length = us.length := Paired.length r
theorem Vals.get : ∀ {xs : List V} {us : List Value} {i : Nat} {x : V}, Vals xs us → xs[i]? = some x → ∃ u, us[i]? = some u ∧ RelV x u
  | _, _, _, _, .nil, e => by simp at e
  | _, _, 0, _, .cons r _, e => by simp at e; subst e; exact ⟨_, rfl, r⟩
  | _, _, i + 1, x, .cons _ t, e => by
    obtain ⟨u, h1, h2⟩ := Vals.get (i := i) (x := x) t (by simpa using e)
    exact ⟨u, by simpa using h1, h2⟩
theorem Vals.set {x : V} {u : Value} (r : RelV x u) : ∀ {xs : List V} {us : List Value} (i : Nat), Vals xs us → Vals (xs.set i x) (us.set i u)
  | _, _, _, .nil => .nil
  | _, _, 0, .cons _ t => .cons r t
  | _, _, i + 1, .cons q t => .cons q (Vals.set r i t)
theorem Vals.append : ∀ {xs ys : List V} {us ws : List Value}, Vals xs us → Vals ys ws → Vals (xs ++ ys) (us ++ ws)
  | _, _, _, _, .nil, s => s
  | _, _, _, _, .cons r t, s => .cons r (Vals.append t s)
theorem Vals.take : ∀ {xs : List V} {us : List Value} (n : Nat), Vals xs us → Vals (xs.take n) (us.take n)
  | _, _, 0, _ => .nil
  | _, _, _ + 1, .nil => .nil
  | _, _, n + 1, .cons r t => .cons r (Vals.take n t)
theorem Vals.drop : ∀ {xs : List V} {us : List Value} (n : Nat), Vals xs us → Vals (xs.drop n) (us.drop n)
  | _, _, 0, r => r
  | _, _, _ + 1, .nil => .nil
  | _, _, n + 1, .cons _ t => Vals.drop n t
theorem Vals.none_of : ∀ {xs : List V} {us : List Value} {i : Nat}, Vals xs us → xs[i]? = none → us[i]? = none := fun {xs us i} r e => by
  have h1 := r.length
  have h2 : xs.length ≤ i := List.getElem?_eq_none_iff.mp e
  exact List.getElem?_eq_none_iff.mpr (by omega)

def RelO : Option V → Option Value → Prop
  | some v, some u => RelV v u
  | none, none => True
  | _, _ => False
def KV {κ : Type} : List (κ × V) → List (κ × Value) → Prop := Paired fun (p : κ × V) (q : κ × Value) => p.1 = q.1 ∧ RelV p.2 q.2

/-- a key of a dict (00_mix): an int or a text -/
def kV : Key → V
  | .inl i => .int i
  | .inr x => .str x

/-- what stands at a tracked address -/
inductive HO where
  /-- a list -/
  | lst (xs : List V)
  /-- a tuple (never changes) -/
  | tup (xs : List V)
  /-- a dict whose keys are ints and texts; one whose keys are tuples of ints and texts (the empty one is both) -/
  | dK (kvs : List (Key × V)) | dT (kvs : List (List Key × V))
  /-- a set of ints: its members, its size -/
  | set (S : Int → Bool) (n : Nat)
  /-- an instance of the class at C, its dict at dx, its attributes -/
  | ins (C dx : Addr) (fs : List (Str × V))
  /-- the dict of the instance at x -/
  | own (x : Addr)
  /-- the dict of an exception -/
  | xd (fs : List (Str × V))
  /-- a bound method, f of x -/
  | met (f x : Addr)
  /-- a range object lo, lo + 1, .. below hi -/
  | rng (lo hi : Int)
  /-- a thing that is known to the object (the script; a dict while a loop walks it): read, never written while it is so -/
  | frz (o : Obj) (u : HO)
  /-- a code object's table -/
  | tbl (ps : Array Value)
  /-- any other thing, by what is true of its one object (a def of one's own: SetO a S n := HO.ext fun h => ..) -/
  | ext (φ : Heap → Prop)

abbrev Hp := Addr → Option HO
def upd (H : Hp) (a : Addr) (o : HO) : Hp := fun b => if b = a then some o else H b
theorem upd_same {H : Hp} {a : Addr} {o : HO} : upd H a o a = some o := by unfold upd; rw [if_pos rfl]
theorem upd_ne {H : Hp} {a b : Addr} {o : HO} (h : b ≠ a) : upd H a o b = H b := by unfold upd; rw [if_neg h]
theorem upd_upd {H : Hp} {a : Addr} {o u : HO} : upd (upd H a o) a u = upd H a u := by
  funext b; unfold upd; split <;> rfl
/-- two objects of different content stand apart -/
theorem ne_of {H : Hp} {a b : Addr} {o u : HO} (h : H a = some o) (h' : H b = some u) (d : o ≠ u) : a ≠ b := by
  intro e; subst e; rw [h] at h'; exact d (Option.some.inj h')
theorem ne_of_none {H : Hp} {a b : Addr} {o : HO} (h : H a = some o) (h' : H b = none) : a ≠ b := by
  intro e; subst e; rw [h] at h'; cases h'

section
variable (P : Program) (w : World)
def ObjOk (H : Hp) (h : Heap) (a : Addr) : HO → Prop
  | .lst xs => xs.length ≤ sizeLine ∧ ∃ (its : List Value) (n : Nat), Vals xs its ∧ h.get? a = some { cls := .type "list", data := .seq its.toArray n }
  | .tup xs => xs.length ≤ sizeLine ∧ ∃ its : List Value, Vals xs its ∧ IsTup h a its.toArray
  | .dK kvs => kvs.length ≤ sizeLine ∧ (a == sysModules) = false ∧ ∃ vs, KV kvs vs ∧ h.DictOf (mixKind P w) a vs
  | .dT kvs => kvs.length ≤ sizeLine ∧ (a == sysModules) = false ∧ ∃ xs : List (List Key × Addr × Value),
      Paired (fun (p : List Key × V) (q : List Key × Addr × Value) => p.1 = q.1 ∧ H q.2.1 = some (.tup (p.1.map kV)) ∧ RelV p.2 q.2.2) kvs xs ∧
      ∃ o es ep, h.get? a = some o ∧ o.ExactDict ∧ o.data = .dict es ep ∧ es.toList = xs.map (entryOfKey (tupleKind (mixKind P w))) ∧ (xs.map (·.1)).Nodup
  | .set S n => h.SetOf (intKind P w) a S n
  | .ins C dx fs => H dx = some (.own a) ∧ fs.length ≤ 1000 ∧ dx ≠ a ∧ h.get? a = some (PySem.W.instObj C dx) ∧
      ∃ mA, h.Ns1 dx mA ∧ (∀ f, RelO (fs.lookup f) (mA f)) ∧ PySem.Within mA (fs.map (·.1))
  | .own _ => ∃ o, h.get? a = some o
  | .xd fs => ∃ mA, h.Ns1 a mA ∧ ∀ f, RelO (fs.lookup f) (mA f)
  | .rng lo hi => ∃ t u v, h.get? a = some { cls := .type "range", data := .fields #[.int lo t, .int hi u, .int 1 v] }
  | .frz o u => h.get? a = some o ∧ ObjOk H h a u
  | .tbl ps => h.get? a = some { cls := .none, data := .fields ps }
  | .met f x => h.get? a = some (PySem.W.methodObj (.ref f) (.ref x))
  | .ext φ => φ h ∧ (∃ o, h.get? a = some o) ∧ ∀ h1 h2 : Heap, φ h1 → (∀ o, h1.get? a = some o → h2.get? a = some o) → φ h2
/-- the abstract heap is held -/
def HOk (H : Hp) (h : Heap) : Prop := ∀ a o, H a = some o → ObjOk P w H h a o
end

section
variable {P : Program} {w : World} {H H' : Hp} {h h' : Heap} {a : Addr} {o : HO}
theorem ObjOk.lt (x : ObjOk P w H h a o) : a < h.objs.size := by
  cases o with
  | lst xs => obtain ⟨_, _, _, _, e⟩ := x; exact Heap.lt_size e
  | tup xs => obtain ⟨_, _, _, p⟩ := x; exact p.lt
  | dK kvs => obtain ⟨_, _, _, _, o, _, _, e, _⟩ := x; exact Heap.lt_size e
  | dT kvs => obtain ⟨_, _, _, _, o, _, _, e, _⟩ := x; exact Heap.lt_size e
  | set S n => obtain ⟨o, _, _, _, e, _⟩ := x; exact Heap.lt_size e
  | ins C dx fs => obtain ⟨_, _, _, e, _⟩ := x; exact Heap.lt_size e
  | own y => obtain ⟨_, e⟩ := x; exact Heap.lt_size e
  | xd fs => obtain ⟨_, ⟨_, _, _, e, _⟩, _⟩ := x; exact Heap.lt_size e
  | rng lo hi => obtain ⟨_, _, _, e⟩ := x; exact Heap.lt_size e
  | frz ob u => obtain ⟨e, _⟩ := x; exact Heap.lt_size e
  | tbl ps => exact Heap.lt_size (show h.get? a = some _ from x)
  | met f y => exact Heap.lt_size (show h.get? a = some _ from x)
  | ext φ => obtain ⟨_, ⟨_, e⟩, _⟩ := x; exact Heap.lt_size e
theorem Paired.mapP {α β : Type} {F G : α → β → Prop} : ∀ {l₁ : List α} {l₂ : List β}, Paired F l₁ l₂ → (∀ a b, F a b → G a b) → Paired G l₁ l₂
  | _, _, .nil, _ => .nil
  | _, _, .cons r t, f => .cons (f _ _ r) (Paired.mapP t f)
/-- what an object's description leans on: its own object, its own dict, the tuples -/
theorem ObjOk.stay (x : ObjOk P w H h a o) (k : ∀ b u, (b = a ∨ H b = some (.own a)) → h.get? b = some u → h'.get? b = some u)
    (ho : ∀ b, H b = some (.own a) → H' b = some (.own a)) (ht : ∀ b xs, H b = some (.tup xs) → H' b = some (.tup xs)) : ObjOk P w H' h' a o := by
  induction o with
  | lst xs => obtain ⟨z, its, n, r, e⟩ := x; exact ⟨z, its, n, r, k _ _ (.inl rfl) e⟩
  | tup xs => obtain ⟨z, its, r, ob, e, c⟩ := x; exact ⟨z, its, r, ob, k _ _ (.inl rfl) e, c⟩
  | dK kvs => obtain ⟨z, y, vs, r, ob, es, ep, e, c⟩ := x; exact ⟨z, y, vs, r, ob, es, ep, k _ _ (.inl rfl) e, c⟩
  | dT kvs =>
    obtain ⟨z, y, xs, r, ob, es, ep, e, c⟩ := x
    exact ⟨z, y, xs, Paired.mapP r fun p q z => ⟨z.1, ht _ _ z.2.1, z.2.2⟩, ob, es, ep, k _ _ (.inl rfl) e, c⟩
  | set S n => obtain ⟨ob, es, ep, t, e, c⟩ := x; exact ⟨ob, es, ep, t, k _ _ (.inl rfl) e, c⟩
  | ins C dx fs =>
    obtain ⟨d, z, ne, e, mA, ⟨od, es, ep, e2, c⟩, r⟩ := x
    exact ⟨ho _ d, z, ne, k _ _ (.inl rfl) e, mA, ⟨od, es, ep, k _ _ (.inr d) e2, c⟩, r⟩
  | own y => obtain ⟨ob, e⟩ := x; exact ⟨ob, k _ _ (.inl rfl) e⟩
  | xd fs => obtain ⟨mA, ⟨od, es, ep, e, c⟩, r⟩ := x; exact ⟨mA, ⟨od, es, ep, k _ _ (.inl rfl) e, c⟩, r⟩
  | rng lo hi => obtain ⟨t, u, v, e⟩ := x; exact ⟨t, u, v, k _ _ (.inl rfl) e⟩
  | frz ob u ih => obtain ⟨e, q⟩ := x; exact ⟨k _ _ (.inl rfl) e, ih q⟩
  | tbl ps =>
    have e : h.get? a = some { cls := .none, data := .fields ps } := x
    show h'.get? a = some { cls := .none, data := .fields ps }
    exact k a _ (.inl rfl) e
  | met f y =>
    have e : h.get? a = some (PySem.W.methodObj (.ref f) (.ref y)) := x
    show h'.get? a = some (PySem.W.methodObj (.ref f) (.ref y))
    exact k a _ (.inl rfl) e
  | ext φ => obtain ⟨p, ⟨o, e⟩, st⟩ := x; exact ⟨st _ _ p fun o q => k _ _ (.inl rfl) q, ⟨o, k _ _ (.inl rfl) e⟩, st⟩
theorem HOk.lt (x : HOk P w H h) (e : H a = some o) : a < h.objs.size := (x a o e).lt
theorem HOk.fresh (x : HOk P w H h) (e : h.objs.size ≤ a) : H a = none := by
  cases q : H a with
  | none => rfl
  | some u => exact absurd (Nat.lt_of_lt_of_le (x.lt q) e) (Nat.lt_irrefl _)
/-- every object of the heap is kept -/
theorem HOk.kept (x : HOk P w H h) (k : ∀ b u, h.get? b = some u → h'.get? b = some u) : HOk P w H h' := fun a o e =>
  (x a o e).stay (fun b u _ q => k b u q) (fun _ q => q) fun _ _ q => q
/-- a new object is laid and tracked -/
theorem HOk.laid (x : HOk P w H h) (k : ∀ b u, h.get? b = some u → h'.get? b = some u) (hp : h.objs.size ≤ a) (new : ObjOk P w (upd H a o) h' a o) : HOk P w (upd H a o) h' := fun b u e => by
  have hn := x.fresh hp
  by_cases hb : b = a
  · subst hb; rw [upd_same] at e; cases e; exact new
  · rw [upd_ne hb] at e
    exact (x b u e).stay (fun c v _ q => k c v q) (fun c q => by rw [upd_ne (ne_of_none q hn)]; exact q) fun c xs q => by rw [upd_ne (ne_of_none q hn)]; exact q
end

/-- what may be read as u: it is u, or a known u -/
def Rd (H : Hp) (a : Addr) (u : HO) : Prop := H a = some u ∨ ∃ o, H a = some (.frz o u)
theorem Rd.of {H : Hp} {a : Addr} {u : HO} (h : H a = some u) : Rd H a u := .inl h
theorem Rd.ok {P : Program} {w : World} {H : Hp} {h : Heap} {a : Addr} {u : HO} (r : Rd H a u) (x : HOk P w H h) : ObjOk P w H h a u := by
  rcases r with r | ⟨o, r⟩
  · exact x a u r
  · obtain ⟨_, q⟩ := x a _ r
    exact q
/-- what may be written -/
def Mut : Option HO → Prop
  | some (.lst _) => True
  | some (.dK _) => True
  | some (.dT _) => True
  | some (.set _ _) => True
  | some (.ins _ _ _) => True
  | some (.ext _) => True
  | _ => False
section
variable {P : Program} {w : World} {H : Hp} {h h' : Heap} {x e : Addr} {o' : HO}
/-- the object at e is changed: x itself, or the dict of the instance x -/
theorem HOk.write (ok : HOk P w H h) (mu : Mut (H x)) (he : e = x ∨ H e = some (.own x)) (k : ∀ b u, b ≠ e → h.get? b = some u → h'.get? b = some u) (heo : ∃ u, h'.get? e = some u)
    (new : ObjOk P w (upd H x o') h' x o') : HOk P w (upd H x o') h' := fun b u q => by
  have nown : ∀ c y, H c = some (.own y) → c ≠ x := fun c y r z => by subst z; rw [r] at mu; exact mu
  have ntup : ∀ c xs, H c = some (.tup xs) → c ≠ x := fun c xs r z => by subst z; rw [r] at mu; exact mu
  by_cases hb : b = x
  · subst hb; rw [upd_same] at q; cases q; exact new
  · rw [upd_ne hb] at q
    by_cases hbe : b = e
    · have q' : H b = some (.own x) := by
        rcases he with z | z
        · exact absurd (hbe.trans z) hb
        · rw [hbe]; exact z
      rw [q] at q'; cases q'
      obtain ⟨v, hv⟩ := heo
      exact ⟨v, by rw [hbe]; exact hv⟩
    · refine (ok b u q).stay (fun c v hc r => k c v ?_ r) (fun c r => by rw [upd_ne (nown c b r)]; exact r) fun c xs r => by rw [upd_ne (ntup c xs r)]; exact r
      rcases hc with rfl | hc
      · exact hbe
      · rintro rfl
        rcases he with z | z
        · exact nown c b hc z
        · rw [hc] at z; cases z; exact hb rfl
end

structure Un (fs ex : List Addr) (H H' : Hp) (h h' : Heap) : Prop where
  keep : ∀ b o, h.get? b = some o → H b = none → b ∉ fs → b ∉ ex → h'.get? b = some o
  slot : ∀ b o, h.get? b = some o → H b = none → b ∈ fs → b ∉ ex → ∃ sl, h'.get? b = some { o with slots := sl }
  free : ∀ b o, h.get? b = some o → H b = none → b ∉ ex → H' b = none
  there : ∀ b o, h.get? b = some o → b ∉ ex → ∃ o', h'.get? b = some o'
  tups : ∀ b xs, H b = some (.tup xs) → H' b = some (.tup xs)
  frzs : ∀ b o u, H b = some (.frz o u) → H' b = some (.frz o u)
  tbls : ∀ b ps, H b = some (.tbl ps) → ∃ more, H' b = some (.tbl (ps ++ more))
section
variable {fs fs' ex ex' : List Addr} {H H1 H2 : Hp} {h h1 h2 h' : Heap} {a x e : Addr} {o : HO}
theorem Un.any (u : Un fs ex H H1 h h1) {b : Addr} {ob : Obj} (q : h.get? b = some ob) (n : H b = none) (hx : b ∉ ex) : ∃ sl, h1.get? b = some { ob with slots := sl } := by
  by_cases hb : b ∈ fs
  · exact u.slot b ob q n hb hx
  · exact ⟨ob.slots, u.keep b ob q n hb hx⟩
theorem Un.trans (a : Un fs ex H H1 h h1) (b : Un fs ex H1 H2 h1 h2) : Un fs ex H H2 h h2 where
  keep := fun c ob q n hc hx => b.keep c ob (a.keep c ob q n hc hx) (a.free c ob q n hx) hc hx
  slot := fun c ob q n hc hx => by
    obtain ⟨sl, e1⟩ := a.slot c ob q n hc hx
    obtain ⟨sl', e2⟩ := b.slot c _ e1 (a.free c ob q n hx) hc hx
    exact ⟨sl', e2⟩
  free := fun c ob q n hx => by
    obtain ⟨o', e1⟩ := a.there c ob q hx
    exact b.free c o' e1 (a.free c ob q n hx) hx
  there := fun c ob q hx => by
    obtain ⟨o', e1⟩ := a.there c ob q hx
    exact b.there c o' e1 hx
  tups := fun c xs q => b.tups c xs (a.tups c xs q)
  frzs := fun c ob xs q => b.frzs c ob xs (a.frzs c ob xs q)
  tbls := fun c ps q => by
    obtain ⟨m1, e1⟩ := a.tbls c ps q
    obtain ⟨m2, e2⟩ := b.tbls c _ e1
    exact ⟨m1 ++ m2, by rw [e2, Array.append_assoc]⟩
theorem Un.kept (k : ∀ b u, h.get? b = some u → h'.get? b = some u) : Un fs ex H H h h' :=
  ⟨fun b ob q _ _ _ => k b ob q, fun b ob q _ _ _ => ⟨ob.slots, k b ob q⟩, fun _ _ _ n _ => n, fun b ob q _ => ⟨ob, k b ob q⟩, fun _ _ q => q, fun _ _ _ q => q, fun _ ps q => ⟨#[], by rw [q]; simp⟩⟩
theorem Un.refl : Un fs ex H H h h := Un.kept fun _ _ q => q
theorem Un.laid (k : ∀ b u, h.get? b = some u → h'.get? b = some u) (hp : h.objs.size ≤ a) (hn : H a = none) : Un fs ex H (upd H a o) h h' where
  keep := fun b u q _ _ _ => k b u q
  slot := fun b u q _ _ _ => ⟨u.slots, k b u q⟩
  free := fun b u q n _ => by rw [upd_ne (Nat.ne_of_lt (Nat.lt_of_lt_of_le (Heap.lt_size q) hp))]; exact n
  there := fun b u q _ => ⟨u, k b u q⟩
  tups := fun b xs q => by rw [upd_ne (ne_of_none q hn)]; exact q
  frzs := fun b u xs q => by rw [upd_ne (ne_of_none q hn)]; exact q
  tbls := fun b ps q => ⟨#[], by rw [upd_ne (ne_of_none q hn), q]; simp⟩
theorem Un.write (mu : Mut (H x)) (he : e = x ∨ H e = some (.own x)) (k : ∀ b u, b ≠ e → h.get? b = some u → h'.get? b = some u) (heo : ∃ u, h'.get? e = some u) : Un fs ex H (upd H x o) h h' := by
  have hx : ∀ b, H b = none → b ≠ x := fun b n z => by subst z; rw [n] at mu; exact mu
  have hb : ∀ b, H b = none → b ≠ e := fun b n z => by
    subst z
    rcases he with r | r
    · exact hx b n r
    · rw [n] at r; cases r
  have hm : ∀ b u, H b = some u → ¬ Mut (some u) → b ≠ x := fun b u q nm z => by subst z; rw [q] at mu; exact nm mu
  refine ⟨fun b u q n _ _ => k b u (hb b n) q, fun b u q n _ _ => ⟨u.slots, k b u (hb b n) q⟩, fun b u q n _ => by rw [upd_ne (hx b n)]; exact n, fun b u q _ => ?_,
    fun b xs q => by rw [upd_ne (hm b _ q fun z => z)]; exact q, fun b u xs q => by rw [upd_ne (hm b _ q fun z => z)]; exact q, fun b ps q => ⟨#[], by rw [upd_ne (hm b _ q fun z => z), q]; simp⟩⟩
  by_cases hbe : b = e
  · subst hbe; exact heo
  · exact ⟨u, k b u hbe q⟩
theorem Un.mono (u : Un fs ex H H1 h h1) (hs : ∀ b ∈ fs, b ∈ fs') (hx : ∀ b ∈ ex, b ∈ ex') : Un fs' ex' H H1 h h1 :=
  ⟨fun b ob q n hb he => u.keep b ob q n (fun z => hb (hs b z)) fun z => he (hx b z), fun _ _ q n _ he => u.any q n fun z => he (hx _ z), fun b ob q n he => u.free b ob q n fun z => he (hx b z), fun b ob q he => u.there b ob q fun z => he (hx b z), u.tups, u.frzs, u.tbls⟩
end

def trk (h : Heap) (H : Hp) : List Addr := (List.range h.objs.size).filter fun a => (H a).isSome
def hidT (h : Heap) (H : Hp) : Heap := PySem.W.hideAll h (trk h H)
theorem hidT_size (h : Heap) (H : Hp) : (hidT h H).objs.size = h.objs.size := PySem.W.hideAll_size _ _
theorem hidT_get {h : Heap} {H : Hp} {b : Addr} {o : Obj} (e : h.get? b = some o) (n : H b = none) : (hidT h H).get? b = some o :=
  PySem.W.hideAll_get _ e fun hm => by
    have q : (H b).isSome = true := (List.mem_filter.mp hm).2
    rw [n] at q; simp at q
theorem of_hidT {h : Heap} {H : Hp} {b : Addr} {o : Obj} (e : (hidT h H).get? b = some o) : h.get? b = some o ∧ H b = none := by
  have e' : h.get? b = some o := PySem.W.of_hideAll (trk h H) e
  refine ⟨e', ?_⟩
  cases q : H b with
  | none => rfl
  | some x =>
    have hm : b ∈ trk h H := List.mem_filter.mpr ⟨List.mem_range.mpr (Heap.lt_size e'), by simp [q]⟩
    have z : (hidT h H).get? b = none := PySem.W.hideAll_none (trk h H) hm
    rw [z] at e; cases e

def allNews (g h : Heap) (L : Addr) : List (Addr × Obj) := (List.range h.objs.size).filterMap fun a => if a = L ∨ (g.get? a).isSome = true then none else (h.get? a).map fun o => (a, o)
def rest (g h : Heap) (L d : Addr) : List (Addr × Obj) := (allNews g h L).filter fun p => decide (p.1 ≠ d)
end L2

namespace L2
open PySem PySem.Spec PyProof.Rows

/-- the module's facts, over the base: the heap at the law's entry without what is tracked there -/
structure Mod (K : PySem.W.Frag) (mg : Str → Option Value) (base : Heap) : Prop where
  kin : K.In base
  glob : base.Ns mainGlobals mg
  blt : ∃ mb, base.Ns builtinsNs mb ∧ ∀ x : Str, x ≠ "__name__" → mb x = bootBuiltins x
  nolimit : base.NoLimit

/-- the context: a def's body (or a comprehension's block) running. base: fixed through the whole law; s₀, H₀: the entry; outer: the frames whose slots others may change (a def's callers); stack: all frames that run;
   ex: iterators that were made ahead of the entry and are walked here (a comprehension's); fn: the names whose cells were made at the entry (a def: all; a comprehension's block: its own); calm: not within an except suite; pn: pins that every state bears; xe: what is wanted of an exception that leaves the code -/
structure Cx where
  prog : Program
  w : World
  K : PySem.W.Frag
  mg : Str → Option Value
  base : Heap
  A : Around
  N : List Str
  s_0 : Shared
  H_0 : Hp
  env : Env
  outer : List Env
  stack : List Env
  ex : List Addr
  fn : Str → Bool
  calm : Bool
  pn : List (Addr × Obj)
  xe : Value → Shared → Prop
/-- the callers' frames -/
def frs (l : List Env) : List Addr := l.filterMap (·.frame)
abbrev Cx.fs (X : Cx) : List Addr := frs X.outer

def Vis (sc : Scope) (x : Str) : Prop := sc.names.lookup x = some .local ∨ sc.names.lookup x = some .cell ∨ sc.names.lookup x = some .free
def Loc (sc : Scope) (x : Str) : Prop := sc.names.lookup x = some .local ∨ sc.names.lookup x = some .cell
def Look (env : Env) (h : Heap) (m : Str → Option Value) (x : Str) (u : Value) : Prop :=
  (env.kindOf x = some .local ∧ m x = some u) ∨ ((env.kindOf x = some .cell ∨ env.kindOf x = some .free) ∧ ∃ c, env.cells.lookup x = some c ∧ h.IsCell c (some u))

structure Cx.Ok (X : Cx) : Prop where
  mod : Mod X.K X.mg X.base
  kind : X.env.scope.kind = .function
  glob : X.env.globals = mainGlobals
  blt : X.env.builtins = builtinsNs
  above : X.s_0.heap.objs.size ≤ X.env.locals
  inj : ∀ x y c, X.env.cells.lookup x = some c → X.env.cells.lookup y = some c → x = y
  has : ∀ x, (X.env.kindOf x = some .cell ∨ X.env.kindOf x = some .free) → ∃ c, X.env.cells.lookup x = some c
  cab : ∀ x c, X.fn x = true → X.env.cells.lookup x = some c → X.s_0.heap.objs.size ≤ c
  hd : X.calm = true → X.A.handled = none
  frames : X.A.frames = some X.stack
  stk : X.stack = X.outer ∨ (X.stack = X.env :: X.outer ∧ X.env.frame = some X.env.locals)
  exf : ∀ b ∈ X.ex, b ≠ X.env.locals ∧ ∀ x c, X.env.cells.lookup x = some c → c ≠ b
  bs : ∀ b o, X.base.get? b = some o → X.s_0.heap.get? b = some o ∧ X.H_0 b = none
  bsz : X.base.objs.size ≤ X.s_0.heap.objs.size
  noex : ∀ b o, X.base.get? b = some o → b ∉ X.ex
  exfs : ∀ b ∈ X.ex, b ∉ X.fs
  funs : X.s_0.heap.FunFrames X.base X.outer
  frf : ∀ b ∈ X.fs, X.H_0 b = none

structure Inv (X : Cx) (pins : List (Addr × Obj)) (σ : List (Option V)) (H : Hp) (s : Shared) : Prop where
  ok : X.Ok
  os : s.os = X.s_0.os
  bare : AllBare s.gens
  base : Un X.fs X.ex X.H_0 H X.s_0.heap s.heap
  loc : ∃ m, s.heap.Ns X.env.locals m ∧ ∀ (i : Nat) (x : Str) (v : V), X.N[i]? = some x → σ[i]? = some (some v) → Vis X.env.scope x → ∃ u, RelV v u ∧ Look X.env s.heap m x u
  cell : ∀ x c, X.env.cells.lookup x = some c → ∃ v, s.heap.IsCell c v
  free : H X.env.locals = none
  freeC : ∀ x c, X.env.cells.lookup x = some c → H c = none
  pin : ∀ p ∈ X.pn ++ pins, s.heap.get? p.1 = some p.2 ∧ H p.1 = none ∧ p.1 ≠ X.env.locals ∧ p.1 ∉ X.fs ∧ ∀ v, p.2.data ≠ .cell v
  hok : HOk X.prog X.w H s.heap
  len : σ.length = X.N.length

section
variable {X : Cx} {pins : List (Addr × Obj)} {σ : List (Option V)} {H H' : Hp} {s : Shared} {h' : Heap}

theorem Cx.Ok.nofr (ok : X.Ok) {b : Addr} {o : Obj} (e : X.base.get? b = some o) : b ∉ X.fs := fun hb => by
  have := (ok.funs.mem hb).1
  rw [e] at this; cases this
theorem Inv.bs (I : Inv X pins σ H s) : ∀ b o, X.base.get? b = some o → s.heap.get? b = some o ∧ H b = none := fun b o e =>
  ⟨I.base.keep b o (I.ok.bs b o e).1 (I.ok.bs b o e).2 (I.ok.nofr e) (I.ok.noex b o e), I.base.free b o (I.ok.bs b o e).1 (I.ok.bs b o e).2 (I.ok.noex b o e)⟩
theorem Inv.bk (I : Inv X pins σ H s) : ∀ b o, X.base.get? b = some o → s.heap.get? b = some o := fun b o e => (I.bs b o e).1
theorem Inv.mod (I : Inv X pins σ H s) : Mod X.K X.mg X.base := I.ok.mod
theorem Inv.kIn (I : Inv X pins σ H s) : X.K.In s.heap := I.ok.mod.kin.keeps I.bk
theorem Inv.nolimit (I : Inv X pins σ H s) : s.heap.NoLimit := I.ok.mod.nolimit.keeps I.bk
/-- the frame over the base: for OpenK's rules (K.In X.base is I.mod.kin) -/
theorem Inv.fr (I : Inv X pins σ H s) : ∃ m, Fr X.base X.env.locals s.heap m :=
  let ⟨m, hn, _⟩ := I.loc
  ⟨m, hn, I.bk, Nat.le_trans I.ok.bsz I.ok.above⟩
theorem Inv.lt (I : Inv X pins σ H s) : X.env.locals < s.heap.objs.size := let ⟨_, hn, _⟩ := I.loc; hn.lt
theorem Inv.sz (I : Inv X pins σ H s) : X.s_0.heap.objs.size ≤ s.heap.objs.size := Nat.le_trans I.ok.above (Nat.le_of_lt I.lt)
theorem Inv.nofs (I : Inv X pins σ H s) {a : Addr} (h : s.heap.objs.size ≤ a) : a ∉ X.fs := fun hb => by
  obtain ⟨_, o, ho, _⟩ := I.ok.funs.mem hb
  exact absurd (Nat.lt_of_lt_of_le (Heap.lt_size ho) (Nat.le_trans I.sz h)) (Nat.lt_irrefl _)
theorem Inv.cne (I : Inv X pins σ H s) : ∀ x c, X.env.cells.lookup x = some c → c ≠ X.env.locals := fun x c e z => by
  obtain ⟨v, o, ho, hd⟩ := I.cell x c e
  obtain ⟨m, ⟨o', es, ep, ho', hd', _⟩, _⟩ := I.loc
  rw [z, ho'] at ho; cases ho; rw [hd'] at hd; cases hd
theorem Inv.funs (I : Inv X pins σ H s) : s.heap.FunFrames X.base X.outer := by
  have all : ∀ (l : List Env), (∀ b ∈ frs l, b ∈ X.fs) → X.s_0.heap.FunFrames X.base l → s.heap.FunFrames X.base l := by
    intro l
    induction l with
    | nil => intro _ _; trivial
    | cons env r ih =>
      intro hs hl
      obtain ⟨hk, ⟨L, o, hf, hn, ho, hd⟩, hr⟩ := hl
      have hL : L ∈ X.fs := hs L (by unfold frs; rw [List.filterMap_cons, hf]; exact List.mem_cons_self)
      obtain ⟨sl, e⟩ := I.base.slot L o ho (I.ok.frf L hL) hL fun z => I.ok.exfs L z hL
      exact ⟨hk, ⟨L, _, hf, hn, e, hd⟩, ih (fun b hb => hs b (by unfold frs; rw [List.filterMap_cons, hf]; exact List.mem_cons_of_mem _ hb)) hr⟩
  exact all X.outer (fun _ hb => hb) I.ok.funs

/-- the frames that run, for a call -/
theorem Inv.stack (I : Inv X pins σ H s) : s.heap.FunFrames X.base X.stack := by
  rcases I.ok.stk with e | ⟨e, hf⟩
  · rw [e]; exact I.funs
  · rw [e]
    obtain ⟨m, hn, _⟩ := I.loc
    refine .cons (by rw [I.ok.kind]; decide) hf hn ?_ I.funs
    exact Heap.get?_none_of_le (Nat.le_trans I.ok.bsz I.ok.above)
theorem Inv.stkSub (I : Inv X pins σ H s) : ∀ b ∈ frs X.stack, b ∈ X.env.locals :: X.fs := fun b hb => by
  rcases I.ok.stk with e | ⟨e, hf⟩
  · rw [e] at hb; exact List.mem_cons_of_mem _ hb
  · rw [e] at hb
    unfold frs at hb
    rw [List.filterMap_cons, hf] at hb
    exact hb
theorem Inv.stkFree (I : Inv X pins σ H s) : ∀ b ∈ frs X.stack, H b = none := fun b hb => by
  rcases List.mem_cons.mp (I.stkSub b hb) with e | hb
  · rw [e]; exact I.free
  · obtain ⟨_, o, ho, _⟩ := I.ok.funs.mem hb
    exact I.base.free b o ho (I.ok.frf b hb) fun z => I.ok.exfs b z hb

/-- THE STEP: the untracked objects but the frame and the records at ch are kept (the callers' frames up to slots), the frame's map is kept, the new abstract heap is held -/
theorem Inv.step {g' : Array GenState} {t' : Nat} {d' : Drawn} {ch : List Addr} (I : Inv X pins σ H s)
    (hch : ∀ b ∈ ch, (b ∈ X.ex ∨ X.s_0.heap.objs.size ≤ b) ∧ b ≠ X.env.locals ∧ (∀ x c, X.env.cells.lookup x = some c → c ≠ b) ∧ ∀ p ∈ X.pn ++ pins, p.1 ≠ b)
    (keep : ∀ b o, b ≠ X.env.locals → b ∉ X.fs → b ∉ ch → s.heap.get? b = some o → H b = none → h'.get? b = some o)
    (slot : ∀ b o, b ≠ X.env.locals → b ∈ X.fs → b ∉ ch → s.heap.get? b = some o → H b = none → ∃ sl, h'.get? b = some { o with slots := sl }) (free : ∀ b o, b ∉ ch → s.heap.get? b = some o → H b = none → H' b = none)
    (there : ∀ b o, b ∉ ch → s.heap.get? b = some o → ∃ o', h'.get? b = some o')
    (tups : ∀ b xs, H b = some (.tup xs) → H' b = some (.tup xs)) (frzs : ∀ b o u, H b = some (.frz o u) → H' b = some (.frz o u)) (tbls : ∀ b ps, H b = some (.tbl ps) → ∃ more, H' b = some (.tbl (ps ++ more)))
    (ns : ∀ m, s.heap.Ns X.env.locals m → h'.Ns X.env.locals m) (hok : HOk X.prog X.w H' h') (hg : AllBare g') :
    Inv X pins σ H' { s with heap := h', gens := g', drawn := d', toks := t' } := by
  have neL : ∀ b o, X.s_0.heap.get? b = some o → b ≠ X.env.locals := fun b o e => Nat.ne_of_lt (Nat.lt_of_lt_of_le (Heap.lt_size e) I.ok.above)
  have neC : ∀ b o, X.s_0.heap.get? b = some o → b ∉ X.ex → b ∉ ch := fun b o e hx hb => by
    rcases (hch b hb).1 with z | z
    · exact hx z
    · exact absurd (Nat.lt_of_lt_of_le (Heap.lt_size e) z) (Nat.lt_irrefl _)
  have cellK : ∀ x c, X.env.cells.lookup x = some c → ∀ v, s.heap.IsCell c v → h'.IsCell c v := fun x c e v ⟨o, ho, hd⟩ => by
    have nch : c ∉ ch := fun z => (hch c z).2.2.1 x c e rfl
    by_cases hc : c ∈ X.fs
    · obtain ⟨sl, q⟩ := slot c o (I.cne x c e) hc nch ho (I.freeC x c e)
      exact ⟨_, q, hd⟩
    · exact ⟨o, keep c o (I.cne x c e) hc nch ho (I.freeC x c e), hd⟩
  refine ⟨I.ok, I.os, hg, ⟨fun b o e n hb hx => ?_, fun b o e n hb hx => ?_, fun b o e n hx => ?_, fun b o e hx => ?_, fun b xs e => tups b xs (I.base.tups b xs e), fun b o xs e => frzs b o xs (I.base.frzs b o xs e), fun b ps e => ?_⟩, ?_, fun x c e => ?_, ?_, fun x c e => ?_, fun p hp => ?_, hok, I.len⟩
  · exact keep b o (neL b o e) hb (neC b o e hx) (I.base.keep b o e n hb hx) (I.base.free b o e n hx)
  · obtain ⟨sl, e1⟩ := I.base.slot b o e n hb hx
    obtain ⟨sl', e2⟩ := slot b _ (neL b o e) hb (neC b o e hx) e1 (I.base.free b o e n hx)
    exact ⟨sl', e2⟩
  · obtain ⟨o', e1⟩ := I.base.there b o e hx
    exact free b o' (neC b o e hx) e1 (I.base.free b o e n hx)
  · obtain ⟨o', e1⟩ := I.base.there b o e hx
    exact there b o' (neC b o e hx) e1
  · obtain ⟨m1, e1⟩ := I.base.tbls b ps e
    obtain ⟨m2, e2⟩ := tbls b _ e1
    exact ⟨m1 ++ m2, by rw [e2, Array.append_assoc]⟩
  · obtain ⟨m, hn, hl⟩ := I.loc
    refine ⟨m, ns m hn, fun i x v e1 e2 e3 => ?_⟩
    obtain ⟨u, r, l⟩ := hl i x v e1 e2 e3
    refine ⟨u, r, ?_⟩
    rcases l with l | ⟨k, c, e, z⟩
    · exact .inl l
    · exact .inr ⟨k, c, e, cellK x c e _ z⟩
  · obtain ⟨v, z⟩ := I.cell x c e
    exact ⟨v, cellK x c e v z⟩
  · obtain ⟨m, ⟨o, _, _, ho, _⟩, _⟩ := I.loc
    exact free _ o (fun z => (hch _ z).2.1 rfl) ho I.free
  · obtain ⟨v, o, ho, hd⟩ := I.cell x c e
    exact free c o (fun z => (hch c z).2.2.1 x c e rfl) ho (I.freeC x c e)
  · obtain ⟨e, n, ne, nf, d⟩ := I.pin p hp
    have nch : p.1 ∉ ch := fun z => (hch p.1 z).2.2.2 p hp rfl
    exact ⟨keep p.1 p.2 ne nf nch e n, free p.1 p.2 nch e n, ne, nf, d⟩
/-- .. where the frame's own object is kept too -/
theorem Inv.un {t' : Nat} (I : Inv X pins σ H s) (u : Un X.fs [] H H' s.heap h') (hok : HOk X.prog X.w H' h') : Inv X pins σ H' { s with heap := h', toks := t' } := by
  obtain ⟨m, ⟨o, es, ep, ho, r⟩, _⟩ := id I.loc
  obtain ⟨sl, hL⟩ := u.any ho I.free (by simp)
  exact I.step (g' := s.gens) (d' := s.drawn) (ch := []) (fun _ z => nomatch z) (fun b o _ hb _ e n => u.keep b o e n hb (by simp)) (fun b o _ hb _ e n => u.slot b o e n hb (by simp)) (fun b o _ e n => u.free b o e n (by simp)) (fun b o _ e => u.there b o e (by simp)) u.tups u.frzs u.tbls (fun m' hm => by
    obtain ⟨o', es', ep', ho', r'⟩ := hm
    rw [ho] at ho'; cases ho'
    exact ⟨_, es', ep', hL, r'⟩) hok I.bare
/-- behind a call (or a comprehension's block): the slots of this frame may have changed too, the records at ch may have turned -/
theorem Inv.call {g' : Array GenState} {t' : Nat} {d' : Drawn} {ch : List Addr} (I : Inv X pins σ H s) (u : Un (frs X.stack) ch H H' s.heap h') (hok : HOk X.prog X.w H' h') (hg : AllBare g')
    (hch : ∀ b ∈ ch, (b ∈ X.ex ∨ X.s_0.heap.objs.size ≤ b) ∧ b ≠ X.env.locals ∧ (∀ x c, X.env.cells.lookup x = some c → c ≠ b) ∧ ∀ p ∈ X.pn ++ pins, p.1 ≠ b) :
    Inv X pins σ H' { s with heap := h', gens := g', drawn := d', toks := t' } := by
  obtain ⟨m, ⟨o, es, ep, ho, r⟩, _⟩ := id I.loc
  obtain ⟨sl, hL⟩ := u.any ho I.free fun z => (hch _ z).2.1 rfl
  exact I.step (ch := ch) hch (fun b o hL hb hc e n => u.keep b o e n (fun z => (List.mem_cons.mp (I.stkSub b z)).elim hL hb) hc) (fun b o _ _ hc e n => u.any e n hc) (fun b o hc e n => u.free b o e n hc) (fun b o hc e => u.there b o e hc) u.tups u.frzs u.tbls (fun m' hm => by
    obtain ⟨o', es', ep', ho', r'⟩ := hm
    rw [ho] at ho'; cases ho'
    exact ⟨_, es', ep', hL, r'⟩) hok hg
/-- an untracked record of ours (an iterator) has turned -/
theorem Inv.turned {t' : Nat} {it : Addr} (I : Inv X pins σ H s) (k : ∀ b o, b ≠ it → s.heap.get? b = some o → h'.get? b = some o) (hn : H it = none) (hL : it ≠ X.env.locals)
    (h1 : it ∈ X.ex ∨ X.s_0.heap.objs.size ≤ it) (h2 : ∀ x c, X.env.cells.lookup x = some c → c ≠ it) (h3 : ∀ p ∈ X.pn ++ pins, p.1 ≠ it) : Inv X pins σ H { s with heap := h', toks := t' } := by
  have nit : ∀ b u, H b = some u → b ≠ it := fun b u e z => by rw [z, hn] at e; cases e
  refine I.step (g' := s.gens) (d' := s.drawn) (ch := [it]) (fun b hb => ?_) (fun b o _ _ hc e _ => k b o (fun z => hc (by simp [z])) e) (fun b o _ _ hc e _ => ⟨o.slots, k b o (fun z => hc (by simp [z])) e⟩) (fun _ _ _ _ n => n)
    (fun b o hc e => ⟨o, k b o (fun z => hc (by simp [z])) e⟩) (fun _ _ e => e) (fun _ _ _ e => e) (fun b ps e => ⟨#[], by rw [e]; simp⟩) (fun m hm => ?_) (fun b u e => ?_) I.bare
  · have e : b = it := by simpa using hb
    subst e
    exact ⟨h1, hL, h2, h3⟩
  · obtain ⟨o, es, ep, ho, r⟩ := hm
    exact ⟨o, es, ep, k _ o (Ne.symm hL) ho, r⟩
  · refine (I.hok b u e).stay (fun c v hc q => k c v ?_ q) (fun _ q => q) fun _ _ q => q
    rcases hc with z | z
    · rw [z]; exact nit b u e
    · exact nit c _ z
theorem Inv.tok (I : Inv X pins σ H s) (t : Nat) : Inv X pins σ H { s with toks := t } := I.un (h' := s.heap) (t' := t) Un.refl I.hok
/-- all objects kept -/
theorem Inv.kept {t' : Nat} (I : Inv X pins σ H s) (k : ∀ b u, s.heap.get? b = some u → h'.get? b = some u) : Inv X pins σ H { s with heap := h', toks := t' } := I.un (Un.kept k) (I.hok.kept k)
/-- a new object laid and tracked -/
theorem Inv.laid {a : Addr} {o : HO} {t' : Nat} (I : Inv X pins σ H s) (k : ∀ b u, s.heap.get? b = some u → h'.get? b = some u) (hp : s.heap.objs.size ≤ a) (new : ObjOk X.prog X.w (upd H a o) h' a o) :
    Inv X pins σ (upd H a o) { s with heap := h', toks := t' } := I.un (Un.laid k hp (I.hok.fresh hp)) (I.hok.laid k hp new)
/-- an object written -/
theorem Inv.write {x e : Addr} {o : HO} {t' : Nat} (I : Inv X pins σ H s) (mu : Mut (H x)) (he : e = x ∨ H e = some (.own x)) (k : ∀ b u, b ≠ e → s.heap.get? b = some u → h'.get? b = some u) (heo : ∃ u, h'.get? e = some u)
    (new : ObjOk X.prog X.w (upd H x o) h' x o) : Inv X pins σ (upd H x o) { s with heap := h', toks := t' } := I.un (Un.write mu he k heo) (I.hok.write mu he k heo new)
/-- forgetting slots, pins -/
theorem Inv.weak {σ' : List (Option V)} (I : Inv X pins σ H s) (hl : σ'.length = σ.length) (w : ∀ (i : Nat) v, σ'[i]? = some (some v) → σ[i]? = some (some v)) : Inv X pins σ' H s :=
  ⟨I.ok, I.os, I.bare, I.base, let ⟨m, hn, hl'⟩ := I.loc; ⟨m, hn, fun i x v e1 e2 e3 => hl' i x v e1 (w i v e2) e3⟩, I.cell, I.free, I.freeC, I.pin, I.hok, hl.trans I.len⟩
theorem Inv.pins_of {pins' : List (Addr × Obj)} (I : Inv X pins σ H s) (h : ∀ p ∈ pins', s.heap.get? p.1 = some p.2 ∧ H p.1 = none ∧ p.1 ≠ X.env.locals ∧ p.1 ∉ X.fs ∧ ∀ v, p.2.data ≠ .cell v) : Inv X pins' σ H s :=
  ⟨I.ok, I.os, I.bare, I.base, I.loc, I.cell, I.free, I.freeC, fun p hp => (List.mem_append.mp hp).elim (fun z => I.pin p (List.mem_append_left _ z)) (h p), I.hok, I.len⟩

theorem nodup_ix {N : List Str} (hN : N.Nodup) {i j : Nat} {x : Str} (a : N[i]? = some x) (b : N[j]? = some x) : i = j := by
  obtain ⟨h1, e1⟩ := List.getElem?_eq_some_iff.mp a
  obtain ⟨h2, e2⟩ := List.getElem?_eq_some_iff.mp b
  exact (List.getElem_inj hN).mp (e1.trans e2.symm)

/-- a name is stored; what changed -/
theorem store_ok2 {M : Model} {A : Around} {E : Value → Shared → Prop} {i : Nat} {x : Str} {v : V} {u : Value} {Q : Unit → Shared → Prop} (I : Inv X pins σ H s) (hN : X.N.Nodup) (hi : X.N[i]? = some x) (hx : Loc X.env.scope x) (r : RelV v u)
    (h : ∀ s', Inv X pins (σ.set i (some v)) H s' → (∃ a, Heap.SameBut a s.heap s'.heap ∧ (a = X.env.locals ∨ X.env.cells.lookup x = some a)) → Q () s') (hf : X.fn x = true ∨ X.env.scope.names.lookup x = some .local := by first | exact .inl rfl | exact .inr rfl | assumption) : wpAny M A (storeName X.env x u) Q E s := by
  obtain ⟨m, hn, hl⟩ := id I.loc
  have hcls : (X.env.scope.kind == .class || (X.env.scope.kind == .module && X.env.locals != X.env.globals)) = false := by rw [I.ok.kind]; rfl
  have hiσ : i < σ.length := by rw [I.len]; exact (List.getElem?_eq_some_iff.mp hi).1
  have cne := I.cne
  have tracked : ∀ {a : Addr} {h' : Heap}, (∃ o, s.heap.get? a = some o ∧ H a = none) → Heap.SameBut a s.heap h' → HOk X.prog X.w H h' := fun {a h'} ha hs b ob e => by
    obtain ⟨_, _, hfree⟩ := ha
    refine (I.hok b ob e).stay (fun c w' hc q => (hs.2 c ?_).trans q) (fun _ q => q) fun _ _ q => q
    rintro rfl
    rcases hc with rfl | hc
    · rw [hfree] at e; cases e
    · rw [hfree] at hc; cases hc
  rcases hx with hk | hk
  · refine wpAny_storeName_local hk hn (fun h' hn' hs => ?_) hcls
    obtain ⟨oL, _, _, hoL, _⟩ := id hn
    refine h _ ⟨I.ok, I.os, I.bare, ⟨fun b o e n hb hx => ?_, fun b o e n hb hx => ?_, I.base.free, fun b o e hx => ?_, I.base.tups, I.base.frzs, I.base.tbls⟩, ⟨_, hn', fun j y v' e1 e2 e3 => ?_⟩, fun y c e => ?_, I.free, I.freeC, fun p hp => ?_, tracked ⟨oL, hoL, I.free⟩ hs, by simpa using I.len⟩ ⟨_, hs, .inl rfl⟩
    · exact (hs.2 b (Nat.ne_of_lt (Nat.lt_of_lt_of_le (Heap.lt_size e) I.ok.above))).trans (I.base.keep b o e n hb hx)
    · obtain ⟨sl, e1⟩ := I.base.slot b o e n hb hx
      exact ⟨sl, (hs.2 b (Nat.ne_of_lt (Nat.lt_of_lt_of_le (Heap.lt_size e) I.ok.above))).trans e1⟩
    · obtain ⟨o', e1⟩ := I.base.there b o e hx
      exact ⟨o', (hs.2 b (Nat.ne_of_lt (Nat.lt_of_lt_of_le (Heap.lt_size e) I.ok.above))).trans e1⟩
    · by_cases hj : j = i
      · subst hj
        rw [hi] at e1; cases e1
        rw [List.getElem?_set_self hiσ] at e2
        cases e2
        exact ⟨u, r, .inl ⟨hk, by simp⟩⟩
      · rw [List.getElem?_set_ne (Ne.symm hj)] at e2
        obtain ⟨u', r', q⟩ := hl j y v' e1 e2 e3
        refine ⟨u', r', ?_⟩
        rcases q with ⟨k, e⟩ | ⟨k, c, e, z⟩
        · refine .inl ⟨k, ?_⟩
          have : y ≠ x := fun e => hj (nodup_ix hN e1 (e ▸ hi))
          simp [this, e]
        · exact .inr ⟨k, c, e, z.sameBut hs (cne y c e)⟩
    · obtain ⟨w', z⟩ := I.cell y c e
      exact ⟨w', z.sameBut hs (cne y c e)⟩
    · obtain ⟨e, n, ne, nf, d⟩ := I.pin p hp
      exact ⟨(hs.2 p.1 ne).trans e, n, ne, nf, d⟩
  · have hfn : X.fn x = true := by
      rcases hf with z | z
      · exact z
      · rw [z] at hk; cases hk
    obtain ⟨c, hc⟩ := I.ok.has x (.inl hk)
    obtain ⟨w', z⟩ := I.cell x c hc
    refine wpAny_storeName_cell I.ok.kind hk hc z (fun h' hc' hs => ?_)
    obtain ⟨oc, hoc, hocd⟩ := id z
    refine h { s with heap := h' } ⟨I.ok, I.os, I.bare, ⟨fun b o e n hb hx => ?_, fun b o e n hb hx => ?_, I.base.free, fun b o e hx => ?_, I.base.tups, I.base.frzs, I.base.tbls⟩, ⟨m, hn.sameBut hs (Ne.symm (cne x c hc)), fun j y v' e1 e2 e3 => ?_⟩, fun y c' e => ?_, I.free, I.freeC, fun p hp => ?_, tracked ⟨oc, hoc, I.freeC x c hc⟩ hs, by simpa using I.len⟩ ⟨c, hs, .inr hc⟩
    · exact (hs.2 b (Nat.ne_of_lt (Nat.lt_of_lt_of_le (Heap.lt_size e) (I.ok.cab x c hfn hc)))).trans (I.base.keep b o e n hb hx)
    · obtain ⟨sl, e1⟩ := I.base.slot b o e n hb hx
      exact ⟨sl, (hs.2 b (Nat.ne_of_lt (Nat.lt_of_lt_of_le (Heap.lt_size e) (I.ok.cab x c hfn hc)))).trans e1⟩
    · obtain ⟨o', e1⟩ := I.base.there b o e hx
      exact ⟨o', (hs.2 b (Nat.ne_of_lt (Nat.lt_of_lt_of_le (Heap.lt_size e) (I.ok.cab x c hfn hc)))).trans e1⟩
    · by_cases hj : j = i
      · subst hj
        rw [hi] at e1; cases e1
        rw [List.getElem?_set_self hiσ] at e2
        cases e2
        exact ⟨u, r, .inr ⟨.inl hk, c, hc, hc'⟩⟩
      · rw [List.getElem?_set_ne (Ne.symm hj)] at e2
        obtain ⟨u', r', q⟩ := hl j y v' e1 e2 e3
        refine ⟨u', r', ?_⟩
        rcases q with q | ⟨k, c', e, z'⟩
        · exact .inl q
        · refine .inr ⟨k, c', e, z'.sameBut hs ?_⟩
          rintro rfl
          exact hj (nodup_ix hN e1 (I.ok.inj _ _ _ e hc ▸ hi))
    · by_cases hcc : c' = c
      · subst hcc; exact ⟨_, hc'⟩
      · obtain ⟨w2, z2⟩ := I.cell y c' e
        exact ⟨w2, z2.sameBut hs hcc⟩
    · obtain ⟨e, n, ne, nf, d⟩ := I.pin p hp
      refine ⟨(hs.2 p.1 ?_).trans e, n, ne, nf, d⟩
      intro q
      rw [q, hoc] at e
      have q' : oc = p.2 := Option.some.inj e
      exact d w' (by rw [← q']; exact hocd)
theorem store_ok {M : Model} {A : Around} {E : Value → Shared → Prop} {i : Nat} {x : Str} {v : V} {u : Value} {Q : Unit → Shared → Prop} (I : Inv X pins σ H s) (hN : X.N.Nodup) (hi : X.N[i]? = some x) (hx : Loc X.env.scope x) (r : RelV v u)
    (h : ∀ s', Inv X pins (σ.set i (some v)) H s' → Q () s') (hf : X.fn x = true ∨ X.env.scope.names.lookup x = some .local := by first | exact .inl rfl | exact .inr rfl | assumption) : wpAny M A (storeName X.env x u) Q E s :=
  store_ok2 I hN hi hx r (fun s' I' _ => h s' I') hf
/-- behind a call or a block, the state as it is -/
theorem Inv.call' {s' : Shared} {ch : List Addr} (I : Inv X pins σ H s) (ho : s'.os = s.os) (u : Un (frs X.stack) ch H H' s.heap s'.heap) (hok : HOk X.prog X.w H' s'.heap) (hg : AllBare s'.gens)
    (hch : ∀ b ∈ ch, (b ∈ X.ex ∨ X.s_0.heap.objs.size ≤ b) ∧ b ≠ X.env.locals ∧ (∀ x c, X.env.cells.lookup x = some c → c ≠ b) ∧ ∀ p ∈ X.pn ++ pins, p.1 ≠ b) : Inv X pins σ H' s' := by
  obtain ⟨h', g', d', t', o'⟩ := s'
  have e : o' = s.os := ho
  subst e
  exact I.call (g' := g') (t' := t') (d' := d') u hok hg hch
end

/-- an exception: its class, its own dict's address (where it has one), the abstract heap behind it -/
abbrev XK := Value → Option Addr → Hp → Prop
abbrev St := List (Option V)
abbrev VK := V → Hp → Prop
/-- an expression's reading; a test's; an argument list's -/
abbrev TE := St → Hp → VK → Prop
abbrev TT := St → Hp → (Bool → Hp → Prop) → Prop
abbrev TA := St → Hp → (List V → Hp → Prop) → Prop
/-- what is wanted behind a statement -/
structure Ends where
  nx : St → Hp → Prop
  rt : VK
  bk : St → Hp → Prop := fun _ _ => False
  ct : St → Hp → Prop := fun _ _ => False
abbrev TS := Ends → St → Hp → Prop

def EP (X : Cx) (pins : List (Addr × Obj)) (σ : St) (Q : VK) (u : Value) (s' : Shared) : Prop := ∃ v H', Inv X pins σ H' s' ∧ RelV v u ∧ Q v H'
def TP (X : Cx) (pins : List (Addr × Obj)) (σ : St) (Q : Bool → Hp → Prop) (b : Bool) (s' : Shared) : Prop := ∃ H', Inv X pins σ H' s' ∧ Q b H'
def AP (X : Cx) (pins : List (Addr × Obj)) (σ : St) (Q : List V → Hp → Prop) (us : List Value) (s' : Shared) : Prop := ∃ vs H', Inv X pins σ H' s' ∧ Vals vs us ∧ Q vs H'
def SP (X : Cx) (pins : List (Addr × Obj)) (D : Ends) (f : Flow) (s' : Shared) : Prop :=
  match f with
  | .next => ∃ σ' H', Inv X pins σ' H' s' ∧ D.nx σ' H'
  | .brk => ∃ σ' H', Inv X pins σ' H' s' ∧ D.bk σ' H'
  | .cont => ∃ σ' H', Inv X pins σ' H' s' ∧ D.ct σ' H'
  | .ret u => ∃ v σ' H', Inv X pins σ' H' s' ∧ RelV v u ∧ D.rt v H'

def PE (X : Cx) (e : Expr) (t : TE) : Prop :=
  ∀ (pins : List (Addr × Obj)) (s : Shared) (σ : St) (H : Hp) (Q : VK), Inv X pins σ H s → t σ H Q → wpAny (model X.prog X.w) X.A (eval e X.env) (EP X pins σ Q) X.xe s
def PT (X : Cx) (e : Expr) (t : TT) : Prop :=
  ∀ (pins : List (Addr × Obj)) (s : Shared) (σ : St) (H : Hp) (Q : Bool → Hp → Prop), Inv X pins σ H s → t σ H Q → wpAny (model X.prog X.w) X.A (isTrue e X.env (eval e X.env)) (TP X pins σ Q) X.xe s
/-- a test whatever its 'whole' is (and, or) -/
def PW (X : Cx) (e : Expr) (t : TT) : Prop :=
  ∀ (whole : Sem Value) (pins : List (Addr × Obj)) (s : Shared) (σ : St) (H : Hp) (Q : Bool → Hp → Prop), Inv X pins σ H s → t σ H Q → wpAny (model X.prog X.w) X.A (isTrue e X.env whole) (TP X pins σ Q) X.xe s
theorem PW.pt {X : Cx} {e : Expr} {t : TT} (h : PW X e t) : PT X e t := h _
/-- an argument list (no star), from the left -/
def PA (X : Cx) (es : List Expr) (t : TA) : Prop :=
  ∀ (pos : Pos) (pins : List (Addr × Obj)) (s : Shared) (σ : St) (H : Hp) (Q : List V → Hp → Prop), Inv X pins σ H s → t σ H Q → wpAny (model X.prog X.w) X.A (spliced (backTo pos (starEach es X.env))) (AP X pins σ Q) X.xe s
def PS (X : Cx) (st : Stmt) (t : TS) : Prop :=
  ∀ (pins : List (Addr × Obj)) (s : Shared) (σ : St) (H : Hp) (D : Ends), Inv X pins σ H s → t D σ H → wpAny (model X.prog X.w) X.A (exec st X.env) (SP X pins D) X.xe s
def PSs (X : Cx) (st : List Stmt) (t : TS) : Prop :=
  ∀ (pins : List (Addr × Obj)) (s : Shared) (σ : St) (H : Hp) (D : Ends), Inv X pins σ H s → t D σ H → wpAny (model X.prog X.w) X.A (execs st X.env) (SP X pins D) X.xe s
/-- weaken the end -/
theorem thn {α : Type} {t : Sem α} {Q Q' : α → Shared → Prop} {M : Model} {A : Around} {E : Value → Shared → Prop} {s : Shared} (h : wpAny M A t Q E s) (hQ : ∀ a s, Q a s → Q' a s) : wpAny M A t Q' E s := wpAny_mono h hQ fun _ _ x => x
end L2

namespace L2
open PySem PySem.Spec PyProof.Rows
section
variable {X : Cx}

def tVar (i : Nat) : TE := fun σ H Q => ∃ v, σ[i]? = some (some v) ∧ Q v H
def tC (v : V) : TE := fun _ H Q => Q v H
theorem pe_var {i : Nat} {x : Str} {pos : Pos} (hN : X.N[i]? = some x) (hv : Vis X.env.scope x) (hd : (x == ("__debug__" : Str)) = false := by decide) (hcd : (x == ("__classdict__" : Str)) = false := by decide) : PE X (.Name x pos) (tVar i) := by
  intro pins s σ H Q I h
  obtain ⟨v, e, h⟩ := h
  obtain ⟨m, hn, hl⟩ := I.loc
  obtain ⟨u, r, l⟩ := hl i x v hN e hv
  have fin : EP X pins σ Q u s := ⟨v, H, I, r, h⟩
  rcases l with ⟨hk, hm⟩ | ⟨hk, c, hc, hcell⟩
  · exact wpAny_Name (wpAny_loadName_local I.ok.kind hk hn hm fin) hd
  · rcases hk with hk | hk
    · exact wpAny_Name (wpAny_loadName_cell I.ok.kind hk hc hcell fin) hd
    · exact wpAny_Name (wpAny_loadName_free I.ok.kind hk hc hcell fin hcd) hd
theorem pe_int {i j pos} : PE X (.Constant (.int i) j pos) (tC (.int i)) := fun _ _ _ H _ I h => wpAny_Constant_int ⟨.int i, H, I.tok _, ⟨_, rfl⟩, h⟩
theorem pe_bl {b j pos} : PE X (.Constant (.bool b) j pos) (tC (.bl b)) := fun _ _ _ H _ I h => Constant_bool ⟨.bl b, H, I, rfl, h⟩
/-- a global name of the def -/
def Gl (X : Cx) (x : Str) : Prop := X.env.kindOf x = some .globalImplicit
theorem ld_glob {E : Value → Shared → Prop} {pins : List (Addr × Obj)} {s : Shared} {σ : St} {H : Hp} {x : Str} {u : Value} {pos : Pos} {Q : Value → Shared → Prop} (I : Inv X pins σ H s) (hg : Gl X x) (hm : X.mg x = some u) (h : Q u s)
    (hd : (x == ("__debug__" : Str)) = false := by decide) : wpAny (model X.prog X.w) X.A (eval (.Name x pos) X.env) Q E s :=
  Calls.Name_function_global I.ok.kind hg (Calls.loadGlobal_global (by rw [I.ok.glob]; exact I.mod.glob.keeps I.bk) hm h) hd
theorem ld_blt {E : Value → Shared → Prop} {pins : List (Addr × Obj)} {s : Shared} {σ : St} {H : Hp} {x : Str} {u : Value} {pos : Pos} {Q : Value → Shared → Prop} (I : Inv X pins σ H s) (hg : Gl X x) (hm : X.mg x = none) (hv : bootBuiltins x = some u) (h : Q u s)
    (hn : x ≠ "__name__" := by decide) (hd : (x == ("__debug__" : Str)) = false := by decide) : wpAny (model X.prog X.w) X.A (eval (.Name x pos) X.env) Q E s := by
  obtain ⟨mb, h1, h2⟩ := I.mod.blt
  exact Calls.Name_function_global I.ok.kind hg (Calls.loadGlobal_builtin (by rw [I.ok.glob]; exact I.mod.glob.keeps I.bk) hm (by rw [I.ok.blt]; exact h1.keeps I.bk) ((h2 x hn).trans hv) h) hd
/-- a module's constant, a class, a function, as a value -/
theorem pe_glob {x : Str} {v : V} {u : Value} {pos : Pos} (hg : Gl X x) (hm : X.mg x = some u) (r : RelV v u) (hd : (x == ("__debug__" : Str)) = false := by decide) : PE X (.Name x pos) (tC v) :=
  fun _ _ _ H _ I h => ld_glob I hg hm ⟨v, H, I, r, h⟩ hd
variable {a b : Expr} {ta tb : TE} {pos : Pos}
def PC (X : Cx) (op : CmpOp) (a b : Expr) (t : TE) : Prop :=
  ∀ (pins : List (Addr × Obj)) (s : Shared) (σ : St) (H : Hp) (Q : VK), Inv X pins σ H s → t σ H Q →
    wpAny (model X.prog X.w) X.A (eval a X.env) (fun v s₁ => wpAny (model X.prog X.w) X.A (eval b X.env) (fun u s₂ => wpAny (model X.prog X.w) X.A (compareOp op v u) (EP X pins σ Q) X.xe s₂) X.xe s₁) X.xe s
theorem nobehind (b : Expr) {op : CmpOp} (h : op ≠ .In) (h2 : op ≠ .NotIn) : behindInMarks op b = false := by
  have e1 : (op == CmpOp.In) = false := by cases op <;> first | rfl | exact absurd rfl h
  have e2 : (op == CmpOp.NotIn) = false := by cases op <;> first | rfl | exact absurd rfl h2
  cases b <;> simp [behindInMarks, e1, e2]
/-- a comparison as a value, as a test -/
def tB (t : TE) : TT := fun σ H Q => t σ H fun x H1 => ∃ c, x = .bl c ∧ Q c H1
theorem pt_cmp {op : CmpOp} {t : TE} (h : PC X op a b t) (h1 : behindInMarks op b = false := by first | exact nobehind _ (by decide) (by decide) | rfl) : PT X (.Compare a [op] [b] pos) (tB t) := by
  intro pins s σ H Q I hw
  refine wpAny_isTrue_Compare1 (thn (h pins s σ H _ I hw) fun v s1 h1 => thn h1 fun u s2 h2 => thn h2 fun c s3 ⟨x, H1, I1, r1, q1⟩ => ?_) h1
  obtain ⟨d, rfl, q⟩ := q1
  cases r1
  exact wpAny_truthy_bool ⟨H1, I1, q⟩
/-- an expression whose value is a bool, as a test -/
theorem pt_val {e : Expr} {t : TE} (h : PE X e t) (he : ∀ whole, isTrue e X.env whole = (do let v ← whole; standAt e.pos; holding [v] (truthy v)) := by intro _; rfl) : PT X e (tB t) := by
  intro pins s σ H Q I hw
  refine isTrue_plain (thn (h pins s σ H _ I hw) fun v s1 ⟨x, H1, I1, r1, q1⟩ => ?_) (he _)
  obtain ⟨d, rfl, q⟩ := q1
  cases r1
  exact wpAny_truthy_bool ⟨H1, I1, q⟩

variable {tA tB' : TT} {rest : List Expr}
def tAnd (t u : TT) : TT := fun σ H Q => t σ H fun c H1 => if c = true then u σ H1 Q else Q false H1
def tOr (t u : TT) : TT := fun σ H Q => t σ H fun c H1 => if c = true then Q true H1 else u σ H1 Q
def tNot (t : TT) : TT := fun σ H Q => t σ H fun c H1 => Q (!c) H1
theorem pt_not (ha : PT X a tA) : PT X (.UnaryOp .Not a pos) (tNot tA) := by
  intro pins s σ H Q I h
  exact isTrue_not (ha pins s σ H (fun c H1 => Q (!c) H1) I h)
/-- .. as values (bools) -/
def tAndV (ta tb : TE) : TE := fun σ H Q => ta σ H fun x H1 => ∃ c, x = .bl c ∧ if c = true then tb σ H1 Q else Q (.bl false) H1
def tNotV (ta : TE) : TE := fun σ H Q => ta σ H fun x H1 => ∃ c, x = .bl c ∧ Q (.bl (!c)) H1
theorem pe_one {op} {t : TE} (h : PE X a t) : PE X (.BoolOp op [a] pos) t := fun pins s σ H Q I hw => BoolOp_one (h pins s σ H Q I hw)
theorem pe_and (ha : PE X a ta) (hb : PE X (.BoolOp .And (b :: rest) pos) tb) : PE X (.BoolOp .And (a :: b :: rest) pos) (tAndV ta tb) := by
  intro pins s σ H Q I h
  refine BoolOp_and (thn (ha pins s σ H _ I h) fun v s1 ⟨x, H1, I1, r1, q1⟩ => ?_)
  obtain ⟨c, rfl, q1⟩ := q1
  cases r1
  refine wpAny_truthy_bool ?_
  cases c with
  | true => exact hb pins s1 σ H1 Q I1 q1
  | false => exact ⟨.bl false, H1, I1, rfl, q1⟩
/-- a if t else b -/
def tIf (t : TT) (ta tb : TE) : TE := fun σ H Q => t σ H fun c H1 => if c = true then ta σ H1 Q else tb σ H1 Q
theorem pe_ifExp {c : Expr} (hc : PT X c tA) (ha : PE X a ta) (hb : PE X b tb) : PE X (.IfExp c a b pos) (tIf tA ta tb) := by
  intro pins s σ H Q I h
  refine wpAny_IfExp (thn (hc pins s σ H _ I h) fun d s1 ⟨H1, I1, q1⟩ => ?_)
  cases d with
  | true => exact ha pins s1 σ H1 Q I1 q1
  | false => exact hb pins s1 σ H1 Q I1 q1
end
end L2

namespace L2
open PySem PySem.Spec PyProof.Rows

def SqL (K : PySem.W.Frag) (H : Hp) (a : Addr) (xs : List V) : Prop :=
  Rd H a (.lst xs) ∨
    ∃ (o : Obj) (its : Array Value) (n : Nat), K.lookup a = some o ∧ o.cls = .type "list" ∧ o.dict = none ∧ o.data = .seq its n ∧ its.size ≤ sizeLine ∧ Vals xs its.toList
def SqT (K : PySem.W.Frag) (H : Hp) (a : Addr) (xs : List V) : Prop :=
  Rd H a (.tup xs) ∨
    ∃ (o : Obj) (its : Array Value) (n : Nat), K.lookup a = some o ∧ o.cls = .type "tuple" ∧ o.data = .seq its n ∧ its.size ≤ sizeLine ∧ Vals xs its.toList
def absV : Value → Option V
  | .none => some .non
  | .bool b => some (.bl b)
  | .int i _ => some (.int i)
  | .str x _ => some (.str x)
  | .bytes b _ => some (.byt b)
  | .float b _ => some (.flt b)
  | .ref a => some (.ref a)
  | .type n => some (.ty n)
  | _ => none
theorem RelV.abs {x : V} {u : Value} (r : RelV x u) : absV u = some x := by
  cases x with
  | non => cases r; rfl
  | bl _ => cases r; rfl
  | int _ => obtain ⟨t, rfl⟩ := r; rfl
  | str _ => obtain ⟨t, rfl⟩ := r; rfl
  | byt _ => obtain ⟨t, rfl⟩ := r; rfl
  | flt _ => obtain ⟨t, rfl⟩ := r; rfl
  | ref _ => cases r; rfl
  | ty _ => cases r; rfl
theorem RelV.inj {x y : V} {u : Value} (r : RelV x u) (q : RelV y u) : x = y := Option.some.inj (r.abs.symm.trans q.abs)
theorem Vals.inj : ∀ {xs ys : List V} {us : List Value}, Vals xs us → Vals ys us → xs = ys
  | _, _, _, .nil, .nil => rfl
  | _, _, _, .cons r t, .cons r' t' => by rw [r.inj r', Vals.inj t t']
section
variable {X : Cx} {pins : List (Addr × Obj)} {σ : St} {H : Hp} {s : Shared} {a : Addr} {xs ys : List V}
theorem SqL.of {K : PySem.W.Frag} (h : H a = some (.lst xs)) : SqL K H a xs := .inl (.inl h)
theorem SqT.of {K : PySem.W.Frag} (h : H a = some (.tup xs)) : SqT K H a xs := .inl (.inl h)
theorem Inv.list (I : Inv X pins σ H s) (h : SqL X.K H a xs) : ∃ its : List Value, Vals xs its ∧ PlainL s.heap a its.toArray ∧ xs.length ≤ sizeLine := by
  rcases h with h | ⟨o, its, n, hk, hc, hd, hs, hz, r⟩
  · obtain ⟨z, its, n, r, e⟩ := h.ok I.hok
    exact ⟨its, r, ⟨_, n, e, rfl, rfl, rfl⟩, z⟩
  · refine ⟨its.toList, r, ⟨o, n, I.kIn a o hk, hc, hd, by simpa using hs⟩, ?_⟩
    have e := r.length
    simp only [Array.length_toList] at e
    omega
theorem Inv.tuple (I : Inv X pins σ H s) (h : SqT X.K H a xs) : ∃ its : List Value, Vals xs its ∧ IsTup s.heap a its.toArray ∧ xs.length ≤ sizeLine := by
  rcases h with h | ⟨o, its, n, hk, hc, hs, hz, r⟩
  · obtain ⟨z, its, r, p⟩ := h.ok I.hok
    exact ⟨its, r, p, z⟩
  · refine ⟨its.toList, r, ⟨o, I.kIn a o hk, hc, n, by simpa using hs⟩, ?_⟩
    have e := r.length
    simp only [Array.length_toList] at e
    omega
theorem Inv.list_inj (I : Inv X pins σ H s) (h : SqL X.K H a xs) (h' : SqL X.K H a ys) : xs = ys := by
  obtain ⟨its, r, ⟨o, n, e, _, _, d⟩, _⟩ := I.list h
  obtain ⟨its', r', ⟨o', n', e', _, _, d'⟩, _⟩ := I.list h'
  rw [e] at e'; cases e'
  rw [d] at d'
  injection d' with d1 _
  have : its = its' := by simpa using congrArg Array.toList d1
  subst this
  exact r.inj r'
theorem Inv.tuple_inj (I : Inv X pins σ H s) (h : SqT X.K H a xs) (h' : SqT X.K H a ys) : xs = ys := by
  obtain ⟨its, r, ⟨o, e, _, n, d⟩, _⟩ := I.tuple h
  obtain ⟨its', r', ⟨o', e', _, n', d'⟩, _⟩ := I.tuple h'
  rw [e] at e'; cases e'
  rw [d] at d'
  injection d' with d1 _
  have : its = its' := by simpa using congrArg Array.toList d1
  subst this
  exact r.inj r'
end

abbrev Cx.wish (X : Cx) (E : Value → Shared → Prop) : Cx := { X with xe := E }
/-- no exception leaves -/
abbrev Cx.nox (X : Cx) : Cx := X.wish fun _ _ => False
theorem Cx.Ok.wish {X : Cx} (ok : X.Ok) (E : Value → Shared → Prop) : (X.wish E).Ok :=
  ⟨ok.mod, ok.kind, ok.glob, ok.blt, ok.above, ok.inj, ok.has, ok.cab, ok.hd, ok.frames, ok.stk, ok.exf, ok.bs, ok.bsz, ok.noex, ok.exfs, ok.funs, ok.frf⟩
theorem Cx.Ok.unwish {X : Cx} {E : Value → Shared → Prop} (ok : (X.wish E).Ok) : X.Ok :=
  ⟨ok.mod, ok.kind, ok.glob, ok.blt, ok.above, ok.inj, ok.has, ok.cab, ok.hd, ok.frames, ok.stk, ok.exf, ok.bs, ok.bsz, ok.noex, ok.exfs, ok.funs, ok.frf⟩
section
variable {X : Cx} {pins : List (Addr × Obj)} {σ : St} {H : Hp} {s : Shared} {E : Value → Shared → Prop}
theorem Inv.wish (I : Inv X pins σ H s) (E : Value → Shared → Prop) : Inv (X.wish E) pins σ H s := ⟨I.ok.wish E, I.os, I.bare, I.base, I.loc, I.cell, I.free, I.freeC, I.pin, I.hok, I.len⟩
theorem Inv.unwish (I : Inv (X.wish E) pins σ H s) : Inv X pins σ H s := ⟨I.ok.unwish, I.os, I.bare, I.base, I.loc, I.cell, I.free, I.freeC, I.pin, I.hok, I.len⟩
theorem SP.unwish {D : Ends} {f : Flow} {s' : Shared} (h : SP (X.wish E) pins D f s') : SP X pins D f s' := by
  cases f with
  | next => obtain ⟨σ', H', I, q⟩ := h; exact ⟨σ', H', I.unwish, q⟩
  | brk => obtain ⟨σ', H', I, q⟩ := h; exact ⟨σ', H', I.unwish, q⟩
  | cont => obtain ⟨σ', H', I, q⟩ := h; exact ⟨σ', H', I.unwish, q⟩
  | ret u => obtain ⟨v, σ', H', I, r, q⟩ := h; exact ⟨v, σ', H', I.unwish, r, q⟩
theorem PE.nox {e : Expr} {t : TE} (h : PE X.nox e t) : PE X e t := fun pins s σ H Q I hw =>
  wpAny_mono (h pins s σ H Q (I.wish _) hw) (fun _ _ ⟨v, H', I', r, q⟩ => ⟨v, H', I'.unwish, r, q⟩) fun _ _ z => False.elim z
theorem PT.nox {e : Expr} {t : TT} (h : PT X.nox e t) : PT X e t := fun pins s σ H Q I hw =>
  wpAny_mono (h pins s σ H Q (I.wish _) hw) (fun _ _ ⟨H', I', q⟩ => ⟨H', I'.unwish, q⟩) fun _ _ z => False.elim z
theorem PSs.nox {st : List Stmt} {t : TS} (h : PSs X.nox st t) : PSs X st t := fun pins s σ H D I hw =>
  wpAny_mono (h pins s σ H D (I.wish _) hw) (fun _ _ q => q.unwish) fun _ _ z => False.elim z
end

section
variable {X : Cx} {st : Stmt} {rest : List Stmt} {t u : TS} {e : Expr} {te : TE} {pos : Pos}
def tNext : TS := fun D σ H => D.nx σ H
def tSeq (t u : TS) : TS := fun D σ H => t { D with nx := u D } σ H
theorem pss_nil : PSs X [] tNext := fun _ _ σ H _ I h => wpAny_execs_nil ⟨σ, H, I, h⟩
theorem pss_cons (h1 : PS X st t) (h2 : PSs X rest u) : PSs X (st :: rest) (tSeq t u) := by
  intro pins s σ H D I h
  refine wpAny_execs_cons (thn (h1 pins s σ H { D with nx := u D } I h) fun f s1 q => ?_)
  cases f with
  | next =>
    obtain ⟨σ', H', I', q⟩ := q
    exact h2 pins s1 σ' H' D I' q
  | ret v => exact q
  | brk => exact q
  | cont => exact q
theorem pss_one (h1 : PS X st t) : PSs X [st] t := by
  intro pins s σ H D I h
  refine wpAny_execs_cons (thn (h1 pins s σ H D I h) fun f s1 q => ?_)
  cases f with
  | next => exact wpAny_execs_nil q
  | ret v => exact q
  | brk => exact q
  | cont => exact q
/-- in a def's body nothing is shown -/
theorem Inv.quiet {pins : List (Addr × Obj)} {σ : St} {H : Hp} {s : Shared} (I : Inv X pins σ H s) : interactive X.env = false := by simp [interactive, I.ok.kind]
/-- an expression whose value is dropped -/
def tDrop (te : TE) : TS := fun D σ H => te σ H fun _ H1 => D.nx σ H1
theorem ps_expr (he : PE X e te) (hs : swapsWith e none pos.line X.env = pure false := by rfl) : PS X (.Expr e pos) (tDrop te) := by
  intro pins s σ H D I h
  exact wpAny_Expr_any (thn (he pins s σ H _ I h) fun v s1 ⟨x, H1, I1, r1, q1⟩ => ⟨σ, H1, I1, q1⟩) I.quiet hs
def tRet (te : TE) : TS := fun D σ H => te σ H D.rt
theorem ps_ret (he : PE X e te) : PS X (.Return (some e) pos) (tRet te) := by
  intro pins s σ H D I h
  exact wpAny_Return_some (thn (he pins s σ H _ I h) fun v s1 ⟨x, H1, I1, r1, q1⟩ => ⟨x, σ, H1, I1, r1, q1⟩)
def tIfS (c : TT) (t u : TS) : TS := fun D σ H => c σ H fun b H1 => if b = true then t D σ H1 else u D σ H1
theorem ps_if {c : Expr} {a b : List Stmt} {tc : TT} (hc : PT X c tc) (ha : PSs X a t) (hb : PSs X b u) : PS X (.If c a b pos) (tIfS tc t u) := by
  intro pins s σ H D I h
  refine wpAny_If (thn (hc pins s σ H _ I h) fun d s1 ⟨H1, I1, q1⟩ => ?_)
  cases d with
  | true => exact ha pins s1 σ H1 D I1 q1
  | false => exact hb pins s1 σ H1 D I1 q1
/-- code that the proof never comes to -/
def tNever : TS := fun _ _ _ => False
theorem ps_never : PS X st tNever := fun _ _ _ _ _ _ h => h.elim
end

abbrev TG := V → St → Hp → (St → Hp → Prop) → Prop
def PG (X : Cx) (target : Expr) (t : TG) : Prop :=
  ∀ (pins : List (Addr × Obj)) (s : Shared) (σ : St) (H : Hp) (v : V) (u : Value) (Q : St → Hp → Prop), Inv X pins σ H s → RelV v u → t v σ H Q →
    wpAny (model X.prog X.w) X.A (assign target X.env u) (fun _ s' => ∃ σ' H', Inv X pins σ' H' s' ∧ Q σ' H') X.xe s
section
variable {X : Cx} {pos : Pos}
def gName (i : Nat) : TG := fun v σ H Q => Q (σ.set i (some v)) H
theorem pg_name {i : Nat} {x : Str} (hN : X.N.Nodup) (hi : X.N[i]? = some x) (hx : Loc X.env.scope x) (hf : X.fn x = true ∨ X.env.scope.names.lookup x = some .local := by first | exact .inl rfl | exact .inr rfl | assumption) : PG X (.Name x pos) (gName i) := by
  intro pins s σ H v u Q I r h
  exact wpAny_assign_Name (store_ok I hN hi hx r (fun s' I' => ⟨_, H, I', h⟩) hf)
/-- target = value -/
def tAsg (te : TE) (g : TG) : TS := fun D σ H => te σ H fun x H1 => g x σ H1 D.nx
/-- name = value -/
theorem ps_set {i : Nat} {x : Str} {e : Expr} {te : TE} {pos' : Pos} (hN : X.N.Nodup) (hi : X.N[i]? = some x) (hx : Loc X.env.scope x) (he : PE X e te) (hs : swapsWith e (some (.Name x pos')) pos.line X.env = pure false := by rfl) (hf : X.fn x = true ∨ X.env.scope.names.lookup x = some .local := by first | exact .inl rfl | exact .inr rfl | assumption) :
    PS X (.Assign [.Name x pos'] e pos) (tAsg te (gName i)) := by
  intro pins s σ H D I h
  refine wpAny_Assign_Name (thn (he pins s σ H _ I h) fun v s1 ⟨y, H1, I1, r1, q1⟩ => ?_) hs
  exact store_ok I1 hN hi hx r1 (fun s2 I2 => ⟨_, H1, I2, q1⟩) hf
end

section
variable {X : Cx} {pos : Pos}
/-- the invariant W with its measure -/
def tWhile (c : TT) (tb : TS) : TS := fun D σ H => ∃ W : Nat → St → Hp → Prop, (∃ m, W m σ H) ∧ ∀ m σ H, W m σ H →
  c σ H fun b H1 => if b = true then ∃ N : St → Hp → Prop, (∀ σ' H', N σ' H' → ∃ m', m' < m ∧ W m' σ' H') ∧ tb { D with nx := N, ct := N, bk := D.nx } σ H1 else D.nx σ H1
theorem ps_while {c : Expr} {body : List Stmt} {tc : TT} {tb : TS} (hp : PassesOwn (model X.prog X.w) X.A X.env X.xe) (hc : PT X c tc) (hb : PSs X body tb) : PS X (.While c body [] pos) (tWhile tc tb) := by
  intro pins s σ H D I h
  obtain ⟨W, ⟨m0, w0⟩, turn⟩ := h
  refine wpAny_While (codeAny_whileLoop (fun n s' => ∃ σ' H', Inv X pins σ' H' s' ∧ W n σ' H') ?_ m0 ⟨σ, H, I, w0⟩)
  rintro n s1 ⟨σ1, H1, I1, w1⟩
  refine wpAny_passesOwn hp (thn (hc pins s1 σ1 H1 _ I1 (turn n σ1 H1 w1)) fun b s2 ⟨H2, I2, q2⟩ => ?_)
  cases b with
  | true =>
    obtain ⟨N, hN, q2⟩ := q2
    rw [if_pos rfl]
    refine wpAny_passesOwn hp (thn (hb pins s2 σ1 H2 _ I2 q2) fun f s3 q3 => ?_)
    cases f with
    | next =>
      obtain ⟨σ3, H3, I3, n3⟩ := q3
      obtain ⟨m', hm, w3⟩ := hN σ3 H3 n3
      exact ⟨m', hm, σ3, H3, I3, w3⟩
    | cont =>
      obtain ⟨σ3, H3, I3, n3⟩ := q3
      obtain ⟨m', hm, w3⟩ := hN σ3 H3 n3
      exact ⟨m', hm, σ3, H3, I3, w3⟩
    | brk => exact q3
    | ret v => exact q3
  | false =>
    rw [if_neg Bool.false_ne_true]
    exact wpAny_execs_nil ⟨σ1, H2, I2, q2⟩
end

/-- at turn i: it yields x (the heap may grow), or it stops -/
structure It where
  go : Nat → Hp → Prop
  yld : Nat → Hp → V → Hp → Prop
  stop : Nat → Hp → Prop
/-- the iterator's own objects may turn: they are not the frame's, not pinned, younger than the entry (or a comprehension's own) -/
def FpOk (X : Cx) (pins : List (Addr × Obj)) (H : Hp) (b : Addr) : Prop :=
  H b = none ∧ b ≠ X.env.locals ∧ b ∉ X.fs ∧ (b ∈ X.ex ∨ X.s_0.heap.objs.size ≤ b) ∧ (∀ x c, X.env.cells.lookup x = some c → c ≠ b) ∧ ∀ p ∈ X.pn ++ pins, p.1 ≠ b
theorem Inv.fpOk {X : Cx} {pins : List (Addr × Obj)} {σ : St} {H H' : Hp} {s : Shared} {b : Addr} (I : Inv X pins σ H s) (hb : s.heap.objs.size ≤ b) (hn : H' b = none) : FpOk X pins H' b := by
  refine ⟨hn, Nat.ne_of_gt (Nat.lt_of_lt_of_le I.lt hb), I.nofs hb, .inr (Nat.le_trans I.sz hb), fun x c e z => ?_, fun p hp z => ?_⟩
  · obtain ⟨v, q⟩ := I.cell x c e
    exact absurd (Nat.lt_of_lt_of_le q.lt (by rw [z]; exact hb)) (Nat.lt_irrefl _)
  · exact absurd (Nat.lt_of_lt_of_le (Heap.lt_size (I.pin p hp).1) (by rw [z]; exact hb)) (Nat.lt_irrefl _)
structure Turn (P : Program) (w : World) (K : PySem.W.Frag) (tg : Expr) (J : It) (fp : List Addr) (it : Addr) (tn : Nat → Heap → Prop) : Prop where
  mem : it ∈ fp
  obj : ∀ i h, tn i h → ∀ b ∈ fp, ∃ o, h.get? b = some o ∧ ∀ v, o.data ≠ .cell v
  keep : ∀ i h h', tn i h → (∀ b ∈ fp, ∀ o, h.get? b = some o → h'.get? b = some o) → tn i h'
  item : ∀ (X : Cx), X.prog = P → X.w = w → X.K = K → X.calm = true → ∀ (i : Nat) (pins : List (Addr × Obj)) (s : Shared) (σ : St) (H : Hp) (E : Value → Shared → Prop), Inv X pins σ H s → (∀ b ∈ fp, FpOk X pins H b) → tn i s.heap → J.go i H →
    wpAny (model P w) X.A (pyNext (.ref it)) (fun r s1 => ∃ u, r = some u ∧
      wpAny (model P w) X.A (letOwnedTupleGo tg (.ref it) u) (fun _ s2 => ∃ x H', Inv X pins σ H' s2 ∧ RelV x u ∧ J.yld i H x H' ∧ tn (i + 1) s2.heap ∧ ∀ b ∈ fp, H' b = none) E s1) E s
  done : ∀ (X : Cx), X.prog = P → X.w = w → X.K = K → X.calm = true → ∀ (i : Nat) (pins : List (Addr × Obj)) (s : Shared) (σ : St) (H : Hp) (E : Value → Shared → Prop), Inv X pins σ H s → (∀ b ∈ fp, FpOk X pins H b) → tn i s.heap → J.stop i H →
    wpAny (model P w) X.A (pyNext (.ref it)) (fun r s1 => r = none ∧ Inv X pins σ H s1) E s
  self : ∀ (A : Around) (i : Nat) (s : Shared) (Q : Value → Shared → Prop) (E : Value → Shared → Prop), tn i s.heap → Q (.ref it) s → wpAny (model P w) A (pyIter (.ref it)) Q E s
abbrev TI := St → Hp → (It → Hp → Prop) → Prop
/-- an iterator has come -/
def PIE (X : Cx) (pins : List (Addr × Obj)) (σ : St) (tg : Expr) (R : It → Hp → Prop) (itv : Value) (s2 : Shared) : Prop :=
  ∃ (it : Addr) (fp : List Addr) (tn : Nat → Heap → Prop) (J : It) (H' : Hp), itv = .ref it ∧ Inv X pins σ H' s2 ∧ Turn X.prog X.w X.K tg J fp it tn ∧ tn 0 s2.heap ∧ (∀ b ∈ fp, FpOk X pins H' b) ∧ R J H'
def PI (X : Cx) (tg iter : Expr) (wi : TI) : Prop :=
  ∀ (pins : List (Addr × Obj)) (s : Shared) (σ : St) (H : Hp) (R : It → Hp → Prop), Inv X pins σ H s → wi σ H R →
    wpAny (model X.prog X.w) X.A (eval iter X.env) (fun v s1 => wpAny (model X.prog X.w) X.A (pyIter v) (PIE X pins σ tg R) X.xe s1) X.xe s

/-- the step ahead of the store is nothing for an iterator that keeps no tuple -/
theorem go_of {M : Model} {A : Around} {E : Value → Shared → Prop} {s : Shared} {tg : Expr} {it : Addr} {u : Value} {o : Obj} {n : String} {vs : Array Value} {Q : Unit → Shared → Prop} (ho : s.heap.get? it = some o) (hc : o.cls = .type n) (hd : o.data = .fields vs)
    (hn : ["enumerate", "zip", "dict_itemiterator", "dict_reverseitemiterator", "odict_iterator", "itertools.zip_longest", "itertools.pairwise"].contains n = false) (hQ : Q () s) : wpAny M A (letOwnedTupleGo tg (.ref it) u) Q E s := by
  unfold letOwnedTupleGo
  cases tg <;> first
    | exact wpAny_pure hQ
    | (cases u <;> first
        | exact wpAny_pure hQ
        | (refine wpAny_bind (wpAny_load ho ?_)
           rw [hc, hd]
           show wpAny M A (if (["enumerate", "zip", "dict_itemiterator", "dict_reverseitemiterator", "odict_iterator", "itertools.zip_longest", "itertools.pairwise"].contains n && vs[0]? == some (rawInt _)) = true then _ else _) Q E s
           rw [if_neg (by intro h; rw [hn, Bool.false_and] at h; cases h)]
           exact wpAny_pure hQ))

/-- the list at a, as it stands at each turn (a loop may append to it) -/
def Itl (K : PySem.W.Frag) (a : Addr) : It :=
  ⟨fun i H => ∃ xs x, SqL K H a xs ∧ xs[i]? = some x, fun i H x H' => H' = H ∧ ∀ xs, SqL K H a xs → xs[i]? = some x, fun i H => ∃ xs, SqL K H a xs ∧ xs.length ≤ i⟩
def Itt (K : PySem.W.Frag) (a : Addr) : It :=
  ⟨fun i H => ∃ xs x, SqT K H a xs ∧ xs[i]? = some x, fun i H x H' => H' = H ∧ ∀ xs, SqT K H a xs → xs[i]? = some x, fun i H => ∃ xs, SqT K H a xs ∧ xs.length ≤ i⟩
/-- lo, lo + 1, .. (n of them) -/
def Itr (lo : Int) (n : Nat) : It := ⟨fun i _ => i < n, fun i H x H' => H' = H ∧ x = .int (lo + i), fun i _ => n ≤ i⟩
theorem turn_list {P : Program} {w : World} {K : PySem.W.Frag} {tg : Expr} (a it : Addr) : Turn P w K tg (Itl K a) [it] it (fun i h => h.IsListIter it a i) where
  mem := by simp
  obj := fun i h st b hb => by
    have e : b = it := by simpa using hb
    subst e
    obtain ⟨o, e, c, d⟩ := st
    exact ⟨o, e, fun v z => by rw [d] at z; cases z⟩
  keep := fun i h h' st k => st.at fun o e => k it (by simp) o e
  item := by
    intro X hP hw hK hc i pins s σ H E I hf st hg
    subst hP hw hK
    obtain ⟨xs, x, hq, hx⟩ := hg
    obtain ⟨its, rv, p, hz⟩ := I.list hq
    obtain ⟨u, hu, ru⟩ := rv.get hx
    obtain ⟨f0, f1, f2, f3, f4, f5⟩ := hf it (by simp)
    refine wpAny_pyNext_list_item st p.isList (x := u) (by simpa using hu) fun h' st' sb => ?_
    have I1 : Inv X pins σ H { s with heap := h' } := I.turned (t' := s.toks) (fun b o hb e => (sb.2 b hb).trans e) f0 f1 f3 f4 f5
    obtain ⟨o, e, c, d⟩ := id st'
    exact ⟨u, rfl, go_of (s := { s with heap := h' }) e c d (by decide) ⟨x, H, I1, ru, ⟨rfl, fun ys hy => by rw [I.list_inj hy hq]; exact hx⟩, st', fun b hb => (hf b hb).1⟩⟩
  done := by
    intro X hP hw hK hc i pins s σ H E I hf st hg
    subst hP hw hK
    obtain ⟨xs, hq, hx⟩ := hg
    obtain ⟨its, rv, p, hz⟩ := I.list hq
    obtain ⟨f0, f1, f2, f3, f4, f5⟩ := hf it (by simp)
    have hl := rv.length
    exact wpAny_pyNext_list_end (I.ok.hd hc) st p.isList (by simp; omega) fun h' eb => ⟨rfl, I.turned (t' := s.toks) (fun b o hb e => eb b o hb e) f0 f1 f3 f4 f5⟩
  self := fun _ _ _ _ _ st h => wpAny_pyIter_listiter st h
theorem turn_tuple {P : Program} {w : World} {K : PySem.W.Frag} {tg : Expr} (a it : Addr) : Turn P w K tg (Itt K a) [it] it (fun i h => h.IsTupleIter it a i) where
  mem := by simp
  obj := fun i h st b hb => by
    have e : b = it := by simpa using hb
    subst e
    obtain ⟨o, e, c, d⟩ := st
    exact ⟨o, e, fun v z => by rw [d] at z; cases z⟩
  keep := fun i h h' st k => st.at fun o e => k it (by simp) o e
  item := by
    intro X hP hw hK hc i pins s σ H E I hf st hg
    subst hP hw hK
    obtain ⟨xs, x, hq, hx⟩ := hg
    obtain ⟨its, rv, p, hz⟩ := I.tuple hq
    obtain ⟨u, hu, ru⟩ := rv.get hx
    obtain ⟨f0, f1, f2, f3, f4, f5⟩ := hf it (by simp)
    refine wpAny_pyNext_tuple_item st (show s.heap.IsTuple a its.toArray from p) (x := u) (by simpa using hu) fun h' st' sb => ?_
    have I1 : Inv X pins σ H { s with heap := h' } := I.turned (t' := s.toks) (fun b o hb e => (sb.2 b hb).trans e) f0 f1 f3 f4 f5
    obtain ⟨o, e, c, d⟩ := id st'
    exact ⟨u, rfl, go_of (s := { s with heap := h' }) e c d (by decide) ⟨x, H, I1, ru, ⟨rfl, fun ys hy => by rw [I.tuple_inj hy hq]; exact hx⟩, st', fun b hb => (hf b hb).1⟩⟩
  done := by
    intro X hP hw hK hc i pins s σ H E I hf st hg
    subst hP hw hK
    obtain ⟨xs, hq, hx⟩ := hg
    obtain ⟨its, rv, p, hz⟩ := I.tuple hq
    obtain ⟨f0, f1, f2, f3, f4, f5⟩ := hf it (by simp)
    have hl := rv.length
    exact wpAny_pyNext_tuple_end (I.ok.hd hc) st (show s.heap.IsTuple a its.toArray from p) (by simp; omega) fun h' eb => ⟨rfl, I.turned (t' := s.toks) (fun b o hb e => eb b o hb e) f0 f1 f3 f4 f5⟩
  self := fun _ _ _ _ _ st h => wpAny_pyIter_tupleiter st h
theorem turn_range {P : Program} {w : World} {K : PySem.W.Frag} {tg : Expr} (it : Addr) (lo : Int) (n : Nat) : Turn P w K tg (Itr lo n) [it] it (fun i h => IsRangeIter h it (lo + (i : Nat) * 1) ((n : Int) - (i : Nat)) 1) where
  mem := by simp
  obj := fun i h st b hb => by
    have e : b = it := by simpa using hb
    subst e
    exact ⟨_, st, fun v z => by
      have z' : Data.fields _ = Data.cell v := z
      cases z'⟩
  keep := fun i h h' st k => k it (by simp) _ st
  item := by
    intro X hP hw hK hc i pins s σ H E I hf st hg
    subst hP hw hK
    obtain ⟨f0, f1, f2, f3, f4, f5⟩ := hf it (by simp)
    have W := Walks.range (prog := X.prog) (w := X.w) (I.ok.hd hc) it lo 1 n
    refine W.item i s _ _ hg st fun v h' tk hv st' kk => ?_
    obtain ⟨t, rfl⟩ := hv
    have I1 : Inv X pins σ H { s with heap := h', toks := tk } := I.turned (fun b o hb e => kk b o (by simpa using hb) e) f0 f1 f3 f4 f5
    refine ⟨_, rfl, go_of (s := { s with heap := h', toks := tk }) (n := "range_iterator") st' rfl rfl (by decide) ⟨.int (lo + i), H, I1, ⟨t, ?_⟩, ⟨rfl, rfl⟩, st', fun b hb => (hf b hb).1⟩⟩
    rw [Int.mul_one]
  done := by
    intro X hP hw hK hc i pins s σ H E I hf st hg
    subst hP hw hK
    obtain ⟨f0, f1, f2, f3, f4, f5⟩ := hf it (by simp)
    exact wpAny_pyNext_range_end (I.ok.hd hc) st (by have : n ≤ i := hg; omega) fun h' eb => ⟨rfl, I.turned (t' := s.toks) (fun b o hb e => eb b o hb e) f0 f1 f3 f4 f5⟩
  self := fun _ _ _ _ _ st h => wpAny_pyIter_rangeiter st h
end L2

namespace L2
open PySem PySem.Spec PyProof.Rows
section
variable {X : Cx} {tg : Expr}
def iList (K : PySem.W.Frag) (tl : TE) : TI := fun σ H R => tl σ H fun x H1 => ∃ a, x = .ref a ∧ (∃ xs, SqL K H1 a xs) ∧ R (Itl K a) H1
def iTup (K : PySem.W.Frag) (tl : TE) : TI := fun σ H R => tl σ H fun x H1 => ∃ a, x = .ref a ∧ (∃ xs, SqT K H1 a xs) ∧ R (Itt K a) H1
theorem pi_list {l : Expr} {tl : TE} (hl : PE X l tl) : PI X tg l (iList X.K tl) := by
  intro pins s σ H R I h
  refine thn (hl pins s σ H _ I h) fun v s1 ⟨x, H1, I1, r1, q1⟩ => ?_
  obtain ⟨a, e, ⟨xs, hq⟩, q⟩ := q1
  subst e
  cases r1
  obtain ⟨its, rv, p, hz⟩ := I1.list hq
  refine wpAny_pyIter_list p.isList ?_
  refine ⟨s1.heap.objs.size, [s1.heap.objs.size], _, _, H1, rfl, I1.kept (t' := s1.toks) fun b o e => Heap.get?_push_of_some _ e, turn_list a _, ⟨_, Heap.get?_push_size _ rfl, rfl, rfl⟩, fun b hb => ?_, q⟩
  have e : b = s1.heap.objs.size := by simpa using hb
  subst e
  exact I1.fpOk (Nat.le_refl _) (I1.hok.fresh (Nat.le_refl _))
theorem pi_tup {l : Expr} {tl : TE} (hl : PE X l tl) : PI X tg l (iTup X.K tl) := by
  intro pins s σ H R I h
  refine thn (hl pins s σ H _ I h) fun v s1 ⟨x, H1, I1, r1, q1⟩ => ?_
  obtain ⟨a, e, ⟨xs, hq⟩, q⟩ := q1
  subst e
  cases r1
  obtain ⟨its, rv, p, hz⟩ := I1.tuple hq
  refine wpAny_pyIter_tuple (show s1.heap.IsTuple a its.toArray from p) ?_
  refine ⟨s1.heap.objs.size, [s1.heap.objs.size], _, _, H1, rfl, I1.kept (t' := s1.toks) fun b o e => Heap.get?_push_of_some _ e, turn_tuple a _, ⟨_, Heap.get?_push_size _ rfl, rfl, rfl⟩, fun b hb => ?_, q⟩
  have e : b = s1.heap.objs.size := by simpa using hb
  subst e
  exact I1.fpOk (Nat.le_refl _) (I1.hok.fresh (Nat.le_refl _))
/-- a range object just made, walked -/
theorem range_it {pins : List (Addr × Obj)} {σ : St} {H : Hp} {s : Shared} {R : It → Hp → Prop} {E : Value → Shared → Prop} {lo hi : Int} {t u v : Tok} {tk : Nat} (I : Inv X pins σ H s) (h1 : -(2 ^ 62) ≤ lo) (h2 : lo < 2 ^ 62) (h3 : -(2 ^ 62) ≤ hi) (h4 : hi < 2 ^ 62)
    (q : R (Itr lo (hi - lo).toNat) H) : wpAny (model X.prog X.w) X.A (pyIter (.ref s.heap.objs.size)) (PIE X pins σ tg R) E { s with heap := s.heap.push { cls := .type "range", data := .fields #[.int lo t, .int hi u, .int 1 v] }, toks := tk } := by
  refine wpAny_pyIter_range (IsRange.new ..) (small_one h1 h2 h3 h4) ?_
  have I1 : Inv X pins σ H { s with heap := s.heap.push { cls := .type "range", data := .fields #[.int lo t, .int hi u, .int 1 v] }, toks := tk } := I.kept fun b o e => Heap.get?_push_of_some _ e
  refine ⟨(s.heap.push { cls := .type "range", data := .fields #[.int lo t, .int hi u, .int 1 v] }).objs.size, [(s.heap.push { cls := .type "range", data := .fields #[.int lo t, .int hi u, .int 1 v] }).objs.size], _, _, H, rfl,
    I1.kept (t' := tk) fun b o e => Heap.get?_push_of_some _ e, turn_range _ lo (hi - lo).toNat, ?_, fun b hb => ?_, q⟩
  · have e1 : lo + ((0 : Nat) : Int) * 1 = lo := by simp
    have e2 : (((hi - lo).toNat : Nat) : Int) - ((0 : Nat) : Int) = Builtin.Range.rangeSize lo hi 1 := by rw [rangeSize_one]; split <;> omega
    show IsRangeIter _ _ (lo + ((0 : Nat) : Int) * 1) ((((hi - lo).toNat : Nat) : Int) - ((0 : Nat) : Int)) 1
    rw [e1, e2]
    exact Heap.get?_push_size _ rfl
  · have e : b = (s.heap.push { cls := .type "range", data := .fields #[.int lo t, .int hi u, .int 1 v] }).objs.size := by simpa using hb
    subst e
    exact I1.fpOk (Nat.le_refl _) (I1.hok.fresh (Nat.le_refl _))
def iRng2 (ta : TA) : TI := fun σ H R => ta σ H fun vs H1 => ∃ i j : Int, vs = [.int i, .int j] ∧ (-(2 ^ 62) ≤ i ∧ i < 2 ^ 62 ∧ -(2 ^ 62) ≤ j ∧ j < 2 ^ 62) ∧ R (Itr i (j - i).toNat) H1
theorem pi_range2 {a b : Expr} {ta : TA} {p pos : Pos} (hg : Gl X "range") (hm : X.mg "range" = none) (ha : PA X [a, b] ta) (hs : starEach [a, b] X.env = [(false, eval a X.env), (false, eval b X.env)] := by rfl) (hs2 : starEach [b] X.env = [(false, eval b X.env)] := by rfl) :
    PI X tg (.Call (.Name "range" p) [a, b] [] pos) (iRng2 ta) := by
  intro pins s σ H R I h
  refine Call_ (ld_blt I hg hm boot_range (PyProof.Rows.callWith_type1 (thn (ha pos pins s σ H _ I h) fun us s1 ⟨vs, H1, I1, r1, q1⟩ => ?_) (by rw [hs, hs2]) (by rw [hs2]; rfl)))
  obtain ⟨i, j, e, ⟨q1, q2, q3, q4⟩, q⟩ := q1
  subst e
  cases r1 with
  | cons r rr =>
    cases rr with
    | cons r' rr =>
      cases rr
      obtain ⟨t, rfl⟩ := r
      obtain ⟨t', rfl⟩ := r'
      exact call_range_2 (range_it I1 q1 q2 q3 q4 q)

/-- W: the invariant by the turn and a measure; N: what the body is to reach -/
def tFor (wi : TI) (g : TG) (tb : TS) : TS := fun D σ H => wi σ H fun J H1 => ∃ W : Nat → Nat → St → Hp → Prop, (∃ m, W 0 m σ H1) ∧ ∀ i m σ H, W i m σ H →
  (J.stop i H ∧ D.nx σ H) ∨ (J.go i H ∧ ∃ N : St → Hp → Prop, (∀ σ' H', N σ' H' → ∃ m', m' < m ∧ W (i + 1) m' σ' H') ∧ ∀ x H', J.yld i H x H' → g x σ H' fun σ2 H2 => tb { D with nx := N, ct := N, bk := D.nx } σ2 H2)
/-- the records at fp as they stand -/
def pinsAt (fp : List Addr) (h : Heap) : List (Addr × Obj) := fp.filterMap fun b => (h.get? b).map fun o => (b, o)
theorem mem_pinsAt {fp : List Addr} {h : Heap} {b : Addr} {o : Obj} (hb : b ∈ fp) (e : h.get? b = some o) : (b, o) ∈ pinsAt fp h := List.mem_filterMap.mpr ⟨b, hb, by rw [e]; rfl⟩
theorem of_pinsAt {fp : List Addr} {h : Heap} {p : Addr × Obj} (hp : p ∈ pinsAt fp h) : p.1 ∈ fp ∧ h.get? p.1 = some p.2 := by
  obtain ⟨b, hb, e⟩ := List.mem_filterMap.mp hp
  cases q : h.get? b with
  | none => rw [q] at e; cases e
  | some o =>
    rw [q] at e
    have e' : (b, o) = p := Option.some.inj e
    subst e'
    exact ⟨hb, q⟩
theorem Inv.pinned {pins : List (Addr × Obj)} {σ : St} {H : Hp} {s : Shared} {fp : List Addr} (I : Inv X pins σ H s) (hf : ∀ b ∈ fp, FpOk X pins H b) (ho : ∀ b ∈ fp, ∃ o, s.heap.get? b = some o ∧ ∀ v, o.data ≠ .cell v) : Inv X (pins ++ pinsAt fp s.heap) σ H s :=
  I.pins_of fun p hp => (List.mem_append.mp hp).elim (fun z => I.pin p (List.mem_append_right _ z)) fun z => by
    obtain ⟨hb, e⟩ := of_pinsAt z
    obtain ⟨f0, f1, f2, _⟩ := hf p.1 hb
    obtain ⟨o, e', d⟩ := ho p.1 hb
    rw [e] at e'; cases e'
    exact ⟨e, f0, f1, f2, d⟩
theorem Inv.unpinned {pins pl : List (Addr × Obj)} {σ : St} {H : Hp} {s : Shared} (I : Inv X (pins ++ pl) σ H s) : Inv X pins σ H s := I.pins_of fun p hp => I.pin p (List.mem_append_right _ (List.mem_append_left _ hp))
theorem ps_for {iter : Expr} {body : List Stmt} {wi : TI} {g : TG} {tb : TS} {pos : Pos} (hp : PassesOwn (model X.prog X.w) X.A X.env X.xe) (hc : X.calm = true) (hi : PI X tg iter wi) (hg : PG X tg g) (hb : PSs X body tb)
    (hs : ∀ x, foldedSetIterable iter X.env x = pure x := by intro _; rfl) : PS X (.For tg iter body [] pos) (tFor wi g tb) := by
  intro pins s σ H D I h
  refine wpAny_For (thn (hi pins s σ H _ I h) fun v s1 h1 => thn h1 fun itv s2 h2 => ?_) hs
  obtain ⟨it, fp, tn, J, H2, e, I2, T, st2, f2, W, ⟨m0, w0⟩, turn⟩ := h2
  subst e
  -- what stays true of the iterator's objects through the loop
  have stat : ∀ {H' : Hp}, (∀ b ∈ fp, H' b = none) → ∀ b ∈ fp, FpOk X pins H' b := fun hn b hb => ⟨hn b hb, (f2 b hb).2⟩
  refine codeAny_forLoop_any (fun n s' => ∃ i σ' H', Inv X pins σ' H' s' ∧ tn i s'.heap ∧ (∀ b ∈ fp, H' b = none) ∧ W i n σ' H') ?_ m0 ⟨0, σ, H2, I2, st2, fun b hb => (f2 b hb).1, w0⟩
  rintro n s3 ⟨i, σ3, H3, I3, st3, fr3, w3⟩
  rcases turn i n σ3 H3 w3 with ⟨stop, qn⟩ | ⟨go, N, hN, step⟩
  · refine wpAny_passesOwn hp (thn (T.done X rfl rfl rfl hc i pins s3 σ3 H3 X.xe I3 (stat fr3) st3 stop) fun r s4 ⟨hr, I4⟩ => ?_)
    subst hr
    exact wpAny_execs_nil ⟨σ3, H3, I4, qn⟩
  · refine wpAny_passesOwn hp (thn (T.item X rfl rfl rfl hc i pins s3 σ3 H3 X.xe I3 (stat fr3) st3 go) fun r s4 ⟨u, hr, h4⟩ => ?_)
    subst hr
    refine wpAny_passesOwn hp (thn h4 fun _ s5 ⟨x, H5, I5, r5, y5, st5, fr5⟩ => ?_)
    have I5' := I5.pinned (stat fr5) (T.obj _ _ st5)
    refine wpAny_passesOwn hp (thn (hg _ s5 σ3 H5 x u _ I5' r5 (step x H5 y5)) fun _ s6 ⟨σ6, H6, I6, q6⟩ => ?_)
    refine wpAny_passesOwn hp (thn (hb _ s6 σ6 H6 _ I6 q6) fun f s7 q7 => ?_)
    have again : ∀ {σ7 : St} {H7 : Hp}, Inv X (pins ++ pinsAt fp s5.heap) σ7 H7 s7 → N σ7 H7 → ∃ m, m < n ∧ ∃ i σ' H', Inv X pins σ' H' s7 ∧ tn i s7.heap ∧ (∀ b ∈ fp, H' b = none) ∧ W i m σ' H' := fun {σ7 H7} I7 n7 => by
      obtain ⟨m', hm, w7⟩ := hN σ7 H7 n7
      refine ⟨m', hm, i + 1, σ7, H7, I7.unpinned, T.keep _ _ _ st5 fun b hb o e => (I7.pin (b, o) (List.mem_append_right _ (List.mem_append_right _ (mem_pinsAt hb e)))).1, fun b hb => ?_, w7⟩
      obtain ⟨o, e, d⟩ := T.obj _ _ st5 b hb
      exact (I7.pin (b, o) (List.mem_append_right _ (List.mem_append_right _ (mem_pinsAt hb e)))).2.1
    cases f with
    | next => obtain ⟨σ7, H7, I7, n7⟩ := q7; exact again I7 n7
    | cont => obtain ⟨σ7, H7, I7, n7⟩ := q7; exact again I7 n7
    | brk => obtain ⟨σ7, H7, I7, q7⟩ := q7; exact ⟨σ7, H7, I7.unpinned, q7⟩
    | ret v => obtain ⟨x7, σ7, H7, I7, r7, q7⟩ := q7; exact ⟨x7, σ7, H7, I7.unpinned, r7, q7⟩
end

/-- over a list that the body leaves as it is -/
theorem for_list {K : PySem.W.Frag} {a : Addr} {xs : List V} {g : TG} {tb : TS} {D : Ends} {σ : St} {H : Hp} (Pv : Nat → St → Hp → Prop) (h0 : Pv 0 σ H) (hl : ∀ i σ H, i ≤ xs.length → Pv i σ H → SqL K H a xs)
    (hs : ∀ i x σ H, xs[i]? = some x → Pv i σ H → g x σ H fun σ2 H2 => tb { D with nx := Pv (i + 1), ct := Pv (i + 1), bk := D.nx } σ2 H2) (hd : ∀ σ H, Pv xs.length σ H → D.nx σ H) :
    ∃ W : Nat → Nat → St → Hp → Prop, (∃ m, W 0 m σ H) ∧ ∀ i m σ H, W i m σ H →
      ((Itl K a).stop i H ∧ D.nx σ H) ∨ ((Itl K a).go i H ∧ ∃ N : St → Hp → Prop, (∀ σ' H', N σ' H' → ∃ m', m' < m ∧ W (i + 1) m' σ' H') ∧ ∀ x H', (Itl K a).yld i H x H' → g x σ H' fun σ2 H2 => tb { D with nx := N, ct := N, bk := D.nx } σ2 H2) := by
  refine ⟨fun i m σ H => m = xs.length - i ∧ i ≤ xs.length ∧ Pv i σ H, ⟨xs.length, by simp, Nat.zero_le _, h0⟩, ?_⟩
  rintro i m σ H ⟨rfl, hi, p⟩
  have q := hl i σ H hi p
  by_cases hlt : i < xs.length
  · refine .inr ⟨⟨xs, xs[i], q, by simp [hlt]⟩, Pv (i + 1), fun σ' H' p' => ⟨xs.length - (i + 1), by omega, rfl, hlt, p'⟩, fun x H' y => ?_⟩
    obtain ⟨e, y⟩ := y
    subst e
    exact hs i x σ _ (y xs q) p
  · have e : i = xs.length := by omega
    subst e
    exact .inl ⟨⟨xs, q, Nat.le_refl _⟩, hd σ H p⟩
theorem for_tup {K : PySem.W.Frag} {a : Addr} {xs : List V} {g : TG} {tb : TS} {D : Ends} {σ : St} {H : Hp} (Pv : Nat → St → Hp → Prop) (h0 : Pv 0 σ H) (hl : ∀ i σ H, i ≤ xs.length → Pv i σ H → SqT K H a xs)
    (hs : ∀ i x σ H, xs[i]? = some x → Pv i σ H → g x σ H fun σ2 H2 => tb { D with nx := Pv (i + 1), ct := Pv (i + 1), bk := D.nx } σ2 H2) (hd : ∀ σ H, Pv xs.length σ H → D.nx σ H) :
    ∃ W : Nat → Nat → St → Hp → Prop, (∃ m, W 0 m σ H) ∧ ∀ i m σ H, W i m σ H →
      ((Itt K a).stop i H ∧ D.nx σ H) ∨ ((Itt K a).go i H ∧ ∃ N : St → Hp → Prop, (∀ σ' H', N σ' H' → ∃ m', m' < m ∧ W (i + 1) m' σ' H') ∧ ∀ x H', (Itt K a).yld i H x H' → g x σ H' fun σ2 H2 => tb { D with nx := N, ct := N, bk := D.nx } σ2 H2) := by
  refine ⟨fun i m σ H => m = xs.length - i ∧ i ≤ xs.length ∧ Pv i σ H, ⟨xs.length, by simp, Nat.zero_le _, h0⟩, ?_⟩
  rintro i m σ H ⟨rfl, hi, p⟩
  have q := hl i σ H hi p
  by_cases hlt : i < xs.length
  · refine .inr ⟨⟨xs, xs[i], q, by simp [hlt]⟩, Pv (i + 1), fun σ' H' p' => ⟨xs.length - (i + 1), by omega, rfl, hlt, p'⟩, fun x H' y => ?_⟩
    obtain ⟨e, y⟩ := y
    subst e
    exact hs i x σ _ (y xs q) p
  · have e : i = xs.length := by omega
    subst e
    exact .inl ⟨⟨xs, q, Nat.le_refl _⟩, hd σ H p⟩
theorem for_range {lo : Int} {n : Nat} {g : TG} {tb : TS} {D : Ends} {σ : St} {H : Hp} (Pv : Nat → St → Hp → Prop) (h0 : Pv 0 σ H)
    (hs : ∀ i σ H, i < n → Pv i σ H → g (.int (lo + i)) σ H fun σ2 H2 => tb { D with nx := Pv (i + 1), ct := Pv (i + 1), bk := D.nx } σ2 H2) (hd : ∀ σ H, Pv n σ H → D.nx σ H) :
    ∃ W : Nat → Nat → St → Hp → Prop, (∃ m, W 0 m σ H) ∧ ∀ i m σ H, W i m σ H →
      ((Itr lo n).stop i H ∧ D.nx σ H) ∨ ((Itr lo n).go i H ∧ ∃ N : St → Hp → Prop, (∀ σ' H', N σ' H' → ∃ m', m' < m ∧ W (i + 1) m' σ' H') ∧ ∀ x H', (Itr lo n).yld i H x H' → g x σ H' fun σ2 H2 => tb { D with nx := N, ct := N, bk := D.nx } σ2 H2) := by
  refine ⟨fun i m σ H => m = n - i ∧ i ≤ n ∧ Pv i σ H, ⟨n, by simp, Nat.zero_le _, h0⟩, ?_⟩
  rintro i m σ H ⟨rfl, hi, p⟩
  by_cases hlt : i < n
  · refine .inr ⟨hlt, Pv (i + 1), fun σ' H' p' => ⟨n - (i + 1), by omega, rfl, hlt, p'⟩, fun x H' y => ?_⟩
    obtain ⟨e, y⟩ := y
    subst e y
    exact hs i σ _ hlt p
  · have e : i = n := by omega
    subst e
    exact .inl ⟨Nat.le_refl _, hd σ H p⟩
end L2

namespace L2
open PySem PySem.Spec PyProof.Rows

abbrev R2 := V → V → Hp → VK → Prop
/-- a two-place operation on values: f is binaryOp op, inplaceOp op or compareOp op -/
def OpR (X : Cx) (f : Value → Value → Sem Value) (r : R2) : Prop :=
  ∀ (pins : List (Addr × Obj)) (s : Shared) (σ : St) (H : Hp) (x y : V) (v u : Value) (Q : VK), Inv X pins σ H s → RelV x v → RelV y u → r x y H Q →
    wpAny (model X.prog X.w) X.A (f v u) (EP X pins σ Q) X.xe s
/-- a one-place operation -/
def UnR (X : Cx) (f : Value → Sem Value) (r : V → Hp → VK → Prop) : Prop :=
  ∀ (pins : List (Addr × Obj)) (s : Shared) (σ : St) (H : Hp) (x : V) (v : Value) (Q : VK), Inv X pins σ H s → RelV x v → r x H Q →
    wpAny (model X.prog X.w) X.A (f v) (EP X pins σ Q) X.xe s
/-- a call of a value that is known (a builtin, a type) with values -/
def CallR (X : Cx) (f : Value) (r : List V → Hp → VK → Prop) : Prop :=
  ∀ (pins : List (Addr × Obj)) (s : Shared) (σ : St) (H : Hp) (xs : List V) (us : List Value) (Q : VK), Inv X pins σ H s → Vals xs us → r xs H Q →
    wpAny (model X.prog X.w) X.A (call f us) (EP X pins σ Q) X.xe s
/-- a value's truth -/
def TruR (X : Cx) (r : V → Hp → (Bool → Hp → Prop) → Prop) : Prop :=
  ∀ (pins : List (Addr × Obj)) (s : Shared) (σ : St) (H : Hp) (x : V) (v : Value) (Q : Bool → Hp → Prop), Inv X pins σ H s → RelV x v → r x H Q →
    wpAny (model X.prog X.w) X.A (truthy v) (TP X pins σ Q) X.xe s

def tOp (r : R2) (ta tb : TE) : TE := fun σ H Q => ta σ H fun x H1 => tb σ H1 fun y H2 => r x y H2 Q
def tUn (r : V → Hp → VK → Prop) (ta : TE) : TE := fun σ H Q => ta σ H fun x H1 => r x H1 Q
/-- ints in, under C, and a value out -/
def rI (C : Int → Int → Prop) (g : Int → Int → V) : R2 := fun x y H Q => ∃ i j, x = .int i ∧ y = .int j ∧ C i j ∧ Q (g i j) H
def rI0 (g : Int → Int → V) : R2 := fun x y H Q => ∃ i j, x = .int i ∧ y = .int j ∧ Q (g i j) H
def rU (g : Int → V) : V → Hp → VK → Prop := fun x H Q => ∃ i, x = .int i ∧ Q (g i) H

section
variable {X : Cx} {a b c : Expr} {ta tb tc : TE} {pos : Pos}

theorem binT (ha : PE X a ta) (hb : PE X b tb) {pins : List (Addr × Obj)} {s : Shared} {σ : St} {H : Hp} {R : V → V → Hp → Prop} (I : Inv X pins σ H s)
    (h : ta σ H fun x H1 => tb σ H1 fun y H2 => R x y H2) {Q : Value → Shared → Prop} {f : Value → Value → Sem Value}
    (hf : ∀ v u s2 x y H2, Inv X pins σ H2 s2 → RelV x v → RelV y u → R x y H2 → wpAny (model X.prog X.w) X.A (f v u) Q X.xe s2) :
    wpAny (model X.prog X.w) X.A (eval a X.env) (fun v s₁ => wpAny (model X.prog X.w) X.A (eval b X.env) (fun u s₂ => wpAny (model X.prog X.w) X.A (f v u) Q X.xe s₂) X.xe s₁) X.xe s := by
  refine thn (ha pins s σ H _ I h) fun v s1 ⟨x, H1, I1, r1, q1⟩ => ?_
  refine thn (hb pins s1 σ H1 _ I1 q1) fun u s2 ⟨y, H2, I2, r2, q2⟩ => ?_
  exact hf v u s2 x y H2 I2 r1 r2 q2

theorem pe_op {op : Operator} {r : R2} (ho : OpR X (binaryOp op) r) (ha : PE X a ta) (hb : PE X b tb) : PE X (.BinOp a op b pos) (tOp r ta tb) := by
  intro pins s σ H Q I h
  exact wpAny_BinOp (binT ha hb I h fun v u s2 x y H2 I2 rx ry q => ho pins s2 σ H2 x y v u Q I2 rx ry q)
theorem pe_un {op : UnaryOp} {r : V → Hp → VK → Prop} (ho : UnR X (unaryOp op) r) (ha : PE X a ta) : PE X (.UnaryOp op a pos) (tUn r ta) := by
  intro pins s σ H Q I h
  exact UnaryOp_ (thn (ha pins s σ H _ I h) fun v s1 ⟨x, H1, I1, r1, q1⟩ => ho pins s1 σ H1 x v Q I1 r1 q1)
theorem opI {f : Value → Value → Sem Value} {C : Int → Int → Prop} {g : Int → Int → Int}
    (rule : ∀ (i j : Int) (t u : Tok) (s : Shared) (Q : Value → Shared → Prop) (E : Value → Shared → Prop), C i j → Q (.int (g i j) s.toks) { s with toks := s.toks + 1 } → wpAny (model X.prog X.w) X.A (f (.int i t) (.int j u)) Q E s) :
    OpR X f (rI C fun i j => .int (g i j)) := by
  intro pins s σ H x y v u Q I rx ry h
  obtain ⟨i, j, rfl, rfl, hc, q⟩ := h
  obtain ⟨t, rfl⟩ := rx
  obtain ⟨t', rfl⟩ := ry
  exact rule i j t t' s _ _ hc ⟨.int (g i j), H, I.tok _, ⟨_, rfl⟩, q⟩
theorem opI0 {f : Value → Value → Sem Value} {g : Int → Int → Int}
    (rule : ∀ (i j : Int) (t u : Tok) (s : Shared) (Q : Value → Shared → Prop) (E : Value → Shared → Prop), Q (.int (g i j) s.toks) { s with toks := s.toks + 1 } → wpAny (model X.prog X.w) X.A (f (.int i t) (.int j u)) Q E s) :
    OpR X f (rI0 fun i j => .int (g i j)) := by
  intro pins s σ H x y v u Q I rx ry h
  obtain ⟨i, j, rfl, rfl, q⟩ := h
  obtain ⟨t, rfl⟩ := rx
  obtain ⟨t', rfl⟩ := ry
  exact rule i j t t' s _ _ ⟨.int (g i j), H, I.tok _, ⟨_, rfl⟩, q⟩
theorem opB0 {f : Value → Value → Sem Value} {g : Int → Int → Bool}
    (rule : ∀ (i j : Int) (t u : Tok) (s : Shared) (Q : Value → Shared → Prop) (E : Value → Shared → Prop), Q (.bool (g i j)) s → wpAny (model X.prog X.w) X.A (f (.int i t) (.int j u)) Q E s) :
    OpR X f (rI0 fun i j => .bl (g i j)) := by
  intro pins s σ H x y v u Q I rx ry h
  obtain ⟨i, j, rfl, rfl, q⟩ := h
  obtain ⟨t, rfl⟩ := rx
  obtain ⟨t', rfl⟩ := ry
  exact rule i j t t' s _ _ ⟨.bl (g i j), H, I, rfl, q⟩

def CMul (i j : Int) : Prop := (-(2 ^ 64) < i ∧ i < 2 ^ 64) ∨ (-(2 ^ 64) < j ∧ j < 2 ^ 64)
theorem CMul.ok {i j : Int} (h : CMul i j) : IntMulOk i j := by
  rcases h with ⟨h1, h2⟩ | ⟨h1, h2⟩
  · exact .of_left (intBits_le_64 h1 h2)
  · exact .of_right (intBits_le_64 h1 h2)
theorem op_add : OpR X (binaryOp .Add) (rI0 fun i j => .int (i + j)) := opI0 fun _ _ _ _ _ _ _ q => add_int q
theorem op_sub : OpR X (binaryOp .Sub) (rI0 fun i j => .int (i - j)) := opI0 fun _ _ _ _ _ _ _ q => sub_int q
theorem op_mul : OpR X (binaryOp .Mult) (rI CMul fun i j => .int (i * j)) := opI fun _ _ _ _ _ _ _ hc q => mul_int q hc.ok
/-- % by a positive divisor of any size -/
theorem op_mod : OpR X (binaryOp .Mod) (rI (fun _ j => 0 < j) fun i j => .int (i % j)) := opI fun i j _ _ _ _ _ hc q => by
  have h1 : (0 : Int) < j := hc
  exact mod_int' (by omega) (by rw [Int.fmod_eq_emod_of_nonneg i (by omega)]; exact q)
theorem unI {f : Value → Sem Value} {g : Int → Int}
    (rule : ∀ (i : Int) (t : Tok) (s : Shared) (Q : Value → Shared → Prop) (E : Value → Shared → Prop), Q (.int (g i) s.toks) { s with toks := s.toks + 1 } → wpAny (model X.prog X.w) X.A (f (.int i t)) Q E s) :
    UnR X f (rU fun i => .int (g i)) := by
  intro pins s σ H x v Q I rx h
  obtain ⟨i, rfl, q⟩ := h
  obtain ⟨t, rfl⟩ := rx
  exact rule i t s _ _ ⟨.int (g i), H, I.tok _, ⟨_, rfl⟩, q⟩
theorem un_neg : UnR X (unaryOp .USub) (rU fun i => .int (-i)) := unI fun _ _ _ _ _ q => neg_int q
end

/-- the scalars that == tells apart as data does -/
def scal : V → V → Bool
  | .non, .non => true | .non, .int _ => true | .int _, .non => true | .non, .bl _ => true | .bl _, .non => true | .non, .str _ => true | .str _, .non => true
  | .int _, .int _ => true | .bl _, .bl _ => true | .str _, .str _ => true | .byt _, .byt _ => true
  | .int _, .str _ => true | .str _, .int _ => true | .bl _, .str _ => true | .str _, .bl _ => true
  | _, _ => false
def rEq : R2 := fun x y H Q => scal x y = true ∧ Q (.bl (decide (x = y))) H
theorem dec_int {i j : Int} : decide (V.int i = V.int j) = (i == j) := by
  rw [Bool.eq_iff_iff]
  simp
theorem dec_bl {i j : Bool} : decide (V.bl i = V.bl j) = (i == j) := by
  rw [Bool.eq_iff_iff]
  simp
theorem dec_str {i j : Str} : decide (V.str i = V.str j) = (i == j) := by
  rw [Bool.eq_iff_iff]
  simp
theorem dec_byt {i j : Array UInt8} : decide (V.byt i = V.byt j) = (i.toList == j.toList) := by
  rw [Bool.eq_iff_iff]
  cases i
  cases j
  simp

section
variable {X : Cx} {a b c : Expr} {ta tb tc : TE} {pos : Pos}
theorem fin_bl {pins : List (Addr × Obj)} {σ : St} {H : Hp} {s : Shared} {Q : VK} {k k' : Bool} (I : Inv X pins σ H s) (q : Q (.bl k) H) (e : k = k') : EP X pins σ Q (.bool k') s := by
  subst e
  exact ⟨.bl k, H, I, rfl, q⟩
theorem op_eq : OpR X (compareOp .Eq) rEq := by
  intro pins s σ H x y v u Q I rx ry h
  obtain ⟨hs, q⟩ := h
  cases x with
  | non =>
    cases rx
    cases y with
    | non => cases ry; exact PySem.EqNone.eq_none_none (fin_bl I q (by simp))
    | bl j => cases ry; exact PySem.EqNone.eq_none_bool (fin_bl I q (by simp))
    | int j => obtain ⟨t', rfl⟩ := ry; exact PySem.EqNone.eq_none_int (fin_bl I q (by simp))
    | str j => obtain ⟨t', rfl⟩ := ry; exact PySem.EqNone.eq_none_str (fin_bl I q (by simp))
    | _ => exact absurd (show false = true from hs) Bool.false_ne_true
  | bl i =>
    cases rx
    cases y with
    | non => cases ry; exact PySem.EqNone.eq_bool_none (fin_bl I q (by simp))
    | bl j => cases ry; exact eq_bool (fin_bl I q dec_bl)
    | str j => obtain ⟨t', rfl⟩ := ry; exact PySem.EqMixed.eq_bool_str (fin_bl I q (by simp))
    | _ => exact absurd (show false = true from hs) Bool.false_ne_true
  | int i =>
    obtain ⟨t, rfl⟩ := rx
    cases y with
    | non => cases ry; exact PySem.EqNone.eq_int_none (fin_bl I q (by simp))
    | int j => obtain ⟨t', rfl⟩ := ry; exact eq_int (fin_bl I q dec_int)
    | str j => obtain ⟨t', rfl⟩ := ry; exact PySem.EqMixed.eq_int_str (fin_bl I q (by simp))
    | _ => exact absurd (show false = true from hs) Bool.false_ne_true
  | str i =>
    obtain ⟨t, rfl⟩ := rx
    cases y with
    | non => cases ry; exact PySem.EqNone.eq_str_none (fin_bl I q (by simp))
    | bl j => cases ry; exact PySem.EqMixed.eq_str_bool (fin_bl I q (by simp))
    | int j => obtain ⟨t', rfl⟩ := ry; exact PySem.EqMixed.eq_str_int (fin_bl I q (by simp))
    | str j => obtain ⟨t', rfl⟩ := ry; exact eq_str (fin_bl I q dec_str)
    | _ => exact absurd (show false = true from hs) Bool.false_ne_true
  | byt i =>
    obtain ⟨t, rfl⟩ := rx
    cases y with
    | byt j => obtain ⟨t', rfl⟩ := ry; exact PySem.W.eq_bytes (fin_bl I q dec_byt)
    | _ => exact absurd (show false = true from hs) Bool.false_ne_true
  | _ => cases y <;> exact absurd (show false = true from hs) Bool.false_ne_true
theorem op_le : OpR X (compareOp .LtE) (rI0 fun i j => .bl (decide (i ≤ j))) := opB0 fun _ _ _ _ _ _ _ q => le_int q
theorem op_ge : OpR X (compareOp .GtE) (rI0 fun i j => .bl (decide (j ≤ i))) := opB0 fun _ _ _ _ _ _ _ q => ge_int q
/-- two rules for one operation: by cases -/
theorem OpR.or {f : Value → Value → Sem Value} {r r' : R2} (h : OpR X f r) (h' : OpR X f r') : OpR X f (fun x y H Q => r x y H Q ∨ r' x y H Q) := by
  intro pins s σ H x y v u Q I rx ry q
  rcases q with q | q
  · exact h pins s σ H x y v u Q I rx ry q
  · exact h' pins s σ H x y v u Q I rx ry q

theorem nomark (b : Expr) {op : CmpOp} (h : op ≠ .In := by decide) (h2 : op ≠ .NotIn := by decide) : behindInMarks op b = false := by
  have e1 : (op == CmpOp.In) = false := by cases op <;> first | rfl | exact absurd rfl h
  have e2 : (op == CmpOp.NotIn) = false := by cases op <;> first | rfl | exact absurd rfl h2
  cases b <;> simp [behindInMarks, e1, e2]
/-- a comparison as a value; hm: nomark b, or (for in, not in) by with_unfolding_all rfl -/
theorem pe_cmpR {op : CmpOp} {r : R2} (ho : OpR X (compareOp op) r) (ha : PE X a ta) (hb : PE X b tb) (hm : behindInMarks op b = false) : PE X (.Compare a [op] [b] pos) (tOp r ta tb) := by
  intro pins s σ H Q I h
  exact wpAny_Compare1 (binT ha hb I h fun v u s2 x y H2 I2 rx ry q => ho pins s2 σ H2 x y v u Q I2 rx ry q) hm
/-- a reading of a value as a test -/
def tTest (t : TE) : TT := fun σ H Q => t σ H fun x H' => ∃ k, x = .bl k ∧ Q k H'
theorem pt_cmpR {op : CmpOp} {r : R2} (ho : OpR X (compareOp op) r) (ha : PE X a ta) (hb : PE X b tb) (hm : behindInMarks op b = false) : PT X (.Compare a [op] [b] pos) (tTest (tOp r ta tb)) := by
  intro pins s σ H Q I h
  refine wpAny_isTrue_Compare1 (thn (ha pins s σ H _ I h) fun v s1 ⟨x, H1, I1, r1, q1⟩ => thn (hb pins s1 σ H1 _ I1 q1) fun u s2 ⟨y, H2, I2, r2, q2⟩ =>
    thn (ho pins s2 σ H2 x y v u _ I2 r1 r2 q2) fun c s3 ⟨z, H3, I3, r3, k, e, q3⟩ => ?_) hm
  subst e
  cases r3
  exact wpAny_truthy_bool ⟨H3, I3, q3⟩
/-- a op1 b op2 c -/
def tChain (r r' : R2) (ta tb tc : TE) : TE := fun σ H Q => ta σ H fun x H1 => tb σ H1 fun y H2 => r x y H2 fun z H3 => ∃ k, z = .bl k ∧
  (if k = true then tc σ H3 fun w' H4 => r' y w' H4 Q else Q (.bl false) H3)
theorem pe_chain {op op' : CmpOp} {r r' : R2} (ho : OpR X (compareOp op) r) (ho' : OpR X (compareOp op') r') (ha : PE X a ta) (hb : PE X b tb) (hc : PE X c tc)
    (hm : lastMarks [op, op'] [b, c] = false := by with_unfolding_all rfl) : PE X (.Compare a [op, op'] [b, c] pos) (tChain r r' ta tb tc) := by
  intro pins s σ H Q I h
  refine Compare_chain (thn (ha pins s σ H _ I h) fun v s1 ⟨x, H1, I1, r1, q1⟩ => chain_link (thn (hb pins s1 σ H1 _ I1 q1) fun u s2 ⟨y, H2, I2, r2, q2⟩ =>
    thn (ho pins s2 σ H2 x y v u _ I2 r1 r2 q2) fun d s3 ⟨z, H3, I3, r3, k, e, q3⟩ => ?_)) hm
  subst e
  cases r3
  refine wpAny_truthy_bool ?_
  cases k with
  | false => exact ite_ff ⟨.bl false, H3, I3, rfl, q3⟩
  | true => exact ite_tt (chain_last (thn (hc pins s3 σ H3 _ I3 q3) fun w' s4 ⟨z', H4, I4, r4, q4⟩ => ho' pins s4 σ H4 y z' u w' Q I4 r2 r4 q4))
theorem pt_chain {op op' : CmpOp} {r r' : R2} (ho : OpR X (compareOp op) r) (ho' : OpR X (compareOp op') r') (ha : PE X a ta) (hb : PE X b tb) (hc : PE X c tc)
    (hm : lastMarks [op, op'] [b, c] = false := by with_unfolding_all rfl) : PT X (.Compare a [op, op'] [b, c] pos) (tTest (tChain r r' ta tb tc)) := by
  intro pins s σ H Q I h
  refine isTrue_chain (thn (ha pins s σ H _ I h) fun v s1 ⟨x, H1, I1, r1, q1⟩ => test_link (thn (hb pins s1 σ H1 _ I1 q1) fun u s2 ⟨y, H2, I2, r2, q2⟩ =>
    thn (ho pins s2 σ H2 x y v u _ I2 r1 r2 q2) fun d s3 ⟨z, H3, I3, r3, k, e, q3⟩ => ?_)) hm
  subst e
  cases r3
  refine wpAny_truthy_bool ?_
  cases k with
  | false =>
    obtain ⟨k', e', q'⟩ := q3
    cases e'
    exact ite_ff ⟨H3, I3, q'⟩
  | true =>
    refine ite_tt (test_last (thn (hc pins s3 σ H3 _ I3 q3) fun w' s4 ⟨z', H4, I4, r4, q4⟩ => thn (ho' pins s4 σ H4 y z' u w' _ I4 r2 r4 q4) fun d' s5 ⟨z2, H5, I5, r5, k2, e2, q5⟩ => ?_))
    subst e2
    cases r5
    exact wpAny_truthy_bool ⟨H5, I5, q5⟩

/-- a value's truth by the abstract heap -/
def TruV (K : PySem.W.Frag) (x : V) (H : Hp) (k : Bool) : Prop :=
  match x with
  | .non => k = false
  | .bl b => k = b
  | .int i => k = (i != 0)
  | .str y => y.length ≤ sizeLine ∧ k = ((y.length : Int) != 0)
  | .byt y => y.size ≤ sizeLine ∧ k = ((y.size : Int) != 0)
  | .ref p => (∃ xs, SqL K H p xs ∧ k = !xs.isEmpty) ∨ (∃ xs, SqT K H p xs ∧ k = !xs.isEmpty) ∨ ∃ kvs, H p = some (.dK kvs) ∧ k = !kvs.isEmpty
  | _ => False
theorem isEmpty_kv {κ : Type} {kvs : List (κ × V)} {vs : List (κ × Value)} (r : KV kvs vs) : (!vs.isEmpty) = !kvs.isEmpty := by
  cases r <;> rfl
theorem isEmpty_of {xs : List V} {its : List Value} (r : Vals xs its) : (!its.toArray.isEmpty) = !xs.isEmpty := by
  cases r <;> simp
theorem line63 : (sizeLine : Nat) < 2 ^ 63 := by rw [sizeLine_eq]; decide
theorem tru_ok : TruR X (fun x H Q => ∃ k, TruV X.K x H k ∧ Q k H) := by
  intro pins s σ H x v Q I rx h
  obtain ⟨k, e, q⟩ := h
  have hl := line63
  have hs : sizeLine = 16777216 := sizeLine_eq
  cases x with
  | non =>
    cases rx
    have e' : k = false := e
    subst e'
    exact truthy_none ⟨H, I, q⟩
  | bl b =>
    cases rx
    have e' : k = b := e
    subst e'
    exact wpAny_truthy_bool ⟨H, I, q⟩
  | int i =>
    obtain ⟨t, rfl⟩ := rx
    have e' : k = (i != 0) := e
    subst e'
    exact PySem.P.truthy_int ⟨H, I, q⟩
  | str y =>
    obtain ⟨t, rfl⟩ := rx
    obtain ⟨hy, e'⟩ : y.length ≤ sizeLine ∧ k = ((y.length : Int) != 0) := e
    subst e'
    exact PySem.P.truthy_str (by omega) ⟨H, I.tok _, q⟩
  | byt y =>
    obtain ⟨t, rfl⟩ := rx
    obtain ⟨hy, e'⟩ : y.size ≤ sizeLine ∧ k = ((y.size : Int) != 0) := e
    subst e'
    exact PySem.W.truthy_bytes (by omega) ⟨H, I.tok _, q⟩
  | ref p =>
    cases rx
    have e' : (∃ xs, SqL X.K H p xs ∧ k = !xs.isEmpty) ∨ (∃ xs, SqT X.K H p xs ∧ k = !xs.isEmpty) ∨ ∃ kvs, H p = some (.dK kvs) ∧ k = !kvs.isEmpty := e
    rcases e' with ⟨xs, hx, e'⟩ | ⟨xs, hx, e'⟩ | ⟨kvs, hx, e'⟩
    · subst e'
      obtain ⟨its, r, pl, hz⟩ := I.list hx
      have hlen := r.length
      exact wpAny_truthy_list pl.isList (by simp only [List.size_toArray]; omega) ⟨H, I.tok _, by rw [isEmpty_of r]; exact q⟩
    · subst e'
      obtain ⟨its, r, pl, hz⟩ := I.tuple hx
      have hlen := r.length
      exact truthy_tuple pl (by simp only [List.size_toArray]; omega) ⟨H, I.tok _, by rw [isEmpty_of r]; exact q⟩
    · subst e'
      obtain ⟨hz, hS, vs, r, m⟩ : kvs.length ≤ sizeLine ∧ (p == sysModules) = false ∧ ∃ vs, KV kvs vs ∧ s.heap.DictOf (mixKind X.prog X.w) p vs := I.hok p _ hx
      have hlen : kvs.length = vs.length := Paired.length r
      exact wpAny_truthy_dict hS m (by omega) ⟨H, I.tok _, by rw [isEmpty_kv r]; exact q⟩
  | _ => exact (show False from e).elim
/-- any expression whose test is its value's truth (a name, a call, a subscript, a field ..: he by fun _ => rfl) -/
theorem pt_truth (ha : PE X a ta) (he : ∀ whole, isTrue a X.env whole = (do let v ← whole; standAt a.pos; holding [v] (truthy v))) :
    PT X a (fun σ H Q => ta σ H fun x H' => ∃ k, TruV X.K x H' k ∧ Q k H') := by
  intro pins s σ H Q I h
  exact isTrue_plain (thn (ha pins s σ H _ I h) fun v s1 ⟨x, H1, I1, r1, q1⟩ => tru_ok pins s1 σ H1 x v Q I1 r1 q1) (he _)

theorem vals1 {x : V} {us : List Value} (r : Vals [x] us) : ∃ u, us = [u] ∧ RelV x u := by
  cases r with
  | cons r1 r2 => cases r2; exact ⟨_, rfl, r1⟩
theorem vals2 {x y : V} {us : List Value} (r : Vals [x, y] us) : ∃ u w', us = [u, w'] ∧ RelV x u ∧ RelV y w' := by
  cases r with
  | cons r1 r2 =>
    cases r2 with
    | cons r3 r4 => cases r4; exact ⟨_, _, rfl, r1, r3⟩
theorem call_min2 (hc : X.calm = true) : CallR X (.builtin "min") (fun xs H Q => ∃ i j, xs = [.int i, .int j] ∧ Q (.int (if j < i then j else i)) H) := by
  intro pins s σ H xs us Q I r h
  obtain ⟨i, j, rfl, q⟩ := h
  obtain ⟨u, w', rfl, ⟨t, rfl⟩, ⟨t', rfl⟩⟩ := vals2 r
  refine min_two_ints (I.ok.hd hc) fun h' tk k => ⟨_, H, I.kept k, ?_, q⟩
  by_cases hj : j < i
  · rw [if_pos hj, if_pos hj]; exact ⟨_, rfl⟩
  · rw [if_neg hj, if_neg hj]; exact ⟨_, rfl⟩
end
end L2

namespace L2
open PySem PySem.Spec PyProof.Rows

structure ObjM (h : Heap) (x dx C : Addr) (mA : Str → Option Value) : Prop where
  obj : h.get? x = some (PySem.W.instObj C dx)
  ns : h.Ns1 dx mA
  ne : dx ≠ x

theorem lookIn_ns {h : Heap} {dx : Addr} {mA : Str → Option Value} (n : h.Ns1 dx mA) : ∃ od, h.get? dx = some od ∧ ∀ name, PySem.W.lookIn name od = some (mA name) := by
  obtain ⟨o, es, ep, ho, hd, hk, _, hm⟩ := n
  refine ⟨o, ho, fun name => ?_⟩
  have e := hm name
  unfold nsFind findBy at e
  rw [← Array.find?_toList] at e
  unfold PySem.W.lookIn
  rw [hd]
  dsimp only
  split
  · rename_i y q
    rw [q] at e
    exact congrArg some e
  · rename_i q
    rw [q] at e
    have a : es.toList.any (·.refKey) = false := by
      rw [List.any_eq_false]
      intro y hy
      obtain ⟨z, t, hkey⟩ := hk y (Array.mem_toList_iff.mp hy)
      simp [DictEntry.refKey, hkey]
    have a' : ¬ es.toList.any (·.refKey) = true := by rw [a]; exact Bool.false_ne_true
    rw [if_neg a']
    exact congrArg some e

theorem ObjM.look {h : Heap} {x dx C : Addr} {mA : Str → Option Value} (I : ObjM h x dx C mA) : ∃ od, PySem.W.InstAt h x (PySem.W.instObj C dx) C (some od) ∧ ∀ name, PySem.W.lookIn name od = some (mA name) :=
  let ⟨od, ho, hl⟩ := lookIn_ns I.ns
  ⟨od, ⟨I.obj, rfl, rfl, ho⟩, hl⟩

section
variable {prog : Program} {w : World} {A : Around} {E : Value → Shared → Prop} {s : Shared} {K : PySem.W.Frag} {x dx C f : Addr} {mA : Str → Option Value} {name : Str} {v : Value}

theorem get_map {expr : Bool} {Q : Value → Shared → Prop} (X : K.In s.heap) (I : ObjM s.heap x dx C mA) (hg : PySem.W.plainGet K C name = true) (hh : PySem.W.hasDictIn K C = true)
    (ha : PySem.W.findIn K (.ref C) name = some none) (hv : mA name = some v) (hv' : PySem.W.handedIn v = true) (h : Q v { s with toks := s.toks + 1 }) :
    wpAny (model prog w) A (getAttr (.ref x) name expr) Q E s := by
  obtain ⟨od, J, hl⟩ := I.look
  exact PySem.W.get_value X J (PySem.W.plainGet_of hg).1 (PySem.W.findObj_own hh ha rfl (by rw [hl, hv])) hv' h

theorem get_meth {pl : Sem Bool} {Q : Value × List Value → Shared → Prop} (X : K.In s.heap) (I : ObjM s.heap x dx C mA) (hg : PySem.W.plainGet K C name = true)
    (hf : PySem.W.findIn K (.ref C) name = some (some (.ref f))) (ht : PySem.W.isFn K (.ref f) = true) (hv : mA name = none) (h : Q (.ref f, [.ref x]) s) :
    wpAny (model prog w) A (getMethod (.ref x) name pl) Q E s := by
  obtain ⟨od, J, hl⟩ := I.look
  exact PySem.W.method_fn X J (PySem.W.plainGet_of hg).1 (PySem.W.plainGet_of hg).2 hf (beq_iff_eq.mp ht) (by show (PySem.W.lookIn name od).map (·.isSome) = some false; rw [hl, hv]; rfl) h

theorem set_map {ns : List Str} {Q : Unit → Shared → Prop} (X : K.In s.heap) (I : ObjM s.heap x dx C mA)
    (hs : PySem.W.findIn K (.ref C) "__setattr__" = some (some (.builtin "object.__setattr__"))) (hp : PySem.W.plainOver K C = true) (ht : PySem.W.takerIn K C name = some none) (hh : PySem.W.hasDictIn K C = true)
    (hw : PySem.Within mA ns) (hsz : ns.length ≤ sizeLine)
    (h : ∀ h', ObjM h' x dx C (fun y => if y = name then some v else mA y) → Heap.SameBut dx s.heap h' → Q () { s with heap := h', toks := s.toks + 2 }) :
    wpAny (model prog w) A (setAttr (.ref x) name v) Q E s := by
  obtain ⟨od, J, hl⟩ := I.look
  refine PySem.W.set_plain X J hs (PySem.W.osa_open (s := { s with toks := s.toks + 1 }) (r := none) X J hp ht fun b => ?_)
  obtain ⟨cd, hc, hd'⟩ := PySem.W.any_some hh
  have hx : s.heap.get? x = some ⟨.ref C, some dx, .plain, #[]⟩ := I.obj
  refine wpAny_bind (wpAny_pure (wpAny_bind (wpAny_bind (wpAny_loadPart hx (wpAny_bind (PySem.W.Looks.here (s := { s with toks := s.toks + 1 }) (PySem.W.looks_clsIn X hc) ?_))))))
  rw [hd']
  refine wpAny_pure (a := some dx) (wpAny_bind (wpAny_pure (wpAny_bind ?_)))
  refine wpAny_nsSet1 (s := { s with toks := s.toks + 1 }) I.ns fun h' hn2 hs2 => ?_
  obtain ⟨oD, esD, epD, hoD, hdD, hcD⟩ := hn2.count (PySem.Within.cons name v hw)
  refine wpAny_bind (wpAny_lookBehind hoD (by rw [hdD]; exact pastItsLine_dict (Nat.le_trans hcD (by rw [List.length_cons]; omega))) ?_)
  exact wpAny_pure (h _ ⟨(hs2.2 _ (Ne.symm I.ne)).trans I.obj, hn2, I.ne⟩ hs2)

/-- C(..): the dict at the heap's end, the instance behind it; then its __init__ -/
theorem make_map {R : Result → Shared → Prop} {vs : List Value} {kw : List (Str × Value)} (X : K.In s.heap) (hm : PySem.W.makesIn K C = true)
    (hi : PySem.W.findIn K (.ref C) "__init__" = some (some (.ref f))) (hf : PySem.W.typeIn K (.ref f) = some (.type "function"))
    (h : codeAny (model prog w) (A.under (.builtin "type.__call__" ⟨.ref C :: vs, kw⟩)) (.call (.ref f) ⟨.ref (s.heap.objs.size + 1) :: vs, kw⟩) (PySem.W.InitBack (s.heap.objs.size + 1) R)
      { s with heap := (s.heap.push PySem.W.emptyDict).push (PySem.W.instObj C s.heap.objs.size) }) :
    codeAny (model prog w) A (.call (.ref C) ⟨vs, kw⟩) R s := by
  obtain ⟨hh, g, d, t, os⟩ := s
  exact PySem.W.make_core (PySem.W.makes_of X hm) (PySem.W.looks_findIn X hi) (fun self => PySem.W.bind_fn X self hf) (.inl rfl) h
end

def putF (f : Str) (v : V) : List (Str × V) → List (Str × V)
  | [] => [(f, v)]
  | (g, x) :: r => if g = f then (g, v) :: r else (g, x) :: putF f v r
theorem lookup_putF (f g : Str) (v : V) : ∀ fs : List (Str × V), (putF f v fs).lookup g = if g = f then some v else fs.lookup g
  | [] => by
    show List.lookup g [(f, v)] = _
    by_cases h : g = f
    · have hb : (g == f) = true := beq_iff_eq.mpr h
      simp only [List.lookup, hb, if_pos h]
    · have hb : (g == f) = false := beq_eq_false_iff_ne.mpr h
      simp only [List.lookup, hb, if_neg h]
  | (k, x) :: r => by
    have ih := lookup_putF f g v r
    rw [show putF f v ((k, x) :: r) = (if k = f then (k, v) :: r else (k, x) :: putF f v r) from rfl]
    by_cases hk : k = f
    · rw [if_pos hk]
      by_cases h : g = k
      · have hb : (g == k) = true := beq_iff_eq.mpr h
        simp only [List.lookup, hb, if_pos (h.trans hk)]
      · have hb : (g == k) = false := beq_eq_false_iff_ne.mpr h
        simp only [List.lookup, hb, if_neg (fun e : g = f => h (e.trans hk.symm))]
    · rw [if_neg hk]
      by_cases h : g = k
      · have hb : (g == k) = true := beq_iff_eq.mpr h
        simp only [List.lookup, hb, if_neg (fun e : g = f => hk (h.symm.trans e))]
      · have hb : (g == k) = false := beq_eq_false_iff_ne.mpr h
        simp only [List.lookup, hb]
        exact ih
theorem keys_putF (f : Str) (v : V) : ∀ fs : List (Str × V), f ∈ (putF f v fs).map (·.1) ∧ ∀ g, g ∈ fs.map (·.1) → g ∈ (putF f v fs).map (·.1)
  | [] => ⟨by simp [putF], fun g h => by simp at h⟩
  | (k, x) :: r => by
    obtain ⟨i1, i2⟩ := keys_putF f v r
    rw [show putF f v ((k, x) :: r) = (if k = f then (k, v) :: r else (k, x) :: putF f v r) from rfl]
    by_cases hk : k = f
    · rw [if_pos hk]
      subst hk
      exact ⟨by simp, fun g h => by simpa using h⟩
    · rw [if_neg hk]
      refine ⟨?_, fun g h => ?_⟩
      · rw [List.map_cons]
        exact List.mem_cons_of_mem _ i1
      · rw [List.map_cons] at h ⊢
        rcases List.mem_cons.mp h with e | e
        · exact List.mem_cons.mpr (.inl e)
        · exact List.mem_cons_of_mem _ (i2 g e)
theorem length_putF (f : Str) (v : V) : ∀ fs : List (Str × V), (putF f v fs).length ≤ fs.length + 1
  | [] => by simp [putF]
  | (k, x) :: r => by
    have ih := length_putF f v r
    rw [show putF f v ((k, x) :: r) = (if k = f then (k, v) :: r else (k, x) :: putF f v r) from rfl]
    by_cases hk : k = f
    · rw [if_pos hk, List.length_cons, List.length_cons]; omega
    · rw [if_neg hk, List.length_cons, List.length_cons]; omega

theorem RelO.some_of {v : V} {o : Option Value} (r : RelO (some v) o) : ∃ u, o = some u ∧ RelV v u := by
  cases o with
  | none => exact (show False from r).elim
  | some u => exact ⟨u, rfl, r⟩
theorem RelO.none_of {o : Option Value} (r : RelO none o) : o = none := by
  cases o with
  | none => rfl
  | some u => exact (show False from r).elim
theorem handed_of {v : V} {u : Value} (r : RelV v u) : PySem.W.handedIn u = true := by
  cases v with
  | non => cases (show u = Value.none from r); rfl
  | bl b => cases (show u = Value.bool b from r); rfl
  | int i => obtain ⟨t, e⟩ := (show ∃ t, u = Value.int i t from r); cases e; rfl
  | str x => obtain ⟨t, e⟩ := (show ∃ t, u = Value.str x t from r); cases e; rfl
  | byt b => obtain ⟨t, e⟩ := (show ∃ t, u = Value.bytes b t from r); cases e; rfl
  | flt b => obtain ⟨t, e⟩ := (show ∃ t, u = Value.float b t from r); cases e; rfl
  | ref a => cases (show u = Value.ref a from r); rfl
  | ty n => cases (show u = Value.type n from r); rfl

section
variable {P : Program} {w : World} {H H' : Hp} {h h' : Heap} {a C dx : Addr} {fs fs' : List (Str × V)}
theorem ins_get (hok : HOk P w H h) (e : H a = some (.ins C dx fs)) : ∃ mA, ObjM h a dx C mA ∧ (∀ f, RelO (fs.lookup f) (mA f)) ∧ PySem.Within mA (fs.map (·.1)) ∧ fs.length ≤ 1000 ∧ H dx = some (.own a) := by
  obtain ⟨d, z, ne, ob, mA, n, r, q⟩ := (show ObjOk P w H h a (.ins C dx fs) from hok a _ e)
  exact ⟨mA, ⟨ob, n, ne⟩, r, q, z, d⟩
end

structure Cls (K : PySem.W.Frag) (C : Addr) : Prop where
  pg : PySem.W.plainGet K C Str.empty = true
  hd : PySem.W.hasDictIn K C = true
  po : PySem.W.plainOver K C = true
  sa : PySem.W.findIn K (.ref C) "__setattr__" = some (some (.builtin "object.__setattr__"))
theorem Cls.get {K : PySem.W.Frag} {C : Addr} (c : Cls K C) (f : Str) : PySem.W.plainGet K C f = true := c.pg
/-- no class of it has the name -/
def NoAttr (K : PySem.W.Frag) (C : Addr) (f : Str) : Prop := PySem.W.findIn K (.ref C) f = some none
theorem NoAttr.taker {K : PySem.W.Frag} {C : Addr} {f : Str} (n : NoAttr K C f) : PySem.W.takerIn K C f = some none := by
  unfold PySem.W.takerIn
  rw [show PySem.W.findIn K (.ref C) f = some none from n]
  rfl
/-- a method: a plain def of the class or of one above it -/
structure Meth (K : PySem.W.Frag) (C : Addr) (m : Str) (f : Addr) : Prop where
  at_ : PySem.W.findIn K (.ref C) m = some (some (.ref f))
  fn : PySem.W.isFn K (.ref f) = true
  kp : PySem.W.keepIn K (.ref f) = true

section
variable {X : Cx} {pins : List (Addr × Obj)} {σ : St} {H : Hp} {s : Shared} {a C dx : Addr} {fs : List (Str × V)} {f : Str} {v : V} {A : Around} {E : Value → Shared → Prop}

theorem getattr_ok {b : Bool} {Q : Value → Shared → Prop} (I : Inv X pins σ H s) (e : H a = some (.ins C dx fs)) (c : Cls X.K C) (n : NoAttr X.K C f) (l : fs.lookup f = some v)
    (h : ∀ u s', Inv X pins σ H s' → RelV v u → Q u s') : wpAny (model X.prog X.w) A (getAttr (.ref a) f b) Q E s := by
  obtain ⟨mA, O, r, _, _, _⟩ := ins_get I.hok e
  obtain ⟨u, hu, ru⟩ := RelO.some_of (v := v) (o := mA f) (by rw [← l]; exact r f)
  exact get_map I.kIn O (c.get f) c.hd n hu (handed_of ru) (h u _ (I.tok _) ru)

theorem getmeth_ok {m : Str} {g : Addr} {pl : Sem Bool} {Q : Value × List Value → Shared → Prop} (I : Inv X pins σ H s) (e : H a = some (.ins C dx fs)) (c : Cls X.K C) (k : Meth X.K C m g) (l : fs.lookup m = none)
    (h : Q (.ref g, [.ref a]) s) : wpAny (model X.prog X.w) A (getMethod (.ref a) m pl) Q E s := by
  obtain ⟨mA, O, r, _, _, _⟩ := ins_get I.hok e
  have hn : mA m = none := RelO.none_of (by rw [← l]; exact r m)
  exact get_meth I.kIn O (c.get m) k.at_ k.fn hn h

theorem setattr_ok {y : V} {u : Value} {Q : Unit → Shared → Prop} (I : Inv X pins σ H s) (e : H a = some (.ins C dx fs)) (c : Cls X.K C) (n : NoAttr X.K C f) (hl : fs.length < 1000) (ry : RelV y u)
    (h : ∀ s', Inv X pins σ (upd H a (.ins C dx (putF f y fs))) s' → Q () s') : wpAny (model X.prog X.w) A (setAttr (.ref a) f u) Q E s := by
  obtain ⟨mA, O, r, wi, _, ho⟩ := ins_get I.hok e
  have hz : (fs.map (·.1)).length ≤ sizeLine := by rw [List.length_map, sizeLine_eq]; omega
  refine set_map I.kIn O c.sa c.po n.taker c.hd wi hz fun h' O' sb => h _ ?_
  have hd : ∃ o, h'.get? dx = some o := let ⟨o, _, _, e', _⟩ := O'.ns; ⟨o, e'⟩
  refine I.write (x := a) (e := dx) (by rw [e]; exact True.intro) (.inr ho) (fun b q hb z => (sb.2 b hb).trans z) hd ?_
  refine ⟨by rw [upd_ne O.ne]; exact ho, ?_, O.ne, O'.obj, _, O'.ns, fun g => ?_, fun g hg => ?_⟩
  · have := length_putF f y fs; omega
  · show RelO ((putF f y fs).lookup g) (if g = f then some u else mA g)
    rw [lookup_putF]
    by_cases q : g = f
    · rw [if_pos q, if_pos q]; exact ry
    · rw [if_neg q, if_neg q]; exact r g
  · by_cases q : g = f
    · rw [q]; exact (keys_putF f y fs).1
    · refine (keys_putF f y fs).2 g (wi g fun z => hg ?_)
      show (if g = f then some u else mA g) = none
      rw [if_neg q]; exact z

/-- a new instance, tracked, without attributes -/
theorem Inv.made (I : Inv X pins σ H s) : Inv X pins σ (upd (upd H s.heap.objs.size (.own (s.heap.objs.size + 1))) (s.heap.objs.size + 1) (.ins C s.heap.objs.size []))
    { s with heap := (s.heap.push PySem.W.emptyDict).push (PySem.W.instObj C s.heap.objs.size) } := by
  have e1 : (s.heap.push PySem.W.emptyDict).get? s.heap.objs.size = some PySem.W.emptyDict := Heap.get?_push_size s.heap rfl
  have e2 : ((s.heap.push PySem.W.emptyDict).push (PySem.W.instObj C s.heap.objs.size)).get? (s.heap.objs.size + 1) = some (PySem.W.instObj C s.heap.objs.size) := by
    have := Heap.get?_push_size (s.heap.push PySem.W.emptyDict) (o := PySem.W.instObj C s.heap.objs.size) rfl
    rwa [Heap.size_push] at this
  have e3 : (s.heap.push PySem.W.emptyDict).Ns s.heap.objs.size (fun _ => none) := ⟨PySem.W.emptyDict, #[], _, e1, rfl, (fun e he => absurd he (by simp)), fun _ => rfl⟩
  have I1 := I.laid (a := s.heap.objs.size) (o := .own (s.heap.objs.size + 1)) (h' := s.heap.push PySem.W.emptyDict) (t' := s.toks) (fun b u q => Heap.get?_push_of_some _ q) (Nat.le_refl _) ⟨_, e1⟩
  refine I1.laid (a := s.heap.objs.size + 1) (o := .ins C s.heap.objs.size []) (t' := s.toks) (fun b u q => Heap.get?_push_of_some _ q) (Nat.le_of_eq (Heap.size_push _ _)) ?_
  have ne : s.heap.objs.size ≠ s.heap.objs.size + 1 := Nat.ne_of_lt (Nat.lt_succ_self _)
  refine ⟨by rw [upd_ne ne, upd_same], Nat.zero_le _, ne, e2, fun _ => none, (Heap.Ns1.of_empty e3).at fun o q => Heap.get?_push_of_some _ q, fun _ => True.intro, fun y hy => absurd rfl hy⟩

/-- e.f where nothing but the object is asked: through attributeBase (super) and the last hold -/
theorem attr_of {prog : Program} {w : World} {env : Env} {e : Expr} {f : Str} {pos : Pos} {s : Shared} {Q : Value → Shared → Prop} (hb : attributeBase e f env (eval e env) = eval e env)
    (h : wpAny (model prog w) A (eval e env) (fun o s₁ => wpAny (model prog w) A (getAttr o f true) Q E s₁) E s) : wpAny (model prog w) A (eval (.Attribute e f pos) env) Q E s :=
  Attribute_any_ h (by rw [arm_eval_Attribute, hb])
end

/-- e.f, an attribute of the instance -/
def tFld (K : PySem.W.Frag) (ta : TE) (f : Str) : TE := fun σ H Q => ta σ H fun x H1 => ∃ a C dx fs v, x = .ref a ∧ H1 a = some (.ins C dx fs) ∧ Cls K C ∧ NoAttr K C f ∧ fs.lookup f = some v ∧ Q v H1
/-- e.f = value -/
def sFld (K : PySem.W.Frag) (ta tv : TE) (f : Str) : TS := fun D σ H => tv σ H fun y H1 => ta σ H1 fun x H2 => ∃ a C dx fs, x = .ref a ∧ H2 a = some (.ins C dx fs) ∧ Cls K C ∧ NoAttr K C f ∧ fs.length < 1000 ∧
  D.nx σ (upd H2 a (.ins C dx (putF f y fs)))
/-- an augmented operator on two values -/
def InOp (X : Cx) (op : Operator) (rd : V → V → Hp → VK → Prop) : Prop :=
  ∀ (pins : List (Addr × Obj)) (s : Shared) (σ : St) (H : Hp) (x y : V) (u v : Value) (Q : VK), Inv X pins σ H s → RelV x u → RelV y v → rd x y H Q → wpAny (model X.prog X.w) X.A (inplaceOp op u v) (EP X pins σ Q) X.xe s
/-- e.f op= value -/
def sFldAug (K : PySem.W.Frag) (ta tv : TE) (rd : V → V → Hp → VK → Prop) (f : Str) : TS := fun D σ H => ta σ H fun x H1 => ∃ a C dx fs v, x = .ref a ∧ H1 a = some (.ins C dx fs) ∧ Cls K C ∧ NoAttr K C f ∧ fs.lookup f = some v ∧
  tv σ H1 fun y H2 => rd v y H2 fun z H3 => ∃ dx' fs', H3 a = some (.ins C dx' fs') ∧ fs'.length < 1000 ∧ D.nx σ (upd H3 a (.ins C dx' (putF f z fs')))

section
variable {X : Cx} {o e value : Expr} {f : Str} {pos pos' tpos : Pos} {ta tv : TE}
theorem pe_fld (he : PE X e ta) (hb : attributeBase e f X.env (eval e X.env) = eval e X.env) : PE X (.Attribute e f pos) (tFld X.K ta f) := by
  intro pins s σ H Q I h
  refine attr_of hb (thn (he pins s σ H _ I h) fun u s1 ⟨x, H1, I1, rx, a, C, dx, fs, v, ex, ea, c, n, l, q⟩ => ?_)
  subst ex
  obtain rfl : u = Value.ref a := rx
  exact getattr_ok I1 ea c n l fun u' s2 I2 ru => ⟨v, H1, I2, ru, q⟩
theorem ps_fld (ha : PE X o ta) (hv : PE X value tv) (hs : swapsWith value (some (.Attribute o f pos')) pos.line X.env = pure false) : PS X (.Assign [.Attribute o f pos'] value pos) (sFld X.K ta tv f) := by
  intro pins s σ H D I h
  refine plainObj_wpAny_Assign_Attribute (thn (hv pins s σ H _ I h) fun u s1 ⟨y, H1, I1, ry, q⟩ => thn (ha pins s1 σ H1 _ I1 q) fun ov s2 ⟨x, H2, I2, rx, a, C, dx, fs, ex, ea, c, n, l, q2⟩ => ?_) hs
  subst ex
  obtain rfl : ov = Value.ref a := rx
  exact setattr_ok I2 ea c n l ry fun s3 I3 => ⟨σ, _, I3, q2⟩
theorem ps_fldaug {op : Operator} {rd : V → V → Hp → VK → Prop} (ha : PE X o ta) (hv : PE X value tv) (hop : InOp X op rd) : PS X (.AugAssign (.Attribute o f tpos) op value pos) (sFldAug X.K ta tv rd f) := by
  intro pins s σ H D I h
  refine wpAny_AugAssign_AttributeAny (thn (ha pins s σ H _ I h) fun ov s1 ⟨x, H1, I1, rx, a, C, dx, fs, v, ex, ea, c, n, l, q⟩ => ?_)
  subst ex
  obtain rfl : ov = Value.ref a := rx
  refine getattr_ok I1 ea c n l fun u s2 I2 ru => thn (hv pins s2 σ H1 _ I2 q) fun w3 s3 ⟨y, H2, I3, ry, q3⟩ => thn (hop pins s3 σ H2 v y u w3 _ I3 ru ry q3) fun w4 s4 ⟨z, H3, I4, rz, dx', fs', ea', l', q4⟩ => ?_
  exact setattr_ok I4 ea' c n l' rz fun s5 I5 => ⟨σ, _, I5, q4⟩
def rAdd : V → V → Hp → VK → Prop := fun x y H Q => ∃ i j, x = .int i ∧ y = .int j ∧ Q (.int (i + j)) H
theorem in_add : InOp X .Add rAdd := by
  rintro pins s σ H x y u v Q I rx ry ⟨i, j, rfl, rfl, q⟩
  obtain ⟨t, rfl⟩ := (show ∃ t, u = Value.int i t from rx)
  obtain ⟨t', rfl⟩ := (show ∃ t', v = Value.int j t' from ry)
  exact PyProof.Rows.iadd_int ⟨.int (i + j), H, I.tok _, ⟨_, rfl⟩, q⟩
end

section
variable {X : Cx} {pins : List (Addr × Obj)} {σ : St} {H : Hp} {s : Shared} {A : Around} {E : Value → Shared → Prop} {Q : Value → Shared → Prop} {c : Value} {b : Bool}
end
end L2

namespace L2
open PySem PySem.Spec PyProof.Rows

structure Room (k : Nat) (A : Around) : Prop where
  hd : A.handled = none
  dp : A.depth + 3 * k + 5 < recursionLimit
  un : A.units + 16 * k + 200 < cLine
theorem Room.mono {j k : Nat} {A : Around} (r : Room k A) (h : j ≤ k) : Room j A := ⟨r.hd, by have := r.dp; omega, by have := r.un; omega⟩
theorem Room.deeper {k : Nat} {A : Around} (r : Room (k + 1) A) (env : Env) : Room k (A.deeper env) :=
  ⟨r.hd, by have := r.dp; show A.depth + 1 + 3 * k + 5 < _; omega, by have := r.un; show A.units + 3 + 16 * k + 200 < _; omega⟩
theorem Room.in1 {k : Nat} {A : Around} (r : Room (k + 1) A) : Room k A.in1 :=
  ⟨r.hd, by have := r.dp; show A.depth + 3 * k + 5 < _; omega, by have := r.un; show A.units + 1 + 16 * k + 200 < _; omega⟩
theorem make_depth {A : Around} {C : Addr} {us : List Value} {kw : List (Str × Value)} : (A.under (.builtin "type.__call__" ⟨.ref C :: us, kw⟩)).depth = A.depth + 1 := by
  first | rfl | simp [Around.under, Code.weight, Code.isCreation, Code.isGuard, Code.isCaller, Code.frames, Code.isFrame, guardIds]
theorem make_units {A : Around} {C : Addr} {us : List Value} {kw : List (Str × Value)} : (A.under (.builtin "type.__call__" ⟨.ref C :: us, kw⟩)).units = A.units + 1 := by
  first | rfl | simp [Around.under, Code.cUnits, Code.frames, Code.isFrame]
theorem Room.make {k : Nat} {A : Around} (r : Room (k + 1) A) (C : Addr) (us : List Value) (kw : List (Str × Value)) : Room k (A.under (.builtin "type.__call__" ⟨.ref C :: us, kw⟩)) :=
  ⟨r.hd, by have := r.dp; rw [make_depth]; omega, by have := r.un; rw [make_units]; omega⟩
theorem Room.depth {k : Nat} {A : Around} (r : Room k A) : A.depth < recursionLimit := by have := r.dp; omega
theorem Room.units {k : Nat} {A : Around} (r : Room k A) : A.units + 64 < cLine := by have := r.un; omega
theorem Room.units0 {k : Nat} {A : Around} (r : Room k A) : A.units < cLine := by have := r.un; omega

def tNil : TA := fun _ H Q => Q [] H
def tCons (ta : TE) (tr : TA) : TA := fun σ H Q => ta σ H fun x H1 => tr σ H1 fun xs H2 => Q (x :: xs) H2
section
variable {X : Cx} {e : Expr} {es : List Expr} {te : TE} {t : TA} {pos : Pos}
theorem pa_nil : PA X [] tNil := fun _ _ _ _ H Q I h => Calls.spliced_nil ⟨[], H, I, .nil, h⟩
theorem pa_cons (ha : PE X e te) (hr : PA X es t) (hs : starEach (e :: es) X.env = (false, eval e X.env) :: starEach es X.env := by rfl) : PA X (e :: es) (tCons te t) := by
  intro pos pins s σ H Q I h
  rw [hs]
  show wpAny _ _ (spliced ((false, eval e X.env) :: backTo pos (starEach es X.env))) _ _ s
  refine Calls.spliced_cons (thn (ha pins s σ H _ I h) fun u s1 ⟨x, H1, I1, r1, q1⟩ => ?_)
  exact thn (hr pos pins s1 σ H1 _ I1 q1) fun us s2 ⟨xs, H2, I2, r2, q2⟩ => ⟨x :: xs, H2, I2, .cons r1 r2, q2⟩

/-- a tuple, a list of written items -/
def tTup (t : TA) : TE := fun σ H Q => t σ H fun xs H1 => xs.length ≤ sizeLine ∧ ∀ p, H1 p = none → Q (.ref p) (upd H1 p (.tup xs))
def tLst (t : TA) : TE := fun σ H Q => t σ H fun xs H1 => xs.length ≤ sizeLine ∧ ∀ p, H1 p = none → Q (.ref p) (upd H1 p (.lst xs))
theorem pe_tup {x1} (h : PA X es t) : PE X (.Tuple es x1 pos) (tTup t) := by
  intro pins s σ H Q I hq
  refine wpAny_Tuple_spliced (thn (h pos pins s σ H _ I hq) fun us s1 ⟨xs, H1, I1, r, z, q⟩ => ⟨by rw [← r.length]; exact z, ?_⟩)
  have hf : H1 s1.heap.objs.size = none := I1.hok.fresh (Nat.le_refl _)
  refine ⟨.ref s1.heap.objs.size, upd H1 s1.heap.objs.size (.tup xs), I1.laid (t' := s1.toks) (fun b u e => Heap.get?_push_of_some _ e) (Nat.le_refl _) ?_, rfl, q _ hf⟩
  exact ⟨z, us, r, ⟨_, Heap.get?_push_size _ rfl, rfl, _, rfl⟩⟩
theorem pe_lst (h : PA X es t) : PE X (.List es pos) (tLst t) := by
  intro pins s σ H Q I hq
  refine wpAny_List_spliced (thn (h pos pins s σ H _ I hq) fun us s1 ⟨xs, H1, I1, r, z, q⟩ => ⟨by rw [← r.length]; exact z, ?_⟩)
  have hf : H1 s1.heap.objs.size = none := I1.hok.fresh (Nat.le_refl _)
  refine ⟨.ref s1.heap.objs.size, upd H1 s1.heap.objs.size (.lst xs), I1.laid (t' := s1.toks) (fun b u e => Heap.get?_push_of_some _ e) (Nat.le_refl _) ?_, rfl, q _ hf⟩
  exact ⟨z, us, 0, r, Heap.get?_push_size _ rfl⟩
end

/-- a def's promise: the bound arguments in the parameters' order, the heap, the wanted end, the wanted exception -/
abbrev Sp := List V → Hp → VK → XK → Prop
/-- how an exception lies behind a call (file 08 gives it): the callers' frames, abstract heap and state ahead of the call, the wish, the exception, the state -/
abbrev CXT := List Env → Hp → Shared → XK → Value → Shared → Prop

/-- the state at a call -/
structure Env0 (P : Program) (w : World) (K : PySem.W.Frag) (mg : Str → Option Value) (base : Heap) (A : Around) (outer : List Env) (s : Shared) (H : Hp) : Prop where
  frames : A.frames = some outer
  mod : Mod K mg base
  bs : ∀ b o, base.get? b = some o → s.heap.get? b = some o ∧ H b = none
  bsz : base.objs.size ≤ s.heap.objs.size
  funs : s.heap.FunFrames base outer
  frf : ∀ b ∈ frs outer, H b = none
  hok : HOk P w H s.heap
  bare : AllBare s.gens
/-- a call's end -/
def CE (outer : List Env) (P : Program) (w : World) (H : Hp) (s : Shared) (Q : VK) (u : Value) (s' : Shared) : Prop :=
  ∃ v H', s'.os = s.os ∧ AllBare s'.gens ∧ Un (frs outer) [] H H' s.heap s'.heap ∧ HOk P w H' s'.heap ∧ RelV v u ∧ Q v H'
def CR (CX : CXT) (outer : List Env) (P : Program) (w : World) (H : Hp) (s : Shared) (Q : VK) (E : XK) (r : Result) (s' : Shared) : Prop :=
  match r with
  | .ok (.ret u) => CE outer P w H s Q u s'
  | .ok _ => False
  | .error e => CX outer H s E e s'
structure FnOk (P : Program) (w : World) (K : PySem.W.Frag) (mg : Str → Option Value) (base : Heap) (CX : CXT) (k : Nat) (f : Addr) (fd : FuncData) (ps : List Str) (sp : Sp) : Prop where
  len : ∀ vs H Q E, sp vs H Q E → vs.length = ps.length
  run : ∀ (A : Around) (outer : List Env) (s : Shared) (H : Hp) (args : Args) (us : List Value) (vs : List V) (Q : VK) (E : XK), Room k A → Env0 P w K mg base A outer s H → BindsTo s fd args (ps.zip us) → Vals vs us → sp vs H Q E →
    codeAny (model P w) A (.call (.ref f) args) (CR CX outer P w H s Q E) s
theorem FnOk.mono {P : Program} {w : World} {K : PySem.W.Frag} {mg : Str → Option Value} {base : Heap} {CX : CXT} {j k : Nat} {f : Addr} {fd : FuncData} {ps : List Str} {sp : Sp} (F : FnOk P w K mg base CX j f fd ps sp) (h : j ≤ k) :
    FnOk P w K mg base CX k f fd ps sp := ⟨F.len, fun A outer s H args us vs Q E hr => F.run A outer s H args us vs Q E (hr.mono h)⟩
theorem Env0.make {P : Program} {w : World} {K : PySem.W.Frag} {mg : Str → Option Value} {base : Heap} {A : Around} {outer : List Env} {s : Shared} {H : Hp} (e : Env0 P w K mg base A outer s H) (C : Addr) (us : List Value) (kw : List (Str × Value)) :
    Env0 P w K mg base (A.under (.builtin "type.__call__" ⟨.ref C :: us, kw⟩)) outer s H := ⟨by first | exact e.frames | (simpa [Around.under, Code.envs, Code.isFrame, pushEnvs] using e.frames), e.mod, e.bs, e.bsz, e.funs, e.frf, e.hok, e.bare⟩
theorem Env0.in1 {P : Program} {w : World} {K : PySem.W.Frag} {mg : Str → Option Value} {base : Heap} {A : Around} {outer : List Env} {s : Shared} {H : Hp} (e : Env0 P w K mg base A outer s H) :
    Env0 P w K mg base A.in1 outer s H := ⟨e.frames, e.mod, e.bs, e.bsz, e.funs, e.frf, e.hok, e.bare⟩

section
variable {X : Cx} {pins : List (Addr × Obj)} {σ : St} {H : Hp} {s s' : Shared}
/-- from a body: what a callee wants -/
theorem Inv.env0 (I : Inv X pins σ H s) : Env0 X.prog X.w X.K X.mg X.base X.A X.stack s H :=
  ⟨I.ok.frames, I.ok.mod, I.bs, Nat.le_trans I.ok.bsz I.sz, I.stack, I.stkFree, I.hok, I.bare⟩
/-- behind a call -/
theorem Inv.after {Q : VK} {u : Value} (I : Inv X pins σ H s) (h : CE X.stack X.prog X.w H s Q u s') : EP X pins σ Q u s' := by
  obtain ⟨v, H', os, bare, un, hok, r, q⟩ := h
  obtain ⟨hh, g, d, t, os'⟩ := s'
  obtain rfl : os' = s.os := os
  exact ⟨v, H', I.call (h' := hh) (g' := g) (d' := d) (t' := t) (ch := []) un hok bare (fun b z => absurd z (by simp)), r, q⟩
end

/-- f(..): the written arguments, then the defaults dvs; E: what is wanted of an exception -/
def tCall (sp : Sp) (dvs : List V) (E : XK) (t : TA) : TE := fun σ H Q => t σ H fun vs H1 => sp (vs ++ dvs) H1 Q E
/-- o.m(..) of an instance of the class at C -/
def tMeth (C : Addr) (m : Str) (sp : Sp) (dvs : List V) (E : XK) (ta : TE) (t : TA) : TE := fun σ H Q => ta σ H fun x H1 => ∃ a dx fs, x = .ref a ∧ H1 a = some (.ins C dx fs) ∧ fs.lookup m = none ∧
  t σ H1 fun vs H2 => sp (x :: (vs ++ dvs)) H2 Q E
/-- C(..): a new instance and its dict, then __init__ -/
def tMake (C : Addr) (sp : Sp) (dvs : List V) (E : XK) (t : TA) : TE := fun σ H Q => t σ H fun vs H1 => ∀ x dx, H1 x = none → H1 dx = none → dx ≠ x →
  sp (.ref x :: (vs ++ dvs)) (upd (upd H1 dx (.own x)) x (.ins C dx [])) (fun v H2 => v = .non ∧ Q (.ref x) H2) E

/-- how the parameters are bound: us the positional arguments, kw the keywords' values by name, ds the defaults that fill up -/
def Binds (K : PySem.W.Frag) (fd : FuncData) (ps : List Str) (ds : List Value) : Prop :=
  ∀ (s : Shared) (us : List Value), K.In s.heap → (us ++ ds).length = ps.length → BindsTo s fd ⟨us, []⟩ (ps.zip (us ++ ds))
/-- every parameter is given -/
theorem Binds.all {K : PySem.W.Frag} {fd : FuncData} {ps : List Str} (h : ∀ us : List Value, us.length = ps.length → bindArgs fd ⟨us, []⟩ = pure (ps.zip us)) : Binds K fd ps [] := fun s us _ hl => by
  rw [List.append_nil] at hl ⊢
  exact .of_eq (h us hl)

/-- an exception of a callee reaches what this body wants of exceptions -/
def Passes (CX : CXT) (X : Cx) (E : XK) : Prop := ∀ (pins : List (Addr × Obj)) (σ : St) (H : Hp) (s : Shared) (e : Value) (s' : Shared), Inv X pins σ H s → CX X.stack H s E e s' → X.xe e s'

section
variable {X : Cx} {CX : CXT} {k : Nat} {f C : Addr} {fd : FuncData} {ps : List Str} {sp : Sp} {dvs : List V} {ds : List Value} {E : XK} {x m : Str} {p pos apos : Pos} {e o : Expr} {es : List Expr} {ta : TE} {t : TA}

/-- the callee runs -/
theorem run_fn {pins : List (Addr × Obj)} {σ : St} {H : Hp} {s : Shared} {Q : VK} {us : List Value} {vs : List V} (F : FnOk X.prog X.w X.K X.mg X.base CX k f fd ps sp) (hr : Room k X.A) (hb : Binds X.K fd ps ds) (hd : Vals dvs ds) (hx : Passes CX X E)
    (I : Inv X pins σ H s) (r : Vals vs us) (h : sp (vs ++ dvs) H Q E) : wpAny (model X.prog X.w) X.A (call (.ref f) us) (EP X pins σ Q) X.xe s := by
  have r2 : Vals (vs ++ dvs) (us ++ ds) := r.append hd
  have hl : (us ++ ds).length = ps.length := by rw [← r2.length]; exact F.len _ _ _ _ h
  refine wpAny_call (codeAny_mono (F.run X.A X.stack s H ⟨us, []⟩ (us ++ ds) (vs ++ dvs) Q E hr I.env0 (hb s us I.kIn hl) r2 h) fun r s' hq => ?_)
  cases r with
  | error e => exact hx pins σ H s e s' I hq
  | ok fl =>
    cases fl with
    | ret u => exact I.after hq
    | next => exact False.elim hq
    | brk => exact False.elim hq
    | cont => exact False.elim hq

theorem pe_call (F : FnOk X.prog X.w X.K X.mg X.base CX k f fd ps sp) (hr : Room k X.A) (hg : Gl X x) (hm : X.mg x = some (.ref f)) (hk : PySem.W.keepIn X.K (.ref f) = true) (hb : Binds X.K fd ps ds) (hd : Vals dvs ds) (hx : Passes CX X E)
    (ha : PA X (e :: es) t) (hdb : (x == ("__debug__" : Str)) = false := by decide) (he : starEach (e :: es) X.env = (false, eval e X.env) :: starEach es X.env := by rfl) (hpl : (backTo pos (starEach es X.env)).any (·.1) = false := by rfl) :
    PE X (.Call (.Name x p) (e :: es) [] pos) (tCall sp dvs E t) := by
  intro pins s σ H Q I h
  refine wpAny_Call_Name_kw (ld_glob I hg hm ?_ hdb)
  refine PySem.W.callWith_K (h₀ := X.base) I.ok.mod.kin hk (thn (ha pos pins s σ H _ I h) fun us s1 ⟨vs, H1, I1, r, q⟩ => ⟨I1.kIn, ?_⟩) he hpl
  exact run_fn F hr hb hd hx I1 r q
/-- o.m(e, ..) -/
theorem pe_meth {pl : Sem Bool} (he : PE X o ta) (c : Cls X.K C) (hm : Meth X.K C m f) (F : FnOk X.prog X.w X.K X.mg X.base CX k f fd ps sp) (hr : Room k X.A) (hb : Binds X.K fd ps ds) (hd : Vals dvs ds) (hx : Passes CX X E) (ha : PA X (e :: es) t)
    (hst : starEach (e :: es) X.env = (false, eval e X.env) :: starEach es X.env := by rfl) (hpl : (backTo pos (starEach es X.env)).any (·.1) = false := by rfl)
    (ht : eval (.Call (.Attribute o m apos) (e :: es) [] pos) X.env = (do
      let ov ← eval o X.env
      standAt apos.atName
      let (f, first) ← holding [ov] (getMethod ov m pl)
      callWith pos f first (backTo pos (starEach (e :: es) X.env)) (backToKw pos (keywordEach [] X.env))) := by rfl) :
    PE X (.Call (.Attribute o m apos) (e :: es) [] pos) (tMeth C m sp dvs E ta t) := by
  intro pins s σ H Q I h
  refine PySem.W.methodCall_KW (pl := pl) (thn (he pins s σ H _ I h) fun u s1 ⟨x, H1, I1, rx, a, dx, fs, ex, ea, l, q⟩ => ?_) ht
  subst ex
  obtain rfl : u = Value.ref a := rx
  refine getmeth_ok I1 ea c hm l ?_
  refine PySem.W.callWith_K (first := [.ref a]) (h₀ := X.base) I.ok.mod.kin hm.kp (thn (ha pos pins s1 σ H1 _ I1 q) fun us s2 ⟨vs, H2, I2, r, q2⟩ => ⟨I2.kIn, ?_⟩) hst hpl
  exact run_fn (us := .ref a :: us) (vs := .ref a :: vs) F hr hb hd hx I2 (.cons rfl r) q2
/-- o.m() -/
theorem pe_meth0 {pl : Sem Bool} (he : PE X o ta) (c : Cls X.K C) (hm : Meth X.K C m f) (F : FnOk X.prog X.w X.K X.mg X.base CX k f fd ps sp) (hr : Room k X.A) (hb : Binds X.K fd ps ds) (hd : Vals dvs ds) (hx : Passes CX X E)
    (ht : eval (.Call (.Attribute o m apos) [] [] pos) X.env = (do
      let ov ← eval o X.env
      standAt apos.atName
      let (f, first) ← holding [ov] (getMethod ov m pl)
      callWith pos f first (backTo pos (starEach [] X.env)) (backToKw pos (keywordEach [] X.env))) := by rfl) :
    PE X (.Call (.Attribute o m apos) [] [] pos) (tMeth C m sp dvs E ta tNil) := by
  intro pins s σ H Q I h
  refine PySem.W.methodCall_KW (pl := pl) (thn (he pins s σ H _ I h) fun u s1 ⟨x, H1, I1, rx, a, dx, fs, ex, ea, l, q⟩ => ?_) ht
  subst ex
  obtain rfl : u = Value.ref a := rx
  refine getmeth_ok I1 ea c hm l ?_
  exact PySem.W.callWith_K0 (first := [.ref a]) I1.kIn hm.kp (run_fn (us := [.ref a]) (vs := [.ref a]) F hr hb hd hx I1 (.cons rfl .nil) q)

/-- what a class must have to be made -/
structure Mk (K : PySem.W.Frag) (C f : Addr) : Prop where
  makes : PySem.W.makesIn K C = true
  init : PySem.W.findIn K (.ref C) "__init__" = some (some (.ref f))
  fn : PySem.W.isFn K (.ref f) = true
  kp : PySem.W.keepIn K (.ref C) = true

theorem run_make {pins : List (Addr × Obj)} {σ : St} {H : Hp} {s : Shared} {Q : VK} {us : List Value} {vs : List V} (M : Mk X.K C f) (F : FnOk X.prog X.w X.K X.mg X.base CX k f fd ps sp) (hr : Room (k + 1) X.A) (hb : Binds X.K fd ps ds) (hd : Vals dvs ds)
    (hx : Passes CX X E) (I : Inv X pins σ H s) (r : Vals vs us)
    (h : ∀ x dx, H x = none → H dx = none → dx ≠ x → sp (.ref x :: (vs ++ dvs)) (upd (upd H dx (.own x)) x (.ins C dx [])) (fun v H2 => v = .non ∧ Q (.ref x) H2) E) :
    wpAny (model X.prog X.w) X.A (call (.ref C) us) (EP X pins σ Q) X.xe s := by
  have hq := h (s.heap.objs.size + 1) s.heap.objs.size (I.hok.fresh (Nat.le_succ _)) (I.hok.fresh (Nat.le_refl _)) (Nat.ne_of_lt (Nat.lt_succ_self _))
  have I2 := Inv.made (C := C) I
  have r2 : Vals (V.ref (s.heap.objs.size + 1) :: (vs ++ dvs)) (Value.ref (s.heap.objs.size + 1) :: (us ++ ds)) := .cons rfl (r.append hd)
  have hl : (Value.ref (s.heap.objs.size + 1) :: us ++ ds).length = ps.length := by
    have e := r2.length
    rw [F.len _ _ _ _ hq] at e
    exact e.symm
  refine wpAny_call (make_map (f := f) I.kIn M.makes M.init (beq_iff_eq.mp M.fn) (codeAny_mono (F.run _ X.stack _ _ ⟨Value.ref (s.heap.objs.size + 1) :: us, []⟩ (Value.ref (s.heap.objs.size + 1) :: (us ++ ds)) _ _ E (hr.make C us [])
    (I2.env0.make C us []) (hb _ (Value.ref (s.heap.objs.size + 1) :: us) I2.kIn hl) r2 hq) fun r s' hq' => ?_))
  cases r with
  | error e => exact hx pins σ _ _ e s' I2 hq'
  | ok fl =>
    cases fl with
    | ret u =>
      obtain ⟨v, H', I3, rv, ev, q3⟩ := I2.after hq'
      subst ev
      exact ⟨rv, ⟨V.ref (s.heap.objs.size + 1), H', I3, rfl, q3⟩⟩
    | next => exact False.elim hq'
    | brk => exact False.elim hq'
    | cont => exact False.elim hq'
theorem pe_make (M : Mk X.K C f) (F : FnOk X.prog X.w X.K X.mg X.base CX k f fd ps sp) (hr : Room (k + 1) X.A) (hg : Gl X x) (hm : X.mg x = some (.ref C)) (hb : Binds X.K fd ps ds) (hd : Vals dvs ds) (hx : Passes CX X E)
    (ha : PA X (e :: es) t) (hdb : (x == ("__debug__" : Str)) = false := by decide) (he : starEach (e :: es) X.env = (false, eval e X.env) :: starEach es X.env := by rfl) (hpl : (backTo pos (starEach es X.env)).any (·.1) = false := by rfl) :
    PE X (.Call (.Name x p) (e :: es) [] pos) (tMake C sp dvs E t) := by
  intro pins s σ H Q I h
  refine wpAny_Call_Name_kw (ld_glob I hg hm ?_ hdb)
  refine PySem.W.callWith_K (h₀ := X.base) I.ok.mod.kin M.kp (thn (ha pos pins s σ H _ I h) fun us s1 ⟨vs, H1, I1, r, q⟩ => ⟨I1.kIn, ?_⟩) he hpl
  exact run_make M F hr hb hd hx I1 r q
theorem pe_make0 (M : Mk X.K C f) (F : FnOk X.prog X.w X.K X.mg X.base CX k f fd ps sp) (hr : Room (k + 1) X.A) (hg : Gl X x) (hm : X.mg x = some (.ref C)) (hb : Binds X.K fd ps ds) (hd : Vals dvs ds) (hx : Passes CX X E)
    (hdb : (x == ("__debug__" : Str)) = false := by decide) : PE X (.Call (.Name x p) [] [] pos) (tMake C sp dvs E tNil) := by
  intro pins s σ H Q I h
  refine wpAny_Call_Name_kw (ld_glob I hg hm ?_ hdb)
  exact PySem.W.callWith_K0 I.kIn M.kp (run_make (us := []) M F hr hb hd hx I .nil h)
end

/-- the values of the keywords, from the left -/
def PK (X : Cx) (kws : List Keyword) (t : TA) : Prop :=
  ∀ (pos : Pos) (pins : List (Addr × Obj)) (s : Shared) (σ : St) (H : Hp) (Q : List V → Hp → Prop), Inv X pins σ H s → t σ H Q → wpAny (model X.prog X.w) X.A (evalAll ((backToKw pos (keywordEach kws X.env)).map (·.2))) (AP X pins σ Q) X.xe s
section
variable {X : Cx} {CX : CXT} {k : Nat} {f C : Addr} {fd : FuncData} {ps ks : List Str} {sp : Sp} {E : XK} {x m : Str} {p pos apos kpos : Pos} {e o : Expr} {es : List Expr} {kws : List Keyword} {te ta : TE} {t tk : TA} {nm : Option Str}
theorem pk_nil : PK X [] tNil := fun _ _ _ _ H Q I h => wpAny_evalAll_nil ⟨[], H, I, .nil, h⟩
theorem pk_cons (ha : PE X e te) (hr : PK X kws t) : PK X (⟨nm, e, kpos⟩ :: kws) (tCons te t) := by
  intro pos pins s σ H Q I h
  show wpAny _ _ (evalAll ((do let v ← eval e X.env; standAt pos; pure v) :: (backToKw pos (keywordEach kws X.env)).map (·.2))) _ _ s
  refine wpAny_evalAll_cons (wpAny_bind (thn (ha pins s σ H _ I h) fun u s1 ⟨x, H1, I1, r1, q1⟩ => wpAny_bind (wpAny_standAt (wpAny_pure ?_))))
  exact thn (hr pos pins s1 σ H1 _ I1 q1) fun us s2 ⟨xs, H2, I2, r2, q2⟩ => ⟨x :: xs, H2, I2, .cons r1 r2, q2⟩

variable {g : List Value → List Value → List Value} {gV : List V → List V → List V}
end

/-- names: the parameters first -/
structure FnScope (N P : List Str) (sc : Scope) : Prop where
  kind : sc.kind = .function
  co : sc.isCoroutine = false
  gen : sc.isGenerator = false
  nd : N.Nodup
  pre : N.take P.length = P
  par : ∀ x ∈ P, sc.names.lookup x = some .local ∨ sc.names.lookup x = some .cell
  nofree : ∀ y ∈ sc.names, y.2 ≠ .free

theorem bindL_out {kindOf : Str → Option NameKind} {x : Str} : ∀ {binds : List (Str × Value)} {m : Str → Option Value}, (∀ v, (x, v) ∉ binds) → bindL kindOf binds m x = m x
  | [], _, _ => rfl
  | (n, v) :: r, m, h => by
    unfold bindL
    rw [bindL_out fun w hw => h w (List.mem_cons_of_mem _ hw)]
    split
    · have : x ≠ n := by rintro rfl; exact h v List.mem_cons_self
      simp [this]
    · rfl
theorem bindC_out {kindOf : Str → Option NameKind} {x : Str} : ∀ {binds : List (Str × Value)} {m : Str → Option Value}, (∀ v, (x, v) ∉ binds) → bindC kindOf binds m x = m x
  | [], _, _ => rfl
  | (n, v) :: r, m, h => by
    unfold bindC
    rw [bindC_out fun w hw => h w (List.mem_cons_of_mem _ hw)]
    split
    · rfl
    · have : x ≠ n := by rintro rfl; exact h v List.mem_cons_self
      simp [this]
theorem bindL_get {kindOf : Str → Option NameKind} {x : Str} {v : Value} : ∀ {P : List Str} {vs : List Value} {i : Nat} {m : Str → Option Value}, P.Nodup → P[i]? = some x → vs[i]? = some v → kindOf x = some .local →
    bindL kindOf (P.zip vs) m x = some v
  | [], _, _, _, _, h, _, _ => by simp at h
  | _ :: _, [], _, _, _, _, h, _ => by simp at h
  | p :: P, w :: vs, 0, m, nd, h1, h2, hk => by
    simp at h1 h2; subst h1; subst h2
    show bindL kindOf ((p, w) :: P.zip vs) m p = _
    unfold bindL
    rw [bindL_out fun v hv => (List.nodup_cons.mp nd).1 (List.of_mem_zip hv).1, if_pos hk]
    simp
  | p :: P, w :: vs, i + 1, m, nd, h1, h2, hk => by
    show bindL kindOf ((p, w) :: P.zip vs) m x = _
    unfold bindL
    exact bindL_get (i := i) (List.nodup_cons.mp nd).2 (by simpa using h1) (by simpa using h2) hk
theorem bindC_get {kindOf : Str → Option NameKind} {x : Str} {v : Value} : ∀ {P : List Str} {vs : List Value} {i : Nat} {m : Str → Option Value}, P.Nodup → P[i]? = some x → vs[i]? = some v → kindOf x ≠ some .local →
    bindC kindOf (P.zip vs) m x = some v
  | [], _, _, _, _, h, _, _ => by simp at h
  | _ :: _, [], _, _, _, _, h, _ => by simp at h
  | p :: P, w :: vs, 0, m, nd, h1, h2, hk => by
    simp at h1 h2; subst h1; subst h2
    show bindC kindOf ((p, w) :: P.zip vs) m p = _
    unfold bindC
    rw [bindC_out fun v hv => (List.nodup_cons.mp nd).1 (List.of_mem_zip hv).1, if_neg hk]
    simp
  | p :: P, w :: vs, i + 1, m, nd, h1, h2, hk => by
    show bindC kindOf ((p, w) :: P.zip vs) m x = _
    unfold bindC
    exact bindC_get (i := i) (List.nodup_cons.mp nd).2 (by simpa using h1) (by simpa using h2) hk

/-- the names' values at the entry -/
def start (N : List Str) (vs : List V) : St := vs.map some ++ List.replicate (N.length - vs.length) none

/-- the context of a def's body, at its entry; an exception leaves the frame, then lies as CX says -/
def cxOf (CX : CXT) (P : Program) (w : World) (K : PySem.W.Frag) (mg : Str → Option Value) (base : Heap) (N : List Str) (qual : Str) (scope : Scope) (f : Addr) (cd : Value) (A : Around) (outer : List Env) (s : Shared) (H : Hp) (E : XK) : Cx where
  prog := P
  w := w
  K := K
  mg := mg
  base := base
  A := A.deeper (envOfC qual scope s.heap.objs.size f cd)
  N := N
  s_0 := s
  H_0 := H
  env := envOfC qual scope s.heap.objs.size f cd
  outer := outer
  stack := envOfC qual scope s.heap.objs.size f cd :: outer
  ex := []
  calm := true
  fn := fun _ => true
  pn := []
  xe := fun e s' => wpAny (model P w) (A.deeper (envOfC qual scope s.heap.objs.size f cd)) (leaving (envOfC qual scope s.heap.objs.size f cd) e) (fun _ s'' => CX outer H s E e s'') (fun e' s'' => CX outer H s E e' s'') s'

theorem cell_has {sc : Scope} {n : Nat} {x : Str} (h : sc.names.lookup x = some .cell) : ∃ c, (cellsFrom n sc.names []).lookup x = some c := by
  have q := PySem.W.cellsFrom_some sc.names n [] (.inl h)
  exact Option.isSome_iff_exists.mp q

theorem inv_start {CX : CXT} {P : Program} {w : World} {K : PySem.W.Frag} {mg : Str → Option Value} {base : Heap} {N ps : List Str} {qual : Str} {scope : Scope} {f : Addr} {cd : Value} {A : Around} {outer : List Env} {s s1 : Shared} {H : Hp} {E : XK} {us : List Value} {vs : List V}
    (S : FnScope N ps scope) (hd : A.handled = none) (e0 : Env0 P w K mg base A outer s H) (hl : vs.length = ps.length) (r : Vals vs us)
    (x : InCallC s s.heap.objs.size (bindL (envOfC qual scope s.heap.objs.size f cd).kindOf (ps.zip us) fun _ => none) (cellsFrom (s.heap.objs.size + 1) scope.names []) (bindC (envOfC qual scope s.heap.objs.size f cd).kindOf (ps.zip us) fun _ => none) s1) :
    Inv (cxOf CX P w K mg base N qual scope f cd A outer s H E) [] (start N vs) H s1 := by
  have hpl : ps.length ≤ N.length := by have := congrArg List.length S.pre; rw [List.length_take] at this; omega
  obtain ⟨h1, tk, rfl, hk⟩ := x.done
  have noA : ∀ b : Addr, b ∉ (cxOf CX P w K mg base N qual scope f cd A outer s H E).ex := fun b z => absurd (show b ∈ ([] : List Addr) from z) (by simp)
  refine ⟨⟨e0.mod, S.kind, rfl, rfl, Nat.le_refl _, fun y z c h1 h2 => ?_, fun y hy => ?_, fun y c _ h => ?_, fun _ => hd, Around.frames_deeper e0.frames, .inr ⟨rfl, rfl⟩, fun b z => absurd z (noA b), e0.bs, e0.bsz, fun b _ _ => noA b, fun b z => absurd z (noA b), e0.funs, e0.frf⟩,
    rfl, e0.bare, Un.kept hk, ⟨_, x.toInCall.ns, fun i y v h1 h2 h3 => ?_⟩, fun y c h => ⟨_, x.cell y c h⟩, e0.hok.fresh (Nat.le_refl _), fun y c h => ?_, fun p hp => absurd (show p ∈ ([] : List (Addr × Obj)) from hp) (by simp), e0.hok.kept hk, ?_⟩
  · exact name_of_addr x.apart (PySem.mem_of_lookup h1) (PySem.mem_of_lookup h2)
  · have hy : scope.names.lookup y = some .cell ∨ scope.names.lookup y = some .free := hy
    rcases hy with hy | hy
    · exact cell_has hy
    · exact absurd rfl (S.nofree _ (PySem.mem_of_lookup hy))
  · exact Nat.le_of_lt (x.above y c (PySem.mem_of_lookup h))
  · have hi : i < vs.length := by
      unfold start at h2
      by_cases hi : i < vs.length
      · exact hi
      · rw [List.getElem?_append_right (by simpa using hi)] at h2
        rw [List.getElem?_replicate] at h2
        split at h2 <;> cases h2
    have ha : vs[i]? = some v := by
      unfold start at h2
      rw [List.getElem?_append_left (by simpa using hi), List.getElem?_map] at h2
      cases e : vs[i]? with
      | none => rw [e] at h2; cases h2
      | some a => rw [e] at h2; cases h2; rfl
    obtain ⟨u, hu, rv⟩ := r.get ha
    have hp : ps[i]? = some y := by
      rw [← S.pre, List.getElem?_take_of_lt (by omega)]; exact h1
    have ndP : ps.Nodup := by rw [← S.pre]; exact S.nd.sublist (List.take_sublist _ _)
    refine ⟨u, rv, ?_⟩
    rcases S.par y (List.mem_of_getElem? hp) with k | k
    · exact .inl ⟨k, bindL_get ndP hp hu k⟩
    · obtain ⟨c, e⟩ := cell_has (n := s.heap.objs.size + 1) k
      refine .inr ⟨.inl k, c, e, ?_⟩
      have q := x.cell y c e
      rw [bindC_get ndP hp hu (by show scope.names.lookup y ≠ _; rw [k]; decide)] at q
      exact q
  · exact e0.hok.fresh (Nat.le_of_lt (x.above y c (PySem.mem_of_lookup h)))
  · unfold start
    show _ = N.length
    rw [List.length_append, List.length_map, List.length_replicate]
    omega

/-- THE RULE: a def (or a method) of the text, by its body. The body's reading t is chosen for each entry; it is run at the parameters' values -/
theorem fn_of {CX : CXT} {P : Program} {w : World} {K : PySem.W.Frag} {mg : Str → Option Value} {base : Heap} {k : Nat} {f : Addr} {name qual : Str} {params : Arguments} {body : List Stmt} {scope : Scope} {dV kV doc pm cdv ct oc : Value} {an od : Option Addr}
    {osl : Array (Option Value)} {N ps : List Str} {sp : Sp} (lk : K.lookup f = some ⟨oc, od, .func (PySem.W.fnOf name qual params body scope dV kV doc pm an cdv ct), osl⟩) (hcd : PySem.W.codeIn K cdv qual = true) (S : FnScope N ps scope)
    (len : ∀ vs H Q E, sp vs H Q E → vs.length = ps.length)
    (hbody : ∀ (A : Around) (outer : List Env) (s : Shared) (H : Hp) (vs : List V) (Q : VK) (E : XK), Room k (A.deeper (envOfC qual scope s.heap.objs.size f cdv)) → sp vs H Q E →
      ∃ t, PSs (cxOf CX P w K mg base N qual scope f cdv A outer s H E) body t ∧ t { nx := fun _ H' => Q .non H', rt := Q } (start N vs) H) :
    FnOk P w K mg base CX (k + 1) f (PySem.W.fnOf name qual params body scope dV kV doc pm an cdv ct) ps sp := by
  refine ⟨len, fun A outer s H args us vs Q E hr e0 hb r hsp => ?_⟩
  have hl := len _ _ _ _ hsp
  have KX : K.In s.heap := e0.mod.kin.keeps fun b o e => (e0.bs b o e).1
  have lim : s.heap.NoLimit := e0.mod.nolimit.keeps fun b o e => (e0.bs b o e).1
  have hkind : ∀ y ∈ ps.zip us, scope.names.lookup y.1 = some .local ∨ (scope.names.lookup y.1 = some .cell ∧ ((cellsFrom (s.heap.objs.size + 1) scope.names []).lookup y.1).isSome = true) := fun ⟨n, v⟩ hy => by
    rcases S.par n (List.of_mem_zip hy).1 with q | q
    · exact .inl q
    · exact .inr ⟨q, PySem.W.cellsFrom_some _ _ _ (.inl q)⟩
  refine codeAny_call_function hr.depth (KX _ _ lk) rfl S.co S.gen rfl (PySem.W.codeRec_of KX hcd) (hb _ _ _ _ ?_)
  refine wpAny_newFunctionEnv_cells S.kind hkind fun env he s1 x => ?_
  subst he
  refine ⟨lim.keeps x.toInCall.keep, codeAny_func ?_⟩
  obtain ⟨t, ht, hq⟩ := hbody A outer s H vs Q E (hr.deeper _) hsp
  have I : Inv (cxOf CX P w K mg base N qual scope f cdv A outer s H E) [] (start N vs) H s1 := inv_start S hr.hd e0 hl r x
  refine wpAny_mono (ht [] s1 (start N vs) H _ I hq) (fun fl s' hs => ?_) fun e s' hs => hs
  have fin : ∀ {σ' : St} {H' : Hp} {v : V} {u : Value}, Inv (cxOf CX P w K mg base N qual scope f cdv A outer s H E) [] σ' H' s' → RelV v u → Q v H' → CE outer P w H s Q u s' :=
    fun {σ' H' v u} J rv q => ⟨v, H', J.os, J.bare, J.base, J.hok, rv, q⟩
  cases fl with
  | ret u =>
    obtain ⟨v, σ', H', J, rv, q⟩ := hs
    exact fin J rv q
  | next =>
    obtain ⟨σ', H', J, q⟩ := hs
    exact fin (v := V.non) (u := Value.none) J rfl q
  | brk =>
    obtain ⟨_, _, _, q⟩ := hs
    exact False.elim q
  | cont =>
    obtain ⟨_, _, _, q⟩ := hs
    exact False.elim q
end L2

namespace L2
open PySem PySem.Spec PyProof.Rows
section
variable {X : Cx} {x : Str} {p pos : Pos} {e : Expr} {es : List Expr} {t : TA} {id T : String} {r : List V → Hp → VK → Prop}

def tCB (r : List V → Hp → VK → Prop) (t : TA) : TE := fun σ H Q => t σ H fun vs H1 => r vs H1 Q
/-- f(e, ..), f a built-in function -/
theorem pe_callB (hc : CallR X (.builtin id) r) (hg : Gl X x) (hm : X.mg x = none) (hv : bootBuiltins x = some (.builtin id)) (ha : PA X (e :: es) t) (hn : x ≠ "__name__" := by decide) (hdb : (x == ("__debug__" : Str)) = false := by decide)
    (he : starEach (e :: es) X.env = (false, eval e X.env) :: starEach es X.env := by rfl) (hpl : (backTo pos (starEach es X.env)).any (·.1) = false := by rfl) : PE X (.Call (.Name x p) (e :: es) [] pos) (tCB r t) := by
  intro pins s σ H Q I h
  refine wpAny_Call_Name_kw (ld_blt I hg hm hv ?_ hn hdb)
  exact PyProof.Rows.callWith_builtin1 (thn (ha pos pins s σ H _ I h) fun us s1 ⟨vs, H1, I1, r1, q1⟩ => hc pins s1 σ H1 vs us Q I1 r1 q1) he hpl
/-- T(e, ..), T a built-in type -/
theorem pe_callTy (hc : CallR X (.type T) r) (hg : Gl X x) (hm : X.mg x = none) (hv : bootBuiltins x = some (.type T)) (ha : PA X (e :: es) t) (hn : x ≠ "__name__" := by decide) (hdb : (x == ("__debug__" : Str)) = false := by decide)
    (he : starEach (e :: es) X.env = (false, eval e X.env) :: starEach es X.env := by rfl) (hpl : (backTo pos (starEach es X.env)).any (·.1) = false := by rfl) : PE X (.Call (.Name x p) (e :: es) [] pos) (tCB r t) := by
  intro pins s σ H Q I h
  refine wpAny_Call_Name_kw (ld_blt I hg hm hv ?_ hn hdb)
  exact PyProof.Rows.callWith_type1 (thn (ha pos pins s σ H _ I h) fun us s1 ⟨vs, H1, I1, r1, q1⟩ => hc pins s1 σ H1 vs us Q I1 r1 q1) he hpl
end
end L2

namespace HT
open PySem PyProof.Rows

theorem eqAt_int (A : Around) (s : Shared) (a : Int) (t : Tok) (c : Int) (u : Tok) : ∃ e, SeqAt.EqAt A s (.int a t) (.int c u) e ∧ (e = true ↔ a = c) :=
  ⟨(a == c), SeqAt.EqAt.int_int a t c u, by simp⟩
section
open PySem.SeqAt
open PySem.AutoSeq1 (wpAny_loadPart')
open PySem.MeetsSeq PySem.MeetsSeq2 PySem.MeetsSeq3

end

section
variable {prog : Program} {w : World} {A : Around} {E : Value → Shared → Prop} {s : Shared}

/-- t + u, t not empty -/
theorem cat_tup {t b : Addr} {vs ws : List Value} {Q : Value → Shared → Prop} (ht : IsTup s.heap t vs.toArray) (hb : IsTup s.heap b ws.toArray) (hv : vs ≠ [])
    (h1 : ws = [] → Q (.ref t) s) (h2 : ws ≠ [] → Q (.ref s.heap.objs.size) { s with heap := s.heap.push { cls := .type "tuple", data := .seq (vs ++ ws).toArray } })
    (hsz : vs.length + ws.length ≤ sizeLine) : wpAny (model prog w) A (binaryOp .Add (.ref t) (.ref b)) Q E s := by
  obtain ⟨⟨cls, dd, data, sl⟩, ho, hc, n, hd⟩ := id ht
  obtain ⟨⟨cls2, dd2, data2, sl2⟩, ho2, hc2, n2, hd2⟩ := id hb
  simp only at hc hd hc2 hd2
  subst hc hd hc2 hd2
  have e : vs.toArray ++ ws.toArray = (vs ++ ws).toArray := by simp
  by_cases hw : ws = []
  · exact concat_meets ⟨_, ho, rfl⟩ ⟨_, ho2, rfl⟩ noFill_tuple_add seq_tuple_add PySem.F.slot_tuple_add PySem.F.entry_tuple_add (PySem.F.args_tuple_add_2 _ _)
      (tuple_addW1 t b vs.toArray ws.toArray n n2 dd dd2 sl sl2 (by simpa using hv) (by simp [hw])) ⟨ho, ho2, h1 hw⟩
  · refine concat_meets ⟨_, ho, rfl⟩ ⟨_, ho2, rfl⟩ noFill_tuple_add seq_tuple_add PySem.F.slot_tuple_add PySem.F.entry_tuple_add (PySem.F.args_tuple_add_2 _ _)
      (tuple_addW2 t b vs.toArray ws.toArray n n2 dd dd2 sl sl2 (by simpa using hv) (by simpa using hw) (by rw [List.size_toArray, List.size_toArray]; exact hsz)) ⟨ho, ho2, ?_⟩
    rw [e]
    exact h2 hw

/-- a slice's bound as a place among n (d where it is left out) -/
def sIx (n d : Nat) : Option Int → Nat
  | none => d
  | some v => if v < 0 then (v + (n : Int)).toNat else min v.toNat n
theorem sIx_none (n d : Nat) : sIx n d none = d := rfl
theorem sIx_nat (n d k : Nat) : sIx n d (some (k : Int)) = min k n := by
  show (if (k : Int) < 0 then ((k : Int) + (n : Int)).toNat else min (k : Int).toNat n) = min k n
  rw [if_neg (by omega), Int.toNat_natCast]
theorem sIx_le (n d : Nat) (hd : d ≤ n) (o : Option Int) : sIx n d o ≤ n := by
  cases o with
  | none => exact hd
  | some v =>
    show (if v < 0 then (v + (n : Int)).toNat else min v.toNat n) ≤ n
    by_cases hv : v < 0
    · rw [if_pos hv]; omega
    · rw [if_neg hv]; exact Nat.min_le_right _ _
theorem clip_eq (v : Int) (n d : Nat) : (if v < 0 then max (v + (n : Int)) 0 else min v (n : Int)) = ((sIx n d (some v) : Nat) : Int) := by
  show (if v < 0 then max (v + (n : Int)) 0 else min v (n : Int)) = (((if v < 0 then (v + (n : Int)).toNat else min v.toNat n) : Nat) : Int)
  by_cases hv : v < 0
  · simp only [if_pos hv]; omega
  · simp only [if_neg hv]; omega
theorem adjust_gen (lo hi : Option Int) (n : Nat) : Builtin.Slice.sliceAdjust lo hi 1 (n : Int) = (((sIx n 0 lo : Nat) : Int), ((sIx n n hi : Nat) : Int)) := by
  have h1 : ¬ ((1 : Int) < 0) := by omega
  unfold Builtin.Slice.sliceAdjust
  simp only [h1, if_false]
  refine Prod.ext ?_ ?_
  · cases lo with
    | none => rfl
    | some v => exact clip_eq v n 0
  · cases hi with
    | none => rfl
    | some v => exact clip_eq v n n
theorem places_gen (i j : Nat) : Builtin.Slice.slicePlaces (i : Int) (j : Int) 1 = j - i := by
  unfold Builtin.Slice.slicePlaces
  have h1 : (1 : Int) > 0 := by omega
  simp only [h1, if_true, Int.ediv_one]
  split <;> omega
theorem slicePart_ {v : Value} {o : Option Int} {Q : Option Int → Shared → Prop} (p : IsPart v o) (h : Q o s) : wpAny (model prog w) A (Builtin.Slice.slicePartIndex v) Q E s := by
  cases p with
  | none => exact slicePart_none h
  | int i t => exact slicePart_int h
theorem sliceApplied_gen {sl : Addr} {vl vu : Value} {lo hi : Option Int} {n : Nat} {Q : Int × Int × Nat → Shared → Prop} (hs : s.heap.IsSliceOf sl vl vu .none) (pl : IsPart vl lo) (pu : IsPart vu hi)
    (h : Q (((sIx n 0 lo : Nat) : Int), 1, sIx n n hi - sIx n 0 lo) s) : wpAny (model prog w) A (Builtin.Slice.sliceApplied (.ref sl) (pure (n : Int))) Q E s := by
  obtain ⟨os, hos, hcs, hds⟩ := id hs
  unfold Builtin.Slice.sliceApplied Builtin.Slice.sliceFields
  refine wpAny_bind (wpAny_bind (wpAny_field hos hds (x := vl) rfl (wpAny_bind (wpAny_field hos hds (x := vu) rfl (wpAny_bind (wpAny_field hos hds (x := .none) rfl (wpAny_pure ?_)))))))
  refine wpAny_bind (slicePart_none ?_)
  show wpAny _ _ (if ((1 : Int) == 0) = true then _ else _) _ _ s
  rw [if_neg (by decide)]
  refine wpAny_bind (slicePart_ pl (wpAny_bind (slicePart_ pu (wpAny_bind (wpAny_pure ?_)))))
  show wpAny _ _ (match Builtin.Slice.sliceAdjust lo hi 1 (n : Int) with | (lo, hi) => pure (lo, (1 : Int), Builtin.Slice.slicePlaces lo hi 1)) _ _ s
  rw [adjust_gen lo hi n]
  show wpAny _ _ (pure (((sIx n 0 lo : Nat) : Int), (1 : Int), Builtin.Slice.slicePlaces ((sIx n 0 lo : Nat) : Int) ((sIx n n hi : Nat) : Int) 1)) _ _ s
  rw [places_gen]
  exact wpAny_pure h
theorem pick_gen (xs : Array Value) (i k : Nat) : ((List.range k).filterMap fun (m : Nat) => xs[((i : Int) + (m : Int) * 1).toNat]?).toArray = ((xs.toList.drop i).take k).toArray := by
  have e : (fun (m : Nat) => xs[((i : Int) + (m : Int) * 1).toNat]?) = fun m => xs[i + m]? := by
    funext m
    have : ((i : Int) + (m : Int) * 1).toNat = i + m := by omega
    rw [this]
  rw [e]
  have := pick_run xs i k
  rw [List.filterMap_map] at this
  have e2 : ((fun x => xs[x]?) ∘ fun x => i + x) = fun m => xs[i + m]? := rfl
  rw [e2] at this
  rw [this]

theorem getItem_tuple_cut {t sl : Addr} {items : Array Value} {vl vu : Value} {lo hi : Option Int} {Q : Value → Shared → Prop} (ht : IsTup s.heap t items) (hs : s.heap.IsSliceOf sl vl vu .none) (pl : IsPart vl lo) (pu : IsPart vu hi)
    (hw : ¬ (sIx items.size 0 lo = 0 ∧ sIx items.size items.size hi = items.size))
    (h : Q (.ref s.heap.objs.size) { s with heap := s.heap.push { cls := .type "tuple", data := .seq ((items.toList.drop (sIx items.size 0 lo)).take (sIx items.size items.size hi - sIx items.size 0 lo)).toArray } })
    (hsz : items.size ≤ sizeLine) : wpAny (model prog w) A (getItem (.ref t) (.ref sl)) Q E s := by
  have htake : sizeOk (.seq ((items.toList.drop (sIx items.size 0 lo)).take (sIx items.size items.size hi - sIx items.size 0 lo)).toArray) := by
    show ((items.toList.drop (sIx items.size 0 lo)).take (sIx items.size items.size hi - sIx items.size 0 lo)).toArray.size ≤ sizeLine
    rw [List.size_toArray, List.length_take, List.length_drop, Array.length_toList]
    omega
  have hj : sIx items.size items.size hi ≤ items.size := sIx_le _ _ (Nat.le_refl _) hi
  obtain ⟨os, hos, hcs, hds⟩ := id hs
  have hTs : s.TypeIs (.ref sl) "slice" := ⟨os, hos, hcs⟩
  unfold getItem
  try with_reducible refine wpAny_holding ?_
  first | refine wpAny_bind (wpAny_pure ?_) | skip
  refine wpAny_bind (wpAny_sequenceKey ht.typeIs (by decide) ?_)
  refine wpAny_bind (wpAny_callSpecial?_slot (name := Str.ofString "__getitem__") ht.typeIs PyProof.Rows.slot_tuple_getitem
    (wpAny_call_entry PyProof.Rows.slot_tuple_getitem ht.typeIs entry_tuple_getitem ?_ (args_tuple_getitem _ _)))
  show wpAny _ _ (Builtin.Tuple.tupleItemsOf (.ref t) >>= _) _ _ s
  refine wpAny_bind (tupleItemsOf_ ht ?_)
  refine wpAny_bind (wpAny_typeOf hTs ?_)
  rw [if_pos (by decide)]
  refine wpAny_bind (sliceApplied_gen hs pl pu ?_)
  have hno : ¬ ((((sIx items.size 0 lo : Nat) : Int) == 0 && (1 : Int) == 1 && (sIx items.size items.size hi - sIx items.size 0 lo) == items.size) = true) := by
    intro q
    rw [Bool.and_eq_true, Bool.and_eq_true] at q
    have q1 : ((sIx items.size 0 lo : Nat) : Int) = 0 := eq_of_beq q.1.1
    have q2 : sIx items.size items.size hi - sIx items.size 0 lo = items.size := eq_of_beq q.2
    exact hw ⟨by omega, by omega⟩
  show wpAny _ _ (if (((sIx items.size 0 lo : Nat) : Int) == 0 && (1 : Int) == 1 && (sIx items.size items.size hi - sIx items.size 0 lo) == items.size) = true then _ else _) _ _ s
  rw [if_neg hno, pick_gen]
  first
    | exact wpAny_bind (m := Builtin.Tuple.tupleExact _) (wpAny_newObj_type (wpAny_pure ⟨_, rfl, wpAny_pure h⟩) htake)
    | exact wpAny_bind (m := Builtin.Tuple.tupleExact _) (wpAny_newObj_type (wpAny_bind (wpAny_pure (wpAny_pure ⟨_, rfl, wpAny_pure h⟩))) htake)
    | exact wpAny_bind (wpAny_bind (m := Builtin.Tuple.tupleExact _) (wpAny_newObj_type (wpAny_pure (wpAny_pure ⟨_, rfl, wpAny_pure h⟩)) htake))
    | exact wpAny_bind (wpAny_bind (m := Builtin.Tuple.tupleExact _) (wpAny_newObj_type (wpAny_pure ⟨_, rfl, wpAny_pure h⟩) htake))
end
end HT

namespace L2
open PySem PySem.Spec PyProof.Rows

abbrev TO := St → Hp → (Option Int → Hp → Prop) → Prop
/-- a slice's part (left out, or an int) -/
def PO (X : Cx) (e : Option Expr) (t : TO) : Prop :=
  ∀ (pins : List (Addr × Obj)) (s : Shared) (σ : St) (H : Hp) (Q : Option Int → Hp → Prop), Inv X pins σ H s → t σ H Q →
    wpAny (model X.prog X.w) X.A (evalPart e X.env) (fun u s' => ∃ o H', Inv X pins σ H' s' ∧ IsPart u o ∧ Q o H') X.xe s
def tNoPart : TO := fun _ H Q => Q none H
def tPart (t : TE) : TO := fun σ H Q => t σ H fun x H1 => ∃ i, x = .int i ∧ Q (some i) H1

theorem intsAre_of {ns : List Int} : ∀ {us : List Value}, Vals (ns.map V.int) us → IntsAre us ns := by
  induction ns with
  | nil => intro us r; rw [List.map_nil] at r; cases r; exact .nil
  | cons n ns ih =>
    intro us r
    rw [List.map_cons] at r
    cases r with
    | cons r1 r2 =>
      obtain ⟨t, e⟩ := r1
      subst e
      exact .cons n t (ih r2)

section
variable {X : Cx} {e : Expr} {te : TE} {lo hi : Option Expr} {tl th : TO} {pos p2 : Pos}

theorem po_none : PO X none tNoPart := by
  intro pins s σ H Q I h
  rw [evalPart_none]
  exact wpAny_pure ⟨none, H, I, .none, h⟩
theorem po_some (h : PE X e te) : PO X (some e) (tPart te) := by
  intro pins s σ H Q I hw
  rw [evalPart_some]
  refine thn (h pins s σ H _ I hw) fun u s1 ⟨x, H1, I1, r1, q1⟩ => ?_
  obtain ⟨i, rfl, q⟩ := q1
  obtain ⟨t, rfl⟩ := r1
  exact ⟨some i, H1, I1, .int i t, q⟩

/-- what a slice of a value is, by values: the slice object stands at sl -/
def SlR (X : Cx) (r : V → Option Int → Option Int → Hp → VK → Prop) : Prop :=
  ∀ (pins : List (Addr × Obj)) (s : Shared) (σ : St) (H : Hp) (x : V) (v vl vu : Value) (lo hi : Option Int) (sl : Addr) (Q : VK), Inv X pins σ H s → RelV x v → s.heap.IsSliceOf sl vl vu .none → IsPart vl lo → IsPart vu hi → r x lo hi H Q →
    ∃ T id, typeLookup (.type T) "__getitem__" = pure (some (.builtin id)) ∧ s.TypeIs v T ∧ wpAny (model X.prog X.w) X.A (getItem v (.ref sl)) (EP X pins σ Q) X.xe s
theorem SlR.or {r r' : V → Option Int → Option Int → Hp → VK → Prop} (h : SlR X r) (h' : SlR X r') : SlR X (fun x lo hi H Q => r x lo hi H Q ∨ r' x lo hi H Q) := by
  intro pins s σ H x v vl vu lo hi sl Q I rx hs pl pu q
  rcases q with q | q
  · exact h pins s σ H x v vl vu lo hi sl Q I rx hs pl pu q
  · exact h' pins s σ H x v vl vu lo hi sl Q I rx hs pl pu q
def tSl (r : V → Option Int → Option Int → Hp → VK → Prop) (te : TE) (tl th : TO) : TE := fun σ H Q => te σ H fun x H1 => tl σ H1 fun l H2 => th σ H2 fun u H3 => r x l u H3 Q
/-- a[lo:hi], any a -/
theorem pe_slice {r : V → Option Int → Option Int → Hp → VK → Prop} (hr : SlR X r) (he : PE X e te) (hl : PO X lo tl) (hu : PO X hi th) : PE X (.Subscript e (.Slice lo hi none p2) pos) (tSl r te tl th) := by
  intro pins s σ H Q I h
  refine Subscript_ (thn (he pins s σ H _ I h) fun v s1 ⟨x, H1, I1, r1, q1⟩ => ?_)
  refine wpAny_Slice (thn (hl pins s1 σ H1 _ I1 q1) fun vl s2 ⟨l, H2, I2, pl, q2⟩ => thn (hu pins s2 σ H2 _ I2 q2) fun vu s3 ⟨u, H3, I3, pu, q3⟩ => ?_)
  rw [evalPart_none]
  refine wpAny_pure ?_
  have I4 : Inv X pins σ H3 { s3 with heap := s3.heap.push { cls := .type "slice", data := .fields #[vl, vu, .none] } } := I3.kept (t' := s3.toks) fun b ob q => Heap.get?_push_of_some _ q
  obtain ⟨T, id, hT, ht, hg⟩ := hr pins { s3 with heap := s3.heap.push { cls := .type "slice", data := .fields #[vl, vu, .none] } } σ H3 x v vl vu l u s3.heap.objs.size Q I4 r1 (Heap.IsSliceOf.new ..) pl pu q3
  show wpAny (model X.prog X.w) X.A (subscriptTail e (.Slice lo hi none p2) v (.ref s3.heap.objs.size)) (EP X pins σ Q) X.xe { s3 with heap := s3.heap.push { cls := .type "slice", data := .fields #[vl, vu, .none] } }
  exact tail_any (ops := [.ref s3.heap.objs.size, v]) ht hT hg (by with_unfolding_all rfl)

/-- the items of xs[lo:hi] -/
def cutV (xs : List V) (lo hi : Option Int) : List V := (xs.drop (HT.sIx xs.length 0 lo)).take (HT.sIx xs.length xs.length hi - HT.sIx xs.length 0 lo)
theorem cutV_length (xs : List V) (lo hi : Option Int) : (cutV xs lo hi).length ≤ xs.length := by
  unfold cutV
  rw [List.length_take, List.length_drop]
  omega
/-- t[lo:hi], not the whole of it (the whole would be t itself) -/
def rSlT (K : PySem.W.Frag) : V → Option Int → Option Int → Hp → VK → Prop := fun x lo hi H Q => ∃ a xs, x = .ref a ∧ SqT K H a xs ∧
  ¬ (HT.sIx xs.length 0 lo = 0 ∧ HT.sIx xs.length xs.length hi = xs.length) ∧ ∀ p, H p = none → Q (.ref p) (upd H p (.tup (cutV xs lo hi)))
theorem sl_tup : SlR X (rSlT X.K) := by
  intro pins s σ H x v vl vu lo hi sl Q I rx hs pl pu h
  obtain ⟨a, xs, rfl, hx, hw, q⟩ := h
  cases rx
  obtain ⟨its, r, ht, hz⟩ := I.tuple hx
  have hlen : its.toArray.size = xs.length := by rw [List.size_toArray]; exact r.length.symm
  refine ⟨"tuple", _, PyProof.Rows.slot_tuple_getitem.lookup, ht.typeIs, ?_⟩
  refine HT.getItem_tuple_cut ht hs pl pu (by rw [hlen]; exact hw) ?_ (by rw [hlen]; exact hz)
  rw [hlen]
  refine ⟨.ref s.heap.objs.size, _, I.laid (t' := s.toks) (o := .tup (cutV xs lo hi)) (fun b ob q => Heap.get?_push_of_some _ q) (Nat.le_refl _) ?_, rfl, q _ (I.hok.fresh (Nat.le_refl _))⟩
  exact ⟨Nat.le_trans (cutV_length xs lo hi) hz, _, (r.drop (HT.sIx xs.length 0 lo)).take (HT.sIx xs.length xs.length hi - HT.sIx xs.length 0 lo), IsTup.new _ _⟩

/-- t + u, t not empty: u empty gives t itself -/
def rCatT (K : PySem.W.Frag) : R2 := fun x y H Q => ∃ a b xs ys, x = .ref a ∧ y = .ref b ∧ SqT K H a xs ∧ SqT K H b ys ∧ xs ≠ [] ∧ xs.length + ys.length ≤ sizeLine ∧
  (ys = [] → Q (.ref a) H) ∧ (ys ≠ [] → ∀ p, H p = none → Q (.ref p) (upd H p (.tup (xs ++ ys))))
theorem Vals.nil_iff {xs : List V} {us : List Value} (r : Vals xs us) : us = [] ↔ xs = [] := by
  cases r with
  | nil => simp
  | cons _ _ => simp
theorem op_catT : OpR X (binaryOp .Add) (rCatT X.K) := by
  intro pins s σ H x y v u Q I rx ry h
  obtain ⟨a, b, xs, ys, rfl, rfl, ha, hb, hx, hz, q1, q2⟩ := h
  cases rx
  cases ry
  obtain ⟨its, r1, p1, _⟩ := I.tuple ha
  obtain ⟨its2, r2, p2, _⟩ := I.tuple hb
  refine HT.cat_tup p1 p2 (fun z => hx (r1.nil_iff.mp z)) (fun z => ⟨.ref a, H, I, rfl, q1 (r2.nil_iff.mp z)⟩) (fun z => ?_) (by rw [← r1.length, ← r2.length]; exact hz)
  refine ⟨.ref s.heap.objs.size, _, I.laid (t' := s.toks) (o := .tup (xs ++ ys)) (fun b ob q => Heap.get?_push_of_some _ q) (Nat.le_refl _) ?_, rfl, q2 (fun w => z (r2.nil_iff.mpr w)) _ (I.hok.fresh (Nat.le_refl _))⟩
  exact ⟨by rw [List.length_append]; exact hz, _, r1.append r2, IsTup.new _ _⟩
end
end L2

namespace L2
open PySem PySem.Spec PyProof.Rows

/-- the place that an index of any sign means -/
def ixN (n : Nat) (i : Int) : Option Nat := if 0 ≤ i then (if i < n then some i.toNat else none) else if -(n : Int) ≤ i then some (i + n).toNat else none
def atI {α : Type} (xs : List α) (i : Int) : Option α := (ixN xs.length i).bind fun j => xs[j]?
theorem ixN_seq {n : Nat} {i : Int} {j : Nat} (h : ixN n i = some j) : seqIndex? i n = some j ∧ j < n ∧ -(n : Int) ≤ i ∧ i < n := by
  unfold ixN at h
  by_cases h0 : 0 ≤ i
  · rw [if_pos h0] at h
    by_cases h1 : i < n
    · rw [if_pos h1] at h
      have e : i.toNat = j := Option.some.inj h
      exact ⟨by rw [seqIndex_of h0 h1, e], by omega, by omega, h1⟩
    · rw [if_neg h1] at h; cases h
  · rw [if_neg h0] at h
    by_cases h1 : -(n : Int) ≤ i
    · rw [if_pos h1] at h
      have e : (i + n).toNat = j := Option.some.inj h
      exact ⟨by rw [seqIndex_neg (by omega) h1, e], by omega, h1, by omega⟩
    · rw [if_neg h1] at h; cases h
theorem atI_get {α : Type} {xs : List α} {i : Int} {v : α} (h : atI xs i = some v) : ∃ j, seqIndex? i xs.length = some j ∧ xs[j]? = some v ∧ j < xs.length ∧ -(xs.length : Int) ≤ i ∧ i < xs.length := by
  unfold atI at h
  cases e : ixN xs.length i with
  | none => rw [e] at h; cases h
  | some j =>
    rw [e] at h
    obtain ⟨h1, h2, h3, h4⟩ := ixN_seq e
    exact ⟨j, h1, h, h2, h3, h4⟩
theorem atI_nat {α : Type} {xs : List α} {j : Nat} {v : α} (h : xs[j]? = some v) : atI xs (j : Int) = some v := by
  have hj : j < xs.length := (List.getElem?_eq_some_iff.mp h).1
  have e : ixN xs.length (j : Int) = some j := by
    unfold ixN
    rw [if_pos (by omega), if_pos (by omega)]; simp
  unfold atI; rw [e]; exact h
theorem atI_last {α : Type} (xs : List α) (v : α) : atI (xs ++ [v]) (-1) = some v := by
  have hl : (xs ++ [v]).length = xs.length + 1 := by simp
  have e : ixN (xs ++ [v]).length (-1) = some xs.length := by
    unfold ixN
    rw [hl, if_neg (by decide), if_pos (by omega)]
    congr 1
    omega
  unfold atI
  rw [e]
  show (xs ++ [v])[xs.length]? = some v
  simp

/-- what stands as an index of a plain subscript -/
def PlainIx (b : Expr) : Prop := ∀ o i, subscripted b false o i = operate [o, i] (getItem o i)
/-- a subscript by values -/
def IxR (X : Cx) (r : R2) : Prop :=
  ∀ (value slice : Expr) (pins : List (Addr × Obj)) (s : Shared) (σ : St) (H : Hp) (x y : V) (v u : Value) (Q : VK), Inv X pins σ H s → RelV x v → RelV y u → r x y H Q →
    subscripted slice false v u = operate [v, u] (getItem v u) → wpAny (model X.prog X.w) X.A (subscriptTail value slice v u) (EP X pins σ Q) X.xe s
/-- a call of a builtin's method by values: the receiver, the arguments -/
def MtR (X : Cx) (id : String) (r : V → List V → Hp → VK → Prop) : Prop :=
  ∀ (pins : List (Addr × Obj)) (s : Shared) (σ : St) (H : Hp) (x : V) (xs : List V) (v : Value) (us : List Value) (Q : VK), Inv X pins σ H s → RelV x v → Vals xs us → r x xs H Q →
    wpAny (model X.prog X.w) X.A (call (.builtin id) (v :: us)) (EP X pins σ Q) X.xe s
section
variable {X : Cx} {a b : Expr} {ta tb : TE} {pos : Pos}
theorem IxR.or {r r' : R2} (h : IxR X r) (h' : IxR X r') : IxR X (fun x y H Q => r x y H Q ∨ r' x y H Q) := by
  intro value slice pins s σ H x y v u Q I rx ry q hs
  rcases q with q | q
  · exact h value slice pins s σ H x y v u Q I rx ry q hs
  · exact h' value slice pins s σ H x y v u Q I rx ry q hs
theorem MtR.or {id : String} {r r' : V → List V → Hp → VK → Prop} (h : MtR X id r) (h' : MtR X id r') : MtR X id (fun x xs H Q => r x xs H Q ∨ r' x xs H Q) := by
  intro pins s σ H x xs v us Q I rx rs q
  rcases q with q | q
  · exact h pins s σ H x xs v us Q I rx rs q
  · exact h' pins s σ H x xs v us Q I rx rs q
/-- a[b] -/
theorem pe_ix {r : R2} (hr : IxR X r) (ha : PE X a ta) (hb : PE X b tb) (hs : PlainIx b) : PE X (.Subscript a b pos) (tOp r ta tb) := by
  intro pins s σ H Q I h
  exact Subscript_ (binT ha hb I h fun v u s2 x y H2 I2 rx ry q => hr a b pins s2 σ H2 x y v u Q I2 rx ry q (hs _ _))

def rIxL (K : PySem.W.Frag) : R2 := fun x y H Q => ∃ p xs i v, x = .ref p ∧ y = .int i ∧ SqL K H p xs ∧ atI xs i = some v ∧ Q v H
def rIxT (K : PySem.W.Frag) : R2 := fun x y H Q => ∃ p xs i v, x = .ref p ∧ y = .int i ∧ SqT K H p xs ∧ atI xs i = some v ∧ Q v H
theorem ix_list : IxR X (rIxL X.K) := by
  intro value slice pins s σ H x y v u Q I rx ry h hs
  obtain ⟨p, xs, i, z, rfl, rfl, hq, he, q⟩ := h
  cases rx
  obtain ⟨t, rfl⟩ := ry
  obtain ⟨its, r, pl, hz⟩ := I.list hq
  obtain ⟨j, h1, h2, h3, h4, h5⟩ := atI_get he
  obtain ⟨w, ew, rw'⟩ := r.get h2
  have hl := r.length
  have hn := line63
  have fin : EP X pins σ Q w s := ⟨z, H, I, rw', q⟩
  by_cases h0 : 0 ≤ i
  · have hj : i.toNat = j := by
      rw [seqIndex_of h0 h5] at h1
      exact Option.some.inj h1
    exact item_listR pl.isList h0 (by omega) (by rw [hj]; simpa using ew) fin hs
  · have hj : (i + (its.toArray.size : Int)).toNat = j := by
      rw [seqIndex_neg (by omega) h4] at h1
      rw [List.size_toArray, ← hl]
      exact Option.some.inj h1
    exact subscriptTail_builtinR (x := w) pl.isList.typeIs slot_list_getitem.lookup
      (wpAny_getItem_list_neg (Q := fun r s' => r = w ∧ EP X pins σ Q r s') pl.isList (by omega) (by rw [List.size_toArray] <;> omega) (by omega) (by rw [hj]; simpa using ew) ⟨rfl, fin⟩) hs
theorem ix_tup : IxR X (rIxT X.K) := by
  intro value slice pins s σ H x y v u Q I rx ry h hs
  obtain ⟨p, xs, i, z, rfl, rfl, hq, he, q⟩ := h
  cases rx
  obtain ⟨t, rfl⟩ := ry
  obtain ⟨its, r, pl, hz⟩ := I.tuple hq
  obtain ⟨j, h1, h2, h3, h4, h5⟩ := atI_get he
  obtain ⟨w, ew, rw'⟩ := r.get h2
  have hl := r.length
  have hn := line63
  have fin : EP X pins σ Q w s := ⟨z, H, I, rw', q⟩
  exact subscriptTail_builtinR (x := w) pl.typeIs slot_tuple_getitem.lookup
    (getItem_tuple (j := j) (Q := fun r s' => r = w ∧ EP X pins σ Q r s') pl (by omega) (by omega) (by rw [List.size_toArray, ← hl]; exact h1) (by simpa using ew) ⟨rfl, fin⟩) hs
theorem Inv.lst {pins : List (Addr × Obj)} {σ : St} {H : Hp} {s : Shared} {p : Addr} {xs : List V} (I : Inv X pins σ H s) (h : H p = some (.lst xs)) :
    ∃ (its : List Value) (n : Nat), Vals xs its ∧ s.heap.get? p = some { cls := .type "list", data := .seq its.toArray n } ∧ xs.length ≤ sizeLine := by
  obtain ⟨z, its, n, r, e⟩ := I.hok p _ h
  exact ⟨its, n, r, e, z⟩
theorem slice_bounds (lo hi : Option Int) (n : Nat) : (sliceBounds lo hi none n).1 = ((HT.sIx n 0 lo : Nat) : Int) ∧ (sliceBounds lo hi none n).2.1 = ((HT.sIx n n hi : Nat) : Int) ∧ (sliceBounds lo hi none n).2.2 = 1 := by
  refine ⟨?_, ?_, rfl⟩
  · cases lo with
    | none => simp [sliceBounds, HT.sIx]
    | some i =>
      simp only [sliceBounds, HT.sIx, Option.getD_none, show (1 : Int) > 0 by decide, if_true]
      by_cases h : i < 0
      · simp only [h, if_true] <;> omega
      · simp only [h, if_false] <;> omega
  · cases hi with
    | none => simp [sliceBounds, HT.sIx]
    | some i =>
      simp only [sliceBounds, HT.sIx, Option.getD_none, show (1 : Int) > 0 by decide, if_true]
      by_cases h : i < 0
      · simp only [h, if_true] <;> omega
      · simp only [h, if_false] <;> omega
theorem slicePick_cut (its : List Value) (lo hi : Option Int) : slicePick its.toArray lo hi none = ((its.drop (HT.sIx its.length 0 lo)).take (HT.sIx its.length its.length hi - HT.sIx its.length 0 lo)).toArray := by
  obtain ⟨h1, h2, h3⟩ := slice_bounds lo hi its.toArray.size
  unfold slicePick
  rw [h1, h2, h3]
  simp only [sliceRange_one, pick_run, List.size_toArray] <;> rfl
/-- xs[lo:hi] of a list: a new list -/
def rSlL (K : PySem.W.Frag) : V → Option Int → Option Int → Hp → VK → Prop := fun x lo hi H Q => ∃ a xs, x = .ref a ∧ SqL K H a xs ∧ ∀ p, H p = none → Q (.ref p) (upd H p (.lst (cutV xs lo hi)))
theorem sl_list : SlR X (rSlL X.K) := by
  intro pins s σ H x v vl vu lo hi sl Q I rx hs pl pu h
  obtain ⟨a, xs, rfl, hx, q⟩ := h
  cases rx
  obtain ⟨its, r, ht, hz⟩ := I.list hx
  have hlen := r.length
  refine ⟨"list", _, slot_list_getitem.lookup, ht.isList.typeIs, ?_⟩
  refine wpAny_getItem_list_slice ht.isList hs pl pu .none (by simp) ?_ (by rw [List.size_toArray] <;> omega)
  rw [slicePick_cut, ← hlen]
  refine ⟨.ref s.heap.objs.size, _, I.laid (t' := s.toks) (o := .lst (cutV xs lo hi)) (fun b ob q => Heap.get?_push_of_some _ q) (Nat.le_refl _) ?_, rfl, q _ (I.hok.fresh (Nat.le_refl _))⟩
  exact ⟨Nat.le_trans (cutV_length xs lo hi) hz, _, 0, (r.drop (HT.sIx xs.length 0 lo)).take (HT.sIx xs.length xs.length hi - HT.sIx xs.length 0 lo), Heap.get?_push_size _ rfl⟩

theorem call_len_seq : CallR X (.builtin "len") (fun xs H Q => ∃ p ys, xs = [.ref p] ∧ (SqL X.K H p ys ∨ SqT X.K H p ys) ∧ Q (.int ys.length) H) := by
  intro pins s σ H xs us Q I r h
  obtain ⟨p, ys, rfl, hq, q⟩ := h
  obtain ⟨u, rfl, rx⟩ := vals1 r
  cases rx
  have hn := line63
  rcases hq with hq | hq
  · obtain ⟨its, r', pl, hz⟩ := I.list hq
    have hlen := r'.length
    exact Calls.call_len_list pl.isList (by simp only [List.size_toArray] <;> omega) ⟨.int ys.length, H, I.tok _, ⟨s.toks + 1, by rw [List.size_toArray, hlen]⟩, q⟩
  · obtain ⟨its, r', pl, hz⟩ := I.tuple hq
    have hlen := r'.length
    exact len_tuple pl (by simp only [List.size_toArray] <;> omega) ⟨.int ys.length, H, I.tok _, ⟨s.toks + 1, by rw [List.size_toArray, hlen]⟩, q⟩
theorem CallR.or {f : Value} {r r' : List V → Hp → VK → Prop} (h : CallR X f r) (h' : CallR X f r') : CallR X f (fun xs H Q => r xs H Q ∨ r' xs H Q) := by
  intro pins s σ H xs us Q I rs q
  rcases q with q | q
  · exact h pins s σ H xs us Q I rs q
  · exact h' pins s σ H xs us Q I rs q
theorem call_list_of : CallR X (.type "list") (fun xs H Q => ∃ p ys, xs = [.ref p] ∧ (SqL X.K H p ys ∨ SqT X.K H p ys) ∧ ∀ l, H l = none → Q (.ref l) (upd H l (.lst ys))) := by
  intro pins s σ H xs us Q I r h
  obtain ⟨p, ys, rfl, hq, q⟩ := h
  obtain ⟨u, rfl, rx⟩ := vals1 r
  cases rx
  have fin : ∀ (its : List Value), Vals ys its → ys.length ≤ sizeLine → ∀ (h' : Heap) (c' : Nat), (∀ b o', s.heap.get? b = some o' → h'.get? b = some o') →
      h'.get? s.heap.objs.size = some { cls := .type "list", dict := none, data := .seq its.toArray c', slots := #[] } → EP X pins σ Q (.ref s.heap.objs.size) { s with heap := h' } := fun its r' hz h' c' kp e =>
    ⟨.ref s.heap.objs.size, _, I.laid (t' := s.toks) kp (Nat.le_refl _) (show ObjOk X.prog X.w _ h' _ (.lst ys) from ⟨hz, its, c', r', e⟩), rfl, q _ (I.hok.fresh (Nat.le_refl _))⟩
  rcases hq with hq | hq
  · obtain ⟨its, r', pl, hz⟩ := I.list hq
    have hlen := r'.length
    obtain ⟨o, ho, hc, n, hd⟩ := pl.isList
    exact call_list_seq p (.inl rfl) ho hc hd (fun h' c' kp e => fin its r' hz h' c' kp e) (by simp only [List.size_toArray] <;> omega)
  · obtain ⟨its, r', pl, hz⟩ := I.tuple hq
    have hlen := r'.length
    obtain ⟨o, ho, hc, n, hd⟩ := pl
    exact call_list_seq p (.inr rfl) ho hc hd (fun h' c' kp e => fin its r' hz h' c' kp e) (by simp only [List.size_toArray] <;> omega)
theorem call_tuple_of : CallR X (.type "tuple") (fun xs H Q => ∃ p ys, xs = [.ref p] ∧ ((SqL X.K H p ys ∧ ∀ l, H l = none → Q (.ref l) (upd H l (.tup ys))) ∨ (SqT X.K H p ys ∧ Q (.ref p) H))) := by
  intro pins s σ H xs us Q I r h
  obtain ⟨p, ys, rfl, h⟩ := h
  obtain ⟨u, rfl, rx⟩ := vals1 r
  cases rx
  rcases h with ⟨hq, q⟩ | ⟨hq, q⟩
  · obtain ⟨its, r', pl, hz⟩ := I.list hq
    have hlen := r'.length
    refine call_tuple_list pl.isList (fun h' kp => ?_) (by simp only [List.size_toArray] <;> omega)
    have I1 : Inv X pins σ H { s with heap := h' } := I.kept (t' := s.toks) kp
    have I2 : Inv X pins σ (upd H h'.objs.size (.tup ys)) { s with heap := h'.push { cls := .type "tuple", data := .seq its.toArray } } :=
      I1.laid (t' := s.toks) (fun b o e => Heap.get?_push_of_some _ e) (Nat.le_refl _) (show ObjOk X.prog X.w _ _ _ (.tup ys) from ⟨hz, its, r', IsTup.new _ _⟩)
    exact ⟨.ref h'.objs.size, _, I2, rfl, q _ (I1.hok.fresh (Nat.le_refl _))⟩
  · obtain ⟨its, r', pl, hz⟩ := I.tuple hq
    exact call_tuple_same pl ⟨.ref p, H, I, rfl, q⟩

/-- the value is of that builtin type -/
def tyV (K : PySem.W.Frag) (T : String) (x : V) (H : Hp) : Prop := match x with
  | .str _ => T = "str"
  | .int _ => T = "int"
  | .ref p => (T = "list" ∧ ∃ xs, SqL K H p xs) ∨ (T = "tuple" ∧ ∃ o, K.lookup p = some o ∧ o.cls = .type "tuple" ∧ o.dict = none) ∨
      (T = "dict" ∧ ((∃ kvs, H p = some (.dK kvs)) ∨ ∃ kvs, H p = some (.dT kvs))) ∨ (T = "set" ∧ ∃ S n, H p = some (.set S n))
  | _ => False
theorem tyV_is {pins : List (Addr × Obj)} {σ : St} {H : Hp} {s : Shared} {T : String} {x : V} {v : Value} (I : Inv X pins σ H s) (r : RelV x v) (ty : tyV X.K T x H) :
    s.TypeIs v T ∧ ∀ a, v = .ref a → ∃ ob, s.heap.get? a = some ob ∧ ob.dict = none := by
  cases x with
  | str z =>
    obtain ⟨t, rfl⟩ := r
    cases (show T = "str" from ty)
    exact ⟨typeIs_str s z t, fun _ e => nomatch e⟩
  | int i =>
    obtain ⟨t, rfl⟩ := r
    cases (show T = "int" from ty)
    exact ⟨typeIs_int s i t, fun _ e => nomatch e⟩
  | ref p =>
    cases r
    rcases ty with ⟨rfl, xs, hq⟩ | ⟨rfl, o, hk, hc, hd⟩ | ⟨rfl, hk⟩ | ⟨rfl, S, n, hk⟩
    · obtain ⟨its, _, pl, _⟩ := I.list hq
      refine ⟨pl.isList.typeIs, fun a e => ?_⟩
      cases e
      obtain ⟨o, n, e, c, hd, _⟩ := pl
      exact ⟨o, e, hd⟩
    · refine ⟨⟨o, I.kIn p o hk, hc⟩, fun a e => ?_⟩
      cases e
      exact ⟨o, I.kIn _ o hk, hd⟩
    · have z : ∃ o, s.heap.get? p = some o ∧ o.ExactDict := by
        rcases hk with ⟨kvs, hk⟩ | ⟨kvs, hk⟩
        · obtain ⟨_, _, _, _, o, _, _, e, ex, _⟩ := I.hok p _ hk
          exact ⟨o, e, ex⟩
        · obtain ⟨_, _, _, _, o, _, _, e, ex, _⟩ := I.hok p _ hk
          exact ⟨o, e, ex⟩
      obtain ⟨o, e, ex⟩ := z
      refine ⟨⟨o, e, ex.1⟩, fun a e2 => ?_⟩
      cases e2
      exact ⟨o, e, ex.2.1⟩
    · obtain ⟨o, _, _, _, e, ex, _⟩ := I.hok p _ hk
      refine ⟨⟨o, e, ex.1⟩, fun a e2 => ?_⟩
      cases e2
      exact ⟨o, e, ex.2.1⟩
  | _ => exact False.elim ty
def tBM0 (K : PySem.W.Frag) (T : String) (r : V → List V → Hp → VK → Prop) (to : TE) : TE := fun σ H Q => to σ H fun x H1 => tyV K T x H1 ∧ r x [] H1 Q
def tBM (K : PySem.W.Frag) (T : String) (r : V → List V → Hp → VK → Prop) (to : TE) (t : TA) : TE := fun σ H Q => to σ H fun x H1 => tyV K T x H1 ∧ t σ H1 fun xs H2 => r x xs H2 Q
variable {o e : Expr} {es : List Expr} {to : TE} {t : TA} {name : Str} {apos cpos : Pos} {T id : String} {r : V → List V → Hp → VK → Prop}
theorem pe_bm0 (pa : PlainAttrs T) (slot : Slot T name id) (hty : typeOf (.builtin id) = pure (.type "method_descriptor")) (hm : MtR X id r) (ho : PE X o to)
    (hbase : attributeBase o name X.env (eval o X.env) = eval o X.env := by rfl) (hline : (apos.endLine == cpos.line) = true := by rfl) : PE X (.Call (.Attribute o name apos) [] [] cpos) (tBM0 X.K T r to) := by
  intro pins s σ H Q I h
  refine wpAny_Call_method0_late hbase hline (thn (ho pins s σ H _ I h) fun v s1 ⟨x, H1, I1, r1, ty, q1⟩ => ?_)
  obtain ⟨h1, h2⟩ := tyV_is I1 r1 ty
  exact ⟨T, id, pa, slot, hty, h1, h2, Calls.callWith_builtin rfl (PySem.evalArgs_none (hm pins s1 σ H1 x [] v [] Q I1 r1 .nil q1))⟩
theorem pe_bm (pa : PlainAttrs T) (slot : Slot T name id) (hty : typeOf (.builtin id) = pure (.type "method_descriptor")) (hm : MtR X id r) (ho : PE X o to) (ha : PA X (e :: es) t)
    (hbase : attributeBase o name X.env (eval o X.env) = eval o X.env := by rfl)
    (hfew : ((backTo cpos (starEach (e :: es) X.env)).all (fun x => !x.1) && (backToKw cpos (keywordEach [] X.env)).all (fun x => x.1.isSome)
      && decide ((e :: es).length + ([] : List Keyword).length + (if ([] : List Keyword).isEmpty then 0 else 1) < 30)) = true := by rfl)
    (hline : (apos.endLine == cpos.line) = true := by rfl) (hs : starEach (e :: es) X.env = (false, eval e X.env) :: starEach es X.env := by rfl) (hplain : (backTo cpos (starEach es X.env)).any (·.1) = false := by rfl) :
    PE X (.Call (.Attribute o name apos) (e :: es) [] cpos) (tBM X.K T r to t) := by
  intro pins s σ H Q I h
  refine wpAny_Call_method_late hbase hfew hline rfl (thn (ho pins s σ H _ I h) fun v s1 ⟨x, H1, I1, r1, ty, q1⟩ => ?_)
  obtain ⟨h1, h2⟩ := tyV_is I1 r1 ty
  refine ⟨T, id, pa, slot, hty, h1, h2, ?_⟩
  have hA := ha cpos pins s1 σ H1 _ I1 q1
  rw [hs] at hA ⊢
  refine Calls.callWith_builtin (by show (false || (backTo cpos (starEach es X.env)).any (·.1)) = false; rw [hplain] <;> rfl) (Calls.evalArgs_plain ?_)
  exact thn hA fun us s2 ⟨vs, H2, I2, r2, q2⟩ => hm pins s2 σ H2 x vs v us Q I2 r1 r2 q2
end
end L2

namespace L2
open PySem PySem.Spec PyProof.Rows

def MtM (X : Cx) (id : String) (r : V → List V → Hp → VK → Prop) : Prop :=
  ∀ (pins : List (Addr × Obj)) (s : Shared) (σ : St) (H : Hp) (x : V) (xs : List V) (v : Value) (us : List Value) (Q : VK), Inv X pins σ H s → RelV x v → Vals xs us → r x xs H Q →
    wpAny (model X.prog X.w) X.A (call (.builtin id) (v :: us)) (EP X pins σ Q) X.xe s

theorem Vals.one : ∀ {x : V} {us : List Value}, Vals [x] us → ∃ u, us = [u] ∧ RelV x u
  | _, _, .cons r .nil => ⟨_, rfl, r⟩
theorem Vals.two : ∀ {x y : V} {us : List Value}, Vals [x, y] us → ∃ u v, us = [u, v] ∧ RelV x u ∧ RelV y v
  | _, _, _, .cons r (.cons q .nil) => ⟨_, _, rfl, r, q⟩
theorem Vals.zero : ∀ {us : List Value}, Vals [] us → us = []
  | _, .nil => rfl
theorem Vals.dropLast {xs : List V} {us : List Value} (h : Vals xs us) : Vals xs.dropLast us.dropLast := by
  induction h with
  | nil => exact .nil
  | cons r t ih =>
    cases t with
    | nil => exact .nil
    | cons q t' => exact .cons r ih
theorem Vals.eraseIdx : ∀ {xs : List V} {us : List Value} (i : Nat), Vals xs us → Vals (xs.eraseIdx i) (us.eraseIdx i)
  | _, _, _, .nil => .nil
  | _, _, 0, .cons _ t => t
  | _, _, i + 1, .cons r t => .cons r (Vals.eraseIdx i t)
theorem Vals.reverse {xs : List V} {us : List Value} (h : Vals xs us) : Vals xs.reverse us.reverse := by
  induction h with
  | nil => exact .nil
  | cons r t ih => rw [List.reverse_cons, List.reverse_cons]; exact Vals.append ih (.cons r .nil)
theorem Vals.rep {xs : List V} {us : List Value} (h : Vals xs us) : ∀ k : Nat, Vals (List.replicate k xs).flatten (List.replicate k us).flatten
  | 0 => .nil
  | k + 1 => by
    rw [List.replicate_succ, List.replicate_succ, List.flatten_cons, List.flatten_cons]
    exact Vals.append h (Vals.rep h k)
theorem erase_last {α : Type} (l : List α) : l.eraseIdx (l.length - 1) = l.dropLast := by
  induction l with
  | nil => rfl
  | cons a r ih =>
    cases r with
    | nil => rfl
    | cons b r =>
      have e : (a :: b :: r).length - 1 = ((b :: r).length - 1) + 1 := by
        have h1 : (a :: b :: r).length = r.length + 2 := rfl
        have h2 : (b :: r).length = r.length + 1 := rfl
        omega
      rw [e, List.eraseIdx_cons_succ, ih]
      all_goals rfl
theorem foldl_rep (its : List Value) : ∀ (k : Nat) (acc : List Value),
    List.foldl (fun x1 x2 => x1 ++ x2) acc.toArray (List.replicate k its.toArray) = (acc ++ (List.replicate k its).flatten).toArray
  | 0, acc => by simp
  | k + 1, acc => by
    have e : acc.toArray ++ its.toArray = (acc ++ its).toArray := by simp
    have e2 : (acc ++ its) ++ (List.replicate k its).flatten = acc ++ (List.replicate (k + 1) its).flatten := by
      rw [List.replicate_succ, List.flatten_cons, List.append_assoc]
    rw [← e2, ← foldl_rep its k (acc ++ its), ← e, List.replicate_succ, List.foldl_cons]

section
variable {X : Cx} {pins : List (Addr × Obj)} {σ : St} {H : Hp} {s : Shared} {l b : Addr} {xs ys zs : List V}

theorem Inv.lset {its its' : List Value} {n : Nat} {f : Array Value → Array Value} {t' : Nat} (I : Inv X pins σ H s) (hH : H l = some (.lst xs))
    (e : s.heap.get? l = some { cls := .type "list", data := .seq its.toArray n }) (hf : f its.toArray = its'.toArray) (hv : Vals ys its') (hz : ys.length ≤ sizeLine) :
    Inv X pins σ (upd H l (.lst ys)) { s with heap := s.heap.update l (Obj.mapSeq f), toks := t' } := by
  have q := PySem.IsL.update e f
  rw [hf] at q
  refine I.write (x := l) (e := l) (by rw [hH]; exact trivial) (.inl rfl) (fun b' u hb hu => (Heap.get?_update_other s.heap (Obj.mapSeq f) (Ne.symm hb)).trans hu) ⟨_, q⟩ ?_
  exact ⟨hz, its', _, hv, q⟩
theorem Inv.lnew {its : List Value} {t' : Nat} (I : Inv X pins σ H s) (hv : Vals ys its) (hz : ys.length ≤ sizeLine) :
    Inv X pins σ (upd H s.heap.objs.size (.lst ys)) { s with heap := s.heap.push { cls := .type "list", data := .seq its.toArray }, toks := t' } :=
  I.laid (fun _ _ q => Heap.get?_push_of_some _ q) (Nat.le_refl _) ⟨hz, its, 0, hv, Heap.get?_push_size _ rfl⟩
theorem Inv.fresh (I : Inv X pins σ H s) : H s.heap.objs.size = none := I.hok.fresh (Nat.le_refl _)
theorem Inv.lstM (I : Inv X pins σ H s) (hH : H l = some (.lst xs)) : xs.length ≤ sizeLine ∧ ∃ (its : List Value) (n : Nat), Vals xs its ∧ xs.length = its.length ∧ s.heap.get? l = some { cls := .type "list", data := .seq its.toArray n } := by
  obtain ⟨z, its, n, r, e⟩ := I.hok l _ hH
  exact ⟨z, its, n, r, r.length, e⟩

theorem notLongL {n : Nat} (h : n ≤ sizeLine) : Builtin.List.listTooLong n = false := by
  unfold Builtin.List.listTooLong
  exact decide_eq_false (by omega)
end

section
variable {X : Cx}

def rAppend : V → List V → Hp → VK → Prop := fun x vs H Q => ∃ l xs y, x = .ref l ∧ vs = [y] ∧ H l = some (.lst xs) ∧ xs.length < sizeLine ∧ Q .non (upd H l (.lst (xs ++ [y])))
theorem mt_append : MtM X "list.append" rAppend := by
  intro pins s σ H x vs v us Q I rx rv h
  obtain ⟨l, xs, y, rfl, rfl, hH, hz, q⟩ := h
  cases rx
  obtain ⟨u, rfl, ru⟩ := rv.one
  obtain ⟨z, its, n, r, hl, e⟩ := I.lstM hH
  refine call_meets F.slot_list_append ⟨_, e, rfl⟩ F.entry_list_append (F.args_list_append_2 _ _) (PySem.list_append l its.toArray n u (by rw [List.size_toArray]; omega)) ⟨e, ?_⟩
  refine ⟨.non, _, I.lset (its' := its ++ [u]) hH e (by simp) (r.append (.cons ru .nil)) ?_, rfl, q⟩
  rw [List.length_append, List.length_singleton]
  omega

def rExtend : V → List V → Hp → VK → Prop := fun x vs H Q => ∃ l b xs zs, x = .ref l ∧ vs = [.ref b] ∧ H l = some (.lst xs) ∧ H b = some (.lst zs) ∧ xs.length + zs.length ≤ sizeLine ∧ Q .non (upd H l (.lst (xs ++ zs)))
theorem mt_extend : MtM X "list.extend" rExtend := by
  intro pins s σ H x vs v us Q I rx rv h
  obtain ⟨l, b, xs, zs, rfl, rfl, hH, hB, hz, q⟩ := h
  cases rx
  obtain ⟨u, rfl, ru⟩ := rv.one
  cases ru
  obtain ⟨z, its, n, r, hl, e⟩ := I.lstM hH
  obtain ⟨z2, its2, n2, r2, hl2, e2⟩ := I.lstM hB
  have hsz : its.toArray.size + its2.toArray.size ≤ sizeLine := by rw [List.size_toArray, List.size_toArray]; omega
  have hlong : ¬ (!its.toArray.isEmpty && Builtin.List.listTooLong (its.toArray.size + its2.toArray.size)) = true := by
    rw [notLongL hsz, Bool.and_false]
    exact Bool.false_ne_true
  refine call_meets F.slot_list_extend ⟨_, e, rfl⟩ F.entry_list_extend (F.args_list_extend_2 _ _)
    (AutoSeq1.list_extend_list_list_0 l its.toArray n b its2.toArray n2 hlong (by rw [List.size_toArray]; omega) (by omega)) ⟨e, e2, ?_⟩
  refine ⟨.non, _, I.lset (its' := its ++ its2) hH e (by simp) (r.append r2) ?_, rfl, q⟩
  rw [List.length_append]
  omega

def rPop : V → List V → Hp → VK → Prop := fun x vs H Q => ∃ l xs y, x = .ref l ∧ vs = [] ∧ H l = some (.lst xs) ∧ xs[xs.length - 1]? = some y ∧ Q y (upd H l (.lst xs.dropLast))
theorem mt_pop : MtM X "list.pop" rPop := by
  intro pins s σ H x vs v us Q I rx rv h
  obtain ⟨l, xs, y, rfl, rfl, hH, hy, q⟩ := h
  cases rx
  have hus := rv.zero
  subst hus
  obtain ⟨z, its, n, r, hl, e⟩ := I.lstM hH
  obtain ⟨u, hu, ru⟩ := r.get hy
  have hy' : its.toArray[its.toArray.size - 1]? = some u := by
    show its.toArray[its.length - 1]? = some u
    rw [← Array.getElem?_toList, ← hl]
    exact hu
  refine call_meets F.slot_list_pop ⟨_, e, rfl⟩ F.entry_list_pop (F.args_list_pop_1 _) (MeetsSeq.list_pop_last l its.toArray n u hy' (by rw [List.size_toArray]; omega)) ⟨e, ?_⟩
  refine ⟨y, _, I.lset (its' := its.dropLast) hH e ?_ r.dropLast ?_, ru, q⟩
  · show its.toArray.eraseIdxIfInBounds (its.toArray.size - 1) = its.dropLast.toArray
    rw [List.size_toArray, List.eraseIdxIfInBounds_toArray, erase_last]
  · rw [List.length_dropLast]
    omega

def rCat : R2 := fun x y H Q => ∃ l b xs zs, x = .ref l ∧ y = .ref b ∧ H l = some (.lst xs) ∧ H b = some (.lst zs) ∧ xs.length + zs.length ≤ sizeLine ∧ ∀ p, H p = none → Q (.ref p) (upd H p (.lst (xs ++ zs)))
theorem op_cat : OpR X (binaryOp .Add) rCat := by
  intro pins s σ H x y v u Q I rx ry h
  obtain ⟨l, b, xs, zs, rfl, rfl, hH, hB, hz, q⟩ := h
  cases rx
  cases ry
  obtain ⟨z, its, n, r, hl, e⟩ := I.lstM hH
  obtain ⟨z2, its2, n2, r2, hl2, e2⟩ := I.lstM hB
  refine PySem.P.add_list e e2 ?_ (by rw [List.size_toArray, List.size_toArray]; omega)
  have ea : its.toArray ++ its2.toArray = (its ++ its2).toArray := by simp
  rw [ea]
  exact ⟨.ref _, _, I.lnew (t' := s.toks) (r.append r2) (by rw [List.length_append]; omega), rfl, q _ I.fresh⟩
/-- a list times an int (a negative one is nothing) -/
def rRep : R2 := fun x y H Q => ∃ l k xs, x = .ref l ∧ y = .int k ∧ H l = some (.lst xs) ∧ -(2 ^ 63) ≤ k ∧ k < 2 ^ 63 ∧ xs.length * k.toNat ≤ sizeLine ∧
  ∀ p, H p = none → Q (.ref p) (upd H p (.lst (List.replicate k.toNat xs).flatten))
theorem len_rep {α : Type} (xs : List α) (k : Nat) : (List.replicate k xs).flatten.length = k * xs.length := by
  induction k with
  | zero => simp
  | succ k ih => rw [List.replicate_succ, List.flatten_cons, List.length_append, ih, Nat.succ_mul, Nat.add_comm]
theorem op_rep : OpR X (binaryOp .Mult) rRep := by
  intro pins s σ H x y v u Q I rx ry h
  obtain ⟨l, k, xs, rfl, rfl, hH, h1, h2, hz, q⟩ := h
  cases rx
  obtain ⟨t, rfl⟩ := ry
  obtain ⟨z, its, n, r, hl, e⟩ := I.lstM hH
  have hlen : its.toArray.size * k.toNat ≤ sizeLine := by rw [List.size_toArray, ← hl]; exact hz
  have hcap : ¬ its.toArray.size * k.toNat > (2 ^ 63 - 1) / 8 := by
    have : (sizeLine : Nat) ≤ (2 ^ 63 - 1) / 8 := by decide
    omega
  have hfit : ¬ (!Builtin.List.listFitsIndex k) = true := by
    rw [fitsIndex_both h1 h2]
    exact Bool.false_ne_true
  have hlong : ¬ Builtin.List.listTooLong (its.toArray.size * k.toNat) = true := by
    rw [notLongL hlen]
    exact Bool.false_ne_true
  have hnew : List.foldl (fun x1 x2 => x1 ++ x2) #[] (List.replicate (if its.toArray.isEmpty = true then 0 else k.toNat) its.toArray) = (List.replicate k.toNat its).flatten.toArray := by
    have f0 : ∀ m : Nat, List.foldl (fun x1 x2 => x1 ++ x2) #[] (List.replicate m its.toArray) = (List.replicate m its).flatten.toArray := fun m => by
      have := foldl_rep its m []
      rw [List.nil_append] at this
      exact this
    rw [f0]
    cases its with
    | nil => simp
    | cons a r' => rw [if_neg (by simp)]
  refine wpAny_binaryOp_repeat_ref (T := "list") (U := "int") (by decide) ⟨_, e, rfl⟩ (fun s' => typeIs_int s' k t) noFill_list_mul F.fills_int_mul F.slot_int_rmul repeat_list F.slot_int_index.lookup
    (call_meets F.slot_int_rmul (typeIs_int s k t) F.entry_int_rmul (F.args_int_rmul_2 _ _) (int___rmul___int_list k t l its.toArray n)
      ⟨e, rfl, ⟨_, e, rfl⟩, call_meets F.slot_list_mul ⟨_, e, rfl⟩ F.entry_list_mul (F.args_list_mul_2 _ _) (AutoListH.list___mul___list_int_3 l its.toArray n k t hfit hcap hlong) ⟨e, ?_⟩⟩)
  rw [hnew]
  exact ⟨.ref _, _, I.lnew (t' := s.toks) (r.rep k.toNat) (by rw [len_rep, Nat.mul_comm]; exact hz), rfl, q _ I.fresh⟩

end

section
variable {prog : Program} {w : World} {A : Around} {E : Value → Shared → Prop} {s : Shared}
set_option maxRecDepth 100000 in
end

section
variable {X : Cx}
end
end L2

namespace L2
open PySem PySem.Spec PyProof.Rows

theorem Vals.ints : ∀ {ns : List Int} {us : List Value}, Vals (ns.map V.int) us → IntsAre us ns
  | [], us, h => by
    rw [List.map_nil] at h
    cases h
    exact IntsAre.nil
  | n :: ns, us, h => by
    rw [List.map_cons] at h
    cases h with
    | cons r t =>
      obtain ⟨k, rfl⟩ := r
      exact IntsAre.cons n k (Vals.ints t)
theorem Vals.strs : ∀ {xs : List Str} {us : List Value}, Vals (xs.map V.str) us → StrsAre us xs
  | [], us, h => by
    rw [List.map_nil] at h
    cases h
    exact StrsAre.nil
  | x :: xs, us, h => by
    rw [List.map_cons] at h
    cases h with
    | cons r t =>
      obtain ⟨k, rfl⟩ := r
      exact StrsAre.cons x k (Vals.strs t)
theorem Vals.ref1 {a : Addr} {us : List Value} (r : Vals [V.ref a] us) : us = [Value.ref a] := by
  cases r with
  | cons r t =>
    cases t
    cases r
    rfl
section
variable {prog : Program} {w : World} {A : Around} {E : Value → Shared → Prop} {s : Shared} {l : Addr} {its : List Value} {ns : List Int} {Q : Value → Shared → Prop}
theorem sum_raw (hh : A.handled = none) (hl : s.heap.IsList l its.toArray) (hi : IntsAre its ns)
    (h : ∀ h' tk t', (∀ b o, s.heap.get? b = some o → h'.get? b = some o) → Q (.int ns.sum t') { s with heap := h', toks := tk }) : wpAny (model prog w) A (call (.builtin "sum") [.ref l]) Q E s := by
  obtain ⟨xs, e⟩ := hi.allInts.items
  have hn : numsOf (intItems xs).toList = ns := by rw [← e]; exact hi.numsOf
  rw [nums_intItems] at hn
  rw [e] at hl
  refine PySem.sum_intListG hh hl fun h' tk t' hk => ?_
  have := h h' tk t' hk
  rw [preSum_eq, List.take_of_length_le (by simp), hn]; exact this
end

section
variable {X : Cx}
/-- sum(xs) of a list of ints -/
def rSum (K : PySem.W.Frag) : List V → Hp → VK → Prop := fun vs H Q => ∃ (a : Addr) (ns : List Int), vs = [V.ref a] ∧ SqL K H a (ns.map V.int) ∧ Q (.int ns.sum) H
theorem cr_sum (hc : X.calm = true) : CallR X (.builtin "sum") (rSum X.K) := by
  intro pins s σ H vs us Q I r h
  obtain ⟨a, ns, rfl, hs, q⟩ := h
  obtain ⟨its, rv, hl, _⟩ := I.list hs
  rw [Vals.ref1 r]
  exact sum_raw (I.ok.hd hc) hl.isList rv.ints fun h' tk t' hk => ⟨.int _, H, I.kept hk, ⟨_, rfl⟩, q⟩
end

section
variable {X : Cx}
end

section
variable {X : Cx}
end

section
variable {X : Cx}
end

mutual
inductive Dp (K : PySem.W.Frag) (H : Hp) : V → PyData → Prop
  | non : Dp K H .non .none
  | bl (b : Bool) : Dp K H (.bl b) (.bool b)
  | int (i : Int) : Dp K H (.int i) (.int i)
  | str (x : Str) : Dp K H (.str x) (.str x)
  | lst {a : Addr} {xs : List V} {ds : List PyData} : SqL K H a xs → DpAll K H xs ds → Dp K H (.ref a) (.list ds)
  | tup {a : Addr} {xs : List V} {ds : List PyData} : SqT K H a xs → DpAll K H xs ds → Dp K H (.ref a) (.tuple ds)
inductive DpAll (K : PySem.W.Frag) (H : Hp) : List V → List PyData → Prop
  | nil : DpAll K H [] []
  | cons {v : V} {vs : List V} {d : PyData} {ds : List PyData} : Dp K H v d → DpAll K H vs ds → DpAll K H (v :: vs) (d :: ds)
end
section
variable {X : Cx} {pins : List (Addr × Obj)} {σ : St} {H : Hp} {s : Shared}
mutual
theorem Dp.reads (I : Inv X pins σ H s) : ∀ (d : PyData) (v : V) (u : Value), Dp X.K H v d → RelV v u → ∃ as, Reads s.heap u d as
  | .none, _, _, h, r => by
    cases h
    cases r
    exact ⟨_, Reads.none⟩
  | .bool b, _, _, h, r => by
    cases h
    cases r
    exact ⟨_, Reads.bool b⟩
  | .int i, _, _, h, r => by
    cases h
    obtain ⟨t, rfl⟩ := r
    exact ⟨_, Reads.int i t⟩
  | .str x, _, _, h, r => by
    cases h
    obtain ⟨t, rfl⟩ := r
    exact ⟨_, Reads.str x t⟩
  | .list ds, _, _, h, r => by
    cases h with
    | lst hs ha =>
      cases r
      obtain ⟨its, rv, ⟨o, n, ho, hc, _, hd⟩, _⟩ := I.list hs
      obtain ⟨as, hr⟩ := Dp.readsAll I ds _ its ha rv
      exact ⟨_, Reads.list ho hc hd hr⟩
  | .tuple ds, _, _, h, r => by
    cases h with
    | tup hs ha =>
      cases r
      obtain ⟨its, rv, ⟨o, ho, hc, n, hd⟩, _⟩ := I.tuple hs
      obtain ⟨as, hr⟩ := Dp.readsAll I ds _ its ha rv
      exact ⟨_, Reads.tuple ho hc hd hr⟩
  | .dict _, _, _, h, _ => by cases h
theorem Dp.readsAll (I : Inv X pins σ H s) : ∀ (ds : List PyData) (vs : List V) (us : List Value), DpAll X.K H vs ds → Vals vs us → ∃ as, ReadsAll s.heap us ds as
  | [], _, _, h, r => by
    cases h
    cases r
    exact ⟨_, ReadsAll.nil⟩
  | d :: ds, _, _, h, r => by
    cases h with
    | cons h1 h2 =>
      cases r with
      | cons r1 r2 =>
        obtain ⟨as, q1⟩ := Dp.reads I d _ _ h1 r1
        obtain ⟨bs, q2⟩ := Dp.readsAll I ds _ _ h2 r2
        exact ⟨_, ReadsAll.cons q1 q2⟩
end
end
section
variable {X : Cx}
end
end L2

namespace L2
open PySem PySem.Spec PyProof.Rows
abbrev CellAt (h : Heap) (c : Addr) (v : Option Value) : Prop := h.IsCell c v
def relS (scope sc : Scope) : Scope :=
  { scope with names := scope.names.map fun (n, k) => if (k == .free && sc.kind == .function && sc.names.lookup n == some .cell) then (n, .cell) else (n, k) }

def cloFrom (cells : List (Str × Addr)) : List (Str × NameKind) → List (Str × Addr) → List (Str × Addr)
  | [], acc => acc
  | (n, k) :: r, acc => if k == .free then cloFrom cells r ((n, (cells.lookup n).getD 0) :: acc) else cloFrom cells r acc

theorem closure_loop (env : Env) (f : Str × NameKind → List (Str × Addr) → Sem (ForInStep (List (Str × Addr))))
    (hf : ∀ n k c, f (n, k) c = if k == .free then (do let a ← cellOf env n; pure (.yield ((n, a) :: c))) else pure (.yield c)) :
    ∀ (names : List (Str × NameKind)) (acc : List (Str × Addr)), (∀ y ∈ names, y.2 = .free → ∃ c, env.cells.lookup y.1 = some c) → forIn names acc f = pure (cloFrom env.cells names acc)
  | [], acc, _ => by rw [List.forIn_nil]; rfl
  | (n, k) :: r, acc, h => by
    rw [List.forIn_cons, hf]
    have ih := fun acc => closure_loop env f hf r acc fun y hy => h y (List.mem_cons_of_mem _ hy)
    unfold cloFrom
    by_cases hk : (k == NameKind.free) = true
    · rw [if_pos hk, if_pos hk]
      obtain ⟨c, hc⟩ := h (n, k) List.mem_cons_self (by simpa using hk)
      have e : cellOf env n = pure c := by unfold cellOf; rw [hc]
      rw [e]
      have e2 : (env.cells.lookup n).getD 0 = c := by rw [hc]; rfl
      rw [e2]
      exact ih _
    · rw [if_neg hk, if_neg hk]
      exact ih _
theorem closure_ok {scope : Scope} {env : Env} (h : ∀ y ∈ scope.names, y.2 = .free → ∃ c, env.cells.lookup y.1 = some c) : closureFor scope env = pure (cloFrom env.cells scope.names []) := by
  simp only [closureFor]
  rw [closure_loop env _ (fun n k c => rfl) scope.names [] h]
  rfl

theorem mem_lookup {α : Type} : ∀ {l : List (Str × α)} {n : Str} {c : α}, (n, c) ∈ l → ∃ c', l.lookup n = some c'
  | (k, v) :: r, n, c, h => by
    rw [List.lookup_cons]
    cases hb : n == k with
    | true => exact ⟨_, rfl⟩
    | false =>
      rcases List.mem_cons.mp h with e | h
      · cases e; simp at hb
      · exact mem_lookup h

theorem cloFrom_mem {cells : List (Str × Addr)} : ∀ {names : List (Str × NameKind)} {acc : List (Str × Addr)} {n : Str} {c : Addr}, (n, c) ∈ cloFrom cells names acc → (n, c) ∈ acc ∨ ((n, .free) ∈ names ∧ c = (cells.lookup n).getD 0)
  | [], _, _, _, h => .inl h
  | (m, k) :: r, acc, n, c, h => by
    unfold cloFrom at h
    split at h
    · rename_i hk
      have hk : k = .free := by simpa using hk
      rcases cloFrom_mem h with h | ⟨h1, h2⟩
      · rcases List.mem_cons.mp h with e | h
        · cases e; exact .inr ⟨hk ▸ List.mem_cons_self, rfl⟩
        · exact .inl h
      · exact .inr ⟨List.mem_cons_of_mem _ h1, h2⟩
    · rcases cloFrom_mem h with h | ⟨h1, h2⟩
      · exact .inl h
      · exact .inr ⟨List.mem_cons_of_mem _ h1, h2⟩
theorem cloFrom_acc {cells : List (Str × Addr)} : ∀ {names : List (Str × NameKind)} {acc : List (Str × Addr)} {p : Str × Addr}, p ∈ acc → p ∈ cloFrom cells names acc
  | [], _, _, h => h
  | (m, k) :: r, acc, p, h => by
    unfold cloFrom
    split
    · exact cloFrom_acc (List.mem_cons_of_mem _ h)
    · exact cloFrom_acc h
theorem cloFrom_has {cells : List (Str × Addr)} : ∀ {names : List (Str × NameKind)} {acc : List (Str × Addr)} {n : Str}, (n, .free) ∈ names → (n, (cells.lookup n).getD 0) ∈ cloFrom cells names acc
  | (m, k) :: r, acc, n, h => by
    unfold cloFrom
    rcases List.mem_cons.mp h with e | h
    · cases e
      exact cloFrom_acc List.mem_cons_self
    · split
      · exact cloFrom_has h
      · exact cloFrom_has h

theorem cells_mem : ∀ {names : List (Str × NameKind)} {h : Heap} {acc : List (Str × Addr)} {x : Str} {c : Addr}, (x, c) ∈ cellsFrom h.objs.size names acc →
    (x, c) ∈ acc ∨ ((x, .cell) ∈ names ∧ h.objs.size ≤ c ∧ CellAt (pushCells h names) c none)
  | [], _, _, _, _, h => .inl h
  | (n, k) :: r, h, acc, x, c, hm => by
    unfold cellsFrom at hm
    unfold pushCells
    split at hm
    · rename_i hk
      rw [if_pos hk]
      have hk : k = .cell := by simpa using hk
      rw [← Heap.size_push h { cls := .type "cell", data := .cell none }] at hm
      rcases cells_mem hm with hm | ⟨h1, h2, h3⟩
      · rcases List.mem_cons.mp hm with e | hm
        · cases e
          exact .inr ⟨hk ▸ List.mem_cons_self, Nat.le_refl _, _, pushCells_keeps r _ _ _ (Heap.get?_push_size _ rfl), rfl⟩
        · exact .inl hm
      · rw [Heap.size_push] at h2
        exact .inr ⟨List.mem_cons_of_mem _ h1, Nat.le_of_succ_le h2, h3⟩
    · rename_i hk
      rw [if_neg hk]
      rcases cells_mem hm with hm | ⟨h1, h2, h3⟩
      · exact .inl hm
      · exact .inr ⟨List.mem_cons_of_mem _ h1, h2, h3⟩
theorem cells_acc : ∀ {names : List (Str × NameKind)} {n : Nat} {acc : List (Str × Addr)} {p : Str × Addr}, p ∈ acc → p ∈ cellsFrom n names acc
  | [], _, _, _, h => h
  | (m, k) :: r, n, acc, p, h => by
    unfold cellsFrom
    split
    · exact cells_acc (List.mem_cons_of_mem _ h)
    · exact cells_acc h
theorem cells_has : ∀ {names : List (Str × NameKind)} {n : Nat} {acc : List (Str × Addr)} {x : Str}, (x, .cell) ∈ names → ∃ c, (x, c) ∈ cellsFrom n names acc
  | (m, k) :: r, n, acc, x, h => by
    unfold cellsFrom
    rcases List.mem_cons.mp h with e | h
    · cases e
      exact ⟨n, cells_acc List.mem_cons_self⟩
    · split
      · exact cells_has h
      · exact cells_has h
theorem cells_inj : ∀ {names : List (Str × NameKind)} {h : Heap} {acc : List (Str × Addr)} {x y : Str} {c : Addr}, (∀ p ∈ acc, p.2 < h.objs.size) → (∀ x y c, (x, c) ∈ acc → (y, c) ∈ acc → x = y) →
    (x, c) ∈ cellsFrom h.objs.size names acc → (y, c) ∈ cellsFrom h.objs.size names acc → x = y
  | [], _, _, _, _, _, _, hi, h1, h2 => hi _ _ _ h1 h2
  | (n, k) :: r, h, acc, x, y, c, hl, hi, h1, h2 => by
    unfold cellsFrom at h1 h2
    split at h1
    · rename_i hk
      rw [if_pos hk] at h2
      rw [← Heap.size_push h { cls := .type "cell", data := .cell none }] at h1 h2
      refine cells_inj (h := h.push _) (fun p hp => ?_) (fun x y c a b => ?_) h1 h2
      · rw [Heap.size_push]
        rcases List.mem_cons.mp hp with rfl | hp
        · exact Nat.lt_succ_self _
        · exact Nat.lt_succ_of_lt (hl p hp)
      · rcases List.mem_cons.mp a with e | a <;> rcases List.mem_cons.mp b with e' | b
        · cases e; cases e'; rfl
        · cases e; exact absurd (hl _ b) (Nat.lt_irrefl _)
        · cases e'; exact absurd (hl _ a) (Nat.lt_irrefl _)
        · exact hi _ _ _ a b
    · rename_i hk
      rw [if_neg hk] at h2
      exact cells_inj hl hi h1 h2

theorem newEnv_comp {M : Model} {A : Around} {E : Value → Shared → Prop} {s : Shared} {scope : Scope} {globals : Addr} {closure : List (Str × Addr)} {qual : Str} {func : Option Addr} {code : Value} {around : Env} {builtins : Addr} {Q : Env → Shared → Prop}
    (h : Q (newEnv scope s.heap.objs.size globals (cellsFrom (s.heap.objs.size + 1) scope.names closure) qual func code (some around) builtins)
      { s with heap := pushCells (s.heap.push { cls := .type "dict", data := .dict #[] }) scope.names }) :
    wpAny M A (newFunctionEnv scope globals closure [] qual func code (some around) builtins) Q E s := by
  simp only [newFunctionEnv, Option.isSome_some, if_true]
  refine wpAny_bind (wpAny_alloc ?_)
  refine wpAny_bind (wpAny_layCells _ (fun n k c => rfl) scope.names closure _ _ ?_)
  rw [show ({ s with heap := s.heap.push { cls := .type "dict", data := .dict #[] } } : Shared).heap.objs.size = s.heap.objs.size + 1 from Heap.size_push ..]
  rw [List.forIn_nil]
  exact wpAny_bind (wpAny_pure (wpAny_pure h))

/-- every name of the written scope, in the scope that runs -/
theorem lookup_relS {sc : Scope} : ∀ {names : List (Str × NameKind)} {x : Str} {k : NameKind},
    (names.map fun (n, k) => if (k == NameKind.free && sc.kind == .function && sc.names.lookup n == some .cell) then (n, NameKind.cell) else (n, k)).lookup x = some k →
    ∃ k', names.lookup x = some k' ∧ (k = k' ∨ (k' = .free ∧ k = .cell))
  | [], _, _, h => by simp at h
  | (n, k₀) :: r, x, k, h => by
    have ih := @lookup_relS sc r x k
    have h' : List.lookup x ((if (k₀ == NameKind.free && sc.kind == .function && sc.names.lookup n == some .cell) = true then (n, NameKind.cell) else (n, k₀)) :: (r.map _)) = some k := h
    cases hx : x == n with
    | true =>
      simp only [List.lookup_cons, hx]
      by_cases hc : (k₀ == NameKind.free && sc.kind == .function && sc.names.lookup n == some .cell) = true
      · rw [if_pos hc] at h'
        simp only [List.lookup_cons, hx] at h'
        cases h'
        simp only [Bool.and_eq_true, beq_iff_eq] at hc
        exact ⟨k₀, rfl, .inr ⟨hc.1.1, rfl⟩⟩
      · rw [if_neg hc] at h'
        simp only [List.lookup_cons, hx] at h'
        cases h'
        exact ⟨_, rfl, .inl rfl⟩
    | false =>
      simp only [List.lookup_cons, hx]
      by_cases hc : (k₀ == NameKind.free && sc.kind == .function && sc.names.lookup n == some .cell) = true
      · rw [if_pos hc] at h'
        simp only [List.lookup_cons, hx] at h'
        exact ih h'
      · rw [if_neg hc] at h'
        simp only [List.lookup_cons, hx] at h'
        exact ih h'
/-- the names of a comprehension's block: its own (with their places in N), or captured -/
structure BlkOk (N : List Str) (sc scope : Scope) (own : List (Str × Nat)) : Prop where
  kind : scope.kind = .function
  uniq : ∀ y ∈ scope.names, scope.names.lookup y.1 = some y.2
  ix : ∀ p ∈ own, N[p.2]? = some p.1
  free : ∀ y ∈ scope.names, y.2 = .free → sc.names.lookup y.1 = some .cell ∨ sc.names.lookup y.1 = some .free
  own : ∀ y ∈ scope.names, y.2 = .local ∨ y.2 = .cell → y.1 ∈ own.map (·.1) ∨ y.1 ∉ N
/-- the slots of the block's own names forgotten -/
def wipe (σ : St) : List Nat → St
  | [] => σ
  | v :: vs => (wipe σ vs).set v none
theorem wipe_length (σ : St) : ∀ vs : List Nat, (wipe σ vs).length = σ.length
  | [] => rfl
  | v :: vs => by unfold wipe; rw [List.length_set, wipe_length σ vs]
theorem wipe_some {σ : St} {i : Nat} {x : V} : ∀ {vs : List Nat}, (wipe σ vs)[i]? = some (some x) → σ[i]? = some (some x) ∧ i ∉ vs
  | [], h => ⟨h, by simp⟩
  | v :: vs, h => by
    unfold wipe at h
    by_cases hi : v = i
    · subst hi
      by_cases hv : v < (wipe σ vs).length
      · rw [List.getElem?_set_self hv] at h; cases h
      · rw [List.getElem?_eq_none (by simpa using hv)] at h; cases h
    · rw [List.getElem?_set_ne hi] at h
      obtain ⟨h1, h2⟩ := wipe_some h
      exact ⟨h1, by simp only [List.mem_cons, not_or]; exact ⟨fun e => hi e.symm, h2⟩⟩

/-- the context of a block that starts at s, its iterator's objects at fp -/
abbrev Cx.blk (X : Cx) (s : Shared) (H : Hp) (scope : Scope) (cenv : Env) (fp : List Addr) : Cx := { X with s_0 := s, H_0 := H, env := cenv, outer := X.stack, ex := fp, fn := fun x => scope.names.lookup x == some .cell, pn := [], xe := fun _ _ => False }
section
variable {X : Cx} {pins : List (Addr × Obj)} {σ : St} {H : Hp} {s : Shared}
theorem block_start {scope : Scope} {own : List (Str × Nat)} {fp : List Addr} (I : Inv X pins σ H s) (ok : BlkOk X.N X.env.scope scope own) (hN : X.N.Nodup) (hfp : ∀ b ∈ fp, FpOk X pins H b ∧ b < s.heap.objs.size) :
    Inv (X.blk s H scope (compEnvC scope (cellsFrom (s.heap.objs.size + 1) scope.names (cloFrom X.env.cells scope.names [])) s.heap.objs.size X.env) fp) [] (wipe σ (own.map (·.2))) H { s with heap := pushCells (s.heap.push { cls := .type "dict", data := .dict #[] }) scope.names } := by
  have hfree : ∀ y ∈ scope.names, y.2 = .free → ∃ c, X.env.cells.lookup y.1 = some c := fun y hy e => by
    rcases ok.free y hy e with k | k
    · exact I.ok.has _ (.inl k)
    · exact I.ok.has _ (.inr k)
  generalize hcenv : compEnvC scope (cellsFrom (s.heap.objs.size + 1) scope.names (cloFrom X.env.cells scope.names [])) s.heap.objs.size X.env = cenv
  have kp : ∀ b o, s.heap.get? b = some o → (pushCells (s.heap.push { cls := .type "dict", data := .dict #[] }) scope.names).get? b = some o := fun b o e => pushCells_keeps _ _ _ _ (Heap.get?_push_of_some _ e)
  have hL : cenv.locals = s.heap.objs.size := by rw [← hcenv]; rfl
  have hcl : cenv.cells = cellsFrom (s.heap.objs.size + 1) scope.names (cloFrom X.env.cells scope.names []) := by rw [← hcenv]; rfl
  have hsc : cenv.scope = relS scope X.env.scope := by rw [← hcenv]; rfl
  rw [← Heap.size_push s.heap { cls := .type "dict", data := .dict #[] }] at hcl
  have cm : ∀ {y c}, (y, c) ∈ cloFrom X.env.cells scope.names [] → X.env.cells.lookup y = some c ∧ c < s.heap.objs.size := fun {y c} hm => by
    rcases cloFrom_mem hm with hm | ⟨h1, rfl⟩
    · cases hm
    · obtain ⟨c, hc⟩ := hfree _ h1 rfl
      rw [hc]
      obtain ⟨w, z⟩ := I.cell _ _ hc
      exact ⟨rfl, z.lt⟩
  have mem : ∀ {y c}, cenv.cells.lookup y = some c → (X.env.cells.lookup y = some c ∧ c < s.heap.objs.size) ∨ (s.heap.objs.size + 1 ≤ c ∧ CellAt (pushCells (s.heap.push { cls := .type "dict", data := .dict #[] }) scope.names) c none) := fun {y c} e => by
    rw [hcl] at e
    rcases cells_mem (PySem.mem_of_lookup e) with hm | ⟨_, h2, h3⟩
    · exact .inl (cm hm)
    · rw [Heap.size_push] at h2; exact .inr ⟨h2, h3⟩
  have look : ∀ {y}, scope.names.lookup y = some .free → ∃ c, cenv.cells.lookup y = some c ∧ X.env.cells.lookup y = some c := fun {y} hl => by
    have hy : (y, NameKind.free) ∈ scope.names := PySem.mem_of_lookup hl
    obtain ⟨c', e'⟩ := mem_lookup (cells_acc (names := scope.names) (n := (s.heap.push { cls := .type "dict", data := .dict #[] }).objs.size) (cloFrom_has (cells := X.env.cells) (acc := []) hy))
    rw [← hcl] at e'
    refine ⟨c', e', ?_⟩
    rw [hcl] at e'
    rcases cells_mem (PySem.mem_of_lookup e') with hm | ⟨h1, _, _⟩
    · exact (cm hm).1
    · have := ok.uniq _ h1
      rw [hl] at this; cases this
  have okB : (X.blk s H scope cenv fp).Ok := by
    refine ⟨I.ok.mod, by show cenv.scope.kind = _; rw [hsc]; exact ok.kind, by show cenv.globals = _; rw [← hcenv]; exact I.ok.glob, by show cenv.builtins = _; rw [← hcenv]; exact I.ok.blt, by show s.heap.objs.size ≤ cenv.locals; rw [hL]; exact Nat.le_refl _,
      fun y z c e1 e2 => ?_, fun y hy => ?_, fun y c z e => ?_, I.ok.hd, I.ok.frames, .inl rfl, fun b hb => ⟨?_, fun y c e z => ?_⟩, I.bs, Nat.le_trans I.ok.bsz I.sz, fun b o e hb => ?_, fun b hb z => ?_, I.stack, I.stkFree⟩
    · have e1 : cenv.cells.lookup y = some c := e1
      have e2 : cenv.cells.lookup z = some c := e2
      rw [hcl] at e1 e2
      refine cells_inj (fun p hp => ?_) (fun y z c a b => I.ok.inj y z c (cm a).1 (cm b).1) (PySem.mem_of_lookup e1) (PySem.mem_of_lookup e2)
      rw [Heap.size_push]
      exact Nat.lt_succ_of_lt (cm (y := p.1) (c := p.2) hp).2
    · show ∃ c, cenv.cells.lookup y = some c
      have key : ∀ k, cenv.kindOf y = some k → (k = .cell ∨ k = .free) → ∃ c, cenv.cells.lookup y = some c := fun k hk hk' => by
        unfold Env.kindOf at hk
        rw [hsc] at hk
        obtain ⟨k', e, r⟩ := lookup_relS hk
        have : k' = .cell ∨ k' = .free := by
          rcases r with rfl | ⟨rfl, _⟩
          · exact hk'
          · exact .inr rfl
        rcases this with rfl | rfl
        · obtain ⟨c, hm⟩ := cells_has (n := (s.heap.push { cls := .type "dict", data := .dict #[] }).objs.size) (acc := cloFrom X.env.cells scope.names []) (PySem.mem_of_lookup e)
          obtain ⟨c', e'⟩ := mem_lookup hm
          exact ⟨c', by rw [hcl]; exact e'⟩
        · obtain ⟨c, h1, _⟩ := look e
          exact ⟨c, h1⟩
      rcases hy with hy | hy
      · exact key _ hy (.inl rfl)
      · exact key _ hy (.inr rfl)
    · have z : (scope.names.lookup y == some NameKind.cell) = true := z
      have z : scope.names.lookup y = some .cell := by simpa using z
      have e : cenv.cells.lookup y = some c := e
      rw [hcl] at e
      rcases cells_mem (PySem.mem_of_lookup e) with hm | ⟨_, h2, _⟩
      · rcases cloFrom_mem hm with hm | ⟨h1, _⟩
        · cases hm
        · have q := ok.uniq _ h1
          rw [z] at q; cases q
      · rw [Heap.size_push] at h2
        exact Nat.le_of_succ_le h2
    · show b ≠ cenv.locals
      rw [hL]; exact Nat.ne_of_lt (hfp b hb).2
    · have e : cenv.cells.lookup y = some c := e
      rcases mem e with ⟨h1, _⟩ | ⟨h1, _⟩
      · exact (hfp b hb).1.2.2.2.2.1 y c h1 z
      · have h2 : s.heap.objs.size + 1 ≤ b := by rw [← z]; exact h1
        exact absurd (Nat.lt_of_lt_of_le (hfp b hb).2 (Nat.le_of_succ_le h2)) (Nat.lt_irrefl _)
    · rcases (hfp b hb).1.2.2.2.1 with z | z
      · exact I.ok.noex b o e z
      · exact absurd (Nat.lt_of_lt_of_le (Heap.lt_size e) (Nat.le_trans I.ok.bsz z)) (Nat.lt_irrefl _)
    · rcases List.mem_cons.mp (I.stkSub b z) with z | z
      · exact (hfp b hb).1.2.1 z
      · exact (hfp b hb).1.2.2.1 z
  refine ⟨okB, rfl, I.bare, Un.kept kp, ⟨fun _ => none, ?_, fun i y av e1 e2 e3 => ?_⟩, fun y c e => ?_, ?_, fun y c e => ?_, fun p hp => ?_, I.hok.kept kp, by rw [wipe_length]; exact I.len⟩
  · show Heap.Ns _ cenv.locals _
    rw [hL]
    exact Heap.Ns.keeps (Heap.Ns.new ..) fun b o e => pushCells_keeps _ _ _ _ e
  · obtain ⟨e2, hne⟩ := wipe_some e2
    have hfr : scope.names.lookup y = some .free ∧ (cenv.kindOf y = some .cell ∨ cenv.kindOf y = some .free) := by
      have key : ∀ k, cenv.scope.names.lookup y = some k → k = .local ∨ k = .cell ∨ k = .free → scope.names.lookup y = some .free ∧ (cenv.kindOf y = some .cell ∨ cenv.kindOf y = some .free) := fun k hk hk' => by
        have hk0 := hk
        rw [hsc] at hk
        obtain ⟨k', e, r⟩ := lookup_relS hk
        have no : ¬ (k' = .local ∨ k' = .cell) := fun hh => by
          rcases ok.own _ (PySem.mem_of_lookup e) hh with e' | e'
          · obtain ⟨p, hp, hpy⟩ := List.mem_map.mp e'
            have e3 := ok.ix p hp
            have : p.1 = y := hpy
            rw [this] at e3
            exact hne (List.mem_map.mpr ⟨p, hp, nodup_ix hN e3 e1⟩)
          · exact e' (List.mem_of_getElem? e1)
        rcases r with rfl | ⟨rfl, rfl⟩
        · rcases hk' with rfl | rfl | rfl
          · exact absurd (.inl rfl) no
          · exact absurd (.inr rfl) no
          · exact ⟨e, .inr hk0⟩
        · exact ⟨e, .inl hk0⟩
      have e3 : Vis cenv.scope y := e3
      rcases e3 with e3 | e3 | e3
      · exact key _ e3 (.inl rfl)
      · exact key _ e3 (.inr (.inl rfl))
      · exact key _ e3 (.inr (.inr rfl))
    obtain ⟨m, hn, hl⟩ := I.loc
    have hvis : Vis X.env.scope y := (ok.free _ (PySem.mem_of_lookup hfr.1) rfl).elim (fun k => .inr (.inl k)) (fun k => .inr (.inr k))
    obtain ⟨w, r, q⟩ := hl i y av e1 e2 hvis
    refine ⟨w, r, .inr ⟨hfr.2, ?_⟩⟩
    obtain ⟨c, h1, h2⟩ := look hfr.1
    rcases q with ⟨k, _⟩ | ⟨_, c', e', z⟩
    · have k : X.env.scope.names.lookup y = some .local := k
      rcases ok.free _ (PySem.mem_of_lookup hfr.1) rfl with k' | k' <;> rw [show X.env.scope.names.lookup y = _ from k'] at k <;> cases k
    · rw [h2] at e'; cases e'
      exact ⟨c, h1, z.keeps kp⟩
  · have e : cenv.cells.lookup y = some c := e
    rcases mem e with ⟨h1, _⟩ | ⟨_, z⟩
    · obtain ⟨w, z⟩ := I.cell y c h1
      exact ⟨w, z.keeps kp⟩
    · exact ⟨_, z⟩
  · show H cenv.locals = none
    rw [hL]; exact I.hok.fresh (Nat.le_refl _)
  · have e : cenv.cells.lookup y = some c := e
    rcases mem e with ⟨h1, _⟩ | ⟨h1, _⟩
    · exact I.freeC y c h1
    · exact I.hok.fresh (Nat.le_of_succ_le h1)
  · exact absurd (show p ∈ ([] : List (Addr × Obj)) ++ [] from hp) (by simp)

/-- an item appended to a tracked list -/
theorem app_ok {E : Value → Shared → Prop} {D : Addr} {xs : List V} {y : V} {v : Value} {Q : Value → Shared → Prop} (I : Inv X pins σ H s) (hD : H D = some (.lst xs)) (hz : xs.length < sizeLine) (r : RelV y v)
    (h : ∀ s', Inv X pins σ (upd H D (.lst (xs ++ [y]))) s' → Q .none s') : wpAny (model X.prog X.w) X.A (call (.builtin "list.append") [.ref D, v]) Q E s := by
  obtain ⟨hz', its, n, ri, e⟩ := I.hok D _ hD
  have hl := ri.length
  refine append_at (hsz := by rw [List.size_toArray]; omega) e fun h' sb ho' => ?_
  refine h { s with heap := h' } (I.write (t' := s.toks) (by rw [hD]; trivial) (.inl rfl) (fun b u hb q => (sb.2 b hb).trans q) ⟨_, ho'⟩ ⟨by rw [List.length_append]; exact hz, its ++ [v], n + 1, ri.append (.cons r .nil), ?_⟩)
  rw [ho']
  simp

/-- a clause's tests -/
def PTs (X : Cx) (ifs : List Expr) (t : TT) : Prop :=
  ∀ (pins : List (Addr × Obj)) (s : Shared) (σ : St) (H : Hp) (Q : Bool → Hp → Prop), Inv X pins σ H s → t σ H Q →
    wpAny (model X.prog X.w) X.A (forIn ifs true fun c r => if r = true then do let ok ← isTrue c X.env (eval c X.env); pure (ForInStep.yield ok) else pure (ForInStep.yield r)) (TP X pins σ Q) X.xe s
def tYes : TT := fun _ H Q => Q true H
theorem pts_nil : PTs X [] tYes := fun _ _ _ H _ I h => wpAny_tests_nil ⟨H, I, h⟩
theorem pts_one {c : Expr} {t : TT} (h : PT X c t) : PTs X [c] t := fun pins s σ H Q I hw => wpAny_tests_one (h pins s σ H Q I hw)
end

theorem thnF {α : Type} {t : Sem α} {Q Q' : α → Shared → Prop} {M : Model} {A : Around} {E : Value → Shared → Prop} {s : Shared} (h : wpAny M A t Q (fun _ _ => False) s) (hQ : ∀ a s, Q a s → Q' a s) : wpAny M A t Q' E s := wpAny_mono h hQ fun _ _ z => False.elim z

/-- the loop of a list comprehension's block, the target of any form (codeAny_compLoop_tests asks a target that no tuple goes to; statement and proof follow it, PyProof/CompMap.lean:41-61, with the step letOwnedTupleGo kept) -/
theorem compLoop_any {prog : Program} {w : World} {A : Around} {R : Result → Shared → Prop} {s : Shared} {elt target iter : Expr} {ifs : List Expr} {scope : Scope} {pos : Pos} {it acc : Value} {env : Env} (I : Nat → Shared → Prop)
    (turn : ∀ n s, I n s → wpAny (model prog w) A (pyNext it) (fun r s₁ => match r with
      | none => R (.ok .next) s₁
      | some v => wpAny (model prog w) A (letOwnedTupleGo target it v) (fun _ s₁' => wpAny (model prog w) A (assign target env v) (fun _ s₂ =>
          wpAny (model prog w) A (forIn ifs true fun c r => if r = true then do let ok ← isTrue c env (eval c env); pure (ForInStep.yield ok) else pure (ForInStep.yield r)) (fun ok s₃ =>
            if ok = true then wpAny (model prog w) A (eval elt env) (fun x s₄ =>
              wpAny (model prog w) A (call (.builtin "list.append") [acc, x]) (fun _ s₅ => ∃ m, m < n ∧ I m s₅) (notedBy (model prog w) A env fun e s' => R (.error e) s') s₄) (notedBy (model prog w) A env fun e s' => R (.error e) s') s₃
            else ∃ m, m < n ∧ I m s₃) (notedBy (model prog w) A env fun e s' => R (.error e) s') s₂) (notedBy (model prog w) A env fun e s' => R (.error e) s') s₁') (notedBy (model prog w) A env fun e s' => R (.error e) s') s₁) (notedBy (model prog w) A env fun e s' => R (.error e) s') s)
    (n : Nat) (h : I n s) :
    codeAny (model prog w) A (.compLoop (.ListComp elt [⟨target, iter, ifs, 0⟩] scope pos) 0 it acc env) R s := by
  refine codeAny_loop rfl I (fun n s hI => ?_) n h
  show wpAny _ A ((compTurn (.ListComp elt [⟨target, iter, ifs, 0⟩] scope pos) 0 it acc env).onRaise (fun x => do noteFrame x env; theTreesLotGoes x)) _ _ s
  refine wpAny_noted ?_
  rw [compTurn_list]
  refine wpAny_bind (wpAny_standAt (wpAny_bind (wpAny_mono (turn n s hI) (fun r s₁ h₁ => ?_) fun _ _ h' => h')))
  cases r with
  | none => exact wpAny_pure h₁
  | some v =>
    refine wpAny_bind (wpAny_mono h₁ (fun _ s₁' h₁' => ?_) fun _ _ h' => h')
    refine wpAny_bind (wpAny_mono h₁' (fun _ s₂ h₂ => wpAny_bind (wpAny_mono h₂ (fun ok s₃ h₃ => ?_) fun _ _ h' => h')) fun _ _ h' => h')
    cases ok with
    | false => exact wpAny_pure ⟨rfl, h₃⟩
    | true =>
      exact wpAny_bind (wpAny_bind (wpAny_mono h₃ (fun x s₄ h₄ => wpAny_bind (wpAny_mono h₄ (fun _ s₅ h₅ => wpAny_pure (wpAny_pure ⟨rfl, h₅⟩)) fun _ _ h' => h')) fun _ _ h' => h'))

section
variable {X : Cx}
/-- [elt for target in iter if ..]: D the new list; W by the turn and a measure, Nx what a turn is to reach -/
def tLc (wi : TI) (g : TG) (tt : TT) (te : TE) (vs : List Nat) : TE := fun σ H Q => wi σ H fun J H1 => ∀ D, H1 D = none → ∃ W : Nat → Nat → Hp → Prop, (∃ m, W 0 m (upd H1 D (.lst []))) ∧ ∀ i m H, W i m H →
  (J.stop i H ∧ Q (.ref D) H) ∨ (J.go i H ∧ ∃ Nx : Hp → Prop, (∀ H', Nx H' → ∃ m', m' < m ∧ W (i + 1) m' H') ∧ ∀ x H', J.yld i H x H' → g x (wipe σ vs) H' fun σ2 H2 => wipe σ2 vs = wipe σ vs ∧ tt σ2 H2 fun b H3 =>
    if b = true then te σ2 H3 fun y H4 => ∃ acc, H4 D = some (.lst acc) ∧ acc.length < sizeLine ∧ Nx (upd H4 D (.lst (acc ++ [y]))) else Nx H3)
theorem lc_core {pins : List (Addr × Obj)} {s : Shared} {σ : St} {H : Hp} {Q : VK} {elt tg iter : Expr} {ifs : List Expr} {scope : Scope} {own : List (Str × Nat)} {pos pos' : Pos} {wi : TI} {g : TG} {tt : TT} {te : TE} {use : Option (Value → Sem Unit)} {Qf : Value → Shared → Prop}
    (hc : X.calm = true) (hN : X.N.Nodup) (I : Inv X pins σ H s) (hi : PI X tg iter wi) (ok : BlkOk X.N X.env.scope scope own)
    (hg : ∀ (s : Shared) (H : Hp) (C : Addr) (cl : List (Str × Addr)) (fp : List Addr), PG (X.blk s H scope (compEnvC scope cl C X.env) fp) tg g) (ht : ∀ (s : Shared) (H : Hp) (C : Addr) (cl : List (Str × Addr)) (fp : List Addr), PTs (X.blk s H scope (compEnvC scope cl C X.env) fp) ifs tt)
    (he : ∀ (s : Shared) (H : Hp) (C : Addr) (cl : List (Str × Addr)) (fp : List Addr), PE (X.blk s H scope (compEnvC scope cl C X.env) fp) elt te) (hs : ∀ x, foldedSetIterable iter X.env x = pure x)
    (h : tLc wi g tt te (own.map (·.2)) σ H Q)
    (hRR : ∀ D C s' m H', Inv X pins σ H' s' → Q (.ref D) H' → s'.heap.Ns C m → FpOk X pins H' C → compPost (model X.prog X.w) X.A X.xe use Qf (.ref D) C (.ok .next) s') :
    wpAny (model X.prog X.w) X.A (comprehension (.ListComp elt [⟨tg, iter, ifs, 0⟩] scope pos) scope X.env pos' (newList []) false (eval iter X.env) use) Qf X.xe s := by
  have hfree : ∀ y ∈ scope.names, y.2 = .free → ∃ c, X.env.cells.lookup y.1 = some c := fun y hy e => by
    rcases ok.free y hy e with k | k
    · exact I.ok.has _ (.inl k)
    · exact I.ok.has _ (.inr k)
  refine wpAny_comprehension_free (use := use) rfl hs (closure_ok hfree) ok.kind (fun y hy e => by rw [ok.uniq y hy, e])
    (thn (hi pins s σ H _ I h) fun xv s1 hx => thn hx fun itv s2 h2 => ?_)
  obtain ⟨it, fp, tn, J, H2, e, I2, T, st2, f2, q⟩ := h2
  subst e
  refine wpAny_newObj_type (newEnv_comp ?_) (by show 0 ≤ sizeLine; decide)
  generalize hD : s2.heap.objs.size = D
  have hDn : H2 D = none := I2.hok.fresh (Nat.le_of_eq hD)
  obtain ⟨W, ⟨m0, w0⟩, turn⟩ := q D hDn
  -- the new list
  generalize hs3 : ({ s2 with heap := s2.heap.push { cls := .type "list", data := .seq ([] : List Value).toArray } } : Shared) = s3
  have I3 : Inv X pins σ (upd H2 D (.lst [])) s3 := by
    rw [← hs3]
    refine I2.laid (t' := s2.toks) (fun b o e => Heap.get?_push_of_some _ e) (Nat.le_of_eq hD) ⟨Nat.zero_le _, [], 0, .nil, ?_⟩
    rw [← hD]
    exact Heap.get?_push_size _ rfl
  have h3 : s3.heap = s2.heap.push { cls := .type "list", data := .seq ([] : List Value).toArray } := by rw [← hs3]
  have sz : ∀ b ∈ fp, b < s2.heap.objs.size := fun b hb => by
    obtain ⟨o, e, _⟩ := T.obj _ _ st2 b hb
    exact Heap.lt_size e
  have f3 : ∀ b ∈ fp, FpOk X pins (upd H2 D (.lst [])) b ∧ b < s3.heap.objs.size := fun b hb => by
    have hlt := sz b hb
    refine ⟨⟨?_, (f2 b hb).2⟩, by rw [h3, Heap.size_push]; exact Nat.lt_succ_of_lt hlt⟩
    rw [upd_ne (by rw [← hD]; exact Nat.ne_of_lt hlt)]
    exact (f2 b hb).1
  have st3 : tn 0 s3.heap := T.keep _ _ _ st2 fun b _ o e => by rw [h3]; exact Heap.get?_push_of_some _ e
  have I4 := block_start I3 ok hN f3
  have pg := hg s3 (upd H2 D (.lst [])) s3.heap.objs.size (cellsFrom (s3.heap.objs.size + 1) scope.names (cloFrom X.env.cells scope.names [])) fp
  have pt := ht s3 (upd H2 D (.lst [])) s3.heap.objs.size (cellsFrom (s3.heap.objs.size + 1) scope.names (cloFrom X.env.cells scope.names [])) fp
  have pe := he s3 (upd H2 D (.lst [])) s3.heap.objs.size (cellsFrom (s3.heap.objs.size + 1) scope.names (cloFrom X.env.cells scope.names [])) fp
  show codeAny _ _ (.compStart (.ListComp elt [⟨tg, iter, ifs, 0⟩] scope pos) 0 (.ref it) (.ref D) (compEnvC scope (cellsFrom (s3.heap.objs.size + 1) scope.names (cloFrom X.env.cells scope.names [])) s3.heap.objs.size X.env)) (compPost (model X.prog X.w) X.A X.xe use Qf (.ref D) s3.heap.objs.size) { s3 with heap := pushCells (s3.heap.push { cls := .type "dict", data := .dict #[] }) scope.names }
  have nfp : ∀ b ∈ fp, (upd H2 D (.lst [])) b = none := fun b hb => (f3 b hb).1.1
  generalize hce : compEnvC scope (cellsFrom (s3.heap.objs.size + 1) scope.names (cloFrom X.env.cells scope.names [])) s3.heap.objs.size X.env = ce at I4 pg pt pe ⊢
  have cL : ce.locals = s3.heap.objs.size := by subst hce; rfl
  generalize hH3 : upd H2 D (.lst []) = H3 at I3 I4 pg pt pe w0 nfp f3
  generalize hs4 : ({ s3 with heap := pushCells (s3.heap.push { cls := .type "dict", data := .dict #[] }) scope.names } : Shared) = s4 at I4 ⊢
  have st4 : tn 0 s4.heap := T.keep _ _ _ st3 fun b _ o e => by rw [← hs4]; exact pushCells_keeps _ _ _ _ (Heap.get?_push_of_some _ e)
  have stat : ∀ {σ' : St} {H' : Hp} {s' : Shared}, Inv (X.blk s3 H3 scope ce fp) [] σ' H' s' → (∀ b ∈ fp, H' b = none) → ∀ b ∈ fp, FpOk (X.blk s3 H3 scope ce fp) [] H' b := fun {σ' H' s'} I' hn b hb =>
    ⟨hn b hb, (I'.ok.exf b hb).1, I'.ok.exfs b hb, .inl hb, fun x c e => (I'.ok.exf b hb).2 x c e, fun p hp => absurd (show p ∈ ([] : List (Addr × Obj)) ++ [] from hp) (by simp)⟩
  have loop : codeAny (model X.prog X.w) X.A (.compLoop (.ListComp elt [⟨tg, iter, ifs, 0⟩] scope pos) 0 (.ref it) (.ref D) ce) (compPost (model X.prog X.w) X.A X.xe use Qf (.ref D) s3.heap.objs.size) s4 := by
    refine compLoop_any (fun n s' => ∃ i H', Inv (X.blk s3 H3 scope ce fp) [] (wipe σ (own.map (·.2))) H' s' ∧ tn i s'.heap ∧ (∀ b ∈ fp, H' b = none) ∧ W i n H') ?_ m0 ⟨0, H3, I4, st4, nfp, w0⟩
    rintro n s5 ⟨i, H5, I5, st5, n5, w5⟩
    rcases turn i n H5 w5 with ⟨stop, qq⟩ | ⟨go, Nx, hNx, step⟩
    · have td := T.done (X.blk s3 H3 scope ce fp) rfl rfl rfl hc i [] s5 _ H5 (fun _ _ => False) I5 (stat I5 n5) st5 stop
      refine thnF td fun r s6 ⟨hr, I6⟩ => ?_
      subst hr
      -- back in the def's context
      have I7 : Inv X pins σ H5 s6 := I3.call' (ch := fp) I6.os I6.base I6.hok I6.bare fun b hb => ⟨(f3 b hb).1.2.2.2.1, (f3 b hb).1.2.1, (f3 b hb).1.2.2.2.2.1, (f3 b hb).1.2.2.2.2.2⟩
      have nC : H5 s3.heap.objs.size = none := by
        have z : H5 ce.locals = none := I6.free
        rw [cL] at z
        exact z
      obtain ⟨m, hn, _⟩ := I6.loc
      have hn : s6.heap.Ns ce.locals m := hn
      rw [cL] at hn
      exact hRR D s3.heap.objs.size s6 m H5 I7 qq hn (I3.fpOk (Nat.le_refl _) nC)
    · have ti := T.item (X.blk s3 H3 scope ce fp) rfl rfl rfl hc i [] s5 _ H5 (fun _ _ => False) I5 (stat I5 n5) st5 go
      refine thnF ti fun r s6 ⟨u, hr, h6⟩ => ?_
      subst hr
      refine thnF h6 fun _ s7 ⟨x, H7, I7, r7, y7, st7, n7⟩ => ?_
      have I7' := I7.pinned (stat I7 n7) (T.obj _ _ st7)
      refine thnF (pg _ s7 _ H7 x u _ I7' r7 (step x H7 y7)) fun _ s8 ⟨σ8, H8, I8, hw8, q8⟩ => ?_
      refine thnF (pt _ s8 σ8 H8 _ I8 q8) fun b s9 ⟨H9, I9, q9⟩ => ?_
      -- the turn's end
      have fin : ∀ {s' : Shared} {H' : Hp}, Inv (X.blk s3 H3 scope ce fp) ([] ++ pinsAt fp s7.heap) σ8 H' s' → Nx H' → ∃ m, m < n ∧ ∃ i H', Inv (X.blk s3 H3 scope ce fp) [] (wipe σ (own.map (·.2))) H' s' ∧ tn i s'.heap ∧ (∀ b ∈ fp, H' b = none) ∧ W i m H' := fun {s' H'} I' nx => by
        obtain ⟨m', hm, w'⟩ := hNx H' nx
        have pin' : ∀ b ∈ fp, ∀ o, s7.heap.get? b = some o → s'.heap.get? b = some o ∧ H' b = none := fun b hb o e =>
          let z := I'.pin (b, o) (List.mem_append_right _ (List.mem_append_right _ (mem_pinsAt hb e)))
          ⟨z.1, z.2.1⟩
        have hl : (wipe σ (own.map (·.2))).length = σ8.length := by rw [← hw8, wipe_length]
        refine ⟨m', hm, i + 1, H', (I'.unpinned (pins := [])).weak hl (fun j v e => ?_), T.keep _ _ _ st7 fun b hb o e => (pin' b hb o e).1, fun b hb => ?_, w'⟩
        · rw [← hw8] at e
          exact (wipe_some e).1
        · obtain ⟨o, e, _⟩ := T.obj _ _ st7 b hb
          exact (pin' b hb o e).2
      cases b with
      | false =>
        simp only [Bool.false_eq_true, if_false] at q9 ⊢
        exact fin I9 q9
      | true =>
        simp only [if_true] at q9 ⊢
        refine thnF (pe _ s9 σ8 H9 _ I9 q9) fun z s10 ⟨yv, H10, I10, r10, acc, hD10, hz10, nx⟩ => ?_
        exact app_ok (X := X.blk s3 H3 scope ce fp) I10 hD10 hz10 r10 fun s11 I11 => fin I11 nx
  exact codeAny_compStart_list loop (T.self X.A 0 _ _ _ st4 loop)
/-- as a value -/
theorem pe_lc {elt tg iter : Expr} {ifs : List Expr} {scope : Scope} {own : List (Str × Nat)} {pos : Pos} {wi : TI} {g : TG} {tt : TT} {te : TE} (hc : X.calm = true) (hN : X.N.Nodup) (hi : PI X tg iter wi) (ok : BlkOk X.N X.env.scope scope own)
    (hg : ∀ (s : Shared) (H : Hp) (C : Addr) (cl : List (Str × Addr)) (fp : List Addr), PG (X.blk s H scope (compEnvC scope cl C X.env) fp) tg g) (ht : ∀ (s : Shared) (H : Hp) (C : Addr) (cl : List (Str × Addr)) (fp : List Addr), PTs (X.blk s H scope (compEnvC scope cl C X.env) fp) ifs tt)
    (he : ∀ (s : Shared) (H : Hp) (C : Addr) (cl : List (Str × Addr)) (fp : List Addr), PE (X.blk s H scope (compEnvC scope cl C X.env) fp) elt te) (hs : ∀ x, foldedSetIterable iter X.env x = pure x := by intro _; rfl) :
    PE X (.ListComp elt [⟨tg, iter, ifs, 0⟩] scope pos) (tLc wi g tt te (own.map (·.2))) := by
  intro pins s σ H Q I h
  rw [eval_ListComp]
  refine lc_core hc hN I hi ok hg ht he hs h fun D C s' m H' I' q hn f => ⟨m, hn, fun h'' sb => ?_⟩
  obtain ⟨f0, f1, f2, f3, f4, f5⟩ := f
  exact ⟨.ref D, H', I'.turned (t' := s'.toks) (fun b o hb e => (sb.2 b hb).trans e) f0 f1 f3 f4 f5, rfl, q⟩
end

/-- over a list that the block leaves as it is -/
theorem lc_list {K : PySem.W.Frag} {a : Addr} {xs : List V} {g : TG} {tt : TT} {te : TE} {vs : List Nat} {σ : St} {H1 : Hp} {D : Addr} {Qd : Hp → Prop} (Pv : Nat → Hp → Prop) (h0 : Pv 0 (upd H1 D (.lst []))) (hl : ∀ i H, i ≤ xs.length → Pv i H → SqL K H a xs)
    (hs : ∀ i x H, xs[i]? = some x → Pv i H → g x (wipe σ vs) H fun σ2 H2 => wipe σ2 vs = wipe σ vs ∧ tt σ2 H2 fun b H3 =>
      if b = true then te σ2 H3 fun y H4 => ∃ acc, H4 D = some (.lst acc) ∧ acc.length < sizeLine ∧ Pv (i + 1) (upd H4 D (.lst (acc ++ [y]))) else Pv (i + 1) H3) (hd : ∀ H, Pv xs.length H → Qd H) :
    ∃ W : Nat → Nat → Hp → Prop, (∃ m, W 0 m (upd H1 D (.lst []))) ∧ ∀ i m H, W i m H →
      ((Itl K a).stop i H ∧ Qd H) ∨ ((Itl K a).go i H ∧ ∃ Nx : Hp → Prop, (∀ H', Nx H' → ∃ m', m' < m ∧ W (i + 1) m' H') ∧ ∀ x H', (Itl K a).yld i H x H' → g x (wipe σ vs) H' fun σ2 H2 => wipe σ2 vs = wipe σ vs ∧ tt σ2 H2 fun b H3 =>
        if b = true then te σ2 H3 fun y H4 => ∃ acc, H4 D = some (.lst acc) ∧ acc.length < sizeLine ∧ Nx (upd H4 D (.lst (acc ++ [y]))) else Nx H3) := by
  refine ⟨fun i m H => m = xs.length - i ∧ i ≤ xs.length ∧ Pv i H, ⟨xs.length, by simp, Nat.zero_le _, h0⟩, ?_⟩
  rintro i m H ⟨rfl, hi, p⟩
  have q := hl i H hi p
  by_cases hlt : i < xs.length
  · refine .inr ⟨⟨xs, xs[i], q, by simp [hlt]⟩, Pv (i + 1), fun H' p' => ⟨xs.length - (i + 1), by omega, rfl, hlt, p'⟩, fun x H' y => ?_⟩
    obtain ⟨e, y⟩ := y
    subst e
    exact hs i x _ (y xs q) p
  · have e : i = xs.length := by omega
    subst e
    exact .inl ⟨⟨xs, q, Nat.le_refl _⟩, hd H p⟩
/-- over a tuple -/
theorem lc_tup {K : PySem.W.Frag} {a : Addr} {xs : List V} {g : TG} {tt : TT} {te : TE} {vs : List Nat} {σ : St} {H1 : Hp} {D : Addr} {Qd : Hp → Prop} (Pv : Nat → Hp → Prop) (h0 : Pv 0 (upd H1 D (.lst []))) (hl : ∀ i H, i ≤ xs.length → Pv i H → SqT K H a xs)
    (hs : ∀ i x H, xs[i]? = some x → Pv i H → g x (wipe σ vs) H fun σ2 H2 => wipe σ2 vs = wipe σ vs ∧ tt σ2 H2 fun b H3 =>
      if b = true then te σ2 H3 fun y H4 => ∃ acc, H4 D = some (.lst acc) ∧ acc.length < sizeLine ∧ Pv (i + 1) (upd H4 D (.lst (acc ++ [y]))) else Pv (i + 1) H3) (hd : ∀ H, Pv xs.length H → Qd H) :
    ∃ W : Nat → Nat → Hp → Prop, (∃ m, W 0 m (upd H1 D (.lst []))) ∧ ∀ i m H, W i m H →
      ((Itt K a).stop i H ∧ Qd H) ∨ ((Itt K a).go i H ∧ ∃ Nx : Hp → Prop, (∀ H', Nx H' → ∃ m', m' < m ∧ W (i + 1) m' H') ∧ ∀ x H', (Itt K a).yld i H x H' → g x (wipe σ vs) H' fun σ2 H2 => wipe σ2 vs = wipe σ vs ∧ tt σ2 H2 fun b H3 =>
        if b = true then te σ2 H3 fun y H4 => ∃ acc, H4 D = some (.lst acc) ∧ acc.length < sizeLine ∧ Nx (upd H4 D (.lst (acc ++ [y]))) else Nx H3) := by
  refine ⟨fun i m H => m = xs.length - i ∧ i ≤ xs.length ∧ Pv i H, ⟨xs.length, by simp, Nat.zero_le _, h0⟩, ?_⟩
  rintro i m H ⟨rfl, hi, p⟩
  have q := hl i H hi p
  by_cases hlt : i < xs.length
  · refine .inr ⟨⟨xs, xs[i], q, by simp [hlt]⟩, Pv (i + 1), fun H' p' => ⟨xs.length - (i + 1), by omega, rfl, hlt, p'⟩, fun x H' y => ?_⟩
    obtain ⟨e, y⟩ := y
    subst e
    exact hs i x _ (y xs q) p
  · have e : i = xs.length := by omega
    subst e
    exact .inl ⟨⟨xs, q, Nat.le_refl _⟩, hd H p⟩
def blkC (N : List Str) (sc scope : Scope) (own : List (Str × Nat)) : Bool :=
  (match scope.kind with | .function => true | _ => false) && (scope.names.all fun y => decide (scope.names.lookup y.1 = some y.2)) && (own.all fun p => decide (N[p.2]? = some p.1)) &&
    (scope.names.all fun y => match y.2 with
      | .free => (match sc.names.lookup y.1 with | some .cell => true | some .free => true | _ => false)
      | .local => decide (y.1 ∈ own.map (·.1)) || decide (y.1 ∉ N)
      | .cell => decide (y.1 ∈ own.map (·.1)) || decide (y.1 ∉ N)
      | _ => true)
theorem blkOk_by {N : List Str} {sc scope : Scope} {own : List (Str × Nat)} (h : blkC N sc scope own = true) : BlkOk N sc scope own := by
  unfold blkC at h
  simp only [Bool.and_eq_true, List.all_eq_true, decide_eq_true_eq] at h
  obtain ⟨⟨⟨h1, h2⟩, h3⟩, h4⟩ := h
  refine ⟨?_, h2, h3, fun y hy e => ?_, fun y hy e => ?_⟩
  · split at h1
    · assumption
    · cases h1
  · have q := h4 y hy
    simp only [e] at q
    split at q <;> first | exact .inl (by assumption) | exact .inr (by assumption) | cases q
  · have q := h4 y hy
    rcases e with e | e <;> (simp only [e, Bool.or_eq_true, decide_eq_true_eq] at q; exact q)
end L2

namespace L2
open PySem PySem.Spec PyProof.Rows

section
variable {prog : Program} {w : World} {A : Around} {R : Result → Shared → Prop} {s : Shared} {elt t0 i0 t1 i1 : Expr} {ifs0 ifs1 : List Expr} {scope : Scope} {pos : Pos} {it acc : Value} {env : Env}
end

section
variable {X : Cx}
end
end L2

namespace L2
open PySem PySem.Spec PyProof.Rows

section
variable {κ : Type} [DecidableEq κ]
def valV (kvs : List (κ × V)) (k : κ) : Option V := (kvs.find? fun kv => decide (kv.1 = k)).map (·.2)
/-- in its place, or at the end -/
def putK (kvs : List (κ × V)) (k : κ) (v : V) : List (κ × V) :=
  if (kvs.any fun kv => decide (kv.1 = k)) = true then kvs.map (fun kv => if kv.1 = k then (kv.1, v) else kv) else kvs ++ [(k, v)]
def dropK (kvs : List (κ × V)) (k : κ) : List (κ × V) := kvs.filter fun kv => decide (kv.1 ≠ k)

theorem valV_pos {p : κ × V} {r : List (κ × V)} {k : κ} (e : p.1 = k) : valV (p :: r) k = some p.2 := by simp [valV, List.find?_cons, e]
theorem valV_neg {p : κ × V} {r : List (κ × V)} {k : κ} (e : ¬ p.1 = k) : valV (p :: r) k = valV r k := by simp [valV, List.find?_cons, e]
theorem valV_any (k : κ) : ∀ kvs : List (κ × V), (kvs.any fun kv => decide (kv.1 = k)) = (valV kvs k).isSome
  | [] => rfl
  | p :: r => by
    rw [List.any_cons]
    by_cases e : p.1 = k
    · simp only [valV_pos e, decide_eq_true e, Bool.true_or, Option.isSome_some]
    · rw [valV_neg e, decide_eq_false e, Bool.false_or]; exact valV_any k r
theorem valV_map (k j : κ) (y : V) : ∀ kvs : List (κ × V), valV (kvs.map fun kv => if kv.1 = k then (kv.1, y) else kv) j = (valV kvs j).map fun x => if j = k then y else x
  | [] => rfl
  | p :: r => by
    have ih := valV_map k j y r
    rw [List.map_cons]
    by_cases h : p.1 = k
    · rw [if_pos h]
      by_cases e : p.1 = j
      · rw [valV_pos (p := (p.1, y)) e, valV_pos e, Option.map_some, if_pos (e.symm.trans h)]
      · rw [valV_neg (p := (p.1, y)) e, valV_neg e, ih]
    · rw [if_neg h]
      by_cases e : p.1 = j
      · rw [valV_pos (p := p) e, valV_pos e, Option.map_some, if_neg (fun z => h (e.trans z))]
      · rw [valV_neg (p := p) e, valV_neg e, ih]
theorem valV_snoc (k j : κ) (y : V) : ∀ kvs : List (κ × V), valV kvs k = none → valV (kvs ++ [(k, y)]) j = if j = k then some y else valV kvs j
  | [], _ => by
    by_cases e : k = j
    · rw [if_pos e.symm]; exact valV_pos (p := (k, y)) e
    · rw [if_neg (fun z => e z.symm)]; exact valV_neg (p := (k, y)) e
  | p :: r, hn => by
    rw [List.cons_append]
    have hk : ¬ p.1 = k := fun z => by rw [valV_pos z] at hn; cases hn
    rw [valV_neg hk] at hn
    have ih := valV_snoc k j y r hn
    by_cases e : p.1 = j
    · rw [valV_pos e, valV_pos e, if_neg (fun z => hk (e.trans z))]
    · rw [valV_neg e, valV_neg e, ih]
theorem valV_put (kvs : List (κ × V)) (k j : κ) (y : V) : valV (putK kvs k y) j = if j = k then some y else valV kvs j := by
  unfold putK
  by_cases a : (kvs.any fun kv => decide (kv.1 = k)) = true
  · rw [if_pos a, valV_map]
    rw [valV_any] at a
    by_cases e : j = k
    · obtain ⟨x, hx⟩ := Option.isSome_iff_exists.mp a
      rw [if_pos e, e, hx, Option.map_some, if_pos rfl]
    · rw [if_neg e]
      cases valV kvs j with
      | none => rfl
      | some x => rw [Option.map_some, if_neg e]
  · rw [if_neg a]
    refine valV_snoc k j y kvs ?_
    rw [valV_any] at a
    cases q : valV kvs k with
    | none => rfl
    | some x => rw [q] at a; exact (a rfl).elim
theorem length_putK (kvs : List (κ × V)) (k : κ) (v : V) : (putK kvs k v).length ≤ kvs.length + 1 := by
  unfold putK
  split
  · rw [List.length_map]; omega
  · rw [List.length_append, List.length_cons, List.length_nil]; omega
theorem putK_new {kvs : List (κ × V)} {k : κ} (v : V) (h : valV kvs k = none) : putK kvs k v = kvs ++ [(k, v)] := by
  unfold putK
  rw [valV_any, h]
  exact if_neg (by decide)

theorem RelO.isSome_eq {o : Option V} {u : Option Value} (r : RelO o u) : o.isSome = u.isSome := by
  cases o with
  | none => cases u with
    | none => rfl
    | some _ => exact (show False from r).elim
  | some _ => cases u with
    | none => exact (show False from r).elim
    | some _ => rfl
theorem RelO.getD {o : Option V} {u : Option Value} {d : V} {d' : Value} (r : RelO o u) (rd : RelV d d') : RelV (o.getD d) (u.getD d') := by
  cases o with
  | none => cases u with
    | none => exact rd
    | some _ => exact (show False from r).elim
  | some _ => cases u with
    | none => exact (show False from r).elim
    | some _ => exact r

/-- raw tables of the same keys -/
theorem KV.val {kvs : List (κ × V)} {vs : List (κ × Value)} (r : KV kvs vs) (k : κ) : RelO (valV kvs k) (valueAt vs k) := by
  unfold KV at r
  induction r with
  | nil => exact True.intro
  | @cons p q ps qs h t ih =>
    obtain ⟨h1, h2⟩ := h
    by_cases e : p.1 = k
    · have e' : q.1 = k := h1.symm.trans e
      have b : valueAt (q :: qs) k = some q.2 := by simp [valueAt, List.find?_cons, e']
      rw [valV_pos e, b]; exact h2
    · have e' : ¬ q.1 = k := fun z => e (h1.trans z)
      have b : valueAt (q :: qs) k = valueAt qs k := by simp [valueAt, List.find?_cons, e']
      rw [valV_neg e, b]; exact ih
theorem KV.any {kvs : List (κ × V)} {vs : List (κ × Value)} (r : KV kvs vs) (k : κ) : (kvs.any fun kv => decide (kv.1 = k)) = vs.any fun kv => decide (kv.1 = k) := by
  unfold KV at r
  induction r with
  | nil => rfl
  | cons h t ih => rw [List.any_cons, List.any_cons, ih, h.1]
theorem KV.repl {kvs : List (κ × V)} {vs : List (κ × Value)} (r : KV kvs vs) (k : κ) {y : V} {u : Value} (ry : RelV y u) :
    KV (kvs.map fun kv => if kv.1 = k then (kv.1, y) else kv) (vs.map fun kv => if kv.1 = k then (kv.1, u) else kv) := by
  unfold KV at r ⊢
  induction r with
  | nil => exact .nil
  | @cons p q ps qs h t ih =>
    rw [List.map_cons, List.map_cons]
    refine .cons ?_ ih
    obtain ⟨h1, h2⟩ := h
    by_cases e : p.1 = k
    · rw [if_pos e, if_pos (h1.symm.trans e)]; exact ⟨h1, ry⟩
    · rw [if_neg e, if_neg (fun z => e (h1.trans z))]; exact ⟨h1, h2⟩
theorem KV.put {kvs : List (κ × V)} {vs : List (κ × Value)} (r : KV kvs vs) (k : κ) {y : V} {u : Value} (ry : RelV y u) : KV (putK kvs k y) (stored vs k u) := by
  unfold putK stored
  rw [r.any k]
  by_cases e : (vs.any fun kv => decide (kv.1 = k)) = true
  · rw [if_pos e, if_pos e]; exact r.repl k ry
  · rw [if_neg e, if_neg e]; exact Paired.snoc r ⟨rfl, ry⟩
theorem KV.drop {kvs : List (κ × V)} {vs : List (κ × Value)} (r : KV kvs vs) (k : κ) : KV (dropK kvs k) (without vs k) := by
  unfold KV at r ⊢
  unfold dropK without
  induction r with
  | nil => exact .nil
  | @cons p q ps qs h t ih =>
    obtain ⟨h1, h2⟩ := h
    rw [List.filter_cons, List.filter_cons]
    by_cases e : p.1 = k
    · have a : ¬ decide (p.1 ≠ k) = true := by simp [e]
      have b : ¬ decide (q.1 ≠ k) = true := by simp [h1.symm.trans e]
      rw [if_neg a, if_neg b]; exact ih
    · have e' : ¬ q.1 = k := fun z => e (h1.trans z)
      have a : decide (p.1 ≠ k) = true := by simp [e]
      have b : decide (q.1 ≠ k) = true := by simp [e']
      rw [if_pos a, if_pos b]; exact .cons ⟨h1, h2⟩ ih
theorem KV.keys {kvs : List (κ × V)} {vs : List (κ × Value)} (r : KV kvs vs) : kvs.map (·.1) = vs.map (·.1) := by
  unfold KV at r
  induction r with
  | nil => rfl
  | cons h t ih => rw [List.map_cons, List.map_cons, ih, h.1]
theorem KV.length {kvs : List (κ × V)} {vs : List (κ × Value)} (r : KV kvs vs) : kvs.length = vs.length := Paired.length r
end


theorem kV_is {P : Program} {w : World} {k : Key} {u : Value} (r : RelV (kV k) u) : (mixKind P w).is k u = true := by
  cases k with
  | inl i => obtain ⟨t, e⟩ := (show ∃ t, u = Value.int i t from r); subst e; exact mixKind_int P w i t
  | inr x => obtain ⟨t, e⟩ := (show ∃ t, u = Value.str x t from r); subst e; exact mixKind_str P w x t
theorem items_are {P : Program} {w : World} : ∀ {ks : List Key} {us : List Value}, Vals (ks.map kV) us → ItemsAre (mixKind P w) ks us
  | [], _, r => by rw [List.map_nil] at r; cases r; exact .nil
  | k :: ks, _, r => by
    rw [List.map_cons] at r
    cases r with
    | cons h t => exact .cons (kV_is h) (items_are t)

/-- raw entries of a dict with tuple keys -/
abbrev KT (H : Hp) : List (List Key × V) → List (List Key × Addr × Value) → Prop := Paired fun p q => p.1 = q.1 ∧ H q.2.1 = some (.tup (p.1.map kV)) ∧ RelV p.2 q.2.2
theorem KT.val {H : Hp} {kvs : List (List Key × V)} {xs : List (List Key × Addr × Value)} (r : KT H kvs xs) (k : List Key) : RelO (valV kvs k) ((atKey xs k).map (·.2)) := by
  induction r with
  | nil => exact True.intro
  | @cons p q ps qs h t ih =>
    obtain ⟨h1, _, h2⟩ := h
    by_cases e : p.1 = k
    · have e' : q.1 = k := h1.symm.trans e
      have b : atKey (q :: qs) k = some q.2 := by simp [atKey, List.find?_cons, e']
      rw [valV_pos e, b]; exact h2
    · have e' : ¬ q.1 = k := fun z => e (h1.trans z)
      have b : atKey (q :: qs) k = atKey qs k := by simp [atKey, List.find?_cons, e']
      rw [valV_neg e, b]; exact ih
theorem KT.repl {H : Hp} {kvs : List (List Key × V)} {xs : List (List Key × Addr × Value)} (r : KT H kvs xs) (k : List Key) {y : V} {u : Value} (ry : RelV y u) :
    KT H (kvs.map fun kv => if kv.1 = k then (kv.1, y) else kv) (xs.map (putAt k u)) := by
  induction r with
  | nil => exact .nil
  | @cons p q ps qs h t ih =>
    rw [List.map_cons, List.map_cons]
    refine .cons ?_ ih
    obtain ⟨h1, h2, h3⟩ := h
    unfold putAt
    by_cases e : p.1 = k
    · rw [if_pos e, if_pos (h1.symm.trans e)]; exact ⟨h1, h2, ry⟩
    · rw [if_neg e, if_neg (fun z => e (h1.trans z))]; exact ⟨h1, h2, h3⟩
theorem KT.put {H : Hp} {kvs : List (List Key × V)} {xs : List (List Key × Addr × Value)} (r : KT H kvs xs) (k : List Key) {b : Addr} {y : V} {u : Value} (hb : H b = some (.tup (k.map kV))) (ry : RelV y u) :
    KT H (putK kvs k y) (storedH xs k b u) := by
  have e : (kvs.any fun kv => decide (kv.1 = k)) = (atKey xs k).isSome := by
    rw [valV_any, (r.val k).isSome_eq, Option.isSome_map]
  unfold putK storedH
  rw [e]
  by_cases q : (atKey xs k).isSome = true
  · rw [if_pos q, if_pos q]; exact r.repl k ry
  · rw [if_neg q, if_neg q]; exact Paired.snoc r ⟨rfl, hb, ry⟩
theorem KT.keeps {H H' : Hp} {kvs : List (List Key × V)} {xs : List (List Key × Addr × Value)} (r : KT H kvs xs) (ht : ∀ b ys, H b = some (.tup ys) → H' b = some (.tup ys)) : KT H' kvs xs :=
  Paired.mapP r fun _ _ z => ⟨z.1, ht _ _ z.2.1, z.2.2⟩

section
variable {P : Program} {w : World} {H : Hp} {h : Heap} {a : Addr}
theorem rd_of {u : HO} (ok : HOk P w H h) (e : Rd H a u) : ObjOk P w H h a u := e.ok ok
theorem dk_rd {kvs : List (Key × V)} (ok : HOk P w H h) (e : Rd H a (.dK kvs)) : kvs.length ≤ sizeLine ∧ (a == sysModules) = false ∧ ∃ vs, KV kvs vs ∧ h.DictOf (mixKind P w) a vs :=
  show ObjOk P w H h a (.dK kvs) from rd_of ok e
theorem dk_of {kvs : List (Key × V)} (ok : HOk P w H h) (e : H a = some (.dK kvs)) : kvs.length ≤ sizeLine ∧ (a == sysModules) = false ∧ ∃ vs, KV kvs vs ∧ h.DictOf (mixKind P w) a vs := dk_rd ok (.inl e)
/-- a tracked tuple of ints and texts is a key -/
theorem key_of {ks : List Key} (ok : HOk P w H h) (e : H a = some (.tup (ks.map kV))) : (tupleKind (mixKind P w)).is h ks a := by
  obtain ⟨_, its, r, o, h1, h2, n, h3⟩ := (show ObjOk P w H h a (.tup (ks.map kV)) from ok a _ e)
  exact ⟨o, its.toArray, n, h1, h2, h3, by simpa using items_are r⟩
theorem dt_rd {kvs : List (List Key × V)} (ok : HOk P w H h) (e : Rd H a (.dT kvs)) : kvs.length ≤ sizeLine ∧ (a == sysModules) = false ∧
    ∃ xs, KT H kvs xs ∧ h.DictOfH (tupleKind (mixKind P w)) a xs := by
  obtain ⟨z, y, xs, r, o, es, ep, h1, h2, h3, h4, h5⟩ := (show ObjOk P w H h a (.dT kvs) from rd_of ok e)
  refine ⟨z, y, xs, r, o, es, ep, h1, h2, h3, h4, fun x hx => ?_, h5⟩
  have all : ∀ {l : List (List Key × V)} {m : List (List Key × Addr × Value)}, KT H l m → ∀ x ∈ m, (tupleKind (mixKind P w)).is h x.1 x.2.1 := by
    intro l m q
    induction q with
    | nil => intro x hx; exact nomatch hx
    | @cons p q ps qs hq t ih =>
      intro x hx
      rcases List.mem_cons.mp hx with e | hx
      · subst e
        exact key_of ok (by rw [← hq.1]; exact hq.2.1)
      · exact ih x hx
  exact all r x hx
theorem dt_of {kvs : List (List Key × V)} (ok : HOk P w H h) (e : H a = some (.dT kvs)) : kvs.length ≤ sizeLine ∧ (a == sysModules) = false ∧
    ∃ xs, KT H kvs xs ∧ h.DictOfH (tupleKind (mixKind P w)) a xs := dt_rd ok (.inl e)
end

/-- what the dict at a holds at the key y -/
def DGet (H : Hp) (a : Addr) (y : V) (r : Option V) : Prop :=
  (∃ kvs k, Rd H a (.dK kvs) ∧ y = kV k ∧ r = valV kvs k) ∨ ∃ kvs k b, Rd H a (.dT kvs) ∧ y = .ref b ∧ H b = some (.tup (k.map kV)) ∧ r = valV kvs k
/-- the heap behind a[y] = v -/
def DPut (H : Hp) (a : Addr) (y v : V) (H' : Hp) : Prop :=
  (∃ kvs k, H a = some (.dK kvs) ∧ y = kV k ∧ kvs.length < sizeLine ∧ H' = upd H a (.dK (putK kvs k v))) ∨
  ∃ kvs k b, H a = some (.dT kvs) ∧ y = .ref b ∧ H b = some (.tup (k.map kV)) ∧ kvs.length < sizeLine ∧ H' = upd H a (.dT (putK kvs k v))
theorem DGet.k {H : Hp} {a : Addr} {kvs : List (Key × V)} {k : Key} (e : H a = some (.dK kvs)) : DGet H a (kV k) (valV kvs k) := .inl ⟨kvs, k, .inl e, rfl, rfl⟩
theorem DGet.t {H : Hp} {a b : Addr} {kvs : List (List Key × V)} {k : List Key} (e : H a = some (.dT kvs)) (eb : H b = some (.tup (k.map kV))) : DGet H a (.ref b) (valV kvs k) := .inr ⟨kvs, k, b, .inl e, rfl, eb, rfl⟩
theorem DPut.k {H : Hp} {a : Addr} {kvs : List (Key × V)} {k : Key} {v : V} (e : H a = some (.dK kvs)) (hl : kvs.length < sizeLine) : DPut H a (kV k) v (upd H a (.dK (putK kvs k v))) := .inl ⟨kvs, k, e, rfl, hl, rfl⟩
theorem DPut.t {H : Hp} {a b : Addr} {kvs : List (List Key × V)} {k : List Key} {v : V} (e : H a = some (.dT kvs)) (eb : H b = some (.tup (k.map kV))) (hl : kvs.length < sizeLine) :
    DPut H a (.ref b) v (upd H a (.dT (putK kvs k v))) := .inr ⟨kvs, k, b, e, rfl, eb, hl, rfl⟩


section
variable {X : Cx} {pins : List (Addr × Obj)} {σ : St} {H : Hp} {s : Shared} {a : Addr} {y v : V} {u r : Value} {o : Option V} {A : Around} {E : Value → Shared → Prop}

theorem Inv.big (I : Inv X pins σ H s) : sysModules < s.heap.objs.size := by
  have h : mainGlobals < s.heap.objs.size := (I.mod.glob.keeps I.bk).lt
  exact Nat.lt_trans (by decide) h

/-- d[y], there -/
theorem d_getItem {Q : Value → Shared → Prop} (hu : A.units + 1 < cLine) (I : Inv X pins σ H s) (g : DGet H a y (some v)) (ry : RelV y u) (h : ∀ w' s', Inv X pins σ H s' → RelV v w' → Q w' s') :
    wpAny (model X.prog X.w) A (getItem (.ref a) u) Q E s := by
  rcases g with ⟨kvs, k, e, ey, l⟩ | ⟨kvs, k, b, e, ey, eb, l⟩
  · subst ey
    obtain ⟨z, hd, vs, rel, dd⟩ := dk_rd I.hok e
    obtain ⟨w', hw, rw'⟩ := RelO.some_of (v := v) (o := valueAt vs k) (by rw [l]; exact rel.val k)
    exact wpAny_getItem_of (kV_is ry) dd.mapOf hw (h w' _ (I.tok _) rw')
  · subst ey
    cases (show u = Value.ref b from ry)
    obtain ⟨z, hd, xs, rel, dd⟩ := dt_rd I.hok e
    obtain ⟨w', hw, rw'⟩ := RelO.some_of (v := v) (o := (atKey xs k).map (·.2)) (by rw [l]; exact rel.val k)
    obtain ⟨p, hp, hp2⟩ := Option.map_eq_some_iff.mp hw
    refine wpAny_getItem_heap (tupleKind_room_in1 hu) (key_of I.hok eb) dd hp ?_
    rw [hp2]
    exact h w' _ (I.tok _) rw'
theorem d_notIn {Q : Value → Shared → Prop} (hu : A.units + 1 < cLine) (I : Inv X pins σ H s) (g : DGet H a y o) (ry : RelV y u) (h : ∀ s', Inv X pins σ H s' → Q (.bool (!o.isSome)) s') :
    wpAny (model X.prog X.w) A (compareOp .NotIn u (.ref a)) Q E s := by
  rcases g with ⟨kvs, k, e, ey, l⟩ | ⟨kvs, k, b, e, ey, eb, l⟩
  · subst ey
    obtain ⟨z, hd, vs, rel, dd⟩ := dk_rd I.hok e
    refine wpAny_notIn_of (kV_is ry) hd dd.mapOf ?_
    rw [← (rel.val k).isSome_eq, ← l]
    exact h _ (I.tok _)
  · subst ey
    cases (show u = Value.ref b from ry)
    obtain ⟨z, hd, xs, rel, dd⟩ := dt_rd I.hok e
    refine wpAny_notIn_heap (tupleKind_room_in1 hu) (key_of I.hok eb) hd dd ?_
    have q := (rel.val k).isSome_eq
    rw [Option.isSome_map] at q
    rw [← q, ← l]
    exact h _ (I.tok _)
/-- a dict's object is replaced -/
theorem d_write {h' : Heap} {t' : Nat} {ob : HO} (I : Inv X pins σ H s) (mu : Mut (H a)) (hs : Heap.SameBut a s.heap h') (he : ∃ q, h'.get? a = some q) (new : ObjOk X.prog X.w (upd H a ob) h' a ob) :
    Inv X pins σ (upd H a ob) { s with heap := h', toks := t' } :=
  I.write (x := a) (e := a) mu (.inl rfl) (fun b q hb z => (hs.2 b hb).trans z) he new
theorem dk_new {P : Program} {w : World} {H' : Hp} {h' : Heap} {kvs : List (Key × V)} {vs : List (Key × Value)} (z : kvs.length ≤ sizeLine) (hd : (a == sysModules) = false) (rel : KV kvs vs) (dd : h'.DictOf (mixKind P w) a vs) :
    ObjOk P w H' h' a (.dK kvs) := ⟨z, hd, vs, rel, dd⟩
/-- d[y] = v -/
theorem d_setItem {H' : Hp} {Q : Unit → Shared → Prop} (hu : A.units + 1 < cLine) (I : Inv X pins σ H s) (g : DPut H a y v H') (ry : RelV y u) (rv : RelV v r) (h : ∀ s', Inv X pins σ H' s' → Q () s') :
    wpAny (model X.prog X.w) A (setItem (.ref a) u r) Q E s := by
  rcases g with ⟨kvs, k, e, ey, l, eH⟩ | ⟨kvs, k, b, e, ey, eb, l, eH⟩
  · subst ey eH
    obtain ⟨z, hd, vs, rel, dd⟩ := dk_of I.hok e
    have hz : vs.length ≤ sizeLine := by rw [← rel.length]; exact z
    have hl : (putK kvs k v).length ≤ sizeLine := by have := length_putK kvs k v; omega
    refine wpAny_setItem_pairs (hsz := hz) (kV_is ry) dd fun h' dd' hs => h _ ?_
    have he : ∃ q, h'.get? a = some q := let ⟨q, _, _, hq, _⟩ := dd'; ⟨q, hq⟩
    exact d_write I (by rw [e]; exact True.intro) hs he (dk_new hl hd (rel.put k rv) dd')
  · subst ey eH
    cases (show u = Value.ref b from ry)
    obtain ⟨z, hd, xs, rel, dd⟩ := dt_of I.hok e
    have hz : xs.length ≤ sizeLine := by rw [← Paired.length rel]; exact z
    have hl : (putK kvs k v).length ≤ sizeLine := by have := length_putK kvs k v; omega
    refine wpAny_setItem_heap (hsz := hz) (tupleKind_room_in1 hu) (key_of I.hok eb) dd fun h' dd' hs => h _ ?_
    obtain ⟨q, es, ep, hq, h2, h3, h4, _, h5⟩ := dd'
    refine d_write I (by rw [e]; exact True.intro) hs ⟨q, hq⟩ ⟨hl, hd, _, (rel.put k eb rv).keeps fun c ys ec => ?_, q, es, ep, hq, h2, h3, h4, h5⟩
    rw [upd_ne (ne_of ec e (fun z => nomatch z))]
    exact ec
end

section
variable {X : Cx} {pins : List (Addr × Obj)} {σ : St} {H : Hp} {s : Shared} {a : Addr} {kvs : List (Key × V)} {k : Key} {u : Value} {A : Around} {E : Value → Shared → Prop}
end


/-- the element of a subscription, not a slice -/
def NoSl (i : Expr) : Prop := ∀ ov iv, subscripted i false ov iv = operate [ov, iv] (getItem ov iv)
theorem subD_of {prog : Program} {w : World} {A : Around} {E : Value → Shared → Prop} {s : Shared} {env : Env} {value slice : Expr} {pos : Pos} {T id : String} {Q : Value → Shared → Prop}
    (hl : typeLookup (.type T) "__getitem__" = pure (some (.builtin id))) (hs : NoSl slice)
    (h : wpAny (model prog w) A (eval value env) (fun o s₁ => wpAny (model prog w) A (eval slice env) (fun i s₂ => s₂.TypeIs o T ∧ wpAny (model prog w) A (getItem o i) Q E s₂) E s₁) E s) :
    wpAny (model prog w) A (eval (.Subscript value slice pos) env) Q E s := by
  refine Subscript_ (wpAny_mono h (fun o s₁ h₁ => wpAny_mono h₁ (fun i s₂ h₂ => ?_) fun _ _ x => x) fun _ _ x => x)
  obtain ⟨hT, h₂⟩ := h₂
  unfold subscriptTail
  refine wpAny_bind ?_
  rw [getitemInPython_of_ne hT.not_modules]
  refine wpAny_bind (wpAny_specialOf hT hl ?_)
  have fin : wpAny (model prog w) A (subscripted slice false o i) (fun r s₃ => wpAny (model prog w) A (letTemporaryGo value o r >>= fun _ => pure r) Q E s₃) E s₂ := by
    rw [hs o i]
    exact wpAny_operating (wpAny_mono h₂ (fun r s₃ h₃ => wpAny_bind (wpAny_letTemporaryGo (wpAny_pure h₃))) fun _ _ x => x)
  first
    | exact wpAny_pure (wpAny_bind fin)
    | exact wpAny_bind (wpAny_pure (wpAny_bind fin))
    | exact wpAny_bind fin

theorem dict_typeIs {X : Cx} {pins : List (Addr × Obj)} {σ : St} {H : Hp} {s : Shared} {a : Addr} {y : V} {o : Option V} (I : Inv X pins σ H s) (g : DGet H a y o) : s.TypeIs (.ref a) "dict" := by
  rcases g with ⟨kvs, k, e, _, _⟩ | ⟨kvs, k, b, e, _, _, _⟩
  · obtain ⟨_, _, vs, _, dd⟩ := dk_rd I.hok e
    exact dd.typeIs
  · obtain ⟨_, _, xs, _, dd⟩ := dt_rd I.hok e
    exact dd.typeIs
/-- d[y] -/
def tDGet (td ty : TE) : TE := fun σ H Q => td σ H fun x H1 => ty σ H1 fun y H2 => ∃ a v, x = .ref a ∧ DGet H2 a y (some v) ∧ Q v H2
def tDNotIn (ty td : TE) : TE := fun σ H Q => ty σ H fun y H1 => td σ H1 fun x H2 => ∃ a o, x = .ref a ∧ DGet H2 a y o ∧ Q (.bl (!o.isSome)) H2
/-- d[y] = v -/
def sDPut (td ty tv : TE) : TS := fun D σ H => tv σ H fun v H1 => td σ H1 fun x H2 => ty σ H2 fun y H3 => ∃ a H4, x = .ref a ∧ DPut H3 a y v H4 ∧ D.nx σ H4
section
variable {X : Cx} {o i e value : Expr} {pos pos' tpos : Pos} {td ty tv : TE}
theorem pe_dget (hu : X.A.units + 1 < cLine) (ho : PE X o td) (hi : PE X i ty) (hs : NoSl i) : PE X (.Subscript o i pos) (tDGet td ty) := by
  intro pins s σ H Q I h
  refine subD_of PySem.F.slot_dict_getitem.lookup hs (thn (ho pins s σ H _ I h) fun u s1 ⟨x, H1, I1, rx, q1⟩ => thn (hi pins s1 σ H1 _ I1 q1) fun iv s2 ⟨y, H2, I2, ry, a, v, ex, g, q2⟩ => ?_)
  subst ex
  obtain rfl : u = Value.ref a := rx
  exact ⟨dict_typeIs I2 g, d_getItem hu I2 g ry fun w' s3 I3 rw' => ⟨v, H2, I3, rw', q2⟩⟩
theorem pc_dnotin (hu : X.A.units + 1 < cLine) (hi : PE X i ty) (ho : PE X o td) : PC X .NotIn i o (tDNotIn ty td) := by
  intro pins s σ H Q I h
  refine thn (hi pins s σ H _ I h) fun iv s1 ⟨y, H1, I1, ry, q1⟩ => thn (ho pins s1 σ H1 _ I1 q1) fun u s2 ⟨x, H2, I2, rx, a, ov, ex, g, q2⟩ => ?_
  subst ex
  obtain rfl : u = Value.ref a := rx
  exact d_notIn hu I2 g ry fun s3 I3 => ⟨.bl (!ov.isSome), H2, I3, rfl, q2⟩
theorem ps_dput (hu : X.A.units + 1 < cLine) (ho : PE X o td) (hi : PE X i ty) (hv : PE X value tv) (hs : swapsWith value (some (.Subscript o i pos')) pos.line X.env = pure false) :
    PS X (.Assign [.Subscript o i pos'] value pos) (sDPut td ty tv) := by
  intro pins s σ H D I h
  refine wpAny_Assign_Subscript (thn (hv pins s σ H _ I h) fun r s1 ⟨v, H1, I1, rv, q1⟩ => thn (ho pins s1 σ H1 _ I1 q1) fun u s2 ⟨x, H2, I2, rx, q2⟩ => thn (hi pins s2 σ H2 _ I2 q2) fun iv s3 ⟨y, H3, I3, ry, a, H4, ex, g, q3⟩ => ?_) hs
  subst ex
  obtain rfl : u = Value.ref a := rx
  exact d_setItem hu I3 g ry rv fun s4 I4 => ⟨σ, H4, I4, q3⟩
end


theorem dt_empty {P : Program} {w : World} {H : Hp} (h : Heap) (hb : sysModules < h.objs.size) : ObjOk P w H (h.push { cls := .type "dict", data := .dict #[] }) h.objs.size (.dT []) :=
  ⟨Nat.zero_le _, beq_eq_false_iff_ne.mpr (Ne.symm (Nat.ne_of_lt hb)), [], .nil, _, #[], 0, Heap.get?_push_size _ rfl, ⟨rfl, rfl, rfl⟩, rfl, rfl, List.nodup_nil⟩
section
variable {X : Cx} {pos : Pos}
end

section
variable {X : Cx} {pins : List (Addr × Obj)} {σ : St} {H : Hp} {s : Shared} {a : Addr} {y d : V} {u r : Value} {o : Option V} {A : Around} {E : Value → Shared → Prop}
end

section
variable {X : Cx} {o e f : Expr} {apos cpos : Pos} {td ty tx : TE}
end

section
variable {X : Cx} {pins : List (Addr × Obj)} {σ : St} {H : Hp} {s : Shared} {a : Addr} {kvs : List (Key × V)} {A : Around} {E : Value → Shared → Prop}
end


section
variable {X : Cx} {pins : List (Addr × Obj)} {σ : St} {H : Hp} {s : Shared} {a : Addr} {y : V} {u : Value} {A : Around} {E : Value → Shared → Prop}
end
end L2

namespace L2
open PySem PySem.Spec PyProof.Rows

section
variable {prog : Program} {w : World} {A : Around} {E : Value → Shared → Prop}
end

section
variable {X : Cx}
end
end L2

namespace L2
open PySem PySem.Spec PyProof.Rows

section
variable {X : Cx} {pins : List (Addr × Obj)} {σ : St} {H : Hp} {s : Shared} {h' : Heap}
end
section
variable {X : Cx}
end

section
variable {X : Cx} {tg : Expr}
end
section
variable {X : Cx} {tg : Expr}
end

section
variable {prog : Program} {w : World} {A : Around} {E : Value → Shared → Prop} {s : Shared}
end

section
variable {X : Cx} {pins : List (Addr × Obj)} {σ : St} {H : Hp} {s : Shared} {d : Addr} {o : Obj}
end

section
variable {P : Program} {w : World} {K : PySem.W.Frag} {tg : Expr} {d : Addr} {o : Obj} {es : Array DictEntry} {ep : Nat}
end

section
variable {X : Cx} {tg e : Expr} {td : TE} {apos cpos : Pos}
end

end L2

section 
namespace Bits
open PySem PyProof.Rows

end Bits
end 

section 
namespace TL
open PySem PySem.Builtin PySem.Builtin.Str PySem.StrLaws

abbrev tl (x : Str) : List Nat := x.cps.toList
/-- S stands at the head of l -/
def pre (S l : List Nat) : Bool := l.take S.length == S
/-- what stands before the first S, and behind it -/
def par (S : List Nat) : List Nat → List Nat → Option (List Nat × List Nat)
  | _, [] => none
  | acc, c :: r => if pre S (c :: r) = true then some (acc, (c :: r).drop S.length) else par S (acc ++ [c]) r

theorem pre_of_head {s c : Nat} (S r : List Nat) (h : c ≠ s) : pre (s :: S) (c :: r) = false := by
  cases hp : pre (s :: S) (c :: r) with
  | false => rfl
  | true =>
    have e : (c :: r).take (s :: S).length = s :: S := eq_of_beq hp
    rw [List.length_cons, List.take_succ_cons] at e
    injection e with e1 e2
    exact absurd e1 h
/-- the separator's first sign is not in the part -/
theorem free_of {s : Nat} {S p q : List Nat} (h : s ∉ p) : ∀ i, i < p.length → pre (s :: S) ((p ++ q).drop i) = false := fun i hi => by
  have hlt : i < (p ++ q).length := by rw [List.length_append]; omega
  have e : (p ++ q).drop i = (p ++ q)[i] :: (p ++ q).drop (i + 1) := List.drop_eq_getElem_cons hlt
  rw [e]
  refine pre_of_head _ _ fun z => h ?_
  have e1 : (p ++ q)[i] = p[i] := List.getElem_append_left hi
  rw [← z, e1]
  exact List.getElem_mem hi
end TL
end 

namespace L2
open PySem PySem.Spec PyProof.Rows

section
variable {X : Cx} {pins : List (Addr × Obj)} {σ : St} {H : Hp} {s : Shared} {Q : VK}
end

section
variable {X : Cx}

end

section
variable {X : Cx} {o e : Expr} {to te : TE}
end
end L2

namespace L2
open PySem PySem.Spec PyProof.Rows

section
variable {X : Cx}
end

theorem IsPart.raw {v : Value} {o : Option Int} (p : IsPart v o) : ∃ l : Option (Int × Tok), v = partValue l ∧ l.map (·.1) = o := by
  cases p with
  | none => exact ⟨none, rfl, rfl⟩
  | int i t => exact ⟨some (i, t), rfl, rfl⟩

end L2

namespace Att
open PySem PySem.W PySem.Calls PyProof.Rows

section
variable {prog : Program} {w : World} {A : Around} {E : Value → Shared → Prop} {s : Shared} {K : Frag}

end
end Att

namespace L2
open PySem PySem.Spec PyProof.Rows

end L2

namespace L2
open PySem PySem.Spec PyProof.Rows

end L2


namespace L2
open PySem PySem.Spec PyProof.Rows

/-- the j-th statement of a class's body -/
def inClass (s : Stmt) (j : Nat) : Stmt := match s with
  | .ClassDef _ _ _ body _ _ _ _ _ _ _ => body.getD j (.Pass ⟨0, 0, 0, 0⟩)
  | _ => .Pass ⟨0, 0, 0, 0⟩
def defArgs (s : Stmt) : Arguments := match s with
  | .FunctionDef _ a _ _ _ _ _ _ _ _ => a
  | _ => { posonlyargs := [], args := [], vararg := none, kwonlyargs := [], kw_defaults := [], kwarg := none, defaults := [] }
def defBody (s : Stmt) : List Stmt := match s with
  | .FunctionDef _ _ b _ _ _ _ _ _ _ => b
  | _ => []
def defScope (s : Stmt) : Scope := match s with
  | .FunctionDef _ _ _ _ _ _ sc _ _ _ => sc
  | _ => { kind := .function, names := [], isGenerator := false, isCoroutine := false }

abbrev CX0 : CXT := fun _ _ _ _ _ _ => False
abbrev E0 : XK := fun _ _ _ => False
theorem pass0 {X : Cx} : Passes CX0 X E0 := fun _ _ _ _ _ _ _ h => h.elim

structure Fun (K : PySem.W.Frag) (x qual : Str) (st : Stmt) (f : Addr) (fd : FuncData) : Prop where
  ex : ∃ (oc : Value) (od : Option Addr) (kV doc pm : Value) (an : Option Addr) (cdv ct : Value) (osl : Array (Option Value)),
    fd = PySem.W.fnOf x qual (defArgs st) (defBody st) (defScope st) .none kV doc pm an cdv ct ∧ K.lookup f = some ⟨oc, od, .func fd, osl⟩ ∧ PySem.W.codeIn K cdv qual = true
  kp : PySem.W.keepIn K (.ref f) = true
section
variable {P : Program} {w : World} {K : PySem.W.Frag} {mg : Str → Option Value} {base : Heap}
/-- THE RULE for a def: its body as a term of rules, and the reading of that term -/
theorem Fun.ok {x qual : Str} {st : Stmt} {f : Addr} {fd : FuncData} {N ps : List Str} {k : Nat} {sp : Sp} (F : Fun K x qual st f fd) (S : FnScope N ps (defScope st)) (len : ∀ vs H Q E, sp vs H Q E → vs.length = ps.length)
    (hbody : ∀ (cdv : Value) (A : Around) (outer : List Env) (s : Shared) (H : Hp) (vs : List V) (Q : VK) (E : XK), Room k (A.deeper (envOfC qual (defScope st) s.heap.objs.size f cdv)) → sp vs H Q E →
      ∃ t, PSs (cxOf CX0 P w K mg base N qual (defScope st) f cdv A outer s H E).nox (defBody st) t ∧ t { nx := fun _ H' => Q .non H', rt := Q } (start N vs) H) : FnOk P w K mg base CX0 (k + 1) f fd ps sp := by
  obtain ⟨oc, od, kV, doc, pm, an, cdv, ct, osl, rfl, lk, hcd⟩ := F.ex
  refine fn_of lk hcd S len fun A outer s H vs Q E hr hsp => ?_
  obtain ⟨t, h, q⟩ := hbody cdv A outer s H vs Q E hr hsp
  exact ⟨t, h.nox, q⟩
/-- how its arguments bind (no defaults): h is «fun _ _ _ _ _ _ us hl => match us, hl with | [_, _], _ => rfl», one _ a parameter -/
theorem Fun.binds {x qual : Str} {st : Stmt} {f : Addr} {fd : FuncData} {ps : List Str} (F : Fun K x qual st f fd)
    (h : ∀ (kV doc pm : Value) (an : Option Addr) (cdv ct : Value) (us : List Value), us.length = ps.length → bindArgs (PySem.W.fnOf x qual (defArgs st) (defBody st) (defScope st) .none kV doc pm an cdv ct) ⟨us, []⟩ = pure (ps.zip us)) : Binds K fd ps [] := by
  obtain ⟨oc, od, kV, doc, pm, an, cdv, ct, osl, rfl, lk, hcd⟩ := F.ex
  exact .all (h kV doc pm an cdv ct)
theorem fun_mk {x qual : Str} {st : Stmt} {f : Addr} {oc : Value} {od an : Option Addr} {osl : Array (Option Value)} {kV doc pm cdv ct : Value} (l : K.lookup f = some ⟨oc, od, .func (PySem.W.fnOf x qual (defArgs st) (defBody st) (defScope st) .none kV doc pm an cdv ct), osl⟩)
    (c : PySem.W.codeIn K cdv qual = true) (k : PySem.W.keepIn K (.ref f) = true) : Fun K x qual st f (PySem.W.fnOf x qual (defArgs st) (defBody st) (defScope st) .none kV doc pm an cdv ct) := ⟨⟨oc, od, kV, doc, pm, an, cdv, ct, osl, rfl, l, c⟩, k⟩
end
theorem hu_of {A : Around} {k : Nat} (hr : Room k A) : A.units + 1 < cLine := Nat.lt_of_le_of_lt (Nat.add_le_add_left (by decide : 1 ≤ 64) _) hr.units
section
variable {X : Cx}
theorem pv (i : Nat) {x : Str} {pos : Pos} (hN : X.N[i]? = some x := by rfl) (hv : Vis X.env.scope x := by first | exact Or.inl rfl | exact Or.inr (Or.inl rfl) | exact Or.inr (Or.inr rfl)) (hd : (x == ("__debug__" : Str)) = false := by decide)
    (hcd : (x == ("__classdict__" : Str)) = false := by decide) : PE X (.Name x pos) (tVar i) := pe_var hN hv hd hcd
end

theorem iteF {A B : Prop} (h : B) : if false = true then A else B := by
  rw [if_neg Bool.false_ne_true]
  exact h
theorem iteT {A B : Prop} (h : A) : if true = true then A else B := by
  rw [if_pos rfl]
  exact h
/-- all that was tracked is as it was -/
def Same (H H' : Hp) : Prop := ∀ b o, H b = some o → H' b = some o
theorem Same.refl (H : Hp) : Same H H := fun _ _ h => h
theorem Same.trans {H H1 H2 : Hp} (a : Same H H1) (b : Same H1 H2) : Same H H2 := fun c o h => b c o (a c o h)
theorem Same.free {H H' : Hp} (e : Same H H') {l : Addr} (h : H' l = Option.none) : H l = Option.none := by
  cases q : H l with
  | none => rfl
  | some o =>
    rw [e l o q] at h
    cases h
theorem Same.seq {K : PySem.W.Frag} {H H' : Hp} {a : Addr} {xs : List V} (e : Same H H') (h : SqL K H a xs) : SqL K H' a xs := by
  rcases h with (h | ⟨o, h⟩) | h
  · exact .inl (.inl (e _ _ h))
  · exact .inl (.inr ⟨o, e _ _ h⟩)
  · exact .inr h

section
variable {κ : Type} [DecidableEq κ]
theorem valV_not {kvs : List (κ × V)} {k : κ} (h : valV kvs k = none) : ¬ k ∈ kvs.map (·.1) := by
  intro m
  obtain ⟨p, hp, e⟩ := List.mem_map.mp m
  have q : (kvs.any fun kv => decide (kv.1 = k)) = true := List.any_eq_true.mpr ⟨p, hp, decide_eq_true e⟩
  rw [valV_any, h] at q
  exact absurd q (by simp)
theorem nd_snoc : ∀ {l : List κ} {k : κ}, l.Nodup → ¬ k ∈ l → (l ++ [k]).Nodup
  | [], k, _, _ => by simp
  | a :: r, k, h, hk => by
    obtain ⟨h1, h2⟩ := List.nodup_cons.mp h
    show (a :: (r ++ [k])).Nodup
    refine List.nodup_cons.mpr ⟨fun m => ?_, nd_snoc h2 fun m => hk (List.mem_cons.mpr (Or.inr m))⟩
    rcases List.mem_append.mp m with q | q
    · exact h1 q
    · exact hk (List.mem_cons.mpr (Or.inl (List.mem_singleton.mp q).symm))
theorem nd_putK {kvs : List (κ × V)} {k : κ} (v : V) (hn : (kvs.map (·.1)).Nodup) (h : valV kvs k = none) : ((putK kvs k v).map (·.1)).Nodup := by
  rw [putK_new v h, List.map_append]
  exact nd_snoc hn (valV_not h)
end
theorem at_of {xs : List V} {z : Int} {j : Nat} {v : V} (e : z = (j : Int)) (h : xs[j]? = some v) : atI xs z = some v := by
  rw [e]
  exact atI_nat h
/-- a new instance and its __init__ leave all that was tracked as it was -/
theorem Same.made {H H1 : Hp} {x dx C : Addr} (nx : H x = Option.none) (nd : H dx = Option.none) (k : ∀ b o, (upd (upd H dx (.own x)) x (.ins C dx [])) b = some o → b ≠ x → H1 b = some o) : Same H H1 := fun b o e =>
  k b o (by rw [upd_ne (ne_of_none e nx), upd_ne (ne_of_none e nd)]; exact e) (ne_of_none e nx)
end L2


end

section
set_option Elab.async false
set_option linter.all false
set_option maxRecDepth 100000
set_option maxHeartbeats 2000000
namespace L2
open PySem PySem.Spec PyProof.Rows
open PySem.W (WData Codec OpenSpec Well WellAll ReadsW ReadsAllW)
/-! ### an answer as data -/
mutual
/-- x stands for the datum d, lists and tuples all the way -/
inductive Dw (K : PySem.W.Frag) (H : Hp) : V → WData → Prop
  | non : Dw K H .non .none
  | bl (b : Bool) : Dw K H (.bl b) (.bool b)
  | int (i : Int) : Dw K H (.int i) (.int i)
  | str (x : Str) : Dw K H (.str x) (.str x)
  | byt (b : Array UInt8) : Dw K H (.byt b) (.bytes b.toList)
  | lst {a : Addr} {xs : List V} {ds : List WData} : SqL K H a xs → DwAll K H xs ds → Dw K H (.ref a) (.list ds)
  | tup {a : Addr} {xs : List V} {ds : List WData} : SqT K H a xs → DwAll K H xs ds → Dw K H (.ref a) (.tuple ds)
inductive DwAll (K : PySem.W.Frag) (H : Hp) : List V → List WData → Prop
  | nil : DwAll K H [] []
  | cons {v : V} {vs : List V} {d : WData} {ds : List WData} : Dw K H v d → DwAll K H vs ds → DwAll K H (v :: vs) (d :: ds)
end
theorem dw_ints {K : PySem.W.Frag} {H : Hp} : ∀ ns : List Int, DwAll K H (ns.map V.int) (ns.map WData.int)
  | [] => .nil
  | n :: r => .cons (.int n) (dw_ints r)
theorem ints_dw {K : PySem.W.Frag} {H : Hp} : ∀ (ns : List Int) (xs : List V), DwAll K H xs (ns.map WData.int) → xs = ns.map V.int
  | [], xs, h => by
    cases h
    rfl
  | n :: r, xs, h => by
    cases h with
    | cons h1 h2 =>
      cases h1
      rw [ints_dw r _ h2] <;> rfl
section
variable {P : Program} {w : World} {K : PySem.W.Frag} {H : Hp} {h : Heap} {R : PySem.W.WRecords} {cl : Str → Option Addr}
theorem sqL_at {a : Addr} {xs : List V} (hok : HOk P w H h) (KX : K.In h) (q : SqL K H a xs) : ∃ (its : List Value) (o : Obj) (n : Nat), Vals xs its ∧ h.get? a = some o ∧ o.cls = .type "list" ∧ o.data = .seq its.toArray n := by
  rcases q with q | ⟨o, its, n, e, hc, _, hd, _, hv⟩
  · obtain ⟨_, its, n, hv, e⟩ := (show ObjOk P w H h a (.lst xs) from q.ok hok)
    exact ⟨its, _, n, hv, e, rfl, rfl⟩
  · exact ⟨its.toList, o, n, hv, KX _ _ e, hc, by simp [hd]⟩
theorem sqT_at {a : Addr} {xs : List V} (hok : HOk P w H h) (KX : K.In h) (q : SqT K H a xs) : ∃ (its : List Value) (o : Obj) (n : Nat), Vals xs its ∧ h.get? a = some o ∧ o.cls = .type "tuple" ∧ o.data = .seq its.toArray n := by
  rcases q with q | ⟨o, its, n, e, hc, hd, _, hv⟩
  · obtain ⟨_, its, hv, o, e, hc, n, hd⟩ := (show ObjOk P w H h a (.tup xs) from q.ok hok)
    exact ⟨its, o, n, hv, e, hc, hd⟩
  · exact ⟨its.toList, o, n, hv, KX _ _ e, hc, by simp [hd]⟩
mutual
theorem Dw.reads (hok : HOk P w H h) (KX : K.In h) : ∀ (d : WData) (v : V) (u : Value), Dw K H v d → RelV v u → ∃ as, ReadsW R cl h u d as
  | .none, _, _, x, r => by
    cases x
    cases r
    exact ⟨_, ReadsW.none⟩
  | .bool b, _, _, x, r => by
    cases x
    cases r
    exact ⟨_, ReadsW.bool b⟩
  | .int i, _, _, x, r => by
    cases x
    obtain ⟨t, rfl⟩ := r
    exact ⟨_, ReadsW.int i t⟩
  | .str s, _, _, x, r => by
    cases x
    obtain ⟨t, rfl⟩ := r
    exact ⟨_, ReadsW.str s t⟩
  | .bytes b, _, _, x, r => by
    cases x
    obtain ⟨t, rfl⟩ := r
    exact ⟨_, ReadsW.bytes _ t⟩
  | .list ds, _, _, x, r => by
    cases x with
    | lst hs ha =>
      cases r
      obtain ⟨its, o, n, rv, ho, hc, hd⟩ := sqL_at hok KX hs
      obtain ⟨as, hr⟩ := Dw.readsAll hok KX ds _ its ha rv
      exact ⟨_, ReadsW.list ho hc hd hr⟩
  | .tuple ds, _, _, x, r => by
    cases x with
    | tup hs ha =>
      cases r
      obtain ⟨its, o, n, rv, ho, hc, hd⟩ := sqT_at hok KX hs
      obtain ⟨as, hr⟩ := Dw.readsAll hok KX ds _ its ha rv
      exact ⟨_, ReadsW.tuple ho hc hd hr⟩
  | .float _, _, _, x, _ => by cases x
  | .dict _, _, _, x, _ => by cases x
  | .bytearray _, _, _, x, _ => by cases x
  | .set _, _, _, x, _ => by cases x
  | .frozenset _, _, _, x, _ => by cases x
  | .obj _ _, _, _, x, _ => by cases x
theorem Dw.readsAll (hok : HOk P w H h) (KX : K.In h) : ∀ (ds : List WData) (vs : List V) (us : List Value), DwAll K H vs ds → Vals vs us → ∃ as, ReadsAllW R cl h us ds as
  | [], _, _, x, r => by
    cases x
    cases r
    exact ⟨_, ReadsAllW.nil⟩
  | d :: ds, _, _, x, r => by
    cases x with
    | cons h1 h2 =>
      cases r with
      | cons r1 r2 =>
        obtain ⟨as, q1⟩ := Dw.reads hok KX d _ _ h1 r1
        obtain ⟨bs, q2⟩ := Dw.readsAll hok KX ds _ _ h2 r2
        exact ⟨_, ReadsAllW.cons q1 q2⟩
end
end
/-! ### the arguments -/
mutual
/-- data that a codec tells -/
def plW : WData → Bool
  | .none => true
  | .bool _ => true
  | .int _ => true
  | .str _ => true
  | .bytes _ => true
  | .list xs => plWs xs
  | .tuple xs => plWs xs
  | _ => false
def plWs : List WData → Bool
  | [] => true
  | x :: r => plW x && plWs r
end
theorem plWs_map {α : Type} {f : α → WData} (h : ∀ a, plW (f a) = true) : ∀ l : List α, plWs (l.map f) = true
  | [] => rfl
  | x :: r => by
    show (plW (f x) && plWs (r.map f)) = true
    rw [h x, plWs_map h r] <;> rfl
theorem pl_enc : ∀ (c : Codec) (a : c.denote), plW (c.enc a) = true
  | .unit, _ => rfl
  | .bool, _ => rfl
  | .int _ _, _ => rfl
  | .nat _ _, _ => rfl
  | .u8, _ => rfl
  | .bytes _ _, _ => rfl
  | .text _ _ _ _, _ => rfl
  | .list _ _ c, a => plWs_map (fun x => pl_enc c x) a
  | .pair c d, a => by
    show (plW (c.enc a.1) && (plW (d.enc a.2) && true)) = true
    rw [pl_enc c a.1, pl_enc d a.2] <;> rfl
  | .triple c d e, a => by
    show (plW (c.enc a.1) && (plW (d.enc a.2.1) && (plW (e.enc a.2.2) && true))) = true
    rw [pl_enc c a.1, pl_enc d a.2.1, pl_enc e a.2.2] <;> rfl
  | .option c, none => rfl
  | .option c, some x => pl_enc c x
theorem pl_encAll : ∀ (cs : List Codec) (a : Codec.denoteAll cs), plWs (Codec.encAll cs a) = true
  | [], _ => rfl
  | c :: cs, a => by
    show (plW (c.enc a.1) && plWs (Codec.encAll cs a.2)) = true
    rw [pl_enc c a.1, pl_encAll cs a.2] <;> rfl
theorem weight_mem : ∀ {xs : List WData} {d : WData}, d ∈ xs → d.weight ≤ WData.weightAll xs
  | [], d, h => absurd h (by simp)
  | x :: r, d, h => by
    show d.weight ≤ x.weight + 1 + WData.weightAll r
    rcases List.mem_cons.mp h with e | m
    · rw [e]
      omega
    · have z := weight_mem m
      omega
def toV : Value → V
  | .none => .non
  | .bool b => .bl b
  | .int i _ => .int i
  | .str x _ => .str x
  | .bytes b _ => .byt b
  | .ref a => .ref a
  | _ => .non
/-- a value of the arguments, its objects among A -/
def OkU (A : List Addr) : Value → Prop
  | .none => True
  | .bool _ => True
  | .int _ _ => True
  | .str _ _ => True
  | .bytes _ _ => True
  | .ref a => a ∈ A
  | _ => False
theorem OkU.mono {A B : List Addr} (h : ∀ a ∈ A, a ∈ B) : ∀ {u : Value}, OkU A u → OkU B u := fun {u} x => by
  cases u with
  | ref a => exact h a x
  | none => trivial
  | bool b => trivial
  | int i t => trivial
  | str s t => trivial
  | bytes b t => trivial
  | _ => exact False.elim x
theorem relV_toV {A : List Addr} {u : Value} (x : OkU A u) : RelV (toV u) u := by
  cases u with
  | ref a => rfl
  | none => rfl
  | bool b => rfl
  | int i t => exact ⟨t, rfl⟩
  | str s t => exact ⟨t, rfl⟩
  | bytes b t => exact ⟨t, rfl⟩
  | _ => exact False.elim x
theorem vals_toV {A : List Addr} : ∀ {vs : List Value}, (∀ u ∈ vs, OkU A u) → Vals (vs.map toV) vs
  | [], _ => .nil
  | u :: r, h => .cons (relV_toV (h u (List.mem_cons_self ..))) (vals_toV fun x hx => h x (List.mem_cons_of_mem _ hx))
/-- an object of the arguments -/
def ArgOb (h : Heap) (A : List Addr) (a : Addr) : Prop := ∃ vs : List Value, vs.length ≤ sizeLine ∧ (∀ u ∈ vs, OkU A u) ∧
  (h.get? a = some { cls := .type "list", data := .seq vs.toArray } ∨ h.get? a = some { cls := .type "tuple", data := .seq vs.toArray })
theorem ArgOb.mono {h : Heap} {A B : List Addr} {a : Addr} (k : ∀ a ∈ A, a ∈ B) (x : ArgOb h A a) : ArgOb h B a := by
  obtain ⟨vs, h1, h2, h3⟩ := x
  exact ⟨vs, h1, fun u hu => (h2 u hu).mono k, h3⟩
theorem wellAll_len {P : Params} {h : Heap} : ∀ {vs : List Value} {ds : List WData}, WellAll P h vs ds → vs.length = ds.length
  | _, _, .nil => rfl
  | _, _, .cons _ b => by
    show _ + 1 = _ + 1
    rw [wellAll_len b]
theorem well_list {P : Params} {h : Heap} {v : Value} {ds : List WData} (x : Well P h v (.list ds)) : ∃ (a : Addr) (vs : List Value), v = .ref a ∧ h.get? a = some { cls := .type "list", data := .seq vs.toArray } ∧ WellAll P h vs ds := by
  cases x with
  | list ho hall => exact ⟨_, _, rfl, ho, hall⟩
theorem well_tuple {P : Params} {h : Heap} {v : Value} {ds : List WData} (x : Well P h v (.tuple ds)) : ∃ (a : Addr) (vs : List Value), v = .ref a ∧ h.get? a = some { cls := .type "tuple", data := .seq vs.toArray } ∧ WellAll P h vs ds := by
  cases x with
  | tuple ho hall => exact ⟨_, _, rfl, ho, hall⟩
theorem well_cons {P : Params} {h : Heap} {us : List Value} {d : WData} {ds : List WData} (x : WellAll P h us (d :: ds)) : ∃ (v : Value) (vs : List Value), us = v :: vs ∧ Well P h v d ∧ WellAll P h vs ds := by
  cases x with
  | cons a b => exact ⟨_, _, rfl, a, b⟩
theorem line_of {n : Nat} (h : n ≤ 1048576) : n ≤ sizeLine := Nat.le_trans h (by decide)
section
variable {P : Params} {h : Heap}
mutual
theorem area_one : ∀ (d : WData) (v : Value), Well P h v d → plW d = true → d.weight ≤ 1048576 → ∃ A : List Addr, OkU A v ∧ ∀ a ∈ A, ArgOb h A a
  | .none, _, x, _, _ => by
    cases x
    exact ⟨[], trivial, fun a m => absurd m (by simp)⟩
  | .bool b, _, x, _, _ => by
    cases x
    exact ⟨[], trivial, fun a m => absurd m (by simp)⟩
  | .int i, _, x, _, _ => by
    cases x
    exact ⟨[], trivial, fun a m => absurd m (by simp)⟩
  | .str s, _, x, _, _ => by
    cases x
    exact ⟨[], trivial, fun a m => absurd m (by simp)⟩
  | .bytes b, _, x, _, _ => by
    cases x
    exact ⟨[], trivial, fun a m => absurd m (by simp)⟩
  | .list ds, _, x, p, z => by
    obtain ⟨a, vs, rfl, ho, hall⟩ := well_list x
    have z2 : WData.weightAll ds ≤ 1048576 := z
    obtain ⟨A, h1, h2⟩ := area_all ds _ hall p fun d hd => Nat.le_trans (weight_mem hd) z2
    have k : ∀ b ∈ A, b ∈ a :: A := fun b hb => List.mem_cons_of_mem _ hb
    refine ⟨a :: A, List.mem_cons_self .., fun b hb => ?_⟩
    rcases List.mem_cons.mp hb with e | m
    · rw [e]
      exact ⟨vs, line_of (by rw [wellAll_len hall]; exact Nat.le_trans (PySem.W.length_le_weightAllW ds) z2), fun u hu => (h1 u hu).mono k, .inl ho⟩
    · exact (h2 b m).mono k
  | .tuple ds, _, x, p, z => by
    obtain ⟨a, vs, rfl, ho, hall⟩ := well_tuple x
    have z2 : WData.weightAll ds ≤ 1048576 := z
    obtain ⟨A, h1, h2⟩ := area_all ds _ hall p fun d hd => Nat.le_trans (weight_mem hd) z2
    have k : ∀ b ∈ A, b ∈ a :: A := fun b hb => List.mem_cons_of_mem _ hb
    refine ⟨a :: A, List.mem_cons_self .., fun b hb => ?_⟩
    rcases List.mem_cons.mp hb with e | m
    · rw [e]
      exact ⟨vs, line_of (by rw [wellAll_len hall]; exact Nat.le_trans (PySem.W.length_le_weightAllW ds) z2), fun u hu => (h1 u hu).mono k, .inr ho⟩
    · exact (h2 b m).mono k
  | .float _, _, _, p, _ => Bool.noConfusion (show false = true from p)
  | .dict _, _, _, p, _ => Bool.noConfusion (show false = true from p)
  | .bytearray _, _, _, p, _ => Bool.noConfusion (show false = true from p)
  | .set _, _, _, p, _ => Bool.noConfusion (show false = true from p)
  | .frozenset _, _, _, p, _ => Bool.noConfusion (show false = true from p)
  | .obj _ _, _, _, p, _ => Bool.noConfusion (show false = true from p)
theorem area_all : ∀ (ds : List WData) (vs : List Value), WellAll P h vs ds → plWs ds = true → (∀ d ∈ ds, d.weight ≤ 1048576) → ∃ A : List Addr, (∀ u ∈ vs, OkU A u) ∧ ∀ a ∈ A, ArgOb h A a
  | [], _, x, _, _ => by
    cases x
    exact ⟨[], fun u m => absurd m (by simp), fun a m => absurd m (by simp)⟩
  | d :: ds, _, x, p, z => by
    obtain ⟨v, vs, rfl, x1, x2⟩ := well_cons x
    have q : plW d = true ∧ plWs ds = true := Bool.and_eq_true_iff.mp p
    obtain ⟨A, a1, a2⟩ := area_one d v x1 q.1 (z d (List.mem_cons_self ..))
    obtain ⟨B, b1, b2⟩ := area_all ds vs x2 q.2 fun e he => z e (List.mem_cons_of_mem _ he)
    have kA : ∀ b ∈ A, b ∈ A ++ B := fun b hb => List.mem_append.mpr (.inl hb)
    have kB : ∀ b ∈ B, b ∈ A ++ B := fun b hb => List.mem_append.mpr (.inr hb)
    refine ⟨A ++ B, fun u hu => ?_, fun b hb => ?_⟩
    · rcases List.mem_cons.mp hu with e | m
      · rw [e]
        exact a1.mono kA
      · exact (b1 u m).mono kB
    · rcases List.mem_append.mp hb with m | m
      · exact (a2 b m).mono kA
      · exact (b2 b m).mono kB
end
end
/-- what is tracked of an argument's object -/
def hoOf (o : Obj) : Option HO := match o.data with
  | .seq vs _ => if (o.cls == Value.type "list") = true then some (.frz o (.lst (vs.toList.map toV))) else some (.frz o (.tup (vs.toList.map toV)))
  | _ => none
def argH (K : PySem.W.Frag) (h : Heap) (A : List Addr) : Hp := fun b => if b ∈ A then (if (K.lookup b).isNone = true then (h.get? b).bind hoOf else none) else none
/-- nothing is tracked but what is known to the object -/
def OnlyF (H : Hp) : Prop := ∀ b, H b = none ∨ ∃ o u, H b = some (.frz o u)
theorem hoOf_lst (vs : List Value) : hoOf { cls := .type "list", data := .seq vs.toArray } = some (.frz { cls := .type "list", data := .seq vs.toArray } (.lst (vs.map toV))) := by
  show (if (Value.type "list" == Value.type "list") = true then some (HO.frz { cls := .type "list", data := .seq vs.toArray } (.lst (vs.toArray.toList.map toV))) else some (HO.frz { cls := .type "list", data := .seq vs.toArray } (.tup (vs.toArray.toList.map toV)))) = _
  rw [if_pos (beq_self_eq_true _)]
theorem hoOf_tup (vs : List Value) : hoOf { cls := .type "tuple", data := .seq vs.toArray } = some (.frz { cls := .type "tuple", data := .seq vs.toArray } (.tup (vs.map toV))) := by
  show (if (Value.type "tuple" == Value.type "list") = true then some (HO.frz { cls := .type "tuple", data := .seq vs.toArray } (.lst (vs.toArray.toList.map toV))) else some (HO.frz { cls := .type "tuple", data := .seq vs.toArray } (.tup (vs.toArray.toList.map toV)))) = _
  rw [if_neg (by decide)]
section
variable {P : Program} {w : World} {K : PySem.W.Frag} {h : Heap} {A : List Addr}
theorem argH_at {b : Addr} {o : Obj} (hb : b ∈ A) (hk : K.lookup b = none) (e : h.get? b = some o) : argH K h A b = hoOf o := by
  unfold argH
  rw [if_pos hb, hk, if_pos (show (none : Option Obj).isNone = true from rfl), e] <;> rfl
theorem of_argH {b : Addr} {u : HO} (q : argH K h A b = some u) : b ∈ A ∧ K.lookup b = none := by
  unfold argH at q
  by_cases hb : b ∈ A
  · rw [if_pos hb] at q
    cases hk : K.lookup b with
    | none => exact ⟨hb, rfl⟩
    | some o =>
      rw [hk, if_neg (by simp)] at q
      cases q
  · rw [if_neg hb] at q
    cases q
/-- what stands tracked -/
theorem argH_is (ar : ∀ a ∈ A, ArgOb h A a) {b : Addr} {u : HO} (q : argH K h A b = some u) : K.lookup b = none ∧ ∃ vs : List Value, vs.length ≤ sizeLine ∧ (∀ u ∈ vs, OkU A u) ∧
    ((h.get? b = some { cls := .type "list", data := .seq vs.toArray } ∧ u = .frz { cls := .type "list", data := .seq vs.toArray } (.lst (vs.map toV))) ∨
     (h.get? b = some { cls := .type "tuple", data := .seq vs.toArray } ∧ u = .frz { cls := .type "tuple", data := .seq vs.toArray } (.tup (vs.map toV)))) := by
  obtain ⟨hb, hk⟩ := of_argH q
  obtain ⟨vs, h1, h2, h3⟩ := ar b hb
  refine ⟨hk, vs, h1, h2, ?_⟩
  rcases h3 with e | e
  · rw [argH_at hb hk e, hoOf_lst] at q
    exact .inl ⟨e, (Option.some.inj q).symm⟩
  · rw [argH_at hb hk e, hoOf_tup] at q
    exact .inr ⟨e, (Option.some.inj q).symm⟩
theorem argH_only (ar : ∀ a ∈ A, ArgOb h A a) : OnlyF (argH K h A) := fun b => by
  cases q : argH K h A b with
  | none => exact .inl rfl
  | some u =>
    obtain ⟨_, vs, _, _, ⟨_, e⟩ | ⟨_, e⟩⟩ := argH_is ar q
    · exact .inr ⟨_, _, by rw [e]⟩
    · exact .inr ⟨_, _, by rw [e]⟩
theorem argH_ok (ar : ∀ a ∈ A, ArgOb h A a) : HOk P w (argH K h A) h := fun b u q => by
  obtain ⟨_, vs, h1, h2, ⟨e, rfl⟩ | ⟨e, rfl⟩⟩ := argH_is ar q
  · exact ⟨e, by rw [List.length_map]; exact h1, vs, _, vals_toV h2, e⟩
  · exact ⟨e, by rw [List.length_map]; exact h1, vs, vals_toV h2, _, e, rfl, _, rfl⟩
theorem seq_inj {c c' : Value} {vs us : List Value} (e : (some { cls := c, data := .seq vs.toArray } : Option Obj) = some { cls := c', data := .seq us.toArray }) : c = c' ∧ vs = us := by
  have e1 := Option.some.inj e
  have e2 : c = c' := congrArg Obj.cls e1
  have e3 : Data.seq vs.toArray = Data.seq us.toArray := congrArg Obj.data e1
  injection e3 with e4
  refine ⟨e2, ?_⟩
  have e5 := congrArg Array.toList e4
  simpa using e5
/-- a list argument -/
theorem argL (KX : K.In h) (ar : ∀ a ∈ A, ArgOb h A a) {a : Addr} {vs : List Value} (ha : a ∈ A) (e : h.get? a = some { cls := .type "list", data := .seq vs.toArray }) : (∀ u ∈ vs, OkU A u) ∧ SqL K (argH K h A) a (vs.map toV) := by
  obtain ⟨us, h1, h2, h3⟩ := ar a ha
  have hu : us = vs := by
    rcases h3 with q | q
    · rw [e] at q
      exact (seq_inj q).2.symm
    · rw [e] at q
      exact absurd (Value.type.inj (seq_inj q).1) (by decide)
  subst hu
  refine ⟨h2, ?_⟩
  cases hk : K.lookup a with
  | none => exact .inl (.inr ⟨_, by rw [argH_at ha hk e, hoOf_lst]⟩)
  | some o =>
    have e2 := KX a o hk
    rw [e] at e2
    obtain rfl := Option.some.inj e2
    exact .inr ⟨_, us.toArray, _, hk, rfl, rfl, rfl, by rw [List.size_toArray]; exact h1, by simpa using vals_toV h2⟩
theorem argT (KX : K.In h) (ar : ∀ a ∈ A, ArgOb h A a) {a : Addr} {vs : List Value} (ha : a ∈ A) (e : h.get? a = some { cls := .type "tuple", data := .seq vs.toArray }) : (∀ u ∈ vs, OkU A u) ∧ SqT K (argH K h A) a (vs.map toV) := by
  obtain ⟨us, h1, h2, h3⟩ := ar a ha
  have hu : us = vs := by
    rcases h3 with q | q
    · rw [e] at q
      exact absurd (Value.type.inj (seq_inj q).1) (by decide)
    · rw [e] at q
      exact (seq_inj q).2.symm
  subst hu
  refine ⟨h2, ?_⟩
  cases hk : K.lookup a with
  | none => exact .inl (.inr ⟨_, by rw [argH_at ha hk e, hoOf_tup]⟩)
  | some o =>
    have e2 := KX a o hk
    rw [e] at e2
    obtain rfl := Option.some.inj e2
    exact .inr ⟨_, us.toArray, _, hk, rfl, rfl, by rw [List.size_toArray]; exact h1, by simpa using vals_toV h2⟩
mutual
theorem dw_one {Pm : Params} (KX : K.In h) (ar : ∀ a ∈ A, ArgOb h A a) : ∀ (d : WData) (v : Value), Well Pm h v d → plW d = true → OkU A v → Dw K (argH K h A) (toV v) d
  | .none, _, x, _, _ => by
    cases x
    exact .non
  | .bool b, _, x, _, _ => by
    cases x
    exact .bl b
  | .int i, _, x, _, _ => by
    cases x
    exact .int i
  | .str s, _, x, _, _ => by
    cases x
    exact .str s
  | .bytes b, _, x, _, _ => by
    cases x
    have z := Dw.byt (K := K) (H := argH K h A) b.toArray
    exact z
  | .list ds, _, x, p, hu => by
    obtain ⟨a, vs, rfl, ho, hall⟩ := well_list x
    obtain ⟨h2, hs⟩ := argL KX ar hu ho
    exact .lst hs (dw_all KX ar ds _ hall p h2)
  | .tuple ds, _, x, p, hu => by
    obtain ⟨a, vs, rfl, ho, hall⟩ := well_tuple x
    obtain ⟨h2, hs⟩ := argT KX ar hu ho
    exact .tup hs (dw_all KX ar ds _ hall p h2)
  | .float _, _, _, p, _ => Bool.noConfusion (show false = true from p)
  | .dict _, _, _, p, _ => Bool.noConfusion (show false = true from p)
  | .bytearray _, _, _, p, _ => Bool.noConfusion (show false = true from p)
  | .set _, _, _, p, _ => Bool.noConfusion (show false = true from p)
  | .frozenset _, _, _, p, _ => Bool.noConfusion (show false = true from p)
  | .obj _ _, _, _, p, _ => Bool.noConfusion (show false = true from p)
theorem dw_all {Pm : Params} (KX : K.In h) (ar : ∀ a ∈ A, ArgOb h A a) : ∀ (ds : List WData) (vs : List Value), WellAll Pm h vs ds → plWs ds = true → (∀ u ∈ vs, OkU A u) → DwAll K (argH K h A) (vs.map toV) ds
  | [], _, x, _, _ => by
    cases x
    exact .nil
  | d :: ds, _, x, p, hu => by
    obtain ⟨v, vs, rfl, x1, x2⟩ := well_cons x
    have q : plW d = true ∧ plWs ds = true := Bool.and_eq_true_iff.mp p
    exact .cons (dw_one KX ar d v x1 q.1 (hu _ (List.mem_cons_self ..))) (dw_all KX ar ds vs x2 q.2 fun u m => hu u (List.mem_cons_of_mem _ m))
end
end
/-! ### the call -/
theorem spec_call {P : Program} {w : World} {K : PySem.W.Frag} {mg mb : Str → Option Value} {CX : CXT} {k : Nat} {fa : Addr} {fd : FuncData} {ps : List Str} {sp : Sp} {s₁ : Shared} {vals : List Value} {ds : List WData} {R : PySem.W.WRecords} {cl : Str → Option Addr} {d0 : WData}
    (KX : K.In s₁.heap) (hns : s₁.heap.Ns mainGlobals mg) (hb : s₁.heap.Ns builtinsNs mb) (hbb : ∀ x : Str, x ≠ "__name__" → mb x = bootBuiltins x) (hlim : s₁.heap.NoLimit) (hg : s₁.gens = #[])
    (hwl : WellAll w.params s₁.heap vals ds) (hpl : plWs ds = true) (hwt : ∀ d ∈ ds, d.weight ≤ 1048576) (hr : Room k callerA)
    (F : ∀ base : Heap, K.In base → base.Ns mainGlobals mg → FnOk P w K mg base CX k fa fd ps sp) (hbind : ∀ (s : Shared) (us : List Value), us.length = ps.length → BindsTo s fd ⟨us, []⟩ (ps.zip us)) (hlen : ds.length = ps.length)
    (hsp : ∀ (H : Hp) (xs : List V), OnlyF H → DwAll K H xs ds → sp xs H (fun v H' => Dw K H' v d0) fun _ _ _ => False)
    (hCX : ∀ H e s', CX [] H s₁ (fun _ _ _ => False) e s' → False) :
    codeAny (model P w) callerA (.call (.ref fa) ⟨vals, []⟩) (fun r s' => ∃ u as, r = .ok (.ret u) ∧ ReadsW R cl s'.heap u d0 as ∧ OldK s₁.heap s'.heap ∧ s'.os = s₁.os ∧ AllBare s'.gens) s₁ := by
  obtain ⟨A, ho, ar⟩ := area_all ds vals hwl hpl hwt
  have hO : OnlyF (argH K s₁.heap A) := argH_only ar
  have hok : HOk P w (argH K s₁.heap A) s₁.heap := argH_ok ar
  have hS := dw_all KX ar ds vals hwl hpl ho
  have hV := vals_toV ho
  have hK : ∀ b u, argH K s₁.heap A b = some u → K.lookup b = none := fun b u q => (argH_is ar q).1
  have noA : ∀ {b : Addr} {o : Obj} {es : Array DictEntry} {ep : Nat}, s₁.heap.get? b = some o → o.data = .dict es ep → argH K s₁.heap A b = none := fun {b o es ep} e d => by
    cases q : argH K s₁.heap A b with
    | none => rfl
    | some u =>
      obtain ⟨_, vs, _, _, ⟨e2, _⟩ | ⟨e2, _⟩⟩ := argH_is ar q
      · rw [e2] at e
        cases e
        have d' : Data.seq vs.toArray _ = Data.dict es ep := d
        cases d'
      · rw [e2] at e
        cases e
        have d' : Data.seq vs.toArray _ = Data.dict es ep := d
        cases d'
  generalize argH K s₁.heap A = H at hO hok hS hK noA
  have base_of : ∀ {b : Addr} {o : Obj}, s₁.heap.get? b = some o → H b = none → (hidT s₁.heap H).get? b = some o := fun e n => hidT_get e n
  have nsK : ∀ {b : Addr} {m : Str → Option Value}, s₁.heap.Ns b m → (hidT s₁.heap H).Ns b m := fun {b m} ⟨o, es, ep, e, d, r⟩ => ⟨o, es, ep, base_of e (noA e d), d, r⟩
  have nK : ∀ b o, K.lookup b = some o → H b = none := fun b o e => by
    cases q : H b with
    | none => rfl
    | some u =>
      rw [hK b u q] at e
      cases e
  have hKb : K.In (hidT s₁.heap H) := fun b o e => base_of (KX b o e) (nK b o e)
  have hM : Mod K mg (hidT s₁.heap H) := ⟨hKb, nsK hns, ⟨mb, nsK hb, hbb⟩, let ⟨mc, h1, h2⟩ := hlim; ⟨mc, nsK h1, h2⟩⟩
  have e0 : Env0 P w K mg (hidT s₁.heap H) callerA [] s₁ H := ⟨rfl, hM, fun b o e => of_hidT e, Nat.le_of_eq (hidT_size _ _), trivial, fun b hb => absurd (show b ∈ ([] : List Addr) from hb) (by simp), hok, .of_eq hg⟩
  have hl : vals.length = ps.length := by rw [wellAll_len hwl]; exact hlen
  refine codeAny_mono ((F _ hKb (nsK hns)).run callerA [] s₁ H ⟨vals, []⟩ vals (vals.map toV) _ _ hr e0 (hbind s₁ vals hl) hV (hsp H _ hO hS)) fun r s' x => ?_
  cases r with
  | error e => exact (hCX H e s' x).elim
  | ok fl =>
    cases fl with
    | next => exact False.elim x
    | brk => exact False.elim x
    | cont => exact False.elim x
    | ret u =>
      obtain ⟨v, H', os, bare, un, hok', r', q⟩ := x
      have kept : ∀ b o, s₁.heap.get? b = some o → s'.heap.get? b = some o := fun b o e => by
        cases q2 : H b with
        | none => exact un.keep b o e q2 (by intro z; exact absurd (show b ∈ ([] : List Addr) from z) (by simp)) (by simp)
        | some u2 =>
          rcases hO b with z | ⟨ob, u3, z⟩
          · rw [q2] at z
            cases z
          · have z2 := un.frzs b ob _ z
            obtain ⟨e1, _⟩ := hok b _ z
            obtain ⟨e2, _⟩ := hok' b _ z2
            rw [e] at e1
            cases e1
            exact e2
      have KX' : K.In s'.heap := fun b o e => kept b o (KX b o e)
      obtain ⟨as, hrd⟩ := Dw.reads (R := R) (cl := cl) hok' KX' d0 v u q r'
      exact ⟨u, as, rfl, hrd, OldK.of_keep kept, os, bare⟩
/-! ### the row -/
theorem layable_weight {ds : List WData} (h : WData.layableAll ds = true) : ∀ d ∈ ds, d.weight ≤ 1048576 := fun d hd =>
  (PySem.W.layableW_iff.mp (List.all_eq_true.mp h d hd)).2.2
theorem encAll_len : ∀ (cs : List Codec) (a : Codec.denoteAll cs), (Codec.encAll cs a).length = cs.length
  | [], _ => rfl
  | c :: cs, a => by
    show (Codec.encAll cs a.2).length + 1 = cs.length + 1
    rw [encAll_len cs a.2]
/-- the goal that k_headS leaves (case hc), from the promise of the row's def: whatever the arguments that the codecs let and the row asks for, the def gives what stands for enc (f ..) -/
theorem walk_spec {r : OpenSpec} {k : Nat} {q : Program} {loose : List Str} {XP : (Str → Option Value) → Heap → Prop} {YP : World → Heap → Prop} {d : DefRec} {K : Params → PySem.W.Frag} {CX : World → CXT} {ps : List Str} {sp : World → Sp}
    (hwell : r.wellSaid = true) (hdf : d.params.defaults = []) (hlen : r.args.length = ps.length) (hr : Room k callerA)
    (hY : ∀ (w : World) (h : Heap), YP w h → (K w.params).In h)
    (F : ∀ (w : World) (mg : Str → Option Value) (fa : Addr) (h : Heap), YP w h → (K w.params).In h → h.Ns mainGlobals mg → mg d.name = some (.ref fa) →
      ∃ fd : FuncData, (∀ (s : Shared) (us : List Value), us.length = ps.length → BindsTo s fd ⟨us, []⟩ (ps.zip us)) ∧
        ∀ base : Heap, (K w.params).In base → base.Ns mainGlobals mg → FnOk r.prog w (K w.params) mg base (CX w) k fa fd ps (sp w))
    (hsp : ∀ (w : World) (H : Hp) (xs : List V) (a : Codec.denoteAll r.args), OnlyF H → Codec.withinAll r.args a = true → Codec.app r.args r.asked a = true → DwAll (K w.params) H xs (Codec.encAll r.args a) →
      sp w xs H (fun v H' => Dw (K w.params) H' v (r.ret.enc (Codec.app r.args r.f a))) fun _ _ _ => False)
    (hCX : ∀ (w : World) (H : Hp) (s : Shared) (e : Value) (s' : Shared), CX w [] H s (fun _ _ _ => False) e s' → False) :
    PySem.W.WalkOS q loose XP YP r d [] (fun f vs => PySem.call f vs) := by
  intro w s_0 s₁ mg mb G Y fa o pm cd doc dV kV ho hd hcd hD hmg hg args vals as hpre hlay hrd hwl hlo
  obtain ⟨a, e1, e2⟩ := PySem.W.os_pre_some hpre
  obtain ⟨e3, hwi⟩ := Codec.encAll_of_decAll r.args args a e1
  subst e3
  have KX := hY w _ Y
  obtain ⟨fd, hb, hF⟩ := F w mg fa _ Y KX G.T.g hmg
  refine PySem.W.enter_call (codeAny_mono (spec_call (R := []) (cl := classAt s_0.heap) (d0 := r.ret.enc (Codec.app r.args r.f a)) KX G.T.g G.T.b G.T.builtins G.T.nolimit hg hwl (pl_encAll _ _) (layable_weight hlay) hr hF hb (by rw [encAll_len]; exact hlen)
    (fun H xs hO hS => hsp w H xs a hO hwi e2 hS) fun H e s' => hCX w H s₁ e s') fun r' s' hq => ?_)
  obtain ⟨u, as', rfl, h1, h2, h3, h4⟩ := hq
  exact ⟨.inl ⟨u, _, as', rfl, fun _ => rfl, h1, (OpenSpec.post_iff hwell hwi _ _).mpr rfl, fun z => Bool.noConfusion (show false = true from z)⟩, h2, h3, h4⟩
/-- the same where the promise hangs on the written part alone -/
theorem walk_specK {r : OpenSpec} {k : Nat} {q : Program} {loose : List Str} {XP : (Str → Option Value) → Heap → Prop} {YP : World → Heap → Prop} {d : DefRec} {K : Params → PySem.W.Frag} {CX : CXT} {ps : List Str} {sp : PySem.W.Frag → Sp}
    (hwell : r.wellSaid = true) (hdf : d.params.defaults = []) (hlen : r.args.length = ps.length) (hr : Room k callerA)
    (hY : ∀ (w : World) (h : Heap), YP w h → (K w.params).In h)
    (F : ∀ (w : World) (mg : Str → Option Value) (fa : Addr) (h : Heap), YP w h → (K w.params).In h → h.Ns mainGlobals mg → mg d.name = some (.ref fa) →
      ∃ fd : FuncData, (∀ (s : Shared) (us : List Value), us.length = ps.length → BindsTo s fd ⟨us, []⟩ (ps.zip us)) ∧
        ∀ base : Heap, (K w.params).In base → base.Ns mainGlobals mg → FnOk r.prog w (K w.params) mg base CX k fa fd ps (sp (K w.params)))
    (hsp : ∀ (K : PySem.W.Frag) (H : Hp) (xs : List V) (a : Codec.denoteAll r.args), OnlyF H → Codec.withinAll r.args a = true → Codec.app r.args r.asked a = true → DwAll K H xs (Codec.encAll r.args a) →
      sp K xs H (fun v H' => Dw K H' v (r.ret.enc (Codec.app r.args r.f a))) fun _ _ _ => False)
    (hCX : ∀ (H : Hp) (s : Shared) (e : Value) (s' : Shared), CX [] H s (fun _ _ _ => False) e s' → False) :
    PySem.W.WalkOS q loose XP YP r d [] (fun f vs => PySem.call f vs) :=
  walk_spec (K := K) (CX := fun _ => CX) (sp := fun w => sp (K w.params)) hwell hdf hlen hr hY F (fun w H xs a h1 h2 h3 h4 => hsp (K w.params) H xs a h1 h2 h3 h4) fun _ H s e s' => hCX H s e s'
end L2
-- rests on (row put in by the clerk, for the bench that shows a file only what it spells): KE.SpHead KE.OsShapes
end

section
namespace Ma
open Ux04

/-! ### shapes -/
/-- at most so many rows, each of 1 to m squares, none longer than the one before it -/
def Fit : Nat → Nat → List Nat → Prop
  | _, _, [] => True
  | 0, _, _ :: _ => False
  | r + 1, m, n :: s => 1 ≤ n ∧ n ≤ m ∧ Fit r n s
theorem fit_iff : ∀ {r m : Nat} {s : List Nat}, Fit r m s ↔ s.length ≤ r ∧ (∀ n ∈ s, 1 ≤ n ∧ n ≤ m) ∧ s.Pairwise (fun a b => b ≤ a)
  | r, m, [] => by simp [Fit]
  | 0, m, n :: s => by simp [Fit]
  | r + 1, m, n :: s => by
    unfold Fit
    rw [fit_iff, List.pairwise_cons]
    constructor
    · rintro ⟨h1, h2, h3, h4, h5⟩
      refine ⟨by simp; omega, fun k hk => ?_, fun k hk => (h4 k hk).2, h5⟩
      rcases List.mem_cons.mp hk with rfl | hk
      · exact ⟨h1, h2⟩
      · have := h4 k hk; omega
    · rintro ⟨h1, h2, h3, h4⟩
      have hn := h2 n (by simp)
      exact ⟨hn.1, hn.2, by simp at h1; omega, fun k hk => ⟨(h2 k (by simp [hk])).1, h3 k hk⟩, h4⟩
theorem mem_shapes : ∀ {r m : Nat} {s : List Nat}, s ∈ shapes r m ↔ Fit r m s
  | 0, m, [] => by simp [shapes, Fit]
  | 0, m, n :: s => by simp [shapes, Fit]
  | r + 1, m, [] => by simp [shapes, Fit]
  | r + 1, m, n :: s => by
    unfold shapes Fit
    simp only [List.mem_cons, List.mem_flatMap, List.mem_range, List.mem_map, reduceCtorEq, false_or]
    constructor
    · rintro ⟨k, hk, u, hu, e⟩
      injection e with e1 e2
      subst e1 e2
      exact ⟨by omega, by omega, mem_shapes.mp hu⟩
    · rintro ⟨h1, h2, h3⟩
      refine ⟨n - 1, by omega, s, ?_, ?_⟩
      · have e : n - 1 + 1 = n := by omega
        rw [e]; exact mem_shapes.mpr h3
      · have e : n - 1 + 1 = n := by omega
        rw [e]
abbrev Good (s : List Nat) : Prop := Fit 5 6 s
theorem mem_all {s : List Nat} : s ∈ shapes ROWS COLUMNS ↔ Good s := mem_shapes

theorem key_cons (n : Nat) (s : List Nat) : key (n :: s) = n + 7 * key s := rfl
theorem key_inj : ∀ {r m r' m' : Nat} {s t : List Nat}, m ≤ 6 → m' ≤ 6 → Fit r m s → Fit r' m' t → key s = key t → s = t
  | _, _, _, _, [], [], _, _, _, _, _ => rfl
  | _, _, r' + 1, _, [], n :: t, _, h2, _, h4, e => by
    rw [key_cons] at e
    have : key [] = 0 := rfl
    obtain ⟨h5, h6, _⟩ := h4
    omega
  | r + 1, _, _, _, n :: s, [], h1, _, h3, _, e => by
    rw [key_cons] at e
    have : key [] = 0 := rfl
    obtain ⟨h5, h6, _⟩ := h3
    omega
  | r + 1, m, r' + 1, m', n :: s, k :: t, h1, h2, h3, h4, e => by
    rw [key_cons, key_cons] at e
    obtain ⟨a1, a2, a3⟩ := h3
    obtain ⟨b1, b2, b3⟩ := h4
    have e1 : n = k := by omega
    subst e1
    rw [key_inj (by omega) (by omega) a3 b3 (by omega)]
theorem key_lt : ∀ {r m : Nat} {s : List Nat}, m ≤ 6 → Fit r m s → key s < 7 ^ r
  | r, _, [], _, _ => by
    show 0 < 7 ^ r
    exact Nat.pow_pos (by decide)
  | r + 1, m, n :: s, h1, h2 => by
    obtain ⟨a1, a2, a3⟩ := h2
    have := key_lt (by omega) a3
    rw [key_cons, Nat.pow_succ]
    omega
theorem key_pos {r m n : Nat} {s : List Nat} (h : Fit r m (n :: s)) : 0 < key (n :: s) := by
  cases r with
  | zero => exact h.elim
  | succ r =>
    obtain ⟨a1, _, _⟩ := h
    rw [key_cons]; omega

theorem total_cons (n : Nat) (s : List Nat) : total (n :: s) = n + total s := by
  unfold total
  have : ∀ (l : List Nat) (a : Nat), l.foldl (fun a b => a + b) a = a + l.foldl (fun a b => a + b) 0 := by
    intro l
    induction l with
    | nil => intro a; rfl
    | cons x l ih => intro a; rw [List.foldl_cons, List.foldl_cons, ih (a + x), ih (0 + x)]; omega
  rw [List.foldl_cons, this]; omega
theorem total_nil : total [] = 0 := rfl
theorem total_append (s t : List Nat) : total (s ++ t) = total s + total t := by
  induction s with
  | nil => rw [total_nil, List.nil_append]; omega
  | cons n s ih => rw [List.cons_append, total_cons, total_cons, ih]; omega
theorem total_sum (s : List Nat) : total s = s.sum := by
  induction s with
  | nil => rfl
  | cons n s ih => rw [total_cons, ih, List.sum_cons]
theorem total_le : ∀ {r m : Nat} {s : List Nat}, Fit r m s → total s ≤ r * m
  | r, m, [], _ => by rw [total_nil]; omega
  | r + 1, m, n :: s, h => by
    obtain ⟨a1, a2, a3⟩ := h
    have h1 := total_le a3
    have h2 : r * n ≤ r * m := Nat.mul_le_mul_left r a2
    rw [total_cons, Nat.succ_mul]; omega

/-! ### bites -/
theorem mem_squares {s : List Nat} {i j : Nat} : (i, j) ∈ squares s ↔ 1 ≤ i ∧ 1 ≤ j ∧ ∃ n, s[i - 1]? = some n ∧ j ≤ n := by
  unfold squares
  simp only [List.mem_flatMap, List.mem_map, List.mem_range, Prod.mk.injEq]
  constructor
  · rintro ⟨⟨n, k⟩, h1, j', h2, h3, h4⟩
    have := List.mem_zipIdx_iff_getElem?.mp h1
    simp at this h2 h3
    subst h3 h4
    exact ⟨by omega, by omega, n, by simpa using this, by omega⟩
  · rintro ⟨h1, h2, n, h3, h4⟩
    refine ⟨(n, i - 1), List.mem_zipIdx_iff_getElem?.mpr (by simpa using h3), j - 1, by simp; omega, by simp; omega, by omega⟩

/-- what a bite leaves, row by row -/
def cut (s : List Nat) (i j : Nat) : List Nat := s.take (i - 1) ++ (if j = 1 then [] else (s.drop (i - 1)).map (fun n => min n (j - 1)))
theorem zipIdx_map_lt (f : Nat → Nat) (i : Nat) : ∀ (s : List Nat) (k : Nat),
    (s.zipIdx k).map (fun x => if x.2 + 1 < i then x.1 else f x.1) = s.take (i - 1 - k) ++ (s.drop (i - 1 - k)).map f
  | [], k => by simp
  | n :: s, k => by
    rw [List.zipIdx_cons, List.map_cons, zipIdx_map_lt f i s (k + 1)]
    by_cases h : k + 1 < i
    · have e : i - 1 - k = (i - 1 - (k + 1)) + 1 := by omega
      rw [e, List.take_succ_cons, List.drop_succ_cons, List.cons_append]
      simp [h]
    · have e : i - 1 - k = 0 := by omega
      have e' : i - 1 - (k + 1) = 0 := by omega
      rw [e, e']
      simp [h]
theorem bite_cut {r m : Nat} {s : List Nat} {i j : Nat} (hs : Fit r m s) (hj : 1 ≤ j) : bite s i j = cut s i j := by
  have hp := (fit_iff.mp hs).2.1
  unfold bite cut
  rw [zipIdx_map_lt (fun n => min n (j - 1)) i s 0, List.filter_append]
  have e1 : (s.take (i - 1 - 0)).filter (fun n => n != 0) = s.take (i - 1) := by
    rw [Nat.sub_zero]
    apply List.filter_eq_self.mpr
    intro n hn
    have := (hp n (List.mem_of_mem_take hn)).1
    simp; omega
  rw [e1, Nat.sub_zero]
  congr 1
  by_cases h : j = 1
  · rw [if_pos h]
    apply List.filter_eq_nil_iff.mpr
    intro n hn
    obtain ⟨k, hk, rfl⟩ := List.mem_map.mp hn
    subst h
    simp
  · rw [if_neg h]
    apply List.filter_eq_self.mpr
    intro n hn
    obtain ⟨k, hk, rfl⟩ := List.mem_map.mp hn
    have := (hp k (List.mem_of_mem_drop hk)).1
    simp; omega
theorem fit_cut {r m : Nat} {s : List Nat} {i j : Nat} (hs : Fit r m s) (hj : 1 ≤ j) : Fit r m (cut s i j) := by
  obtain ⟨h1, h2, h3⟩ := fit_iff.mp hs
  unfold cut
  refine fit_iff.mpr ⟨?_, ?_, ?_⟩
  · rw [List.length_append, List.length_take]
    split
    · simp; omega
    · rw [List.length_map, List.length_drop]; omega
  · intro n hn
    rcases List.mem_append.mp hn with hn | hn
    · exact h2 n (List.mem_of_mem_take hn)
    · split at hn
      · exact absurd hn (by simp)
      · obtain ⟨k, hk, rfl⟩ := List.mem_map.mp hn
        have := h2 k (List.mem_of_mem_drop hk)
        omega
  · rw [List.pairwise_append]
    refine ⟨h3.sublist (List.take_sublist _ _), ?_, ?_⟩
    · split
      · exact List.Pairwise.nil
      · rw [List.pairwise_map]
        exact (h3.sublist (List.drop_sublist (i - 1) s)).imp (by intro a b h; omega)
    · intro a ha b hb
      split at hb
      · exact absurd hb (by simp)
      · obtain ⟨k, hk, rfl⟩ := List.mem_map.mp hb
        have e : s = s.take (i - 1) ++ s.drop (i - 1) := (List.take_append_drop _ _).symm
        rw [e, List.pairwise_append] at h3
        have := h3.2.2 a ha k hk
        omega
theorem total_map_min (s : List Nat) (j : Nat) : total (s.map (fun n => min n j)) ≤ total s := by
  induction s with
  | nil => exact Nat.le_refl _
  | cons n s ih => rw [List.map_cons, total_cons, total_cons]; omega
theorem total_cut {s : List Nat} {i j : Nat} (h : (i, j) ∈ squares s) : total (cut s i j) < total s := by
  obtain ⟨h1, h2, n, h3, h4⟩ := mem_squares.mp h
  have hi : i - 1 < s.length := (List.getElem?_eq_some_iff.mp h3).1
  have hn : s[i - 1] = n := (List.getElem?_eq_some_iff.mp h3).2
  have e : s = s.take (i - 1) ++ s.drop (i - 1) := (List.take_append_drop _ _).symm
  have e2 : s.drop (i - 1) = n :: s.drop (i - 1 + 1) := by rw [← hn]; exact (List.getElem_cons_drop hi).symm
  have e3 : total s = total (s.take (i - 1)) + (n + total (s.drop (i - 1 + 1))) := by
    conv => lhs; rw [e, total_append, e2, total_cons]
  unfold cut
  rw [total_append, e3]
  split
  · rw [total_nil]; omega
  · rw [e2, List.map_cons, total_cons]
    have := total_map_min (s.drop (i - 1 + 1)) (j - 1)
    omega
theorem good_bite {s : List Nat} {i j : Nat} (hs : Good s) (h : (i, j) ∈ squares s) : Good (bite s i j) ∧ total (bite s i j) < total s := by
  have hj := (mem_squares.mp h).2.1
  rw [bite_cut hs hj]
  exact ⟨fit_cut hs hj, total_cut h⟩
theorem mem_bites {s : List Nat} {i j : Nat} : (i, j) ∈ bites s ↔ (i, j) ∈ squares s ∧ ¬ (i = 1 ∧ j = 1) := by
  unfold bites
  rw [List.mem_filter]
  simp [Prod.ext_iff]

/-! ### what a shape is worth -/
theorem worthBy_congr {t u : Nat → Worth} {s : List Nat} (h : ∀ i j, (i, j) ∈ bites s → t (key (bite s i j)) = u (key (bite s i j))) : worthBy t s = worthBy u s := by
  unfold worthBy
  have e : (bites s).map (fun x => t (key (bite s x.1 x.2))) = (bites s).map (fun x => u (key (bite s x.1 x.2))) :=
    List.map_congr_left fun x hx => h x.1 x.2 hx
  rw [e]
def stepT (t : Array Worth) (s : Shape) : Array Worth := t.set! (key s) (worthBy (fun k => t.getD k default) s)
theorem getD_set (t : Array Worth) (k j : Nat) (v : Worth) (hk : k < t.size) : (t.set! k v).getD j default = if j = k then v else t.getD j default := by
  rw [Array.getD_eq_getD_getElem?, Array.getD_eq_getD_getElem?, Array.set!_eq_setIfInBounds, Array.getElem?_setIfInBounds]
  by_cases h : k = j
  · subst h; simp [hk]
  · rw [if_neg h, if_neg (fun e => h e.symm)]
structure Told (A : List Shape) (t : Array Worth) : Prop where
  size : t.size = 7 ^ 5
  eq : ∀ s ∈ A, t.getD (key s) default = worthBy (fun k => t.getD k default) s
theorem Told.step {A : List Shape} {t : Array Worth} {s : Shape} (T : Told A t) (hA : ∀ a ∈ A, Good a ∧ total a ≤ total s) (hs : Good s) : Told (A ++ [s]) (stepT t s) := by
  have hk : key s < t.size := by rw [T.size]; exact key_lt (Nat.le_refl _) hs
  have hg : ∀ j, (stepT t s).getD j default = if j = key s then worthBy (fun k => t.getD k default) s else t.getD j default := fun j => getD_set t (key s) j _ hk
  have hb : ∀ a, Good a → total a ≤ total s → ∀ i j, (i, j) ∈ bites a → (stepT t s).getD (key (bite a i j)) default = t.getD (key (bite a i j)) default := by
    intro a ga ta i j hij
    have q := good_bite ga (mem_bites.mp hij).1
    rw [hg, if_neg]
    intro e
    have e2 := key_inj (Nat.le_refl _) (Nat.le_refl _) q.1 hs e
    rw [e2] at q
    omega
  refine ⟨by unfold stepT; simp [T.size], fun a ha => ?_⟩
  have main : ∀ a, Good a → total a ≤ total s → worthBy (fun k => (stepT t s).getD k default) a = worthBy (fun k => t.getD k default) a := fun a ga ta => worthBy_congr (hb a ga ta)
  rcases List.mem_append.mp ha with ha | ha
  · obtain ⟨ga, ta⟩ := hA a ha
    rw [main a ga ta, hg]
    split
    · rename_i e
      rw [key_inj (Nat.le_refl _) (Nat.le_refl _) ga hs e]
    · exact T.eq a ha
  · obtain rfl : a = s := by simpa using ha
    rw [main a hs (Nat.le_refl _), hg, if_pos rfl]
theorem Told.all : ∀ (B A : List Shape) (t : Array Worth), Told A t → (∀ a ∈ A ++ B, Good a) → (A ++ B).Pairwise (fun a b => total a ≤ total b) → Told (A ++ B) (B.foldl stepT t)
  | [], A, t, T, _, _ => by rw [List.append_nil]; exact T
  | s :: B, A, t, T, hG, hP => by
    have e : A ++ s :: B = (A ++ [s]) ++ B := by simp
    rw [List.foldl_cons, e]
    rw [e] at hP hG
    refine Told.all B (A ++ [s]) (stepT t s) (T.step (fun a ha => ⟨hG a (by simp [ha]), ?_⟩) (hG s (by simp))) hG hP
    rw [List.pairwise_append, List.pairwise_append] at hP
    exact hP.1.2.2 a ha s (by simp)
theorem mem_bySize {s : Shape} : s ∈ bySize ↔ Good s ∧ s ≠ [] := by
  unfold bySize
  simp only [List.mem_flatMap, List.mem_range, List.mem_filter, mem_all, Bool.and_eq_true, beq_iff_eq, Bool.not_eq_true', List.isEmpty_eq_false_iff]
  constructor
  · rintro ⟨n, hn, h1, h2, h3⟩
    exact ⟨h1, h3⟩
  · rintro ⟨h1, h2⟩
    have := total_le h1
    exact ⟨total s, by show total s < 5 * 6 + 1; omega, h1, rfl, h2⟩
theorem bySize_sorted : bySize.Pairwise (fun a b => total a ≤ total b) := by
  unfold bySize
  rw [List.pairwise_flatMap]
  have hm : ∀ (n : Nat) (x : Shape), x ∈ (shapes ROWS COLUMNS).filter (fun s => total s == n && !s.isEmpty) → total x = n := by
    intro n x hx
    have := (List.mem_filter.mp hx).2
    simp at this
    exact this.1
  constructor
  · intro n _
    exact List.pairwise_of_forall_mem_list fun a ha b hb => by rw [hm n a ha, hm n b hb]; exact Nat.le_refl _
  · refine List.pairwise_lt_range.imp ?_
    intro n k h x hx y hy
    rw [hm n x hx, hm k y hy]; omega
theorem told_table : Told bySize table := by
  have h0 : Told [] (Array.replicate ((COLUMNS + 1) ^ ROWS) (default : Worth)) := ⟨Array.size_replicate, fun s h => nomatch h⟩
  have h := Told.all bySize [] _ h0 (fun a ha => by rw [List.nil_append] at ha; exact (mem_bySize.mp ha).1) (by rw [List.nil_append]; exact bySize_sorted)
  rw [List.nil_append] at h
  exact h
/-- **the worth of a shape by its bites** -/
theorem worth_eq {s : Shape} (hs : Good s) (hn : s ≠ []) : worth s = worthBy (fun k => table.getD k default) s := told_table.eq s (mem_bySize.mpr ⟨hs, hn⟩)
theorem worth_rec {s : Shape} (hs : Good s) (hn : s ≠ []) : worth s =
    let l := (bites s).map fun x => worth (bite s x.1 x.2)
    let g := l.filter fun w => !w.won
    if g.isEmpty = true then ⟨false, most (l.map fun w => w.long) + 1⟩ else ⟨true, least (g.map fun w => w.long) + 1⟩ := worth_eq hs hn
end Ma

end

section
namespace Ma
open Ux04
/-! ### orders -/
/-- by row 1, then row 2, and so on, rising -/
def Lt2 : List Nat → List Nat → Prop
  | [], [] => False
  | [], _ :: _ => True
  | _ :: _, [] => False
  | a :: s, b :: t => a < b ∨ (a = b ∧ Lt2 s t)
theorem Lt2.irrefl : ∀ s, ¬ Lt2 s s
  | [] => fun h => h
  | a :: s => fun h => by
    rcases h with h | ⟨_, h⟩
    · omega
    · exact Lt2.irrefl s h
theorem Lt2.asymm : ∀ {s t}, Lt2 s t → ¬ Lt2 t s
  | [], [], h => h.elim
  | [], _ :: _, _ => fun h => h
  | _ :: _, [], h => h.elim
  | a :: s, b :: t, h => fun h' => by
    rcases h with h | ⟨e, h⟩
    · rcases h' with h' | ⟨_, h'⟩ <;> omega
    · rcases h' with h' | ⟨_, h'⟩
      · omega
      · exact Lt2.asymm h h'
theorem Lt2.trans : ∀ {s t u}, Lt2 s t → Lt2 t u → Lt2 s u
  | [], [], _, h, _ => h.elim
  | [], _ :: _, [], _, h => h.elim
  | [], _ :: _, _ :: _, _, _ => True.intro
  | _ :: _, [], _, h, _ => h.elim
  | _ :: _, _ :: _, [], _, h => h.elim
  | a :: s, b :: t, c :: u, h, h' => by
    rcases h with h | ⟨e, h⟩
    · rcases h' with h' | ⟨e', h'⟩
      · exact .inl (by omega)
      · exact .inl (by omega)
    · rcases h' with h' | ⟨e', h'⟩
      · exact .inl (by omega)
      · exact .inr ⟨by omega, Lt2.trans h h'⟩
theorem Lt2.append : ∀ {s t : List Nat} (x y : List Nat), s.length = t.length → Lt2 s t → Lt2 (s ++ x) (t ++ y)
  | [], [], _, _, _, h => h.elim
  | [], _ :: _, _, _, e, _ => by simp at e
  | _ :: _, [], _, _, e, _ => by simp at e
  | a :: s, b :: t, x, y, e, h => by
    rcases h with h | ⟨e', h⟩
    · exact .inl h
    · exact .inr ⟨e', Lt2.append x y (by simpa using e) h⟩
theorem Lt2.left : ∀ (s : List Nat) {x y : List Nat}, Lt2 x y → Lt2 (s ++ x) (s ++ y)
  | [], _, _, h => h
  | a :: s, _, _, h => .inr ⟨rfl, Lt2.left s h⟩
/-- **the document's order of shapes** -/
theorem shapes_sorted : ∀ r m, (shapes r m).Pairwise Lt2
  | 0, m => by simp [shapes]
  | r + 1, m => by
    unfold shapes
    rw [List.pairwise_cons]
    constructor
    · intro s hs
      obtain ⟨n, _, hs⟩ := List.mem_flatMap.mp hs
      obtain ⟨u, _, rfl⟩ := List.mem_map.mp hs
      exact True.intro
    · rw [List.pairwise_flatMap]
      constructor
      · intro n _
        rw [List.pairwise_map]
        exact (shapes_sorted r (n + 1)).imp fun h => .inr ⟨rfl, h⟩
      · refine List.pairwise_lt_range.imp ?_
        intro a b hab x hx y hy
        obtain ⟨u, _, rfl⟩ := List.mem_map.mp hx
        obtain ⟨v, _, rfl⟩ := List.mem_map.mp hy
        exact .inl (by omega)
theorem nodup_of_sorted {R : List Nat → List Nat → Prop} (hi : ∀ s, ¬ R s s) {l : List (List Nat)} (h : l.Pairwise R) : l.Nodup := by
  refine h.imp ?_
  rintro a b hab rfl
  exact hi a hab
theorem shapes_nodup (r m : Nat) : (shapes r m).Nodup := nodup_of_sorted Lt2.irrefl (shapes_sorted r m)
/-! ### counting -/
theorem nodup_len {α : Type} [DecidableEq α] : ∀ {l m : List α}, l.Nodup → (∀ x ∈ l, x ∈ m) → l.length ≤ m.length
  | [], _, _, _ => Nat.zero_le _
  | a :: l, m, hn, hs => by
    obtain ⟨h1, h2⟩ := List.nodup_cons.mp hn
    have ha := hs a (by simp)
    have h3 : l.length ≤ (m.erase a).length := nodup_len h2 fun x hx => by
      refine (List.mem_erase_of_ne ?_).mpr (hs x (by simp [hx]))
      rintro rfl
      exact h1 hx
    rw [List.length_erase_of_mem ha] at h3
    have := List.length_pos_of_mem ha
    rw [List.length_cons]; omega
theorem nodup_len_eq {α : Type} [DecidableEq α] {l m : List α} (hl : l.Nodup) (hm : m.Nodup) (h : ∀ x, x ∈ l ↔ x ∈ m) : l.length = m.length :=
  Nat.le_antisymm (nodup_len hl fun x hx => (h x).mp hx) (nodup_len hm fun x hx => (h x).mpr hx)
/-! ### shapes within a shape, by rows -/
def fitN (m : Nat) (s : List Nat) : Nat := match s.getLast? with
  | none => m
  | some n => min m n
def grow1 (m : Nat) (s : List Nat) : List (List Nat) := (List.range (fitN m s)).map fun k => s ++ [1 + k]
def grow (m : Nat) (L : List (List Nat)) : List (List Nat) := L.flatMap (grow1 m)
def lev (s : List Nat) : List (List Nat) := s.foldl (fun L m => grow m L) [[]]
theorem lev_snoc (s : List Nat) (m : Nat) : lev (s ++ [m]) = grow m (lev s) := by unfold lev; rw [List.foldl_append]; rfl
def within (s : List Nat) : List (List Nat) := (List.range s.length).flatMap fun k => lev (s.take (k + 1))
/-- rows of at least one square, none longer than the one before it -/
abbrev Down (t : List Nat) : Prop := (∀ n ∈ t, 1 ≤ n) ∧ t.Pairwise (fun a b => b ≤ a)
/-- no row longer than the other's -/
def Leq : List Nat → List Nat → Prop
  | [], _ => True
  | _ :: _, [] => False
  | a :: s, b :: t => a ≤ b ∧ Leq s t
theorem leq_inside : ∀ {s t : List Nat}, inside s t = true ↔ Leq s t
  | [], t => by simp [inside, Leq]
  | a :: s, [] => by simp [inside, Leq]
  | a :: s, b :: t => by
    have ih := leq_inside (s := s) (t := t)
    simp only [inside, Leq, List.length_cons, List.zip_cons_cons, List.all_cons, Bool.and_eq_true, decide_eq_true_eq] at ih ⊢
    rw [← ih]
    constructor
    · rintro ⟨h1, h2, h3⟩; exact ⟨h2, by omega, h3⟩
    · rintro ⟨h1, h2, h3⟩; exact ⟨by omega, h1, h3⟩
theorem leq_len : ∀ {s t : List Nat}, Leq s t → s.length ≤ t.length
  | [], _, _ => Nat.zero_le _
  | _ :: _, [], h => h.elim
  | _ :: s, _ :: t, h => by have := leq_len h.2; simp; omega
theorem leq_take : ∀ {s t : List Nat} (k : Nat), s.length ≤ k → (Leq s t ↔ Leq s (t.take k))
  | [], _, _, _ => by simp [Leq]
  | a :: s, [], k, _ => by simp [Leq]
  | a :: s, b :: t, 0, h => by simp at h
  | a :: s, b :: t, k + 1, h => by
    rw [List.take_succ_cons]
    unfold Leq
    rw [leq_take k (by simpa using h)]
theorem leq_snoc : ∀ {s t : List Nat} {x y : Nat}, s.length = t.length → (Leq (s ++ [x]) (t ++ [y]) ↔ Leq s t ∧ x ≤ y)
  | [], [], x, y, _ => by simp [Leq]
  | [], _ :: _, _, _, e => by simp at e
  | _ :: _, [], _, _, e => by simp at e
  | a :: s, b :: t, x, y, e => by
    simp only [List.cons_append, Leq]
    rw [leq_snoc (by simpa using e)]
    exact ⟨fun ⟨a, b, c⟩ => ⟨⟨a, b⟩, c⟩, fun ⟨⟨a, b⟩, c⟩ => ⟨a, b, c⟩⟩
theorem snoc_ind {C : List Nat → Prop} (h0 : C []) (h1 : ∀ l x, C l → C (l ++ [x])) : ∀ l, C l := by
  intro l
  have : ∀ n (l : List Nat), l.length = n → C l := by
    intro n
    induction n with
    | zero => intro l e; rw [List.length_eq_zero_iff.mp e]; exact h0
    | succ n ih =>
      intro l e
      have hne : l ≠ [] := by rintro rfl; simp at e
      rw [← List.dropLast_concat_getLast hne]
      exact h1 _ _ (ih _ (by rw [List.length_dropLast]; omega))
  exact this _ l rfl
theorem down_snoc {u : List Nat} {x : Nat} : Down (u ++ [x]) ↔ Down u ∧ 1 ≤ x ∧ ∀ n, u.getLast? = some n → x ≤ n := by
  unfold Down
  rw [List.pairwise_append]
  constructor
  · rintro ⟨h1, h2, h3, h4⟩
    exact ⟨⟨fun n hn => h1 n (by simp [hn]), h2⟩, h1 x (by simp), fun n hn => h4 n (List.mem_of_getLast? hn) x (by simp)⟩
  · rintro ⟨⟨h1, h2⟩, h3, h4⟩
    refine ⟨fun n hn => ?_, h2, by simp, fun a ha b hb => ?_⟩
    · rcases List.mem_append.mp hn with hn | hn
      · exact h1 n hn
      · obtain rfl : n = x := by simpa using hn
        exact h3
    · obtain rfl : b = x := by simpa using hb
      have hne : u ≠ [] := List.ne_nil_of_mem ha
      have h5 := h4 (u.getLast hne) (List.getLast?_eq_some_getLast hne)
      have h6 : u.getLast hne ≤ a := by
        have e := List.dropLast_concat_getLast hne
        rw [← e] at ha
        rcases List.mem_append.mp ha with ha | ha
        · rw [← e, List.pairwise_append] at h2
          exact h2.2.2 a ha _ (by simp)
        · have : a = u.getLast hne := by simpa using ha
          omega
      omega
theorem mem_lev : ∀ (s t : List Nat), t ∈ lev s ↔ t.length = s.length ∧ Down t ∧ Leq t s := by
  refine snoc_ind ?_ ?_
  · intro t
    show t ∈ [[]] ↔ _
    constructor
    · intro h
      obtain rfl : t = [] := by simpa using h
      exact ⟨rfl, ⟨by simp, List.Pairwise.nil⟩, True.intro⟩
    · rintro ⟨h, _⟩
      rw [List.length_eq_zero_iff.mp h]; simp
  · intro s m ih t
    rw [lev_snoc]
    unfold grow
    rw [List.mem_flatMap]
    constructor
    · rintro ⟨u, hu, ht⟩
      obtain ⟨h1, h2, h3⟩ := (ih u).mp hu
      unfold grow1 at ht
      obtain ⟨k, hk, rfl⟩ := List.mem_map.mp ht
      rw [List.mem_range] at hk
      refine ⟨by rw [List.length_append, List.length_append, h1]; rfl, down_snoc.mpr ⟨h2, by omega, fun n hn => ?_⟩, (leq_snoc h1).mpr ⟨h3, ?_⟩⟩
      · unfold fitN at hk; rw [hn] at hk; dsimp only at hk; omega
      · unfold fitN at hk; split at hk <;> omega
    · rintro ⟨h1, h2, h3⟩
      have hne : t ≠ [] := by rintro rfl; simp at h1
      have e := List.dropLast_concat_getLast hne
      have hl : t.dropLast.length = s.length := by rw [List.length_dropLast, h1]; simp
      rw [← e] at h2 h3
      have h4 := (leq_snoc hl).mp h3
      have h5 := down_snoc.mp h2
      refine ⟨t.dropLast, (ih _).mpr ⟨hl, h5.1, h4.1⟩, ?_⟩
      unfold grow1
      refine List.mem_map.mpr ⟨t.getLast hne - 1, ?_, ?_⟩
      · rw [List.mem_range]
        unfold fitN
        split
        · omega
        · rename_i n hn
          have := h5.2.2 n hn
          omega
      · have : 1 + (t.getLast hne - 1) = t.getLast hne := by omega
        rw [this, e]
theorem mem_within {s t : List Nat} : t ∈ within s ↔ t ≠ [] ∧ Down t ∧ Leq t s := by
  unfold within
  rw [List.mem_flatMap]
  constructor
  · rintro ⟨k, hk, ht⟩
    rw [List.mem_range] at hk
    obtain ⟨h1, h2, h3⟩ := (mem_lev _ _).mp ht
    have hl : t.length = k + 1 := by rw [h1, List.length_take]; omega
    refine ⟨by rintro rfl; simp at hl, h2, (leq_take (k + 1) (by omega)).mpr h3⟩
  · rintro ⟨h1, h2, h3⟩
    have hl := leq_len h3
    have hp : 0 < t.length := List.length_pos_iff.mpr h1
    refine ⟨t.length - 1, by rw [List.mem_range]; omega, (mem_lev _ _).mpr ⟨?_, h2, ?_⟩⟩
    · rw [List.length_take]; omega
    · exact (leq_take _ (by omega)).mp h3
theorem lev_sorted : ∀ s, (lev s).Pairwise Lt2 := by
  refine snoc_ind ?_ ?_
  · show ([[]] : List (List Nat)).Pairwise Lt2
    simp
  · intro s m ih
    rw [lev_snoc]
    unfold grow
    rw [List.pairwise_flatMap]
    constructor
    · intro u _
      unfold grow1
      rw [List.pairwise_map]
      refine List.pairwise_lt_range.imp ?_
      intro a b h
      exact Lt2.left u (.inl (by omega))
    · refine ih.imp_of_mem ?_
      intro a b ha hb hab x hx y hy
      obtain ⟨_, _, rfl⟩ := List.mem_map.mp hx
      obtain ⟨_, _, rfl⟩ := List.mem_map.mp hy
      exact Lt2.append _ _ (by rw [((mem_lev _ _).mp ha).1, ((mem_lev _ _).mp hb).1]) hab
/-- fewer rows first, then by rows, rising -/
def Bef (s t : List Nat) : Prop := s.length < t.length ∨ (s.length = t.length ∧ Lt2 s t)
theorem Bef.irrefl (s : List Nat) : ¬ Bef s s := by
  rintro (h | ⟨_, h⟩)
  · omega
  · exact Lt2.irrefl s h
theorem Bef.asymm {s t : List Nat} (h : Bef s t) : ¬ Bef t s := by
  rintro h'
  rcases h with h | ⟨e, h⟩
  · rcases h' with h' | ⟨e', _⟩ <;> omega
  · rcases h' with h' | ⟨e', h'⟩
    · omega
    · exact Lt2.asymm h h'
theorem within_sorted (s : List Nat) : (within s).Pairwise Bef := by
  unfold within
  rw [List.pairwise_flatMap]
  constructor
  · intro k _
    refine (lev_sorted _).imp_of_mem ?_
    intro a b ha hb h
    exact .inr ⟨by rw [((mem_lev _ _).mp ha).1, ((mem_lev _ _).mp hb).1], h⟩
  · refine (List.pairwise_lt_range (n := s.length)).imp_of_mem ?_
    intro a b ha hb hab x hx y hy
    rw [List.mem_range] at ha hb
    left
    rw [((mem_lev _ _).mp hx).1, ((mem_lev _ _).mp hy).1, List.length_take, List.length_take]
    omega
theorem within_nodup (s : List Nat) : (within s).Nodup := nodup_of_sorted Bef.irrefl (within_sorted s)
/-- what stands ahead in a sorted list -/
theorem ahead {R : List Nat → List Nat → Prop} (asy : ∀ {s t}, R s t → ¬ R t s) {A B : List (List Nat)} {t u : List Nat} (h : (A ++ t :: B).Pairwise R) (hu : u ∈ A ++ t :: B) (hut : R u t) : u ∈ A := by
  rcases List.mem_append.mp hu with hu | hu
  · exact hu
  · rw [List.pairwise_append, List.pairwise_cons] at h
    rcases List.mem_cons.mp hu with rfl | hu
    · exact absurd hut (asy hut)
    · exact absurd (h.2.1.1 u hu) (asy hut)
/-! ### what a bite leaves comes earlier -/
theorem leq_refl : ∀ s, Leq s s
  | [] => True.intro
  | _ :: s => ⟨Nat.le_refl _, leq_refl s⟩
theorem leq_trans : ∀ {s t u : List Nat}, Leq s t → Leq t u → Leq s u
  | [], _, _, _, _ => True.intro
  | _ :: _, [], _, h, _ => h.elim
  | _ :: _, _ :: _, [], _, h => h.elim
  | _ :: s, _ :: t, _ :: u, h, h' => ⟨Nat.le_trans h.1 h'.1, leq_trans h.2 h'.2⟩
theorem leq_cut (i j : Nat) : ∀ s, Leq (cut s i j) s := by
  have hm : ∀ (s : List Nat), Leq (s.map fun n => min n (j - 1)) s := by
    intro s
    induction s with
    | nil => exact True.intro
    | cons a s ih => exact ⟨Nat.min_le_left _ _, ih⟩
  have ht : ∀ (k : Nat) (s x : List Nat), Leq x (s.drop k) → Leq (s.take k ++ x) s := by
    intro k
    induction k with
    | zero => intro s x h; simpa using h
    | succ k ih =>
      intro s x h
      cases s with
      | nil => simpa using h
      | cons a s => exact ⟨Nat.le_refl _, ih s x (by simpa using h)⟩
  intro s
  unfold cut
  refine ht _ _ _ ?_
  split
  · exact True.intro
  · exact hm _
theorem lt2_of_leq : ∀ {s t : List Nat}, s.length = t.length → Leq s t → s ≠ t → Lt2 s t
  | [], [], _, _, h => absurd rfl h
  | [], _ :: _, e, _, _ => by simp at e
  | _ :: _, [], e, _, _ => by simp at e
  | a :: s, b :: t, e, h, hne => by
    by_cases q : a = b
    · subst q
      exact .inr ⟨rfl, lt2_of_leq (by simpa using e) h.2 (fun z => hne (by rw [z]))⟩
    · have := h.1
      exact .inl (by omega)
theorem bef_cut {s : List Nat} {i j : Nat} (h : (i, j) ∈ squares s) : Bef (cut s i j) s := by
  have h1 := leq_cut i j s
  have h2 := leq_len h1
  have h3 := total_cut h
  by_cases e : (cut s i j).length = s.length
  · exact .inr ⟨e, lt2_of_leq e h1 (fun z => by rw [z] at h3; omega)⟩
  · exact .inl (by omega)
theorem good_down {s : List Nat} (h : Good s) : Down s := by
  obtain ⟨_, h2, h3⟩ := fit_iff.mp h
  exact ⟨fun n hn => (h2 n hn).1, h3⟩
theorem leq_good {s t : List Nat} (hs : Good s) (hd : Down t) (h : Leq t s) : Good t := by
  obtain ⟨h1, h2, h3⟩ := fit_iff.mp hs
  have hl := leq_len h
  refine fit_iff.mpr ⟨by omega, fun n hn => ⟨hd.1 n hn, ?_⟩, hd.2⟩
  have : ∀ {t s : List Nat}, Leq t s → (∀ n ∈ s, n ≤ 6) → ∀ n ∈ t, n ≤ 6 := by
    intro t
    induction t with
    | nil => intro s _ _ n hn; simp at hn
    | cons a t ih =>
      intro s h hs n hn
      cases s with
      | nil => exact h.elim
      | cons b s =>
        rcases List.mem_cons.mp hn with rfl | hn
        · have := h.1; have := hs b (by simp); omega
        · exact ih h.2 (fun n hn => hs n (by simp [hn])) n hn
  exact this h (fun n hn => (h2 n hn).2) n hn
theorem mem_under {s t : List Nat} (hs : Good s) : t ∈ under s ↔ t ∈ within s := by
  unfold under
  rw [List.mem_filter, mem_all, mem_within, Bool.and_eq_true, leq_inside]
  constructor
  · rintro ⟨h1, h2, h3⟩
    exact ⟨by simpa using h2, good_down h1, h3⟩
  · rintro ⟨h1, h2, h3⟩
    exact ⟨leq_good hs h2 h3, by simpa using h1, h3⟩
theorem under_len {s : List Nat} (hs : Good s) : (under s).length = (within s).length :=
  nodup_len_eq ((shapes_nodup _ _).filter _) (within_nodup s) fun _ => mem_under hs
theorem under_count {s : List Nat} (hs : Good s) (p : List Nat → Bool) : ((under s).filter p).length = ((within s).filter p).length :=
  nodup_len_eq (((shapes_nodup _ _).filter _).filter _) ((within_nodup s).filter _) fun x => by rw [List.mem_filter, List.mem_filter, mem_under hs]
end Ma

end

section
namespace Ma
open Ux04
theorem cut_nil {s : List Nat} {i j : Nat} (h : (i, j) ∈ squares s) : cut s i j = [] ↔ i = 1 ∧ j = 1 := by
  obtain ⟨h1, h2, n, h3, h4⟩ := mem_squares.mp h
  have hi : i - 1 < s.length := (List.getElem?_eq_some_iff.mp h3).1
  unfold cut
  rw [List.append_eq_nil_iff]
  constructor
  · rintro ⟨a, b⟩
    have a1 : i = 1 := by
      have := congrArg List.length a
      rw [List.length_take, List.length_nil] at this
      omega
    refine ⟨a1, ?_⟩
    by_cases q : j = 1
    · exact q
    · rw [if_neg q] at b
      have := congrArg List.length b
      rw [List.length_map, List.length_drop, List.length_nil] at this
      omega
  · rintro ⟨rfl, rfl⟩
    simp
theorem won_iff {s : Shape} (hs : Good s) (hn : s ≠ []) : (worth s).won = true ↔ ∃ i j, (i, j) ∈ bites s ∧ (worth (bite s i j)).won = false := by
  rw [worth_rec hs hn]
  dsimp only
  split
  · rename_i h
    constructor
    · intro h; cases h
    · rintro ⟨i, j, h1, h2⟩
      rw [List.isEmpty_iff, List.filter_eq_nil_iff] at h
      have := h _ (List.mem_map.mpr ⟨(i, j), h1, rfl⟩)
      simp [h2] at this
  · rename_i h
    constructor
    · intro _
      rw [Bool.not_eq_true, List.isEmpty_eq_false_iff] at h
      obtain ⟨x, hx⟩ := List.exists_mem_of_ne_nil _ h
      obtain ⟨h1, h2⟩ := List.mem_filter.mp hx
      obtain ⟨⟨i, j⟩, h3, rfl⟩ := List.mem_map.mp h1
      exact ⟨i, j, h3, by simpa using h2⟩
    · intro _; rfl
/-- by the code's own words: some bite leaves a shape that is not empty and lost -/
theorem won_cut {s : Shape} (hs : Good s) (hn : s ≠ []) : (worth s).won = true ↔ ∃ i j, (i, j) ∈ squares s ∧ cut s i j ≠ [] ∧ (worth (cut s i j)).won = false := by
  rw [won_iff hs hn]
  constructor
  · rintro ⟨i, j, h1, h2⟩
    obtain ⟨h3, h4⟩ := mem_bites.mp h1
    have hj := (mem_squares.mp h3).2.1
    rw [bite_cut hs hj] at h2
    exact ⟨i, j, h3, fun z => h4 ((cut_nil h3).mp z), h2⟩
  · rintro ⟨i, j, h1, h2, h3⟩
    have hj := (mem_squares.mp h1).2.1
    refine ⟨i, j, mem_bites.mpr ⟨h1, fun z => h2 ((cut_nil h1).mpr z)⟩, ?_⟩
    rw [bite_cut hs hj]; exact h3
theorem shapes_len : (shapes ROWS COLUMNS).length = 462 := by decide +kernel
theorem cut_good {s : Shape} {i j : Nat} (hs : Good s) (h : (i, j) ∈ squares s) : Good (cut s i j) := fit_cut hs (mem_squares.mp h).2.1
/-- in the list of shapes within one, what a bite leaves stands ahead -/
theorem cut_ahead {s t : Shape} {A B : List Shape} {i j : Nat} (hs : Good s) (e : within s = A ++ t :: B) (h : (i, j) ∈ squares t) (hne : cut t i j ≠ []) : cut t i j ∈ A := by
  have hst := within_sorted s
  rw [e] at hst
  have ht : t ∈ within s := by rw [e]; simp
  obtain ⟨h1, h2, h3⟩ := mem_within.mp ht
  have hg : Good t := leq_good hs h2 h3
  refine ahead Bef.asymm hst ?_ (bef_cut h)
  rw [← e]
  exact mem_within.mpr ⟨hne, good_down (cut_good hg h), leq_trans (leq_cut i j t) h3⟩
theorem self_within {s : Shape} (hs : Good s) (hn : s ≠ []) : s ∈ within s := mem_within.mpr ⟨hn, good_down hs, leq_refl s⟩
theorem within_good {s t : Shape} (hs : Good s) (h : t ∈ within s) : Good t ∧ t ≠ [] := by
  obtain ⟨h1, h2, h3⟩ := mem_within.mp h
  exact ⟨leq_good hs h2 h3, h1⟩
end Ma

end

section
namespace Ma
open Ux04
theorem isShape_iff {l : List Nat} : isShape l = true ↔ l ≠ [] ∧ Good l := by
  unfold isShape
  rw [show Good l = Fit 5 6 l from rfl, fit_iff]
  simp only [Bool.and_eq_true, Bool.not_eq_true', List.isEmpty_eq_false_iff, decide_eq_true_eq, List.all_eq_true]
  exact Iff.rfl
theorem bar_shape {r c : Nat} (h1 : 1 ≤ r) (h2 : r ≤ 5) : isShape (List.replicate r c) = (decide (1 ≤ c) && decide (c ≤ 6)) := by
  by_cases h : 1 ≤ c ∧ c ≤ 6
  · have : isShape (List.replicate r c) = true := isShape_iff.mpr ⟨by intro z; have := congrArg List.length z; rw [List.length_replicate, List.length_nil] at this; omega, fit_iff.mpr ⟨by rw [List.length_replicate]; exact h2, fun n hn => by
      obtain ⟨_, rfl⟩ := List.mem_replicate.mp hn; exact h, List.pairwise_replicate.mpr (.inr (Nat.le_refl _))⟩⟩
    rw [this]; simp [h.1, h.2]
  · have : ¬ isShape (List.replicate r c) = true := by
      intro z
      obtain ⟨_, z⟩ := isShape_iff.mp z
      exact h ((fit_iff.mp z).2.1 c (List.mem_replicate.mpr ⟨by omega, rfl⟩))
    rw [Bool.not_eq_true] at this
    rw [this]
    symm
    rw [← Bool.not_eq_true]
    simp only [Bool.and_eq_true, decide_eq_true_eq]
    exact h
theorem total_replicate (r c : Nat) : total (List.replicate r c) = r * c := by
  induction r with
  | zero => simp [total]
  | succ r ih => rw [List.replicate_succ, total_cons, ih, Nat.succ_mul]; omega
/-- bar (r, c), r in its bounds, is shape of r rows of c squares -/
theorem step_bar (st : Bar) {r c : Nat} (h1 : 1 ≤ r) (h2 : r ≤ 5) : step st (.bar r c) = step st (.shape (List.replicate r c)) := by
  unfold step
  dsimp only
  rw [bar_shape h1 h2, total_replicate]
  by_cases h : 1 ≤ c ∧ c ≤ 6
  · rw [if_neg (by show ¬ (r < 1 ∨ 5 < r ∨ c < 1 ∨ 6 < c); omega), if_neg (by simp [h.1, h.2])]
  · rw [if_pos (by show (r < 1 ∨ 5 < r ∨ c < 1 ∨ 6 < c); omega), if_pos (by
      rw [← Bool.not_eq_true]
      simp only [Bool.and_eq_true, decide_eq_true_eq]
      exact h)]
theorem contains_squares {s : List Nat} {i j : Nat} : (squares s).contains (i, j) = true ↔ 1 ≤ i ∧ 1 ≤ j ∧ ∃ n, s[i - 1]? = some n ∧ j ≤ n := by
  rw [List.contains_iff_mem]; exact mem_squares
theorem bite_le {s : List Nat} {i j : Nat} (hs : Good s) (h : (i, j) ∈ squares s) : total (bite s i j) ≤ total s := Nat.le_of_lt (good_bite hs h).2
end Ma

end

section
namespace Ma
open Ux04
/-- one call as it's handed in, and the document's call -/
inductive Reads : List (List Int) → Ux04.Call → Prop
  | bar (r c : Nat) (h1 : r < 2 ^ 32) (h2 : c < 2 ^ 32) : Reads [[0, (r : Int), (c : Int)]] (.bar r c)
  | shape (ns : List Int) (h1 : ∀ n ∈ ns, 0 ≤ n ∧ n < 2 ^ 32) (h2 : ns.length ≤ 40) : Reads [[1], ns] (.shape (ns.map Int.toNat))
  | bite (i j : Nat) (h1 : i < 2 ^ 32) (h2 : j < 2 ^ 32) : Reads [[2, (i : Int), (j : Int)]] (.bite i j)
  | back : Reads [[3]] .back
  | shows : Reads [[4]] .shows
  | won : Reads [[5]] .won
  | good : Reads [[6]] .good
  | long : Reads [[7]] .long
  | play : Reads [[8]] .play
  | under : Reads [[9]] .under
  | lost (n : Nat) (h1 : n < 2 ^ 32) : Reads [[10, (n : Int)]] (.lost n)
  | turned : Reads [[11]] .turned
theorem within_iff {lo hi z : Int} : PyInside.within lo hi z = true ↔ lo ≤ z ∧ z ≤ hi := by
  unfold PyInside.within
  rw [Bool.and_eq_true, decide_eq_true_eq, decide_eq_true_eq]
theorem shape_cases {p : Int} {n k : Nat} (h : PyUx04.shape p = some (n, k)) : (p = 0 ∧ n = 2 ∧ k = 0) ∨ (p = 1 ∧ n = 0 ∧ k = 1) ∨ (p = 2 ∧ n = 2 ∧ k = 0) ∨ (p = 10 ∧ n = 1 ∧ k = 0) ∨
    ((p = 3 ∨ p = 4 ∨ p = 5 ∨ p = 6 ∨ p = 7 ∨ p = 8 ∨ p = 9 ∨ p = 11) ∧ n = 0 ∧ k = 0) := by
  by_cases h0 : p = 0
  · subst h0
    have h : some (2, 0) = some (n, k) := h
    injection h with h
    injection h with a b
    subst a b
    simp
  by_cases h1 : p = 1
  · subst h1
    have h : some (0, 1) = some (n, k) := h
    injection h with h
    injection h with a b
    subst a b
    simp
  by_cases h2 : p = 2
  · subst h2
    have h : some (2, 0) = some (n, k) := h
    injection h with h
    injection h with a b
    subst a b
    simp
  by_cases h3 : p = 3
  · subst h3
    have h : some (0, 0) = some (n, k) := h
    injection h with h
    injection h with a b
    subst a b
    simp
  by_cases h4 : p = 4
  · subst h4
    have h : some (0, 0) = some (n, k) := h
    injection h with h
    injection h with a b
    subst a b
    simp
  by_cases h5 : p = 5
  · subst h5
    have h : some (0, 0) = some (n, k) := h
    injection h with h
    injection h with a b
    subst a b
    simp
  by_cases h6 : p = 6
  · subst h6
    have h : some (0, 0) = some (n, k) := h
    injection h with h
    injection h with a b
    subst a b
    simp
  by_cases h7 : p = 7
  · subst h7
    have h : some (0, 0) = some (n, k) := h
    injection h with h
    injection h with a b
    subst a b
    simp
  by_cases h8 : p = 8
  · subst h8
    have h : some (0, 0) = some (n, k) := h
    injection h with h
    injection h with a b
    subst a b
    simp
  by_cases h9 : p = 9
  · subst h9
    have h : some (0, 0) = some (n, k) := h
    injection h with h
    injection h with a b
    subst a b
    simp
  by_cases h10 : p = 10
  · subst h10
    have h : some (1, 0) = some (n, k) := h
    injection h with h
    injection h with a b
    subst a b
    simp
  by_cases h11 : p = 11
  · subst h11
    have h : some (0, 0) = some (n, k) := h
    injection h with h
    injection h with a b
    subst a b
    simp
  unfold PyUx04.shape at h
  rw [if_neg h0, if_neg h1, if_neg h2, if_neg h3, if_neg h4, if_neg h5, if_neg h6, if_neg h7, if_neg h8, if_neg h9, if_neg h10, if_neg h11] at h
  cases h
theorem reads_of {c : List (List Int)} (h : PyFlat.okCall PyUx04.shape c) (hb : PyInside.call PyUx04.bound c = true) : ∃ call, Reads c call := by
  obtain ⟨p, a, xs, rfl, hs⟩ := h
  have nat : ∀ z : Int, PyInside.within 0 4294967295 z = true → ∃ n : Nat, z = (n : Int) ∧ n < 2 ^ 32 := fun z hz => by
    obtain ⟨h1, h2⟩ := within_iff.mp hz
    exact ⟨z.toNat, by omega, by omega⟩
  rcases shape_cases hs with ⟨rfl, h1, h2⟩ | ⟨rfl, h1, h2⟩ | ⟨rfl, h1, h2⟩ | ⟨rfl, h1, h2⟩ | ⟨hp, h1, h2⟩
  · obtain ⟨x, y, rfl⟩ : ∃ x y, a = [x, y] := by
      match a, h1 with
      | [x, y], _ => exact ⟨x, y, rfl⟩
    obtain rfl := List.length_eq_zero_iff.mp h2
    have hb : (PyInside.within 0 4294967295 x && (PyInside.within 0 4294967295 y && true) && true) = true := hb
    simp only [Bool.and_eq_true, and_true] at hb
    obtain ⟨n, rfl, hn⟩ := nat x hb.1
    obtain ⟨m, rfl, hm⟩ := nat y hb.2
    exact ⟨_, .bar n m hn hm⟩
  · obtain rfl := List.length_eq_zero_iff.mp h1
    obtain ⟨ns, rfl⟩ : ∃ ns, xs = [ns] := by
      match xs, h2 with
      | [ns], _ => exact ⟨ns, rfl⟩
    have hb : (true && (decide (0 ≤ ns.length) && decide (ns.length ≤ 40) && ns.all (PyInside.within 0 4294967295) && true)) = true := hb
    simp only [Bool.and_eq_true, and_true, true_and, decide_eq_true_eq, List.all_eq_true] at hb
    exact ⟨_, .shape ns (fun n hn => by have := within_iff.mp (hb.2 n hn); omega) hb.1.2⟩
  · obtain ⟨x, y, rfl⟩ : ∃ x y, a = [x, y] := by
      match a, h1 with
      | [x, y], _ => exact ⟨x, y, rfl⟩
    obtain rfl := List.length_eq_zero_iff.mp h2
    have hb : (PyInside.within 0 4294967295 x && (PyInside.within 0 4294967295 y && true) && true) = true := hb
    simp only [Bool.and_eq_true, and_true] at hb
    obtain ⟨n, rfl, hn⟩ := nat x hb.1
    obtain ⟨m, rfl, hm⟩ := nat y hb.2
    exact ⟨_, .bite n m hn hm⟩
  · obtain ⟨x, rfl⟩ : ∃ x, a = [x] := by
      match a, h1 with
      | [x], _ => exact ⟨x, rfl⟩
    obtain rfl := List.length_eq_zero_iff.mp h2
    have hb : (PyInside.within 0 4294967295 x && true && true) = true := hb
    simp only [Bool.and_eq_true, and_true] at hb
    obtain ⟨n, rfl, hn⟩ := nat x hb
    exact ⟨_, .lost n hn⟩
  · obtain rfl := List.length_eq_zero_iff.mp h1
    obtain rfl := List.length_eq_zero_iff.mp h2
    rcases hp with rfl | rfl | rfl | rfl | rfl | rfl | rfl | rfl
    · exact ⟨_, .back⟩
    · exact ⟨_, .shows⟩
    · exact ⟨_, .won⟩
    · exact ⟨_, .good⟩
    · exact ⟨_, .long⟩
    · exact ⟨_, .play⟩
    · exact ⟨_, .under⟩
    · exact ⟨_, .turned⟩
theorem callOf_nat {l : List Int} {ms : List Nat} {c : Ux04.Call} (e : l = ms.map fun (n : Nat) => (n : Int)) (h : ∀ n ∈ ms, n < 2 ^ 32) (hc : Ux04Neutral.callIn ms = some c) : Ux04Neutral.callOf l = some c := by
  subst e
  unfold Ux04Neutral.callOf
  have h1 : ((ms.map fun (n : Nat) => (n : Int)).all Ux04Neutral.nat) = true := by
    rw [List.all_eq_true]
    intro z hz
    obtain ⟨n, hn, rfl⟩ := List.mem_map.mp hz
    have := h n hn
    unfold Ux04Neutral.nat
    rw [Bool.and_eq_true, decide_eq_true_eq, decide_eq_true_eq]
    omega
  rw [h1, if_neg (by decide)]
  have h2 : (ms.map fun (n : Nat) => (n : Int)).map Int.toNat = ms := by
    rw [List.map_map]
    have : (Int.toNat ∘ fun (n : Nat) => (n : Int)) = id := by funext n; simp
    rw [this, List.map_id]
  rw [h2]; exact hc
theorem reads_call {c : List (List Int)} {call : Ux04.Call} (h : Reads c call) : Ux04Neutral.callOf ((PyUx04.whole c).headD []) = some call := by
  cases h with
  | bar r c h1 h2 => exact callOf_nat (ms := [0, r, c]) rfl (by simp; omega) rfl
  | shape ns h1 h2 =>
    refine callOf_nat (ms := 1 :: ns.map Int.toNat) ?_ ?_ rfl
    · show 1 :: ns = 1 :: (ns.map Int.toNat).map fun (n : Nat) => (n : Int)
      rw [List.map_map]
      congr 1
      have : ns.map ((fun (n : Nat) => (n : Int)) ∘ Int.toNat) = ns.map id := List.map_congr_left fun n hn => by
        have := (h1 n hn).1
        simp; omega
      rw [this, List.map_id]
    · intro n hn
      rcases List.mem_cons.mp hn with rfl | hn
      · decide
      · obtain ⟨z, hz, rfl⟩ := List.mem_map.mp hn
        have := h1 z hz
        omega
  | bite i j h1 h2 => exact callOf_nat (ms := [2, i, j]) rfl (by simp; omega) rfl
  | lost n h1 => exact callOf_nat (ms := [10, n]) rfl (by simp; omega) rfl
  | back => rfl
  | shows => rfl
  | won => rfl
  | good => rfl
  | long => rfl
  | play => rfl
  | under => rfl
  | turned => rfl
/-- the specification's step at a call as it's handed in -/
def stepC (s : Ux04.Bar) (c : List (List Int)) : Ux04.Bar × List Int := Ux04Neutral.step s ((PyUx04.whole c).headD [])
theorem stepC_eq {c : List (List Int)} {call : Ux04.Call} (h : Reads c call) (s : Ux04.Bar) : stepC s c = Ux04.step s call := by
  unfold stepC Ux04Neutral.step
  rw [reads_call h]
  rfl
def runC (s : Ux04.Bar) : List (List (List Int)) → Ux04.Bar
  | [] => s
  | c :: r => runC (stepC s c).1 r
theorem runC_snoc (s : Ux04.Bar) (a : List (List (List Int))) (c : List (List Int)) : runC s (a ++ [c]) = (stepC (runC s a) c).1 := by
  induction a generalizing s with
  | nil => rfl
  | cons x a ih => exact ih _
def outC (s : Ux04.Bar) (cs : List (List (List Int))) : List Int := PyFlat.told (PyFlat.played (fun s c => Ux04Neutral.step s (c.headD [])) s (cs.map PyUx04.whole))
theorem outC_nil (s : Ux04.Bar) : outC s [] = [] := rfl
theorem outC_cons (s : Ux04.Bar) (c : List (List Int)) (r : List (List (List Int))) : outC s (c :: r) = ((stepC s c).2.length : Int) :: ((stepC s c).2 ++ outC (stepC s c).1 r) := rfl
theorem outC_append (s : Ux04.Bar) (a b : List (List (List Int))) : outC s (a ++ b) = outC s a ++ outC (runC s a) b := by
  induction a generalizing s with
  | nil => rfl
  | cons x a ih =>
    rw [List.cons_append, outC_cons, outC_cons, ih, List.cons_append, List.append_assoc]
    rfl
theorem outC_snoc (s : Ux04.Bar) (a : List (List (List Int))) (c : List (List Int)) : outC s (a ++ [c]) = outC s a ++ ((stepC (runC s a) c).2.length : Int) :: (stepC (runC s a) c).2 := by
  rw [outC_append, outC_cons, outC_nil, List.append_nil]
theorem put_append (a b : List (List (List Int))) : PyFlat.put (a ++ b) = PyFlat.put a ++ PyFlat.put b := by
  induction a with
  | nil => rfl
  | cons x a ih => rw [List.cons_append, PyFlat.put, PyFlat.put, ih, List.append_assoc]
/-- **what is asked, told by calls** -/
theorem asked_calls {l : List Int} (h : PyUx04.answers_asked l = true) : ∃ cs, l = PyFlat.put cs ∧ (∀ c ∈ cs, ∃ call, Reads c call) ∧ cs.length ≤ 40 ∧ PyUx04.answers l = outC Ux04.init cs ∧ (outC Ux04.init cs).length ≤ 10000000 := by
  unfold PyUx04.answers_asked at h
  cases e : PyFlat.calls PyUx04.shape l.length l with
  | none => rw [e] at h; cases h
  | some raw =>
    rw [e] at h
    simp only [Bool.and_eq_true] at h
    obtain ⟨⟨⟨⟨_, h1⟩, h2⟩, _⟩, h3⟩ := h
    obtain ⟨e1, e2⟩ := PyFlat.put_calls _ _ _ e
    have e3 : PyUx04.answers l = outC Ux04.init raw := by
      unfold PyUx04.answers PyUx04.calls
      rw [e]
      rfl
    refine ⟨raw, e1, fun c hc => reads_of (e2 c hc) ?_, of_decide_eq_true h1, e3, ?_⟩
    · unfold PyInside.calls at h2
      exact List.all_eq_true.mp h2 c hc
    · rw [← e3]; exact of_decide_eq_true h3
/-- bites are at most as many as calls -/
theorem old_len (s : Ux04.Bar) (c : Ux04.Call) : (Ux04.step s c).1.old.length ≤ s.old.length + 1 := by
  cases c with
  | bar r c => simp only [Ux04.step]; split <;> simp
  | shape l => simp only [Ux04.step]; split <;> simp
  | bite i j =>
    simp only [Ux04.step]
    split
    · simp
    · split <;> simp
  | back =>
    simp only [Ux04.step]
    cases e : s.old with
    | nil => simp [e]
    | cons a r => simp; omega
  | play =>
    simp only [Ux04.step]
    split <;> simp
  | shows => simp [Ux04.step]
  | won => simp [Ux04.step, Ux04.something]
  | good => simp [Ux04.step, Ux04.something]
  | long => simp [Ux04.step, Ux04.something]
  | under => simp [Ux04.step, Ux04.something]
  | lost n => simp [Ux04.step]
  | turned => simp [Ux04.step, Ux04.something]
end Ma

end

section
namespace Ma
open Ux04
/-! ### the least, the most -/
theorem foldl_min_le : ∀ (l : List Nat) (a : Nat), l.foldl min a ≤ a ∧ (∀ x ∈ l, l.foldl min a ≤ x) ∧ (l.foldl min a = a ∨ l.foldl min a ∈ l)
  | [], a => ⟨Nat.le_refl _, fun x h => (by simp at h), .inl rfl⟩
  | b :: l, a => by
    obtain ⟨h1, h2, h3⟩ := foldl_min_le l (min a b)
    rw [List.foldl_cons]
    refine ⟨by omega, fun x hx => ?_, ?_⟩
    · rcases List.mem_cons.mp hx with rfl | hx
      · omega
      · exact h2 x hx
    · rcases h3 with h3 | h3
      · rw [h3]
        by_cases h : a ≤ b
        · exact .inl (Nat.min_eq_left h)
        · exact .inr (by rw [Nat.min_eq_right (by omega)]; simp)
      · exact .inr (by simp [h3])
theorem foldl_max_le : ∀ (l : List Nat) (a : Nat), a ≤ l.foldl max a ∧ (∀ x ∈ l, x ≤ l.foldl max a) ∧ (l.foldl max a = a ∨ l.foldl max a ∈ l)
  | [], a => ⟨Nat.le_refl _, fun x h => (by simp at h), .inl rfl⟩
  | b :: l, a => by
    obtain ⟨h1, h2, h3⟩ := foldl_max_le l (max a b)
    rw [List.foldl_cons]
    refine ⟨by omega, fun x hx => ?_, ?_⟩
    · rcases List.mem_cons.mp hx with rfl | hx
      · omega
      · exact h2 x hx
    · rcases h3 with h3 | h3
      · rw [h3]
        by_cases h : b ≤ a
        · exact .inl (Nat.max_eq_left h)
        · exact .inr (by rw [Nat.max_eq_right (by omega)]; simp)
      · exact .inr (by simp [h3])
theorem least_le {l : List Nat} {x : Nat} (h : x ∈ l) : least l ≤ x := by
  cases l with
  | nil => simp at h
  | cons a l =>
    obtain ⟨h1, h2, _⟩ := foldl_min_le l a
    rcases List.mem_cons.mp h with rfl | h
    · exact h1
    · exact h2 x h
theorem least_mem {l : List Nat} (h : l ≠ []) : least l ∈ l := by
  cases l with
  | nil => exact absurd rfl h
  | cons a l =>
    obtain ⟨_, _, h3⟩ := foldl_min_le l a
    show l.foldl min a ∈ a :: l
    rcases h3 with h3 | h3
    · rw [h3]; simp
    · simp [h3]
theorem least_eq {l : List Nat} {m : Nat} (h : m ∈ l) (h2 : ∀ x ∈ l, m ≤ x) : least l = m :=
  Nat.le_antisymm (least_le h) (h2 _ (least_mem (List.ne_nil_of_mem h)))
theorem le_most {l : List Nat} {x : Nat} (h : x ∈ l) : x ≤ most l := (foldl_max_le l 0).2.1 x h
theorem most_mem {l : List Nat} (h : l ≠ []) : most l ∈ l := by
  obtain ⟨_, h2, h3⟩ := foldl_max_le l 0
  rcases h3 with h3 | h3
  · obtain ⟨x, hx⟩ := List.exists_mem_of_ne_nil _ h
    have := h2 x hx
    have e : most l = x := by show l.foldl max 0 = x; omega
    rw [e]; exact hx
  · exact h3
theorem most_nil : most [] = 0 := rfl
theorem most_eq {l : List Nat} {m : Nat} (h : m ∈ l) (h2 : ∀ x ∈ l, x ≤ m) : most l = m :=
  Nat.le_antisymm (h2 _ (most_mem (List.ne_nil_of_mem h))) (le_most h)
/-! ### how long -/
/-- how long it is behind a bite -/
def after (s : Shape) (x : Nat × Nat) : Nat := (worth (bite s x.1 x.2)).long
theorem good_eq (s : Shape) : good s = (bites s).filter fun x => !(worth (bite s x.1 x.2)).won := rfl
theorem won_good {s : Shape} (hs : Good s) (hn : s ≠ []) : (worth s).won = true ↔ good s ≠ [] := by
  rw [won_iff hs hn, good_eq]
  constructor
  · rintro ⟨i, j, h1, h2⟩
    exact List.ne_nil_of_mem (List.mem_filter.mpr ⟨h1, by simp [h2]⟩)
  · intro h
    obtain ⟨⟨i, j⟩, hx⟩ := List.exists_mem_of_ne_nil _ h
    obtain ⟨h1, h2⟩ := List.mem_filter.mp hx
    exact ⟨i, j, h1, by simpa using h2⟩
theorem map_long {α : Type} (f : α → Worth) (l : List α) : (l.map f).map (fun w => w.long) = l.map fun x => (f x).long := by
  induction l with
  | nil => rfl
  | cons a l ih => rw [List.map_cons, List.map_cons, List.map_cons, ih]
theorem filter_long {α : Type} (f : α → Worth) (l : List α) : ((l.map f).filter fun w => !w.won).map (fun w => w.long) = (l.filter fun x => !(f x).won).map fun x => (f x).long := by
  induction l with
  | nil => rfl
  | cons a l ih =>
    rw [List.map_cons, List.filter_cons, List.filter_cons]
    cases (f a).won
    · simp only [Bool.not_false, if_true, List.map_cons, ih]
    · simp only [Bool.not_true, Bool.false_eq_true, if_false, ih]
theorem long_gen (W : Shape → Worth) (s : Shape) (h : W s =
    let l := (bites s).map fun x => W (bite s x.1 x.2)
    let g := l.filter fun w => !w.won
    if g.isEmpty = true then ⟨false, most (l.map fun w => w.long) + 1⟩ else ⟨true, least (g.map fun w => w.long) + 1⟩) :
    (W s).long = if (W s).won = true then least (((bites s).filter fun x => !(W (bite s x.1 x.2)).won).map fun x => (W (bite s x.1 x.2)).long) + 1 else most ((bites s).map fun x => (W (bite s x.1 x.2)).long) + 1 := by
  have e1 := map_long (fun x : Nat × Nat => W (bite s x.1 x.2)) (bites s)
  have e2 := filter_long (fun x : Nat × Nat => W (bite s x.1 x.2)) (bites s)
  dsimp only at h
  rw [e1, e2] at h
  rw [h]
  split
  · rw [if_neg (fun z => nomatch z)]
  · rw [if_pos rfl]
theorem long_rec {s : Shape} (hs : Good s) (hn : s ≠ []) : (worth s).long = if (worth s).won = true then least (((bites s).filter fun x => !(worth (bite s x.1 x.2)).won).map fun x => (worth (bite s x.1 x.2)).long) + 1 else most ((bites s).map fun x => (worth (bite s x.1 x.2)).long) + 1 :=
  long_gen worth s (worth_rec hs hn)
theorem long_won {s : Shape} (hs : Good s) (hn : s ≠ []) (h : (worth s).won = true) : (worth s).long = least ((good s).map (after s)) + 1 := by
  rw [long_rec hs hn, if_pos h, good_eq]
  unfold after
  rfl
theorem long_lost {s : Shape} (hs : Good s) (hn : s ≠ []) (h : (worth s).won = false) : (worth s).long = most ((bites s).map (after s)) + 1 := by
  rw [long_rec hs hn, if_neg (by rw [h]; decide)]
  unfold after
  rfl
/-! ### the squares, row by row -/
theorem zipIdx_range : ∀ (s : List Nat) (k : Nat), s.zipIdx k = (List.range s.length).map fun i => (s.getD i 0, i + k)
  | [], _ => rfl
  | a :: s, k => by
    rw [List.zipIdx_cons, zipIdx_range s (k + 1), List.length_cons, List.range_succ_eq_map, List.map_cons, List.map_map]
    congr 1
    · simp
    · apply List.map_congr_left
      intro i _
      simp; omega
theorem squares_rows (s : List Nat) : squares s = (List.range s.length).flatMap fun i => (List.range (s.getD i 0)).map fun j => (i + 1, j + 1) := by
  unfold squares
  rw [zipIdx_range s 0, List.flatMap_map]
  rfl
theorem squares_one : squares [1] = [(1, 1)] := rfl
/-- the bitter square comes first -/
theorem squares_first {n : Nat} {s : List Nat} (h : 1 ≤ n) : ∃ r, squares (n :: s) = (1, 1) :: r := by
  rw [squares_rows]
  obtain ⟨m, rfl⟩ : ∃ m, n = m + 1 := ⟨n - 1, by omega⟩
  rw [List.length_cons, List.range_succ_eq_map, List.flatMap_cons]
  simp only [List.getD_cons_zero, List.range_succ_eq_map, List.map_cons, List.cons_append]
  exact ⟨_, rfl⟩
theorem squares_nodup (s : List Nat) : (squares s).Nodup := by
  rw [squares_rows]
  unfold List.Nodup
  rw [List.pairwise_flatMap]
  constructor
  · intro i _
    rw [List.pairwise_map]
    refine List.nodup_range.imp ?_
    intro a b h e
    injection e with _ e
    omega
  · refine (List.nodup_range (n := s.length)).imp ?_
    intro a b h x hx y hy e
    obtain ⟨_, _, rfl⟩ := List.mem_map.mp hx
    obtain ⟨_, _, rfl⟩ := List.mem_map.mp hy
    injection e with e _
    omega
theorem bites_eq {n : Nat} {s : List Nat} (h : 1 ≤ n) : squares (n :: s) = (1, 1) :: bites (n :: s) := by
  obtain ⟨r, hr⟩ := squares_first (s := s) h
  have hn := squares_nodup (n :: s)
  unfold bites
  rw [hr] at hn ⊢
  rw [List.filter_cons, if_neg (by simp)]
  congr 1
  symm
  apply List.filter_eq_self.mpr
  intro x hx
  have := (List.nodup_cons.mp hn).1
  simp only [bne_iff_ne, ne_eq]
  rintro rfl
  exact this hx
/-! ### the last of a sorted list -/
theorem last_sorted {l : List (List Nat)} (h : l.Pairwise Lt2) {s : List Nat} (hs : s ∈ l) (hm : ∀ t ∈ l, t = s ∨ Lt2 t s) : l.getLastD [] = s := by
  have hne : l ≠ [] := List.ne_nil_of_mem hs
  have e := List.dropLast_concat_getLast hne
  rw [List.getLastD_eq_getLast?, List.getLast?_eq_some_getLast hne]
  show l.getLast hne = s
  rw [← e] at hs
  rcases List.mem_append.mp hs with hs | hs
  · exfalso
    rw [← e, List.pairwise_append] at h
    have h1 := h.2.2 s hs (l.getLast hne) (by simp)
    rcases hm _ (List.getLast_mem hne) with h2 | h2
    · rw [h2] at h1; exact Lt2.irrefl _ h1
    · exact Lt2.asymm h1 h2
  · exact (by simpa using hs : s = l.getLast hne).symm
theorem lost_mem {n : Nat} {s : Shape} : s ∈ lost n ↔ Good s ∧ total s = n ∧ (worth s).won = false := by
  unfold lost
  rw [List.mem_filter, mem_all]
  simp
theorem lost_sorted (n : Nat) : (lost n).Pairwise Lt2 := (shapes_sorted _ _).filter _
end Ma

end

section
namespace Ma
open Ux04
/-! ### over any reckoning of worths: nothing here looks into the table -/
structure Rec (W : Shape → Worth) : Prop where
  won : ∀ {s : List Nat}, Good s → s ≠ [] → ((W s).won = true ↔ ∃ x, x ∈ bites s ∧ (W (bite s x.1 x.2)).won = false)
  lw : ∀ {s : List Nat}, Good s → s ≠ [] → (W s).won = true → (W s).long = least (((bites s).filter fun x => !(W (bite s x.1 x.2)).won).map fun x => (W (bite s x.1 x.2)).long) + 1
  ll : ∀ {s : List Nat}, Good s → s ≠ [] → (W s).won = false → (W s).long = most ((bites s).map fun x => (W (bite s x.1 x.2)).long) + 1
def lenW (W : Shape → Worth) (s : List Nat) : Nat := if s = [] then 0 else (W s).long
def goodW (W : Shape → Worth) (s : List Nat) : List (Nat × Nat) := (bites s).filter fun x => !(W (bite s x.1 x.2)).won
def afterW (W : Shape → Worth) (s : List Nat) (x : Nat × Nat) : Nat := (W (bite s x.1 x.2)).long
def chosenW (W : Shape → Worth) (s : List Nat) : Nat × Nat :=
  let l := if (W s).won = true then goodW W s else bites s
  (l.find? fun x => (W (bite s x.1 x.2)).long + 1 == (W s).long).getD (1, 1)
def lostW (W : Shape → Worth) (s : List Nat) : Bool := decide (lenW W s % 2 = 1)
theorem cut_bites {s : List Nat} {x : Nat × Nat} (hs : Good s) (h : x ∈ bites s) : cut s x.1 x.2 = bite s x.1 x.2 ∧ cut s x.1 x.2 ≠ [] ∧ Good (cut s x.1 x.2) ∧ total (cut s x.1 x.2) < total s := by
  obtain ⟨h1, h2⟩ := mem_bites.mp h
  have e := bite_cut (i := x.1) hs (mem_squares.mp h1).2.1
  refine ⟨e.symm, fun z => h2 ((cut_nil h1).mp z), fit_cut hs (mem_squares.mp h1).2.1, total_cut h1⟩
theorem squares_cons {s : List Nat} (hs : Good s) (hn : s ≠ []) : squares s = (1, 1) :: bites s := by
  cases s with
  | nil => exact absurd rfl hn
  | cons n s => exact bites_eq ((good_down hs).1 n (by simp))
theorem cut_bitter (s : List Nat) : cut s 1 1 = [] := by unfold cut; simp
theorem find_first {α : Type} {p : α → Bool} : ∀ {l : List α} {i : Nat} {x : α}, l[i]? = some x → p x = true → (∀ j y, j < i → l[j]? = some y → p y = false) → l.find? p = some x
  | [], i, x, h, _, _ => by simp at h
  | a :: l, 0, x, h, hp, _ => by
    obtain rfl : a = x := by simpa using h
    rw [List.find?_cons, hp]
  | a :: l, i + 1, x, h, hp, hq => by
    rw [List.find?_cons, hq 0 a (by omega) rfl]
    exact find_first (i := i) (by simpa using h) hp fun j y hj e => hq (j + 1) y (by omega) (by simpa using e)
section
variable {W : Shape → Worth}
theorem lenW_nil : lenW W [] = 0 := rfl
theorem lenW_ne {s : List Nat} (h : s ≠ []) : lenW W s = (W s).long := by unfold lenW; rw [if_neg h]
theorem afterW_len {s : List Nat} {x : Nat × Nat} (hs : Good s) (h : x ∈ bites s) : afterW W s x = lenW W (cut s x.1 x.2) := by
  obtain ⟨e, hn, _⟩ := cut_bites hs h
  rw [lenW_ne hn, e]; rfl
theorem goodW_mem {s : List Nat} {x : Nat × Nat} : x ∈ goodW W s ↔ x ∈ bites s ∧ (W (bite s x.1 x.2)).won = false := by
  unfold goodW
  rw [List.mem_filter]
  simp
variable (R : Rec W)
include R
theorem Rec.all {s : List Nat} (hs : Good s) (hn : s ≠ []) (h : (W s).won = false) {x : Nat × Nat} (hx : x ∈ bites s) : (W (bite s x.1 x.2)).won = true := by
  cases e : (W (bite s x.1 x.2)).won with
  | true => rfl
  | false =>
    have := (R.won hs hn).mpr ⟨x, hx, e⟩
    rw [h] at this; cases this
theorem Rec.goods {s : List Nat} (hs : Good s) (hn : s ≠ []) : (W s).won = true ↔ goodW W s ≠ [] := by
  rw [R.won hs hn]
  constructor
  · rintro ⟨x, hx⟩
    exact List.ne_nil_of_mem (goodW_mem.mpr hx)
  · intro h
    obtain ⟨x, hx⟩ := List.exists_mem_of_ne_nil _ h
    exact ⟨x, goodW_mem.mp hx⟩
theorem Rec.lw' {s : List Nat} (hs : Good s) (hn : s ≠ []) (h : (W s).won = true) : (W s).long = least ((goodW W s).map (afterW W s)) + 1 := R.lw hs hn h
theorem Rec.ll' {s : List Nat} (hs : Good s) (hn : s ≠ []) (h : (W s).won = false) : (W s).long = most ((bites s).map (afterW W s)) + 1 := R.ll hs hn h
theorem Rec.parity : ∀ (n : Nat) {s : List Nat}, total s ≤ n → Good s → s ≠ [] → ((W s).won = true → (W s).long % 2 = 0 ∧ 2 ≤ (W s).long) ∧ ((W s).won = false → (W s).long % 2 = 1)
  | 0, s, ht, hs, hn => by
    exfalso
    cases s with
    | nil => exact hn rfl
    | cons a s =>
      have := (good_down hs).1 a (by simp)
      rw [total_cons] at ht
      omega
  | n + 1, s, ht, hs, hn => by
    have ih : ∀ x ∈ bites s, ((W (bite s x.1 x.2)).won = true → (afterW W s x) % 2 = 0 ∧ 2 ≤ afterW W s x) ∧ ((W (bite s x.1 x.2)).won = false → afterW W s x % 2 = 1) := fun x hx => by
      obtain ⟨e, h1, h2, h3⟩ := cut_bites hs hx
      rw [e] at h1 h2 h3
      exact Rec.parity n (by omega) h2 h1
    constructor
    · intro hw
      have hg := (R.goods hs hn).mp hw
      have e := R.lw' hs hn hw
      have m := least_mem (l := (goodW W s).map (afterW W s)) (by simpa using hg)
      obtain ⟨x, hx, ex⟩ := List.mem_map.mp m
      obtain ⟨h1, h2⟩ := goodW_mem.mp hx
      have := (ih x h1).2 h2
      rw [← ex] at e
      omega
    · intro hw
      have e := R.ll' hs hn hw
      by_cases hb : bites s = []
      · rw [hb] at e
        rw [e]; rfl
      · have m := most_mem (l := (bites s).map (afterW W s)) (by simpa using hb)
        obtain ⟨x, hx, ex⟩ := List.mem_map.mp m
        have := (ih x hx).1 (R.all hs hn hw hx)
        rw [← ex] at e
        omega
theorem Rec.lostW_eq {s : List Nat} (hs : Good s) (hn : s ≠ []) : lostW W s = !(W s).won := by
  have h := R.parity (total s) (Nat.le_refl _) hs hn
  unfold lostW
  rw [lenW_ne hn]
  cases e : (W s).won with
  | true => have := (h.1 e).1; simp; omega
  | false => have := h.2 e; simp; omega
theorem Rec.goods_eq {s : List Nat} (hs : Good s) (hn : s ≠ []) : (squares s).filter (fun x => lostW W (cut s x.1 x.2)) = goodW W s := by
  rw [squares_cons hs hn, List.filter_cons, if_neg (by rw [cut_bitter]; simp [lostW, lenW])]
  unfold goodW
  apply List.filter_congr
  intro x hx
  obtain ⟨e, h1, h2, _⟩ := cut_bites hs hx
  rw [R.lostW_eq h2 h1, e]
/-- the first good bite by which it's over soonest -/
theorem Rec.best_won {s : List Nat} (hs : Good s) (hn : s ≠ []) (hg : goodW W s ≠ []) {i : Nat} {x : Nat × Nat} (hx : (goodW W s)[i]? = some x)
    (h1 : ∀ (j : Nat) (y : Nat × Nat), (goodW W s)[j]? = some y → lenW W (cut s x.1 x.2) ≤ lenW W (cut s y.1 y.2)) (h2 : ∀ (j : Nat) (y : Nat × Nat), j < i → (goodW W s)[j]? = some y → lenW W (cut s x.1 x.2) < lenW W (cut s y.1 y.2)) :
    chosenW W s = x ∧ lenW W s = 1 + lenW W (cut s x.1 x.2) := by
  have hw := (R.goods hs hn).mpr hg
  have gb : ∀ {j : Nat} {y : Nat × Nat}, (goodW W s)[j]? = some y → afterW W s y = lenW W (cut s y.1 y.2) := fun e => afterW_len hs (goodW_mem.mp (List.mem_of_getElem? e)).1
  have el : least ((goodW W s).map (afterW W s)) = lenW W (cut s x.1 x.2) := by
    refine least_eq (List.mem_map.mpr ⟨x, List.mem_of_getElem? hx, gb hx⟩) fun n hm => ?_
    obtain ⟨y, hy, rfl⟩ := List.mem_map.mp hm
    obtain ⟨j, hj⟩ := List.getElem?_of_mem hy
    rw [gb hj]
    exact h1 j y hj
  have e := R.lw' hs hn hw
  rw [el] at e
  refine ⟨?_, by rw [lenW_ne hn]; omega⟩
  unfold chosenW
  simp only [hw, if_true]
  rw [find_first hx (by
    have := gb hx
    unfold afterW at this
    rw [this, e]
    simp) fun j y hj ey => by
    have h3 := h2 j y hj ey
    have := gb ey
    unfold afterW at this
    rw [this, e]
    simp
    omega]
  rfl
/-- the first bite by which it's over latest, the bitter one among them -/
theorem Rec.best_lost {s : List Nat} (hs : Good s) (hn : s ≠ []) (hg : goodW W s = []) {i : Nat} {x : Nat × Nat} (hx : (squares s)[i]? = some x)
    (h1 : ∀ (j : Nat) (y : Nat × Nat), (squares s)[j]? = some y → lenW W (cut s y.1 y.2) ≤ lenW W (cut s x.1 x.2)) (h2 : ∀ (j : Nat) (y : Nat × Nat), j < i → (squares s)[j]? = some y → lenW W (cut s y.1 y.2) < lenW W (cut s x.1 x.2)) :
    chosenW W s = x ∧ lenW W s = 1 + lenW W (cut s x.1 x.2) := by
  have hw : (W s).won = false := by
    cases e : (W s).won with
    | false => rfl
    | true => exact absurd hg ((R.goods hs hn).mp e)
  have e := R.ll' hs hn hw
  rw [squares_cons hs hn] at hx h1 h2
  have gb : ∀ {j : Nat} {y : Nat × Nat}, (bites s)[j]? = some y → afterW W s y = lenW W (cut s y.1 y.2) := fun e => afterW_len hs (List.mem_of_getElem? e)
  have big : ∀ {j : Nat} {y : Nat × Nat}, (bites s)[j]? = some y → 2 ≤ lenW W (cut s y.1 y.2) := fun {j y} ey => by
    have hy := List.mem_of_getElem? ey
    obtain ⟨e1, h3, h4, _⟩ := cut_bites hs hy
    have := (R.parity (total (bite s y.1 y.2)) (Nat.le_refl _) (by rw [← e1]; exact h4) (by rw [← e1]; exact h3)).1 (R.all hs hn hw hy)
    rw [lenW_ne h3, e1]
    exact this.2
  cases i with
  | zero =>
    obtain rfl : (1, 1) = x := by simpa using hx
    have hb : bites s = [] := by
      cases hb : bites s with
      | nil => rfl
      | cons y l =>
        exfalso
        have ey : (bites s)[0]? = some y := by rw [hb]; rfl
        have h3 := h1 1 y (by rw [hb]; rfl)
        have h4 := big ey
        rw [cut_bitter, lenW_nil] at h3
        omega
    rw [hb] at e
    refine ⟨?_, by rw [lenW_ne hn, e, cut_bitter]; rfl⟩
    unfold chosenW
    simp only [hw, Bool.false_eq_true, if_false]
    rw [hb]
    rfl
  | succ i =>
    have hx : (bites s)[i]? = some x := by simpa using hx
    have el : most ((bites s).map (afterW W s)) = lenW W (cut s x.1 x.2) := by
      refine most_eq (List.mem_map.mpr ⟨x, List.mem_of_getElem? hx, gb hx⟩) fun n hm => ?_
      obtain ⟨y, hy, rfl⟩ := List.mem_map.mp hm
      obtain ⟨j, hj⟩ := List.getElem?_of_mem hy
      rw [gb hj]
      exact h1 (j + 1) y (by simpa using hj)
    rw [el] at e
    refine ⟨?_, by rw [lenW_ne hn]; omega⟩
    unfold chosenW
    simp only [hw, Bool.false_eq_true, if_false]
    rw [find_first hx (by
      have := gb hx
      unfold afterW at this
      rw [this, e]
      simp) fun j y hj ey => by
      have h3 := h2 (j + 1) y (by omega) (by simpa using ey)
      have := gb ey
      unfold afterW at this
      rw [this, e]
      simp
      omega]
    rfl
omit R in
theorem chosenW_square {s : List Nat} (hs : Good s) (hn : s ≠ []) : chosenW W s ∈ squares s := by
  rw [squares_cons hs hn]
  have hsub : ∀ x ∈ (if (W s).won = true then goodW W s else bites s), x ∈ bites s := by
    intro x hx
    split at hx
    · exact (goodW_mem.mp hx).1
    · exact hx
  unfold chosenW
  dsimp only
  generalize (if (W s).won = true then goodW W s else bites s) = l at hsub
  cases e : l.find? fun x => (W (bite s x.1 x.2)).long + 1 == (W s).long with
  | none => exact List.mem_cons_self
  | some x => exact List.mem_cons_of_mem _ (hsub x (List.mem_of_find?_eq_some e))
end
theorem rec_worth : Rec worth := ⟨fun hs hn => by
  rw [won_iff hs hn]
  exact ⟨fun ⟨i, j, h⟩ => ⟨(i, j), h⟩, fun ⟨x, h⟩ => ⟨x.1, x.2, h⟩⟩, fun hs hn h => long_won hs hn h, fun hs hn h => long_lost hs hn h⟩
theorem good_W (s : List Nat) : good s = goodW worth s := rfl
theorem chosen_W (s : List Nat) : chosen s = chosenW worth s := rfl
/-! ### under, lost -/
theorem within_lost {s : List Nat} (hs : Good s) : ((within s).filter (lostW worth)).length = ((under s).filter fun t => !(worth t).won).length := by
  rw [under_count hs fun t => !(worth t).won]
  rw [List.filter_congr fun t ht => rec_worth.lostW_eq (within_good hs ht).1 (within_good hs ht).2]
theorem good_whole : Good [6, 6, 6, 6, 6] := fit_iff.mpr ⟨by decide, by decide, by decide⟩
theorem mem_whole {t : List Nat} : t ∈ within [6, 6, 6, 6, 6] ↔ Good t ∧ t ≠ [] := by
  constructor
  · exact within_good good_whole
  · rintro ⟨h1, h2⟩
    refine mem_within.mpr ⟨h2, good_down h1, ?_⟩
    obtain ⟨h3, h4, _⟩ := fit_iff.mp h1
    have go : ∀ (t : List Nat) (k : Nat), t.length ≤ k → (∀ n ∈ t, n ≤ 6) → Leq t (List.replicate k 6) := by
      intro t
      induction t with
      | nil => intro k _ _; exact True.intro
      | cons a t ih =>
        intro k hk ha
        cases k with
        | zero => simp at hk
        | succ k => exact ⟨ha a (by simp), ih k (by simpa using hk) fun n hn => ha n (by simp [hn])⟩
    exact go t 5 h3 fun n hn => (h4 n hn).2
/-- the lost shapes of n squares, as they're found -/
def found (n : Nat) : List (List Nat) := ((within [6, 6, 6, 6, 6]).filter fun s => decide (total s = n)).filter (lostW worth)
theorem mem_found {n : Nat} (hn : 1 ≤ n) {t : List Nat} : t ∈ found n ↔ t ∈ lost n := by
  unfold found
  rw [List.mem_filter, List.mem_filter, mem_whole, lost_mem]
  constructor
  · rintro ⟨⟨⟨h1, h2⟩, h3⟩, h4⟩
    rw [rec_worth.lostW_eq h1 h2] at h4
    exact ⟨h1, by simpa using h3, by simpa using h4⟩
  · rintro ⟨h1, h2, h3⟩
    have h4 : t ≠ [] := by
      rintro rfl
      rw [total_nil] at h2; omega
    exact ⟨⟨⟨h1, h4⟩, by simpa using h2⟩, by rw [rec_worth.lostW_eq h1 h4, h3]; rfl⟩
theorem found_len {n : Nat} (hn : 1 ≤ n) : (found n).length = (lost n).length :=
  nodup_len_eq (((within_nodup _).filter _).filter _) ((shapes_nodup _ _).filter _) fun x => mem_found hn
theorem lt2_total : ∀ s t : List Nat, s = t ∨ Lt2 s t ∨ Lt2 t s
  | [], [] => .inl rfl
  | [], _ :: _ => .inr (.inl True.intro)
  | _ :: _, [] => .inr (.inr True.intro)
  | a :: s, b :: t => by
    by_cases h : a = b
    · subst h
      rcases lt2_total s t with h | h | h
      · exact .inl (by rw [h])
      · exact .inr (.inl (.inr ⟨rfl, h⟩))
      · exact .inr (.inr (.inr ⟨rfl, h⟩))
    · by_cases h2 : a < b
      · exact .inr (.inl (.inl h2))
      · exact .inr (.inr (.inl (by omega)))
theorem found_last {n : Nat} (hn : 1 ≤ n) {s : List Nat} (hs : s ∈ found n) (hm : ∀ t ∈ found n, ¬ Lt2 s t) : (lost n).getLastD [] = s := by
  refine last_sorted (lost_sorted n) ((mem_found hn).mp hs) fun t ht => ?_
  rcases lt2_total t s with h | h | h
  · exact .inl h
  · exact .inr h
  · exact absurd h (hm t ((mem_found hn).mpr ht))
theorem found_none {n : Nat} (hn : 1 ≤ n) (h : found n = []) : lost n = [] := by
  have := found_len hn
  rw [h] at this
  exact List.length_eq_zero_iff.mp this.symm
end Ma

end

section
set_option Elab.async false
set_option linter.all false
set_option maxRecDepth 100000
namespace HT
open PySem PyProof.Rows
section
variable {prog : Program} {w : World} {A : Around} {E : Value → Shared → Prop} {s : Shared}
/-- () + u is u itself -/
theorem cat_tup0 {t b : Addr} {ws : List Value} {Q : Value → Shared → Prop} (ht : IsTup s.heap t (([] : List Value).toArray)) (hb : IsTup s.heap b ws.toArray)
    (h : Q (.ref b) s) : wpAny (model prog w) A (binaryOp .Add (.ref t) (.ref b)) Q E s := by
  obtain ⟨⟨cls, dd, data, sl⟩, ho, hc, n, hd⟩ := id ht
  obtain ⟨⟨cls2, dd2, data2, sl2⟩, ho2, hc2, n2, hd2⟩ := id hb
  simp only at hc hd hc2 hd2
  subst hc hd hc2 hd2
  exact concat_meets ⟨_, ho, rfl⟩ ⟨_, ho2, rfl⟩ noFill_tuple_add seq_tuple_add PySem.F.slot_tuple_add PySem.F.entry_tuple_add (PySem.F.args_tuple_add_2 _ _)
      (tuple_addW0 t b _ ws.toArray n n2 dd dd2 sl sl2 rfl) ⟨ho, ho2, h⟩
/-- the whole slice is the tuple itself -/
theorem getItem_tuple_whole {t sl : Addr} {items : Array Value} {vl vu : Value} {lo hi : Option Int} {Q : Value → Shared → Prop} (ht : IsTup s.heap t items) (hs : s.heap.IsSliceOf sl vl vu .none) (pl : IsPart vl lo) (pu : IsPart vu hi)
    (hw : sIx items.size 0 lo = 0 ∧ sIx items.size items.size hi = items.size) (h : Q (.ref t) s) : wpAny (model prog w) A (getItem (.ref t) (.ref sl)) Q E s := by
  obtain ⟨os, hos, hcs, hds⟩ := id hs
  have hTs : s.TypeIs (.ref sl) "slice" := ⟨os, hos, hcs⟩
  unfold getItem
  try with_reducible refine wpAny_holding ?_
  first | refine wpAny_bind (wpAny_pure ?_) | skip
  refine wpAny_bind (wpAny_sequenceKey ht.typeIs (by decide) ?_)
  refine wpAny_bind (wpAny_callSpecial?_slot (name := Str.ofString "__getitem__") ht.typeIs PyProof.Rows.slot_tuple_getitem
    (wpAny_call_entry PyProof.Rows.slot_tuple_getitem ht.typeIs entry_tuple_getitem ?_ (args_tuple_getitem _ _)))
  show wpAny _ _ (Builtin.Tuple.tupleItemsOf (.ref t) >>= _) _ _ s
  refine wpAny_bind (tupleItemsOf_ ht ?_)
  refine wpAny_bind (wpAny_typeOf hTs ?_)
  rw [if_pos (by decide)]
  refine wpAny_bind (sliceApplied_gen hs pl pu ?_)
  have hyes : (((sIx items.size 0 lo : Nat) : Int) == 0 && (1 : Int) == 1 && (sIx items.size items.size hi - sIx items.size 0 lo) == items.size) = true := by
    rw [hw.1, hw.2]; simp
  show wpAny _ _ (if (((sIx items.size 0 lo : Nat) : Int) == 0 && (1 : Int) == 1 && (sIx items.size items.size hi - sIx items.size 0 lo) == items.size) = true then _ else _) _ _ s
  rw [if_pos hyes]
  refine wpAny_bind ?_
  unfold Builtin.Tuple.tupleIsExact
  refine wpAny_bind (wpAny_typeOf ht.typeIs (wpAny_pure ?_))
  rw [if_pos (by decide)]
  refine wpAny_bind (wpAny_rule ?_)
  exact wpAny_pure ⟨_, rfl, wpAny_pure h⟩
end
end HT

namespace L2
open PySem PySem.Spec PyProof.Rows
section
variable {X : Cx}
/-- t[lo:hi] of a tracked tuple: some tuple of these items, all that was tracked as it was -/
def rSlA : V → Option Int → Option Int → Hp → VK → Prop := fun x lo hi H Q => ∃ a xs, x = .ref a ∧ H a = some (.tup xs) ∧
  ∀ p H', Same H H' → H' p = some (.tup (cutV xs lo hi)) → Q (.ref p) H'
theorem upd_same_of {H : Hp} {p : Addr} {o : HO} (h : H p = none) : Same H (upd H p o) := fun b u e => by rw [upd_ne (ne_of_none e h)]; exact e
theorem sl_tupA : SlR X rSlA := by
  intro pins s σ H x v vl vu lo hi sl Q I rx hs pl pu h
  obtain ⟨a, xs, rfl, hx, q⟩ := h
  by_cases hw : HT.sIx xs.length 0 lo = 0 ∧ HT.sIx xs.length xs.length hi = xs.length
  · cases rx
    obtain ⟨its, r, ht, hz⟩ := I.tuple (SqT.of hx)
    have hlen : its.toArray.size = xs.length := by rw [List.size_toArray]; exact r.length.symm
    refine ⟨"tuple", _, PyProof.Rows.slot_tuple_getitem.lookup, ht.typeIs, ?_⟩
    refine HT.getItem_tuple_whole ht hs pl pu (by rw [hlen]; exact hw) ⟨.ref a, H, I, rfl, q a H (Same.refl H) ?_⟩
    have e : cutV xs lo hi = xs := by
      unfold cutV
      rw [hw.1, hw.2]
      simp
    rw [e]; exact hx
  · exact sl_tup pins s σ H _ v vl vu lo hi sl Q I rx hs pl pu ⟨a, xs, rfl, SqT.of hx, hw, fun p hp => q p _ (upd_same_of hp) upd_same⟩
/-- t + u of tracked tuples -/
def rCatA : R2 := fun x y H Q => ∃ a b xs ys, x = .ref a ∧ y = .ref b ∧ H a = some (.tup xs) ∧ H b = some (.tup ys) ∧ xs.length + ys.length ≤ sizeLine ∧
  ∀ p H', Same H H' → H' p = some (.tup (xs ++ ys)) → Q (.ref p) H'
theorem op_catA : OpR X (binaryOp .Add) rCatA := by
  intro pins s σ H x y v u Q I rx ry h
  obtain ⟨a, b, xs, ys, rfl, rfl, ha, hb, hz, q⟩ := h
  by_cases hx : xs = []
  · subst hx
    cases rx
    cases ry
    obtain ⟨its, r1, p1, _⟩ := I.tuple (SqT.of ha)
    obtain ⟨its2, r2, p2, _⟩ := I.tuple (SqT.of hb)
    cases r1
    exact HT.cat_tup0 p1 p2 ⟨.ref b, H, I, rfl, q b H (Same.refl H) hb⟩
  · refine op_catT pins s σ H _ _ v u Q I rx ry ⟨a, b, xs, ys, rfl, rfl, SqT.of ha, SqT.of hb, hx, hz, fun e => ?_, fun _ p hp => q p _ (upd_same_of hp) upd_same⟩
    subst e
    exact q a H (Same.refl H) (by rw [List.append_nil]; exact ha)
/-- sum(t) of a tuple of ints -/
def rSumT (K : PySem.W.Frag) : List V → Hp → VK → Prop := fun vs H Q => ∃ (a : Addr) (ns : List Int), vs = [V.ref a] ∧ SqT K H a (ns.map V.int) ∧ Q (.int ns.sum) H
theorem cr_sumT (hc : X.calm = true) : CallR X (.builtin "sum") (rSumT X.K) := by
  intro pins s σ H vs us Q I r h
  obtain ⟨a, ns, rfl, hs, q⟩ := h
  obtain ⟨its, rv, hl, _⟩ := I.tuple hs
  rw [Vals.ref1 r]
  have hi : IntsAre its ns := rv.ints
  obtain ⟨xs, e⟩ := hi.allInts.items
  have hn : numsOf (intItems xs).toList = ns := by rw [← e]; exact hi.numsOf
  rw [nums_intItems] at hn
  have hl2 : s.heap.IsTuple a (intItems xs) := by rw [← e]; exact hl
  refine PySem.W.ktm_sumG (I.ok.hd hc) hl2 fun h' tk t' hk => ⟨.int _, H, I.kept hk, ⟨_, rfl⟩, ?_⟩
  rw [preSum_eq, List.take_of_length_le (by simp), hn]; exact q
end
end L2

/-! ### readings, for simp -/
namespace L2
open PySem PySem.Spec PyProof.Rows
section
variable {CX : CXT} {P : Program} {w : World} {K : PySem.W.Frag} {mg : Str → Option Value} {base : Heap} {N : List Str} {qual : Str} {sc : Scope} {f : Addr} {cd : Value} {A : Around} {outer : List Env} {s : Shared} {H0 : Hp} {E : XK}
@[simp] theorem cx_K : (cxOf CX P w K mg base N qual sc f cd A outer s H0 E).K = K := rfl
variable {D : Ends} {σ : St} {H : Hp} {Q : VK} {B : Bool → Hp → Prop} {ts us : TS} {c d : TT} {ta tb tc : TE} {tA : TA} {r r' : R2} {n m : Nat} {x : V}
@[simp] theorem rd_seq : tSeq ts us D σ H = ts { D with nx := us D } σ H := rfl
@[simp] theorem rd_if : tIfS c ts us D σ H = c σ H fun b H1 => if b = true then ts D σ H1 else us D σ H1 := rfl
@[simp] theorem rd_not : tNot c σ H B = c σ H fun b H1 => B (!b) H1 := rfl
@[simp] theorem rd_test : tTest ta σ H B = ta σ H fun x H' => ∃ k, x = .bl k ∧ B k H' := rfl
@[simp] theorem rd_B : tB ta σ H B = ta σ H fun x H' => ∃ k, x = .bl k ∧ B k H' := rfl
@[simp] theorem rd_and : tAnd c d σ H B = c σ H fun k H1 => if k = true then d σ H1 B else B false H1 := rfl
@[simp] theorem rd_or : tOr c d σ H B = c σ H fun k H1 => if k = true then B true H1 else d σ H1 B := rfl
@[simp] theorem rd_andV : tAndV ta tb σ H Q = ta σ H fun x H1 => ∃ c, x = .bl c ∧ if c = true then tb σ H1 Q else Q (.bl false) H1 := rfl
@[simp] theorem rd_notV : tNotV ta σ H Q = ta σ H fun x H1 => ∃ c, x = .bl c ∧ Q (.bl (!c)) H1 := rfl
@[simp] theorem rd_ifE : tIf c ta tb σ H Q = c σ H fun k H1 => if k = true then ta σ H1 Q else tb σ H1 Q := rfl
@[simp] theorem rd_chain : tChain r r' ta tb tc σ H Q = ta σ H fun x H1 => tb σ H1 fun y H2 => r x y H2 fun z H3 => ∃ k, z = .bl k ∧
  (if k = true then tc σ H3 fun w' H4 => r' y w' H4 Q else Q (.bl false) H3) := rfl
@[simp] theorem rd_C : tC x σ H Q = Q x H := rfl
@[simp] theorem rd_var : tVar n σ H Q = ∃ v, σ[n]? = some (some v) ∧ Q v H := rfl
@[simp] theorem rd_op : tOp r ta tb σ H Q = ta σ H fun x H1 => tb σ H1 fun y H2 => r x y H2 Q := rfl
@[simp] theorem rd_I0 {g : Int → Int → V} {x y : V} : rI0 g x y H Q = ∃ i j, x = .int i ∧ y = .int j ∧ Q (g i j) H := rfl
@[simp] theorem rd_CB {r : List V → Hp → VK → Prop} : tCB r tA σ H Q = tA σ H fun vs H1 => r vs H1 Q := rfl
@[simp] theorem rd_nil {q : List V → Hp → Prop} : tNil σ H q = q [] H := rfl
@[simp] theorem rd_cons {q : List V → Hp → Prop} : tCons ta tA σ H q = ta σ H fun x H1 => tA σ H1 fun xs H2 => q (x :: xs) H2 := rfl
@[simp] theorem rd_ret : tRet ta D σ H = ta σ H D.rt := rfl
@[simp] theorem rd_next : tNext D σ H = D.nx σ H := rfl
@[simp] theorem rd_never : tNever D σ H = False := rfl
@[simp] theorem rd_drop : tDrop ta D σ H = ta σ H fun _ H1 => D.nx σ H1 := rfl
@[simp] theorem rd_asg {g : TG} : tAsg ta g D σ H = ta σ H fun x H1 => g x σ H1 D.nx := rfl
@[simp] theorem rd_gName {q : St → Hp → Prop} : gName n x σ H q = q (σ.set n (some x)) H := rfl
@[simp] theorem rd_call {sp : Sp} {dvs : List V} {E : XK} : tCall sp dvs E tA σ H Q = tA σ H fun vs H1 => sp (vs ++ dvs) H1 Q E := rfl
@[simp] theorem rd_fld {f : Str} : tFld K ta f σ H Q = ta σ H fun x H1 => ∃ a C dx fs v, x = .ref a ∧ H1 a = some (.ins C dx fs) ∧ Cls K C ∧ NoAttr K C f ∧ fs.lookup f = some v ∧ Q v H1 := rfl
@[simp] theorem rd_meth {C : Addr} {m : Str} {sp : Sp} {dvs : List V} {E : XK} : tMeth C m sp dvs E ta tA σ H Q = ta σ H fun x H1 => ∃ a dx fs, x = .ref a ∧ H1 a = some (.ins C dx fs) ∧ fs.lookup m = none ∧
  tA σ H1 fun vs H2 => sp (x :: (vs ++ dvs)) H2 Q E := rfl
@[simp] theorem rd_sFld {f : Str} : sFld K ta tb f D σ H = tb σ H fun y H1 => ta σ H1 fun x H2 => ∃ a C dx fs, x = .ref a ∧ H2 a = some (.ins C dx fs) ∧ Cls K C ∧ NoAttr K C f ∧ fs.length < 1000 ∧
  D.nx σ (upd H2 a (.ins C dx (putF f y fs))) := rfl
@[simp] theorem rd_tup : tTup tA σ H Q = tA σ H fun xs H1 => xs.length ≤ sizeLine ∧ ∀ p, H1 p = none → Q (.ref p) (upd H1 p (.tup xs)) := rfl
@[simp] theorem rd_lst : tLst tA σ H Q = tA σ H fun xs H1 => xs.length ≤ sizeLine ∧ ∀ p, H1 p = none → Q (.ref p) (upd H1 p (.lst xs)) := rfl
@[simp] theorem rd_sl {r : V → Option Int → Option Int → Hp → VK → Prop} {tl th : TO} : tSl r ta tl th σ H Q = ta σ H fun x H1 => tl σ H1 fun l H2 => th σ H2 fun u H3 => r x l u H3 Q := rfl
@[simp] theorem rd_noPart {q : Option Int → Hp → Prop} : tNoPart σ H q = q none H := rfl
@[simp] theorem rd_part {q : Option Int → Hp → Prop} : tPart ta σ H q = ta σ H fun x H1 => ∃ i, x = .int i ∧ q (some i) H1 := rfl
@[simp] theorem rd_U {g : Int → V} {x : V} : rU g x H Q = ∃ i, x = .int i ∧ Q (g i) H := rfl
@[simp] theorem rd_un {r : V → Hp → VK → Prop} : tUn r ta σ H Q = ta σ H fun x H1 => r x H1 Q := rfl
@[simp] theorem rd_rng2 {R : It → Hp → Prop} : iRng2 tA σ H R = tA σ H fun vs H1 => ∃ i j : Int, vs = [.int i, .int j] ∧ (-(2 ^ 62) ≤ i ∧ i < 2 ^ 62 ∧ -(2 ^ 62) ≤ j ∧ j < 2 ^ 62) ∧ R (Itr i (j - i).toNat) H1 := rfl
@[simp] theorem rd_BM {T : String} {r : V → List V → Hp → VK → Prop} : tBM K T r ta tA σ H Q = ta σ H fun x H1 => tyV K T x H1 ∧ tA σ H1 fun xs H2 => r x xs H2 Q := rfl
@[simp] theorem rd_BM0 {T : String} {r : V → List V → Hp → VK → Prop} : tBM0 K T r ta σ H Q = ta σ H fun x H1 => tyV K T x H1 ∧ r x [] H1 Q := rfl
theorem tyL {l : Addr} {xs : List V} (h : H l = some (.lst xs)) : tyV K "list" (.ref l) H := .inl ⟨rfl, xs, SqL.of h⟩
theorem truT {a : Addr} {xs : List V} {k : Bool} (h : H a = some (.tup xs)) (e : k = !xs.isEmpty) : TruV K (.ref a) H k := .inr (.inl ⟨xs, SqT.of h, e⟩)
theorem truL {a : Addr} {xs : List V} {k : Bool} (h : H a = some (.lst xs)) (e : k = !xs.isEmpty) : TruV K (.ref a) H k := .inl ⟨xs, SqL.of h, e⟩
end
end L2

end

section
set_option Elab.async false
set_option linter.all false
set_option maxRecDepth 100000
set_option maxHeartbeats 2000000
namespace L2
open PySem PySem.Spec PyProof.Rows
/-! ### a code object's table, tracked; the code objects that stand in it -/
def CodeI (c : Addr) (qual : Str) : HO := .ext fun h => h.CodeRec (.ref c) qual
structure Tab (P : Addr) (qual : Str) (H : Hp) (ps : Array Value) : Prop where
  here : H P = some (.tbl ps)
  ok : TriplesOk ps.toList
  cd : ∀ pos cv, codeAmong pos ps.toList = some cv → ∃ c, cv = .ref c ∧ H c = some (CodeI c qual)
def TabAt (P : Addr) (qual : Str) (H : Hp) : Prop := ∃ ps, Tab P qual H ps
theorem TabAt.keep {P : Addr} {qual : Str} {H H' : Hp} (T : TabAt P qual H) (k : ∀ a o, H a = some o → ((∃ ps, o = .tbl ps) ∨ ∃ φ, o = .ext φ) → H' a = some o) : TabAt P qual H' := by
  obtain ⟨ps, h1, h2, h3⟩ := T
  refine ⟨ps, k _ _ h1 (.inl ⟨_, rfl⟩), h2, fun pos cv e => ?_⟩
  obtain ⟨c, e1, e2⟩ := h3 pos cv e
  exact ⟨c, e1, k _ _ e2 (.inr ⟨_, rfl⟩)⟩
theorem TabAt.same {P : Addr} {qual : Str} {H H' : Hp} (T : TabAt P qual H) (s : Same H H') : TabAt P qual H' := T.keep fun a o e _ => s a o e
theorem TabAt.upd {P b : Addr} {qual : Str} {H : Hp} {o o' : HO} (T : TabAt P qual H) (e : H b = some o) (h1 : ∀ ps, o ≠ .tbl ps) (h2 : ∀ φ, o ≠ .ext φ) : TabAt P qual (upd H b o') := T.keep fun a u q hu => by
  rw [upd_ne (fun z => ?_)]
  · exact q
  · rw [z, e] at q
    cases q
    rcases hu with ⟨ps, hu⟩ | ⟨φ, hu⟩
    · exact h1 _ hu
    · exact h2 _ hu
/-- all but the table is as it was -/
def SameT (P : Addr) (H H' : Hp) : Prop := ∀ b o, H b = some o → b ≠ P → H' b = some o
/-- the function object that a lambda makes -/
def LamI (f : Addr) (qual : Str) (params : Arguments) (body : Expr) (scope : Scope) (clos : List (Str × Addr)) (pm : Value) (c : Addr) : HO :=
  .ext fun h => ∃ ctv, h.get? f = some (PySem.W.kla_obj "<lambda>" qual params body scope clos pm c ctv)
theorem codeI_ok {P : Program} {w : World} {H : Hp} {h : Heap} {c : Addr} {qual : Str} (r : h.CodeRec (.ref c) qual) : ObjOk P w H h c (CodeI c qual) := by
  obtain ⟨c0, o, vs, t, e, ho, hd, hv⟩ := id r
  cases e
  refine ⟨r, ⟨o, ho⟩, fun h1 h2 r1 k => ?_⟩
  obtain ⟨c1, o1, vs1, t1, e1, g1, g2, g3⟩ := r1
  cases e1
  exact ⟨_, o1, vs1, t1, rfl, k _ g1, g2, g3⟩
theorem lamI_ok {P : Program} {w : World} {H : Hp} {h : Heap} {f c : Addr} {qual : Str} {params : Arguments} {body : Expr} {scope : Scope} {clos : List (Str × Addr)} {pm ctv : Value} (e : h.get? f = some (PySem.W.kla_obj "<lambda>" qual params body scope clos pm c ctv)) :
    ObjOk P w H h f (LamI f qual params body scope clos pm c) :=
  ⟨⟨ctv, e⟩, ⟨_, e⟩, fun h1 h2 ⟨v, q⟩ k => ⟨v, k _ q⟩⟩
theorem triples_snoc {pos : Pos} {c : Value} : ∀ l : List Value, TriplesOk l → TriplesOk (l ++ [rawInt pos.line, rawInt pos.col, c]) := by
  intro l h
  fun_induction TriplesOk l with
  | case1 => exact True.intro
  | case2 a t b u x rest ih => exact ih h
  | case3 => exact h.elim
theorem among_snoc {pos q : Pos} {c cv : Value} : ∀ l : List Value, TriplesOk l → codeAmong q (l ++ [rawInt pos.line, rawInt pos.col, c]) = some cv → codeAmong q l = some cv ∨ cv = c := by
  intro l h e
  fun_induction TriplesOk l with
  | case1 =>
    simp only [List.nil_append, codeAmong, rawInt] at e
    split at e
    · exact .inr (Option.some.inj e).symm
    · cases e
  | case2 a t b u x rest ih =>
    simp only [List.cons_append, codeAmong] at e ⊢
    split at e
    · rename_i hq
      rw [if_pos hq]
      exact .inl e
    · rename_i hq
      rw [if_neg hq]
      exact ih h e
  | case3 => exact h.elim
section
variable {X : Cx} {pins : List (Addr × Obj)} {σ : St} {H : Hp} {s : Shared}
/-- the module's own words, for a lambda: the code object and its table, the built-ins' module -/
def BMod1 (mg : Str → Option Value) (h : Heap) : Prop := ∃ bm ob, mg "__builtins__" = some (.ref bm) ∧ bm ≠ builtinsNs ∧ h.get? bm = some ob ∧ ob.cls = .type "module" ∧ ob.dict = some builtinsNs ∧ ob.data = .plain
structure LamM (K : PySem.W.Frag) (mg : Str → Option Value) (base : Heap) (c P : Addr) : Prop where
  hd : PySem.W.codeHdIn K c P = true
  bm : BMod1 mg base
theorem lam_make {A : Around} {E : Value → Shared → Prop} {c P : Addr} {qual : Str} {params : Arguments} {body : Expr} {scope : Scope} {pos : Pos} {Q : Value → Shared → Prop} (I : Inv X pins σ H s) (T : TabAt P qual H) (L : LamM X.K X.mg X.base c P)
    (hcode : X.env.code = .ref c) (hq : X.env.qual ++ "<lambda>" = qual) (hfree : ∀ y ∈ scope.names, y.2 = .free → ∃ c, X.env.cells.lookup y.1 = some c) (hdef : defaultsOf params X.env = ([], []))
    (h : ∀ f c' s' H', Inv X pins σ H' s' → SameT P H H' → TabAt P qual H' → H f = none → H' f = some (LamI f qual params body scope (cloFrom X.env.cells scope.names []) ((X.mg "__name__").getD .none) c') → H' c' = some (CodeI c' qual) → Q (.ref f) s') :
    wpAny (model X.prog X.w) A (eval (.Lambda params body scope pos) X.env) Q E s := by
  refine PySem.W.kla_eval hdef ?_
  rw [hq]
  obtain ⟨ps, T1, T2, T3⟩ := T
  have hg : s.heap.Ns mainGlobals X.mg := I.mod.glob.keeps I.bk
  have hP : s.heap.get? P = some (PySem.W.tabObj ps) := I.hok P _ T1
  have C : PySem.W.CodeHd s.heap c P := PySem.W.codeHd_of_K I.kIn L.hd
  have neP : ∀ {b : Addr} {o : Obj}, X.base.get? b = some o → b ≠ P := fun e z => by
    have := (I.bs _ _ e).2
    rw [z, T1] at this; cases this
  have hgP : mainGlobals ≠ P := by
    obtain ⟨o, es, ep, e, _⟩ := I.mod.glob
    exact neP e
  obtain ⟨bm, ob, b1, b2, b3, b4, b5, b6⟩ := L.bm
  have bb := b3
  have hbG : bm ≠ mainGlobals := fun z => by
    obtain ⟨o, es, ep, e, hd, _⟩ := I.mod.glob
    rw [z, e] at bb; cases bb; rw [hd] at b6; cases b6
  have hb : s.heap.BuiltinsAt X.mg P := ⟨bm, ob, b1, b2, hbG, neP bb, I.bk _ _ bb, b4, b5, b6⟩
  have lt : ∀ {b : Addr} {o : HO}, H b = some o → b < s.heap.objs.size := fun e => (I.hok _ _ e).lt
  cases hc : codeAmong pos ps.toList with
  | some cv =>
    obtain ⟨c', rfl, hc'⟩ := T3 pos cv hc
    refine PySem.W.kla_makeFunctionHit (mg := X.mg) (closure_ok hfree) I.ok.glob hg hcode C hP T2 hc hb fun ctv h' tk hk hsz => ?_
    have hf : H h'.objs.size = none := I.hok.fresh hsz
    have S : Same H (upd H h'.objs.size (LamI h'.objs.size qual params body scope (cloFrom X.env.cells scope.names []) ((X.mg "__name__").getD .none) c')) := upd_same_of hf
    refine h h'.objs.size c' _ _ (I.laid (t' := tk) (fun b u e => Heap.get?_push_of_some _ (hk b u e)) hsz (lamI_ok (Heap.get?_push_size _ rfl))) (fun b o e _ => S b o e) ⟨ps, S _ _ T1, T2, fun p cv e => ?_⟩ hf upd_same (S _ _ hc')
    obtain ⟨c2, e1, e2⟩ := T3 p cv e
    exact ⟨c2, e1, S _ _ e2⟩
  | none =>
    refine PySem.W.kla_makeFunction (mg := X.mg) (closure_ok hfree) I.ok.glob hg hcode C hP T2 hc hgP hb fun c' ctv h' tk hx hge hlt hrec htb => ?_
    have hsz : s.heap.objs.size ≤ h'.objs.size := Nat.le_trans hge (Nat.le_of_lt hlt)
    have hf : H h'.objs.size = none := I.hok.fresh hsz
    have hcn : H c' = none := I.hok.fresh hge
    have hfc : h'.objs.size ≠ c' := Nat.ne_of_gt hlt
    have hPc : P ≠ c' := ne_of_none T1 hcn
    have hPf : P ≠ h'.objs.size := ne_of_none T1 hf
    generalize hps' : ps ++ #[rawInt pos.line, rawInt pos.col, Value.ref c'] = ps' at htb
    generalize hLI : LamI h'.objs.size qual params body scope (cloFrom X.env.cells scope.names []) ((X.mg "__name__").getD .none) c' = LI
    have up : ∀ b o, H b = some o → b ≠ P → upd (upd (upd H P (.tbl ps')) c' (CodeI c' qual)) h'.objs.size LI b = some o := fun b o e hb => by
      rw [upd_ne (ne_of_none e hf), upd_ne (ne_of_none e hcn), upd_ne hb]; exact e
    have upP : upd (upd (upd H P (.tbl ps')) c' (CodeI c' qual)) h'.objs.size LI P = some (.tbl ps') := by
      rw [upd_ne hPf, upd_ne hPc, upd_same]
    have upc : upd (upd (upd H P (.tbl ps')) c' (CodeI c' qual)) h'.objs.size LI c' = some (CodeI c' qual) := by
      rw [upd_ne hfc.symm, upd_same]
    have ntup : ∀ b xs, H b = some (.tup xs) → b ≠ P := fun b xs e => ne_of e T1 (by intro z; cases z)
    have kb : ∀ b o, b ≠ P → s.heap.get? b = some o → (h'.push (PySem.W.kla_obj "<lambda>" qual params body scope (cloFrom X.env.cells scope.names []) ((X.mg "__name__").getD .none) c' ctv)).get? b = some o := fun b o hb e =>
      Heap.get?_push_of_some _ (hx b o hb e)
    have kP := Heap.get?_push_of_some (PySem.W.kla_obj "<lambda>" qual params body scope (cloFrom X.env.cells scope.names []) ((X.mg "__name__").getD .none) c' ctv) htb
    refine h h'.objs.size c' _ (upd (upd (upd H P (.tbl ps')) c' (CodeI c' qual)) h'.objs.size LI) (I.un (t' := tk) ?_ ?_) up ⟨ps', upP, ?_, ?_⟩ hf (by rw [upd_same, hLI]) upc
    · refine ⟨fun b o e n _ _ => kb b o (fun z => by rw [z, T1] at n; cases n) e, fun b o e n _ _ => ⟨o.slots, kb b o (fun z => by rw [z, T1] at n; cases n) e⟩, fun b o e n _ => ?_, fun b o e _ => ?_, fun b xs e => up b _ e (ntup b xs e), fun b o u e => up b _ e (ne_of e T1 (by intro z; cases z)), fun b qs e => ?_⟩
      · have hb := Heap.lt_size e
        rw [upd_ne (Nat.ne_of_lt (Nat.lt_of_lt_of_le hb hsz)), upd_ne (Nat.ne_of_lt (Nat.lt_of_lt_of_le hb hge)), upd_ne (fun z => by rw [z, T1] at n; cases n)]; exact n
      · by_cases hb : b = P
        · subst hb; exact ⟨_, kP⟩
        · exact ⟨o, kb b o hb e⟩
      · by_cases hb : b = P
        · subst hb
          rw [T1] at e; cases e
          exact ⟨_, by rw [upP, ← hps']⟩
        · exact ⟨#[], by rw [up b _ e hb]; simp⟩
    · intro b o e
      by_cases hbf : b = h'.objs.size
      · rw [hbf, upd_same] at e
        cases e
        subst hLI
        rw [hbf]
        exact lamI_ok (Heap.get?_push_size _ rfl)
      · rw [upd_ne hbf] at e
        by_cases hbc : b = c'
        · rw [hbc, upd_same] at e
          cases e
          rw [hbc]
          refine codeI_ok ?_
          obtain ⟨c0, o, vs, t, e1, g1, g2, g3⟩ := hrec
          exact ⟨c0, o, vs, t, e1, Heap.get?_push_of_some _ g1, g2, g3⟩
        · rw [upd_ne hbc] at e
          by_cases hbP : b = P
          · rw [hbP, upd_same] at e
            cases e
            rw [hbP]
            exact kP
          · rw [upd_ne hbP] at e
            refine (I.hok b o e).stay (fun a u ha q => kb a u ?_ q) (fun a q => up a _ q (ne_of q T1 (by intro z; cases z))) fun a xs q => up a _ q (ntup a xs q)
            rcases ha with ha | ha
            · rw [ha]; exact hbP
            · exact ne_of ha T1 (by intro z; cases z)
    · rw [← hps']; simpa using triples_snoc ps.toList T2
    · intro p cv e
      rw [← hps'] at e
      have e : codeAmong p (ps.toList ++ [rawInt pos.line, rawInt pos.col, Value.ref c']) = some cv := by simpa using e
      rcases among_snoc ps.toList T2 e with e | e
      · obtain ⟨c2, e1, e2⟩ := T3 p cv e
        exact ⟨c2, e1, up _ _ e2 (ne_of e2 T1 (by intro z; cases z))⟩
      · exact ⟨c', e, upc⟩
end
end L2

end

section
set_option Elab.async false
set_option linter.all false
set_option maxRecDepth 100000
set_option maxHeartbeats 2000000
namespace L2
open PySem PySem.Spec PyProof.Rows
/-- within a built-in function's own tree -/
abbrev Cx.inn (X : Cx) : Cx := { X with A := X.A.in1, xe := fun _ _ => False }
/-- a lambda's body running: called from X -/
abbrev Cx.lam (X : Cx) (s : Shared) (H : Hp) (lenv : Env) (N : List Str) : Cx := { X with A := X.A.deeper lenv, N := N, s_0 := s, H_0 := H, env := lenv, outer := X.stack, stack := lenv :: X.stack, ex := [], fn := fun _ => false, pn := [], xe := fun _ _ => False }
section
variable {X : Cx} {pins : List (Addr × Obj)} {σ : St} {H : Hp} {s : Shared}
theorem Inv.inn (I : Inv X pins σ H s) : Inv X.inn pins σ H s := by
  obtain ⟨⟨o1, o2, o3, o4, o5, o6, o7, o8, o9, o10, o11, o12, o13, o14, o15, o16, o17, o18⟩, i2, i3, i4, i5, i6, i7, i8, i9, i10, i11⟩ := I
  exact ⟨⟨o1, o2, o3, o4, o5, o6, o7, o8, o9, o10, o11, o12, o13, o14, o15, o16, o17, o18⟩, i2, i3, i4, i5, i6, i7, i8, i9, i10, i11⟩
theorem Inv.out (I : Inv X.inn pins σ H s) (ok : X.Ok) : Inv X pins σ H s := by
  obtain ⟨_, i2, i3, i4, i5, i6, i7, i8, i9, i10, i11⟩ := I
  exact ⟨ok, i2, i3, i4, i5, i6, i7, i8, i9, i10, i11⟩
theorem clo_get {cells : List (Str × Addr)} {names : List (Str × NameKind)} {y : Str} {c : Addr} (hy : (y, NameKind.free) ∈ names) (hc : cells.lookup y = some c) : (cloFrom cells names []).lookup y = some c := by
  obtain ⟨c', e⟩ := mem_lookup (cloFrom_has (acc := []) (cells := cells) hy)
  rcases cloFrom_mem (PySem.mem_of_lookup e) with m | ⟨_, e2⟩
  · cases m
  · rw [e, e2, hc]; rfl
theorem clo_of {cells : List (Str × Addr)} {names : List (Str × NameKind)} {y : Str} {c : Addr} (hf : ∀ y ∈ names, y.2 = NameKind.free → ∃ c, cells.lookup y.1 = some c) (e : (cloFrom cells names []).lookup y = some c) : cells.lookup y = some c := by
  rcases cloFrom_mem (PySem.mem_of_lookup e) with m | ⟨h1, e2⟩
  · cases m
  · obtain ⟨c', hc⟩ := hf _ h1 rfl
    rw [hc] at e2 ⊢
    rw [e2]; rfl
theorem lam_run {E : Value → Shared → Prop} {f c : Addr} {qual : Str} {params : Arguments} {body : Expr} {scope : Scope} {pm : Value} {x : Str} {xv : V} {u : Value} {N : List Str} {σ' : St} {te : TE} {Q : VK}
    (I : Inv X pins σ H s) (hdp : X.A.depth < recursionLimit) (hf : H f = some (LamI f qual params body scope (cloFrom X.env.cells scope.names []) pm c)) (hc : H c = some (CodeI c qual))
    (hk : scope.kind = .function) (hco : scope.isCoroutine = false) (hgen : scope.isGenerator = false) (hcell : ∀ y ∈ scope.names, y.2 ≠ .cell) (hx : scope.names.lookup x = some .local)
    (hfree : ∀ y ∈ scope.names, y.2 = .free → ∃ c, X.env.cells.lookup y.1 = some c)
    (hbind : ∀ clos ctv, bindArgs (PySem.W.kla_fn "<lambda>" qual params body scope clos pm (.ref c) ctv) ⟨[u], []⟩ = pure [(x, u)]) (r : RelV xv u) (hlen : σ'.length = N.length)
    (hσ : ∀ (i : Nat) (y : Str) (v : V), N[i]? = some y → σ'[i]? = some (some v) → (y = x ∧ v = xv) ∨ (scope.names.lookup y = some .free ∧ ∃ j : Nat, X.N[j]? = some y ∧ σ[j]? = some (some v) ∧ X.env.scope.names.lookup y = some .cell))
    (he : ∀ (s : Shared) (H : Hp) (L : Addr) (clos : List (Str × Addr)), PE (X.lam s H (PySem.W.envX qual scope L f (.ref c) clos) N) body te) (h : te σ' H Q) :
    wpAny (model X.prog X.w) X.A (call (.ref f) [u]) (EP X pins σ Q) E s := by
  obtain ⟨⟨ctv, ho⟩, _⟩ := I.hok f _ hf
  obtain ⟨hcd, _⟩ := I.hok c _ hc
  refine wpAny_call (PySem.W.kla_callFunE hdp ho rfl hco hgen rfl hcd ?_)
  rw [hbind]
  refine wpAny_pure (wpAny_newFunctionEnv hcell (fun y hy => ?_) (fun h₁ hns hsb => ⟨I.nolimit.fresh _ hsb, ?_⟩) hk)
  · obtain rfl : y = (x, u) := List.mem_singleton.mp hy
    exact hx
  show codeAny _ _ (.expr body (PySem.W.envX qual scope s.heap.objs.size f (.ref c) (cloFrom X.env.cells scope.names []))) _ _
  have kp : ∀ b o, s.heap.get? b = some o → h₁.get? b = some o := fun b o e => hsb.extBut b o (Nat.ne_of_lt (Heap.lt_size e)) (Heap.get?_push_of_some _ e)
  have I1 : Inv (X.lam s H (PySem.W.envX qual scope s.heap.objs.size f (.ref c) (cloFrom X.env.cells scope.names [])) N) [] σ' H { s with heap := h₁, toks := s.toks + [(x, u)].length } := by
    have clo : ∀ y c, (cloFrom X.env.cells scope.names []).lookup y = some c → X.env.cells.lookup y = some c := fun y c e => clo_of hfree e
    refine ⟨⟨I.mod, hk, rfl, rfl, Nat.le_refl _, fun y z c e1 e2 => I.ok.inj y z c (clo y c e1) (clo z c e2), fun y hy => ?_, fun y c e _ => (by cases e), fun q => I.ok.hd q, Around.frames_deeper I.ok.frames, .inr ⟨rfl, rfl⟩, fun b z => absurd (show b ∈ ([] : List Addr) from z) (by simp), I.bs, Nat.le_trans I.ok.bsz I.sz, fun b _ _ z => absurd (show b ∈ ([] : List Addr) from z) (by simp),
      fun b z => absurd (show b ∈ ([] : List Addr) from z) (by simp), I.stack, I.stkFree⟩, rfl, I.bare, Un.kept kp, ⟨_, hns, fun i y v e1 e2 e3 => ?_⟩, fun y c e => ?_, I.hok.fresh (Nat.le_refl _), fun y c e => I.freeC y c (clo y c e), fun p hp => absurd (show p ∈ ([] : List (Addr × Obj)) from hp) (by simp), I.hok.kept kp, hlen⟩
    · have hy : scope.names.lookup y = some .cell ∨ scope.names.lookup y = some .free := hy
      rcases hy with hy | hy
      · exact absurd rfl (hcell _ (PySem.mem_of_lookup hy))
      · have m := PySem.mem_of_lookup hy
        obtain ⟨c, hc⟩ := hfree _ m rfl
        exact ⟨c, clo_get m hc⟩
    · rcases hσ i y v e1 e2 with ⟨rfl, rfl⟩ | ⟨hy, j, j1, j2, j3⟩
      · refine ⟨u, r, .inl ⟨hx, ?_⟩⟩
        simp
      · obtain ⟨m, _, hl⟩ := I.loc
        obtain ⟨u', r', lk⟩ := hl j y v j1 j2 (.inr (.inl j3))
        refine ⟨u', r', .inr ⟨.inr hy, ?_⟩⟩
        rcases lk with ⟨k1, _⟩ | ⟨_, c, hc, o, ho, hd⟩
        · have k1 : X.env.scope.names.lookup y = some .local := k1
          rw [j3] at k1; cases k1
        · exact ⟨c, clo_get (PySem.mem_of_lookup hy) hc, o, kp _ _ ho, hd⟩
    · obtain ⟨v, o, ho, hd⟩ := I.cell y c (clo y c e)
      exact ⟨v, o, kp _ _ ho, hd⟩
  refine PySem.W.kla_codeExpr (wpAny_mono (he _ _ _ _ [] _ σ' H _ I1 h) (fun v s' hl => ?_) fun _ _ z => z.elim)
  obtain ⟨v', H', J, rv, q⟩ := hl
  exact I.after ⟨v', H', J.os, J.bare, J.base, J.hok, rv, q⟩
end
end L2

end

section
set_option Elab.async false
set_option linter.all false
set_option maxRecDepth 100000
set_option maxHeartbeats 2000000
namespace L2
open PySem PySem.Spec PyProof.Rows
section
variable {X : Cx} {pins : List (Addr × Obj)} {σ : St} {R : Result → Shared → Prop}
/-- i is the first of the best, of n -/
def FirstB (bt : Nat → Nat → Bool) (n i : Nat) : Prop := i < n ∧ (∀ j, j < n → bt j i = false) ∧ ∀ j, j < i → bt i j = true
/-- what bt must be: an order on what the keys tell, as < is -/
structure Ord2 (bt : Nat → Nat → Bool) (n : Nat) : Prop where
  irr : ∀ i, i < n → bt i i = false
  tr1 : ∀ i j k, i < n → j < n → k < n → bt i j = true → bt k j = false → bt i k = true
  tr2 : ∀ i j k, i < n → j < n → k < n → bt i j = false → bt j k = false → bt i k = false
  asy : ∀ i j, i < n → j < n → bt i j = true → bt j i = false
theorem ord_lt (kf : Nat → Int) (n : Nat) : Ord2 (fun i j => decide (kf i < kf j)) n :=
  ⟨fun i _ => by simp, fun i j k _ _ _ => by simp; omega, fun i j k _ _ _ => by simp; omega, fun i j _ _ => by simp; omega⟩
theorem ord_gt (kf : Nat → Int) (n : Nat) : Ord2 (fun i j => decide (kf i > kf j)) n :=
  ⟨fun i _ => by simp, fun i j k _ _ _ => by simp; omega, fun i j k _ _ _ => by simp; omega, fun i j _ _ => by simp; omega⟩
/-- the list that min and max keep the best in -/
theorem lst_at {H : Hp} {s : Shared} {S : Addr} {xs : List V} (I : Inv X pins σ H s) (h : H S = some (.lst xs)) : ∃ (its : List Value) (n : Nat), Vals xs its ∧ s.heap.get? S = some (seqObj "list" its.toArray n) := by
  obtain ⟨_, its, n, r, e⟩ := I.hok S _ h
  exact ⟨its, n, r, e⟩
theorem put_lst {H : Hp} {s : Shared} {S : Addr} {xs ys : List V} {its jts : List Value} {n : Nat} (I : Inv X pins σ H s) (h : H S = some (.lst xs)) (e : s.heap.get? S = some (seqObj "list" its.toArray n)) (hz : ys.length ≤ 2) (r : Vals ys jts) :
    Inv X pins σ (upd H S (.lst ys)) { s with heap := s.heap.update S (Obj.mapSeq fun _ => jts.toArray) } := by
  refine I.write (t' := s.toks) (e := S) (by rw [h]; trivial) (.inl rfl) (fun b u hb q => ?_) ⟨_, get?_update_seq e fun _ => jts.toArray⟩ ⟨?_, jts, _, r, get?_update_seq e fun _ => jts.toArray⟩
  · exact (Heap.get?_update_other _ _ (Ne.symm hb)).trans q
  · exact Nat.le_trans hz (by decide)
/-- the iterator has turned -/
theorem iter_at {H : Hp} {s : Shared} {J l : Addr} {j : Nat} {h' : Heap} {tk : Nat} (I : Inv X pins σ H s) (f : FpOk X pins H J) (k : ∀ b o, b ∉ [J] → s.heap.get? b = some o → h'.get? b = some o) : Inv X pins σ H { s with heap := h', toks := tk } := by
  obtain ⟨f0, f1, f2, f3, f4, f5⟩ := f
  exact I.turned (t' := tk) (fun b o hb e => k b o (by simpa using hb) e) f0 f1 f3 f4 f5
theorem fp_keep {H H' : Hp} {J : Addr} (f : FpOk X pins H J) (n : H' J = none) : FpOk X pins H' J := ⟨n, f.2⟩

theorem loop_minK {J S l : Addr} {xs : List V} {kv : Nat → V} {bt : Nat → Nat → Bool} {Hs : Hp} {kw : List (Str × Value)} {q : Addr}
    (ok : X.Ok) (hc : X.calm = true) (ob : Ord2 bt xs.length) (hS : Hs S = none) (hl : Hs l = some (.lst xs))
    (cmp : ∀ i j vi vj, i < xs.length → j < xs.length → RelV (kv i) vi → RelV (kv j) vj → ∀ (p : List (Addr × Obj)) (s : Shared) (H : Hp) (Q : Value → Shared → Prop) (E : Value → Shared → Prop), Inv X.inn p σ H s → Same Hs H → Q (.bool (bt i j)) s → wpAny (model X.prog X.w) X.A.in1 (richCompare .Lt vi vj) Q E s)
    (turn : ∀ i x u, xs[i]? = some x → RelV x u → ∀ (p : List (Addr × Obj)) (s : Shared) (H : Hp), Inv X.inn p σ H s → Same Hs H → wpAny (model X.prog X.w) X.A.in1 (call (.ref q) [u]) (EP X.inn p σ fun y H' => y = kv i ∧ Same H H') (fun _ _ => False) s)
    (fin : ∀ i x u s H, xs[i]? = some x → RelV x u → FirstB bt xs.length i → Inv X pins σ H s → Same Hs H → R (.ok (.ret u)) s) :
    ∀ (r j i : Nat) (s : Shared) (H : Hp) (x : V), xs.length - (j + 1) = r → j + 1 ≤ xs.length → Inv X pins σ H s → Same Hs H → H S = some (.lst [x, kv i]) → s.heap.IsListIter J l (j + 1) → FpOk X pins H J → S ≠ J → l ≠ J → xs[i]? = some x →
      i ≤ j → (∀ k, k ≤ j → bt k i = false) → (∀ k, k < i → bt i k = true) → codeAny (model X.prog X.w) X.A (.builtin "min.loop" ⟨[.ref J, .ref q, .ref S], kw⟩) R s := by
  have again : (toString "min" ++ toString ".loop" : String) = "min.loop" := by decide
  intro r
  induction r with
  | zero =>
    intro j i s H x er ej I sm hx hit hfp nSJ nlJ hi hij b1 b2
    have ein : j + 1 = xs.length := by omega
    obtain ⟨its, n, rv, eS⟩ := lst_at I hx
    obtain ⟨lts, rl, pl, _⟩ := I.list (SqL.of (sm _ _ hl))
    have W := Walks.list (prog := X.prog) (w := X.w) (A := X.A.in1) (ok.hd hc) J l nlJ lts.toArray
    have esz : lts.toArray.size = xs.length := by rw [List.size_toArray]; exact rl.length.symm
    cases rv with
    | cons r1 rv2 =>
      cases rv2 with
      | cons r2 rv3 =>
        cases rv3
        refine codeAny_builtin PySem.F.entry_min_loop ?_
        rw [Around.under_plainId PySem.F.plain_min_loop _]
        show wpAny _ X.A.in1 (seqItems? (.ref S) >>= _) _ _ s
        refine wpAny_bind (wpAny_seqItems eS rfl ?_)
        show wpAny _ X.A.in1 (tryCatch (pyNext (.ref J)) _ >>= _) _ _ s
        refine wpAny_bind (wpAny_tryCatch (W.done s _ _ ⟨by rw [esz, ← ein]; exact hit, pl.isList⟩ fun h' tk hk => ?_))
        have I1 := iter_at (tk := tk) (l := l) (j := j) I hfp hk
        have eS1 := hk S _ (by simpa using nSJ) eS
        show wpAny _ X.A.in1 (updateSeq S (fun _ => #[]) >>= _) _ _ _
        refine wpAny_bind ?_
        refine wpAny_updateSeq eS1 rfl (wpAny_bind (wpAny_letGo (wpAny_pure ?_)))
        refine fin i x _ _ _ hi r1 ⟨(List.getElem?_eq_some_iff.mp hi).1, fun k hk => b1 k (by omega), b2⟩ (put_lst (jts := []) I1 hx eS1 (by show 0 ≤ 2; omega) .nil) ?_
        intro b o e
        rw [upd_ne (ne_of_none e hS)]; exact sm b o e
  | succ r ih =>
    intro j i s H x er ej I sm hx hit hfp nSJ nlJ hi hij b1 b2
    have elt : j + 1 < xs.length := by omega
    have ilt : i < xs.length := by omega
    obtain ⟨its, n, rv, eS⟩ := lst_at I hx
    obtain ⟨lts, rl, pl, _⟩ := I.list (SqL.of (sm _ _ hl))
    have W := Walks.list (prog := X.prog) (w := X.w) (A := X.A.in1) (ok.hd hc) J l nlJ lts.toArray
    have esz : lts.toArray.size = xs.length := by rw [List.size_toArray]; exact rl.length.symm
    cases rv with
    | cons r1 rv2 =>
      cases rv2 with
      | cons r2 rv3 =>
        cases rv3
        refine codeAny_builtin PySem.F.entry_min_loop ?_
        rw [Around.under_plainId PySem.F.plain_min_loop _]
        show wpAny _ X.A.in1 (seqItems? (.ref S) >>= _) _ _ s
        refine wpAny_bind (wpAny_seqItems eS rfl ?_)
        show wpAny _ X.A.in1 (tryCatch (pyNext (.ref J)) _ >>= _) _ _ s
        refine wpAny_bind (wpAny_tryCatch (W.item (j + 1) s _ _ (by rw [esz]; exact elt) ⟨hit, pl.isList⟩ fun v h' tk hP hst hk => ?_))
        have I1 := iter_at (tk := tk) (l := l) (j := j) I hfp hk
        have xj : xs[j + 1]? = some xs[j + 1] := List.getElem?_eq_getElem elt
        obtain ⟨v0, ev0, rv0⟩ := rl.get xj
        have hv0 : v0 = v := by
          have hP : lts[j + 1]? = some v := by simpa using hP
          rw [ev0] at hP; exact Option.some.inj hP
        subst hv0
        obtain ⟨oJ, eJ, cJ, dJ⟩ := hst.1
        have hpin : ∀ b ∈ [J], ∃ o, h'.get? b = some o ∧ ∀ v, o.data ≠ .cell v := fun b hb => by
          obtain rfl : b = J := by simpa using hb
          exact ⟨oJ, eJ, fun v z => by rw [dJ] at z; cases z⟩
        have I2 := I1.inn.pinned (fp := [J]) (fun b hb => by
          obtain rfl : b = J := by simpa using hb
          exact hfp) hpin
        show wpAny _ X.A.in1 (tryCatch (holding [v0] (call (.ref q) [v0])) _ >>= _) _ _ _
        refine wpAny_bind (wpAny_tryCatch (wpAny_holding (wpAny_mono (turn (j + 1) _ v0 xj rv0 _ _ _ I2 sm) (fun y s3 he => ?_) fun _ _ z => z.elim)))
        obtain ⟨yv, H3, I3, ry, rfl, sm23⟩ := he
        have sm3 := sm.trans sm23
        have hx3 := sm23 _ _ hx
        obtain ⟨its3, n3, rv3, eS3⟩ := lst_at I3 hx3
        have pJ := I3.pin (J, oJ) (List.mem_append_right _ (List.mem_append_right _ (mem_pinsAt (by simp) eJ)))
        have nJ3 : H3 J = none := pJ.2.1
        have it3 : s3.heap.IsListIter J l (j + 1 + 1) := ⟨oJ, pJ.1, cJ, dJ⟩
        cases rv3 with
        | cons q1 rv4 =>
        cases rv4 with
        | cons q2 rv5 =>
        cases rv5
        show wpAny _ X.A.in1 (tryCatch (holding [v0, y] (richCompare .Lt y _ >>= _)) _ >>= _) _ _ _
        refine wpAny_bind (wpAny_tryCatch (wpAny_holding (wpAny_bind (cmp (j + 1) i _ _ elt ilt ry r2 _ _ _ _ _ I3 sm3 ?_))))
        refine wpAny_bind (wpAny_holding (wpAny_truthy_bool ?_))
        refine wpAny_bind (wpAny_letGo (wpAny_pure ?_))
        cases hb : bt (j + 1) i with
        | true =>
          simp only [if_true]
          refine wpAny_bind ?_
          refine wpAny_updateSeq eS3 rfl (wpAny_bind (wpAny_letGo ?_))
          rw [again]
          have I4 := put_lst (ys := [xs[j + 1], kv (j + 1)]) (jts := [v0, y]) (I3.unpinned.out ok) hx3 eS3 (by show 2 ≤ 2; omega) (.cons rv0 (.cons ry .nil))
          refine wpAny_pure ⟨plainId_quiet PySem.F.plain_min_loop _, ih (j + 1) (j + 1) _ _ _ (by omega) elt I4 (fun b o e => ?_) upd_same ?_ (fp_keep hfp ?_) nSJ nlJ xj (Nat.le_refl _) (fun k hk => ?_) fun k hk => ?_⟩
          · rw [upd_ne (ne_of_none e hS)]; exact sm3 b o e
          · obtain ⟨oJ, e1, e2, e3⟩ := it3
            exact ⟨oJ, (Heap.get?_update_other _ _ nSJ).trans e1, e2, e3⟩
          · rw [upd_ne nSJ.symm]; exact nJ3
          · by_cases e : k = j + 1
            · subst e; exact ob.irr _ elt
            · exact ob.tr2 k i (j + 1) (by omega) ilt elt (b1 k (by omega)) (ob.asy _ _ elt ilt hb)
          · exact ob.tr1 (j + 1) i k elt ilt (by omega) hb (b1 k (by omega))
        | false =>
          simp only [Bool.false_eq_true, if_false]
          refine wpAny_bind (wpAny_letGo ?_)
          rw [again]
          refine wpAny_pure ⟨plainId_quiet PySem.F.plain_min_loop _, ih (j + 1) i _ _ x (by omega) elt (I3.unpinned.out ok) sm3 hx3 it3 (fp_keep hfp nJ3) nSJ nlJ hi (by omega) (fun k hk => ?_) b2⟩
          by_cases e : k = j + 1
          · subst e; exact hb
          · exact b1 k (by omega)

theorem first_minK {J S l : Addr} {xs : List V} {kv : Nat → V} {bt : Nat → Nat → Bool} {Hs : Hp} {kw : List (Str × Value)} {q : Addr}
    (ok : X.Ok) (hc : X.calm = true) (ob : Ord2 bt xs.length) (hne : 0 < xs.length) (hS : Hs S = none) (hl : Hs l = some (.lst xs))
    (cmp : ∀ i j vi vj, i < xs.length → j < xs.length → RelV (kv i) vi → RelV (kv j) vj → ∀ (p : List (Addr × Obj)) (s : Shared) (H : Hp) (Q : Value → Shared → Prop) (E : Value → Shared → Prop), Inv X.inn p σ H s → Same Hs H → Q (.bool (bt i j)) s → wpAny (model X.prog X.w) X.A.in1 (richCompare .Lt vi vj) Q E s)
    (turn : ∀ i x u, xs[i]? = some x → RelV x u → ∀ (p : List (Addr × Obj)) (s : Shared) (H : Hp), Inv X.inn p σ H s → Same Hs H → wpAny (model X.prog X.w) X.A.in1 (call (.ref q) [u]) (EP X.inn p σ fun y H' => y = kv i ∧ Same H H') (fun _ _ => False) s)
    (fin : ∀ i x u s H, xs[i]? = some x → RelV x u → FirstB bt xs.length i → Inv X pins σ H s → Same Hs H → R (.ok (.ret u)) s) {s : Shared} {H : Hp}
    (I : Inv X pins σ H s) (sm : Same Hs H) (hx : H S = some (.lst [])) (hit : s.heap.IsListIter J l 0) (hfp : FpOk X pins H J) (nSJ : S ≠ J) (nlJ : l ≠ J) :
    codeAny (model X.prog X.w) X.A (.builtin "min.loop" ⟨[.ref J, .ref q, .ref S], kw⟩) R s := by
  have again : (toString "min" ++ toString ".loop" : String) = "min.loop" := by decide
  obtain ⟨its, n, rv, eS⟩ := lst_at I hx
  obtain ⟨lts, rl, pl, _⟩ := I.list (SqL.of (sm _ _ hl))
  have W := Walks.list (prog := X.prog) (w := X.w) (A := X.A.in1) (ok.hd hc) J l nlJ lts.toArray
  have esz : lts.toArray.size = xs.length := by rw [List.size_toArray]; exact rl.length.symm
  cases rv
  refine codeAny_builtin PySem.F.entry_min_loop ?_
  rw [Around.under_plainId PySem.F.plain_min_loop _]
  show wpAny _ X.A.in1 (seqItems? (.ref S) >>= _) _ _ s
  refine wpAny_bind (wpAny_seqItems eS rfl ?_)
  show wpAny _ X.A.in1 (tryCatch (pyNext (.ref J)) _ >>= _) _ _ s
  refine wpAny_bind (wpAny_tryCatch (W.item 0 s _ _ (by rw [esz]; exact hne) ⟨hit, pl.isList⟩ fun v h' tk hP hst hk => ?_))
  have I1 := iter_at (tk := tk) (l := l) (j := 0) I hfp hk
  have xj : xs[0]? = some xs[0] := List.getElem?_eq_getElem hne
  obtain ⟨v0, ev0, rv0⟩ := rl.get xj
  have hv0 : v0 = v := by
    have hP : lts[0]? = some v := by simpa using hP
    rw [ev0] at hP; exact Option.some.inj hP
  subst hv0
  obtain ⟨oJ, eJ, cJ, dJ⟩ := hst.1
  have hpin : ∀ b ∈ [J], ∃ o, h'.get? b = some o ∧ ∀ v, o.data ≠ .cell v := fun b hb => by
    obtain rfl : b = J := by simpa using hb
    exact ⟨oJ, eJ, fun v z => by rw [dJ] at z; cases z⟩
  have I2 := I1.inn.pinned (fp := [J]) (fun b hb => by
    obtain rfl : b = J := by simpa using hb
    exact hfp) hpin
  show wpAny _ X.A.in1 (tryCatch (holding [v0] (call (.ref q) [v0])) _ >>= _) _ _ _
  refine wpAny_bind (wpAny_tryCatch (wpAny_holding (wpAny_mono (turn 0 _ v0 xj rv0 _ _ _ I2 sm) (fun y s3 he => ?_) fun _ _ z => z.elim)))
  obtain ⟨yv, H3, I3, ry, rfl, sm23⟩ := he
  have sm3 := sm.trans sm23
  have hx3 := sm23 _ _ hx
  obtain ⟨its3, n3, rv3, eS3⟩ := lst_at I3 hx3
  have pJ := I3.pin (J, oJ) (List.mem_append_right _ (List.mem_append_right _ (mem_pinsAt (by simp) eJ)))
  have nJ3 : H3 J = none := pJ.2.1
  have it3 : s3.heap.IsListIter J l (0 + 1) := ⟨oJ, pJ.1, cJ, dJ⟩
  cases rv3
  show wpAny _ X.A.in1 (updateSeq S (fun _ => #[v0, y]) >>= _) _ _ _
  refine wpAny_bind ?_
  refine wpAny_updateSeq eS3 rfl ?_
  rw [again]
  have I4 := put_lst (ys := [xs[0], kv 0]) (jts := [v0, y]) (I3.unpinned.out ok) hx3 eS3 (by show 2 ≤ 2; omega) (.cons rv0 (.cons ry .nil))
  refine wpAny_pure ⟨plainId_quiet PySem.F.plain_min_loop _, loop_minK ok hc ob hS hl cmp turn fin _ 0 0 _ _ _ rfl hne I4 (fun b o e => ?_) upd_same ?_ (fp_keep hfp ?_) nSJ nlJ xj (Nat.le_refl _) (fun k hk => ?_) fun k hk => ?_⟩
  · rw [upd_ne (ne_of_none e hS)]; exact sm3 b o e
  · obtain ⟨oJ, e1, e2, e3⟩ := it3
    exact ⟨oJ, (Heap.get?_update_other _ _ nSJ).trans e1, e2, e3⟩
  · rw [upd_ne nSJ.symm]; exact nJ3
  · obtain rfl : k = 0 := by omega
    exact ob.irr _ hne
  · omega

theorem loop_maxK {J S l : Addr} {xs : List V} {kv : Nat → V} {bt : Nat → Nat → Bool} {Hs : Hp} {kw : List (Str × Value)} {q : Addr}
    (ok : X.Ok) (hc : X.calm = true) (ob : Ord2 bt xs.length) (hS : Hs S = none) (hl : Hs l = some (.lst xs))
    (cmp : ∀ i j vi vj, i < xs.length → j < xs.length → RelV (kv i) vi → RelV (kv j) vj → ∀ (p : List (Addr × Obj)) (s : Shared) (H : Hp) (Q : Value → Shared → Prop) (E : Value → Shared → Prop), Inv X.inn p σ H s → Same Hs H → Q (.bool (bt i j)) s → wpAny (model X.prog X.w) X.A.in1 (richCompare .Gt vi vj) Q E s)
    (turn : ∀ i x u, xs[i]? = some x → RelV x u → ∀ (p : List (Addr × Obj)) (s : Shared) (H : Hp), Inv X.inn p σ H s → Same Hs H → wpAny (model X.prog X.w) X.A.in1 (call (.ref q) [u]) (EP X.inn p σ fun y H' => y = kv i ∧ Same H H') (fun _ _ => False) s)
    (fin : ∀ i x u s H, xs[i]? = some x → RelV x u → FirstB bt xs.length i → Inv X pins σ H s → Same Hs H → R (.ok (.ret u)) s) :
    ∀ (r j i : Nat) (s : Shared) (H : Hp) (x : V), xs.length - (j + 1) = r → j + 1 ≤ xs.length → Inv X pins σ H s → Same Hs H → H S = some (.lst [x, kv i]) → s.heap.IsListIter J l (j + 1) → FpOk X pins H J → S ≠ J → l ≠ J → xs[i]? = some x →
      i ≤ j → (∀ k, k ≤ j → bt k i = false) → (∀ k, k < i → bt i k = true) → codeAny (model X.prog X.w) X.A (.builtin "max.loop" ⟨[.ref J, .ref q, .ref S], kw⟩) R s := by
  have again : (toString "max" ++ toString ".loop" : String) = "max.loop" := by decide
  intro r
  induction r with
  | zero =>
    intro j i s H x er ej I sm hx hit hfp nSJ nlJ hi hij b1 b2
    have ein : j + 1 = xs.length := by omega
    obtain ⟨its, n, rv, eS⟩ := lst_at I hx
    obtain ⟨lts, rl, pl, _⟩ := I.list (SqL.of (sm _ _ hl))
    have W := Walks.list (prog := X.prog) (w := X.w) (A := X.A.in1) (ok.hd hc) J l nlJ lts.toArray
    have esz : lts.toArray.size = xs.length := by rw [List.size_toArray]; exact rl.length.symm
    cases rv with
    | cons r1 rv2 =>
      cases rv2 with
      | cons r2 rv3 =>
        cases rv3
        refine codeAny_builtin PySem.F.entry_max_loop ?_
        rw [Around.under_plainId PySem.F.plain_max_loop _]
        show wpAny _ X.A.in1 (seqItems? (.ref S) >>= _) _ _ s
        refine wpAny_bind (wpAny_seqItems eS rfl ?_)
        show wpAny _ X.A.in1 (tryCatch (pyNext (.ref J)) _ >>= _) _ _ s
        refine wpAny_bind (wpAny_tryCatch (W.done s _ _ ⟨by rw [esz, ← ein]; exact hit, pl.isList⟩ fun h' tk hk => ?_))
        have I1 := iter_at (tk := tk) (l := l) (j := j) I hfp hk
        have eS1 := hk S _ (by simpa using nSJ) eS
        show wpAny _ X.A.in1 (updateSeq S (fun _ => #[]) >>= _) _ _ _
        refine wpAny_bind ?_
        refine wpAny_updateSeq eS1 rfl (wpAny_bind (wpAny_letGo (wpAny_pure ?_)))
        refine fin i x _ _ _ hi r1 ⟨(List.getElem?_eq_some_iff.mp hi).1, fun k hk => b1 k (by omega), b2⟩ (put_lst (jts := []) I1 hx eS1 (by show 0 ≤ 2; omega) .nil) ?_
        intro b o e
        rw [upd_ne (ne_of_none e hS)]; exact sm b o e
  | succ r ih =>
    intro j i s H x er ej I sm hx hit hfp nSJ nlJ hi hij b1 b2
    have elt : j + 1 < xs.length := by omega
    have ilt : i < xs.length := by omega
    obtain ⟨its, n, rv, eS⟩ := lst_at I hx
    obtain ⟨lts, rl, pl, _⟩ := I.list (SqL.of (sm _ _ hl))
    have W := Walks.list (prog := X.prog) (w := X.w) (A := X.A.in1) (ok.hd hc) J l nlJ lts.toArray
    have esz : lts.toArray.size = xs.length := by rw [List.size_toArray]; exact rl.length.symm
    cases rv with
    | cons r1 rv2 =>
      cases rv2 with
      | cons r2 rv3 =>
        cases rv3
        refine codeAny_builtin PySem.F.entry_max_loop ?_
        rw [Around.under_plainId PySem.F.plain_max_loop _]
        show wpAny _ X.A.in1 (seqItems? (.ref S) >>= _) _ _ s
        refine wpAny_bind (wpAny_seqItems eS rfl ?_)
        show wpAny _ X.A.in1 (tryCatch (pyNext (.ref J)) _ >>= _) _ _ s
        refine wpAny_bind (wpAny_tryCatch (W.item (j + 1) s _ _ (by rw [esz]; exact elt) ⟨hit, pl.isList⟩ fun v h' tk hP hst hk => ?_))
        have I1 := iter_at (tk := tk) (l := l) (j := j) I hfp hk
        have xj : xs[j + 1]? = some xs[j + 1] := List.getElem?_eq_getElem elt
        obtain ⟨v0, ev0, rv0⟩ := rl.get xj
        have hv0 : v0 = v := by
          have hP : lts[j + 1]? = some v := by simpa using hP
          rw [ev0] at hP; exact Option.some.inj hP
        subst hv0
        obtain ⟨oJ, eJ, cJ, dJ⟩ := hst.1
        have hpin : ∀ b ∈ [J], ∃ o, h'.get? b = some o ∧ ∀ v, o.data ≠ .cell v := fun b hb => by
          obtain rfl : b = J := by simpa using hb
          exact ⟨oJ, eJ, fun v z => by rw [dJ] at z; cases z⟩
        have I2 := I1.inn.pinned (fp := [J]) (fun b hb => by
          obtain rfl : b = J := by simpa using hb
          exact hfp) hpin
        show wpAny _ X.A.in1 (tryCatch (holding [v0] (call (.ref q) [v0])) _ >>= _) _ _ _
        refine wpAny_bind (wpAny_tryCatch (wpAny_holding (wpAny_mono (turn (j + 1) _ v0 xj rv0 _ _ _ I2 sm) (fun y s3 he => ?_) fun _ _ z => z.elim)))
        obtain ⟨yv, H3, I3, ry, rfl, sm23⟩ := he
        have sm3 := sm.trans sm23
        have hx3 := sm23 _ _ hx
        obtain ⟨its3, n3, rv3, eS3⟩ := lst_at I3 hx3
        have pJ := I3.pin (J, oJ) (List.mem_append_right _ (List.mem_append_right _ (mem_pinsAt (by simp) eJ)))
        have nJ3 : H3 J = none := pJ.2.1
        have it3 : s3.heap.IsListIter J l (j + 1 + 1) := ⟨oJ, pJ.1, cJ, dJ⟩
        cases rv3 with
        | cons q1 rv4 =>
        cases rv4 with
        | cons q2 rv5 =>
        cases rv5
        show wpAny _ X.A.in1 (tryCatch (holding [v0, y] (richCompare .Gt y _ >>= _)) _ >>= _) _ _ _
        refine wpAny_bind (wpAny_tryCatch (wpAny_holding (wpAny_bind (cmp (j + 1) i _ _ elt ilt ry r2 _ _ _ _ _ I3 sm3 ?_))))
        refine wpAny_bind (wpAny_holding (wpAny_truthy_bool ?_))
        refine wpAny_bind (wpAny_letGo (wpAny_pure ?_))
        cases hb : bt (j + 1) i with
        | true =>
          simp only [if_true]
          refine wpAny_bind ?_
          refine wpAny_updateSeq eS3 rfl (wpAny_bind (wpAny_letGo ?_))
          rw [again]
          have I4 := put_lst (ys := [xs[j + 1], kv (j + 1)]) (jts := [v0, y]) (I3.unpinned.out ok) hx3 eS3 (by show 2 ≤ 2; omega) (.cons rv0 (.cons ry .nil))
          refine wpAny_pure ⟨plainId_quiet PySem.F.plain_max_loop _, ih (j + 1) (j + 1) _ _ _ (by omega) elt I4 (fun b o e => ?_) upd_same ?_ (fp_keep hfp ?_) nSJ nlJ xj (Nat.le_refl _) (fun k hk => ?_) fun k hk => ?_⟩
          · rw [upd_ne (ne_of_none e hS)]; exact sm3 b o e
          · obtain ⟨oJ, e1, e2, e3⟩ := it3
            exact ⟨oJ, (Heap.get?_update_other _ _ nSJ).trans e1, e2, e3⟩
          · rw [upd_ne nSJ.symm]; exact nJ3
          · by_cases e : k = j + 1
            · subst e; exact ob.irr _ elt
            · exact ob.tr2 k i (j + 1) (by omega) ilt elt (b1 k (by omega)) (ob.asy _ _ elt ilt hb)
          · exact ob.tr1 (j + 1) i k elt ilt (by omega) hb (b1 k (by omega))
        | false =>
          simp only [Bool.false_eq_true, if_false]
          refine wpAny_bind (wpAny_letGo ?_)
          rw [again]
          refine wpAny_pure ⟨plainId_quiet PySem.F.plain_max_loop _, ih (j + 1) i _ _ x (by omega) elt (I3.unpinned.out ok) sm3 hx3 it3 (fp_keep hfp nJ3) nSJ nlJ hi (by omega) (fun k hk => ?_) b2⟩
          by_cases e : k = j + 1
          · subst e; exact hb
          · exact b1 k (by omega)

theorem first_maxK {J S l : Addr} {xs : List V} {kv : Nat → V} {bt : Nat → Nat → Bool} {Hs : Hp} {kw : List (Str × Value)} {q : Addr}
    (ok : X.Ok) (hc : X.calm = true) (ob : Ord2 bt xs.length) (hne : 0 < xs.length) (hS : Hs S = none) (hl : Hs l = some (.lst xs))
    (cmp : ∀ i j vi vj, i < xs.length → j < xs.length → RelV (kv i) vi → RelV (kv j) vj → ∀ (p : List (Addr × Obj)) (s : Shared) (H : Hp) (Q : Value → Shared → Prop) (E : Value → Shared → Prop), Inv X.inn p σ H s → Same Hs H → Q (.bool (bt i j)) s → wpAny (model X.prog X.w) X.A.in1 (richCompare .Gt vi vj) Q E s)
    (turn : ∀ i x u, xs[i]? = some x → RelV x u → ∀ (p : List (Addr × Obj)) (s : Shared) (H : Hp), Inv X.inn p σ H s → Same Hs H → wpAny (model X.prog X.w) X.A.in1 (call (.ref q) [u]) (EP X.inn p σ fun y H' => y = kv i ∧ Same H H') (fun _ _ => False) s)
    (fin : ∀ i x u s H, xs[i]? = some x → RelV x u → FirstB bt xs.length i → Inv X pins σ H s → Same Hs H → R (.ok (.ret u)) s) {s : Shared} {H : Hp}
    (I : Inv X pins σ H s) (sm : Same Hs H) (hx : H S = some (.lst [])) (hit : s.heap.IsListIter J l 0) (hfp : FpOk X pins H J) (nSJ : S ≠ J) (nlJ : l ≠ J) :
    codeAny (model X.prog X.w) X.A (.builtin "max.loop" ⟨[.ref J, .ref q, .ref S], kw⟩) R s := by
  have again : (toString "max" ++ toString ".loop" : String) = "max.loop" := by decide
  obtain ⟨its, n, rv, eS⟩ := lst_at I hx
  obtain ⟨lts, rl, pl, _⟩ := I.list (SqL.of (sm _ _ hl))
  have W := Walks.list (prog := X.prog) (w := X.w) (A := X.A.in1) (ok.hd hc) J l nlJ lts.toArray
  have esz : lts.toArray.size = xs.length := by rw [List.size_toArray]; exact rl.length.symm
  cases rv
  refine codeAny_builtin PySem.F.entry_max_loop ?_
  rw [Around.under_plainId PySem.F.plain_max_loop _]
  show wpAny _ X.A.in1 (seqItems? (.ref S) >>= _) _ _ s
  refine wpAny_bind (wpAny_seqItems eS rfl ?_)
  show wpAny _ X.A.in1 (tryCatch (pyNext (.ref J)) _ >>= _) _ _ s
  refine wpAny_bind (wpAny_tryCatch (W.item 0 s _ _ (by rw [esz]; exact hne) ⟨hit, pl.isList⟩ fun v h' tk hP hst hk => ?_))
  have I1 := iter_at (tk := tk) (l := l) (j := 0) I hfp hk
  have xj : xs[0]? = some xs[0] := List.getElem?_eq_getElem hne
  obtain ⟨v0, ev0, rv0⟩ := rl.get xj
  have hv0 : v0 = v := by
    have hP : lts[0]? = some v := by simpa using hP
    rw [ev0] at hP; exact Option.some.inj hP
  subst hv0
  obtain ⟨oJ, eJ, cJ, dJ⟩ := hst.1
  have hpin : ∀ b ∈ [J], ∃ o, h'.get? b = some o ∧ ∀ v, o.data ≠ .cell v := fun b hb => by
    obtain rfl : b = J := by simpa using hb
    exact ⟨oJ, eJ, fun v z => by rw [dJ] at z; cases z⟩
  have I2 := I1.inn.pinned (fp := [J]) (fun b hb => by
    obtain rfl : b = J := by simpa using hb
    exact hfp) hpin
  show wpAny _ X.A.in1 (tryCatch (holding [v0] (call (.ref q) [v0])) _ >>= _) _ _ _
  refine wpAny_bind (wpAny_tryCatch (wpAny_holding (wpAny_mono (turn 0 _ v0 xj rv0 _ _ _ I2 sm) (fun y s3 he => ?_) fun _ _ z => z.elim)))
  obtain ⟨yv, H3, I3, ry, rfl, sm23⟩ := he
  have sm3 := sm.trans sm23
  have hx3 := sm23 _ _ hx
  obtain ⟨its3, n3, rv3, eS3⟩ := lst_at I3 hx3
  have pJ := I3.pin (J, oJ) (List.mem_append_right _ (List.mem_append_right _ (mem_pinsAt (by simp) eJ)))
  have nJ3 : H3 J = none := pJ.2.1
  have it3 : s3.heap.IsListIter J l (0 + 1) := ⟨oJ, pJ.1, cJ, dJ⟩
  cases rv3
  show wpAny _ X.A.in1 (updateSeq S (fun _ => #[v0, y]) >>= _) _ _ _
  refine wpAny_bind ?_
  refine wpAny_updateSeq eS3 rfl ?_
  rw [again]
  have I4 := put_lst (ys := [xs[0], kv 0]) (jts := [v0, y]) (I3.unpinned.out ok) hx3 eS3 (by show 2 ≤ 2; omega) (.cons rv0 (.cons ry .nil))
  refine wpAny_pure ⟨plainId_quiet PySem.F.plain_max_loop _, loop_maxK ok hc ob hS hl cmp turn fin _ 0 0 _ _ _ rfl hne I4 (fun b o e => ?_) upd_same ?_ (fp_keep hfp ?_) nSJ nlJ xj (Nat.le_refl _) (fun k hk => ?_) fun k hk => ?_⟩
  · rw [upd_ne (ne_of_none e hS)]; exact sm3 b o e
  · obtain ⟨oJ, e1, e2, e3⟩ := it3
    exact ⟨oJ, (Heap.get?_update_other _ _ nSJ).trans e1, e2, e3⟩
  · rw [upd_ne nSJ.symm]; exact nJ3
  · obtain rfl : k = 0 := by omega
    exact ob.irr _ hne
  · omega

theorem loop_maxN {J S l : Addr} {xs : List V} {kv : Nat → V} {bt : Nat → Nat → Bool} {Hs : Hp} {kw : List (Str × Value)}
    (ok : X.Ok) (hc : X.calm = true) (ob : Ord2 bt xs.length) (hS : Hs S = none) (hl : Hs l = some (.lst xs))
    (cmp : ∀ i j vi vj, i < xs.length → j < xs.length → RelV (kv i) vi → RelV (kv j) vj → ∀ (p : List (Addr × Obj)) (s : Shared) (H : Hp) (Q : Value → Shared → Prop) (E : Value → Shared → Prop), Inv X.inn p σ H s → Same Hs H → Q (.bool (bt i j)) s → wpAny (model X.prog X.w) X.A.in1 (richCompare .Gt vi vj) Q E s)
    (turn : ∀ i x, xs[i]? = some x → kv i = x)
    (fin : ∀ i x u s H, xs[i]? = some x → RelV x u → FirstB bt xs.length i → Inv X pins σ H s → Same Hs H → R (.ok (.ret u)) s) :
    ∀ (r j i : Nat) (s : Shared) (H : Hp) (x : V), xs.length - (j + 1) = r → j + 1 ≤ xs.length → Inv X pins σ H s → Same Hs H → H S = some (.lst [x, kv i]) → s.heap.IsListIter J l (j + 1) → FpOk X pins H J → S ≠ J → l ≠ J → xs[i]? = some x →
      i ≤ j → (∀ k, k ≤ j → bt k i = false) → (∀ k, k < i → bt i k = true) → codeAny (model X.prog X.w) X.A (.builtin "max.loop" ⟨[.ref J, .none, .ref S], kw⟩) R s := by
  have again : (toString "max" ++ toString ".loop" : String) = "max.loop" := by decide
  intro r
  induction r with
  | zero =>
    intro j i s H x er ej I sm hx hit hfp nSJ nlJ hi hij b1 b2
    have ein : j + 1 = xs.length := by omega
    obtain ⟨its, n, rv, eS⟩ := lst_at I hx
    obtain ⟨lts, rl, pl, _⟩ := I.list (SqL.of (sm _ _ hl))
    have W := Walks.list (prog := X.prog) (w := X.w) (A := X.A.in1) (ok.hd hc) J l nlJ lts.toArray
    have esz : lts.toArray.size = xs.length := by rw [List.size_toArray]; exact rl.length.symm
    cases rv with
    | cons r1 rv2 =>
      cases rv2 with
      | cons r2 rv3 =>
        cases rv3
        refine codeAny_builtin PySem.F.entry_max_loop ?_
        rw [Around.under_plainId PySem.F.plain_max_loop _]
        show wpAny _ X.A.in1 (seqItems? (.ref S) >>= _) _ _ s
        refine wpAny_bind (wpAny_seqItems eS rfl ?_)
        show wpAny _ X.A.in1 (tryCatch (pyNext (.ref J)) _ >>= _) _ _ s
        refine wpAny_bind (wpAny_tryCatch (W.done s _ _ ⟨by rw [esz, ← ein]; exact hit, pl.isList⟩ fun h' tk hk => ?_))
        have I1 := iter_at (tk := tk) (l := l) (j := j) I hfp hk
        have eS1 := hk S _ (by simpa using nSJ) eS
        show wpAny _ X.A.in1 (updateSeq S (fun _ => #[]) >>= _) _ _ _
        refine wpAny_bind ?_
        refine wpAny_updateSeq eS1 rfl (wpAny_bind (wpAny_letGo (wpAny_pure ?_)))
        refine fin i x _ _ _ hi r1 ⟨(List.getElem?_eq_some_iff.mp hi).1, fun k hk => b1 k (by omega), b2⟩ (put_lst (jts := []) I1 hx eS1 (by show 0 ≤ 2; omega) .nil) ?_
        intro b o e
        rw [upd_ne (ne_of_none e hS)]; exact sm b o e
  | succ r ih =>
    intro j i s H x er ej I sm hx hit hfp nSJ nlJ hi hij b1 b2
    have elt : j + 1 < xs.length := by omega
    have ilt : i < xs.length := by omega
    obtain ⟨its, n, rv, eS⟩ := lst_at I hx
    obtain ⟨lts, rl, pl, _⟩ := I.list (SqL.of (sm _ _ hl))
    have W := Walks.list (prog := X.prog) (w := X.w) (A := X.A.in1) (ok.hd hc) J l nlJ lts.toArray
    have esz : lts.toArray.size = xs.length := by rw [List.size_toArray]; exact rl.length.symm
    cases rv with
    | cons r1 rv2 =>
      cases rv2 with
      | cons r2 rv3 =>
        cases rv3
        refine codeAny_builtin PySem.F.entry_max_loop ?_
        rw [Around.under_plainId PySem.F.plain_max_loop _]
        show wpAny _ X.A.in1 (seqItems? (.ref S) >>= _) _ _ s
        refine wpAny_bind (wpAny_seqItems eS rfl ?_)
        show wpAny _ X.A.in1 (tryCatch (pyNext (.ref J)) _ >>= _) _ _ s
        refine wpAny_bind (wpAny_tryCatch (W.item (j + 1) s _ _ (by rw [esz]; exact elt) ⟨hit, pl.isList⟩ fun v h' tk hP hst hk => ?_))
        have I1 := iter_at (tk := tk) (l := l) (j := j) I hfp hk
        have xj : xs[j + 1]? = some xs[j + 1] := List.getElem?_eq_getElem elt
        obtain ⟨v0, ev0, rv0⟩ := rl.get xj
        have hv0 : v0 = v := by
          have hP : lts[j + 1]? = some v := by simpa using hP
          rw [ev0] at hP; exact Option.some.inj hP
        subst hv0
        obtain ⟨oJ, eJ, cJ, dJ⟩ := hst.1
        have hpin : ∀ b ∈ [J], ∃ o, h'.get? b = some o ∧ ∀ v, o.data ≠ .cell v := fun b hb => by
          obtain rfl : b = J := by simpa using hb
          exact ⟨oJ, eJ, fun v z => by rw [dJ] at z; cases z⟩
        have I2 := I1.inn.pinned (fp := [J]) (fun b hb => by
          obtain rfl : b = J := by simpa using hb
          exact hfp) hpin
        have I3 := I2
        have sm3 := sm
        have hx3 := hx
        have eS3 := hk S _ (by simpa using nSJ) eS
        have nJ3 : H J = none := hfp.1
        have it3 : h'.IsListIter J l (j + 1 + 1) := hst.1
        show wpAny _ X.A.in1 (tryCatch (holding [v0, v0] (richCompare .Gt v0 _ >>= _)) _ >>= _) _ _ _
        refine wpAny_bind (wpAny_tryCatch (wpAny_holding (wpAny_bind (cmp (j + 1) i _ _ elt ilt (by rw [turn _ _ xj]; exact rv0) r2 _ _ _ _ _ I3 sm3 ?_))))
        refine wpAny_bind (wpAny_holding (wpAny_truthy_bool ?_))
        refine wpAny_bind (wpAny_letGo (wpAny_pure ?_))
        cases hb : bt (j + 1) i with
        | true =>
          simp only [if_true]
          refine wpAny_bind ?_
          refine wpAny_updateSeq eS3 rfl (wpAny_bind (wpAny_letGo ?_))
          rw [again]
          have I4 := put_lst (ys := [xs[j + 1], kv (j + 1)]) (jts := [v0, v0]) (I3.unpinned.out ok) hx3 eS3 (by show 2 ≤ 2; omega) (.cons rv0 (.cons (by rw [turn _ _ xj]; exact rv0) .nil))
          refine wpAny_pure ⟨plainId_quiet PySem.F.plain_max_loop _, ih (j + 1) (j + 1) _ _ _ (by omega) elt I4 (fun b o e => ?_) upd_same ?_ (fp_keep hfp ?_) nSJ nlJ xj (Nat.le_refl _) (fun k hk => ?_) fun k hk => ?_⟩
          · rw [upd_ne (ne_of_none e hS)]; exact sm3 b o e
          · obtain ⟨oJ, e1, e2, e3⟩ := it3
            exact ⟨oJ, (Heap.get?_update_other _ _ nSJ).trans e1, e2, e3⟩
          · rw [upd_ne nSJ.symm]; exact nJ3
          · by_cases e : k = j + 1
            · subst e; exact ob.irr _ elt
            · exact ob.tr2 k i (j + 1) (by omega) ilt elt (b1 k (by omega)) (ob.asy _ _ elt ilt hb)
          · exact ob.tr1 (j + 1) i k elt ilt (by omega) hb (b1 k (by omega))
        | false =>
          simp only [Bool.false_eq_true, if_false]
          refine wpAny_bind (wpAny_letGo ?_)
          rw [again]
          refine wpAny_pure ⟨plainId_quiet PySem.F.plain_max_loop _, ih (j + 1) i _ _ x (by omega) elt (I3.unpinned.out ok) sm3 hx3 it3 (fp_keep hfp nJ3) nSJ nlJ hi (by omega) (fun k hk => ?_) b2⟩
          by_cases e : k = j + 1
          · subst e; exact hb
          · exact b1 k (by omega)

theorem first_maxN {J S l : Addr} {xs : List V} {kv : Nat → V} {bt : Nat → Nat → Bool} {Hs : Hp} {kw : List (Str × Value)}
    (ok : X.Ok) (hc : X.calm = true) (ob : Ord2 bt xs.length) (hne : 0 < xs.length) (hS : Hs S = none) (hl : Hs l = some (.lst xs))
    (cmp : ∀ i j vi vj, i < xs.length → j < xs.length → RelV (kv i) vi → RelV (kv j) vj → ∀ (p : List (Addr × Obj)) (s : Shared) (H : Hp) (Q : Value → Shared → Prop) (E : Value → Shared → Prop), Inv X.inn p σ H s → Same Hs H → Q (.bool (bt i j)) s → wpAny (model X.prog X.w) X.A.in1 (richCompare .Gt vi vj) Q E s)
    (turn : ∀ i x, xs[i]? = some x → kv i = x)
    (fin : ∀ i x u s H, xs[i]? = some x → RelV x u → FirstB bt xs.length i → Inv X pins σ H s → Same Hs H → R (.ok (.ret u)) s) {s : Shared} {H : Hp}
    (I : Inv X pins σ H s) (sm : Same Hs H) (hx : H S = some (.lst [])) (hit : s.heap.IsListIter J l 0) (hfp : FpOk X pins H J) (nSJ : S ≠ J) (nlJ : l ≠ J) :
    codeAny (model X.prog X.w) X.A (.builtin "max.loop" ⟨[.ref J, .none, .ref S], kw⟩) R s := by
  have again : (toString "max" ++ toString ".loop" : String) = "max.loop" := by decide
  obtain ⟨its, n, rv, eS⟩ := lst_at I hx
  obtain ⟨lts, rl, pl, _⟩ := I.list (SqL.of (sm _ _ hl))
  have W := Walks.list (prog := X.prog) (w := X.w) (A := X.A.in1) (ok.hd hc) J l nlJ lts.toArray
  have esz : lts.toArray.size = xs.length := by rw [List.size_toArray]; exact rl.length.symm
  cases rv
  refine codeAny_builtin PySem.F.entry_max_loop ?_
  rw [Around.under_plainId PySem.F.plain_max_loop _]
  show wpAny _ X.A.in1 (seqItems? (.ref S) >>= _) _ _ s
  refine wpAny_bind (wpAny_seqItems eS rfl ?_)
  show wpAny _ X.A.in1 (tryCatch (pyNext (.ref J)) _ >>= _) _ _ s
  refine wpAny_bind (wpAny_tryCatch (W.item 0 s _ _ (by rw [esz]; exact hne) ⟨hit, pl.isList⟩ fun v h' tk hP hst hk => ?_))
  have I1 := iter_at (tk := tk) (l := l) (j := 0) I hfp hk
  have xj : xs[0]? = some xs[0] := List.getElem?_eq_getElem hne
  obtain ⟨v0, ev0, rv0⟩ := rl.get xj
  have hv0 : v0 = v := by
    have hP : lts[0]? = some v := by simpa using hP
    rw [ev0] at hP; exact Option.some.inj hP
  subst hv0
  obtain ⟨oJ, eJ, cJ, dJ⟩ := hst.1
  have hpin : ∀ b ∈ [J], ∃ o, h'.get? b = some o ∧ ∀ v, o.data ≠ .cell v := fun b hb => by
    obtain rfl : b = J := by simpa using hb
    exact ⟨oJ, eJ, fun v z => by rw [dJ] at z; cases z⟩
  have I2 := I1.inn.pinned (fp := [J]) (fun b hb => by
    obtain rfl : b = J := by simpa using hb
    exact hfp) hpin
  have I3 := I2
  have sm3 := sm
  have hx3 := hx
  have eS3 := hk S _ (by simpa using nSJ) eS
  have nJ3 : H J = none := hfp.1
  have it3 : h'.IsListIter J l (0 + 1) := hst.1
  show wpAny _ X.A.in1 (updateSeq S (fun _ => #[v0, v0]) >>= _) _ _ _
  refine wpAny_bind ?_
  refine wpAny_updateSeq eS3 rfl ?_
  rw [again]
  have I4 := put_lst (ys := [xs[0], kv 0]) (jts := [v0, v0]) (I3.unpinned.out ok) hx3 eS3 (by show 2 ≤ 2; omega) (.cons rv0 (.cons (by rw [turn _ _ xj]; exact rv0) .nil))
  refine wpAny_pure ⟨plainId_quiet PySem.F.plain_max_loop _, loop_maxN ok hc ob hS hl cmp turn fin _ 0 0 _ _ _ rfl hne I4 (fun b o e => ?_) upd_same ?_ (fp_keep hfp ?_) nSJ nlJ xj (Nat.le_refl _) (fun k hk => ?_) fun k hk => ?_⟩
  · rw [upd_ne (ne_of_none e hS)]; exact sm3 b o e
  · obtain ⟨oJ, e1, e2, e3⟩ := it3
    exact ⟨oJ, (Heap.get?_update_other _ _ nSJ).trans e1, e2, e3⟩
  · rw [upd_ne nSJ.symm]; exact nJ3
  · obtain rfl : k = 0 := by omega
    exact ob.irr _ hne
  · omega
end
end L2

end

section
set_option Elab.async false
set_option linter.all false
set_option maxRecDepth 100000
set_option maxHeartbeats 2000000
namespace HT
open PySem PyProof.Rows
/-- t > u of tuples of ints -/
def lexGt : List Int → List Int → Bool
  | [], [] => false
  | [], _ :: _ => false
  | _ :: _, [] => true
  | x :: xs, y :: ys => if x = y then lexGt xs ys else decide (x > y)
theorem lexGt_cons (x y : Int) (xs ys : List Int) : lexGt (x :: xs) (y :: ys) = if x = y then lexGt xs ys else decide (x > y) := rfl
theorem lexGt_nil_nil : lexGt [] [] = false := rfl
theorem lexGt_nil_cons (y : Int) (ys : List Int) : lexGt [] (y :: ys) = false := rfl
theorem lexGt_cons_nil (x : Int) (xs : List Int) : lexGt (x :: xs) [] = true := rfl
theorem rcGt_int (A : Around) (s : Shared) (a : Int) (t : Tok) (c : Int) (u : Tok) (prog : Program) (w : World) (E : Value → Shared → Prop) (Q : Value → Shared → Prop) (h : Q (.bool (decide (a > c))) s) :
    wpAny (model prog w) A (richCompare .Gt (.int a t) (.int c u)) Q E s :=
  richCompare_gives (op := .Gt) (typeIs_int s _ t) (typeIs_int s _ u) PySem.F.slot_int_gt PySem.F.entry_int_gt (PySem.F.args_int_gt_2 _ _) (gives_int_gt _ _ t u) (fun x => nomatch x) h
section
open PySem.SeqAt
open PySem.AutoSeq1 (wpAny_loadPart')
open PySem.MeetsSeq PySem.MeetsSeq2 PySem.MeetsSeq3
theorem tuple_gt_ints (l b : Addr) (items items2 : Array Value) (n n2 : Nat) (dd dd2 : Option Addr) (sl sl2 : Array (Option Value)) (ns ms : List Int) (hi : IntsAre items.toList ns) (hj : IntsAre items2.toList ms) :
    Meets (Builtin.«tuple.__gt__» ⟨[.ref l, .ref b], []⟩)
      (fun _ R s => s.heap.get? l = some { cls := .type "tuple", dict := dd, data := .seq items n, slots := sl } ∧ s.heap.get? b = some { cls := .type "tuple", dict := dd2, data := .seq items2 n2, slots := sl2 } ∧
        R (.ok (.ret (.bool (lexGt ns ms)))) s) :=
  .of_wp fun prog w A R s h => by
    obtain ⟨hp, g, d, tk, os⟩ := s; obtain ⟨hl, hb, h⟩ := h
    have f2 := AutoSeq1.sub_tuple_tuple
    have z1 : items.size = ns.length := by rw [← hi.length]; simp
    have z2 : items2.size = ms.length := by rw [← hj.length]; simp
    wp_walk using wpAny_loadPart' hl, wpAny_loadPart' hb, wpAny_forIn_list _ (fun rest b s' => b.1 = none ∧ s' = ⟨hp, g, d, tk, os⟩ ∧ ∃ (vs ws : List Value) (ns' ms' : List Int), rest = vs.zip ws ∧
      IntsAre vs ns' ∧ IntsAre ws ms' ∧ ns'.length + items2.size = ms'.length + items.size ∧ R (.ok (.ret (.bool (lexGt ns' ms')))) ⟨hp, g, d, tk, os⟩) _
    case turn =>
      rintro ⟨y, x⟩ rest b s' ⟨hb', rfl, vs, ws, ns', ms', hz, hvi, hwi, hlen, hR⟩
      cases hvi with
      | nil => rw [List.zip_nil_left] at hz; cases hz
      | cons a t hvi' =>
        cases hwi with
        | nil => rw [List.zip_nil_right] at hz; cases hz
        | cons c u hwi' =>
          rw [List.zip_cons_cons] at hz
          injection hz with hyx hrest
          injection hyx with hy hx
          subst hy hx
          rw [lexGt_cons] at hR
          simp only [List.length_cons] at hlen
          obtain ⟨e, he, hiff⟩ := eqAt_int A.in1 ⟨hp, g, d, tk, os⟩ a t c u
          refine wpAny_bind (he prog w _ _ ?_)
          cases e with
          | true =>
            rw [if_pos (hiff.mp rfl)] at hR
            wp_walk
            exact ⟨rfl, rfl, _, _, _, _, hrest, hvi', hwi', by omega, hR⟩
          | false =>
            rw [if_neg (fun q => absurd (hiff.mpr q) Bool.false_ne_true)] at hR
            have hri := rcGt_int A.in1 ⟨hp, g, d, tk, os⟩ a t c u prog w
            wp_walk using hri
            exact ⟨_, rfl, by simpa using hR⟩
    case fin =>
      rintro ⟨b1, b2⟩ s' ⟨hb', rfl, vs, ws, ns', ms', hz, hvi, hwi, hlen, hR⟩
      simp only at hb'
      subst hb'
      have hv : lexGt ns' ms' = decide (items2.size < items.size) := by
        cases hvi with
        | nil =>
          cases hwi with
          | nil =>
            simp only [List.length_nil] at hlen
            rw [lexGt_nil_nil]
            exact (decide_eq_false (by omega)).symm
          | cons c u hw =>
            simp only [List.length_nil, List.length_cons] at hlen
            rw [lexGt_nil_cons]
            exact (decide_eq_false (by omega)).symm
        | cons a t hv =>
          cases hwi with
          | nil =>
            simp only [List.length_nil, List.length_cons] at hlen
            rw [lexGt_cons_nil]
            exact (decide_eq_true (by omega)).symm
          | cons c u hw =>
            rw [List.zip_cons_cons] at hz
            cases hz
      rw [hv] at hR
      wp_walk
      exact ⟨_, rfl, by simpa [Builtin.Tuple.tupleCompareSizes] using hR⟩
    case h =>
      exact ⟨rfl, rfl, items.toList, items2.toList, ns, ms, rfl, hi, hj, by omega, h⟩
end
section
variable {prog : Program} {w : World} {A : Around} {E : Value → Shared → Prop} {s : Shared}
theorem gt_tupInts {l b : Addr} {items items2 : Array Value} {ns ms : List Int} {Q : Value → Shared → Prop} (hl : IsTup s.heap l items) (hb : IsTup s.heap b items2) (hi : IntsAre items.toList ns) (hj : IntsAre items2.toList ms)
    (hu : A.units < cLine) (h : Q (.bool (lexGt ns ms)) s) : wpAny (model prog w) A (richCompare .Gt (.ref l) (.ref b)) Q E s := by
  obtain ⟨⟨cls, dd, data, sl⟩, ho, hc, n, hd⟩ := id hl
  obtain ⟨⟨cls2, dd2, data2, sl2⟩, ho2, hc2, n2, hd2⟩ := id hb
  simp only at hc hd hc2 hd2
  subst hc hd hc2 hd2
  exact richCompare_meets_room (op := .Gt) ⟨_, ho, rfl⟩ ⟨_, ho2, rfl⟩ PySem.F.slot_tuple_gt PySem.F.entry_tuple_gt (PySem.F.args_tuple_gt_2 _ _) (tuple_gt_ints l b items items2 n n2 dd dd2 sl sl2 ns ms hi hj)
    ⟨ho, ho2, show Value.bool (lexGt ns ms) ≠ Value.notImplemented ∧ Q (.bool (lexGt ns ms)) s from ⟨(fun x => nomatch x), h⟩⟩ hu
end
end HT

end

section
set_option Elab.async false
set_option linter.all false
set_option maxRecDepth 100000
set_option maxHeartbeats 2000000
namespace L2
open PySem PySem.Spec PyProof.Rows
/-- min(xs, key=lambda x: ..), max: xs a tracked list, the key an int that its call tells, all as it was behind it -/
def tKey (P : Addr) (qual : Str) (bt : Int → Int → Bool) (tl te : TE) (sg : St → V → St) : TE := fun σ H Q => tl σ H fun x H1 => ∃ a xs, x = .ref a ∧ H1 a = some (.lst xs) ∧ 0 < xs.length ∧ TabAt P qual H1 ∧
  ∀ H2, SameT P H1 H2 → TabAt P qual H2 → ∃ kf : Nat → Int, (∀ i x, xs[i]? = some x → ∀ H3, Same H2 H3 → te (sg σ x) H3 fun y H4 => y = .int (kf i) ∧ Same H3 H4) ∧
    ∀ i x H3, xs[i]? = some x → FirstB (fun i j => bt (kf i) (kf j)) xs.length i → Same H2 H3 → Q x H3
/-- max(xs, default=t) of tuples of ints -/
def rMaxT : List V → List V → Hp → VK → Prop := fun vs zs H Q => ∃ (a : Addr) (xs : List V) (z : V) (ks : Nat → List Int), vs = [.ref a] ∧ zs = [z] ∧ H a = some (.lst xs) ∧
  (∀ i x, xs[i]? = some x → ∃ p, x = .ref p ∧ H p = some (.tup ((ks i).map V.int))) ∧ Ord2 (fun i j => HT.lexGt (ks i) (ks j)) xs.length ∧
  (xs = [] → ∀ H', Same H H' → Q z H') ∧ ∀ i x H', xs[i]? = some x → FirstB (fun i j => HT.lexGt (ks i) (ks j)) xs.length i → Same H H' → Q x H'
section
variable {X : Cx}
theorem max_key (a v : Value) : argsOk "max" ⟨[a], [(Str.ofString "key", v)]⟩ := by unfold argsOk; kernel_rfl
theorem min_key (a v : Value) : argsOk "min" ⟨[a], [(Str.ofString "key", v)]⟩ := by unfold argsOk; kernel_rfl
theorem max_dfl (a v : Value) : argsOk "max" ⟨[a], [(Str.ofString "default", v)]⟩ := by unfold argsOk; kernel_rfl

theorem call_minK {pins : List (Addr × Obj)} {s : Shared} {σ : St} {H : Hp} {E : Value → Shared → Prop} {Q : VK} {a q : Addr} {xs : List V} {kf : Nat → Int} (I : Inv X pins σ H s) (hc : X.calm = true) (hl : H a = some (.lst xs)) (hne : 0 < xs.length)
    (turn : ∀ i x u, xs[i]? = some x → RelV x u → ∀ (p : List (Addr × Obj)) (s : Shared) (H' : Hp), Inv X.inn p σ H' s → Same H H' → wpAny (model X.prog X.w) X.A.in1 (call (.ref q) [u]) (EP X.inn p σ fun y H2 => y = .int (kf i) ∧ Same H' H2) (fun _ _ => False) s)
    (fin : ∀ i x H', xs[i]? = some x → FirstB (fun i j => decide (kf i < kf j)) xs.length i → Same H H' → Q x H') :
    wpAny (model X.prog X.w) X.A (call (.builtin "min") [.ref a] [(Str.ofString "key", .ref q)]) (EP X pins σ Q) E s := by
  have again : (toString "min" ++ toString ".loop" : String) = "min.loop" := by decide
  refine kmk_tree PySem.F.kind_min PySem.F.plain_min PySem.F.entry_min (min_key _ _) ?_
  show wpAny _ X.A.in1 (Builtin.Builtins.bindParams "min" ["key", "default"] 0 ⟨[], [(Str.ofString "key", .ref q)]⟩ >>= _) _ _ s
  refine wpAny_bind (wpAny_of_eq (show _ = pure [some (Value.ref q), none] from rfl) ?_)
  refine wpAny_bind (wpAny_pure ?_)
  obtain ⟨lts, rl, pl, _⟩ := I.list (SqL.of hl)
  refine wpAny_bind (wpAny_pyIter_list pl.isList ?_)
  generalize hJ : s.heap.objs.size = J
  have nJ : H J = none := I.hok.fresh (Nat.le_of_eq hJ)
  have fJ : FpOk X pins H J := I.fpOk (Nat.le_of_eq hJ) nJ
  have I1 := I.kept (t' := s.toks) (h' := s.heap.push { cls := .type "list_iterator", data := .fields #[.ref a, .int 0 0] }) fun b u e => Heap.get?_push_of_some _ e
  have gJ : (s.heap.push { cls := .type "list_iterator", data := .fields #[.ref a, .int 0 0] }).get? J = some { cls := .type "list_iterator", data := .fields #[.ref a, .int 0 0] } := by rw [← hJ]; exact Heap.get?_push_size _ rfl
  have sz1 : (s.heap.push { cls := .type "list_iterator", data := .fields #[.ref a, .int 0 0] }).objs.size = J + 1 := by rw [size_push', hJ]
  generalize hh1 : s.heap.push { cls := .type "list_iterator", data := .fields #[.ref a, .int 0 0] } = h1 at I1 gJ sz1 ⊢
  refine wpAny_bind (wpAny_newList ?_ (Nat.zero_le _))
  rw [again]
  have nS : H (J + 1) = none := I1.hok.fresh (Nat.le_of_eq sz1)
  have I2 := I1.laid (t' := s.toks) (a := J + 1) (o := .lst []) (h' := h1.push { cls := .type "list", data := .seq #[] }) (fun b u e => Heap.get?_push_of_some _ e) (Nat.le_of_eq sz1) ⟨Nat.zero_le _, [], 0, .nil, by
    rw [← sz1]; exact Heap.get?_push_size _ rfl⟩
  have hnJ : J + 1 ≠ J := Nat.succ_ne_self J
  have hla : a ≠ J := ne_of_none hl nJ
  show wpAny _ _ (pure (Fin.again (.builtin "min.loop" ⟨[.ref J, .ref q, .ref h1.objs.size], []⟩))) _ _ _
  rw [sz1]
  refine wpAny_pure ⟨plainId_quiet PySem.F.plain_min_loop _, ?_⟩
  refine first_minK (kv := fun i => .int (kf i)) (Hs := H) I2.ok hc (ord_lt kf xs.length) hne nS hl (fun i j vi vj _ _ ri rj p s3 H3 Q3 E3 I3 _ hQ => ?_) turn (fun i x u s3 H3 e r fb I3 sm => ⟨x, H3, I3, r, fin i x H3 e fb sm⟩) I2 (upd_same_of nS) upd_same ⟨_, Heap.get?_push_of_some _ gJ, rfl, rfl⟩ (fp_keep fJ (by rw [upd_ne hnJ.symm]; exact nJ)) hnJ hla
  exact CmpOf.ints_lt (prog := X.prog) (w := X.w) (A := X.A.in1) (P := fun i v => ∃ t, v = .int (kf i) t) kf (fun i v h => h) i j vi vj s3 Q3 E3 ri rj hQ
theorem pe_minK {c P : Addr} {qual : Str} {le : Expr} {params : Arguments} {body : Expr} {scope : Scope} {p lpos kpos pos : Pos} {tl te : TE} {sg : St → V → St} {x : Str} {N : List Str} (hc : X.calm = true) (hg : Gl X "min") (hm : X.mg "min" = none) (L : LamM X.K X.mg X.base c P) (hcode : X.env.code = .ref c) (hq : X.env.qual ++ "<lambda>" = qual)
    (hdp : X.A.depth < recursionLimit) (hl : PE X le tl) (hk : scope.kind = .function) (hco : scope.isCoroutine = false) (hgen : scope.isGenerator = false) (hcell : ∀ y ∈ scope.names, y.2 ≠ .cell) (hx : scope.names.lookup x = some .local)
    (hfree : ∀ y ∈ scope.names, y.2 = .free → X.env.scope.names.lookup y.1 = some .cell) (hdef : defaultsOf params X.env = ([], []))
    (hbind : ∀ clos pm c ctv u, bindArgs (PySem.W.kla_fn "<lambda>" qual params body scope clos pm (.ref c) ctv) ⟨[u], []⟩ = pure [(x, u)])
    (hlen : ∀ σ v, (sg σ v).length = N.length)
    (hσ : ∀ (σ : St) (xv : V) (i : Nat) (y : Str) (v : V), N[i]? = some y → (sg σ xv)[i]? = some (some v) → (y = x ∧ v = xv) ∨ (scope.names.lookup y = some .free ∧ ∃ j : Nat, X.N[j]? = some y ∧ σ[j]? = some (some v) ∧ X.env.scope.names.lookup y = some .cell))
    (he : ∀ (s : Shared) (H : Hp) (L f c : Addr) (clos : List (Str × Addr)), PE (X.inn.lam s H (PySem.W.envX qual scope L f (.ref c) clos) N) body te)
    (he1 : starEach [le] X.env = [(false, eval le X.env)] := by rfl) :
    PE X (.Call (.Name "min" p) [le] [⟨some "key", .Lambda params body scope lpos, kpos⟩] pos) (tKey P qual (fun i j => decide (i < j)) tl te sg) := by
  intro pins s σ H Q I h
  refine wpAny_Call_Name_kw (ld_blt I hg hm PyProof.Rows.boot_min ?_ (by decide) (by decide))
  have he2 : backTo pos (starEach [le] X.env) = (false, eval le X.env) :: backTo pos (starEach [] X.env) := by rw [he1]; rfl
  refine callWith_kw ?_ he2 (by rw [he2]; rfl) rfl rfl
  refine thn (pa_cons hl pa_nil he1 pos pins s σ H (fun vs H1 => match vs with
    | [x] => ∃ a xs, x = .ref a ∧ H1 a = some (.lst xs) ∧ 0 < xs.length ∧ TabAt P qual H1 ∧ ∀ H2, SameT P H1 H2 → TabAt P qual H2 → ∃ kf : Nat → Int, (∀ i x, xs[i]? = some x → ∀ H3, Same H2 H3 → te (sg σ x) H3 fun y H4 => y = .int (kf i) ∧ Same H3 H4) ∧
        ∀ i x H3, xs[i]? = some x → FirstB (fun i j => decide (kf i < kf j)) xs.length i → Same H2 H3 → Q x H3
    | _ => False) I h) fun us s1 ⟨vs, H1, I1, rv, q1⟩ => ?_
  match vs, rv, q1 with
  | [x0], rv, q1 =>
  obtain ⟨a, xs, rfl, ha, hne, T, q2⟩ := q1
  obtain rfl := Vals.ref1 rv
  show wpAny _ _ (evalAll ((do let v ← eval (.Lambda params body scope lpos) X.env; standAt pos; pure v) :: [])) _ _ s1
  have hfree2 : ∀ y ∈ scope.names, y.2 = .free → ∃ c, X.env.cells.lookup y.1 = some c := fun y hy e => I.ok.has _ (.inl (hfree y hy e))
  refine wpAny_evalAll_cons (wpAny_bind (lam_make I1 T L hcode hq hfree2 hdef fun f c' s2 H2 I2 sT T2 hfn hf hc' => wpAny_bind (wpAny_standAt (wpAny_pure (wpAny_evalAll_nil ?_)))))
  show wpAny _ _ (call (.builtin "min") [.ref a] [(Str.ofString "key", .ref f)]) _ _ s2
  obtain ⟨kf, k1, k2⟩ := q2 H2 sT T2
  have haP : a ≠ P := by
    obtain ⟨ps, t1, _⟩ := T
    exact ne_of ha t1 (by intro z; cases z)
  refine call_minK I2 hc (sT _ _ ha haP) hne (fun i x u e r p s3 H3 I3 sm => ?_) fun i x H3 e fb sm => k2 i x H3 e fb sm
  exact lam_run (X := X.inn) I3 hdp (sm _ _ hf) (sm _ _ hc') hk hco hgen hcell hx hfree2 (fun clos ctv => hbind clos _ _ ctv u) r (hlen σ x) (hσ σ x) (fun s H L clos => he s H L f c' clos) (k1 i x e H3 sm)

theorem call_maxK {pins : List (Addr × Obj)} {s : Shared} {σ : St} {H : Hp} {E : Value → Shared → Prop} {Q : VK} {a q : Addr} {xs : List V} {kf : Nat → Int} (I : Inv X pins σ H s) (hc : X.calm = true) (hl : H a = some (.lst xs)) (hne : 0 < xs.length)
    (turn : ∀ i x u, xs[i]? = some x → RelV x u → ∀ (p : List (Addr × Obj)) (s : Shared) (H' : Hp), Inv X.inn p σ H' s → Same H H' → wpAny (model X.prog X.w) X.A.in1 (call (.ref q) [u]) (EP X.inn p σ fun y H2 => y = .int (kf i) ∧ Same H' H2) (fun _ _ => False) s)
    (fin : ∀ i x H', xs[i]? = some x → FirstB (fun i j => decide (kf i > kf j)) xs.length i → Same H H' → Q x H') :
    wpAny (model X.prog X.w) X.A (call (.builtin "max") [.ref a] [(Str.ofString "key", .ref q)]) (EP X pins σ Q) E s := by
  have again : (toString "max" ++ toString ".loop" : String) = "max.loop" := by decide
  refine kmk_tree PySem.F.kind_max PySem.F.plain_max PySem.F.entry_max (max_key _ _) ?_
  show wpAny _ X.A.in1 (Builtin.Builtins.bindParams "max" ["key", "default"] 0 ⟨[], [(Str.ofString "key", .ref q)]⟩ >>= _) _ _ s
  refine wpAny_bind (wpAny_of_eq (show _ = pure [some (Value.ref q), none] from rfl) ?_)
  refine wpAny_bind (wpAny_pure ?_)
  obtain ⟨lts, rl, pl, _⟩ := I.list (SqL.of hl)
  refine wpAny_bind (wpAny_pyIter_list pl.isList ?_)
  generalize hJ : s.heap.objs.size = J
  have nJ : H J = none := I.hok.fresh (Nat.le_of_eq hJ)
  have fJ : FpOk X pins H J := I.fpOk (Nat.le_of_eq hJ) nJ
  have I1 := I.kept (t' := s.toks) (h' := s.heap.push { cls := .type "list_iterator", data := .fields #[.ref a, .int 0 0] }) fun b u e => Heap.get?_push_of_some _ e
  have gJ : (s.heap.push { cls := .type "list_iterator", data := .fields #[.ref a, .int 0 0] }).get? J = some { cls := .type "list_iterator", data := .fields #[.ref a, .int 0 0] } := by rw [← hJ]; exact Heap.get?_push_size _ rfl
  have sz1 : (s.heap.push { cls := .type "list_iterator", data := .fields #[.ref a, .int 0 0] }).objs.size = J + 1 := by rw [size_push', hJ]
  generalize hh1 : s.heap.push { cls := .type "list_iterator", data := .fields #[.ref a, .int 0 0] } = h1 at I1 gJ sz1 ⊢
  refine wpAny_bind (wpAny_newList ?_ (Nat.zero_le _))
  rw [again]
  have nS : H (J + 1) = none := I1.hok.fresh (Nat.le_of_eq sz1)
  have I2 := I1.laid (t' := s.toks) (a := J + 1) (o := .lst []) (h' := h1.push { cls := .type "list", data := .seq #[] }) (fun b u e => Heap.get?_push_of_some _ e) (Nat.le_of_eq sz1) ⟨Nat.zero_le _, [], 0, .nil, by
    rw [← sz1]; exact Heap.get?_push_size _ rfl⟩
  have hnJ : J + 1 ≠ J := Nat.succ_ne_self J
  have hla : a ≠ J := ne_of_none hl nJ
  show wpAny _ _ (pure (Fin.again (.builtin "max.loop" ⟨[.ref J, .ref q, .ref h1.objs.size], []⟩))) _ _ _
  rw [sz1]
  refine wpAny_pure ⟨plainId_quiet PySem.F.plain_max_loop _, ?_⟩
  refine first_maxK (kv := fun i => .int (kf i)) (Hs := H) I2.ok hc (ord_gt kf xs.length) hne nS hl (fun i j vi vj _ _ ri rj p s3 H3 Q3 E3 I3 _ hQ => ?_) turn (fun i x u s3 H3 e r fb I3 sm => ⟨x, H3, I3, r, fin i x H3 e fb sm⟩) I2 (upd_same_of nS) upd_same ⟨_, Heap.get?_push_of_some _ gJ, rfl, rfl⟩ (fp_keep fJ (by rw [upd_ne hnJ.symm]; exact nJ)) hnJ hla
  exact CmpOf.ints_gt (prog := X.prog) (w := X.w) (A := X.A.in1) (P := fun i v => ∃ t, v = .int (kf i) t) kf (fun i v h => h) i j vi vj s3 Q3 E3 ri rj hQ
theorem pe_maxK {c P : Addr} {qual : Str} {le : Expr} {params : Arguments} {body : Expr} {scope : Scope} {p lpos kpos pos : Pos} {tl te : TE} {sg : St → V → St} {x : Str} {N : List Str} (hc : X.calm = true) (hg : Gl X "max") (hm : X.mg "max" = none) (L : LamM X.K X.mg X.base c P) (hcode : X.env.code = .ref c) (hq : X.env.qual ++ "<lambda>" = qual)
    (hdp : X.A.depth < recursionLimit) (hl : PE X le tl) (hk : scope.kind = .function) (hco : scope.isCoroutine = false) (hgen : scope.isGenerator = false) (hcell : ∀ y ∈ scope.names, y.2 ≠ .cell) (hx : scope.names.lookup x = some .local)
    (hfree : ∀ y ∈ scope.names, y.2 = .free → X.env.scope.names.lookup y.1 = some .cell) (hdef : defaultsOf params X.env = ([], []))
    (hbind : ∀ clos pm c ctv u, bindArgs (PySem.W.kla_fn "<lambda>" qual params body scope clos pm (.ref c) ctv) ⟨[u], []⟩ = pure [(x, u)])
    (hlen : ∀ σ v, (sg σ v).length = N.length)
    (hσ : ∀ (σ : St) (xv : V) (i : Nat) (y : Str) (v : V), N[i]? = some y → (sg σ xv)[i]? = some (some v) → (y = x ∧ v = xv) ∨ (scope.names.lookup y = some .free ∧ ∃ j : Nat, X.N[j]? = some y ∧ σ[j]? = some (some v) ∧ X.env.scope.names.lookup y = some .cell))
    (he : ∀ (s : Shared) (H : Hp) (L f c : Addr) (clos : List (Str × Addr)), PE (X.inn.lam s H (PySem.W.envX qual scope L f (.ref c) clos) N) body te)
    (he1 : starEach [le] X.env = [(false, eval le X.env)] := by rfl) :
    PE X (.Call (.Name "max" p) [le] [⟨some "key", .Lambda params body scope lpos, kpos⟩] pos) (tKey P qual (fun i j => decide (i > j)) tl te sg) := by
  intro pins s σ H Q I h
  refine wpAny_Call_Name_kw (ld_blt I hg hm PyProof.Rows.boot_max ?_ (by decide) (by decide))
  have he2 : backTo pos (starEach [le] X.env) = (false, eval le X.env) :: backTo pos (starEach [] X.env) := by rw [he1]; rfl
  refine callWith_kw ?_ he2 (by rw [he2]; rfl) rfl rfl
  refine thn (pa_cons hl pa_nil he1 pos pins s σ H (fun vs H1 => match vs with
    | [x] => ∃ a xs, x = .ref a ∧ H1 a = some (.lst xs) ∧ 0 < xs.length ∧ TabAt P qual H1 ∧ ∀ H2, SameT P H1 H2 → TabAt P qual H2 → ∃ kf : Nat → Int, (∀ i x, xs[i]? = some x → ∀ H3, Same H2 H3 → te (sg σ x) H3 fun y H4 => y = .int (kf i) ∧ Same H3 H4) ∧
        ∀ i x H3, xs[i]? = some x → FirstB (fun i j => decide (kf i > kf j)) xs.length i → Same H2 H3 → Q x H3
    | _ => False) I h) fun us s1 ⟨vs, H1, I1, rv, q1⟩ => ?_
  match vs, rv, q1 with
  | [x0], rv, q1 =>
  obtain ⟨a, xs, rfl, ha, hne, T, q2⟩ := q1
  obtain rfl := Vals.ref1 rv
  show wpAny _ _ (evalAll ((do let v ← eval (.Lambda params body scope lpos) X.env; standAt pos; pure v) :: [])) _ _ s1
  have hfree2 : ∀ y ∈ scope.names, y.2 = .free → ∃ c, X.env.cells.lookup y.1 = some c := fun y hy e => I.ok.has _ (.inl (hfree y hy e))
  refine wpAny_evalAll_cons (wpAny_bind (lam_make I1 T L hcode hq hfree2 hdef fun f c' s2 H2 I2 sT T2 hfn hf hc' => wpAny_bind (wpAny_standAt (wpAny_pure (wpAny_evalAll_nil ?_)))))
  show wpAny _ _ (call (.builtin "max") [.ref a] [(Str.ofString "key", .ref f)]) _ _ s2
  obtain ⟨kf, k1, k2⟩ := q2 H2 sT T2
  have haP : a ≠ P := by
    obtain ⟨ps, t1, _⟩ := T
    exact ne_of ha t1 (by intro z; cases z)
  refine call_maxK I2 hc (sT _ _ ha haP) hne (fun i x u e r p s3 H3 I3 sm => ?_) fun i x H3 e fb sm => k2 i x H3 e fb sm
  exact lam_run (X := X.inn) I3 hdp (sm _ _ hf) (sm _ _ hc') hk hco hgen hcell hx hfree2 (fun clos ctv => hbind clos _ _ ctv u) r (hlen σ x) (hσ σ x) (fun s H L clos => he s H L f c' clos) (k1 i x e H3 sm)

theorem call_maxD {pins : List (Addr × Obj)} {s : Shared} {σ : St} {H : Hp} {E : Value → Shared → Prop} {Q : VK} {vs zs : List V} {us ws : List Value} (I : Inv X pins σ H s) (hc : X.calm = true) (hu : X.A.in1.units < cLine) (rv : Vals vs us) (rz : Vals zs ws) (h : rMaxT vs zs H Q) :
    wpAny (model X.prog X.w) X.A (call (.builtin "max") us ([Str.ofString "default"].zip ws)) (EP X pins σ Q) E s := by
  obtain ⟨a, xs, z, ks, rfl, rfl, hl, hk, ob, q0, q1⟩ := h
  obtain rfl := Vals.ref1 rv
  obtain ⟨wz, rfl, rz1⟩ : ∃ wz, ws = [wz] ∧ RelV z wz := by
    cases rz with
    | cons r1 r2 => cases r2; exact ⟨_, rfl, r1⟩
  have again : (toString "max" ++ toString ".loop" : String) = "max.loop" := by decide
  show wpAny _ _ (call (.builtin "max") [.ref a] [(Str.ofString "default", wz)]) _ _ s
  refine kmk_tree PySem.F.kind_max PySem.F.plain_max PySem.F.entry_max (max_dfl _ _) ?_
  show wpAny _ X.A.in1 (Builtin.Builtins.bindParams "max" ["key", "default"] 0 ⟨[], [(Str.ofString "default", wz)]⟩ >>= _) _ _ s
  refine wpAny_bind (wpAny_of_eq (show _ = pure [none, some wz] from rfl) ?_)
  refine wpAny_bind (wpAny_pure ?_)
  obtain ⟨lts, rl, pl, _⟩ := I.list (SqL.of hl)
  refine wpAny_bind (wpAny_pyIter_list pl.isList ?_)
  generalize hJ : s.heap.objs.size = J
  have nJ : H J = none := I.hok.fresh (Nat.le_of_eq hJ)
  have fJ : FpOk X pins H J := I.fpOk (Nat.le_of_eq hJ) nJ
  have I1 := I.kept (t' := s.toks) (h' := s.heap.push { cls := .type "list_iterator", data := .fields #[.ref a, .int 0 0] }) fun b u e => Heap.get?_push_of_some _ e
  have gJ : (s.heap.push { cls := .type "list_iterator", data := .fields #[.ref a, .int 0 0] }).get? J = some { cls := .type "list_iterator", data := .fields #[.ref a, .int 0 0] } := by rw [← hJ]; exact Heap.get?_push_size _ rfl
  have sz1 : (s.heap.push { cls := .type "list_iterator", data := .fields #[.ref a, .int 0 0] }).objs.size = J + 1 := by rw [size_push', hJ]
  generalize hh1 : s.heap.push { cls := .type "list_iterator", data := .fields #[.ref a, .int 0 0] } = h1 at I1 gJ sz1 ⊢
  refine wpAny_bind (wpAny_newList ?_ (Nat.zero_le _))
  rw [again]
  have nS : H (J + 1) = none := I1.hok.fresh (Nat.le_of_eq sz1)
  have I2 := I1.laid (t' := s.toks) (a := J + 1) (o := .lst []) (h' := h1.push { cls := .type "list", data := .seq #[] }) (fun b u e => Heap.get?_push_of_some _ e) (Nat.le_of_eq sz1) ⟨Nat.zero_le _, [], 0, .nil, by
    rw [← sz1]; exact Heap.get?_push_size _ rfl⟩
  have hnJ : J + 1 ≠ J := Nat.succ_ne_self J
  have hla : a ≠ J := ne_of_none hl nJ
  have itJ : (h1.push { cls := .type "list", data := .seq #[] }).IsListIter J a 0 := ⟨_, Heap.get?_push_of_some _ gJ, rfl, rfl⟩
  have gS : (h1.push { cls := .type "list", data := .seq #[] }).get? (J + 1) = some (seqObj "list" #[] 0) := by rw [← sz1]; exact Heap.get?_push_size _ rfl
  show wpAny _ _ (pure (Fin.again (.builtin "max.loop" ⟨[.ref J, .none, .ref h1.objs.size], [("default", wz)]⟩))) _ _ _
  rw [sz1]
  refine wpAny_pure ⟨plainId_quiet PySem.F.plain_max_loop _, ?_⟩
  have s2 : Same H (upd H (J + 1) (.lst [])) := upd_same_of nS
  by_cases hx : xs = []
  · subst hx
    have W := Walks.list (prog := X.prog) (w := X.w) (A := X.A.in1) (I.ok.hd hc) J a hla lts.toArray
    have esz : lts.toArray.size = 0 := by rw [List.size_toArray]; exact rl.length.symm
    obtain ⟨lts2, rl2, pl2, _⟩ := I2.list (SqL.of (s2 _ _ hl))
    have el : lts = [] := by cases rl; rfl
    have el2 : lts2 = [] := by cases rl2; rfl
    subst el el2
    refine codeAny_builtin PySem.F.entry_max_loop ?_
    rw [Around.under_plainId PySem.F.plain_max_loop _]
    show wpAny _ X.A.in1 (seqItems? (.ref (J + 1)) >>= _) _ _ _
    refine wpAny_bind (wpAny_seqItems gS rfl ?_)
    show wpAny _ X.A.in1 (tryCatch (pyNext (.ref J)) _ >>= _) _ _ _
    refine wpAny_bind (wpAny_tryCatch (W.done _ _ _ ⟨itJ, pl2.isList⟩ fun h' tk hk' => ?_))
    refine wpAny_bind (wpAny_rule (wpAny_pure ?_))
    exact ⟨z, _, iter_at (tk := tk) (l := a) (j := 0) I2 (fp_keep fJ (by rw [upd_ne hnJ.symm]; exact nJ)) hk', rz1, q0 rfl _ s2⟩
  · have hne : 0 < xs.length := List.length_pos_iff.mpr hx
    refine first_maxN (kv := fun i => (xs[i]?).getD .non) (bt := fun i j => HT.lexGt (ks i) (ks j)) (Hs := H) I2.ok hc ob hne nS hl (fun i j vi vj hi hj ri rj p s3 H3 Q3 E3 I3 sm hQ => ?_) (fun i x e => by rw [e]; rfl)
      (fun i x u s3 H3 e r fb I3 sm => ⟨x, H3, I3, r, q1 i x H3 e fb sm⟩) I2 s2 upd_same itJ (fp_keep fJ (by rw [upd_ne hnJ.symm]; exact nJ)) hnJ hla
    have ei : xs[i]? = some xs[i] := List.getElem?_eq_getElem hi
    have ej : xs[j]? = some xs[j] := List.getElem?_eq_getElem hj
    obtain ⟨pi, e1, e2⟩ := hk i _ ei
    obtain ⟨pj, e3, e4⟩ := hk j _ ej
    simp only [ei, Option.getD_some, e1] at ri
    simp only [ej, Option.getD_some, e3] at rj
    cases ri
    cases rj
    obtain ⟨its, r1, p1, _⟩ := I3.tuple (SqT.of (sm _ _ e2))
    obtain ⟨its2, r2, p2, _⟩ := I3.tuple (SqT.of (sm _ _ e4))
    exact HT.gt_tupInts p1 p2 (intsAre_of r1) (intsAre_of r2) hu hQ
def tCBK (r : List V → List V → Hp → VK → Prop) (tl td : TE) : TE := fun σ H Q => tl σ H fun x H1 => td σ H1 fun z H2 => r [x] [z] H2 Q
theorem pe_maxD {le de : Expr} {p kpos pos : Pos} {tl td : TE} (hc : X.calm = true) (hu : X.A.in1.units < cLine) (hg : Gl X "max") (hm : X.mg "max" = none) (hl : PE X le tl) (hd : PE X de td)
    (he1 : starEach [le] X.env = [(false, eval le X.env)] := by rfl) :
    PE X (.Call (.Name "max" p) [le] [⟨some "default", de, kpos⟩] pos) (tCBK rMaxT tl td) := by
  intro pins s σ H Q I h
  refine wpAny_Call_Name_kw (ld_blt I hg hm PyProof.Rows.boot_max ?_ (by decide) (by decide))
  have he2 : backTo pos (starEach [le] X.env) = (false, eval le X.env) :: backTo pos (starEach [] X.env) := by rw [he1]; rfl
  refine callWith_kw ?_ he2 (by rw [he2]; rfl) rfl rfl
  refine thn (pa_cons hl pa_nil he1 pos pins s σ H (fun vs H1 => td σ H1 fun z H2 => rMaxT vs [z] H2 Q) I h) fun us s1 ⟨vs, H1, I1, rv, q1⟩ => ?_
  refine thn (pk_cons (nm := some "default") (kpos := kpos) hd pk_nil pos pins s1 σ H1 (fun zs H2 => rMaxT vs zs H2 Q) I1 q1) fun ws s2 ⟨zs, H2, I2, rz, q2⟩ => ?_
  exact call_maxD I2 hc hu rv rz q2
end
end L2

end

section
set_option Elab.async false
set_option linter.all false
set_option maxRecDepth 100000
set_option maxHeartbeats 2000000
namespace L2
open PySem PySem.Spec PyProof.Rows
section
variable {X : Cx}
/-- {k: v}, the key a tuple of ints and texts -/
def tDisp1 (tk tv : TE) : TE := fun σ H Q => ∀ p, H p = none → tk σ (upd H p (.dT [])) fun x H1 => tv σ H1 fun y H2 => ∃ b ks, x = .ref b ∧ H2 p = some (.dT []) ∧ H2 b = some (.tup (List.map kV ks)) ∧ Q (.ref p) (upd H2 p (.dT [(ks, y)]))
theorem pe_disp1 {k v : Expr} {pos : Pos} {tk tv : TE} (hu : X.A.units < cLine) (hk : PE X k tk) (hv : PE X v tv) : PE X (.Dict [some k] [v] pos) (tDisp1 tk tv) := by
  intro pins s σ H Q I q
  have hn := I.hok.fresh (Nat.le_refl s.heap.objs.size)
  have I1 := I.laid (a := s.heap.objs.size) (o := .dT []) (h' := s.heap.push { cls := .type "dict", data := .dict #[] }) (t' := s.toks) (fun _ _ q => Heap.get?_push_of_some _ q) (Nat.le_refl _) (dt_empty s.heap I.big)
  rw [arm_eval_Dict]
  refine wpAny_bind (wpAny_standAt ?_)
  show wpAny _ _ (dictDisplay ([(eval k X.env, (do let x ← eval v X.env; standAt pos; pure x : Sem Value))].map fun p => (some p.1, p.2))) _ _ _
  rw [dictDisplay_pairs _ (by simp) (by simp)]
  refine wpAny_bind ?_
  unfold subDict
  refine wpAny_bind (wpAny_alloc ?_)
  refine wpAny_bind (wpAny_holding ?_)
  rw [if_pos (by simp)]
  refine wpAny_bind (evalPairs_cons (thn (hk pins _ σ _ _ I1 (q _ hn)) fun u s1 ⟨x, H1, I2, rx, q1⟩ => wpAny_bind (thn (hv pins s1 σ H1 _ I2 q1) fun r s2 ⟨y, H2, I3, ry, q2⟩ => wpAny_bind (wpAny_standAt (wpAny_pure (evalPairs_nil ?_))))))
  obtain ⟨b, ks, rfl, hp, hb, q3⟩ := q2
  cases (show u = Value.ref b from rx)
  refine wpAny_holding ?_
  rw [List.forIn_cons]
  obtain ⟨z, hd, xs, rel, dd⟩ := dt_of I3.hok hp
  cases rel
  refine wpAny_bind (wpAny_bind ?_)
  show wpAny _ _ (dictSet s.heap.objs.size (Value.ref b) r >>= fun _ => pure (ForInStep.yield PUnit.unit)) _ _ _
  refine wpAny_bind (wpAny_dictSet_heap (hsz := Nat.zero_le _) (show (tupleKind (mixKind X.prog X.w)).room X.A from hu) (key_of I3.hok hb) dd fun h' dd' hs => wpAny_pure ?_)
  show wpAny _ _ (forIn ([] : List (Value × Value)) PUnit.unit _) _ _ _
  rw [List.forIn_nil]
  refine wpAny_pure (wpAny_pure (wpAny_pure (wpAny_pure ?_)))
  obtain ⟨o, es, ep, hq, h2, h3, h4, _, h5⟩ := dd'
  refine ⟨.ref s.heap.objs.size, _, ?_, rfl, q3⟩
  refine d_write I3 (by rw [hp]; exact True.intro) hs ⟨o, hq⟩ ⟨by show 1 ≤ sizeLine; decide, hd, _, .cons ⟨rfl, ?_, ry⟩ .nil, o, es, ep, hq, h2, h3, h4, h5⟩
  rw [upd_ne (ne_of hb hp (fun z => nomatch z))]
  exact hb
@[simp] theorem rd_disp1 {tk tv : TE} {σ : St} {H : Hp} {Q : VK} : tDisp1 tk tv σ H Q = ∀ p, H p = none → tk σ (upd H p (.dT [])) fun x H1 => tv σ H1 fun y H2 => ∃ b ks, x = .ref b ∧ H2 p = some (.dT []) ∧ H2 b = some (.tup (List.map kV ks)) ∧ Q (.ref p) (upd H2 p (.dT [(ks, y)])) := rfl
end
end L2

end

section
set_option Elab.async false
set_option linter.all false
set_option maxRecDepth 100000
set_option maxHeartbeats 2000000
namespace HT
open PySem PyProof.Rows
open PySem.AutoSeq1 (wpAny_loadPart')
theorem extend_tupA (l b : Addr) (items items2 : Array Value) (n n2 : Nat) (dd2 : Option Addr) (sl2 : Array (Option Value)) (hs0 : ¬(!items.isEmpty && Builtin.List.listTooLong (items.size + items2.size)) = true) (hs1 : items.size ≤ sizeLine) (hs2 : items.size + items2.size ≤ sizeLine + 1) :
    Meets (Builtin.«list.extend» ⟨[.ref l, .ref b], []⟩) (fun _ R s => s.heap.get? l = some { cls := .type "list", dict := none, data := .seq items n, slots := #[] } ∧ s.heap.get? b = some { cls := .type "tuple", dict := dd2, data := .seq items2 n2, slots := sl2 } ∧
      R (.ok (.ret Value.none)) { s with heap := s.heap.update l (Obj.mapSeq fun x => x ++ items2), toks := s.toks }) :=
  .of_wp fun prog w A R s h => by
    obtain ⟨hp, g, d, tk, os⟩ := s
    obtain ⟨hl, hb, h⟩ := h
    have f1 := PySem.AutoSeq1.idx_int
    have f2 := PySem.AutoSeq1.sub_tuple_tuple
    have f3 := PySem.AutoSeq1.sub_list_list
    have f4 := PySem.AutoSeq1.sub_tuple_list
    have f5 := PySem.AutoSeq1.sub_list_tuple
    have hz' : (items ++ items2).size ≤ sizeLine + 1 := by rw [Array.size_append]; exact hs2
    wp_walk using (wpAny_updateSeq hl rfl (hz := hs1) (_hz' := hz')), wpAny_loadPart' hl, wpAny_loadPart' hb
    exact ⟨_, rfl, h⟩
theorem rmul_int_tup (a : Int) (t : Tok) (l : Addr) (items : Array Value) (n : Nat) (dd : Option Addr) (sl : Array (Option Value)) :
    Meets (Builtin.«int.__rmul__» ⟨[.int a t, .ref l], []⟩) (fun _ R s => s.heap.get? l = some { cls := .type "tuple", dict := dd, data := .seq items n, slots := sl } ∧ R (.ok (.ret Value.notImplemented)) s) :=
  .of_wp fun prog w A R s h => by
    obtain ⟨hp, g, d, tk, os⟩ := s
    obtain ⟨hl, h⟩ := h
    wp_walk
    exact ⟨_, rfl, h⟩
theorem mul5_tup (l : Addr) (v : Value) (n : Nat) (u : Tok) (dd : Option Addr) (sl : Array (Option Value)) :
    Meets (Builtin.«tuple.__mul__» ⟨[.ref l, .int 5 u], []⟩) (fun _ R s => s.heap.get? l = some { cls := .type "tuple", dict := dd, data := .seq #[v] n, slots := sl } ∧
      R (.ok (.ret (Value.ref s.heap.objs.size))) { s with heap := s.heap.push { cls := Value.type "tuple", data := Data.seq #[v, v, v, v, v] }, toks := s.toks }) :=
  .of_wp fun prog w A R s h => by
    obtain ⟨hp, g, d, tk, os⟩ := s
    obtain ⟨hl, h⟩ := h
    have f1 := PySem.AutoSeq1.idx_int
    wp_walk using wpAny_loadPart' hl
    exact ⟨_, rfl, h⟩
theorem noFill_tup_mul : fillsNumberSlot (.type "tuple") "mul" = pure false :=
  PySem.fillsNumberSlot_seq (id := "tuple.__mul__") (r := some (.builtin "tuple.__rmul__")) F.slot_tuple_mul.lookup (by decide +kernel) F.slot_tuple_rmul.lookup (by decide +kernel)
theorem rep_tup : seqRepeat? (.type "tuple") = pure (some (.builtin "tuple.__mul__")) := by
  unfold seqRepeat?
  rw [PySem.seqSlot_of (T := "tuple") (name := "__mul__") (id := "tuple.__mul__") F.slot_tuple_mul.lookup (by decide +kernel), PySem.seqSlot_of (T := "tuple") (name := "__rmul__") (id := "tuple.__rmul__") F.slot_tuple_rmul.lookup (by decide +kernel)]
  rfl
end HT

namespace L2
open PySem PySem.Spec PyProof.Rows
section
variable {X : Cx}
/-- xs.extend(t), t a tuple -/
def rExtT : V → List V → Hp → VK → Prop := fun x vs H Q => ∃ l b xs zs, x = .ref l ∧ vs = [.ref b] ∧ H l = some (.lst xs) ∧ H b = some (.tup zs) ∧ xs.length + zs.length ≤ sizeLine ∧ Q .non (upd H l (.lst (xs ++ zs)))
theorem mt_extT : MtM X "list.extend" rExtT := by
  intro pins s σ H x vs v us Q I rx rv h
  obtain ⟨l, b, xs, zs, rfl, rfl, hH, hB, hz, q⟩ := h
  cases rx
  obtain ⟨u, rfl, ru⟩ := rv.one
  cases ru
  obtain ⟨z, its, n, r, hl, e⟩ := I.lstM hH
  obtain ⟨its2, r2, pt, _⟩ := I.tuple (SqT.of hB)
  obtain ⟨⟨cls2, dd2, data2, sl2⟩, ho2, hc2, n2, hd2⟩ := id pt
  simp only at hc2 hd2
  subst hc2 hd2
  have hl2 := r2.length
  have hsz : its.toArray.size + its2.toArray.size ≤ sizeLine := by rw [List.size_toArray, List.size_toArray]; omega
  have hlong : ¬ (!its.toArray.isEmpty && Builtin.List.listTooLong (its.toArray.size + its2.toArray.size)) = true := by
    rw [notLongL hsz, Bool.and_false]
    exact Bool.false_ne_true
  refine call_meets F.slot_list_extend ⟨_, e, rfl⟩ F.entry_list_extend (F.args_list_extend_2 _ _) (HT.extend_tupA l b its.toArray its2.toArray n n2 dd2 sl2 hlong (by rw [List.size_toArray]; omega) (by omega)) ⟨e, ho2, ?_⟩
  refine ⟨.non, _, I.lset (its' := its ++ its2) hH e (by simp) (r.append r2) ?_, rfl, q⟩
  rw [List.length_append]
  omega
/-- (x,) * 5 -/
def rRep5 : R2 := fun x y H Q => ∃ l z, x = .ref l ∧ y = .int 5 ∧ H l = some (.tup [z]) ∧ ∀ p, H p = none → Q (.ref p) (upd H p (.tup [z, z, z, z, z]))
theorem op_rep5 : OpR X (binaryOp .Mult) rRep5 := by
  intro pins s σ H x y v u Q I rx ry h
  obtain ⟨l, z, rfl, rfl, hH, q⟩ := h
  cases rx
  obtain ⟨t, rfl⟩ := ry
  obtain ⟨its, r, pt, _⟩ := I.tuple (SqT.of hH)
  obtain ⟨⟨cls2, dd2, data2, sl2⟩, ho2, hc2, n2, hd2⟩ := id pt
  simp only at hc2 hd2
  subst hc2 hd2
  cases r with
  | cons r1 r2 =>
  cases r2
  rename_i w
  refine wpAny_binaryOp_repeat_ref (T := "tuple") (U := "int") (by decide) ⟨_, ho2, rfl⟩ (fun s' => typeIs_int s' 5 t) HT.noFill_tup_mul F.fills_int_mul F.slot_int_rmul HT.rep_tup F.slot_int_index.lookup
    (call_meets F.slot_int_rmul (typeIs_int s 5 t) F.entry_int_rmul (F.args_int_rmul_2 _ _) (HT.rmul_int_tup 5 t l _ n2 dd2 sl2)
      ⟨ho2, rfl, ⟨_, ho2, rfl⟩, call_meets F.slot_tuple_mul ⟨_, ho2, rfl⟩ F.entry_tuple_mul (F.args_tuple_mul_2 _ _) (HT.mul5_tup l w n2 t dd2 sl2) ⟨ho2, ?_⟩⟩)
  refine ⟨.ref s.heap.objs.size, _, I.laid (t' := s.toks) (o := .tup [z, z, z, z, z]) (fun b ob q => Heap.get?_push_of_some _ q) (Nat.le_refl _) ?_, rfl, q _ (I.hok.fresh (Nat.le_refl _))⟩
  exact ⟨by show 5 ≤ sizeLine; decide, [w, w, w, w, w], .cons r1 (.cons r1 (.cons r1 (.cons r1 (.cons r1 .nil)))), IsTup.new _ _⟩
end
end L2

end

section
set_option Elab.async false
set_option linter.all false
set_option maxRecDepth 100000
set_option maxHeartbeats 2000000
namespace L2
open PySem PySem.Spec PyProof.Rows
open PySem.W (WData Codec OpenSpec Well WellAll ReadsW ReadsAllW)
section
variable {K : PySem.W.Frag} {H H' : Hp}
theorem sqT_same {a : Addr} {xs : List V} (e : Same H H') (h : SqT K H a xs) : SqT K H' a xs := by
  rcases h with (h | ⟨o, h⟩) | h
  · exact .inl (.inl (e _ _ h))
  · exact .inl (.inr ⟨o, e _ _ h⟩)
  · exact .inr h
mutual
theorem dw_same (e : Same H H') : ∀ (d : WData) (v : V), Dw K H v d → Dw K H' v d
  | .none, _, x => by
    cases x
    exact .non
  | .bool b, _, x => by
    cases x
    exact .bl b
  | .int i, _, x => by
    cases x
    exact .int i
  | .str t, _, x => by
    cases x
    exact .str t
  | .bytes b, _, x => by
    cases x with
    | byt b => exact .byt b
  | .list ds, _, x => by
    cases x with
    | lst hs ha => exact .lst (e.seq hs) (dwAll_same e ds _ ha)
  | .tuple ds, _, x => by
    cases x with
    | tup hs ha => exact .tup (sqT_same e hs) (dwAll_same e ds _ ha)
  | .float _, _, x => by cases x
  | .dict _, _, x => by cases x
  | .bytearray _, _, x => by cases x
  | .set _, _, x => by cases x
  | .frozenset _, _, x => by cases x
  | .obj _ _, _, x => by cases x
theorem dwAll_same (e : Same H H') : ∀ (ds : List WData) (vs : List V), DwAll K H vs ds → DwAll K H' vs ds
  | [], _, x => by
    cases x
    exact .nil
  | d :: ds, _, x => by
    cases x with
    | cons h1 h2 => exact .cons (dw_same e d _ h1) (dwAll_same e ds _ h2)
end
end
/-- the call, where one code object's table may grow -/
theorem spec_callT {P : Program} {w : World} {K : PySem.W.Frag} {mg mb : Str → Option Value} {CX : CXT} {k : Nat} {fa : Addr} {fd : FuncData} {ps : List Str} {sp : Sp} {s₁ : Shared} {vals : List Value} {ds : List WData} {R : PySem.W.WRecords} {cl : Str → Option Addr} {d0 : WData} {c T : Addr}
    (KX : K.In s₁.heap) (hns : s₁.heap.Ns mainGlobals mg) (hb : s₁.heap.Ns builtinsNs mb) (hbb : ∀ x : Str, x ≠ "__name__" → mb x = bootBuiltins x) (hlim : s₁.heap.NoLimit) (hg : s₁.gens = #[])
    (hT : s₁.heap.get? T = some (PySem.W.tabObj #[])) (hCd : PySem.W.codeHdIn K c T = true) (hKT : K.lookup T = none) (hBM : BMod1 mg s₁.heap)
    (hwl : WellAll w.params s₁.heap vals ds) (hpl : plWs ds = true) (hwt : ∀ d ∈ ds, d.weight ≤ 1048576) (hr : Room k callerA)
    (F : ∀ base : Heap, K.In base → base.Ns mainGlobals mg → BMod1 mg base → FnOk P w K mg base CX k fa fd ps sp) (hbind : ∀ (s : Shared) (us : List Value), us.length = ps.length → BindsTo s fd ⟨us, []⟩ (ps.zip us)) (hlen : ds.length = ps.length)
    (hsp : ∀ (H : Hp) (xs : List V), H T = some (.tbl #[]) → DwAll K H xs ds → sp xs H (fun v H' => Dw K H' v d0) fun _ _ _ => False)
    (hCX : ∀ H e s', CX [] H s₁ (fun _ _ _ => False) e s' → False) :
    codeAny (model P w) callerA (.call (.ref fa) ⟨vals, []⟩) (fun r s' => ∃ u as, r = .ok (.ret u) ∧ ReadsW R cl s'.heap u d0 as ∧ OldK s₁.heap s'.heap ∧ s'.os = s₁.os ∧ AllBare s'.gens) s₁ := by
  obtain ⟨A, ho, ar⟩ := area_all ds vals hwl hpl hwt
  have hok0 : HOk P w (argH K s₁.heap A) s₁.heap := argH_ok ar
  have hS0 := dw_all KX ar ds vals hwl hpl ho
  have hV := vals_toV ho
  have at0 : argH K s₁.heap A T = none := by
    cases q : argH K s₁.heap A T with
    | none => rfl
    | some u =>
      obtain ⟨_, vs, _, _, ⟨e2, _⟩ | ⟨e2, _⟩⟩ := argH_is ar q
      · rw [hT] at e2
        cases e2
      · rw [hT] at e2
        cases e2
  generalize hH : upd (argH K s₁.heap A) T (.tbl #[]) = H
  have sH : Same (argH K s₁.heap A) H := by rw [← hH]; exact upd_same_of at0
  have hHT : H T = some (.tbl #[]) := by rw [← hH, upd_same]
  have only : ∀ b u, H b = some u → (b = T ∧ u = .tbl #[]) ∨ (b ≠ T ∧ argH K s₁.heap A b = some u) := fun b u e => by
    by_cases hbT : b = T
    · subst hbT; rw [hHT] at e; cases e; exact .inl ⟨rfl, rfl⟩
    · rw [← hH, upd_ne hbT] at e; exact .inr ⟨hbT, e⟩
  have hok : HOk P w H s₁.heap := fun b u e => by
    rcases only b u e with ⟨rfl, rfl⟩ | ⟨_, e2⟩
    · exact hT
    · exact (hok0 b u e2).stay (fun _ _ _ q => q) (fun _ q => sH _ _ q) fun _ _ q => sH _ _ q
  have noA : ∀ {b : Addr} {o : Obj} {es : Array DictEntry} {ep : Nat}, s₁.heap.get? b = some o → o.data = .dict es ep → H b = none := fun {b o es ep} e d => by
    cases q : H b with
    | none => rfl
    | some u =>
      rcases only b u q with ⟨rfl, rfl⟩ | ⟨_, q⟩
      · rw [hT] at e; cases e; cases d
      · obtain ⟨_, vs, _, _, ⟨e2, _⟩ | ⟨e2, _⟩⟩ := argH_is ar q
        · rw [e2] at e
          cases e
          have d' : Data.seq vs.toArray _ = Data.dict es ep := d
          cases d'
        · rw [e2] at e
          cases e
          have d' : Data.seq vs.toArray _ = Data.dict es ep := d
          cases d'
  have nK : ∀ b o, K.lookup b = some o → H b = none := fun b o e => by
    cases q : H b with
    | none => rfl
    | some u =>
      rcases only b u q with ⟨rfl, rfl⟩ | ⟨_, q⟩
      · rw [hKT] at e; cases e
      · rw [(argH_is ar q).1] at e
        cases e
  have nsK : ∀ {b : Addr} {m : Str → Option Value}, s₁.heap.Ns b m → (hidT s₁.heap H).Ns b m := fun {b m} ⟨o, es, ep, e, d, r⟩ => ⟨o, es, ep, hidT_get e (noA e d), d, r⟩
  have hKb : K.In (hidT s₁.heap H) := fun b o e => hidT_get (KX b o e) (nK b o e)
  have hM : Mod K mg (hidT s₁.heap H) := ⟨hKb, nsK hns, ⟨mb, nsK hb, hbb⟩, let ⟨mc, h1, h2⟩ := hlim; ⟨mc, nsK h1, h2⟩⟩
  have e0 : Env0 P w K mg (hidT s₁.heap H) callerA [] s₁ H := ⟨rfl, hM, fun b o e => of_hidT e, Nat.le_of_eq (hidT_size _ _), trivial, fun b hb => absurd (show b ∈ ([] : List Addr) from hb) (by simp), hok, .of_eq hg⟩
  have hl : vals.length = ps.length := by rw [wellAll_len hwl]; exact hlen
  have hBb : BMod1 mg (hidT s₁.heap H) := by
    obtain ⟨bm, ob, b1, b2, b3, b4, b5, b6⟩ := hBM
    refine ⟨bm, ob, b1, b2, hidT_get b3 ?_, b4, b5, b6⟩
    cases q : H bm with
    | none => rfl
    | some u =>
      rcases only bm u q with ⟨rfl, rfl⟩ | ⟨_, q⟩
      · rw [hT] at b3; cases b3; cases b4
      · obtain ⟨_, vs, _, _, ⟨e2, _⟩ | ⟨e2, _⟩⟩ := argH_is ar q
        · rw [e2] at b3; cases b3; exact absurd (Value.type.inj b4) (by decide)
        · rw [e2] at b3; cases b3; exact absurd (Value.type.inj b4) (by decide)
  refine codeAny_mono ((F _ hKb (nsK hns) hBb).run callerA [] s₁ H ⟨vals, []⟩ vals (vals.map toV) _ _ hr e0 (hbind s₁ vals hl) hV (hsp H _ hHT (dwAll_same sH ds _ hS0))) fun r s' x => ?_
  cases r with
  | error e => exact (hCX H e s' x).elim
  | ok fl =>
    cases fl with
    | next => exact False.elim x
    | brk => exact False.elim x
    | cont => exact False.elim x
    | ret u =>
      obtain ⟨v, H', os, bare, un, hok', r', q⟩ := x
      have kept : ∀ b o, b ≠ T → s₁.heap.get? b = some o → s'.heap.get? b = some o := fun b o hbT e => by
        cases q2 : H b with
        | none => exact un.keep b o e q2 (by intro z; exact absurd (show b ∈ ([] : List Addr) from z) (by simp)) (by simp)
        | some u2 =>
          rcases only b u2 q2 with ⟨z, _⟩ | ⟨_, q3⟩
          · exact absurd z hbT
          · obtain ⟨_, vs, _, _, ⟨e2, rfl⟩ | ⟨e2, rfl⟩⟩ := argH_is ar q3
            all_goals
              have z2 := un.frzs b _ _ q2
              obtain ⟨e3, _⟩ := hok' b _ z2
              rw [e2] at e
              cases e
              exact e3
      obtain ⟨more, hT'⟩ := un.tbls T _ hHT
      have gT : s'.heap.get? T = some (PySem.W.tabObj (#[] ++ more)) := hok' T _ hT'
      have KX' : K.In s'.heap := fun b o e => kept b o (fun z => by rw [z, hKT] at e; cases e) (KX b o e)
      obtain ⟨as, hrd⟩ := Dw.reads (R := R) (cl := cl) hok' KX' d0 v u q r'
      refine ⟨u, as, rfl, hrd, ⟨fun b o e => ?_, fun b o e => ?_⟩, os, bare⟩
      · by_cases hbT : b = T
        · subst hbT
          rw [hT] at e
          cases e
          exact .inr (.inl ⟨((PySem.W.codeHd_of_K KX hCd).tab hT).isCodeTable, rfl, #[], more, rfl, gT⟩)
        · exact .inl (kept b o hbT e)
      · by_cases hbT : b = T
        · subst hbT; exact ⟨_, gT⟩
        · exact ⟨o, kept b o hbT e⟩
/-- the goal that the head leaves, the hook telling one table -/
theorem walk_specT {r : OpenSpec} {k : Nat} {q : Program} {loose : List Str} {XP : (Str → Option Value) → Heap → Prop} {YP : World → Heap → Prop} {d : DefRec} {K : Params → PySem.W.Frag} {CX : CXT} {ps : List Str} {sp : PySem.W.Frag → Sp} {c T : Addr}
    (hwell : r.wellSaid = true) (hdf : d.params.defaults = []) (hlen : r.args.length = ps.length) (hr : Room k callerA)
    (hY : ∀ (w : World) (h : Heap), YP w h → (K w.params).In h) (hYT : ∀ (w : World) (h : Heap), YP w h → h.get? T = some (PySem.W.tabObj #[])) (hCd : ∀ w : World, PySem.W.codeHdIn (K w.params) c T = true) (hKT : ∀ w : World, (K w.params).lookup T = none)
    (F : ∀ (w : World) (mg : Str → Option Value) (fa : Addr) (h : Heap), YP w h → (K w.params).In h → h.Ns mainGlobals mg → mg d.name = some (.ref fa) →
      ∃ fd : FuncData, (∀ (s : Shared) (us : List Value), us.length = ps.length → BindsTo s fd ⟨us, []⟩ (ps.zip us)) ∧
        ∀ base : Heap, (K w.params).In base → base.Ns mainGlobals mg → BMod1 mg base → FnOk r.prog w (K w.params) mg base CX k fa fd ps (sp (K w.params)))
    (hsp : ∀ (K : PySem.W.Frag) (H : Hp) (xs : List V) (a : Codec.denoteAll r.args), H T = some (.tbl #[]) → Codec.withinAll r.args a = true → Codec.app r.args r.asked a = true → DwAll K H xs (Codec.encAll r.args a) →
      sp K xs H (fun v H' => Dw K H' v (r.ret.enc (Codec.app r.args r.f a))) fun _ _ _ => False)
    (hCX : ∀ (H : Hp) (s : Shared) (e : Value) (s' : Shared), CX [] H s (fun _ _ _ => False) e s' → False) :
    PySem.W.WalkOS q loose XP YP r d [] (fun f vs => PySem.call f vs) := by
  intro w s_0 s₁ mg mb G Y fa o pm cd doc dV kV ho hd hcd hD hmg hg args vals as hpre hlay hrd hwl hlo
  obtain ⟨a, e1, e2⟩ := PySem.W.os_pre_some hpre
  obtain ⟨e3, hwi⟩ := Codec.encAll_of_decAll r.args args a e1
  subst e3
  have KX := hY w _ Y
  obtain ⟨fd, hb, hF⟩ := F w mg fa _ Y KX G.T.g hmg
  refine PySem.W.enter_call (codeAny_mono (spec_callT (R := []) (cl := classAt s_0.heap) (d0 := r.ret.enc (Codec.app r.args r.f a)) KX G.T.g G.T.b G.T.builtins G.T.nolimit hg (hYT w _ Y) (hCd w) (hKT w) (let ⟨bm, ob, b1, b2, b3, b4, b5, b6⟩ := G.T.bmain; ⟨bm, ob, b1, b2, b3, b4, b5, b6⟩) hwl (pl_encAll _ _) (layable_weight hlay) hr hF hb (by rw [encAll_len]; exact hlen)
    (fun H xs hO hS => hsp (K w.params) H xs a hO hwi e2 hS) fun H e s' => hCX H s₁ e s') fun r' s' hq => ?_)
  obtain ⟨u, as', rfl, h1, h2, h3, h4⟩ := hq
  exact ⟨.inl ⟨u, _, as', rfl, fun _ => rfl, h1, (OpenSpec.post_iff hwell hwi _ _).mpr rfl, fun z => Bool.noConfusion (show false = true from z)⟩, h2, h3, h4⟩
end L2

end

section
set_option Elab.async false
set_option linter.all false
set_option maxRecDepth 100000
set_option maxHeartbeats 2000000
namespace Bb
open PySem PySem.Spec PyProof.Rows L2
def top (i : Nat) : Stmt := PySem.Challenge.pw_bittenbar_s01_answers.main.body.getD i (.Pass ⟨0, 0, 0, 0⟩)
abbrev sIsShape : Stmt := top 20
abbrev sHas : Stmt := top 21
abbrev sLeft : Stmt := top 22
abbrev sBites : Stmt := top 23
abbrev sExch : Stmt := top 26
abbrev sGrow : Stmt := top 24
abbrev sWithin : Stmt := top 25
/-- the module's numbers and the built-in names that it leaves alone -/
structure Txt (K : PySem.W.Frag) (mg : Str → Option Value) : Prop where
  mRows : ∃ t, mg "MOST_ROWS" = some (.int 5 t)
  mSquares : ∃ t, mg "MOST_SQUARES" = some (.int 6 t)
  len : mg "len" = none
  min : mg "min" = none
  range : mg "range" = none
  tuple : mg "tuple" = none
/-- a shape's numbers as values -/
def tv (s : List Nat) : List V := s.map fun (n : Nat) => V.int (n : Int)
theorem tv_ints (s : List Nat) : tv s = (s.map fun (n : Nat) => (n : Int)).map V.int := by
  unfold tv; rw [List.map_map]; rfl
@[simp] theorem tv_nil : tv [] = [] := rfl
@[simp] theorem tv_cons (n : Nat) (s : List Nat) : tv (n :: s) = V.int n :: tv s := rfl
@[simp] theorem tv_length (s : List Nat) : (tv s).length = s.length := by unfold tv; rw [List.length_map]
theorem tv_append (s t : List Nat) : tv (s ++ t) = tv s ++ tv t := by unfold tv; rw [List.map_append]
theorem tv_get (s : List Nat) (i : Nat) : (tv s)[i]? = s[i]?.map fun (n : Nat) => V.int (n : Int) := by unfold tv; rw [List.getElem?_map]
theorem le_line {n : Nat} (h : n ≤ 100000) : n ≤ sizeLine := Nat.le_trans h (by decide)
section
variable {P : Program} {w : World} {K : PySem.W.Frag} {mg : Str → Option Value} {base : Heap}

/-! ### is_shape -/
def fits : Int → List Int → Bool
  | _, [] => true
  | m, n :: l => decide (1 ≤ n) && decide (n ≤ m) && fits n l
def isShapeB (ns : List Int) : Bool := decide (1 ≤ ns.length) && decide (ns.length ≤ 5) && fits 6 ns
def spIsShape (K : PySem.W.Frag) : Sp := fun vs H Q _ => ∃ (a : Addr) (ns : List Int), vs = [.ref a] ∧ SqL K H a (ns.map V.int) ∧ Q (.bl (isShapeB ns)) H
theorem scIs : FnScope ["rows", "longest", "squares"] ["rows"] (defScope sIsShape) := ⟨rfl, rfl, rfl, by decide +kernel, rfl, by decide +kernel, by decide +kernel⟩
theorem ok_is {f : Addr} {fd : FuncData} (F : Fun K "is_shape" "is_shape" sIsShape f fd) (T : Txt K mg) : FnOk P w K mg base CX0 1 f fd ["rows"] (spIsShape K) := by
  refine F.ok scIs (fun vs H Q E h => ?_) (fun cdv A outer s H vs Q E hr h => ?_)
  · obtain ⟨a, ns, rfl, _⟩ := h
    rfl
  · obtain ⟨a, ns, rfl, ha, q⟩ := h
    obtain ⟨t5, h5⟩ := T.mRows
    obtain ⟨t6, h6⟩ := T.mSquares
    refine ⟨_, pss_cons (ps_if (pt_not (pt_chain op_le op_le pe_int (pe_callB call_len_seq (by rfl) T.len PySem.boot_len (pa_cons (pv 0) pa_nil)) (pe_glob (v := .int 5) rfl h5 ⟨_, rfl⟩))) (pss_one (ps_ret pe_bl)) pss_nil)
      (pss_cons (ps_set (i := 1) scIs.nd rfl (Or.inl rfl) (pe_glob (v := .int 6) rfl h6 ⟨_, rfl⟩))
      (pss_cons (ps_for PassesOwn.never rfl (pi_list (pv 0)) (pg_name (i := 2) scIs.nd rfl (Or.inl rfl))
        (pss_cons (ps_if (pt_not (pt_chain op_le op_le pe_int (pv 2) (pv 1))) (pss_one (ps_ret pe_bl)) pss_nil)
        (pss_one (ps_set (i := 1) scIs.nd rfl (Or.inl rfl) (pv 2)))))
      (pss_one (ps_ret pe_bl)))), ?_⟩
    simp [L2.start]
    refine ⟨ns.map V.int, .inl ha, ?_⟩
    rw [List.length_map]
    by_cases c1 : 1 ≤ ns.length
    · refine .inr ⟨by omega, ?_⟩
      by_cases c2 : ns.length ≤ 5
      · refine .inr ⟨by omega, ?_⟩
        have e0 : isShapeB ns = fits 6 ns := by simp [isShapeB, c1, c2]
        rw [e0] at q
        refine ⟨_, rfl, a, rfl, ⟨_, ha⟩, for_list (K := K) (a := a) (xs := ns.map V.int) (fun i σ H' => H' = H ∧ ∃ (m : Int) (v : Option V), σ = [some (.ref a), some (.int m), v] ∧ fits 6 ns = fits m (ns.drop i))
          ⟨rfl, 6, none, rfl, rfl⟩ (fun i σ H' _ h => by rw [h.1]; exact ha) ?_ ?_⟩
        · rintro i x σ H' hi ⟨rfl, m, v, rfl, hf⟩
          rw [List.getElem?_map] at hi
          obtain ⟨n, hn, rfl⟩ := Option.map_eq_some_iff.mp hi
          obtain ⟨hlt, he⟩ := List.getElem?_eq_some_iff.mp hn
          have ed : ns.drop i = n :: ns.drop (i + 1) := by rw [← he]; exact (List.getElem_cons_drop hlt).symm
          rw [ed] at hf
          simp
          by_cases d1 : 1 ≤ n
          · by_cases d2 : n ≤ m
            · refine .inr ⟨by omega, .inr ⟨by omega, ?_⟩⟩
              rw [hf]; simp [fits, d1, d2]
            · refine .inr ⟨by omega, .inl ⟨by omega, ?_⟩⟩
              have : fits 6 ns = false := by rw [hf]; simp [fits, d2]
              rw [this] at q; exact q
          · refine .inl ⟨by omega, ?_⟩
            have : fits 6 ns = false := by rw [hf]; simp [fits, d1]
            rw [this] at q; exact q
        · rintro σ H' ⟨rfl, m, v, rfl, hf⟩
          rw [List.length_map, List.drop_length] at hf
          simp
          rw [hf] at q
          exact q
      · refine .inl ⟨by omega, ?_⟩
        have : isShapeB ns = false := by simp [isShapeB, c2]
        rw [this] at q; exact q
    · refine .inl ⟨by omega, ?_⟩
      have : isShapeB ns = false := by simp [isShapeB, c1]
      rw [this] at q; exact q

/-! ### has_square -/
def hasB (s : List Nat) (i j : Int) : Bool := decide (1 ≤ i) && decide (i ≤ s.length) && (decide (1 ≤ j) && decide (j ≤ ((s[(i - 1).toNat]?.getD 0 : Nat) : Int)))
def spHas (K : PySem.W.Frag) : Sp := fun vs H Q _ => ∃ (a : Addr) (s : List Nat) (i j : Int), vs = [.ref a, .int i, .int j] ∧ H a = some (.tup (tv s)) ∧ Q (.bl (hasB s i j)) H
theorem scHas : FnScope ["shape", "row", "square"] ["shape", "row", "square"] (defScope sHas) := ⟨rfl, rfl, rfl, by decide +kernel, rfl, by decide +kernel, by decide +kernel⟩
theorem ok_has {f : Addr} {fd : FuncData} (F : Fun K "has_square" "has_square" sHas f fd) (T : Txt K mg) : FnOk P w K mg base CX0 1 f fd ["shape", "row", "square"] (spHas K) := by
  refine F.ok scHas (fun vs H Q E h => ?_) (fun cdv A outer s H vs Q E hr h => ?_)
  · obtain ⟨a, s, i, j, rfl, _⟩ := h
    rfl
  · obtain ⟨a, s, i, j, rfl, ha, q⟩ := h
    refine ⟨_, pss_one (ps_ret (pe_and (pe_chain op_le op_le pe_int (pv 1) (pe_callB call_len_seq (by rfl) T.len PySem.boot_len (pa_cons (pv 0) pa_nil)))
      (pe_one (pe_chain op_le op_le pe_int (pv 2) (pe_ix ix_tup (pv 0) (pe_op op_sub (pv 1) pe_int) (fun _ _ => rfl)))))), ?_⟩
    simp [L2.start, rIxT]
    unfold hasB at q
    by_cases c1 : 1 ≤ i
    · refine .inr ⟨c1, tv s, .inr (SqT.of ha), ?_⟩
      rw [tv_length]
      by_cases c2 : i ≤ s.length
      · refine .inr ⟨c2, ?_⟩
        by_cases c3 : 1 ≤ j
        · have hk : (i - 1).toNat < s.length := by omega
          refine .inr ⟨c3, tv s, SqT.of ha, V.int (s[(i - 1).toNat] : Nat), at_of (j := (i - 1).toNat) (by omega) (by rw [tv_get, List.getElem?_eq_getElem hk]; rfl), _, rfl, ?_⟩
          rw [List.getElem?_eq_getElem hk] at q
          simpa [c1, c2, c3] using q
        · exact .inl ⟨by omega, by simpa [c3] using q⟩
      · exact .inl ⟨by omega, by simpa [c2] using q⟩
    · exact .inl ⟨by omega, by simpa [c1] using q⟩
end
end Bb

end

section
set_option Elab.async false
set_option linter.all false
set_option maxRecDepth 100000
set_option maxHeartbeats 2000000
namespace Bb
open PySem PySem.Spec PyProof.Rows L2
section
variable {P : Program} {w : World} {K : PySem.W.Frag} {mg : Str → Option Value} {base : Heap}
theorem cutV_upto (s : List Nat) (k : Nat) : cutV (tv s) none (some (k : Int)) = tv (s.take k) := by
  unfold cutV
  rw [HT.sIx_none, HT.sIx_nat, List.drop_zero, Nat.sub_zero]
  unfold tv
  rw [← List.map_take, List.length_map]
  congr 1
  by_cases h : k ≤ s.length
  · rw [Nat.min_eq_left h]
  · rw [Nat.min_eq_right (by omega), List.take_of_length_le (by omega), List.take_of_length_le (by omega)]
theorem cutV_from (s : List Nat) (k : Nat) : cutV (tv s) (some (k : Int)) none = tv (s.drop k) := by
  unfold cutV
  rw [HT.sIx_none, HT.sIx_nat]
  unfold tv
  rw [← List.map_drop, ← List.map_take, List.length_map]
  congr 1
  by_cases h : k ≤ s.length
  · rw [Nat.min_eq_left h, List.take_of_length_le (by rw [List.length_drop]; omega)]
  · rw [Nat.min_eq_right (by omega), List.drop_of_length_le (by omega), List.drop_of_length_le (by omega)]; simp
/-! ### left_by_bite -/
def spLeft : Sp := fun vs H Q _ => ∃ (a : Addr) (s : List Nat) (i j : Nat), vs = [.ref a, .int (i : Int), .int (j : Int)] ∧ 1 ≤ i ∧ 1 ≤ j ∧ s.length ≤ 1000 ∧ H a = some (.tup (tv s)) ∧
  ∀ p H', Same H H' → H' p = some (.tup (tv (Ma.cut s i j))) → Q (.ref p) H'
theorem scLeft : FnScope ["shape", "row", "square", "untouched", "squares"] ["shape", "row", "square"] (defScope sLeft) := ⟨rfl, rfl, rfl, by decide +kernel, rfl, by decide +kernel, by decide +kernel⟩
theorem ok_left {f : Addr} {fd : FuncData} (F : Fun K "left_by_bite" "left_by_bite" sLeft f fd) (T : Txt K mg) : FnOk P w K mg base CX0 1 f fd ["shape", "row", "square"] spLeft := by
  refine F.ok scLeft (fun vs H Q E h => ?_) (fun cdv A outer s H vs Q E hr h => ?_)
  · obtain ⟨a, s, i, j, rfl, _⟩ := h
    rfl
  · obtain ⟨a, s, i, j, rfl, hi, hj, hl, ha, q⟩ := h
    refine ⟨_, pss_cons (ps_set (i := 3) scLeft.nd rfl (Or.inl rfl) (pe_slice sl_tupA (pv 0) po_none (po_some (pe_op op_sub (pv 1) pe_int))))
      (pss_cons (ps_if (pt_cmpR op_eq (pv 2) pe_int (nomark _)) (pss_one (ps_ret (pv 3))) pss_nil)
      (pss_one (ps_ret (pe_op op_catA (pv 3) (pe_callTy call_tuple_of (by rfl) T.tuple PyProof.Rows.boot_tuple (pa_cons
        (pe_lc (own := [("squares", 4)]) rfl scLeft.nd (pi_tup (pe_slice sl_tupA (pv 0) (po_some (pe_op op_sub (pv 1) pe_int)) po_none)) (blkOk_by (by show blkC ["shape", "row", "square", "untouched", "squares"] (defScope sLeft) _ _ = true; decide +kernel))
          (fun s H C cl fp => pg_name (i := 4) scLeft.nd rfl (Or.inl rfl)) (fun s H C cl fp => pts_nil)
          (fun s H C cl fp => pe_callB (call_min2 rfl) (by rfl) T.min PyProof.Rows.boot_min (pa_cons (pv 4) (pa_cons (pe_op op_sub (pv 2) pe_int) pa_nil)))) pa_nil)))))), ?_⟩
    simp [L2.start, rSlA, rEq, scal]
    refine ⟨tv s, ha, fun p H1 h1 hp => ?_⟩
    have ei : (i : Int) - 1 = ((i - 1 : Nat) : Int) := by omega
    rw [ei, cutV_upto] at hp
    by_cases c : j = 1
    · refine .inr ⟨by omega, q p H1 h1 ?_⟩
      rw [hp]; unfold Ma.cut; rw [if_pos c, List.append_nil]
    · refine .inl ⟨by omega, ?_⟩
      refine ⟨_, rfl, _, rfl, _, _, rfl, rfl, _, rfl, a, tv s, rfl, h1 _ _ ha, fun p2 H2 h2 hp2 => ⟨p2, rfl, ⟨_, SqT.of hp2⟩, fun D hD => ?_⟩⟩
      have hp2 : H2 p2 = some (.tup (tv (s.drop (i - 1)))) := by
        have e : cutV (tv s) (some ((i : Int) - 1)) none = tv (s.drop (i - 1)) := by rw [ei, cutV_from]
        rw [← e]; exact hp2
      have h3 : Same H2 (upd H2 D (.lst [])) := upd_same_of hD
      refine lc_tup (K := K) (a := p2) (xs := tv (s.drop (i - 1))) (fun k H' => (∀ b o, H2 b = some o → H' b = some o) ∧ H' D = some (.lst (tv (((s.drop (i - 1)).take k).map fun n => min n (j - 1)))))
        ⟨h3, upd_same⟩ (fun k H' _ h => SqT.of (h.1 _ _ hp2)) ?_ ?_
      · rintro k x H' hk ⟨hs, hD'⟩
        rw [tv_get] at hk
        obtain ⟨n, hn, rfl⟩ := Option.map_eq_some_iff.mp hk
        simp [wipe, tYes]
        refine ⟨_, _, ⟨rfl, rfl⟩, _, hD', ?_, fun b o e => ?_, ?_⟩
        · rw [tv_length, List.length_map, List.length_take, List.length_drop]
          exact Nat.lt_of_le_of_lt (show _ ≤ 1000 by omega) (by decide)
        · rw [upd_ne (ne_of_none e hD)]; exact hs b o e
        · rw [upd_same, ← List.map_drop, ← List.map_take, List.take_add_one, hn]
          simp only [Option.toList_some, List.map_append, List.map_cons, List.map_nil, tv_append, tv_cons, tv_nil]
          have : (if (j : Int) - 1 < (n : Int) then (j : Int) - 1 else (n : Int)) = ((min n (j - 1) : Nat) : Int) := by split <;> omega
          rw [this]
      · rintro H' ⟨hs, hD'⟩
        rw [tv_length, List.take_of_length_le (Nat.le_refl _)] at hD'
        refine ⟨D, rfl, _, .inl ⟨SqL.of hD', fun l hl2 => ?_⟩⟩
        have h5 : Same H' (upd H' l (.tup (tv ((s.drop (i - 1)).map fun n => min n (j - 1))))) := upd_same_of hl2
        refine ⟨p, l, _, _, rfl, rfl, h5 _ _ (hs _ _ (h2 _ _ hp)), upd_same, ?_, fun p' H6 h6 hp' => q p' H6 ?_ ?_⟩
        · rw [tv_length, tv_length, List.length_map, List.length_take, List.length_drop]
          exact le_line (by omega)
        · exact ((h1.trans h2).trans (show Same H2 H' from hs)).trans (h5.trans h6)
        · rw [hp', ← tv_append]; unfold Ma.cut; rw [if_neg c]
end
end Bb

end

section
set_option Elab.async false
set_option linter.all false
set_option maxRecDepth 100000
set_option maxHeartbeats 2000000
namespace Bb
open PySem PySem.Spec PyProof.Rows L2
open Ma (fitN grow1 grow lev lev_snoc within)
/-- tuples of these shapes stand at these places -/
def Tups (H : Hp) : List Addr → List (List Nat) → Prop
  | [], [] => True
  | a :: as, s :: L => H a = some (.tup (tv s)) ∧ Tups H as L
  | _, _ => False
/-- tuples stay -/
def TK (H H' : Hp) : Prop := ∀ a xs, H a = some (.tup xs) → H' a = some (.tup xs)
theorem TK.of {H H' : Hp} (h : Same H H') : TK H H' := fun a xs e => h a _ e
theorem TK.trans {H H1 H2 : Hp} (a : TK H H1) (b : TK H1 H2) : TK H H2 := fun x xs e => b x xs (a x xs e)
theorem TK.upd {H : Hp} {g : Addr} {xs : List V} {o : HO} (h : H g = some (.lst xs)) : TK H (upd H g o) := fun a ys e => by
  rw [upd_ne (ne_of e h (by intro z; cases z))]; exact e
theorem Tups.keep {H H' : Hp} (k : TK H H') : ∀ {as : List Addr} {L : List (List Nat)}, Tups H as L → Tups H' as L
  | [], [], _ => True.intro
  | _ :: _, _ :: _, h => ⟨k _ _ h.1, Tups.keep k h.2⟩
  | [], _ :: _, h => h.elim
  | _ :: _, [], h => h.elim
theorem Tups.append {H : Hp} : ∀ {as bs : List Addr} {L M : List (List Nat)}, Tups H as L → Tups H bs M → Tups H (as ++ bs) (L ++ M)
  | [], _, [], _, _, h => h
  | _ :: _, _, _ :: _, _, h, h' => ⟨h.1, Tups.append h.2 h'⟩
  | [], _, _ :: _, _, h, _ => h.elim
  | _ :: _, _, [], _, h, _ => h.elim
theorem Tups.length {H : Hp} : ∀ {as : List Addr} {L : List (List Nat)}, Tups H as L → as.length = L.length
  | [], [], _ => rfl
  | _ :: _, _ :: _, h => by rw [List.length_cons, List.length_cons, Tups.length h.2]
  | [], _ :: _, h => h.elim
  | _ :: _, [], h => h.elim
theorem Tups.get {H : Hp} : ∀ {as : List Addr} {L : List (List Nat)} {i : Nat} {a : Addr}, Tups H as L → as[i]? = some a → ∃ s, L[i]? = some s ∧ H a = some (.tup (tv s))
  | [], [], i, a, _, e => by simp at e
  | b :: as, s :: L, 0, a, h, e => by
    simp at e; subst e
    exact ⟨s, rfl, h.1⟩
  | b :: as, s :: L, i + 1, a, h, e => by
    obtain ⟨t, h1, h2⟩ := Tups.get (i := i) h.2 (by simpa using e)
    exact ⟨t, by simpa using h1, h2⟩
  | [], _ :: _, _, _, h, _ => h.elim
  | _ :: _, [], _, _, h, _ => h.elim
theorem take_snoc {α : Type} {l : List α} {i : Nat} {x : α} (h : l[i]? = some x) : l.take (i + 1) = l.take i ++ [x] := by
  rw [List.take_add_one, h]; rfl
theorem ref_of {as : List Addr} {i : Nat} {x : V} (h : (as.map V.ref)[i]? = some x) : ∃ a, as[i]? = some a ∧ x = .ref a := by
  rw [List.getElem?_map] at h
  obtain ⟨a, h1, h2⟩ := Option.map_eq_some_iff.mp h
  exact ⟨a, h1, h2.symm⟩
theorem grow_len (m : Nat) (L : List (List Nat)) : (grow m L).length ≤ L.length * m := by
  unfold grow
  induction L with
  | nil => simp
  | cons s L ih =>
    rw [List.flatMap_cons, List.length_append, List.length_cons, Nat.succ_mul]
    have : (grow1 m s).length ≤ m := by
      unfold grow1 fitN
      rw [List.length_map, List.length_range]
      split <;> omega
    omega
section
variable {P : Program} {w : World} {K : PySem.W.Frag} {mg : Str → Option Value} {base : Heap}
/-! ### with_one_more_row -/
def spGrow : Sp := fun vs H Q _ => ∃ (l : Addr) (m : Nat) (as : List Addr) (L : List (List Nat)), vs = [.ref l, .int (m : Int)] ∧ m ≤ 100 ∧ L.length ≤ 10000 ∧ (∀ s ∈ L, s.length ≤ 100) ∧ H l = some (.lst (as.map V.ref)) ∧ Tups H as L ∧
  ∀ p H' as', Same H H' → H p = none → H' p = some (.lst (as'.map V.ref)) → Tups H' as' (grow m L) → Q (.ref p) H'
theorem scGrow : FnScope ["shapes", "longest", "grown", "shape", "fitting", "squares"] ["shapes", "longest"] (defScope sGrow) := ⟨rfl, rfl, rfl, by decide +kernel, rfl, by decide +kernel, by decide +kernel⟩
theorem grow_inner {H0 H' : Hp} {l g a : Addr} {u : List Nat} {m k : Nat} {v5 : Option V} {bs : List Addr} {M : List (List Nat)} {D : Ends} (hk : k ≤ 100) (hul : u.length ≤ 100) (hM : M.length ≤ 1000000) (hg : H0 g = none) (h1 : Same H0 H')
    (h2 : H' g = some (.lst (bs.map V.ref))) (h3 : Tups H' bs M) (ha : H' a = some (.tup (tv u)))
    (q : ∀ v5 bs' H2, Same H0 H2 → H2 g = some (.lst (List.map V.ref bs')) → Tups H2 bs' (M ++ (List.range k).map fun n => u ++ [1 + n]) → D.nx [some (.ref l), some (.int m), some (.ref g), some (.ref a), some (.int (k : Int)), v5] H2) :
    tFor (iRng2 (tCons (tC (V.int 1)) (tCons (tOp (rI0 fun i j => V.int (i + j)) (tVar 4) (tC (V.int 1))) tNil))) (gName 5)
      (tDrop (tBM K "list" rAppend (tVar 2) (tCons (tOp rCatA (tVar 3) (tTup (tCons (tVar 5) tNil))) tNil))) D
      [some (.ref l), some (.int m), some (.ref g), some (.ref a), some (.int (k : Int)), v5] H' := by
  unfold tFor
  simp only [rd_rng2, rd_cons, rd_C, rd_op, rd_var, rd_I0, rd_nil]
  refine ⟨_, rfl, _, _, rfl, rfl, 1, (k : Int) + 1, rfl, ⟨by omega, by omega, by omega, by omega⟩, ?_⟩
  rw [show ((k : Int) + 1 - 1).toNat = k by omega]
  refine for_range (lo := 1) (n := k) (fun i σ H2 => ∃ (v : Option V) (bs' : List Addr), σ = [some (.ref l), some (.int m), some (.ref g), some (.ref a), some (.int (k : Int)), v] ∧ Same H0 H2 ∧ TK H' H2 ∧ H2 g = some (.lst (bs'.map V.ref)) ∧ Tups H2 bs' (M ++ (List.range i).map fun n => u ++ [1 + n]))
    ⟨v5, bs, rfl, h1, fun _ _ e => e, h2, by simpa using h3⟩ ?_ ?_
  · rintro i σ H2 hi ⟨v, bs', rfl, d1, d2, d3, d4⟩
    simp [rAppend, rCatA]
    refine ⟨tyL d3, by decide, fun p hp => ?_⟩
    have e1 : Same H2 (upd H2 p (.tup [V.int (1 + (i : Int))])) := upd_same_of hp
    refine ⟨_, e1 _ _ (d2 _ _ ha), _, upd_same, by rw [tv_length]; exact le_line (by simp; omega), fun p' H3 e2 hp' => ?_⟩
    have d3' := e2 _ _ (e1 _ _ d3)
    have kt : TK H3 (upd H3 g (.lst (bs'.map V.ref ++ [V.ref p']))) := TK.upd d3'
    refine ⟨_, d3', ?_, ?_⟩
    · rw [List.length_map, d4.length, List.length_append, List.length_map, List.length_range]
      exact Nat.lt_of_le_of_lt (show _ ≤ 2000000 by omega) (by decide)
    · refine ⟨fun b o e => ?_, ((d2.trans (TK.of (e1.trans e2))).trans kt), bs' ++ [p'], ?_, ?_⟩
      · rw [upd_ne (ne_of_none e hg)]; exact e2 _ _ (e1 _ _ (d1 _ _ e))
      · rw [upd_same]; simp
      · rw [List.range_succ, List.map_append, ← List.append_assoc]
        refine Tups.append (d4.keep ((TK.of (e1.trans e2)).trans kt)) ⟨?_, True.intro⟩
        refine kt _ _ ?_
        rw [hp', tv_append]
        simp
  · rintro σ H2 ⟨v, bs', rfl, d1, d2, d3, d4⟩
    exact q v bs' H2 d1 d3 d4
theorem ok_grow {f : Addr} {fd : FuncData} (F : Fun K "with_one_more_row" "with_one_more_row" sGrow f fd) (T : Txt K mg) : FnOk P w K mg base CX0 1 f fd ["shapes", "longest"] spGrow := by
  refine F.ok scGrow (fun vs H Q E h => ?_) (fun cdv A outer s H vs Q E hr h => ?_)
  · obtain ⟨l, m, as, L, rfl, _⟩ := h
    rfl
  · obtain ⟨l, m, as, L, rfl, hm, hL, hS, hl, ht, q⟩ := h
    refine ⟨_, pss_cons (ps_set (i := 2) scGrow.nd rfl (Or.inl rfl) (pe_lst pa_nil))
      (pss_cons (ps_for PassesOwn.never rfl (pi_list (pv 0)) (pg_name (i := 3) scGrow.nd rfl (Or.inl rfl))
        (pss_cons (ps_set (i := 4) scGrow.nd rfl (Or.inl rfl) (pe_ifExp (pt_truth (pv 3) (fun _ => rfl))
            (pe_callB (call_min2 rfl) (by rfl) T.min PyProof.Rows.boot_min (pa_cons (pv 1) (pa_cons (pe_ix ix_tup (pv 3) (pe_un un_neg pe_int) (fun _ _ => rfl)) pa_nil))) (pv 1)))
        (pss_one (ps_for PassesOwn.never rfl (pi_range2 rfl T.range (pa_cons pe_int (pa_cons (pe_op op_add (pv 4) pe_int) pa_nil))) (pg_name (i := 5) scGrow.nd rfl (Or.inl rfl))
          (pss_one (ps_expr (pe_bm PySem.F.plainAttrs_list PySem.F.slot_list_append PySem.F.type_list_append mt_append (pv 2) (pa_cons (pe_op op_catA (pv 3) (pe_tup (pa_cons (pv 5) pa_nil))) pa_nil))))))))
      (pss_one (ps_ret (pv 2)))), ?_⟩
    simp [L2.start]
    intro g hg
    have s0 : Same H (upd H g (.lst [])) := upd_same_of hg
    refine ⟨_, rfl, l, rfl, ⟨_, SqL.of (s0 _ _ hl)⟩, for_list (K := K) (a := l) (xs := as.map V.ref)
      (fun i σ H' => ∃ (v3 v4 v5 : Option V) (bs : List Addr), σ = [some (.ref l), some (.int m), some (.ref g), v3, v4, v5] ∧ Same H H' ∧ H' g = some (.lst (bs.map V.ref)) ∧ Tups H' bs (grow m (L.take i)))
      ⟨none, none, none, [], rfl, s0, upd_same, True.intro⟩ (fun i σ H' _ h => by obtain ⟨_, _, _, _, _, h2, _⟩ := h; exact SqL.of (h2 _ _ hl)) ?_ ?_⟩
    · rintro i x σ H' hi ⟨v3, v4, v5, bs, rfl, h1, h2, h3⟩
      obtain ⟨a, ha, rfl⟩ := ref_of hi
      obtain ⟨u, hu, hau⟩ := ht.get ha
      have hau' := h1 _ _ hau
      have hul : u.length ≤ 100 := hS u (List.mem_of_getElem? hu)
      have nxt : grow m (L.take (i + 1)) = grow m (L.take i) ++ grow1 m u := by
        unfold grow; rw [take_snoc hu, List.flatMap_append]; simp
      have hM : (grow m (L.take i)).length ≤ 1000000 := Nat.le_trans (grow_len m (L.take i)) (Nat.le_trans (Nat.mul_le_mul (by rw [List.length_take]; omega) hm : _ ≤ 10000 * 100) (by decide))
      simp
      by_cases c : u = []
      · subst c
        refine .inl ⟨truT hau' rfl, grow_inner hm hul hM hg h1 h2 h3 hau' fun v bs' H2 d1 d2 d3 => ⟨⟨_, _, _, rfl⟩, d1, bs', d2, ?_⟩⟩
        rw [nxt]; exact d3
      · obtain ⟨n, hn⟩ : ∃ n, u.getLast? = some n := ⟨_, List.getLast?_eq_some_getLast c⟩
        refine .inr ⟨truT hau' (by cases u with | nil => exact absurd rfl c | cons _ _ => rfl), a, tv u, -1, V.int (n : Int), rfl, rfl, SqT.of hau', ?_, _, _, ⟨rfl, rfl⟩, ?_⟩
        · have e : tv u = tv u.dropLast ++ [V.int (n : Int)] := by
            have e2 : u = u.dropLast ++ [n] := by
              rw [List.getLast?_eq_some_getLast c] at hn
              rw [← Option.some.inj hn, List.dropLast_concat_getLast]
            conv => lhs; rw [e2, tv_append]
            rfl
          rw [e]; exact atI_last _ _
        · have ek : (if (n : Int) < (m : Int) then (n : Int) else (m : Int)) = ((fitN m u : Nat) : Int) := by
            unfold fitN; rw [hn]; dsimp only; split <;> omega
          rw [ek]
          have hk : fitN m u ≤ 100 := by unfold fitN; rw [hn]; dsimp only; omega
          refine grow_inner hk hul hM hg h1 h2 h3 hau' fun v bs' H2 d1 d2 d3 => ⟨⟨_, _, _, rfl⟩, d1, bs', d2, ?_⟩
          rw [nxt]; exact d3
    · rintro σ H' ⟨v3, v4, v5, bs, rfl, h1, h2, h3⟩
      simp
      rw [List.length_map, ht.length, List.take_length] at h3
      exact q g H' bs h1 hg h2 h3
/-! ### shapes_within -/
theorem lev_len (s : List Nat) (h : ∀ n ∈ s, n ≤ 6) : (lev s).length ≤ 6 ^ s.length := by
  unfold lev
  have go : ∀ (s : List Nat) (L : List (List Nat)), (∀ n ∈ s, n ≤ 6) → (s.foldl (fun L m => grow m L) L).length ≤ L.length * 6 ^ s.length := by
    intro s
    induction s with
    | nil => intro L _; simp
    | cons m s ih =>
      intro L h
      rw [List.foldl_cons, List.length_cons, Nat.pow_succ]
      have h1 := ih (grow m L) (fun n hn => h n (by simp [hn]))
      have h2 := grow_len m L
      have h3 : L.length * m ≤ L.length * 6 := Nat.mul_le_mul_left _ (h m (by simp))
      have h4 : (grow m L).length * 6 ^ s.length ≤ L.length * 6 * 6 ^ s.length := Nat.mul_le_mul_right _ (Nat.le_trans h2 h3)
      have h5 : L.length * 6 * 6 ^ s.length = L.length * (6 ^ s.length * 6) := by rw [Nat.mul_assoc, Nat.mul_comm 6]
      omega
  simpa using go s [[]] h
theorem lev_row (s : List Nat) : ∀ t ∈ lev s, t.length = s.length := by
  have go : ∀ (s : List Nat) (L : List (List Nat)) (k : Nat), (∀ t ∈ L, t.length = k) → ∀ t ∈ s.foldl (fun L m => grow m L) L, t.length = k + s.length := by
    intro s
    induction s with
    | nil => intro L k h t ht; simpa using h t ht
    | cons m s ih =>
      intro L k h t ht
      rw [List.foldl_cons] at ht
      have := ih (grow m L) (k + 1) (fun u hu => by
        unfold grow at hu
        obtain ⟨v, hv, hu⟩ := List.mem_flatMap.mp hu
        unfold grow1 at hu
        obtain ⟨n, _, rfl⟩ := List.mem_map.mp hu
        rw [List.length_append, h v hv]; rfl) t ht
      rw [this, List.length_cons]; omega
  intro t ht
  simpa using go s [[]] 0 (by simp) t ht
def spWithin : Sp := fun vs H Q _ => ∃ (a : Addr) (s : List Nat), vs = [.ref a] ∧ Ma.Good s ∧ H a = some (.tup (tv s)) ∧
  ∀ p H' as, Same H H' → H p = none → H' p = some (.lst (as.map V.ref)) → Tups H' as (within s) → Q (.ref p) H'
theorem scWithin : FnScope ["shape", "found", "grown", "squares"] ["shape"] (defScope sWithin) := ⟨rfl, rfl, rfl, by decide +kernel, rfl, by decide +kernel, by decide +kernel⟩
theorem ok_within {f fG : Addr} {fd fdG : FuncData} (F : Fun K "shapes_within" "shapes_within" sWithin f fd) (T : Txt K mg) (FG : Fun K "with_one_more_row" "with_one_more_row" sGrow fG fdG) (bG : Binds K fdG ["shapes", "longest"] []) (mG : mg "with_one_more_row" = some (.ref fG)) :
    FnOk P w K mg base CX0 2 f fd ["shape"] spWithin := by
  have GG : FnOk P w K mg base CX0 1 fG fdG ["shapes", "longest"] spGrow := ok_grow FG T
  refine F.ok scWithin (fun vs H Q E h => ?_) (fun cdv A outer s H vs Q E hr h => ?_)
  · obtain ⟨a, s, rfl, _⟩ := h
    rfl
  · obtain ⟨a, s, rfl, hs, ha, q⟩ := h
    refine ⟨_, pss_cons (ps_set (i := 1) scWithin.nd rfl (Or.inl rfl) (pe_lst pa_nil))
      (pss_cons (ps_set (i := 2) scWithin.nd rfl (Or.inl rfl) (pe_lst (pa_cons (pe_tup pa_nil) pa_nil)))
      (pss_cons (ps_for PassesOwn.never rfl (pi_tup (pv 0)) (pg_name (i := 3) scWithin.nd rfl (Or.inl rfl))
        (pss_cons (ps_set (i := 2) scWithin.nd rfl (Or.inl rfl) (pe_call GG hr rfl mG FG.kp bG .nil pass0 (pa_cons (pv 2) (pa_cons (pv 3) pa_nil))))
        (pss_one (ps_expr (pe_bm PySem.F.plainAttrs_list PySem.F.slot_list_extend PySem.F.type_list_extend mt_extend (pv 1) (pa_cons (pv 2) pa_nil))))))
      (pss_one (ps_ret (pv 1))))), ?_⟩
    simp [L2.start]
    intro fo hfo p hp
    refine ⟨by decide, fun g hg => ?_⟩
    obtain ⟨hs1, hs2, hs3⟩ := Ma.fit_iff.mp hs
    have s1 : Same H (upd H fo (.lst [])) := upd_same_of hfo
    have s2 : Same (upd H fo (.lst [])) (upd (upd H fo (.lst [])) p (.tup [])) := upd_same_of hp
    have s3 : Same (upd (upd H fo (.lst [])) p (.tup [])) (upd (upd (upd H fo (.lst [])) p (.tup [])) g (.lst [V.ref p])) := upd_same_of hg
    have s4 := (s1.trans s2).trans s3
    have hfo4 := s3 _ _ (s2 _ _ (upd_same : upd H fo (.lst []) fo = some (.lst [])))
    refine ⟨_, rfl, a, rfl, ⟨_, SqT.of (s4 _ _ ha)⟩, for_tup (K := K) (a := a) (xs := tv s)
      (fun i σ H' => ∃ (v3 : Option V) (gr : Addr) (as bs : List Addr), σ = [some (.ref a), some (.ref fo), some (.ref gr), v3] ∧ Same H H' ∧ gr ≠ fo ∧ H' fo = some (.lst (as.map V.ref)) ∧ Tups H' as ((List.range i).flatMap fun k => lev (s.take (k + 1)))
        ∧ H' gr = some (.lst (bs.map V.ref)) ∧ Tups H' bs (lev (s.take i)))
      ⟨none, g, [], [p], rfl, s4, (ne_of_none (s2 _ _ upd_same) hg).symm, hfo4, True.intro, upd_same, s3 _ _ upd_same, True.intro⟩
      (fun i σ H' _ h => by obtain ⟨_, _, _, _, _, h2, _⟩ := h; exact SqT.of (h2 _ _ ha)) ?_ ?_⟩
    · rintro i x σ H' hi ⟨v3, gr, as, bs, rfl, d1, d2, d3, d4, d5, d6⟩
      rw [tv_get] at hi
      obtain ⟨n, hn, rfl⟩ := Option.map_eq_some_iff.mp hi
      have hil : i < s.length := (List.getElem?_eq_some_iff.mp hn).1
      have hn6 := (hs2 n (List.mem_of_getElem? hn)).2
      have small : ∀ k, k ≤ 5 → (lev (s.take k)).length ≤ 10000 := fun k hk => by
        refine Nat.le_trans (lev_len _ fun z hz => (hs2 z (List.mem_of_mem_take hz)).2) (Nat.le_trans (Nat.pow_le_pow_right (by decide) (show (s.take k).length ≤ 5 by rw [List.length_take]; omega)) (by decide))
      simp [spGrow, rExtend]
      refine ⟨gr, n, ⟨rfl, rfl⟩, by omega, bs, lev (s.take i), small i (by omega), fun t ht => ?_, d5, d6, fun p' H2 as' e1 e2 e3 e4 => ⟨tyL (e1 _ _ d3), _, e1 _ _ d3, _, e3, ?_, ?_⟩⟩
      · rw [lev_row _ t ht, List.length_take]; omega
      · rw [List.length_map, List.length_map, d4.length, e4.length]
        have h1 : ∀ k, k ≤ 5 → ((List.range k).flatMap fun k => lev (s.take (k + 1))).length ≤ k * 10000 := fun k hk => by
          induction k with
          | zero => simp
          | succ k ih =>
            rw [List.range_succ, List.flatMap_append, List.length_append, List.flatMap_singleton]
            have := ih (by omega)
            have := small (k + 1) hk
            omega
        have h2 := h1 i (by omega)
        have h3 : (grow n (lev (s.take i))).length ≤ 10000 := by
          have := small (i + 1) (by omega)
          rw [take_snoc hn, lev_snoc] at this; exact this
        exact Nat.le_trans (show _ ≤ 100000 by omega) (by decide)
      · have kt : TK H2 (upd H2 fo (.lst (as.map V.ref ++ as'.map V.ref))) := TK.upd (e1 _ _ d3)
        have hne : p' ≠ fo := (ne_of_none d3 e2).symm
        refine ⟨_, p', ⟨rfl, rfl⟩, fun b o e => ?_, hne, as ++ as', by rw [upd_same]; simp, ?_, as', by rw [upd_ne hne]; exact e3, ?_⟩
        · rw [upd_ne (ne_of_none e hfo)]; exact e1 _ _ (d1 _ _ e)
        · rw [List.range_succ, List.flatMap_append]
          refine (d4.keep ((TK.of e1).trans kt)).append ?_
          rw [List.flatMap_singleton, take_snoc hn, lev_snoc]
          exact e4.keep kt
        · rw [take_snoc hn, lev_snoc]; exact e4.keep kt
    · rintro σ H' ⟨v3, gr, as, bs, rfl, d1, d2, d3, d4, d5, d6⟩
      rw [tv_length] at d4
      simp
      exact q fo H' as d1 hfo d3 d4
end
end Bb

end

section
set_option Elab.async false
set_option linter.all false
set_option maxRecDepth 100000
set_option maxHeartbeats 2000000
namespace Bb
open PySem PySem.Spec PyProof.Rows L2
abbrev sLInit : Stmt := inClass (top 29) 0
abbrev sLRead : Stmt := inClass (top 29) 1
abbrev sLTake : Stmt := inClass (top 29) 2
abbrev sLList : Stmt := inClass (top 29) 3
/-- a Line's values -/
def lineF (c : Addr) (p : Nat) : List (Str × V) := [("calls", .ref c), ("place", .int (p : Int))]
theorem seq_upd {K : PySem.W.Frag} {H : Hp} {c x C dx : Addr} {xs : List V} {fs : List (Str × V)} {o : HO} (h : SqL K H c xs) (hx : H x = some (.ins C dx fs)) : SqL K (upd H x o) c xs := by
  rcases h with (h | ⟨ob, h⟩) | h
  · exact .inl (.inl (by rw [upd_ne (ne_of h hx (by intro z; cases z))]; exact h))
  · exact .inl (.inr ⟨ob, by rw [upd_ne (ne_of h hx (by intro z; cases z))]; exact h⟩)
  · exact .inr h
structure TxtL (K : PySem.W.Frag) (mg : Str → Option Value) (C : Addr) : Prop where
  cl : Cls K C
  nC : NoAttr K C "calls"
  nP : NoAttr K C "place"
  len : mg "len" = none
section
variable {P : Program} {w : World} {K : PySem.W.Frag} {mg : Str → Option Value} {base : Heap} {C : Addr}
def spLInit (C : Addr) : Sp := fun vs H Q _ => ∃ (x dx c : Addr), vs = [.ref x, .ref c] ∧ H x = some (.ins C dx []) ∧ ∀ H' : Hp, H' x = some (.ins C dx (lineF c 0)) → (∀ b o, H b = some o → b ≠ x → H' b = some o) → Q .non H'
theorem scLI : FnScope ["self", "calls"] ["self", "calls"] (defScope sLInit) := ⟨rfl, rfl, rfl, by decide +kernel, rfl, by decide +kernel, by decide +kernel⟩
theorem ok_linit {f : Addr} {fd : FuncData} (F : Fun K "__init__" "Line.__init__" sLInit f fd) (T : TxtL K mg C) : FnOk P w K mg base CX0 1 f fd ["self", "calls"] (spLInit C) := by
  refine F.ok scLI (fun vs H Q E h => ?_) (fun cdv A outer s H vs Q E hr h => ?_)
  · obtain ⟨x, dx, c, rfl, _⟩ := h
    rfl
  · obtain ⟨x, dx, c, rfl, hx, k⟩ := h
    refine ⟨_, pss_cons (ps_fld (pv 0) (pv 1) rfl) (pss_one (ps_fld (pv 0) pe_int rfl)), ?_⟩
    refine ⟨_, rfl, _, rfl, x, C, dx, [], rfl, hx, T.cl, T.nC, by decide, _, rfl, x, C, dx, _, rfl, upd_same, T.cl, T.nP, by show _ < _; simp [putF, lineF], ?_⟩
    refine k _ (by rw [upd_same]; rfl) fun b o e hb => by rw [upd_ne hb, upd_ne hb]; exact e
def spRead (K : PySem.W.Frag) (C : Addr) : Sp := fun vs H Q _ => ∃ (x dx c : Addr) (p : Nat) (xs : List V), vs = [.ref x] ∧ H x = some (.ins C dx (lineF c p)) ∧ SqL K H c xs ∧ Q (.bl (decide (p = xs.length))) H
theorem scLR : FnScope ["self"] ["self"] (defScope sLRead) := ⟨rfl, rfl, rfl, by decide +kernel, rfl, by decide +kernel, by decide +kernel⟩
theorem ok_read {f : Addr} {fd : FuncData} (F : Fun K "is_read" "Line.is_read" sLRead f fd) (T : TxtL K mg C) : FnOk P w K mg base CX0 1 f fd ["self"] (spRead K C) := by
  refine F.ok scLR (fun vs H Q E h => ?_) (fun cdv A outer s H vs Q E hr h => ?_)
  · obtain ⟨x, dx, c, p, xs, rfl, _⟩ := h
    rfl
  · obtain ⟨x, dx, c, p, xs, rfl, hx, hc, k⟩ := h
    refine ⟨_, pss_one (ps_ret (pe_cmpR op_eq (pe_fld (pv 0) rfl) (pe_callB call_len_seq (by rfl) T.len PySem.boot_len (pa_cons (pe_fld (pv 0) rfl) pa_nil)) (nomark _))), ?_⟩
    refine ⟨_, rfl, x, C, dx, _, .int (p : Int), rfl, hx, T.cl, T.nP, rfl, _, rfl, x, C, dx, _, .ref c, rfl, hx, T.cl, T.nC, rfl, c, xs, rfl, .inl hc, rfl, ?_⟩
    have e : decide (V.int (p : Int) = V.int (xs.length : Int)) = decide (p = xs.length) := by
      by_cases h : p = xs.length
      · rw [h]; simp
      · rw [decide_eq_false h, decide_eq_false]
        intro z; injection z with z; omega
    rw [e]; exact k
def spTake (K : PySem.W.Frag) (C : Addr) : Sp := fun vs H Q _ => ∃ (x dx c : Addr) (p : Nat) (xs : List V) (v : V), vs = [.ref x] ∧ H x = some (.ins C dx (lineF c p)) ∧ SqL K H c xs ∧ xs[p]? = some v ∧ Q v (upd H x (.ins C dx (lineF c (p + 1))))
theorem scLT : FnScope ["self", "number"] ["self"] (defScope sLTake) := ⟨rfl, rfl, rfl, by decide +kernel, rfl, by decide +kernel, by decide +kernel⟩
theorem ok_take {f : Addr} {fd : FuncData} (F : Fun K "take" "Line.take" sLTake f fd) (T : TxtL K mg C) : FnOk P w K mg base CX0 1 f fd ["self"] (spTake K C) := by
  refine F.ok scLT (fun vs H Q E h => ?_) (fun cdv A outer s H vs Q E hr h => ?_)
  · obtain ⟨x, dx, c, p, xs, v, rfl, _⟩ := h
    rfl
  · obtain ⟨x, dx, c, p, xs, v, rfl, hx, hc, hv, k⟩ := h
    refine ⟨_, pss_cons (ps_set (i := 1) scLT.nd rfl (Or.inl rfl) (pe_ix ix_list (pe_fld (pv 0) rfl) (pe_fld (pv 0) rfl) (fun _ _ => rfl)))
      (pss_cons (ps_fldaug (pv 0) pe_int in_add) (pss_one (ps_ret (pv 1)))), ?_⟩
    refine ⟨_, rfl, x, C, dx, _, .ref c, rfl, hx, T.cl, T.nC, rfl, _, rfl, x, C, dx, _, .int (p : Int), rfl, hx, T.cl, T.nP, rfl, c, xs, _, v, rfl, rfl, hc, atI_nat hv, ?_⟩
    refine ⟨_, rfl, x, C, dx, _, .int (p : Int), rfl, hx, T.cl, T.nP, rfl, _, _, rfl, rfl, dx, _, hx, by simp [lineF], _, rfl, ?_⟩
    exact k
def spTakeL (K : PySem.W.Frag) (C : Addr) : Sp := fun vs H Q _ => ∃ (x dx c : Addr) (p n : Nat) (xs : List V), vs = [.ref x] ∧ H x = some (.ins C dx (lineF c p)) ∧ SqL K H c xs ∧ xs[p]? = some (.int (n : Int)) ∧ p + 1 + n ≤ xs.length ∧
  ∀ q, (upd H x (.ins C dx (lineF c (p + 1 + n)))) q = none → Q (.ref q) (upd (upd H x (.ins C dx (lineF c (p + 1 + n)))) q (.lst ((xs.drop (p + 1)).take n)))
theorem scLL : FnScope ["self", "count", "start"] ["self"] (defScope sLList) := ⟨rfl, rfl, rfl, by decide +kernel, rfl, by decide +kernel, by decide +kernel⟩
theorem cutV_mid (xs : List V) (a n : Nat) (h : a + n ≤ xs.length) : cutV xs (some (a : Int)) (some ((a + n : Nat) : Int)) = (xs.drop a).take n := by
  unfold cutV
  rw [HT.sIx_nat, HT.sIx_nat, Nat.min_eq_left h, Nat.min_eq_left (show a ≤ xs.length by omega)]
  congr 1; omega
theorem ok_takel {f fT : Addr} {fd fdT : FuncData} (F : Fun K "take_list" "Line.take_list" sLList f fd) (T : TxtL K mg C) (FT : Fun K "take" "Line.take" sLTake fT fdT) (bT : Binds K fdT ["self"] []) (mT : Meth K C "take" fT) :
    FnOk P w K mg base CX0 2 f fd ["self"] (spTakeL K C) := by
  have GT : FnOk P w K mg base CX0 1 fT fdT ["self"] (spTake K C) := ok_take FT T
  refine F.ok scLL (fun vs H Q E h => ?_) (fun cdv A outer s H vs Q E hr h => ?_)
  · obtain ⟨x, dx, c, p, n, xs, rfl, _⟩ := h
    rfl
  · obtain ⟨x, dx, c, p, n, xs, rfl, hx, hc, hv, hn, k⟩ := h
    refine ⟨_, pss_cons (ps_set (i := 1) scLL.nd rfl (Or.inl rfl) (pe_meth0 (pv 0) T.cl mT GT hr bT .nil pass0))
      (pss_cons (ps_set (i := 2) scLL.nd rfl (Or.inl rfl) (pe_fld (pv 0) rfl))
      (pss_cons (ps_fld (pv 0) (pe_op op_add (pv 2) (pv 1)) rfl)
      (pss_one (ps_ret (pe_slice sl_list (pe_fld (pv 0) rfl) (po_some (pv 2)) (po_some (pe_fld (pv 0) rfl))))))), ?_⟩
    refine ⟨_, rfl, x, dx, _, rfl, hx, rfl, x, dx, c, p, xs, _, rfl, hx, hc, hv, ?_⟩
    have hc1 : SqL K (upd H x (.ins C dx (lineF c (p + 1)))) c xs := seq_upd hc hx
    refine ⟨_, rfl, x, C, dx, _, .int ((p + 1 : Nat) : Int), rfl, upd_same, T.cl, T.nP, rfl, ?_⟩
    refine ⟨_, rfl, _, rfl, _, _, rfl, rfl, _, rfl, x, C, dx, _, rfl, upd_same, T.cl, T.nP, by show _ < _; simp [putF, lineF], ?_⟩
    have e1 : upd (upd H x (.ins C dx (lineF c (p + 1)))) x (.ins C dx (putF "place" (.int (((p + 1 : Nat) : Int) + (n : Int))) (lineF c (p + 1)))) = upd H x (.ins C dx (lineF c (p + 1 + n))) := by
      rw [upd_upd]
      have : putF "place" (.int (((p + 1 : Nat) : Int) + (n : Int))) (lineF c (p + 1)) = lineF c (p + 1 + n) := by
        show [(("calls" : Str), V.ref c), ("place", V.int (((p + 1 : Nat) : Int) + (n : Int)))] = _
        unfold lineF
        rw [show (((p + 1 : Nat) : Int) + (n : Int)) = ((p + 1 + n : Nat) : Int) by omega]
      rw [this]
    rw [e1]
    have hc2 : SqL K (upd H x (.ins C dx (lineF c (p + 1 + n)))) c xs := seq_upd hc hx
    refine ⟨_, rfl, x, C, dx, _, .ref c, rfl, upd_same, T.cl, T.nC, rfl, _, rfl, _, rfl, _, rfl, x, C, dx, _, .int ((p + 1 + n : Nat) : Int), rfl, upd_same, T.cl, T.nP, rfl, _, rfl, c, xs, rfl, hc2, fun q hq => ?_⟩
    rw [cutV_mid xs (p + 1) n hn]
    exact k q hq
end
end Bb

end

section
set_option Elab.async false
set_option linter.all false
set_option maxRecDepth 100000
set_option maxHeartbeats 2000000
namespace Bb
open PySem PySem.Spec PyProof.Rows L2
open Ma (within cut Good)
def pr (x : Nat × Nat) : List Nat := [x.1, x.2]
theorem getD_le {s : List Nat} (h : ∀ n ∈ s, n ≤ 6) (i : Nat) : s.getD i 0 ≤ 6 := by
  rw [List.getD_eq_getElem?_getD]
  cases e : s[i]? with
  | none => exact Nat.zero_le _
  | some n => exact h n (List.mem_of_getElem? e)
theorem rows_len {s : List Nat} (h : ∀ n ∈ s, n ≤ 6) : ∀ i, ((List.range i).flatMap fun i => (List.range (s.getD i 0)).map fun j => (i + 1, j + 1)).length ≤ 6 * i
  | 0 => by simp
  | i + 1 => by
    have h1 := rows_len h i
    have h2 := getD_le h i
    rw [List.range_succ, List.flatMap_append, List.length_append, List.flatMap_singleton, List.length_map, List.length_range]
    omega
theorem squares_len {s : List Nat} (hs : Good s) : (Ux04.squares s).length ≤ 30 := by
  obtain ⟨h1, h2, _⟩ := Ma.fit_iff.mp hs
  rw [Ma.squares_rows]
  have := rows_len (fun n hn => (h2 n hn).2) s.length
  omega
section
variable {P : Program} {w : World} {K : PySem.W.Frag} {mg : Str → Option Value} {base : Heap}
def spBites : Sp := fun vs H Q _ => ∃ (a : Addr) (s : List Nat), vs = [.ref a] ∧ Good s ∧ H a = some (.tup (tv s)) ∧
  ∀ p H' as, Same H H' → H p = none → H' p = some (.lst (as.map V.ref)) → Tups H' as ((Ux04.squares s).map pr) → Q (.ref p) H'
theorem scBites : FnScope ["shape", "bites", "row", "square"] ["shape"] (defScope sBites) := ⟨rfl, rfl, rfl, by decide +kernel, rfl, by decide +kernel, by decide +kernel⟩
theorem ok_bites {f : Addr} {fd : FuncData} (F : Fun K "bites_at" "bites_at" sBites f fd) (T : Txt K mg) : FnOk P w K mg base CX0 1 f fd ["shape"] spBites := by
  refine F.ok scBites (fun vs H Q E h => ?_) (fun cdv A outer s H vs Q E hr h => ?_)
  · obtain ⟨a, s, rfl, _⟩ := h
    rfl
  · obtain ⟨a, s, rfl, hs, ha, q⟩ := h
    obtain ⟨hs1, hs2, hs3⟩ := Ma.fit_iff.mp hs
    have h6 : ∀ n ∈ s, n ≤ 6 := fun n hn => (hs2 n hn).2
    refine ⟨_, pss_cons (ps_set (i := 1) scBites.nd rfl (Or.inl rfl) (pe_lst pa_nil))
      (pss_cons (ps_for PassesOwn.never rfl (pi_range2 rfl T.range (pa_cons pe_int (pa_cons (pe_op op_add (pe_callB call_len_seq (by rfl) T.len PySem.boot_len (pa_cons (pv 0) pa_nil)) pe_int) pa_nil))) (pg_name (i := 2) scBites.nd rfl (Or.inl rfl))
        (pss_one (ps_for PassesOwn.never rfl (pi_range2 rfl T.range (pa_cons pe_int (pa_cons (pe_op op_add (pe_ix ix_tup (pv 0) (pe_op op_sub (pv 2) pe_int) (fun _ _ => rfl)) pe_int) pa_nil))) (pg_name (i := 3) scBites.nd rfl (Or.inl rfl))
          (pss_one (ps_expr (pe_bm PySem.F.plainAttrs_list PySem.F.slot_list_append PySem.F.type_list_append mt_append (pv 1) (pa_cons (pe_tup (pa_cons (pv 2) (pa_cons (pv 3) pa_nil))) pa_nil)))))))
      (pss_one (ps_ret (pv 1)))), ?_⟩
    simp only [rd_seq, rd_asg, rd_lst, rd_nil, rd_gName]
    refine ⟨by decide, fun g hg => ?_⟩
    have s0 : Same H (upd H g (.lst [])) := upd_same_of hg
    refine ⟨_, rfl, a, tv s, rfl, .inr (SqT.of (s0 _ _ ha)), _, _, rfl, rfl, 1, _, rfl, ⟨by decide, by decide, by omega, by rw [tv_length]; omega⟩, ?_⟩
    rw [tv_length, show ((s.length : Int) + 1 - 1).toNat = s.length by omega]
    refine for_range (lo := 1) (n := s.length) (fun i σ H' => ∃ (v2 v3 : Option V) (as : List Addr), σ = [some (.ref a), some (.ref g), v2, v3] ∧ Same H H' ∧ H' g = some (.lst (as.map V.ref)) ∧ Tups H' as (((List.range i).flatMap fun i => (List.range (s.getD i 0)).map fun j => (i + 1, j + 1)).map pr))
      ⟨none, none, [], rfl, s0, upd_same, True.intro⟩ ?_ ?_
    · rintro i σ H' hi ⟨v2, v3, as, rfl, h1, h2, h3⟩
      have hsi : s[i]? = some s[i] := List.getElem?_eq_getElem hi
      have hn6 := h6 s[i] (List.getElem_mem hi)
      have hgd : s.getD i 0 = s[i] := by rw [List.getD_eq_getElem?_getD, hsi]; rfl
      refine ⟨_, rfl, _, rfl, _, _, rfl, rfl, a, tv s, _, .int (s[i] : Int), rfl, rfl, SqT.of (h1 _ _ ha), at_of (j := i) (by omega) (by rw [tv_get, hsi]; rfl), _, _, rfl, rfl, 1, _, rfl, ⟨by decide, by decide, by omega, by omega⟩, ?_⟩
      rw [show (((s[i] : Nat) : Int) + 1 - 1).toNat = s[i] by omega]
      refine for_range (lo := 1) (n := s[i]) (fun k σ H' => ∃ (v3 : Option V) (as : List Addr), σ = [some (.ref a), some (.ref g), some (.int (1 + (i : Int))), v3] ∧ Same H H' ∧ H' g = some (.lst (as.map V.ref)) ∧
          Tups H' as ((((List.range i).flatMap fun i => (List.range (s.getD i 0)).map fun j => (i + 1, j + 1)) ++ (List.range k).map fun j => (i + 1, j + 1)).map pr))
        ⟨v3, as, rfl, h1, h2, by simpa using h3⟩ ?_ ?_
      · rintro k σ H2 hk ⟨v3, as, rfl, d1, d2, d3⟩
        refine ⟨_, rfl, tyL d2, _, rfl, _, rfl, by show 2 ≤ sizeLine; decide, fun p hp => ?_⟩
        have e1 := upd_same_of (o := .tup [V.int (1 + (i : Int)), V.int (1 + (k : Int))]) hp
        have d2' := e1 _ _ d2
        refine ⟨g, _, _, rfl, rfl, d2', ?_, ?_⟩
        · rw [List.length_map, d3.length, List.length_map, List.length_append, List.length_map, List.length_range]
          have := rows_len h6 i
          exact Nat.lt_of_le_of_lt (show _ ≤ 100 by omega) (by decide)
        · have kt : TK (upd H2 p (.tup [V.int (1 + (i : Int)), V.int (1 + (k : Int))])) (upd (upd H2 p (.tup [V.int (1 + (i : Int)), V.int (1 + (k : Int))])) g (.lst (as.map V.ref ++ [V.ref p]))) := TK.upd d2'
          refine ⟨_, as ++ [p], rfl, fun b o e => ?_, ?_, ?_⟩
          · rw [upd_ne (ne_of_none e hg)]; exact e1 _ _ (d1 _ _ e)
          · rw [upd_same]; simp
          · rw [List.range_succ, List.map_append (f := fun j => (i + 1, j + 1)), ← List.append_assoc, List.map_append (f := pr)]
            refine Tups.append (d3.keep ((TK.of e1).trans kt)) ⟨?_, True.intro⟩
            refine kt _ _ ?_
            rw [upd_same]
            show some (HO.tup [V.int (1 + (i : Int)), V.int (1 + (k : Int))]) = some (HO.tup [V.int ((i + 1 : Nat) : Int), V.int ((k + 1 : Nat) : Int)])
            rw [show ((i + 1 : Nat) : Int) = 1 + (i : Int) by omega, show ((k + 1 : Nat) : Int) = 1 + (k : Int) by omega]
      · rintro σ H2 ⟨v3, as, rfl, d1, d2, d3⟩
        refine ⟨_, _, as, rfl, d1, d2, ?_⟩
        rw [List.range_succ, List.flatMap_append, List.flatMap_singleton, hgd]
        exact d3
    · rintro σ H' ⟨v2, v3, as, rfl, h1, h2, h3⟩
      rw [← Ma.squares_rows] at h3
      exact ⟨_, rfl, q g H' as h1 hg h2 h3⟩
/-! ### rows_and_squares_exchanged -/
def spExch : Sp := fun vs H Q _ => ∃ (a : Addr) (s : List Nat), vs = [.ref a] ∧ Good s ∧ s ≠ [] ∧ H a = some (.tup (tv s)) ∧
  ∀ p H', Same H H' → H p = none → H' p = some (.lst (tv (Ux04.turned s))) → Q (.ref p) H'
theorem scExch : FnScope ["shape", "rows", "square", "squares"] ["shape"] (defScope sExch) := ⟨rfl, rfl, rfl, by decide +kernel, rfl, by decide +kernel, by decide +kernel⟩
theorem ok_exch {f : Addr} {fd : FuncData} (F : Fun K "rows_and_squares_exchanged" "rows_and_squares_exchanged" sExch f fd) (T : Txt K mg) : FnOk P w K mg base CX0 1 f fd ["shape"] spExch := by
  refine F.ok scExch (fun vs H Q E h => ?_) (fun cdv A outer s H vs Q E hr h => ?_)
  · obtain ⟨a, s, rfl, _⟩ := h
    rfl
  · obtain ⟨a, s, rfl, hs, hn, ha, q⟩ := h
    obtain ⟨hs1, hs2, hs3⟩ := Ma.fit_iff.mp hs
    refine ⟨_, pss_cons (ps_set (i := 1) scExch.nd rfl (Or.inl rfl) (pe_lst pa_nil))
      (pss_cons (ps_for PassesOwn.never rfl (pi_range2 rfl T.range (pa_cons pe_int (pa_cons (pe_op op_add (pe_ix ix_tup (pv 0) pe_int (fun _ _ => rfl)) pe_int) pa_nil))) (pg_name (i := 2) scExch.nd rfl (Or.inr rfl))
        (pss_one (ps_expr (pe_bm PySem.F.plainAttrs_list PySem.F.slot_list_append PySem.F.type_list_append mt_append (pv 1) (pa_cons (pe_callB call_len_seq (by rfl) T.len PySem.boot_len (pa_cons
          (pe_lc (own := [("squares", 3)]) rfl scExch.nd (pi_tup (pv 0)) (blkOk_by (by show blkC ["shape", "rows", "square", "squares"] (defScope sExch) _ _ = true; decide +kernel))
            (fun s H C cl fp => pg_name (i := 3) scExch.nd rfl (Or.inl rfl)) (fun s H C cl fp => pts_one (pt_cmpR op_ge (pv 3) (pv 2) (nomark _))) (fun s H C cl fp => pv 3)) pa_nil)) pa_nil)))))
      (pss_one (ps_ret (pv 1)))), ?_⟩
    cases s with
    | nil => exact absurd rfl hn
    | cons m t =>
    have hm6 := hs2 m (by simp)
    simp only [rd_seq, rd_asg, rd_lst, rd_nil, rd_gName]
    refine ⟨by decide, fun g hg => ?_⟩
    have s0 : Same H (upd H g (.lst [])) := upd_same_of hg
    refine ⟨_, rfl, a, tv (m :: t), _, .int (m : Int), rfl, rfl, SqT.of (s0 _ _ ha), at_of (j := 0) rfl rfl, _, _, rfl, rfl, 1, _, rfl, ⟨by decide, by decide, by omega, by omega⟩, ?_⟩
    rw [show (((m : Nat) : Int) + 1 - 1).toNat = m by omega]
    refine for_range (lo := 1) (n := m) (fun i σ H' => ∃ (v2 v3 : Option V), σ = [some (.ref a), some (.ref g), v2, v3] ∧ Same H H' ∧ H' g = some (.lst (tv ((List.range i).map fun j => ((m :: t).filter fun n => decide (j < n)).length))))
      ⟨none, none, rfl, s0, upd_same⟩ ?_ ?_
    · rintro i σ H' hi ⟨v2, v3, rfl, h1, h2⟩
      refine ⟨_, rfl, tyL h2, ?_⟩
      refine ⟨_, rfl, a, rfl, ⟨_, SqT.of (h1 _ _ ha)⟩, fun D hD => ?_⟩
      have s3 : Same H' (upd H' D (.lst [])) := upd_same_of hD
      refine lc_tup (K := K) (a := a) (xs := tv (m :: t)) (fun k H2 => (∀ b o, H' b = some o → H2 b = some o) ∧ H2 D = some (.lst (tv (((m :: t).take k).filter fun n => decide (i < n)))))
        ⟨s3, upd_same⟩ (fun k H2 _ h => SqT.of (h.1 _ _ (h1 _ _ ha))) ?_ ?_
      · rintro k x H2 hk ⟨d1, d2⟩
        rw [tv_get] at hk
        obtain ⟨n, hn, rfl⟩ := Option.map_eq_some_iff.mp hk
        refine ⟨rfl, _, rfl, _, rfl, _, _, rfl, rfl, _, rfl, ?_⟩
        by_cases c : i < n
        · have c1 : decide (1 + (i : Int) ≤ (n : Int)) = true := decide_eq_true (by omega)
          rw [c1]
          refine iteT ⟨_, rfl, _, d2, ?_, fun b o e => ?_, ?_⟩
          · rw [tv_length]
            have := List.length_filter_le (fun n => decide (i < n)) ((m :: t).take k)
            rw [List.length_take] at this
            exact Nat.lt_of_le_of_lt (show _ ≤ 100 by omega) (by decide)
          · rw [upd_ne (ne_of_none e hD)]; exact d1 b o e
          · rw [upd_same, take_snoc hn, List.filter_append, tv_append]
            simp [c]
        · have c1 : decide (1 + (i : Int) ≤ (n : Int)) = false := decide_eq_false (by omega)
          rw [c1]
          refine iteF ⟨d1, ?_⟩
          rw [take_snoc hn, List.filter_append, tv_append]
          simpa [c] using d2
      · rintro H2 ⟨d1, d2⟩
        rw [tv_length, List.take_length] at d2
        refine ⟨D, _, rfl, .inl (SqL.of d2), g, _, _, rfl, rfl, d1 _ _ h2, ?_, ?_⟩
        · rw [tv_length, List.length_map, List.length_range]
          exact Nat.lt_of_le_of_lt (show _ ≤ 100 by omega) (by decide)
        · refine ⟨_, _, rfl, fun b o e => ?_, ?_⟩
          · rw [upd_ne (ne_of_none e hg)]; exact d1 _ _ (h1 _ _ e)
          · rw [upd_same, List.range_succ, List.map_append, tv_append, tv_length]
            rfl
    · rintro σ H' ⟨v2, v3, rfl, h1, h2⟩
      exact ⟨_, rfl, q g H' h1 hg h2⟩
end
end Bb

end

section
set_option Elab.async false
set_option linter.all false
set_option maxRecDepth 100000
set_option maxHeartbeats 2000000
namespace Bb
open PySem PySem.Spec PyProof.Rows L2
open Ma (within cut Good lenW lostW goodW chosenW)
abbrev sJInit : Stmt := inClass (top 27) 0
abbrev sJLen : Stmt := inClass (top 27) 1
abbrev sJBeh : Stmt := inClass (top 27) 2
abbrev sJLost : Stmt := inClass (top 27) 3
abbrev sJGoods : Stmt := inClass (top 27) 4
abbrev sJBest : Stmt := inClass (top 27) 5
/-- the table of best_bite's code object; its lambdas' name -/
def tabP : Addr := 114
def lamQ : Str := ("Judge.best_bite" : Str) ++ ".<locals>." ++ "<lambda>"
/-- a shape as a dict's key -/
def ks (s : List Nat) : List Key := s.map fun (n : Nat) => Sum.inl (n : Int)
theorem ks_kV (s : List Nat) : (ks s).map kV = tv s := by unfold ks tv; rw [List.map_map]; rfl
theorem ks_inj : ∀ {s t : List Nat}, ks s = ks t → s = t
  | [], [], _ => rfl
  | [], _ :: _, h => by cases h
  | _ :: _, [], h => by cases h
  | a :: s, b :: t, h => by
    have h : (Sum.inl (a : Int) : Key) :: ks s = Sum.inl (b : Int) :: ks t := h
    injection h with h1 h2
    injection h1 with h1
    rw [ks_inj h2]
    congr 1
    omega
/-- the lengths that are kept are so -/
structure Verd (W : Ux04.Shape → Ux04.Worth) (kvs : List (List Key × V)) : Prop where
  ok : ∀ k v, valV kvs k = some v → ∃ s, k = ks s ∧ Good s ∧ v = .int (lenW W s : Nat)
  nd : (kvs.map (·.1)).Nodup
  nil : (valV kvs (ks [])).isSome = true
def judgeF (d : Addr) : List (Str × V) := [("lengths", .ref d)]
/-- a Judge at j, its lengths at d -/
structure JudgeAt (W : Ux04.Shape → Ux04.Worth) (CJ : Addr) (H : Hp) (j d : Addr) (kvs : List (List Key × V)) : Prop where
  jud : ∃ dj, H j = some (.ins CJ dj (judgeF d))
  dic : H d = some (.dT kvs)
  ver : Verd W kvs
  tab : TabAt tabP lamQ H
/-- all but these is as it was -/
def Keep (ex : List Addr) (H H' : Hp) : Prop := ∀ a o, H a = some o → a ∉ ex → H' a = some o
theorem Keep.of {ex : List Addr} {H H' : Hp} (h : Same H H') : Keep ex H H' := fun a o e _ => h a o e
theorem Keep.trans {ex : List Addr} {H H1 H2 : Hp} (h : Keep ex H H1) (h' : Keep ex H1 H2) : Keep ex H H2 := fun a o e n => h' a o (h a o e n) n
theorem Keep.mono {ex ex' : List Addr} {H H' : Hp} (h : Keep ex H H') (i : ∀ a ∈ ex, a ∈ ex') : Keep ex' H H' := fun a o e n => h a o e fun z => n (i a z)
theorem Keep.upd {ex : List Addr} {H : Hp} {a : Addr} {o : HO} (h : a ∈ ex) : Keep ex H (upd H a o) := fun b u e n => by
  rw [upd_ne (fun z => n (by rw [z]; exact h))]; exact e
structure TxtJ (K : PySem.W.Frag) (mg : Str → Option Value) (C : Addr) : Prop where
  cl : Cls K C
  nV : NoAttr K C "lengths"
def Grows (kvs kvs' : List (List Key × V)) : Prop := ∀ k, (valV kvs k).isSome = true → (valV kvs' k).isSome = true
theorem Grows.refl (kvs : List (List Key × V)) : Grows kvs kvs := fun _ h => h
theorem Grows.trans {a b c : List (List Key × V)} (h : Grows a b) (h' : Grows b c) : Grows a c := fun k e => h' k (h k e)
/-- all that bites leave is known -/
def Known (kvs : List (List Key × V)) (s : List Nat) : Prop := ∀ x ∈ Ux04.squares s, (valV kvs (ks (cut s x.1 x.2))).isSome = true
theorem Known.grow {kvs kvs' : List (List Key × V)} {s : List Nat} (h : Known kvs s) (g : Grows kvs kvs') : Known kvs' s := fun x hx => g _ (h x hx)
section
variable {W : Ux04.Shape → Ux04.Worth}
theorem Verd.len {kvs : List (List Key × V)} (h : Verd W kvs) : kvs.length ≤ 462 := by
  have := Ma.nodup_len (m := (Ux04.shapes Ux04.ROWS Ux04.COLUMNS).map ks) h.nd fun k hk => by
    obtain ⟨p, hp, e⟩ := List.mem_map.mp hk
    have q : (kvs.any fun kv => decide (kv.1 = k)) = true := List.any_eq_true.mpr ⟨p, hp, decide_eq_true e⟩
    rw [valV_any] at q
    obtain ⟨v, hv⟩ := Option.isSome_iff_exists.mp q
    obtain ⟨s, rfl, hs, _⟩ := h.ok k v hv
    exact List.mem_map.mpr ⟨s, Ma.mem_all.mpr hs, rfl⟩
  rw [List.length_map, List.length_map, Ma.shapes_len] at this
  exact this
theorem Verd.get {kvs : List (List Key × V)} (h : Verd W kvs) {s : List Nat} {v : V} (e : valV kvs (ks s) = some v) : v = .int (lenW W s : Nat) := by
  obtain ⟨t, h1, _, h2⟩ := h.ok _ _ e
  rw [ks_inj h1]; exact h2
theorem Verd.put {kvs : List (List Key × V)} (h : Verd W kvs) {s : List Nat} (hs : Good s) (e : valV kvs (ks s) = none) : Verd W (putK kvs (ks s) (.int (lenW W s : Nat))) := by
  refine ⟨fun k v hv => ?_, nd_putK _ h.nd e, ?_⟩
  · rw [valV_put] at hv
    split at hv
    · rename_i hk
      exact ⟨s, hk, hs, (Option.some.inj hv).symm⟩
    · exact h.ok k v hv
  · rw [valV_put]
    split
    · rfl
    · exact h.nil
theorem grows_put {kvs : List (List Key × V)} {k : List Key} {v : V} : Grows kvs (putK kvs k v) := fun k' h => by
  rw [valV_put]
  split
  · rfl
  · exact h
theorem verd_one : Verd W [([], .int 0)] := by
  refine ⟨fun k v h => ?_, by simp, rfl⟩
  unfold valV at h
  rw [List.find?_cons] at h
  by_cases e : ([] : List Key) = k
  · subst e
    simp at h
    exact ⟨[], rfl, Ma.fit_iff.mpr ⟨by simp, by simp, List.Pairwise.nil⟩, h.symm⟩
  · simp [e] at h
theorem JudgeAt.same {C : Addr} {H H' : Hp} {j d : Addr} {kvs : List (List Key × V)} (h : JudgeAt W C H j d kvs) (s : Same H H') : JudgeAt W C H' j d kvs := by
  obtain ⟨⟨dj, h1⟩, h2, h3, h4⟩ := h
  exact ⟨⟨dj, s _ _ h1⟩, s _ _ h2, h3, h4.same s⟩
theorem key_tup {H : Hp} {a : Addr} {s : List Nat} (h : H a = some (.tup (tv s))) : H a = some (.tup ((ks s).map kV)) := by rw [ks_kV]; exact h
end
section
variable {P : Program} {w : World} {K : PySem.W.Frag} {mg : Str → Option Value} {base : Heap} {C : Addr} {W : Ux04.Shape → Ux04.Worth}
/-! ### __init__ -/
def spJInit (W : Ux04.Shape → Ux04.Worth) (C : Addr) : Sp := fun vs H Q _ => ∃ (x dx : Addr), vs = [.ref x] ∧ H x = some (.ins C dx []) ∧ TabAt tabP lamQ H ∧ ∀ (H' : Hp) (d : Addr) (kvs : List (List Key × V)), JudgeAt W C H' x d kvs → H d = none → (∀ b o, H b = some o → b ≠ x → H' b = some o) → Q .non H'
theorem scJI : FnScope ["self"] ["self"] (defScope sJInit) := ⟨rfl, rfl, rfl, by decide +kernel, rfl, by decide +kernel, by decide +kernel⟩
theorem ok_jinit {f : Addr} {fd : FuncData} (F : Fun K "__init__" "Judge.__init__" sJInit f fd) (T : TxtJ K mg C) : FnOk P w K mg base CX0 1 f fd ["self"] (spJInit W C) := by
  refine F.ok scJI (fun vs H Q E h => ?_) (fun cdv A outer s H vs Q E hr h => ?_)
  · obtain ⟨x, dx, rfl, _⟩ := h
    rfl
  · obtain ⟨x, dx, rfl, hx, hT, k⟩ := h
    refine ⟨_, pss_one (ps_fld (pv 0) (pe_disp1 hr.units0 (pe_tup pa_nil) pe_int) rfl), ?_⟩
    intro d hd
    refine ⟨by decide, fun t ht => ?_⟩
    have htd : t ≠ d := (ne_of_none upd_same ht).symm
    have h0 : Same H (upd H d (.dT [])) := upd_same_of hd
    have h1 : Same (upd H d (.dT [])) (upd (upd H d (.dT [])) t (.tup [])) := upd_same_of ht
    have hxd : x ≠ d := ne_of_none hx hd
    have hx1 := h1 _ _ (h0 _ _ hx)
    refine ⟨t, [], rfl, h1 _ _ upd_same, upd_same, ?_⟩
    refine ⟨_, rfl, x, C, dx, [], rfl, by rw [upd_ne hxd]; exact hx1, T.cl, T.nV, by decide, ?_⟩
    have up : ∀ b o, H b = some o → b ≠ x → upd (upd (upd (upd H d (.dT [])) t (.tup [])) d (.dT [([], .int 0)])) x (.ins C dx (putF "lengths" (.ref d) [])) b = some o := fun b o e hb => by
      rw [upd_ne hb, upd_ne (ne_of_none e hd)]; exact h1 _ _ (h0 _ _ e)
    refine k _ d [([], .int 0)] ⟨⟨dx, by rw [upd_same]; rfl⟩, by rw [upd_ne hxd.symm, upd_same], verd_one, ?_⟩ hd up
    refine hT.keep fun a o e ho => up a o e fun z => ?_
    rw [z, hx] at e
    cases e
    rcases ho with ⟨_, z⟩ | ⟨_, z⟩ <;> cases z
/-! ### length, where it's known -/
def spLen (W : Ux04.Shape → Ux04.Worth) (C : Addr) (kn : Bool) : Sp := fun vs H Q _ => ∃ (j d a : Addr) (kvs : List (List Key × V)) (s : List Nat), vs = [.ref j, .ref a] ∧ JudgeAt W C H j d kvs ∧ H a = some (.tup (tv s)) ∧ Good s ∧ (kn = true → (valV kvs (ks s)).isSome = true) ∧
  ∀ H' kvs', JudgeAt W C H' j d kvs' → Grows kvs kvs' → (valV kvs' (ks s)).isSome = true → (kn = true → Same H H') → Keep [d, tabP] H H' → Q (.int (lenW W s : Nat)) H'
theorem scJN : FnScope ["self", "shape", "smaller"] ["self", "shape"] (defScope sJLen) := ⟨rfl, rfl, rfl, by decide +kernel, rfl, by decide +kernel, by decide +kernel⟩
theorem ok_lenK {f : Addr} {fd : FuncData} (F : Fun K "length" "Judge.length" sJLen f fd) (T : TxtJ K mg C) : FnOk P w K mg base CX0 1 f fd ["self", "shape"] (spLen W C true) := by
  refine F.ok scJN (fun vs H Q E h => ?_) (fun cdv A outer s H vs Q E hr h => ?_)
  · obtain ⟨j, d, a, kvs, s, rfl, _⟩ := h
    rfl
  · obtain ⟨j, d, a, kvs, s, rfl, hJ, ha, hs, hk, q⟩ := h
    have hu := hu_of hr
    refine ⟨_, pss_cons (ps_if (pt_cmp (pc_dnotin hu (pv 1) (pe_fld (pv 0) rfl))) (pss_one ps_never) pss_nil)
      (pss_one (ps_ret (pe_dget hu (pe_fld (pv 0) rfl) (pv 1) (fun _ _ => rfl)))), ?_⟩
    obtain ⟨⟨dj, hj⟩, hd, hV, hT⟩ := id hJ
    obtain ⟨v, hv⟩ := Option.isSome_iff_exists.mp (hk rfl)
    refine ⟨_, rfl, _, rfl, j, C, dj, _, .ref d, rfl, hj, T.cl, T.nV, rfl, d, _, rfl, DGet.t hd (key_tup ha), _, rfl, ?_⟩
    rw [hv]
    refine iteF ?_
    refine ⟨_, rfl, j, C, dj, _, .ref d, rfl, hj, T.cl, T.nV, rfl, _, rfl, d, v, rfl, ?_, ?_⟩
    · rw [← hv]; exact DGet.t hd (key_tup ha)
    · rw [hV.get hv]; exact q H kvs hJ (Grows.refl _) (hk rfl) (fun _ => Same.refl H) (Keep.of (Same.refl H))
/-! ### length_behind, where it's known -/
def spBeh (W : Ux04.Shape → Ux04.Worth) (C : Addr) : Sp := fun vs H Q _ => ∃ (j d a b : Addr) (kvs : List (List Key × V)) (s : List Nat) (x : Nat × Nat), vs = [.ref j, .ref a, .ref b] ∧ JudgeAt W C H j d kvs ∧ H a = some (.tup (tv s)) ∧ Good s ∧ H b = some (.tup (tv (pr x))) ∧ x ∈ Ux04.squares s ∧
  (valV kvs (ks (cut s x.1 x.2))).isSome = true ∧ ∀ H', Same H H' → Q (.int (lenW W (cut s x.1 x.2) : Nat)) H'
theorem scJB : FnScope ["self", "shape", "bite"] ["self", "shape", "bite"] (defScope sJBeh) := ⟨rfl, rfl, rfl, by decide +kernel, rfl, by decide +kernel, by decide +kernel⟩
theorem ok_beh {f fN fL : Addr} {fd fdN fdL : FuncData} (F : Fun K "length_behind" "Judge.length_behind" sJBeh f fd) (T : TxtJ K mg C)
    (mN : Meth K C "length" fN) (bN : Binds K fdN ["self", "shape"] []) (GN : FnOk P w K mg base CX0 1 fN fdN ["self", "shape"] (spLen W C true))
    (FL : Fun K "left_by_bite" "left_by_bite" sLeft fL fdL) (bL : Binds K fdL ["shape", "row", "square"] []) (mL : mg "left_by_bite" = some (.ref fL)) (GL : FnOk P w K mg base CX0 1 fL fdL ["shape", "row", "square"] spLeft) :
    FnOk P w K mg base CX0 2 f fd ["self", "shape", "bite"] (spBeh W C) := by
  refine F.ok scJB (fun vs H Q E h => ?_) (fun cdv A outer s H vs Q E hr h => ?_)
  · obtain ⟨j, d, a, b, kvs, s, x, rfl, _⟩ := h
    rfl
  · obtain ⟨j, d, a, b, kvs, s, x, rfl, hJ, ha, hs, hb, hx, hk, q⟩ := h
    refine ⟨_, pss_one (ps_ret (pe_meth (pv 0) T.cl mN GN hr bN .nil pass0 (pa_cons (pe_call GL hr rfl mL FL.kp bL .nil pass0 (pa_cons (pv 1) (pa_cons (pe_ix ix_tup (pv 2) pe_int (fun _ _ => rfl)) (pa_cons (pe_ix ix_tup (pv 2) pe_int (fun _ _ => rfl)) pa_nil)))) pa_nil))), ?_⟩
    obtain ⟨⟨dj, hj⟩, hd, hV, hT⟩ := id hJ
    obtain ⟨h1, h2, _⟩ := Ma.mem_squares.mp hx
    have hl := (Ma.fit_iff.mp hs).1
    refine ⟨_, rfl, j, dj, _, rfl, hj, rfl, _, rfl, _, rfl, b, _, _, .int (x.1 : Int), rfl, rfl, SqT.of hb, at_of (j := 0) rfl rfl, _, rfl, b, _, _, .int (x.2 : Int), rfl, rfl, SqT.of hb, at_of (j := 1) rfl rfl, a, s, x.1, x.2, rfl, h1, h2, by omega, ha, fun p H1 s1 hp => ?_⟩
    refine ⟨j, d, p, kvs, _, rfl, hJ.same s1, hp, Ma.fit_cut hs h2, fun _ => hk, fun H2 kvs2 _ _ _ s2 _ => q H2 (s1.trans (s2 rfl))⟩
/-! ### is_lost -/
def spLost (W : Ux04.Shape → Ux04.Worth) (C : Addr) (kn : Bool) : Sp := fun vs H Q _ => ∃ (j d a : Addr) (kvs : List (List Key × V)) (s : List Nat), vs = [.ref j, .ref a] ∧ JudgeAt W C H j d kvs ∧ H a = some (.tup (tv s)) ∧ Good s ∧ (kn = true → (valV kvs (ks s)).isSome = true) ∧
  ∀ H' kvs', JudgeAt W C H' j d kvs' → Grows kvs kvs' → (valV kvs' (ks s)).isSome = true → (kn = true → Same H H') → Keep [d, tabP] H H' → Q (.bl (lostW W s)) H'
theorem scJL : FnScope ["self", "shape"] ["self", "shape"] (defScope sJLost) := ⟨rfl, rfl, rfl, by decide +kernel, rfl, by decide +kernel, by decide +kernel⟩
theorem odd_eq (n : Nat) : decide (V.int ((n : Int) % 2) = V.int 1) = decide (n % 2 = 1) := by
  by_cases h : n % 2 = 1
  · rw [decide_eq_true h]
    exact decide_eq_true (by congr 1; omega)
  · rw [decide_eq_false h]
    refine decide_eq_false fun z => ?_
    injection z with z
    omega
theorem ok_jlost {kn : Bool} {k : Nat} {f fN : Addr} {fd fdN : FuncData} (F : Fun K "is_lost" "Judge.is_lost" sJLost f fd) (T : TxtJ K mg C)
    (mN : Meth K C "length" fN) (bN : Binds K fdN ["self", "shape"] []) (GN : FnOk P w K mg base CX0 k fN fdN ["self", "shape"] (spLen W C kn)) :
    FnOk P w K mg base CX0 (k + 1) f fd ["self", "shape"] (spLost W C kn) := by
  refine F.ok scJL (fun vs H Q E h => ?_) (fun cdv A outer s H vs Q E hr h => ?_)
  · obtain ⟨j, d, a, kvs, s, rfl, _⟩ := h
    rfl
  · obtain ⟨j, d, a, kvs, s, rfl, hJ, ha, hs, hk, q⟩ := h
    refine ⟨_, pss_one (ps_ret (pe_cmpR op_eq (pe_op op_mod (pe_meth (pv 0) T.cl mN GN hr bN .nil pass0 (pa_cons (pv 1) pa_nil)) pe_int) pe_int (nomark _))), ?_⟩
    obtain ⟨⟨dj, hj⟩, hd, hV, hT⟩ := id hJ
    refine ⟨_, rfl, j, dj, _, rfl, hj, rfl, _, rfl, j, d, a, kvs, s, rfl, hJ, ha, hs, hk, fun H1 kvs1 a1 a2 a3 a4 a5 => ⟨_, _, rfl, rfl, (by show (0 : Int) < 2; decide), rfl, ?_⟩⟩
    rw [odd_eq]
    exact q H1 kvs1 a1 a2 a3 a4 a5
end
end Bb

end

section
set_option Elab.async false
set_option linter.all false
set_option maxRecDepth 100000
set_option maxHeartbeats 2000000
namespace Bb
open PySem PySem.Spec PyProof.Rows L2
open Ma (within cut Good lenW lostW goodW chosenW)
section
variable {P : Program} {w : World} {K : PySem.W.Frag} {mg : Str → Option Value} {base : Heap} {C : Addr} {W : Ux04.Shape → Ux04.Worth}
theorem tab_ne {H : Hp} {a : Addr} {o : HO} (T : TabAt tabP lamQ H) (e : H a = some o) (h : ∀ ps, o ≠ .tbl ps) : a ≠ tabP := fun z => by
  obtain ⟨ps, t1, _⟩ := T
  rw [z, t1] at e
  cases e
  exact h _ rfl
theorem Keep.tk {H H' : Hp} {d : Addr} {kvs : List (List Key × V)} (hd : H d = some (.dT kvs)) (hT : TabAt tabP lamQ H) (k : Keep [d, tabP] H H') : TK H H' := fun a xs e => k a _ e (by
  simp only [List.mem_cons, List.not_mem_nil, or_false, not_or]
  exact ⟨ne_of e hd (by intro z; cases z), tab_ne hT e (by intro _ z; cases z)⟩)
theorem Keep.at {H H' : Hp} {d a : Addr} {o : HO} {kvs : List (List Key × V)} (hd : H d = some (.dT kvs)) (hT : TabAt tabP lamQ H) (k : Keep [d, tabP] H H') (e : H a = some o) (h1 : ∀ ps, o ≠ .tbl ps) (h2 : ∀ q, o ≠ .dT q) : H' a = some o := k a o e (by
  simp only [List.mem_cons, List.not_mem_nil, or_false, not_or]
  exact ⟨ne_of e hd (h2 _), tab_ne hT e h1⟩)
theorem JudgeAt.upd {H : Hp} {j d D : Addr} {kvs : List (List Key × V)} {xs : List V} {o : HO} (h : JudgeAt W C H j d kvs) (hD : H D = some (.lst xs)) : JudgeAt W C (upd H D o) j d kvs := by
  obtain ⟨⟨dj, h1⟩, h2, h3, h4⟩ := h
  exact ⟨⟨dj, by rw [upd_ne (ne_of h1 hD (by intro z; cases z))]; exact h1⟩, by rw [upd_ne (ne_of h2 hD (by intro z; cases z))]; exact h2, h3, h4.upd hD (by intro _ z; cases z) (by intro _ z; cases z)⟩
theorem JudgeAt.sameT {H H' : Hp} {j d : Addr} {kvs : List (List Key × V)} (h : JudgeAt W C H j d kvs) (s : SameT tabP H H') (T : TabAt tabP lamQ H') : JudgeAt W C H' j d kvs := by
  obtain ⟨⟨dj, h1⟩, h2, h3, h4⟩ := h
  exact ⟨⟨dj, s _ _ h1 (tab_ne h4 h1 (by intro _ z; cases z))⟩, s _ _ h2 (tab_ne h4 h2 (by intro _ z; cases z)), h3, T⟩
/-! ### good_bites -/
def spGoods (W : Ux04.Shape → Ux04.Worth) (C : Addr) (kn : Bool) : Sp := fun vs H Q _ => ∃ (j d a : Addr) (kvs : List (List Key × V)) (s : List Nat), vs = [.ref j, .ref a] ∧ JudgeAt W C H j d kvs ∧ H a = some (.tup (tv s)) ∧ Good s ∧ s ≠ [] ∧ (kn = true → Known kvs s) ∧
  ∀ H' kvs' p as, JudgeAt W C H' j d kvs' → Grows kvs kvs' → Known kvs' s → (kn = true → Same H H') → Keep [d, tabP] H H' → H p = none → H' p = some (.lst (as.map V.ref)) → Tups H' as ((goodW W s).map pr) → Q (.ref p) H'
theorem scJG : FnScope ["self", "shape", "bite"] ["self", "shape"] (defScope sJGoods) := ⟨rfl, rfl, rfl, by decide +kernel, rfl, by decide +kernel, by decide +kernel⟩
theorem ok_goods {kn : Bool} {k : Nat} {f fB fL fS : Addr} {fd fdB fdL fdS : FuncData} (R : Ma.Rec W) (hk1 : 1 ≤ k) (F : Fun K "good_bites" "Judge.good_bites" sJGoods f fd) (T : TxtJ K mg C)
    (FB : Fun K "bites_at" "bites_at" sBites fB fdB) (bB : Binds K fdB ["shape"] []) (mB : mg "bites_at" = some (.ref fB)) (GB : FnOk P w K mg base CX0 1 fB fdB ["shape"] spBites)
    (FL : Fun K "left_by_bite" "left_by_bite" sLeft fL fdL) (bL : Binds K fdL ["shape", "row", "square"] []) (mL : mg "left_by_bite" = some (.ref fL)) (GL : FnOk P w K mg base CX0 1 fL fdL ["shape", "row", "square"] spLeft)
    (mS : Meth K C "is_lost" fS) (bS : Binds K fdS ["self", "shape"] []) (GS : FnOk P w K mg base CX0 k fS fdS ["self", "shape"] (spLost W C kn)) :
    FnOk P w K mg base CX0 (k + 1) f fd ["self", "shape"] (spGoods W C kn) := by
  refine F.ok scJG (fun vs H Q E h => ?_) (fun cdv A outer s H vs Q E hr h => ?_)
  · obtain ⟨j, d, a, kvs, s, rfl, _⟩ := h
    rfl
  · obtain ⟨j, d, a, kvs, s, rfl, hJ, ha, hs, hn, hk, q⟩ := h
    have r1 := hr.mono hk1
    refine ⟨_, pss_one (ps_ret (pe_lc (own := [("bite", 2)]) rfl scJG.nd (pi_list (pe_call GB r1 rfl mB FB.kp bB .nil pass0 (pa_cons (pv 1) pa_nil))) (blkOk_by (by show blkC ["self", "shape", "bite"] (defScope sJGoods) _ _ = true; decide +kernel))
      (fun s H C cl fp => pg_name (i := 2) scJG.nd rfl (Or.inl rfl))
      (fun s H _ cl fp => pts_one (pt_val (pe_meth (pv 0) T.cl mS GS hr bS .nil pass0 (pa_cons (pe_call GL r1 rfl mL FL.kp bL .nil pass0 (pa_cons (pv 1) (pa_cons (pe_ix (show IxR _ (rIxT K) from ix_tup) (pv 2) pe_int (fun _ _ => rfl)) (pa_cons (pe_ix (show IxR _ (rIxT K) from ix_tup) (pv 2) pe_int (fun _ _ => rfl)) pa_nil)))) pa_nil))))
      (fun s H C cl fp => pv 2))), ?_⟩
    obtain ⟨⟨dj, hj⟩, hd, hV, hT⟩ := id hJ
    have hl := (Ma.fit_iff.mp hs).1
    refine ⟨_, rfl, a, s, rfl, hs, ha, fun p H1 as s1 hp hp1 ht => ⟨p, rfl, ⟨_, SqL.of hp1⟩, fun D hD => ?_⟩⟩
    have s2 : Same H1 (upd H1 D (.lst [])) := upd_same_of hD
    have hJ1 := hJ.same s1
    obtain ⟨⟨dj1, hj1⟩, hd1, hV1, hT1⟩ := id hJ1
    have hDd : D ≠ d := (ne_of_none hd1 hD).symm
    have hDt : D ≠ tabP := by
      obtain ⟨ps, t1, _⟩ := hT1
      exact (ne_of_none t1 hD).symm
    have nD : D ∉ [d, tabP] := by
      simp only [List.mem_cons, List.not_mem_nil, or_false, not_or]
      exact ⟨hDd, hDt⟩
    have hpD : p ∉ [d, tabP] := by
      simp only [List.mem_cons, List.not_mem_nil, or_false, not_or]
      exact ⟨ne_of hp1 hd1 (by intro z; cases z), tab_ne hT1 hp1 (by intro _ z; cases z)⟩
    refine lc_list (K := K) (a := p) (xs := as.map V.ref) (fun i H' => ∃ (kvs' : List (List Key × V)) (bs : List Addr), JudgeAt W C H' j d kvs' ∧ Grows kvs kvs' ∧ (∀ x ∈ (Ux04.squares s).take i, (valV kvs' (ks (cut s x.1 x.2))).isSome = true) ∧ (kn = true → Same H1 H') ∧ Keep [d, tabP] H1 H' ∧
        H' D = some (.lst (bs.map V.ref)) ∧ Tups H' bs ((((Ux04.squares s).take i).filter fun x => lostW W (cut s x.1 x.2)).map pr))
      ⟨kvs, [], hJ1.same s2, Grows.refl _, fun x hx => by simp at hx, fun _ => s2, Keep.of s2, upd_same, True.intro⟩ (fun i H' _ h => by
        obtain ⟨_, _, _, _, _, _, h5, _⟩ := h
        exact SqL.of (h5 _ _ hp1 hpD)) ?_ ?_
    · rintro i x H' hi ⟨kvs', bs, c1, c2, c3, c4, c5, c6, c7⟩
      obtain ⟨b, hb, rfl⟩ := ref_of hi
      obtain ⟨l, hl2, hbt⟩ := ht.get hb
      rw [List.getElem?_map] at hl2
      obtain ⟨y, hy, rfl⟩ := Option.map_eq_some_iff.mp hl2
      have hym := List.mem_of_getElem? hy
      obtain ⟨y1, y2, _⟩ := Ma.mem_squares.mp hym
      have tk1 : TK H1 H' := Keep.tk hd1 hT1 c5
      have hb' := tk1 _ _ hbt
      have ha' := tk1 _ _ (s1 _ _ ha)
      obtain ⟨⟨dj', hj'⟩, hd', hV', hT'⟩ := id c1
      refine ⟨rfl, _, rfl, j, dj', _, rfl, hj', rfl, _, rfl, _, rfl, b, _, _, .int (y.1 : Int), rfl, rfl, SqT.of hb', at_of (j := 0) rfl rfl, _, rfl, b, _, _, .int (y.2 : Int), rfl, rfl, SqT.of hb', at_of (j := 1) rfl rfl, a, s, y.1, y.2, rfl, y1, y2, by omega, ha', fun p2 H2 s3 hp2 => ?_⟩
      refine ⟨j, d, p2, kvs', _, rfl, c1.same s3, hp2, Ma.fit_cut hs y2, fun z => c2 _ (hk z _ hym), fun H3 kvs3 a1 a2 a3 a4 a5 => ⟨_, rfl, ?_⟩⟩
      have hT2 := hT'.same s3
      have hd2 := s3 _ _ hd'
      have D3 : H3 D = some (.lst (bs.map V.ref)) := a5 _ _ (s3 _ _ c6) nD
      have tk3 : TK H' H3 := (TK.of s3).trans (Keep.tk hd2 hT2 a5)
      have kn3 : ∀ x ∈ (Ux04.squares s).take (i + 1), (valV kvs3 (ks (cut s x.1 x.2))).isSome = true := fun x hx => by
        rw [take_snoc hy] at hx
        rcases List.mem_append.mp hx with hx | hx
        · exact a2 _ (c3 x hx)
        · obtain rfl : x = y := by simpa using hx
          exact a3
      have eq3 : kn = true → Same H1 H3 := fun z => ((c4 z).trans s3).trans (a4 z)
      have kp3 : Keep [d, tabP] H1 H3 := (c5.trans (Keep.of s3)).trans a5
      cases hlo : lostW W (cut s y.1 y.2) with
      | false =>
        refine iteF ⟨kvs3, bs, a1, c2.trans a2, kn3, eq3, kp3, D3, ?_⟩
        rw [take_snoc hy, List.filter_append, List.map_append]
        simpa [hlo] using c7.keep tk3
      | true =>
        refine iteT ⟨_, rfl, _, D3, ?_, kvs3, bs ++ [b], a1.upd D3, c2.trans a2, kn3, fun z => ?_, fun u o e nu => ?_, ?_, ?_⟩
        · rw [List.length_map, c7.length, List.length_map]
          have h1 := List.length_filter_le (fun x => lostW W (cut s x.1 x.2)) ((Ux04.squares s).take i)
          have h2 := squares_len hs
          rw [List.length_take] at h1
          exact Nat.lt_of_le_of_lt (show _ ≤ 100 by omega) (by decide)
        · intro u o e
          rw [upd_ne (ne_of_none e hD)]; exact eq3 z u o e
        · rw [upd_ne (ne_of_none e hD)]; exact kp3 u o e nu
        · rw [upd_same]; simp
        · have kt : TK H3 (upd H3 D (.lst (bs.map V.ref ++ [V.ref b]))) := TK.upd D3
          rw [take_snoc hy, List.filter_append, List.map_append]
          refine Tups.append (c7.keep (tk3.trans kt)) ?_
          simp only [List.filter_cons, hlo, if_true, List.filter_nil, List.map_cons, List.map_nil]
          exact ⟨kt _ _ (tk3 _ _ hb'), True.intro⟩
    · rintro H' ⟨kvs', bs, c1, c2, c3, c4, c5, c6, c7⟩
      rw [List.length_map, ht.length, List.length_map, List.take_length] at c3 c7
      rw [R.goods_eq hs hn] at c7
      exact q H' kvs' D bs c1 c2 c3 (fun z => s1.trans (c4 z)) ((Keep.of s1).trans c5) (s1.free hD) c6 c7
end
end Bb

end

section
set_option Elab.async false
set_option linter.all false
set_option maxRecDepth 100000
set_option maxHeartbeats 2000000
namespace Bb
open PySem PySem.Spec PyProof.Rows L2
open Ma (within cut Good lenW lostW goodW chosenW)
/-- the names of a lambda's body: its own, then best_bite's -/
def sgB (σ : L2.St) (v : V) : L2.St := [some v, σ.getD 0 none, σ.getD 1 none]
theorem sgB_names (σ : L2.St) (xv : V) (i : Nat) (y : Str) (v : V) (h1 : (["bite", "self", "shape"] : List Str)[i]? = some y) (h2 : (sgB σ xv)[i]? = some (some v)) :
    (y = "bite" ∧ v = xv) ∨ (y = "self" ∧ σ[0]? = some (some v)) ∨ (y = "shape" ∧ σ[1]? = some (some v)) := by
  unfold sgB at h2
  match i with
  | 0 =>
    simp at h1 h2
    exact .inl ⟨h1.symm, h2.symm⟩
  | 1 =>
    simp at h1 h2
    exact .inr (.inl ⟨h1.symm, by
      cases e : σ[0]? with
      | none => rw [e] at h2; cases h2
      | some z => rw [e] at h2; exact congrArg some h2⟩)
  | 2 =>
    simp at h1 h2
    exact .inr (.inr ⟨h1.symm, by
      cases e : σ[1]? with
      | none => rw [e] at h2; cases h2
      | some z => rw [e] at h2; exact congrArg some h2⟩)
  | i + 3 => simp at h1
theorem lamFree : ∀ y ∈ ([("bite", NameKind.local), ("self", NameKind.free), ("shape", NameKind.free)] : List (Str × NameKind)), y.2 = .free → (defScope sJBest).names.lookup y.1 = some .cell := by decide +kernel
section
variable {P : Program} {w : World} {K : PySem.W.Frag} {mg : Str → Option Value} {base : Heap} {C : Addr} {W : Ux04.Shape → Ux04.Worth}
/-! ### best_bite -/
def spBest (W : Ux04.Shape → Ux04.Worth) (C : Addr) (kn : Bool) : Sp := fun vs H Q _ => ∃ (j d a : Addr) (kvs : List (List Key × V)) (s : List Nat), vs = [.ref j, .ref a] ∧ JudgeAt W C H j d kvs ∧ H a = some (.tup (tv s)) ∧ Good s ∧ s ≠ [] ∧ (kn = true → Known kvs s) ∧
  ∀ H' kvs' t, JudgeAt W C H' j d kvs' → Grows kvs kvs' → Known kvs' s → Keep [d, tabP] H H' → H' t = some (.tup (tv (pr (chosenW W s)))) → lenW W s = 1 + lenW W (cut s (chosenW W s).1 (chosenW W s).2) → Q (.ref t) H'
theorem scJT : FnScope ["self", "shape", "good"] ["self", "shape"] (defScope sJBest) := ⟨rfl, rfl, rfl, by decide +kernel, rfl, by decide +kernel, by decide +kernel⟩
theorem ok_best {kn : Bool} {k : Nat} {c f fB fG fH : Addr} {fdB fdG fdH : FuncData} {oc kV doc pm ct : Value} {od an : Option Addr} {osl : Array (Option Value)} (R : Ma.Rec W) (hk4 : 4 ≤ k)
    (lk : K.lookup f = some ⟨oc, od, .func (PySem.W.fnOf "best_bite" "Judge.best_bite" (defArgs sJBest) (defBody sJBest) (defScope sJBest) .none kV doc pm an (.ref c) ct), osl⟩) (hcd : PySem.W.codeIn K (.ref c) "Judge.best_bite" = true)
    (L : LamM K mg base c tabP) (T : TxtJ K mg C) (T0 : Txt K mg) (hmax : mg "max" = none)
    (FB : Fun K "bites_at" "bites_at" sBites fB fdB) (bB : Binds K fdB ["shape"] []) (mB : mg "bites_at" = some (.ref fB)) (GB : FnOk P w K mg base CX0 1 fB fdB ["shape"] spBites)
    (mG : Meth K C "good_bites" fG) (bG : Binds K fdG ["self", "shape"] []) (GG : FnOk P w K mg base CX0 k fG fdG ["self", "shape"] (spGoods W C kn))
    (mH : Meth K C "length_behind" fH) (bH : Binds K fdH ["self", "shape", "bite"] []) (GH : FnOk P w K mg base CX0 2 fH fdH ["self", "shape", "bite"] (spBeh W C)) :
    FnOk P w K mg base CX0 (k + 1) f (PySem.W.fnOf "best_bite" "Judge.best_bite" (defArgs sJBest) (defBody sJBest) (defScope sJBest) .none kV doc pm an (.ref c) ct) ["self", "shape"] (spBest W C kn) := by
  refine fn_of lk hcd scJT (fun vs H Q E h => ?_) fun A outer s0 H vs Q E hr h => ?_
  · obtain ⟨j, d, a, kvs, s, rfl, _⟩ := h
    rfl
  · obtain ⟨j, d, a, kvs, s, rfl, hJ, ha, hs, hn, hk, q⟩ := h
    have r4 := hr.mono hk4
    have r1 : Room 1 _ := hr.mono (Nat.le_trans (by decide) hk4)
    have key : ∀ {X : Cx}, X.K = K → True := fun _ => trivial
    suffices hh : ∃ t, PSs (cxOf CX0 P w K mg base ["self", "shape", "good"] "Judge.best_bite" (defScope sJBest) f (.ref c) A outer s0 H E).nox (defBody sJBest) t ∧ t { nx := fun _ H' => Q .non H', rt := Q } (start ["self", "shape", "good"] [.ref j, .ref a]) H by
      obtain ⟨t, h1, h2⟩ := hh
      exact ⟨t, h1.nox, h2⟩
    refine ⟨_, pss_cons (ps_set (i := 2) scJT.nd rfl (Or.inl rfl) (pe_meth (pv 0) T.cl mG GG hr bG .nil pass0 (pa_cons (pv 1) pa_nil)))
      (pss_cons (ps_if (pt_truth (pv 2) (fun _ => rfl))
        (pss_one (ps_ret (pe_minK (P := tabP) (qual := lamQ) (sg := sgB) (x := "bite") (N := ["bite", "self", "shape"]) rfl rfl T0.min L rfl rfl r1.depth (pv 2) rfl rfl rfl (by decide +kernel) rfl lamFree rfl (fun _ _ _ _ _ => rfl) (fun _ _ => rfl) (fun σ xv i y v h1 h2 => by
            rcases sgB_names σ xv i y v h1 h2 with h | ⟨rfl, h⟩ | ⟨rfl, h⟩
            · exact .inl h
            · exact .inr ⟨rfl, 0, rfl, h, rfl⟩
            · exact .inr ⟨rfl, 1, rfl, h, rfl⟩)
          (fun s H L f c clos => pe_meth (pv 1) T.cl mH GH (r4.in1.deeper _) bH .nil pass0 (pa_cons (pv 2) (pa_cons (pv 0) pa_nil)))))) pss_nil)
      (pss_one (ps_ret (pe_maxK (P := tabP) (qual := lamQ) (sg := sgB) (x := "bite") (N := ["bite", "self", "shape"]) rfl rfl hmax L rfl rfl r1.depth (pe_call GB r1 rfl mB FB.kp bB .nil pass0 (pa_cons (pv 1) pa_nil)) rfl rfl rfl (by decide +kernel) rfl lamFree rfl (fun _ _ _ _ _ => rfl) (fun _ _ => rfl) (fun σ xv i y v h1 h2 => by
            rcases sgB_names σ xv i y v h1 h2 with h | ⟨rfl, h⟩ | ⟨rfl, h⟩
            · exact .inl h
            · exact .inr ⟨rfl, 0, rfl, h, rfl⟩
            · exact .inr ⟨rfl, 1, rfl, h, rfl⟩)
          (fun s H L f c clos => pe_meth (pv 1) T.cl mH GH (r4.in1.deeper _) bH .nil pass0 (pa_cons (pv 2) (pa_cons (pv 0) pa_nil))))))), ?_⟩
    obtain ⟨⟨dj, hj⟩, hd, hV, hT⟩ := id hJ
    refine ⟨_, rfl, j, dj, _, rfl, hj, rfl, _, rfl, j, d, a, kvs, s, rfl, hJ, ha, hs, hn, hk, fun H1 kvs1 p as a1 a2 a3 _ a5 a6 a7 a8 => ?_⟩
    obtain ⟨⟨dj1, hj1⟩, hd1, hV1, hT1⟩ := id a1
    have ha1 := Keep.tk hd hT a5 _ _ ha
    -- a key's call
    have turn : ∀ (L : List (Nat × Nat)) (bs : List Addr) (H1 H2 : Hp) (i : Nat) (x : V), (∀ x ∈ L, x ∈ Ux04.squares s) → Tups H1 bs (L.map pr) → JudgeAt W C H1 j d kvs1 → H1 a = some (.tup (tv s)) → SameT tabP H1 H2 → TabAt tabP lamQ H2 → (bs.map V.ref)[i]? = some x → ∀ H3, Same H2 H3 →
        tMeth C "length_behind" (spBeh W C) [] E0 (tVar 1) (tCons (tVar 2) (tCons (tVar 0) tNil)) (sgB [some (.ref j), some (.ref a), some (.ref p)] x) H3 fun y H4 => y = .int ((lenW W (cut s ((L[i]?).getD (1, 1)).1 ((L[i]?).getD (1, 1)).2) : Nat) : Int) ∧ Same H3 H4 := by
      intro L bs H1 H2 i x hL ht hJ1 ha1 sT T2 hi H3 s3
      obtain ⟨b, hb, rfl⟩ := ref_of hi
      obtain ⟨l, hl, hbt⟩ := ht.get hb
      rw [List.getElem?_map] at hl
      obtain ⟨y, hy, rfl⟩ := Option.map_eq_some_iff.mp hl
      have hJ3 := (hJ1.sameT sT T2).same s3
      obtain ⟨⟨dj3, hj3⟩, _⟩ := id hJ3
      rw [hy]
      have hb3 := s3 _ _ (sT _ _ hbt (tab_ne hJ1.tab hbt (by intro _ z; cases z)))
      have ha3 := s3 _ _ (sT _ _ ha1 (tab_ne hJ1.tab ha1 (by intro _ z; cases z)))
      exact ⟨_, rfl, j, dj3, _, rfl, hj3, rfl, _, rfl, _, rfl, j, d, a, b, kvs1, s, y, rfl, hJ3, ha3, hs, hb3, hL y (List.mem_of_getElem? hy), a3 y (hL y (List.mem_of_getElem? hy)), fun H4 s4 => ⟨rfl, s4⟩⟩
    refine ⟨_, rfl, !(as.map V.ref).isEmpty, truL a7 rfl, ?_⟩
    have hlen := a8.length
    rw [List.length_map] at hlen
    by_cases hg : goodW W s = []
    · have : as = [] := List.length_eq_zero_iff.mp (by rw [hlen, hg]; rfl)
      subst this
      refine iteF ?_
      refine ⟨_, rfl, a, s, rfl, hs, ha1, fun p2 H2 bs s2 hp2 hp2' ht => ?_⟩
      have hJ2 := a1.same s2
      refine ⟨p2, bs.map V.ref, rfl, hp2', ?_, hJ2.tab, fun H3 sT T3 => ⟨fun i => ((lenW W (cut s (((Ux04.squares s)[i]?).getD (1, 1)).1 (((Ux04.squares s)[i]?).getD (1, 1)).2) : Nat) : Int),
        fun i x hi H4 s4 => turn (Ux04.squares s) bs H2 H3 i x (fun _ h => h) ht hJ2 (s2 _ _ ha1) sT T3 hi H4 s4, fun i x H4 hi fb s4 => ?_⟩⟩
      · rw [List.length_map, ht.length, List.length_map, Ma.squares_cons hs hn]
        simp
      · obtain ⟨b, hb, rfl⟩ := ref_of hi
        obtain ⟨l, hl, hbt⟩ := ht.get hb
        rw [List.getElem?_map] at hl
        obtain ⟨y, hy, rfl⟩ := Option.map_eq_some_iff.mp hl
        obtain ⟨f1, f2, f3⟩ := fb
        rw [List.length_map, ht.length, List.length_map] at f1 f2
        have hbest := R.best_lost hs hn hg hy (fun m z hz => by
          have h1 := f2 m (List.getElem?_eq_some_iff.mp hz).1
          simp only [hy, hz, Option.getD_some, decide_eq_false_iff_not] at h1
          omega) fun m z hm hz => by
          have h1 := f3 m hm
          simp only [hy, hz, Option.getD_some, decide_eq_true_eq] at h1
          omega
        have hJ4 := (hJ2.sameT sT T3).same s4
        refine q H4 kvs1 b hJ4 a2 a3 ?_ ?_ (by rw [hbest.1]; exact hbest.2)
        · intro u o e nu
          have nu' : u ≠ tabP := fun z => nu (by simp [z])
          exact s4 _ _ (sT _ _ (s2 _ _ (a5 u o e nu)) nu')
        · rw [hbest.1]
          exact s4 _ _ (sT _ _ hbt (tab_ne hJ2.tab hbt (by intro _ z; cases z)))
    · have hne : 0 < as.length := by
        rw [hlen]; exact List.length_pos_iff.mpr hg
      have e1 : ((as.map V.ref).isEmpty) = false := by
        cases as with
        | nil => simp at hne
        | cons _ _ => rfl
      rw [e1]
      refine iteT ?_
      refine ⟨_, rfl, p, as.map V.ref, rfl, a7, by rw [List.length_map]; exact hne, hT1, fun H3 sT T3 => ⟨fun i => ((lenW W (cut s (((goodW W s)[i]?).getD (1, 1)).1 (((goodW W s)[i]?).getD (1, 1)).2) : Nat) : Int),
        fun i x hi H4 s4 => turn (goodW W s) as H1 H3 i x (fun x hx => ?_) a8 a1 ha1 sT T3 hi H4 s4, fun i x H4 hi fb s4 => ?_⟩⟩
      · rw [Ma.squares_cons hs hn]
        exact List.mem_cons_of_mem _ (Ma.goodW_mem.mp hx).1
      · obtain ⟨b, hb, rfl⟩ := ref_of hi
        obtain ⟨l, hl, hbt⟩ := a8.get hb
        rw [List.getElem?_map] at hl
        obtain ⟨y, hy, rfl⟩ := Option.map_eq_some_iff.mp hl
        obtain ⟨f1, f2, f3⟩ := fb
        rw [List.length_map, a8.length, List.length_map] at f1 f2
        have hbest := R.best_won hs hn hg hy (fun m z hz => by
          have h1 := f2 m (List.getElem?_eq_some_iff.mp hz).1
          simp only [hy, hz, Option.getD_some, decide_eq_false_iff_not] at h1
          omega) fun m z hm hz => by
          have h1 := f3 m hm
          simp only [hy, hz, Option.getD_some, decide_eq_true_eq] at h1
          omega
        have hJ4 := (a1.sameT sT T3).same s4
        refine q H4 kvs1 b hJ4 a2 a3 ?_ ?_ (by rw [hbest.1]; exact hbest.2)
        · intro u o e nu
          have nu' : u ≠ tabP := fun z => nu (by simp [z])
          exact s4 _ _ (sT _ _ (a5 u o e nu) nu')
        · rw [hbest.1]
          exact s4 _ _ (sT _ _ hbt (tab_ne hT1 hbt (by intro _ z; cases z)))
end
end Bb

end

section
set_option Elab.async false
set_option linter.all false
set_option maxRecDepth 100000
set_option maxHeartbeats 2000000
namespace Bb
open PySem PySem.Spec PyProof.Rows L2
open Ma (within cut Good lenW lostW goodW chosenW)
theorem nd_put_old {kvs : List (List Key × V)} {k : List Key} {v u : V} (h : (kvs.map (·.1)).Nodup) (e : valV kvs k = some u) : ((putK kvs k v).map (·.1)).Nodup := by
  unfold putK
  rw [valV_any, e, if_pos (show (some u).isSome = true from rfl), List.map_map]
  have : ((fun x : List Key × V => x.1) ∘ fun kv : List Key × V => if kv.1 = k then (kv.1, v) else kv) = fun x => x.1 := by
    funext x
    simp only [Function.comp]
    split <;> rfl
  rw [this]; exact h
theorem one_add {a b : Nat} (h : a = 1 + b) : (1 : Int) + (b : Int) = (a : Int) := by omega
section
variable {P : Program} {w : World} {K : PySem.W.Frag} {mg : Str → Option Value} {base : Heap} {C : Addr} {W : Ux04.Shape → Ux04.Worth}
theorem ok_len {k : Nat} {f fT fH fW : Addr} {fd fdT fdH fdW : FuncData} (hk2 : 2 ≤ k) (F : Fun K "length" "Judge.length" sJLen f fd) (T : TxtJ K mg C)
    (mT : Meth K C "best_bite" fT) (bT : Binds K fdT ["self", "shape"] []) (GT : FnOk P w K mg base CX0 k fT fdT ["self", "shape"] (spBest W C true))
    (mH : Meth K C "length_behind" fH) (bH : Binds K fdH ["self", "shape", "bite"] []) (GH : FnOk P w K mg base CX0 2 fH fdH ["self", "shape", "bite"] (spBeh W C))
    (FW : Fun K "shapes_within" "shapes_within" sWithin fW fdW) (bW : Binds K fdW ["shape"] []) (mW : mg "shapes_within" = some (.ref fW)) (GW : FnOk P w K mg base CX0 2 fW fdW ["shape"] spWithin) :
    FnOk P w K mg base CX0 (k + 1) f fd ["self", "shape"] (spLen W C false) := by
  refine F.ok scJN (fun vs H Q E h => ?_) (fun cdv A outer s H vs Q E hr h => ?_)
  · obtain ⟨j, d, a, kvs, s, rfl, _⟩ := h
    rfl
  · obtain ⟨j, d, a, kvs, s, rfl, hJ, ha, hs, _, q⟩ := h
    have hu := hu_of hr
    have r2 := hr.mono hk2
    refine ⟨_, pss_cons (ps_if (pt_cmp (pc_dnotin hu (pv 1) (pe_fld (pv 0) rfl)))
        (pss_one (ps_for PassesOwn.never rfl (pi_list (pe_call GW r2 rfl mW FW.kp bW .nil pass0 (pa_cons (pv 1) pa_nil))) (pg_name (i := 2) scJN.nd rfl (Or.inl rfl))
          (pss_one (ps_if (pt_cmp (pc_dnotin hu (pv 2) (pe_fld (pv 0) rfl)))
            (pss_one (ps_dput hu (pe_fld (pv 0) rfl) (pv 2) (pe_op op_add pe_int (pe_meth (pv 0) T.cl mH GH r2 bH .nil pass0 (pa_cons (pv 2) (pa_cons (pe_meth (pv 0) T.cl mT GT hr bT .nil pass0 (pa_cons (pv 2) pa_nil)) pa_nil)))) rfl)) pss_nil)))) pss_nil)
      (pss_one (ps_ret (pe_dget hu (pe_fld (pv 0) rfl) (pv 1) (fun _ _ => rfl)))), ?_⟩
    obtain ⟨⟨dj, hj⟩, hd, hV, hT⟩ := id hJ
    have fin : ∀ (v2 : Option V) (H' : Hp) (kvs' : List (List Key × V)), JudgeAt W C H' j d kvs' → Grows kvs kvs' → Keep [d, tabP] H H' → (valV kvs' (ks s)).isSome = true →
        tRet (tDGet (tFld K (tVar 0) "lengths") (tVar 1)) { nx := fun _ H' => Q .non H', rt := Q } [some (.ref j), some (.ref a), v2] H' := by
      intro v2 H' kvs' hJ' hg hk hv
      obtain ⟨⟨dj', hj'⟩, hd', hV', _⟩ := id hJ'
      obtain ⟨v, hv2⟩ := Option.isSome_iff_exists.mp hv
      have ha' := Keep.tk hd hT hk _ _ ha
      refine ⟨_, rfl, j, C, dj', _, .ref d, rfl, hj', T.cl, T.nV, rfl, _, rfl, d, v, rfl, ?_, ?_⟩
      · rw [← hv2]; exact DGet.t hd' (key_tup ha')
      · rw [hV'.get hv2]; exact q H' kvs' hJ' hg hv (fun z => by cases z) hk
    refine ⟨_, rfl, _, rfl, j, C, dj, _, .ref d, rfl, hj, T.cl, T.nV, rfl, d, _, rfl, DGet.t hd (key_tup ha), _, rfl, ?_⟩
    cases e : valV kvs (ks s) with
    | some v => exact iteF (fin none H kvs hJ (Grows.refl _) (Keep.of (Same.refl H)) (by rw [e]; rfl))
    | none =>
      have hn : s ≠ [] := by
        rintro rfl
        have := hV.nil
        rw [e] at this; cases this
      refine iteT ?_
      refine ⟨_, rfl, a, s, rfl, hs, ha, fun p H1 as h1 hp0 hp1 ht => ⟨p, rfl, ⟨_, SqL.of hp1⟩, ?_⟩⟩
      have hJ1 := hJ.same h1
      obtain ⟨⟨dj1, hj1⟩, hd1, hV1, hT1⟩ := id hJ1
      refine for_list (K := K) (a := p) (xs := as.map V.ref) (fun i σ H' => ∃ (v2 : Option V) (kvs' : List (List Key × V)), σ = [some (.ref j), some (.ref a), v2] ∧ JudgeAt W C H' j d kvs' ∧ Grows kvs kvs' ∧ Keep [d, tabP] H1 H' ∧ ∀ t ∈ (within s).take i, (valV kvs' (ks t)).isSome = true)
        ⟨none, kvs, rfl, hJ1, Grows.refl _, Keep.of (Same.refl H1), fun t h => by simp at h⟩ (fun i σ H' _ h => by
          obtain ⟨_, _, _, _, _, h2, _⟩ := h
          exact SqL.of (Keep.at hd1 hT1 h2 hp1 (by intro _ z; cases z) (by intro _ z; cases z))) ?_ ?_
      · rintro i x σ H' hi ⟨v2, kvs', rfl, hJ', hg', hk, hall⟩
        obtain ⟨b, hb, rfl⟩ := ref_of hi
        obtain ⟨t, htt, hbt⟩ := ht.get hb
        obtain ⟨⟨dj', hj'⟩, hd', hV', hT'⟩ := id hJ'
        have hb' := Keep.tk hd1 hT1 hk _ _ hbt
        have ew : within s = (within s).take i ++ t :: (within s).drop (i + 1) := by
          obtain ⟨hlt, he⟩ := List.getElem?_eq_some_iff.mp htt
          rw [← he, List.getElem_cons_drop hlt, List.take_append_drop]
        have htg := Ma.within_good hs (List.mem_of_getElem? htt)
        refine ⟨_, rfl, _, rfl, j, C, dj', _, .ref d, rfl, hj', T.cl, T.nV, rfl, d, _, rfl, DGet.t hd' (key_tup hb'), _, rfl, ?_⟩
        cases e2 : valV kvs' (ks t) with
        | some v =>
          refine iteF ⟨_, kvs', rfl, hJ', hg', hk, fun u hu2 => ?_⟩
          rw [take_snoc htt] at hu2
          rcases List.mem_append.mp hu2 with hu2 | hu2
          · exact hall u hu2
          · obtain rfl : u = t := by simpa using hu2
            rw [e2]; rfl
        | none =>
          refine iteT ?_
          have hkn : Known kvs' t := fun x hx => by
            by_cases hc : cut t x.1 x.2 = []
            · rw [hc]; exact hV'.nil
            · exact hall _ (Ma.cut_ahead hs ew hx hc)
          refine ⟨_, rfl, j, dj', _, rfl, hj', rfl, _, rfl, _, rfl, j, dj', _, rfl, hj', rfl, _, rfl, j, d, b, kvs', t, rfl, hJ', hb', htg.1, htg.2, fun _ => hkn, fun H2 kvs2 z b1 b2 b3 b4 b5 b6 => ?_⟩
          obtain ⟨⟨dj2, hj2⟩, hd2, hV2, hT2⟩ := id b1
          have hb2 := Keep.tk hd' hT' b4 _ _ hb'
          have hsq : chosenW W t ∈ Ux04.squares t := Ma.chosenW_square htg.1 htg.2
          refine ⟨j, d, b, z, kvs2, t, chosenW W t, rfl, b1, hb2, htg.1, b5, hsq, b3 _ hsq, fun H3 s3 => ⟨_, _, rfl, rfl, ?_⟩⟩
          have hJ3 := b1.same s3
          obtain ⟨⟨dj3, hj3⟩, hd3, hV3, hT3⟩ := id hJ3
          have hl : kvs2.length < sizeLine := Nat.lt_of_le_of_lt hV3.len (by decide)
          have hb3 := s3 _ _ hb2
          refine ⟨_, rfl, j, C, dj3, _, .ref d, rfl, hj3, T.cl, T.nV, rfl, _, rfl, d, _, rfl, DPut.t hd3 (key_tup hb3) hl, ?_⟩
          have hjd : j ≠ d := ne_of hj3 hd3 (by intro z; cases z)
          have vp : Verd W (putK kvs2 (ks t) (.int (lenW W t : Nat))) := by
            cases e3 : valV kvs2 (ks t) with
            | none => exact hV3.put htg.1 e3
            | some v3 =>
              refine ⟨fun k v hv => ?_, ?_, ?_⟩
              · rw [valV_put] at hv
                split at hv
                · rename_i hk3
                  exact ⟨t, hk3, htg.1, (Option.some.inj hv).symm⟩
                · exact hV3.ok k v hv
              · exact nd_put_old hV3.nd e3
              · rw [valV_put]
                split
                · rfl
                · exact hV3.nil
          refine ⟨_, _, rfl, ⟨⟨dj3, by rw [upd_ne hjd]; exact hj3⟩, upd_same, (by dsimp only; rw [one_add b6]; exact vp), hT3.upd hd3 (by intro _ z; cases z) (by intro _ z; cases z)⟩, (hg'.trans b2).trans grows_put, ((hk.trans b4).trans (Keep.of s3)).trans (Keep.upd (by simp)), fun u hu2 => ?_⟩
          rw [take_snoc htt] at hu2
          rcases List.mem_append.mp hu2 with hu2 | hu2
          · exact grows_put _ (b2 _ (hall u hu2))
          · obtain rfl : u = t := by simpa using hu2
            rw [valV_put, if_pos rfl]; rfl
      · rintro σ H' ⟨v2, kvs', rfl, hJ', hg', hk, hall⟩
        rw [List.length_map, ht.length, List.take_length] at hall
        exact fin v2 H' kvs' hJ' hg' ((Keep.of h1).trans hk) (hall s (Ma.self_within hs hn))
end
end Bb

end

section
set_option Elab.async false
set_option linter.all false
set_option maxRecDepth 100000
set_option maxHeartbeats 2000000
namespace Bb
open PySem PySem.Spec PyProof.Rows L2
open Ma (within cut Good)
abbrev sBInit : Stmt := inClass (top 28) 0
abbrev sBWhole : Stmt := inClass (top 28) 1
abbrev sBShape : Stmt := inClass (top 28) 2
abbrev sBBite : Stmt := inClass (top 28) 3
abbrev sBBack : Stmt := inClass (top 28) 4
abbrev sBShows : Stmt := inClass (top 28) 5
abbrev sBWon : Stmt := inClass (top 28) 6
abbrev sBGood : Stmt := inClass (top 28) 7
abbrev sBLong : Stmt := inClass (top 28) 8
abbrev sBPlay : Stmt := inClass (top 28) 9
abbrev sBUnder : Stmt := inClass (top 28) 10
abbrev sBLost : Stmt := inClass (top 28) 11
abbrev sBTurn : Stmt := inClass (top 28) 12
abbrev sBAmong : Stmt := inClass (top 28) 13
theorem odd_ne {H : Hp} {y b : Addr} {o u : HO} (e : H y = some o) (ho : (∃ ps, o = .tbl ps) ∨ ∃ φ, o = .ext φ) (hb : H b = some u) (h1 : ∀ ps, u ≠ .tbl ps) (h2 : ∀ φ, u ≠ .ext φ) : y ≠ b := fun z => by
  rw [z, hb] at e
  cases e
  rcases ho with ⟨_, z⟩ | ⟨_, z⟩
  · exact h1 _ z
  · exact h2 _ z
def barF (t l j : Addr) : List (Str × V) := [("shape", .ref t), ("earlier", .ref l), ("judge", .ref j)]
/-- a Bar at b: its bites at l, its judge at j, the judge's verdicts at d -/
structure BarAt (CB CJ : Addr) (H : Hp) (b l j d : Addr) (st : Ux04.Bar) : Prop where
  bar : ∃ dx t, H b = some (.ins CB dx (barF t l j)) ∧ H t = some (.tup (tv st.now))
  old : ∃ as, H l = some (.lst (as.map V.ref)) ∧ Tups H as st.old.reverse
  jud : ∃ kvs, JudgeAt Ux04.worth CJ H j d kvs
  good : Good st.now
  goods : ∀ s ∈ st.old, Good s
theorem BarAt.same {CB CJ : Addr} {H H' : Hp} {b l j d : Addr} {st : Ux04.Bar} (h : BarAt CB CJ H b l j d st) (s : Same H H') : BarAt CB CJ H' b l j d st := by
  obtain ⟨⟨dx, t, h1, h2⟩, ⟨as, h3, h4⟩, ⟨kvs, h5⟩, h8, h9⟩ := h
  exact ⟨⟨dx, t, s _ _ h1, s _ _ h2⟩, ⟨as, s _ _ h3, h4.keep (TK.of s)⟩, ⟨kvs, h5.same s⟩, h8, h9⟩
theorem bar_judge {CB CJ : Addr} {H : Hp} {b j dx dj t l j' d : Addr} (h1 : H b = some (.ins CB dx (barF t l j'))) (h2 : H j = some (.ins CJ dj (judgeF d))) : b ≠ j := ne_of h1 h2 (by
  intro z
  injection z with _ _ z
  cases z)
/-- what is wanted behind a call -/
def Ans (CB CJ : Addr) (c : Ux04.Call) (b l j d : Addr) (st : Ux04.Bar) (H : Hp) (Q : VK) : Prop :=
  ∀ p H' l', BarAt CB CJ H' b l' j d (Ux04.step st c).1 → (l' = l ∨ (H l' = none ∧ H' l ≠ none)) → Keep [b, l, j, d, tabP] H H' → H p = none → H' p = some (.lst ((Ux04.step st c).2.map V.int)) → Q (.ref p) H'
/-- a refusal, or any answer that changes nothing -/
theorem Ans.stays {CB CJ : Addr} {c : Ux04.Call} {b l j d : Addr} {st : Ux04.Bar} {H H1 : Hp} {Q : VK} {xs : List Int} {p : Addr} (q : Ans CB CJ c b l j d st H Q) (hB : BarAt CB CJ H b l j d st) (e : Ux04.step st c = (st, xs)) (s : Same H H1)
    (hp : H1 p = none) : Q (.ref p) (upd H1 p (.lst (xs.map V.int))) := by
  have s2 : Same H1 (upd H1 p (.lst (xs.map V.int))) := upd_same_of hp
  refine q p _ l ?_ (.inl rfl) (Keep.of (s.trans s2)) (s.free hp) ?_
  · rw [e]; exact hB.same (s.trans s2)
  · rw [e, upd_same]
structure TxtB (K : PySem.W.Frag) (mg : Str → Option Value) (C : Addr) : Prop where
  cl : Cls K C
  nS : NoAttr K C "shape"
  nE : NoAttr K C "earlier"
  nJ : NoAttr K C "judge"
  mRows : ∃ t, mg "MOST_ROWS" = some (.int 5 t)
  mSize : ∃ t, mg "WRONG_SIZE" = some (.int (-1) t)
  mNo : ∃ t, mg "NO_SUCH_SQUARE" = some (.int (-2) t)
  mLeft : ∃ t, mg "NOTHING_LEFT" = some (.int (-6) t)
  mBit : ∃ t, mg "NOBODY_HAS_BITTEN" = some (.int (-9) t)
  len : mg "len" = none
  sum : mg "sum" = none
  list : mg "list" = none
  tuple : mg "tuple" = none
section
variable {P : Program} {w : World} {K : PySem.W.Frag} {mg : Str → Option Value} {base : Heap} {CB CJ : Addr}
/-! ### __init__ -/
def spBInit (CB CJ : Addr) : Sp := fun vs H Q _ => ∃ (x dx : Addr), vs = [.ref x] ∧ H x = some (.ins CB dx []) ∧ TabAt tabP lamQ H ∧
  ∀ (H' : Hp) (l j d : Addr), BarAt CB CJ H' x l j d Ux04.init → H l = none → H j = none → H d = none → (∀ b o, H b = some o → b ≠ x → H' b = some o) → Q .non H'
theorem scBI : FnScope ["self"] ["self"] (defScope sBInit) := ⟨rfl, rfl, rfl, by decide +kernel, rfl, by decide +kernel, by decide +kernel⟩
theorem ok_binit {f fJ : Addr} {fd fdJ : FuncData} (F : Fun K "__init__" "Bar.__init__" sBInit f fd) (T : TxtB K mg CB) (MJ : Mk K CJ fJ) (mgJ : mg "Judge" = some (.ref CJ)) (bJ : Binds K fdJ ["self"] []) (GJ : FnOk P w K mg base CX0 1 fJ fdJ ["self"] (spJInit Ux04.worth CJ)) :
    FnOk P w K mg base CX0 3 f fd ["self"] (spBInit CB CJ) := by
  refine F.ok scBI (fun vs H Q E h => ?_) (fun cdv A outer s H vs Q E hr h => ?_)
  · obtain ⟨x, dx, rfl, _⟩ := h
    rfl
  · obtain ⟨x, dx, rfl, hx, hT, k⟩ := h
    refine ⟨_, pss_cons (ps_fld (pv 0) (pe_tup (pa_cons pe_int pa_nil)) rfl) (pss_cons (ps_fld (pv 0) (pe_lst pa_nil) rfl) (pss_one (ps_fld (pv 0) (pe_make0 MJ GJ hr rfl mgJ bJ .nil pass0) rfl))), ?_⟩
    refine ⟨by decide, fun t ht => ⟨_, rfl, x, CB, dx, [], rfl, ?_, T.cl, T.nS, by decide, ?_⟩⟩
    · rw [upd_ne (ne_of_none hx ht)]; exact hx
    have hxt : x ≠ t := ne_of_none hx ht
    refine ⟨by decide, fun l hl => ⟨_, rfl, x, CB, dx, putF "shape" (.ref t) [], rfl, ?_, T.cl, T.nE, by show 1 < 1000; decide, ?_⟩⟩
    · rw [upd_ne (ne_of_none upd_same hl), upd_same]
    have hxl : x ≠ l := ne_of_none upd_same hl
    have htl : t ≠ l := ne_of_none (by rw [upd_ne hxt.symm, upd_same]) hl
    intro j dj hj hdj hne
    have hxj : x ≠ j := ne_of_none upd_same hj
    have hxdj : x ≠ dj := ne_of_none upd_same hdj
    have f1 : ∀ {y : Addr}, upd (upd (upd (upd H t (.tup [V.int 1])) x (.ins CB dx (putF "shape" (.ref t) []))) l (.lst [])) x (.ins CB dx (putF "earlier" (.ref l) (putF "shape" (.ref t) []))) y = none → H y = none := by
      intro y hy
      cases e : H y with
      | none => rfl
      | some o =>
        exfalso
        have h1 : y ≠ t := ne_of_none e ht
        by_cases h2 : y = x
        · rw [h2, upd_same] at hy; cases hy
        · have h3 : y ≠ l := by
            rintro rfl
            rw [upd_ne h2, upd_same] at hy; cases hy
          rw [upd_ne h2, upd_ne h3, upd_ne h2, upd_ne h1, e] at hy; cases hy
    have hT5 : TabAt tabP lamQ (upd (upd (upd (upd (upd (upd H t (.tup [V.int 1])) x (.ins CB dx (putF "shape" (.ref t) []))) l (.lst [])) x (.ins CB dx (putF "earlier" (.ref l) (putF "shape" (.ref t) [])))) dj (.own j)) j (.ins CJ dj [])) := by
      have a1 : TabAt tabP lamQ (upd H t (.tup [V.int 1])) := hT.same (upd_same_of ht)
      have a2 := a1.upd (o' := .ins CB dx (putF "shape" (.ref t) [])) (by rw [upd_ne hxt]; exact hx) (by intro _ z; cases z) (by intro _ z; cases z)
      have a3 := a2.same (upd_same_of (o := .lst []) hl)
      have a4 := a3.upd (b := x) (o' := .ins CB dx (putF "earlier" (.ref l) (putF "shape" (.ref t) []))) (by rw [upd_ne hxl, upd_same]) (by intro _ z; cases z) (by intro _ z; cases z)
      have a5 := a4.same (upd_same_of (o := .own j) hdj)
      exact a5.same (upd_same_of (o := .ins CJ dj []) (by rw [upd_ne hne.symm]; exact hj))
    refine ⟨j, dj, rfl, upd_same, hT5, fun H2 d kvs hJ hd hk => ⟨rfl, ?_⟩⟩
    have up : ∀ b o, upd (upd (upd (upd H t (.tup [V.int 1])) x (.ins CB dx (putF "shape" (.ref t) []))) l (.lst [])) x (.ins CB dx (putF "earlier" (.ref l) (putF "shape" (.ref t) []))) b = some o → H2 b = some o := by
      intro b o e
      have hbj : b ≠ j := ne_of_none e hj
      have hbd : b ≠ dj := ne_of_none e hdj
      exact hk b o (by rw [upd_ne hbj, upd_ne hbd]; exact e) hbj
    have hx2 := up x _ upd_same
    refine ⟨_, rfl, x, CB, dx, _, rfl, hx2, T.cl, T.nJ, by show 2 < 1000; decide, ?_⟩
    obtain ⟨⟨dj2, hj2⟩, hd2, hV, hT2⟩ := hJ
    have hdx : d ≠ x := by
      rintro rfl
      rw [hx2] at hd2; cases hd2
    have ed : H d = none := by
      by_cases h1 : d = j
      · rw [h1]; exact f1 hj
      · by_cases h2 : d = dj
        · rw [h2]; exact f1 hdj
        · rw [upd_ne h1, upd_ne h2] at hd; exact f1 hd
    refine k _ l j d ⟨⟨dx, t, ?_, ?_⟩, ⟨[], ?_, True.intro⟩, ⟨kvs, ⟨dj2, ?_⟩, ?_, hV, hT2.upd hx2 (by intro _ z; cases z) (by intro _ z; cases z)⟩, ?_, ?_⟩ ?_ (f1 hj) ed fun b o e hb => ?_
    · rw [upd_same]; rfl
    · rw [upd_ne hxt.symm]
      exact up _ _ (by rw [upd_ne hxt.symm, upd_ne htl, upd_ne hxt.symm, upd_same]; rfl)
    · rw [upd_ne hxl.symm]
      exact up _ _ (by rw [upd_ne hxl.symm, upd_same]; rfl)
    · rw [upd_ne hxj.symm]; exact hj2
    · rw [upd_ne hdx]; exact hd2
    · exact ⟨by decide, by decide, True.intro⟩
    · intro s hs; exact nomatch hs
    · have := hl
      rw [upd_ne hxl.symm] at this
      cases e : H l with
      | none => rfl
      | some o =>
        exfalso
        rw [upd_ne (ne_of_none e ht), e] at this; cases this
    · rw [upd_ne hb]
      have h1 : b ≠ t := ne_of_none e ht
      have h2 : b ≠ l := ne_of_none (by rw [upd_ne hb, upd_ne h1]; exact e) hl
      exact up _ _ (by rw [upd_ne hb, upd_ne h2, upd_ne hb, upd_ne h1]; exact e)
end
end Bb

end

section
set_option Elab.async false
set_option linter.all false
set_option maxRecDepth 100000
set_option maxHeartbeats 2000000
namespace Bb
open PySem PySem.Spec PyProof.Rows L2
open Ma (within cut Good)
theorem fits_iff : ∀ {m : Int} {ns : List Int}, fits m ns = true ↔ ∀ r, ns.length ≤ r → Ma.Fit r m.toNat (ns.map Int.toNat) ∧ ∀ n ∈ ns, 1 ≤ n
  | m, [] => by simp [fits, Ma.Fit]
  | m, n :: ns => by
    have ih := fits_iff (m := n) (ns := ns)
    unfold fits
    simp only [Bool.and_eq_true, decide_eq_true_eq]
    rw [ih]
    constructor
    · rintro ⟨⟨h1, h2⟩, h3⟩ r hr
      cases r with
      | zero => simp at hr
      | succ r =>
        have := h3 r (by simpa using hr)
        refine ⟨⟨by omega, by omega, this.1⟩, fun k hk => ?_⟩
        rcases List.mem_cons.mp hk with rfl | hk
        · exact h1
        · exact this.2 k hk
    · intro h
      have h1 := h (ns.length + 1) (by simp)
      have h2 := h1.2 n (by simp)
      have h3 : 1 ≤ n.toNat ∧ n.toNat ≤ m.toNat ∧ Ma.Fit ns.length n.toNat (ns.map Int.toNat) := h1.1
      refine ⟨⟨h2, by omega⟩, fun r hr => ⟨?_, fun k hk => h1.2 k (by simp [hk])⟩⟩
      have h4 := Ma.fit_iff.mp h3.2.2
      exact Ma.fit_iff.mpr ⟨by rw [List.length_map]; exact hr, h4.2.1, h4.2.2⟩
theorem isShapeB_eq {ns : List Int} (h0 : ∀ n ∈ ns, 0 ≤ n) : isShapeB ns = Ux04.isShape (ns.map Int.toNat) := by
  have : isShapeB ns = true ↔ Ux04.isShape (ns.map Int.toNat) = true := by
    rw [Ma.isShape_iff]
    unfold isShapeB
    simp only [Bool.and_eq_true, decide_eq_true_eq]
    rw [fits_iff]
    constructor
    · rintro ⟨⟨h1, h2⟩, h3⟩
      exact ⟨by intro z; have := congrArg List.length z; rw [List.length_map, List.length_nil] at this; omega, (h3 5 h2).1⟩
    · rintro ⟨h1, h2⟩
      have h3 := Ma.fit_iff.mp h2
      rw [List.length_map] at h3
      have h4 : 1 ≤ ns.length := by
        cases ns with
        | nil => exact absurd rfl h1
        | cons _ _ => simp
      refine ⟨⟨h4, h3.1⟩, fun r hr => ⟨Ma.fit_iff.mpr ⟨by rw [List.length_map]; exact hr, h3.2.1, h3.2.2⟩, fun n hn => ?_⟩⟩
      have := (h3.2.1 n.toNat (List.mem_map.mpr ⟨n, hn, rfl⟩)).1
      omega
  cases h1 : isShapeB ns <;> cases h2 : Ux04.isShape (ns.map Int.toNat) <;> simp_all
theorem tv_toNat : ∀ {ns : List Int}, (∀ n ∈ ns, 0 ≤ n) → ns.map V.int = tv (ns.map Int.toNat)
  | [], _ => rfl
  | n :: ns, h => by
    have := h n (by simp)
    rw [List.map_cons, List.map_cons, tv_cons, tv_toNat fun k hk => h k (by simp [hk])]
    congr 2
    omega
theorem sum_toNat : ∀ {ns : List Int}, (∀ n ∈ ns, 0 ≤ n) → ns.sum = ((Ux04.total (ns.map Int.toNat) : Nat) : Int)
  | [], _ => rfl
  | n :: ns, h => by
    have := h n (by simp)
    rw [List.sum_cons, List.map_cons, Ma.total_cons, sum_toNat fun k hk => h k (by simp [hk])]
    omega
theorem sum_nat (s : List Nat) : (s.map fun (n : Nat) => (n : Int)).sum = ((Ux04.total s : Nat) : Int) := by
  induction s with
  | nil => rfl
  | cons n s ih => rw [List.map_cons, List.sum_cons, ih, Ma.total_cons]; omega
theorem hasB_eq (s : List Nat) (i j : Nat) : hasB s (i : Int) (j : Int) = (Ux04.squares s).contains (i, j) := by
  have : hasB s (i : Int) (j : Int) = true ↔ (Ux04.squares s).contains (i, j) = true := by
    rw [Ma.contains_squares]
    unfold hasB
    simp only [Bool.and_eq_true, decide_eq_true_eq]
    have e : ((i : Int) - 1).toNat = i - 1 := by omega
    rw [e]
    constructor
    · rintro ⟨⟨h1, h2⟩, h3, h4⟩
      have hl : i - 1 < s.length := by omega
      rw [List.getElem?_eq_getElem hl] at h4 ⊢
      exact ⟨by omega, by omega, _, rfl, by simpa using h4⟩
    · rintro ⟨h1, h2, n, h3, h4⟩
      have hl := (List.getElem?_eq_some_iff.mp h3).1
      rw [h3]
      exact ⟨⟨by omega, by omega⟩, by omega, by simpa using h4⟩
  cases h1 : hasB s (i : Int) (j : Int) <;> cases h2 : (Ux04.squares s).contains (i, j) <;> simp_all
section
variable {P : Program} {w : World} {K : PySem.W.Frag} {mg : Str → Option Value} {base : Heap} {CB CJ : Addr}
/-! ### lay_shape -/
def spBShape (K : PySem.W.Frag) (CB CJ : Addr) : Sp := fun vs H Q _ => ∃ (b l j d a : Addr) (st : Ux04.Bar) (ns : List Int), vs = [.ref b, .ref a] ∧ BarAt CB CJ H b l j d st ∧ SqL K H a (ns.map V.int) ∧ (∀ n ∈ ns, 0 ≤ n) ∧ Ans CB CJ (.shape (ns.map Int.toNat)) b l j d st H Q
theorem scBS : FnScope ["self", "rows"] ["self", "rows"] (defScope sBShape) := ⟨rfl, rfl, rfl, by decide +kernel, rfl, by decide +kernel, by decide +kernel⟩
theorem ok_bshape {f fI : Addr} {fd fdI : FuncData} (F : Fun K "lay_shape" "Bar.lay_shape" sBShape f fd) (T : TxtB K mg CB) (FI : Fun K "is_shape" "is_shape" sIsShape fI fdI) (bI : Binds K fdI ["rows"] []) (mI : mg "is_shape" = some (.ref fI)) (GI : FnOk P w K mg base CX0 1 fI fdI ["rows"] (spIsShape K)) :
    FnOk P w K mg base CX0 2 f fd ["self", "rows"] (spBShape K CB CJ) := by
  refine F.ok scBS (fun vs H Q E h => ?_) (fun cdv A outer s H vs Q E hr h => ?_)
  · obtain ⟨b, l, j, d, a, st, ns, rfl, _⟩ := h
    rfl
  · obtain ⟨b, l, j, d, a, st, ns, rfl, hB, ha, h0, q⟩ := h
    obtain ⟨tS, hS⟩ := T.mSize
    refine ⟨_, pss_cons (ps_if (pt_not (pt_val (pe_call GI hr rfl mI FI.kp bI .nil pass0 (pa_cons (pv 1) pa_nil)))) (pss_one (ps_ret (pe_lst (pa_cons (pe_glob (v := .int (-1)) rfl hS ⟨_, rfl⟩) pa_nil)))) pss_nil)
      (pss_cons (ps_fld (pv 0) (pe_callTy call_tuple_of (by rfl) T.tuple PyProof.Rows.boot_tuple (pa_cons (pv 1) pa_nil)) rfl)
      (pss_cons (ps_fld (pv 0) (pe_lst pa_nil) rfl)
      (pss_one (ps_ret (pe_lst (pa_cons (pe_callB (cr_sum rfl) (by rfl) T.sum PyProof.Rows.boot_sum (pa_cons (pv 1) pa_nil)) pa_nil)))))), ?_⟩
    refine ⟨_, rfl, a, ns, rfl, ha, _, rfl, ?_⟩
    have es := isShapeB_eq h0
    cases hc : isShapeB ns with
    | false =>
      refine iteT ⟨by decide, fun p hp => ?_⟩
      refine q.stays (xs := [-1]) hB ?_ (Same.refl H) hp
      rw [hc] at es
      show (if Ux04.isShape (ns.map Int.toNat) = false then _ else _) = _
      rw [if_pos es.symm]
    | true =>
      rw [hc] at es
      have es2 : Ux04.step st (.shape (ns.map Int.toNat)) = (⟨ns.map Int.toNat, []⟩, Ux04.ints [Ux04.total (ns.map Int.toNat)]) := by
        show (if Ux04.isShape (ns.map Int.toNat) = false then _ else _) = _
        rw [if_neg (by rw [← es]; decide)]
      obtain ⟨⟨dx, t0, hb, ht0⟩, ⟨as, hl, hT⟩, ⟨kvs, ⟨dj, hj⟩, hd, hV, hTb⟩, hg, hgs⟩ := id hB
      refine iteF ⟨_, rfl, a, _, rfl, .inl ⟨ha, fun t ht => ⟨_, rfl, b, CB, dx, barF t0 l j, rfl, ?_, T.cl, T.nS, by show 3 < 1000; decide, ?_⟩⟩⟩
      · rw [upd_ne (ne_of_none hb ht)]; exact hb
      have hbt : b ≠ t := ne_of_none hb ht
      refine ⟨by decide, fun l2 hl2 => ⟨_, rfl, b, CB, dx, barF t l j, rfl, ?_, T.cl, T.nE, by show 3 < 1000; decide, ?_⟩⟩
      · rw [upd_ne (ne_of_none upd_same hl2), upd_same]; rfl
      have hbl2 : b ≠ l2 := ne_of_none upd_same hl2
      have htl2 : t ≠ l2 := ne_of_none (by rw [upd_ne hbt.symm, upd_same]) hl2
      have hl2f : H l2 = none := by
        cases e : H l2 with
        | none => rfl
        | some o =>
          exfalso
          rw [upd_ne hbl2.symm, upd_ne (ne_of_none e ht), e] at hl2; cases hl2
      -- sum(rows)
      have keepA : ∀ y o, H y = some o → y ≠ b → upd (upd (upd (upd H t (.tup (ns.map V.int))) b (.ins CB dx (putF "shape" (.ref t) (barF t0 l j)))) l2 (.lst [])) b (.ins CB dx (putF "earlier" (.ref l2) (barF t l j))) y = some o := by
        intro y o e hy
        rw [upd_ne hy, upd_ne (ne_of_none e hl2f), upd_ne hy, upd_ne (ne_of_none e ht)]; exact e
      have ha2 : SqL K (upd (upd (upd (upd H t (.tup (ns.map V.int))) b (.ins CB dx (putF "shape" (.ref t) (barF t0 l j)))) l2 (.lst [])) b (.ins CB dx (putF "earlier" (.ref l2) (barF t l j)))) a (ns.map V.int) := by
        rcases ha with (h | ⟨ob, h⟩) | h
        · exact .inl (.inl (keepA _ _ h (ne_of h hb (by intro z; cases z))))
        · exact .inl (.inr ⟨ob, keepA _ _ h (ne_of h hb (by intro z; cases z))⟩)
        · exact .inr h
      refine ⟨_, rfl, a, ns, rfl, ha2, by show 1 ≤ sizeLine; decide, fun p hp => ?_⟩
      have hJ2 : ∀ y o, H y = some o → y ≠ b → upd (upd (upd (upd (upd H t (.tup (ns.map V.int))) b (.ins CB dx (putF "shape" (.ref t) (barF t0 l j)))) l2 (.lst [])) b (.ins CB dx (putF "earlier" (.ref l2) (barF t l j)))) p (.lst [V.int ns.sum]) y = some o := by
        intro y o e hy
        have := keepA y o e hy
        rw [upd_ne (ne_of_none this hp)]; exact this
      have hbp : b ≠ p := ne_of_none upd_same hp
      have htp : t ≠ p := ne_of_none (by rw [upd_ne hbt.symm, upd_ne htl2, upd_ne hbt.symm, upd_same]) hp
      have hl2p : l2 ≠ p := ne_of_none (by rw [upd_ne hbl2.symm, upd_same]) hp
      have hpf : H p = none := by
        cases e : H p with
        | none => rfl
        | some o =>
          exfalso
          by_cases hpb : p = b
          · exact hbp hpb.symm
          · rw [keepA p o e hpb] at hp; cases hp
      refine q p _ l2 ?_ (.inr ⟨hl2f, by rw [hJ2 _ _ hl (ne_of hl hb (by intro z; cases z))]; exact fun z => nomatch z⟩) (fun y o e hy => hJ2 y o e (fun z => hy (by simp [z]))) hpf ?_
      · rw [es2]
        refine ⟨⟨dx, t, ?_, ?_⟩, ⟨[], ?_, True.intro⟩, ⟨kvs, ⟨dj, hJ2 _ _ hj (bar_judge hb hj).symm⟩, hJ2 _ _ hd (ne_of hd hb (by intro z; cases z)), hV, hTb.keep fun y o e ho => hJ2 y o e (odd_ne e ho hb (by intro _ z; cases z) (by intro _ z; cases z))⟩, ?_, ?_⟩
        · rw [upd_ne hbp, upd_same]; rfl
        · rw [upd_ne htp, upd_ne hbt.symm, upd_ne htl2, upd_ne hbt.symm, upd_same, tv_toNat h0]
        · rw [upd_ne hl2p, upd_ne hbl2.symm, upd_same]; rfl
        · exact (Ma.isShape_iff.mp es.symm).2
        · intro s hs; exact nomatch hs
      · rw [es2, upd_same, sum_toNat h0]; rfl
end
end Bb

end

section
set_option Elab.async false
set_option linter.all false
set_option maxRecDepth 100000
set_option maxHeartbeats 2000000
namespace Bb
open PySem PySem.Spec PyProof.Rows L2
open Ma (within cut Good)
section
variable {P : Program} {w : World} {K : PySem.W.Frag} {mg : Str → Option Value} {base : Heap} {CB CJ : Addr}
/-! ### lay_whole -/
def spBWhole (CB CJ : Addr) : Sp := fun vs H Q _ => ∃ (b l j d : Addr) (st : Ux04.Bar) (r c : Nat), vs = [.ref b, .int (r : Int), .int (c : Int)] ∧ BarAt CB CJ H b l j d st ∧ Ans CB CJ (.bar r c) b l j d st H Q
theorem scBW : FnScope ["self", "rows", "squares"] ["self", "rows", "squares"] (defScope sBWhole) := ⟨rfl, rfl, rfl, by decide +kernel, rfl, by decide +kernel, by decide +kernel⟩
theorem ok_bwhole {f fS : Addr} {fd fdS : FuncData} (F : Fun K "lay_whole" "Bar.lay_whole" sBWhole f fd) (T : TxtB K mg CB) (bS : Binds K fdS ["self", "rows"] []) (mS : Meth K CB "lay_shape" fS) (GS : FnOk P w K mg base CX0 2 fS fdS ["self", "rows"] (spBShape K CB CJ)) :
    FnOk P w K mg base CX0 3 f fd ["self", "rows", "squares"] (spBWhole CB CJ) := by
  refine F.ok scBW (fun vs H Q E h => ?_) (fun cdv A outer s H vs Q E hr h => ?_)
  · obtain ⟨b, l, j, d, st, r, c, rfl, _⟩ := h
    rfl
  · obtain ⟨b, l, j, d, st, r, c, rfl, hB, q⟩ := h
    obtain ⟨t5, h5⟩ := T.mRows
    obtain ⟨tS, hS⟩ := T.mSize
    refine ⟨_, pss_cons (ps_if (pt_not (pt_chain op_le op_le pe_int (pv 1) (pe_glob (v := .int 5) rfl h5 ⟨_, rfl⟩))) (pss_one (ps_ret (pe_lst (pa_cons (pe_glob (v := .int (-1)) rfl hS ⟨_, rfl⟩) pa_nil)))) pss_nil)
      (pss_one (ps_ret (pe_meth (pv 0) T.cl mS GS hr bS .nil pass0 (pa_cons (pe_op op_rep (pe_lst (pa_cons (pv 2) pa_nil)) (pv 1)) pa_nil)))), ?_⟩
    have no : ¬ (1 ≤ r ∧ r ≤ 5) → ∀ p, H p = none → Q (.ref p) (upd H p (.lst [V.int (-1)])) := fun h p hp => by
      refine q.stays (xs := [-1]) hB ?_ (Same.refl H) hp
      show (if r < 1 ∨ 5 < r ∨ c < 1 ∨ 6 < c then _ else _) = _
      rw [if_pos (by omega)]
    refine ⟨_, rfl, _, _, rfl, rfl, _, rfl, ?_⟩
    by_cases h1 : 1 ≤ r
    · rw [if_pos (decide_eq_true (show (1 : Int) ≤ (r : Int) by omega))]
      refine ⟨_, _, rfl, rfl, _, rfl, ?_⟩
      by_cases h2 : r ≤ 5
      · rw [decide_eq_true (show (r : Int) ≤ 5 by omega)]
        refine iteF ?_
        obtain ⟨⟨dx, t0, hb, ht0⟩, hrest⟩ := id hB
        refine ⟨_, rfl, b, dx, _, rfl, hb, rfl, _, rfl, by show 1 ≤ sizeLine; decide, fun p hp => ⟨_, rfl, p, (r : Int), _, rfl, rfl, upd_same, by omega, by omega, ?_, fun p2 hp2 => ?_⟩⟩
        · show 1 * (r : Int).toNat ≤ sizeLine
          exact le_line (by omega)
        · have s1 : Same H (upd H p (.lst [V.int (c : Int)])) := upd_same_of hp
          have s2 : Same (upd H p (.lst [V.int (c : Int)])) (upd (upd H p (.lst [V.int (c : Int)])) p2 (.lst (List.replicate (r : Int).toNat [V.int (c : Int)]).flatten)) := upd_same_of hp2
          have s3 := s1.trans s2
          have er : (List.replicate (r : Int).toNat [V.int (c : Int)]).flatten = (List.replicate r (c : Int)).map V.int := by
            rw [Int.toNat_natCast]
            have : ∀ n : Nat, (List.replicate n [V.int (c : Int)]).flatten = (List.replicate n (c : Int)).map V.int := by
              intro n
              induction n with
              | zero => rfl
              | succ n ih => rw [List.replicate_succ, List.flatten_cons, ih]; rfl
            exact this r
          have ec : (List.replicate r (c : Int)).map Int.toNat = List.replicate r c := by rw [List.map_replicate, Int.toNat_natCast]
          refine ⟨b, l, j, d, p2, st, List.replicate r (c : Int), rfl, hB.same s3, SqL.of (by rw [upd_same, er]), fun n hn => ?_, ?_⟩
          · obtain ⟨_, rfl⟩ := List.mem_replicate.mp hn; omega
          · rw [ec]
            intro p3 H' l' k1 k2 k3 k4 k5
            rw [← Ma.step_bar st h1 h2] at k1 k5
            refine q p3 H' l' k1 ?_ ((Keep.of s3).trans k3) (s3.free k4) k5
            rcases k2 with k2 | k2
            · exact .inl k2
            · exact .inr ⟨s3.free k2.1, k2.2⟩
      · rw [decide_eq_false (show ¬ (r : Int) ≤ 5 by omega)]
        exact iteT ⟨by show 1 ≤ sizeLine; decide, fun p hp => no (by omega) p hp⟩
    · rw [if_neg (by rw [decide_eq_false (show ¬ (1 : Int) ≤ (r : Int) by omega)]; decide)]
      refine ⟨_, rfl, ?_⟩
      exact iteT ⟨by show 1 ≤ sizeLine; decide, fun p hp => no (by omega) p hp⟩
/-! ### bite -/
def spBBite (CB CJ : Addr) : Sp := fun vs H Q _ => ∃ (b l j d : Addr) (st : Ux04.Bar) (i k : Nat), vs = [.ref b, .int (i : Int), .int (k : Int)] ∧ BarAt CB CJ H b l j d st ∧ st.old.length ≤ 1000 ∧ Ans CB CJ (.bite i k) b l j d st H Q
theorem scBB : FnScope ["self", "row", "square", "before"] ["self", "row", "square"] (defScope sBBite) := ⟨rfl, rfl, rfl, by decide +kernel, rfl, by decide +kernel, by decide +kernel⟩
theorem tv_empty (s : List Nat) : (tv s).isEmpty = s.isEmpty := by cases s <;> rfl
theorem ok_bbite {f fH fL : Addr} {fd fdH fdL : FuncData} (F : Fun K "bite" "Bar.bite" sBBite f fd) (T : TxtB K mg CB)
    (FH : Fun K "has_square" "has_square" sHas fH fdH) (bH : Binds K fdH ["shape", "row", "square"] []) (mH : mg "has_square" = some (.ref fH)) (GH : FnOk P w K mg base CX0 1 fH fdH ["shape", "row", "square"] (spHas K))
    (FL : Fun K "left_by_bite" "left_by_bite" sLeft fL fdL) (bL : Binds K fdL ["shape", "row", "square"] []) (mL : mg "left_by_bite" = some (.ref fL)) (GL : FnOk P w K mg base CX0 1 fL fdL ["shape", "row", "square"] spLeft) :
    FnOk P w K mg base CX0 2 f fd ["self", "row", "square"] (spBBite CB CJ) := by
  refine F.ok scBB (fun vs H Q E h => ?_) (fun cdv A outer s H vs Q E hr h => ?_)
  · obtain ⟨b, l, j, d, st, i, k, rfl, _⟩ := h
    rfl
  · obtain ⟨b, l, j, d, st, i, k, rfl, hB, hlen, q⟩ := h
    obtain ⟨t6, h6⟩ := T.mLeft
    obtain ⟨t2, h2⟩ := T.mNo
    refine ⟨_, pss_cons (ps_if (pt_not (pt_truth (pe_fld (pv 0) rfl) (fun _ => rfl))) (pss_one (ps_ret (pe_lst (pa_cons (pe_glob (v := .int (-6)) rfl h6 ⟨_, rfl⟩) pa_nil)))) pss_nil)
      (pss_cons (ps_if (pt_not (pt_val (pe_call GH hr rfl mH FH.kp bH .nil pass0 (pa_cons (pe_fld (pv 0) rfl) (pa_cons (pv 1) (pa_cons (pv 2) pa_nil)))))) (pss_one (ps_ret (pe_lst (pa_cons (pe_glob (v := .int (-2)) rfl h2 ⟨_, rfl⟩) pa_nil)))) pss_nil)
      (pss_cons (ps_set (i := 3) scBB.nd rfl (Or.inl rfl) (pe_fld (pv 0) rfl))
      (pss_cons (ps_expr (pe_bm PySem.F.plainAttrs_list PySem.F.slot_list_append PySem.F.type_list_append mt_append (pe_fld (pv 0) rfl) (pa_cons (pv 3) pa_nil)))
      (pss_cons (ps_fld (pv 0) (pe_call GL hr rfl mL FL.kp bL .nil pass0 (pa_cons (pv 3) (pa_cons (pv 1) (pa_cons (pv 2) pa_nil)))) rfl)
      (pss_one (ps_ret (pe_lst (pa_cons (pe_op op_sub (pe_callB (cr_sumT rfl) (by rfl) T.sum PyProof.Rows.boot_sum (pa_cons (pv 3) pa_nil)) (pe_callB (cr_sumT rfl) (by rfl) T.sum PyProof.Rows.boot_sum (pa_cons (pe_fld (pv 0) rfl) pa_nil))) pa_nil)))))))), ?_⟩
    obtain ⟨⟨dx, t, hb, ht⟩, ⟨as, hl, hT⟩, ⟨kvs, ⟨dj, hj⟩, hd, hV, hTb⟩, hg, hgs⟩ := id hB
    refine ⟨_, rfl, b, CB, dx, _, .ref t, rfl, hb, T.cl, T.nS, rfl, !(tv st.now).isEmpty, truT ht rfl, ?_⟩
    rw [tv_empty]
    cases he : st.now.isEmpty with
    | true =>
      refine iteT ⟨by show 1 ≤ sizeLine; decide, fun p hp => ?_⟩
      refine q.stays (xs := [-6]) hB ?_ (Same.refl H) hp
      show (if st.now.isEmpty = true then _ else _) = _
      rw [if_pos he]
    | false =>
      refine iteF ?_
      refine ⟨_, rfl, b, CB, dx, _, .ref t, rfl, hb, T.cl, T.nS, rfl, _, rfl, _, rfl, t, st.now, (i : Int), (k : Int), rfl, ht, _, rfl, ?_⟩
      rw [hasB_eq]
      cases hc : (Ux04.squares st.now).contains (i, k) with
      | false =>
        refine iteT ⟨by show 1 ≤ sizeLine; decide, fun p hp => ?_⟩
        refine q.stays (xs := [-2]) hB ?_ (Same.refl H) hp
        show (if st.now.isEmpty = true then _ else if (Ux04.squares st.now).contains (i, k) = false then _ else _) = _
        rw [if_neg (by rw [he]; decide), if_pos hc]
      | true =>
        refine iteF ?_
        have hm : (i, k) ∈ Ux04.squares st.now := List.contains_iff_mem.mp hc
        obtain ⟨hi1, hk1, _⟩ := Ma.mem_squares.mp hm
        have hsmall : st.now.length ≤ 1000 := by have := (Ma.fit_iff.mp hg).1; omega
        have est : Ux04.step st (.bite i k) = (⟨Ux04.bite st.now i k, st.now :: st.old⟩, Ux04.ints [Ux04.total st.now - Ux04.total (Ux04.bite st.now i k)]) := by
          show (if st.now.isEmpty = true then _ else if (Ux04.squares st.now).contains (i, k) = false then _ else _) = _
          rw [if_neg (by rw [he]; decide), if_neg (by rw [hc]; decide)]
        have hbl : b ≠ l := ne_of hb hl (by intro z; cases z)
        have htl : t ≠ l := ne_of ht hl (by intro z; cases z)
        refine ⟨_, rfl, b, CB, dx, _, .ref t, rfl, hb, T.cl, T.nS, rfl, ?_⟩
        refine ⟨_, rfl, b, CB, dx, _, .ref l, rfl, hb, T.cl, T.nE, rfl, tyL hl, _, rfl, l, _, .ref t, rfl, rfl, hl, ?_, ?_⟩
        · rw [List.length_map, hT.length, List.length_reverse]; exact Nat.lt_of_le_of_lt hlen (by decide)
        have hb1 : upd H l (.lst (as.map V.ref ++ [.ref t])) b = some (.ins CB dx (barF t l j)) := by rw [upd_ne hbl]; exact hb
        have ht1 : upd H l (.lst (as.map V.ref ++ [.ref t])) t = some (.tup (tv st.now)) := by rw [upd_ne htl]; exact ht
        refine ⟨_, rfl, _, rfl, _, rfl, t, st.now, i, k, rfl, hi1, hk1, hsmall, ht1, fun p1 H2 s2 hp1 => ?_⟩
        have hb2 := s2 _ _ hb1
        have ht2 := s2 _ _ ht1
        refine ⟨_, rfl, b, CB, dx, _, rfl, hb2, T.cl, T.nS, by show 3 < 1000; decide, ?_⟩
        have hbt : b ≠ t := ne_of hb ht (by intro z; cases z)
        have hbp1 : b ≠ p1 := ne_of hb2 hp1 (by intro z; cases z)
        rw [← Ma.bite_cut hg hk1] at hp1
        refine ⟨_, rfl, t, st.now.map fun (n : Nat) => (n : Int), rfl, SqT.of (by rw [upd_ne hbt.symm, ht2, tv_ints]), _, rfl, b, CB, dx, barF p1 l j, .ref p1, rfl, by rw [upd_same]; rfl, T.cl, T.nS, rfl,
          p1, (Ux04.bite st.now i k).map fun (n : Nat) => (n : Int), rfl, SqT.of (by rw [upd_ne hbp1.symm, hp1, tv_ints]), _, _, rfl, rfl, by show 1 ≤ sizeLine; decide, fun p hp => ?_⟩
        have s3 := upd_same_of (o := .lst [V.int ((st.now.map fun (n : Nat) => (n : Int)).sum - ((Ux04.bite st.now i k).map fun (n : Nat) => (n : Int)).sum)]) hp
        have keep : ∀ y o, H y = some o → y ≠ b → y ≠ l → upd (upd H2 b (.ins CB dx (putF "shape" (.ref p1) (barF t l j)))) p (.lst [V.int ((st.now.map fun (n : Nat) => (n : Int)).sum - ((Ux04.bite st.now i k).map fun (n : Nat) => (n : Int)).sum)]) y = some o := fun y o e h1 h2 => by
          refine s3 _ _ ?_
          rw [upd_ne h1]
          exact s2 _ _ (by rw [upd_ne h2]; exact e)
        have hgb := Ma.good_bite hg hm
        refine q p _ l ?_ (.inl rfl) (fun y o e hy => keep y o e (fun z => hy (by simp [z])) (fun z => hy (by simp [z]))) ?_ ?_
        · rw [est]
          refine ⟨⟨dx, p1, ?_, ?_⟩, ⟨as ++ [t], ?_, ?_⟩, ⟨kvs, ⟨dj, keep _ _ hj (bar_judge hb hj).symm (ne_of hj hl (by intro z; cases z))⟩, keep _ _ hd (ne_of hd hb (by intro z; cases z)) (ne_of hd hl (by intro z; cases z)), hV, hTb.keep fun y o e ho => keep y o e (odd_ne e ho hb (by intro _ z; cases z) (by intro _ z; cases z)) (odd_ne e ho hl (by intro _ z; cases z) (by intro _ z; cases z))⟩, hgb.1, ?_⟩
          · exact s3 _ _ (by rw [upd_same]; rfl)
          · exact s3 _ _ (by rw [upd_ne hbp1.symm]; exact hp1)
          · refine s3 _ _ ?_
            rw [upd_ne hbl.symm]
            refine (s2 _ _ upd_same).trans ?_
            rw [List.map_append]; rfl
          · rw [List.reverse_cons]
            refine Tups.append (hT.keep fun y xs e => keep y _ e (ne_of e hb (by intro z; cases z)) (ne_of e hl (by intro z; cases z))) ⟨keep _ _ ht hbt.symm htl, True.intro⟩
          · intro u hu
            rcases List.mem_cons.mp hu with rfl | hu
            · exact hg
            · exact hgs u hu
        · cases e : H p with
          | none => rfl
          | some o =>
            exfalso
            have hpb : p ≠ b := by rintro rfl; rw [upd_same] at hp; cases hp
            rw [upd_ne hpb] at hp
            by_cases hpl : p = l
            · subst hpl
              rw [s2 _ _ upd_same] at hp; cases hp
            · rw [s2 _ _ (by rw [upd_ne hpl]; exact e)] at hp; cases hp
        · rw [est, upd_same, sum_nat, sum_nat]
          have := hgb.2
          show some (HO.lst [V.int ((Ux04.total st.now : Int) - (Ux04.total (Ux04.bite st.now i k) : Int))]) = some (HO.lst [V.int ((Ux04.total st.now - Ux04.total (Ux04.bite st.now i k) : Nat) : Int)])
          rw [show ((Ux04.total st.now : Int) - (Ux04.total (Ux04.bite st.now i k) : Int)) = ((Ux04.total st.now - Ux04.total (Ux04.bite st.now i k) : Nat) : Int) by omega]
end
end Bb

end

section
set_option Elab.async false
set_option linter.all false
set_option maxRecDepth 100000
set_option maxHeartbeats 2000000
namespace Bb
open PySem PySem.Spec PyProof.Rows L2
open Ma (within cut Good)
section
variable {P : Program} {w : World} {K : PySem.W.Frag} {mg : Str → Option Value} {base : Heap} {CB CJ : Addr}
/-- a method without arguments, for a call without arguments -/
def sp0 (CB CJ : Addr) (c : Ux04.Call) : Sp := fun vs H Q _ => ∃ (b l j d : Addr) (st : Ux04.Bar), vs = [.ref b] ∧ BarAt CB CJ H b l j d st ∧ st.old.length ≤ 1000 ∧ Ans CB CJ c b l j d st H Q
/-! ### back -/
theorem scBK : FnScope ["self"] ["self"] (defScope sBBack) := ⟨rfl, rfl, rfl, by decide +kernel, rfl, by decide +kernel, by decide +kernel⟩
theorem tups_last {H : Hp} {as : List Addr} {L : List (List Nat)} {s : List Nat} (h : Tups H as (L ++ [s])) : ∃ bs a, as = bs ++ [a] ∧ Tups H bs L ∧ H a = some (.tup (tv s)) := by
  induction L generalizing as with
  | nil =>
    cases as with
    | nil => exact h.elim
    | cons a as =>
      cases as with
      | nil => exact ⟨[], a, rfl, True.intro, h.1⟩
      | cons _ _ => exact h.2.elim
  | cons t L ih =>
    cases as with
    | nil => exact h.elim
    | cons a as =>
      obtain ⟨bs, c, rfl, h1, h2⟩ := ih h.2
      exact ⟨a :: bs, c, rfl, ⟨h.1, h1⟩, h2⟩
theorem ok_bback {f : Addr} {fd : FuncData} (F : Fun K "back" "Bar.back" sBBack f fd) (T : TxtB K mg CB) : FnOk P w K mg base CX0 1 f fd ["self"] (sp0 CB CJ .back) := by
  refine F.ok scBK (fun vs H Q E h => ?_) (fun cdv A outer s H vs Q E hr h => ?_)
  · obtain ⟨b, l, j, d, st, rfl, _⟩ := h
    rfl
  · obtain ⟨b, l, j, d, st, rfl, hB, hlen, q⟩ := h
    obtain ⟨t9, h9⟩ := T.mBit
    refine ⟨_, pss_cons (ps_if (pt_not (pt_truth (pe_fld (pv 0) rfl) (fun _ => rfl))) (pss_one (ps_ret (pe_lst (pa_cons (pe_glob (v := .int (-9)) rfl h9 ⟨_, rfl⟩) pa_nil)))) pss_nil)
      (pss_cons (ps_fld (pv 0) (pe_bm0 PySem.F.plainAttrs_list PySem.F.slot_list_pop PySem.F.type_list_pop mt_pop (pe_fld (pv 0) rfl)) rfl)
      (pss_one (ps_ret (pe_lst (pa_cons (pe_callB (cr_sumT rfl) (by rfl) T.sum PyProof.Rows.boot_sum (pa_cons (pe_fld (pv 0) rfl) pa_nil)) pa_nil))))), ?_⟩
    obtain ⟨⟨dx, t, hb, ht⟩, ⟨as, hl, hT⟩, ⟨kvs, ⟨dj, hj⟩, hd, hV, hTb⟩, hg, hgs⟩ := id hB
    refine ⟨_, rfl, b, CB, dx, _, .ref l, rfl, hb, T.cl, T.nE, rfl, !(as.map V.ref).isEmpty, truL hl rfl, ?_⟩
    obtain ⟨now, old⟩ := st
    cases old with
    | nil =>
      have : as = [] := by
        have := hT.length
        exact List.length_eq_zero_iff.mp (by rw [this]; rfl)
      subst this
      refine iteT ⟨by show 1 ≤ sizeLine; decide, fun p hp => ?_⟩
      exact q.stays (xs := [-9]) hB rfl (Same.refl H) hp
    | cons s1 old =>
      have hT' : Tups H as (old.reverse ++ [s1]) := by
        have := hT
        rw [show (Ux04.Bar.mk now (s1 :: old)).old.reverse = old.reverse ++ [s1] from List.reverse_cons] at this
        exact this
      obtain ⟨bs, a, rfl, hT1, ha⟩ := tups_last hT'
      have e1 : (((bs ++ [a]).map V.ref).isEmpty) = false := by simp
      rw [e1]
      refine iteF ?_
      have hbl : b ≠ l := ne_of hb hl (by intro z; cases z)
      have hba : b ≠ a := ne_of hb ha (by intro z; cases z)
      have hal : a ≠ l := ne_of ha hl (by intro z; cases z)
      have hlast : ((bs ++ [a]).map V.ref)[((bs ++ [a]).map V.ref).length - 1]? = some (V.ref a) := by simp
      refine ⟨_, rfl, b, CB, dx, _, .ref l, rfl, hb, T.cl, T.nE, rfl, tyL hl, l, _, .ref a, rfl, rfl, hl, hlast, ?_⟩
      refine ⟨_, rfl, b, CB, dx, barF t l j, rfl, by rw [upd_ne hbl]; exact hb, T.cl, T.nS, by show 3 < 1000; decide, ?_⟩
      refine ⟨_, rfl, b, CB, dx, barF a l j, .ref a, rfl, by rw [upd_same]; rfl, T.cl, T.nS, rfl, a, s1.map fun (n : Nat) => (n : Int), rfl, SqT.of (by rw [upd_ne hba.symm, upd_ne hal, ha, tv_ints]), by show 1 ≤ sizeLine; decide, fun p hp => ?_⟩
      have s3 := upd_same_of (o := .lst [V.int (s1.map fun (n : Nat) => (n : Int)).sum]) hp
      have keep : ∀ y o, H y = some o → y ≠ b → y ≠ l → upd (upd (upd H l (.lst ((bs ++ [a]).map V.ref).dropLast)) b (.ins CB dx (putF "shape" (.ref a) (barF t l j)))) p (.lst [V.int (s1.map fun (n : Nat) => (n : Int)).sum]) y = some o := fun y o e h1 h2 => by
        refine s3 _ _ ?_
        rw [upd_ne h1, upd_ne h2]; exact e
      refine q p _ l ?_ (.inl rfl) (fun y o e hy => keep y o e (fun z => hy (by simp [z])) (fun z => hy (by simp [z]))) ?_ ?_
      · refine ⟨⟨dx, a, ?_, keep _ _ ha hba.symm hal⟩, ⟨bs, ?_, hT1.keep fun y xs e => keep y _ e (ne_of e hb (by intro z; cases z)) (ne_of e hl (by intro z; cases z))⟩,
          ⟨kvs, ⟨dj, keep _ _ hj (bar_judge hb hj).symm (ne_of hj hl (by intro z; cases z))⟩, keep _ _ hd (ne_of hd hb (by intro z; cases z)) (ne_of hd hl (by intro z; cases z)), hV, hTb.keep fun y o e ho => keep y o e (odd_ne e ho hb (by intro _ z; cases z) (by intro _ z; cases z)) (odd_ne e ho hl (by intro _ z; cases z) (by intro _ z; cases z))⟩, hgs s1 (by simp), fun u hu => hgs u (by simp; exact .inr hu)⟩
        · exact s3 _ _ (by rw [upd_same]; rfl)
        · refine s3 _ _ ?_
          rw [upd_ne hbl.symm, upd_same]
          simp
      · cases e : H p with
        | none => rfl
        | some o =>
          exfalso
          have hpb : p ≠ b := by rintro rfl; rw [upd_same] at hp; cases hp
          have hpl : p ≠ l := by rintro rfl; rw [upd_ne hbl.symm, upd_same] at hp; cases hp
          rw [upd_ne hpb, upd_ne hpl, e] at hp; cases hp
      · rw [upd_same, sum_nat]; rfl
/-! ### shows -/
theorem scBV : FnScope ["self"] ["self"] (defScope sBShows) := ⟨rfl, rfl, rfl, by decide +kernel, rfl, by decide +kernel, by decide +kernel⟩
theorem ok_bshows {f : Addr} {fd : FuncData} (F : Fun K "shows" "Bar.shows" sBShows f fd) (T : TxtB K mg CB) : FnOk P w K mg base CX0 1 f fd ["self"] (sp0 CB CJ .shows) := by
  refine F.ok scBV (fun vs H Q E h => ?_) (fun cdv A outer s H vs Q E hr h => ?_)
  · obtain ⟨b, l, j, d, st, rfl, _⟩ := h
    rfl
  · obtain ⟨b, l, j, d, st, rfl, hB, hlen, q⟩ := h
    refine ⟨_, pss_one (ps_ret (pe_op op_cat (pe_op op_cat (pe_lst (pa_cons (pe_callB call_len_seq (by rfl) T.len PySem.boot_len (pa_cons (pe_fld (pv 0) rfl) pa_nil)) pa_nil))
        (pe_callTy call_list_of (by rfl) T.list PyProof.Rows.boot_list (pa_cons (pe_fld (pv 0) rfl) pa_nil)))
      (pe_lst (pa_cons (pe_callB call_len_seq (by rfl) T.len PySem.boot_len (pa_cons (pe_fld (pv 0) rfl) pa_nil)) pa_nil)))), ?_⟩
    obtain ⟨⟨dx, t, hb, ht⟩, ⟨as, hl, hT⟩, ⟨kvs, ⟨dj, hj⟩, hd, hV, hTb⟩, hg, hgs⟩ := id hB
    have hsm := (Ma.fit_iff.mp hg).1
    refine ⟨_, rfl, b, CB, dx, _, .ref t, rfl, hb, T.cl, T.nS, rfl, t, _, rfl, .inr (SqT.of ht), by show 1 ≤ sizeLine; decide, fun p1 hp1 => ?_⟩
    have s1 := upd_same_of (o := .lst [V.int ((tv st.now).length : Int)]) hp1
    refine ⟨_, rfl, b, CB, dx, _, .ref t, rfl, s1 _ _ hb, T.cl, T.nS, rfl, t, _, rfl, .inr (SqT.of (s1 _ _ ht)), fun p2 hp2 => ?_⟩
    have s2 := upd_same_of (o := .lst (tv st.now)) hp2
    have e1 := s2 _ _ (upd_same (H := H) (a := p1) (o := .lst [V.int ((tv st.now).length : Int)]))
    refine ⟨p1, p2, _, _, rfl, rfl, e1, upd_same, by rw [tv_length]; exact le_line (by simp; omega), fun p3 hp3 => ?_⟩
    have s3 := upd_same_of (o := .lst ([V.int ((tv st.now).length : Int)] ++ tv st.now)) hp3
    have s13 := (s1.trans s2).trans s3
    refine ⟨_, rfl, b, CB, dx, _, .ref l, rfl, s13 _ _ hb, T.cl, T.nE, rfl, l, _, rfl, .inl (SqL.of (s13 _ _ hl)), by show 1 ≤ sizeLine; decide, fun p4 hp4 => ?_⟩
    have s4 := upd_same_of (o := .lst [V.int ((as.map V.ref).length : Int)]) hp4
    refine ⟨p3, p4, _, _, rfl, rfl, s4 _ _ upd_same, upd_same, by simp; exact le_line (by omega), fun p hp => ?_⟩
    have ee : [V.int ((tv st.now).length : Int)] ++ tv st.now ++ [V.int ((as.map V.ref).length : Int)] = (Ux04.counted st.now ++ Ux04.ints [st.old.length]).map V.int := by
      rw [tv_length, List.length_map, hT.length, List.length_reverse, tv_ints]
      unfold Ux04.counted Ux04.ints
      simp
    rw [ee]
    exact q.stays hB rfl (s13.trans s4) hp
end
end Bb

end

section
set_option Elab.async false
set_option linter.all false
set_option maxRecDepth 100000
set_option maxHeartbeats 2000000
namespace Bb
open PySem PySem.Spec PyProof.Rows L2
open Ma (within cut Good lenW lostW goodW chosenW)
section
variable {P : Program} {w : World} {K : PySem.W.Frag} {mg : Str → Option Value} {base : Heap} {CB CJ : Addr}
/-- the Judge has thought: the Bar is as it was -/
theorem BarAt.judged {H H2 : Hp} {b l j d : Addr} {st : Ux04.Bar} {kvs2 : List (List Key × V)} (hB : BarAt CB CJ H b l j d st) (hJ2 : JudgeAt Ux04.worth CJ H2 j d kvs2) (k : Keep [d, tabP] H H2) : BarAt CB CJ H2 b l j d st := by
  obtain ⟨⟨dx, t, hb, ht⟩, ⟨as, hl, hT⟩, ⟨kvs, hJ⟩, hg, hgs⟩ := hB
  obtain ⟨⟨dj, hj⟩, hd, hV, hTb⟩ := id hJ
  exact ⟨⟨dx, t, Keep.at hd hTb k hb (by intro _ z; cases z) (by intro _ z; cases z), Keep.at hd hTb k ht (by intro _ z; cases z) (by intro _ z; cases z)⟩, ⟨as, Keep.at hd hTb k hl (by intro _ z; cases z) (by intro _ z; cases z), hT.keep (Keep.tk hd hTb k)⟩, ⟨kvs2, hJ2⟩, hg, hgs⟩
theorem free_of {H H2 : Hp} {j d p : Addr} {kvs2 : List (List Key × V)} (hJ2 : JudgeAt Ux04.worth CJ H2 j d kvs2) (k : Keep [d, tabP] H H2) (hp : H2 p = none) : H p = none := by
  cases e : H p with
  | none => rfl
  | some o =>
    exfalso
    obtain ⟨_, hd, _, ⟨ps, t1, _⟩⟩ := hJ2
    have := k p o e (by
      simp only [List.mem_cons, List.not_mem_nil, or_false, not_or]
      exact ⟨fun z => (by rw [z, hd] at hp; cases hp), fun z => (by rw [z, t1] at hp; cases hp)⟩)
    rw [hp] at this; cases this
theorem keep5 {H H2 : Hp} {b l j d : Addr} (k : Keep [d, tabP] H H2) : Keep [b, l, j, d, tabP] H H2 := k.mono fun a ha => by
  simp only [List.mem_cons, List.not_mem_nil, or_false] at ha
  rcases ha with rfl | rfl <;> simp
/-- an answer behind the Judge's thinking, a new list -/
theorem Ans.judged {c : Ux04.Call} {b l j d p : Addr} {st : Ux04.Bar} {H H2 H3 : Hp} {Q : VK} {xs : List Int} {kvs2 : List (List Key × V)} (q : Ans CB CJ c b l j d st H Q) (hB : BarAt CB CJ H b l j d st) (e : Ux04.step st c = (st, xs))
    (hJ2 : JudgeAt Ux04.worth CJ H2 j d kvs2) (k : Keep [d, tabP] H H2) (s : Same H2 H3) (hp : H3 p = none) : Q (.ref p) (upd H3 p (.lst (xs.map V.int))) := by
  have s2 : Same H3 (upd H3 p (.lst (xs.map V.int))) := upd_same_of hp
  refine q p _ l ?_ (.inl rfl) ((keep5 k).trans (Keep.of (s.trans s2))) (free_of hJ2 k (s.free hp)) ?_
  · rw [e]; exact (hB.judged hJ2 k).same (s.trans s2)
  · rw [e, upd_same]
theorem left_step {st : Ux04.Bar} {f : Unit → List Int} (h : st.now ≠ []) : Ux04.something st f = (st, f ()) := by
  unfold Ux04.something
  rw [if_neg (by intro z; exact h (List.isEmpty_iff.mp z))]
theorem none_step {st : Ux04.Bar} {f : Unit → List Int} (h : st.now = []) : Ux04.something st f = (st, [-6]) := by
  unfold Ux04.something
  rw [h]; rfl
theorem st_won (st : Ux04.Bar) : Ux04.step st .won = Ux04.something st (fun _ => Ux04.ints [Ux04.flag (Ux04.worth st.now).won]) := rfl
theorem st_long (st : Ux04.Bar) : Ux04.step st .long = Ux04.something st (fun _ => Ux04.ints [(Ux04.worth st.now).long]) := rfl
theorem st_good (st : Ux04.Bar) : Ux04.step st .good = Ux04.something st (fun _ => ((goodW Ux04.worth st.now).length : Int) :: Ux04.ints ((goodW Ux04.worth st.now).flatMap fun x => [x.1, x.2])) := rfl
theorem st_under (st : Ux04.Bar) : Ux04.step st .under = Ux04.something st (fun _ => Ux04.ints [(Ux04.under st.now).length, ((Ux04.under st.now).filter fun s => !(Ux04.worth s).won).length]) := rfl
theorem st_turned (st : Ux04.Bar) : Ux04.step st .turned = Ux04.something st (fun _ => Ux04.counted (Ux04.turned st.now)) := rfl
/-! ### won -/
theorem scBN : FnScope ["self"] ["self"] (defScope sBWon) := ⟨rfl, rfl, rfl, by decide +kernel, rfl, by decide +kernel, by decide +kernel⟩
theorem ok_bwon {k : Nat} {f fL : Addr} {fd fdL : FuncData} (F : Fun K "won" "Bar.won" sBWon f fd) (T : TxtB K mg CB) (clJ : Cls K CJ) (mL : Meth K CJ "is_lost" fL) (bL : Binds K fdL ["self", "shape"] []) (GL : FnOk P w K mg base CX0 k fL fdL ["self", "shape"] (spLost Ux04.worth CJ false)) :
    FnOk P w K mg base CX0 (k + 1) f fd ["self"] (sp0 CB CJ .won) := by
  refine F.ok scBN (fun vs H Q E h => ?_) (fun cdv A outer s H vs Q E hr h => ?_)
  · obtain ⟨b, l, j, d, st, rfl, _⟩ := h
    rfl
  · obtain ⟨b, l, j, d, st, rfl, hB, hlen, q⟩ := h
    obtain ⟨t6, h6⟩ := T.mLeft
    refine ⟨_, pss_cons (ps_if (pt_not (pt_truth (pe_fld (pv 0) rfl) (fun _ => rfl))) (pss_one (ps_ret (pe_lst (pa_cons (pe_glob (v := .int (-6)) rfl h6 ⟨_, rfl⟩) pa_nil)))) pss_nil)
      (pss_one (ps_ret (pe_lst (pa_cons (pe_ifExp (pt_val (pe_meth (pe_fld (pv 0) rfl) clJ mL GL hr bL .nil pass0 (pa_cons (pe_fld (pv 0) rfl) pa_nil))) pe_int pe_int) pa_nil)))), ?_⟩
    obtain ⟨⟨dx, t, hb, ht⟩, ⟨as, hl, hT⟩, ⟨kvs, hJ⟩, hg, hgs⟩ := id hB
    obtain ⟨⟨dj, hj⟩, hd, hV, hTb⟩ := id hJ
    refine ⟨_, rfl, b, CB, dx, _, .ref t, rfl, hb, T.cl, T.nS, rfl, !(tv st.now).isEmpty, truT ht rfl, ?_⟩
    rw [tv_empty]
    by_cases hn : st.now = []
    · rw [show st.now.isEmpty = true by rw [hn]; rfl]
      refine iteT ⟨by show 1 ≤ sizeLine; decide, fun p hp => ?_⟩
      exact q.stays (xs := [-6]) hB ((st_won st).trans (none_step hn)) (Same.refl H) hp
    · rw [show st.now.isEmpty = false by cases h : st.now with | nil => exact absurd h hn | cons _ _ => rfl]
      refine iteF ?_
      refine ⟨_, rfl, b, CB, dx, _, .ref j, rfl, hb, T.cl, T.nJ, rfl, j, dj, _, rfl, hj, rfl, _, rfl, b, CB, dx, _, .ref t, rfl, hb, T.cl, T.nS, rfl, j, d, t, kvs, st.now, rfl, hJ, ht, hg, (fun z => by cases z), fun H2 kvs2 hJ2 _ _ _ k2 => ⟨_, rfl, ?_⟩⟩
      have est : Ux04.step st .won = (st, Ux04.ints [Ux04.flag (Ux04.worth st.now).won]) := (st_won st).trans (left_step hn)
      rw [Ma.rec_worth.lostW_eq hg hn]
      cases hw : (Ux04.worth st.now).won with
      | true =>
        rw [hw] at est
        exact iteF ⟨by show 1 ≤ sizeLine; decide, fun p hp => q.judged (xs := [1]) hB est hJ2 k2 (Same.refl _) hp⟩
      | false =>
        rw [hw] at est
        exact iteT ⟨by show 1 ≤ sizeLine; decide, fun p hp => q.judged (xs := [0]) hB est hJ2 k2 (Same.refl _) hp⟩
/-! ### long -/
theorem scBO : FnScope ["self"] ["self"] (defScope sBLong) := ⟨rfl, rfl, rfl, by decide +kernel, rfl, by decide +kernel, by decide +kernel⟩
theorem ok_blong {k : Nat} {f fN : Addr} {fd fdN : FuncData} (F : Fun K "long" "Bar.long" sBLong f fd) (T : TxtB K mg CB) (clJ : Cls K CJ) (mN : Meth K CJ "length" fN) (bN : Binds K fdN ["self", "shape"] []) (GN : FnOk P w K mg base CX0 k fN fdN ["self", "shape"] (spLen Ux04.worth CJ false)) :
    FnOk P w K mg base CX0 (k + 1) f fd ["self"] (sp0 CB CJ .long) := by
  refine F.ok scBO (fun vs H Q E h => ?_) (fun cdv A outer s H vs Q E hr h => ?_)
  · obtain ⟨b, l, j, d, st, rfl, _⟩ := h
    rfl
  · obtain ⟨b, l, j, d, st, rfl, hB, hlen, q⟩ := h
    obtain ⟨t6, h6⟩ := T.mLeft
    refine ⟨_, pss_cons (ps_if (pt_not (pt_truth (pe_fld (pv 0) rfl) (fun _ => rfl))) (pss_one (ps_ret (pe_lst (pa_cons (pe_glob (v := .int (-6)) rfl h6 ⟨_, rfl⟩) pa_nil)))) pss_nil)
      (pss_one (ps_ret (pe_lst (pa_cons (pe_meth (pe_fld (pv 0) rfl) clJ mN GN hr bN .nil pass0 (pa_cons (pe_fld (pv 0) rfl) pa_nil)) pa_nil)))), ?_⟩
    obtain ⟨⟨dx, t, hb, ht⟩, ⟨as, hl, hT⟩, ⟨kvs, hJ⟩, hg, hgs⟩ := id hB
    obtain ⟨⟨dj, hj⟩, hd, hV, hTb⟩ := id hJ
    refine ⟨_, rfl, b, CB, dx, _, .ref t, rfl, hb, T.cl, T.nS, rfl, !(tv st.now).isEmpty, truT ht rfl, ?_⟩
    rw [tv_empty]
    by_cases hn : st.now = []
    · rw [show st.now.isEmpty = true by rw [hn]; rfl]
      refine iteT ⟨by show 1 ≤ sizeLine; decide, fun p hp => ?_⟩
      exact q.stays (xs := [-6]) hB ((st_long st).trans (none_step hn)) (Same.refl H) hp
    · rw [show st.now.isEmpty = false by cases h : st.now with | nil => exact absurd h hn | cons _ _ => rfl]
      refine iteF ?_
      refine ⟨_, rfl, b, CB, dx, _, .ref j, rfl, hb, T.cl, T.nJ, rfl, j, dj, _, rfl, hj, rfl, _, rfl, b, CB, dx, _, .ref t, rfl, hb, T.cl, T.nS, rfl, j, d, t, kvs, st.now, rfl, hJ, ht, hg, (fun z => by cases z), fun H2 kvs2 hJ2 _ _ _ k2 => ⟨by show 1 ≤ sizeLine; decide, fun p hp => ?_⟩⟩
      have est : Ux04.step st .long = (st, Ux04.ints [lenW Ux04.worth st.now]) := by
        rw [Ma.lenW_ne hn]
        exact (st_long st).trans (left_step hn)
      exact q.judged hB est hJ2 k2 (Same.refl _) hp
/-! ### turned -/
theorem scBT : FnScope ["self", "rows"] ["self"] (defScope sBTurn) := ⟨rfl, rfl, rfl, by decide +kernel, rfl, by decide +kernel, by decide +kernel⟩
theorem turned_len {s : List Nat} (hs : Good s) : (Ux04.turned s).length ≤ 6 := by
  unfold Ux04.turned
  rw [List.length_map, List.length_range]
  cases s with
  | nil => simp
  | cons n s => exact ((Ma.fit_iff.mp hs).2.1 n (by simp)).2
theorem ok_bturn {f fX : Addr} {fd fdX : FuncData} (F : Fun K "turned" "Bar.turned" sBTurn f fd) (T : TxtB K mg CB)
    (FX : Fun K "rows_and_squares_exchanged" "rows_and_squares_exchanged" sExch fX fdX) (bX : Binds K fdX ["shape"] []) (mX : mg "rows_and_squares_exchanged" = some (.ref fX)) (GX : FnOk P w K mg base CX0 1 fX fdX ["shape"] spExch) :
    FnOk P w K mg base CX0 2 f fd ["self"] (sp0 CB CJ .turned) := by
  refine F.ok scBT (fun vs H Q E h => ?_) (fun cdv A outer s H vs Q E hr h => ?_)
  · obtain ⟨b, l, j, d, st, rfl, _⟩ := h
    rfl
  · obtain ⟨b, l, j, d, st, rfl, hB, hlen, q⟩ := h
    obtain ⟨t6, h6⟩ := T.mLeft
    refine ⟨_, pss_cons (ps_if (pt_not (pt_truth (pe_fld (pv 0) rfl) (fun _ => rfl))) (pss_one (ps_ret (pe_lst (pa_cons (pe_glob (v := .int (-6)) rfl h6 ⟨_, rfl⟩) pa_nil)))) pss_nil)
      (pss_cons (ps_set (i := 1) scBT.nd rfl (Or.inl rfl) (pe_call GX hr rfl mX FX.kp bX .nil pass0 (pa_cons (pe_fld (pv 0) rfl) pa_nil)))
      (pss_one (ps_ret (pe_op op_cat (pe_lst (pa_cons (pe_callB call_len_seq (by rfl) T.len PySem.boot_len (pa_cons (pv 1) pa_nil)) pa_nil)) (pv 1))))), ?_⟩
    obtain ⟨⟨dx, t, hb, ht⟩, ⟨as, hl, hT⟩, ⟨kvs, hJ⟩, hg, hgs⟩ := id hB
    refine ⟨_, rfl, b, CB, dx, _, .ref t, rfl, hb, T.cl, T.nS, rfl, !(tv st.now).isEmpty, truT ht rfl, ?_⟩
    rw [tv_empty]
    by_cases hn : st.now = []
    · rw [show st.now.isEmpty = true by rw [hn]; rfl]
      refine iteT ⟨by show 1 ≤ sizeLine; decide, fun p hp => ?_⟩
      exact q.stays (xs := [-6]) hB ((st_turned st).trans (none_step hn)) (Same.refl H) hp
    · rw [show st.now.isEmpty = false by cases h : st.now with | nil => exact absurd h hn | cons _ _ => rfl]
      refine iteF ?_
      refine ⟨_, rfl, b, CB, dx, _, .ref t, rfl, hb, T.cl, T.nS, rfl, t, st.now, rfl, hg, hn, ht, fun r H1 s1 hr0 hr1 => ?_⟩
      refine ⟨_, rfl, r, _, rfl, .inl (SqL.of hr1), by show 1 ≤ sizeLine; decide, fun p1 hp1 => ?_⟩
      have s2 := upd_same_of (o := .lst [V.int ((tv (Ux04.turned st.now)).length : Int)]) hp1
      refine ⟨_, rfl, p1, r, _, _, rfl, rfl, upd_same, s2 _ _ hr1, ?_, fun p hp => ?_⟩
      · rw [tv_length]
        have := turned_len hg
        exact le_line (by simp; omega)
      have est : Ux04.step st .turned = (st, Ux04.counted (Ux04.turned st.now)) := (st_turned st).trans (left_step hn)
      have ee : [V.int ((tv (Ux04.turned st.now)).length : Int)] ++ tv (Ux04.turned st.now) = (Ux04.counted (Ux04.turned st.now)).map V.int := by
        rw [tv_length, tv_ints]
        unfold Ux04.counted Ux04.ints
        simp
      rw [ee]
      exact q.stays hB est (s1.trans s2) hp
/-! ### good -/
theorem scBG : FnScope ["self", "bites", "answer", "bite"] ["self"] (defScope sBGood) := ⟨rfl, rfl, rfl, by decide +kernel, rfl, by decide +kernel, by decide +kernel⟩
theorem good_len {s : List Nat} (hs : Good s) : (goodW Ux04.worth s).length ≤ 30 := by
  have h1 := squares_len hs
  unfold goodW Ux04.bites
  exact Nat.le_trans (List.length_filter_le _ _) (Nat.le_trans (List.length_filter_le _ _) h1)
theorem pair_ints (l : List (Nat × Nat)) : l.flatMap (fun x => tv (pr x)) = (Ux04.ints (l.flatMap fun x => [x.1, x.2])).map V.int := by
  induction l with
  | nil => rfl
  | cons a l ih =>
    rw [List.flatMap_cons, List.flatMap_cons, ih]
    unfold Ux04.ints
    rw [List.map_append, List.map_append]
    rfl
theorem pair_len (l : List (Nat × Nat)) : (l.flatMap fun x => tv (pr x)).length = 2 * l.length := by
  induction l with
  | nil => rfl
  | cons a l ih =>
    rw [List.flatMap_cons, List.length_append, ih, List.length_cons]
    show 2 + 2 * l.length = _
    omega
theorem ok_bgood {k : Nat} {f fG : Addr} {fd fdG : FuncData} (F : Fun K "good" "Bar.good" sBGood f fd) (T : TxtB K mg CB) (clJ : Cls K CJ) (mG : Meth K CJ "good_bites" fG) (bG : Binds K fdG ["self", "shape"] []) (GG : FnOk P w K mg base CX0 k fG fdG ["self", "shape"] (spGoods Ux04.worth CJ false)) :
    FnOk P w K mg base CX0 (k + 1) f fd ["self"] (sp0 CB CJ .good) := by
  refine F.ok scBG (fun vs H Q E h => ?_) (fun cdv A outer s H vs Q E hr h => ?_)
  · obtain ⟨b, l, j, d, st, rfl, _⟩ := h
    rfl
  · obtain ⟨b, l, j, d, st, rfl, hB, hlen, q⟩ := h
    obtain ⟨t6, h6⟩ := T.mLeft
    refine ⟨_, pss_cons (ps_if (pt_not (pt_truth (pe_fld (pv 0) rfl) (fun _ => rfl))) (pss_one (ps_ret (pe_lst (pa_cons (pe_glob (v := .int (-6)) rfl h6 ⟨_, rfl⟩) pa_nil)))) pss_nil)
      (pss_cons (ps_set (i := 1) scBG.nd rfl (Or.inl rfl) (pe_meth (pe_fld (pv 0) rfl) clJ mG GG hr bG .nil pass0 (pa_cons (pe_fld (pv 0) rfl) pa_nil)))
      (pss_cons (ps_set (i := 2) scBG.nd rfl (Or.inl rfl) (pe_lst (pa_cons (pe_callB call_len_seq (by rfl) T.len PySem.boot_len (pa_cons (pv 1) pa_nil)) pa_nil)))
      (pss_cons (ps_for PassesOwn.never rfl (pi_list (pv 1)) (pg_name (i := 3) scBG.nd rfl (Or.inl rfl))
        (pss_one (ps_expr (pe_bm PySem.F.plainAttrs_list PySem.F.slot_list_extend PySem.F.type_list_extend mt_extT (pv 2) (pa_cons (pv 3) pa_nil)))))
      (pss_one (ps_ret (pv 2)))))), ?_⟩
    obtain ⟨⟨dx, t, hb, ht⟩, ⟨as0, hl, hT⟩, ⟨kvs, hJ⟩, hg, hgs⟩ := id hB
    obtain ⟨⟨dj, hj⟩, hd, hV, hTb⟩ := id hJ
    refine ⟨_, rfl, b, CB, dx, _, .ref t, rfl, hb, T.cl, T.nS, rfl, !(tv st.now).isEmpty, truT ht rfl, ?_⟩
    rw [tv_empty]
    by_cases hn : st.now = []
    · rw [show st.now.isEmpty = true by rw [hn]; rfl]
      refine iteT ⟨by show 1 ≤ sizeLine; decide, fun p hp => ?_⟩
      exact q.stays (xs := [-6]) hB ((st_good st).trans (none_step hn)) (Same.refl H) hp
    · rw [show st.now.isEmpty = false by cases h : st.now with | nil => exact absurd h hn | cons _ _ => rfl]
      refine iteF ?_
      refine ⟨_, rfl, b, CB, dx, _, .ref j, rfl, hb, T.cl, T.nJ, rfl, j, dj, _, rfl, hj, rfl, _, rfl, b, CB, dx, _, .ref t, rfl, hb, T.cl, T.nS, rfl, j, d, t, kvs, st.now, rfl, hJ, ht, hg, hn, (fun z => by cases z), fun H1 kvs1 p as a1 a2 a3 _ a5 a6 a7 a8 => ?_⟩
      refine ⟨_, rfl, p, _, rfl, .inl (SqL.of a7), by show 1 ≤ sizeLine; decide, fun g hg1 => ?_⟩
      have s2 := upd_same_of (o := .lst [V.int ((as.map V.ref).length : Int)]) hg1
      have hgp : p ≠ g := ne_of_none a7 hg1
      refine ⟨_, rfl, p, rfl, ⟨_, SqL.of (s2 _ _ a7)⟩, ?_⟩
      have est : Ux04.step st .good = (st, ((goodW Ux04.worth st.now).length : Int) :: Ux04.ints ((goodW Ux04.worth st.now).flatMap fun x => [x.1, x.2])) := (st_good st).trans (left_step hn)
      have hal : as.length = (goodW Ux04.worth st.now).length := by rw [a8.length, List.length_map]
      have hgl := good_len hg
      generalize goodW Ux04.worth st.now = G at a8 est hal hgl
      refine for_list (K := K) (a := p) (xs := as.map V.ref) (fun i σ H' => ∃ v3 : Option V, σ = [some (.ref b), some (.ref p), some (.ref g), v3] ∧ Same H1 H' ∧ H' g = some (.lst (V.int (G.length : Int) :: (G.take i).flatMap fun x => tv (pr x))))
        ⟨none, rfl, s2, by rw [upd_same, List.length_map, hal]; simp⟩ (fun i σ H' _ h => by obtain ⟨_, _, h2, _⟩ := h; exact SqL.of (h2 _ _ a7)) ?_ ?_
      · rintro i x σ H' hi ⟨v3, rfl, c1, c2⟩
        obtain ⟨z, hz, rfl⟩ := ref_of hi
        obtain ⟨u, hu, hzt⟩ := a8.get hz
        rw [List.getElem?_map] at hu
        obtain ⟨y, hy, rfl⟩ := Option.map_eq_some_iff.mp hu
        refine ⟨_, rfl, tyL c2, _, rfl, g, z, _, _, rfl, rfl, c2, c1 _ _ hzt, ?_, ?_⟩
        · rw [List.length_cons, pair_len, tv_length, List.length_take]
          show _ + 2 ≤ _
          exact le_line (by omega)
        · refine ⟨_, rfl, fun y' o e => ?_, ?_⟩
          · rw [upd_ne (ne_of_none e hg1)]; exact c1 y' o e
          · rw [upd_same, take_snoc hy, List.flatMap_append]
            simp
      · rintro σ H' ⟨v3, rfl, c1, c2⟩
        rw [List.length_map, hal, List.take_length] at c2
        refine ⟨_, rfl, ?_⟩
        have B1 := hB.judged a1 a5
        refine q g H' l ?_ (.inl rfl) ((keep5 a5).trans (Keep.of c1)) (free_of a1 a5 hg1) ?_
        · rw [est]; exact B1.same c1
        · rw [est, c2, pair_ints]; rfl
end
end Bb

end

section
set_option Elab.async false
set_option linter.all false
set_option maxRecDepth 100000
set_option maxHeartbeats 2000000
namespace Bb
open PySem PySem.Spec PyProof.Rows L2
open Ma (within cut Good lenW lostW goodW chosenW)
section
variable {P : Program} {w : World} {K : PySem.W.Frag} {mg : Str → Option Value} {base : Heap} {CB CJ : Addr}
/-! ### play -/
theorem st_play (st : Ux04.Bar) (h : st.now ≠ []) : Ux04.step st .play = (⟨Ux04.bite st.now (chosenW Ux04.worth st.now).1 (chosenW Ux04.worth st.now).2, st.now :: st.old⟩, Ux04.ints [(chosenW Ux04.worth st.now).1, (chosenW Ux04.worth st.now).2]) := by
  show (if st.now.isEmpty = true then _ else _) = _
  rw [if_neg (by intro z; exact h (List.isEmpty_iff.mp z))]
  rfl
theorem st_play0 (st : Ux04.Bar) (h : st.now = []) : Ux04.step st .play = (st, [-6]) := by
  show (if st.now.isEmpty = true then _ else _) = _
  rw [if_pos (by rw [h]; rfl)]
theorem st_bite (st : Ux04.Bar) {x : Nat × Nat} (h : st.now ≠ []) (hx : x ∈ Ux04.squares st.now) : (Ux04.step st (.bite x.1 x.2)).1 = ⟨Ux04.bite st.now x.1 x.2, st.now :: st.old⟩ := by
  show (if st.now.isEmpty = true then _ else if (Ux04.squares st.now).contains (x.1, x.2) = false then _ else _ : Ux04.Bar × List Int).1 = _
  rw [if_neg (by intro z; exact h (List.isEmpty_iff.mp z)), if_neg (by
    have : (Ux04.squares st.now).contains (x.1, x.2) = true := List.contains_iff_mem.mpr hx
    rw [this]; decide)]
theorem scBP : FnScope ["self", "best"] ["self"] (defScope sBPlay) := ⟨rfl, rfl, rfl, by decide +kernel, rfl, by decide +kernel, by decide +kernel⟩
theorem ok_bplay {k : Nat} {f fT fB : Addr} {fd fdT fdB : FuncData} (hk2 : 2 ≤ k) (F : Fun K "play" "Bar.play" sBPlay f fd) (T : TxtB K mg CB) (clJ : Cls K CJ)
    (mT : Meth K CJ "best_bite" fT) (bT : Binds K fdT ["self", "shape"] []) (GT : FnOk P w K mg base CX0 k fT fdT ["self", "shape"] (spBest Ux04.worth CJ false))
    (mB : Meth K CB "bite" fB) (bB : Binds K fdB ["self", "row", "square"] []) (GB : FnOk P w K mg base CX0 2 fB fdB ["self", "row", "square"] (spBBite CB CJ)) :
    FnOk P w K mg base CX0 (k + 1) f fd ["self"] (sp0 CB CJ .play) := by
  refine F.ok scBP (fun vs H Q E h => ?_) (fun cdv A outer s H vs Q E hr h => ?_)
  · obtain ⟨b, l, j, d, st, rfl, _⟩ := h
    rfl
  · obtain ⟨b, l, j, d, st, rfl, hB, hlen, q⟩ := h
    obtain ⟨t6, h6⟩ := T.mLeft
    have r2 := hr.mono hk2
    refine ⟨_, pss_cons (ps_if (pt_not (pt_truth (pe_fld (pv 0) rfl) (fun _ => rfl))) (pss_one (ps_ret (pe_lst (pa_cons (pe_glob (v := .int (-6)) rfl h6 ⟨_, rfl⟩) pa_nil)))) pss_nil)
      (pss_cons (ps_set (i := 1) scBP.nd rfl (Or.inl rfl) (pe_meth (pe_fld (pv 0) rfl) clJ mT GT hr bT .nil pass0 (pa_cons (pe_fld (pv 0) rfl) pa_nil)))
      (pss_cons (ps_expr (pe_meth (pv 0) T.cl mB GB r2 bB .nil pass0 (pa_cons (pe_ix ix_tup (pv 1) pe_int (fun _ _ => rfl)) (pa_cons (pe_ix ix_tup (pv 1) pe_int (fun _ _ => rfl)) pa_nil))))
      (pss_one (ps_ret (pe_callTy call_list_of (by rfl) T.list PyProof.Rows.boot_list (pa_cons (pv 1) pa_nil)))))), ?_⟩
    obtain ⟨⟨dx, t, hb, ht⟩, ⟨as0, hl, hT⟩, ⟨kvs, hJ⟩, hg, hgs⟩ := id hB
    obtain ⟨⟨dj, hj⟩, hd, hV, hTb⟩ := id hJ
    refine ⟨_, rfl, b, CB, dx, _, .ref t, rfl, hb, T.cl, T.nS, rfl, !(tv st.now).isEmpty, truT ht rfl, ?_⟩
    rw [tv_empty]
    by_cases hn : st.now = []
    · rw [show st.now.isEmpty = true by rw [hn]; rfl]
      refine iteT ⟨by show 1 ≤ sizeLine; decide, fun p hp => ?_⟩
      exact q.stays (xs := [-6]) hB (st_play0 st hn) (Same.refl H) hp
    · rw [show st.now.isEmpty = false by cases h : st.now with | nil => exact absurd h hn | cons _ _ => rfl]
      refine iteF ?_
      have est := st_play st hn
      have hsq : chosenW Ux04.worth st.now ∈ Ux04.squares st.now := Ma.chosenW_square hg hn
      refine ⟨_, rfl, b, CB, dx, _, .ref j, rfl, hb, T.cl, T.nJ, rfl, j, dj, _, rfl, hj, rfl, _, rfl, b, CB, dx, _, .ref t, rfl, hb, T.cl, T.nS, rfl, j, d, t, kvs, st.now, rfl, hJ, ht, hg, hn, (fun z => by cases z), fun H1 kvs1 z a1 _ _ a4 a5 _ => ?_⟩
      generalize chosenW Ux04.worth st.now = x at est hsq a5
      have B1 := hB.judged a1 a4
      obtain ⟨⟨dx1, t1, hb1, ht1⟩, ⟨as1, hl1, hT1⟩, _, _, _⟩ := id B1
      obtain ⟨⟨dj1, hj1⟩, hd1, hV1, hTb1⟩ := id a1
      refine ⟨_, rfl, b, dx1, _, rfl, hb1, rfl, _, rfl, z, _, _, .int (x.1 : Int), rfl, rfl, SqT.of a5, at_of (j := 0) rfl rfl, _, rfl, z, _, _, .int (x.2 : Int), rfl, rfl, SqT.of a5, at_of (j := 1) rfl rfl, b, l, j, d, st, x.1, x.2, rfl, B1, hlen, fun p H2 l' c1 c2 c3 c4 c5 => ?_⟩
      rw [st_bite st hn hsq] at c1
      have nz : z ∉ [b, l, j, d, tabP] := by
        simp only [List.mem_cons, List.not_mem_nil, or_false, not_or]
        exact ⟨ne_of a5 hb1 (by intro z; cases z), ne_of a5 hl1 (by intro z; cases z), ne_of a5 hj1 (by intro z; cases z), ne_of a5 hd1 (by intro z; cases z), tab_ne hTb1 a5 (by intro _ z; cases z)⟩
      have hz2 := c3 _ _ a5 nz
      refine ⟨_, rfl, z, _, rfl, .inr (SqT.of hz2), fun p2 hp2 => ?_⟩
      have s3 := upd_same_of (o := .lst (tv (pr x))) hp2
      obtain ⟨⟨dx2, t2, hb2, _⟩, ⟨as2, hl2, _⟩, ⟨kvs2, ⟨dj2, hj2⟩, hd2, _, ⟨ps2, tb2, _⟩⟩, _⟩ := id c1
      refine q p2 _ l' ?_ ?_ (((keep5 a4).trans c3).trans (Keep.of s3)) ?_ ?_
      · rw [est]; exact c1.same s3
      · rcases c2 with c2 | ⟨c2, c2'⟩
        · exact .inl c2
        · refine .inr ⟨free_of a1 a4 c2, ?_⟩
          cases e : H2 l with
          | none => exact absurd e c2'
          | some o => rw [s3 _ _ e]; exact fun z => nomatch z
      · refine free_of a1 a4 ?_
        cases e : H1 p2 with
        | none => rfl
        | some o =>
          exfalso
          have hl2' : H2 l ≠ none := by
            rcases c2 with rfl | ⟨_, c2'⟩
            · rw [hl2]; exact fun z => nomatch z
            · exact c2'
          have := c3 p2 o e (by
            simp only [List.mem_cons, List.not_mem_nil, or_false, not_or]
            exact ⟨fun z => (by rw [z, hb2] at hp2; cases hp2), fun z => (by rw [z] at hp2; exact hl2' hp2), fun z => (by rw [z, hj2] at hp2; cases hp2), fun z => (by rw [z, hd2] at hp2; cases hp2), fun z => (by rw [z, tb2] at hp2; cases hp2)⟩)
          rw [hp2] at this; cases this
      · rw [est, upd_same]; rfl
/-! ### lost_among -/
def spAmong (W : Ux04.Shape → Ux04.Worth) (CB CJ : Addr) : Sp := fun vs H Q _ => ∃ (b dx j d p : Addr) (fs : List (Str × V)) (kvs : List (List Key × V)) (as : List Addr) (L : List (List Nat)), vs = [.ref b, .ref p] ∧ H b = some (.ins CB dx fs) ∧ fs.lookup ("judge" : Str) = some (.ref j) ∧ JudgeAt W CJ H j d kvs ∧
  H p = some (.lst (as.map V.ref)) ∧ Tups H as L ∧ (∀ t ∈ L, Good t) ∧ L.length ≤ 10000 ∧
  ∀ H' kvs' g bs, JudgeAt W CJ H' j d kvs' → Keep [d, tabP] H H' → H g = none → H' g = some (.lst (bs.map V.ref)) → Tups H' bs (L.filter (lostW W)) → Q (.ref g) H'
theorem scBA : FnScope ["self", "shapes", "shape"] ["self", "shapes"] (defScope sBAmong) := ⟨rfl, rfl, rfl, by decide +kernel, rfl, by decide +kernel, by decide +kernel⟩
theorem ok_among {k : Nat} {W : Ux04.Shape → Ux04.Worth} {f fL : Addr} {fd fdL : FuncData} (F : Fun K "lost_among" "Bar.lost_among" sBAmong f fd) (T : TxtB K mg CB) (clJ : Cls K CJ)
    (mL : Meth K CJ "is_lost" fL) (bL : Binds K fdL ["self", "shape"] []) (GL : FnOk P w K mg base CX0 k fL fdL ["self", "shape"] (spLost W CJ false)) :
    FnOk P w K mg base CX0 (k + 1) f fd ["self", "shapes"] (spAmong W CB CJ) := by
  refine F.ok scBA (fun vs H Q E h => ?_) (fun cdv A outer s H vs Q E hr h => ?_)
  · obtain ⟨b, dx, j, d, p, fs, kvs, as, L, rfl, _⟩ := h
    rfl
  · obtain ⟨b, dx, j, d, p, fs, kvs, as, L, rfl, hb, hfs, hJ, hp, ht, hgood, hlen, q⟩ := h
    refine ⟨_, pss_one (ps_ret (pe_lc (own := [("shape", 2)]) rfl scBA.nd (pi_list (pv 1)) (blkOk_by (by show blkC ["self", "shapes", "shape"] (defScope sBAmong) _ _ = true; decide +kernel))
      (fun s H C cl fp => pg_name (i := 2) scBA.nd rfl (Or.inl rfl))
      (fun s H _ cl fp => pts_one (pt_val (pe_meth (ta := tFld K (tVar 0) "judge") (pe_fld (pv 0) rfl) clJ mL GL hr bL .nil pass0 (pa_cons (pv 2) pa_nil))))
      (fun s H C cl fp => pv 2))), ?_⟩
    obtain ⟨⟨dj, hj⟩, hd, hV, hT⟩ := id hJ
    refine ⟨_, rfl, p, rfl, ⟨_, SqL.of hp⟩, fun D hD => ?_⟩
    have s2 : Same H (upd H D (.lst [])) := upd_same_of hD
    have nD : D ∉ [d, tabP] := by
      simp only [List.mem_cons, List.not_mem_nil, or_false, not_or]
      refine ⟨(ne_of_none hd hD).symm, ?_⟩
      obtain ⟨ps, t1, _⟩ := hT
      exact (ne_of_none t1 hD).symm
    refine lc_list (K := K) (a := p) (xs := as.map V.ref) (fun i H' => ∃ (kvs' : List (List Key × V)) (bs : List Addr), JudgeAt W CJ H' j d kvs' ∧ Keep [d, tabP] H H' ∧ H' D = some (.lst (bs.map V.ref)) ∧ Tups H' bs ((L.take i).filter (lostW W)))
      ⟨kvs, [], hJ.same s2, Keep.of s2, upd_same, True.intro⟩ (fun i H' _ h => by
        obtain ⟨_, _, _, h5, _⟩ := h
        exact SqL.of (Keep.at hd hT h5 hp (by intro _ z; cases z) (by intro _ z; cases z))) ?_ ?_
    · rintro i x H' hi ⟨kvs', bs, c1, c5, c6, c7⟩
      obtain ⟨z, hz, rfl⟩ := ref_of hi
      obtain ⟨t, htt, hzt⟩ := ht.get hz
      have hz' := Keep.tk hd hT c5 _ _ hzt
      have hb' := Keep.at hd hT c5 hb (by intro _ z; cases z) (by intro _ z; cases z)
      obtain ⟨⟨dj', hj'⟩, hd', hV', hT'⟩ := id c1
      refine ⟨rfl, _, rfl, b, CB, dx, fs, .ref j, rfl, hb', T.cl, T.nJ, hfs, j, dj', _, rfl, hj', rfl, _, rfl, j, d, z, kvs', t, rfl, c1, hz', hgood t (List.mem_of_getElem? htt), (fun z => by cases z), fun H3 kvs3 a1 a2 a3 a4 a5 => ⟨_, rfl, ?_⟩⟩
      have D3 : H3 D = some (.lst (bs.map V.ref)) := a5 _ _ c6 nD
      have tk3 : TK H' H3 := Keep.tk hd' hT' a5
      cases hlo : lostW W t with
      | false =>
        refine iteF ⟨kvs3, bs, a1, c5.trans a5, D3, ?_⟩
        rw [take_snoc htt, List.filter_append]
        simpa [hlo] using c7.keep tk3
      | true =>
        refine iteT ⟨_, rfl, _, D3, ?_, kvs3, bs ++ [z], a1.upd D3, fun u o e nu => ?_, ?_, ?_⟩
        · rw [List.length_map, c7.length]
          have h1 := List.length_filter_le (lostW W) (L.take i)
          rw [List.length_take] at h1
          exact Nat.lt_of_le_of_lt (show _ ≤ 10000 by omega) (by decide)
        · rw [upd_ne (ne_of_none e hD)]; exact (c5.trans a5) u o e nu
        · rw [upd_same]; simp
        · have kt : TK H3 (upd H3 D (.lst (bs.map V.ref ++ [V.ref z]))) := TK.upd D3
          rw [take_snoc htt, List.filter_append]
          refine Tups.append (c7.keep (tk3.trans kt)) ?_
          simp only [List.filter_cons, hlo, if_true, List.filter_nil]
          exact ⟨kt _ _ (tk3 _ _ hz'), True.intro⟩
    · rintro H' ⟨kvs', bs, c1, c5, c6, c7⟩
      rw [List.length_map, ht.length, List.take_length] at c7
      exact q H' kvs' D bs c1 c5 hD c6 c7
end
end Bb

end

section
set_option Elab.async false
set_option linter.all false
set_option maxRecDepth 100000
set_option maxHeartbeats 2000000
namespace Bb
open PySem PySem.Spec PyProof.Rows L2
open Ma (within cut Good lenW lostW goodW chosenW)
section
variable {P : Program} {w : World} {K : PySem.W.Frag} {mg : Str → Option Value} {base : Heap} {CB CJ : Addr}
theorem within_len {s : List Nat} (hs : Good s) : (within s).length ≤ 462 := by
  rw [← Ma.under_len hs]
  unfold Ux04.under
  exact Nat.le_trans (List.length_filter_le _ _) (Nat.le_of_eq Ma.shapes_len)
/-! ### under -/
theorem scBU : FnScope ["self", "shapes"] ["self"] (defScope sBUnder) := ⟨rfl, rfl, rfl, by decide +kernel, rfl, by decide +kernel, by decide +kernel⟩
theorem ok_bunder {k : Nat} {f fW fA : Addr} {fd fdW fdA : FuncData} (hk2 : 2 ≤ k) (F : Fun K "under" "Bar.under" sBUnder f fd) (T : TxtB K mg CB)
    (FW : Fun K "shapes_within" "shapes_within" sWithin fW fdW) (bW : Binds K fdW ["shape"] []) (mW : mg "shapes_within" = some (.ref fW)) (GW : FnOk P w K mg base CX0 2 fW fdW ["shape"] spWithin)
    (mA : Meth K CB "lost_among" fA) (bA : Binds K fdA ["self", "shapes"] []) (GA : FnOk P w K mg base CX0 k fA fdA ["self", "shapes"] (spAmong Ux04.worth CB CJ)) :
    FnOk P w K mg base CX0 (k + 1) f fd ["self"] (sp0 CB CJ .under) := by
  refine F.ok scBU (fun vs H Q E h => ?_) (fun cdv A outer s H vs Q E hr h => ?_)
  · obtain ⟨b, l, j, d, st, rfl, _⟩ := h
    rfl
  · obtain ⟨b, l, j, d, st, rfl, hB, hlen, q⟩ := h
    obtain ⟨t6, h6⟩ := T.mLeft
    have r2 := hr.mono hk2
    refine ⟨_, pss_cons (ps_if (pt_not (pt_truth (pe_fld (pv 0) rfl) (fun _ => rfl))) (pss_one (ps_ret (pe_lst (pa_cons (pe_glob (v := .int (-6)) rfl h6 ⟨_, rfl⟩) pa_nil)))) pss_nil)
      (pss_cons (ps_set (i := 1) scBU.nd rfl (Or.inl rfl) (pe_call GW r2 rfl mW FW.kp bW .nil pass0 (pa_cons (pe_fld (pv 0) rfl) pa_nil)))
      (pss_one (ps_ret (pe_lst (pa_cons (pe_callB call_len_seq (by rfl) T.len PySem.boot_len (pa_cons (pv 1) pa_nil))
        (pa_cons (pe_callB call_len_seq (by rfl) T.len PySem.boot_len (pa_cons (pe_meth (pv 0) T.cl mA GA hr bA .nil pass0 (pa_cons (pv 1) pa_nil)) pa_nil)) pa_nil)))))), ?_⟩
    obtain ⟨⟨dx, t, hb, ht⟩, ⟨as0, hl, hT⟩, ⟨kvs, hJ⟩, hg, hgs⟩ := id hB
    refine ⟨_, rfl, b, CB, dx, _, .ref t, rfl, hb, T.cl, T.nS, rfl, !(tv st.now).isEmpty, truT ht rfl, ?_⟩
    rw [tv_empty]
    by_cases hn : st.now = []
    · rw [show st.now.isEmpty = true by rw [hn]; rfl]
      refine iteT ⟨by show 1 ≤ sizeLine; decide, fun p hp => ?_⟩
      exact q.stays (xs := [-6]) hB ((st_under st).trans (none_step hn)) (Same.refl H) hp
    · rw [show st.now.isEmpty = false by cases h : st.now with | nil => exact absurd h hn | cons _ _ => rfl]
      refine iteF ?_
      have est : Ux04.step st .under = (st, Ux04.ints [(within st.now).length, ((within st.now).filter (lostW Ux04.worth)).length]) := by
        rw [Ma.within_lost hg, ← Ma.under_len hg]
        exact (st_under st).trans (left_step hn)
      refine ⟨_, rfl, b, CB, dx, _, .ref t, rfl, hb, T.cl, T.nS, rfl, t, st.now, rfl, hg, ht, fun p H1 as s1 hp0 hp1 hts => ?_⟩
      refine ⟨_, rfl, p, _, rfl, .inl (SqL.of hp1), _, rfl, b, dx, _, rfl, s1 _ _ hb, rfl, _, rfl, ?_⟩
      refine ⟨b, dx, j, d, p, _, kvs, as, within st.now, rfl, s1 _ _ hb, rfl, hJ.same s1, hp1, hts, fun u hu => (Ma.within_good hg hu).1, Nat.le_trans (within_len hg) (by decide), fun H2 kvs2 g bs c1 c2 c3 c4 c5 => ?_⟩
      refine ⟨g, _, rfl, .inl (SqL.of c4), by show 2 ≤ sizeLine; decide, fun r hr2 => ?_⟩
      have e1 : ((as.map V.ref).length : Int) = ((within st.now).length : Int) := by rw [List.length_map, hts.length]
      have e2 : ((bs.map V.ref).length : Int) = (((within st.now).filter (lostW Ux04.worth)).length : Int) := by rw [List.length_map, c5.length]
      rw [e1, e2]
      exact q.judged hB est c1 ((Keep.of s1).trans c2) (Same.refl _) hr2
/-! ### lost -/
theorem lexGt_iff : ∀ s t : List Nat, HT.lexGt (s.map fun (n : Nat) => (n : Int)) (t.map fun (n : Nat) => (n : Int)) = true ↔ Ma.Lt2 t s
  | [], [] => by simp [HT.lexGt, Ma.Lt2]
  | [], _ :: _ => by simp [HT.lexGt, Ma.Lt2]
  | _ :: _, [] => by simp [HT.lexGt, Ma.Lt2]
  | a :: s, b :: t => by
    have ih := lexGt_iff s t
    rw [List.map_cons, List.map_cons, HT.lexGt_cons]
    show _ ↔ (b < a ∨ (b = a ∧ Ma.Lt2 t s))
    by_cases h : (a : Int) = (b : Int)
    · rw [if_pos h, ih]
      have : b = a := by omega
      constructor
      · exact fun z => .inr ⟨this, z⟩
      · rintro (z | z)
        · omega
        · exact z.2
    · rw [if_neg h, decide_eq_true_eq]
      constructor
      · intro z; exact .inl (by omega)
      · rintro (z | z)
        · omega
        · omega
theorem lexGt_false (s t : List Nat) : HT.lexGt (s.map fun (n : Nat) => (n : Int)) (t.map fun (n : Nat) => (n : Int)) = false ↔ ¬ Ma.Lt2 t s := by
  rw [← lexGt_iff]
  simp
theorem ord_lex (L : Nat → List Nat) (n : Nat) : Ord2 (fun i j => HT.lexGt ((L i).map fun (n : Nat) => (n : Int)) ((L j).map fun (n : Nat) => (n : Int))) n := by
  refine ⟨fun i _ => ?_, fun i j k _ _ _ h1 h2 => ?_, fun i j k _ _ _ h1 h2 => ?_, fun i j _ _ h => ?_⟩
  · rw [lexGt_false]; exact Ma.Lt2.irrefl _
  · rw [lexGt_iff] at h1 ⊢
    rw [lexGt_false] at h2
    rcases Ma.lt2_total (L k) (L j) with h | h | h
    · rw [h]; exact h1
    · exact h.trans h1
    · exact absurd h h2
  · rw [lexGt_false] at h1 h2 ⊢
    intro h
    rcases Ma.lt2_total (L j) (L i) with z | z | z
    · rw [z] at h2; exact h2 h
    · exact h1 z
    · exact h2 (h.trans z)
  · rw [lexGt_iff] at h
    rw [lexGt_false]
    exact fun z => Ma.Lt2.asymm h z
def spBLost (CB CJ : Addr) : Sp := fun vs H Q _ => ∃ (b l j d : Addr) (st : Ux04.Bar) (n : Nat), vs = [.ref b, .int (n : Int)] ∧ BarAt CB CJ H b l j d st ∧ Ans CB CJ (.lost n) b l j d st H Q
theorem scBX : FnScope ["self", "count", "shapes", "found", "last", "shape"] ["self", "count"] (defScope sBLost) := ⟨rfl, rfl, rfl, by decide +kernel, rfl, by decide +kernel, by decide +kernel⟩
theorem st_lost (st : Ux04.Bar) (n : Nat) : Ux04.step st (.lost n) = (st, if n < 1 ∨ 30 < n then [-1] else ((Ux04.lost n).length : Int) :: Ux04.counted ((Ux04.lost n).getLastD [])) := rfl
theorem st_lost0 {st : Ux04.Bar} {n : Nat} (h : n < 1 ∨ 30 < n) : Ux04.step st (.lost n) = (st, [-1]) := by rw [st_lost, if_pos h]
theorem st_lost1 {st : Ux04.Bar} {n : Nat} (h1 : 1 ≤ n) (h2 : n ≤ 30) {z : List Nat} (hz : (Ux04.lost n).getLastD [] = z) : Ux04.step st (.lost n) = (st, ((Ma.found n).length : Int) :: Ux04.counted z) := by
  rw [st_lost, if_neg (by omega), Ma.found_len h1, hz]
theorem ok_blost {k : Nat} {f fW fA : Addr} {fd fdW fdA : FuncData} (hk2 : 2 ≤ k) (F : Fun K "lost" "Bar.lost" sBLost f fd) (T : TxtB K mg CB) (T0 : Txt K mg) (hmax : mg "max" = none)
    (FW : Fun K "shapes_within" "shapes_within" sWithin fW fdW) (bW : Binds K fdW ["shape"] []) (mW : mg "shapes_within" = some (.ref fW)) (GW : FnOk P w K mg base CX0 2 fW fdW ["shape"] spWithin)
    (mA : Meth K CB "lost_among" fA) (bA : Binds K fdA ["self", "shapes"] []) (GA : FnOk P w K mg base CX0 k fA fdA ["self", "shapes"] (spAmong Ux04.worth CB CJ)) :
    FnOk P w K mg base CX0 (k + 1) f fd ["self", "count"] (spBLost CB CJ) := by
  refine F.ok scBX (fun vs H Q E h => ?_) (fun cdv A outer s H vs Q E hr h => ?_)
  · obtain ⟨b, l, j, d, st, n, rfl, _⟩ := h
    rfl
  · obtain ⟨b, l, j, d, st, n, rfl, hB, q⟩ := h
    obtain ⟨t1, h1⟩ := T.mSize
    obtain ⟨t5, h5⟩ := T0.mRows
    obtain ⟨t6, h6⟩ := T0.mSquares
    have r2 := hr.mono hk2
    have hu : (A.deeper (envOfC "Bar.lost" (defScope sBLost) s.heap.objs.size f cdv)).in1.units < cLine := hu_of hr
    refine ⟨_, pss_cons (ps_if (pt_not (pt_chain op_le op_le pe_int (pv 1) (pe_op op_mul (pe_glob (v := .int 5) rfl h5 ⟨_, rfl⟩) (pe_glob (v := .int 6) rfl h6 ⟨_, rfl⟩)))) (pss_one (ps_ret (pe_lst (pa_cons (pe_glob (v := .int (-1)) rfl h1 ⟨_, rfl⟩) pa_nil)))) pss_nil)
      (pss_cons (ps_set (i := 2) scBX.nd rfl (Or.inl rfl) (pe_call GW r2 rfl mW FW.kp bW .nil pass0 (pa_cons (pe_op op_rep5 (pe_tup (pa_cons (pe_glob (v := .int 6) rfl h6 ⟨_, rfl⟩) pa_nil)) (pe_glob (v := .int 5) rfl h5 ⟨_, rfl⟩)) pa_nil)))
      (pss_cons (ps_set (i := 3) scBX.nd rfl (Or.inl rfl) (pe_meth (pv 0) T.cl mA GA hr bA .nil pass0 (pa_cons
        (pe_lc (own := [("shape", 5)]) rfl scBX.nd (pi_list (pv 2)) (blkOk_by (by show blkC ["self", "count", "shapes", "found", "last", "shape"] (defScope sBLost) _ _ = true; decide +kernel))
          (fun s H C cl fp => pg_name (i := 5) scBX.nd rfl (Or.inl rfl))
          (fun s H C cl fp => pts_one (pt_cmpR op_eq (pe_callB (r := rSumT K) (cr_sumT rfl) (by rfl) T.sum PyProof.Rows.boot_sum (pa_cons (pv 5) pa_nil)) (pv 1) (nomark _)))
          (fun s H C cl fp => pv 5)) pa_nil)))
      (pss_cons (ps_set (i := 4) scBX.nd rfl (Or.inl rfl) (pe_maxD rfl hu rfl hmax (pv 3) (pe_tup pa_nil)))
      (pss_one (ps_ret (pe_op op_cat (pe_lst (pa_cons (pe_callB call_len_seq (by rfl) T.len PySem.boot_len (pa_cons (pv 3) pa_nil)) (pa_cons (pe_callB call_len_seq (by rfl) T.len PySem.boot_len (pa_cons (pv 4) pa_nil)) pa_nil)))
        (pe_callTy call_list_of (by rfl) T.list PyProof.Rows.boot_list (pa_cons (pv 4) pa_nil)))))))), ?_⟩
    obtain ⟨⟨dx, t, hb, ht⟩, ⟨as0, hl, hT⟩, ⟨kvs, hJ⟩, hg, hgs⟩ := id hB
    have no : (n < 1 ∨ 30 < n) → ∀ p, H p = none → Q (.ref p) (upd H p (.lst [V.int (-1)])) := fun hc p hp => q.stays (xs := [-1]) hB (st_lost0 hc) (Same.refl H) hp
    refine ⟨_, rfl, _, _, rfl, rfl, _, rfl, ?_⟩
    by_cases c1 : 1 ≤ n
    · rw [decide_eq_true (show (1 : Int) ≤ (n : Int) by omega)]
      refine iteT ⟨5, 6, rfl, rfl, .inl ⟨by decide, by decide⟩, _, _, rfl, rfl, _, rfl, ?_⟩
      by_cases c2 : n ≤ 30
      · rw [decide_eq_true (show (n : Int) ≤ 5 * 6 by omega)]
        refine iteF ?_
        -- shapes
        refine ⟨by show 1 ≤ sizeLine; decide, fun u hu1 => ⟨u, .int 6, rfl, rfl, upd_same, fun v hv => ?_⟩⟩
        have s1 := upd_same_of (o := .tup [V.int 6]) hu1
        have s2 := upd_same_of (o := .tup [V.int 6, V.int 6, V.int 6, V.int 6, V.int 6]) hv
        refine ⟨v, [6, 6, 6, 6, 6], rfl, Ma.good_whole, upd_same, fun p H1 as s3 hp0 hp1 hts => ?_⟩
        have s13 := (s1.trans s2).trans s3
        have L0good : ∀ x ∈ within [6, 6, 6, 6, 6], Good x := fun x hx => (Ma.within_good Ma.good_whole hx).1
        have L0len := within_len Ma.good_whole
        have efound : Ma.found n = ((within [6, 6, 6, 6, 6]).filter fun s => decide (Ux04.total s = n)).filter (lostW Ux04.worth) := rfl
        generalize within [6, 6, 6, 6, 6] = L0 at hts L0good L0len efound
        -- those of n squares
        refine ⟨_, rfl, b, dx, _, rfl, s13 _ _ hb, rfl, _, rfl, p, rfl, ⟨_, SqL.of hp1⟩, fun D hD => ?_⟩
        have s4 : Same H1 (upd H1 D (.lst [])) := upd_same_of hD
        refine lc_list (K := K) (a := p) (xs := as.map V.ref) (fun i H' => ∃ bs : List Addr, Same H1 H' ∧ H' D = some (.lst (bs.map V.ref)) ∧ Tups H' bs ((L0.take i).filter fun s => decide (Ux04.total s = n)))
          ⟨[], s4, upd_same, True.intro⟩ (fun i H' _ h => by obtain ⟨_, h2, _⟩ := h; exact SqL.of (h2 _ _ hp1)) ?_ ?_
        · rintro i x H' hi ⟨bs, d1, d2, d3⟩
          obtain ⟨z, hz, rfl⟩ := ref_of hi
          obtain ⟨y, hy, hzt⟩ := hts.get hz
          have hz' := d1 _ _ hzt
          refine ⟨rfl, _, rfl, z, y.map fun (n : Nat) => (n : Int), rfl, SqT.of (by rw [← tv_ints]; exact hz'), _, rfl, rfl, _, rfl, ?_⟩
          rw [sum_nat]
          by_cases e : Ux04.total y = n
          · rw [decide_eq_true (show V.int ((Ux04.total y : Nat) : Int) = V.int (n : Int) by rw [e])]
            refine iteT ⟨_, rfl, _, d2, ?_, bs ++ [z], fun b' o e' => ?_, ?_, ?_⟩
            · rw [List.length_map, d3.length]
              have h1 := List.length_filter_le (fun s => decide (Ux04.total s = n)) (L0.take i)
              rw [List.length_take] at h1
              exact Nat.lt_of_le_of_lt (show _ ≤ 10000 by omega) (by decide)
            · rw [upd_ne (ne_of_none e' hD)]; exact d1 b' o e'
            · rw [upd_same]; simp
            · have kt : TK H' (upd H' D (.lst (bs.map V.ref ++ [V.ref z]))) := TK.upd d2
              rw [take_snoc hy, List.filter_append]
              refine Tups.append (d3.keep kt) ?_
              simp only [List.filter_cons, e, decide_true, if_true, List.filter_nil]
              exact ⟨kt _ _ hz', True.intro⟩
          · rw [decide_eq_false (show ¬ V.int ((Ux04.total y : Nat) : Int) = V.int (n : Int) by intro z; injection z with z; omega)]
            refine iteF ⟨bs, d1, d2, ?_⟩
            rw [take_snoc hy, List.filter_append]
            simpa [e] using d3
        · rintro H' ⟨bs, d1, d2, d3⟩
          rw [List.length_map, hts.length, List.take_length] at d3
          have s14 := s13.trans d1
          refine ⟨b, dx, j, d, D, _, kvs, bs, _, rfl, s14 _ _ hb, rfl, hJ.same s14, d2, d3, fun x hx => L0good x (List.mem_filter.mp hx).1, Nat.le_trans (List.length_filter_le _ _) (Nat.le_trans L0len (by decide)), fun H2 kvs2 g cs e1 e2 e3 e4 e5 => ?_⟩
          rw [← efound] at e5
          have k2 : Keep [d, tabP] H H2 := (Keep.of s14).trans e2
          -- the last
          refine ⟨_, rfl, by decide, fun em hem => ?_⟩
          have s5 := upd_same_of (o := .tup []) hem
          have glen : (cs.map V.ref).length = (Ma.found n).length := by rw [List.length_map, e5.length]
          -- what is answered, of the last shape z at address y
          have fin : ∀ (y : Addr) (z : List Nat) (H4 : Hp), Same H2 H4 → H4 y = some (.tup (tv z)) → z.length ≤ 100 → (Ux04.lost n).getLastD [] = z →
              tRet (tOp rCat (tLst (tCons (tCB (fun xs H Q => ∃ a ys, xs = [V.ref a] ∧ (SqL K H a ys ∨ SqT K H a ys) ∧ Q (.int ys.length) H) (tCons (tVar 3) tNil)) (tCons (tCB (fun xs H Q => ∃ a ys, xs = [V.ref a] ∧ (SqL K H a ys ∨ SqT K H a ys) ∧ Q (.int ys.length) H) (tCons (tVar 4) tNil)) tNil)))
                (tCB (fun xs H Q => ∃ p ys, xs = [.ref p] ∧ (SqL K H p ys ∨ SqT K H p ys) ∧ ∀ l, H l = none → Q (.ref l) (upd H l (.lst ys))) (tCons (tVar 4) tNil))) { nx := fun _ H' => Q .non H', rt := Q } [some (.ref b), some (.int (n : Int)), some (.ref p), some (.ref g), some (.ref y), none] H4 := by
            intro y z H4 s6 hy hz ez
            have hg4 := s6 _ _ e4
            refine ⟨_, rfl, g, _, rfl, .inl (SqL.of hg4), _, rfl, y, _, rfl, .inr (SqT.of hy), by show 2 ≤ sizeLine; decide, fun p1 hp1 => ?_⟩
            have s7 := upd_same_of (o := .lst [V.int ((cs.map V.ref).length : Int), V.int ((tv z).length : Int)]) hp1
            refine ⟨_, rfl, y, _, rfl, .inr (SqT.of (s7 _ _ hy)), fun p2 hp2 => ?_⟩
            have s8 := upd_same_of (o := .lst (tv z)) hp2
            refine ⟨p1, p2, _, _, rfl, rfl, s8 _ _ upd_same, upd_same, by rw [tv_length]; exact le_line (by simp; omega), fun p3 hp3 => ?_⟩
            have ee : [V.int ((cs.map V.ref).length : Int), V.int ((tv z).length : Int)] ++ tv z = (((Ma.found n).length : Int) :: Ux04.counted z).map V.int := by
              rw [glen, tv_length, tv_ints]
              unfold Ux04.counted Ux04.ints
              simp
            rw [ee]
            exact q.judged hB (st_lost1 c1 c2 ez) e1 k2 ((s6.trans s7).trans s8) hp3
          refine ⟨g, cs.map V.ref, .ref em, fun i => (((Ma.found n)[i]?).getD []).map fun (n : Nat) => (n : Int), rfl, rfl, s5 _ _ e4, fun i x hi => ?_, ord_lex _ _, fun hnil H4 s6 => ?_, fun i x H4 hi fb s6 => ?_⟩
          · obtain ⟨y, hy, rfl⟩ := ref_of hi
            obtain ⟨z, hz, hyt⟩ := e5.get hy
            exact ⟨y, rfl, by dsimp only; rw [hz, Option.getD_some, ← tv_ints]; exact s5 _ _ hyt⟩
          · have hf0 : Ma.found n = [] := List.length_eq_zero_iff.mp (by rw [← glen, hnil]; rfl)
            refine fin em [] H4 (s5.trans s6) (s6 _ _ upd_same) (by simp) ?_
            rw [Ma.found_none c1 hf0]; rfl
          · obtain ⟨y, hy, rfl⟩ := ref_of hi
            obtain ⟨z, hz, hyt⟩ := e5.get hy
            have hzm := List.mem_of_getElem? hz
            have hzg : Good z := ((Ma.lost_mem).mp ((Ma.mem_found c1).mp hzm)).1
            refine fin y z H4 (s5.trans s6) (s6 _ _ (s5 _ _ hyt)) (by have := (Ma.fit_iff.mp hzg).1; omega) (Ma.found_last c1 hzm fun x hx => ?_)
            obtain ⟨m, hm⟩ := List.getElem?_of_mem hx
            have h3 := fb.2.1 m (by rw [glen]; exact (List.getElem?_eq_some_iff.mp hm).1)
            simp only [hm, hz, Option.getD_some] at h3
            exact (lexGt_false _ _).mp h3
      · rw [decide_eq_false (show ¬ (n : Int) ≤ 5 * 6 by omega)]
        exact iteT ⟨by show 1 ≤ sizeLine; decide, fun p hp => no (by omega) p hp⟩
    · rw [if_neg (by rw [decide_eq_false (show ¬ (1 : Int) ≤ (n : Int) by omega)]; decide)]
      refine ⟨_, rfl, ?_⟩
      exact iteT ⟨by show 1 ≤ sizeLine; decide, fun p hp => no (by omega) p hp⟩
end
end Bb

end

section
set_option Elab.async false
set_option linter.all false
set_option maxRecDepth 100000
set_option maxHeartbeats 2000000
namespace Bb
open PySem PySem.Spec PyProof.Rows L2
open Ma (within cut Good Reads)
abbrev sAC : Stmt := top 30
section
variable {P : Program} {w : World} {K : PySem.W.Frag} {mg : Str → Option Value} {base : Heap} {CB CJ CL : Addr}
theorem line_bar {H : Hp} {ln b dx dx' c t l j : Addr} {p : Nat} (h1 : H ln = some (.ins CL dx (lineF c p))) (h2 : H b = some (.ins CB dx' (barF t l j))) : ln ≠ b := ne_of h1 h2 (by
  intro z
  injection z with _ _ z
  cases z)
theorem line_judge {H : Hp} {ln j dx dx' c d : Addr} {p : Nat} (h1 : H ln = some (.ins CL dx (lineF c p))) (h2 : H j = some (.ins CJ dx' (judgeF d))) : ln ≠ j := ne_of h1 h2 (by
  intro z
  injection z with _ _ z
  cases z)
/-- the Line goes on: the Bar is as it was -/
theorem BarAt.line {H : Hp} {b l j d ln dx c : Addr} {p : Nat} {o : HO} {st : Ux04.Bar} (h : BarAt CB CJ H b l j d st) (hn : H ln = some (.ins CL dx (lineF c p))) : BarAt CB CJ (upd H ln o) b l j d st := by
  obtain ⟨⟨db, t, h1, h2⟩, ⟨as, h3, h4⟩, ⟨kvs, ⟨dj, h5⟩, h6, h7, h7T⟩, h8, h9⟩ := h
  have kt : TK H (upd H ln o) := fun a xs e => by rw [upd_ne (ne_of e hn (by intro z; cases z))]; exact e
  refine ⟨⟨db, t, ?_, kt _ _ h2⟩, ⟨as, ?_, h4.keep kt⟩, ⟨kvs, ⟨dj, ?_⟩, ?_, h7, h7T.upd hn (by intro _ z; cases z) (by intro _ z; cases z)⟩, h8, h9⟩
  · rw [upd_ne (line_bar hn h1).symm]; exact h1
  · rw [upd_ne (ne_of h3 hn (by intro z; cases z))]; exact h3
  · rw [upd_ne (line_judge hn h5).symm]; exact h5
  · rw [upd_ne (ne_of h6 hn (by intro z; cases z))]; exact h6
/-- what is wanted behind answer_call -/
def AnsL (CB CJ CL : Addr) (call : Ux04.Call) (b l j d ln dx c : Addr) (p' : Nat) (st : Ux04.Bar) (H : Hp) (Q : VK) : Prop :=
  ∀ r H' l', BarAt CB CJ H' b l' j d (Ux04.step st call).1 → (l' = l ∨ H l' = none) → Keep [b, l, j, d, tabP, ln] H H' → H' ln = some (.ins CL dx (lineF c p')) → H r = none → H' r = some (.lst ((Ux04.step st call).2.map V.int)) → Q (.ref r) H'
def spAC (K : PySem.W.Frag) (CB CJ CL : Addr) (ok : Ux04.Call → Prop) : Sp := fun vs H Q _ => ∃ (b l j d ln dx c : Addr) (p : Nat) (st : Ux04.Bar) (ns rest : List Int) (cl : List (List Int)) (call : Ux04.Call),
  vs = [.ref b, .ref ln] ∧ BarAt CB CJ H b l j d st ∧ st.old.length ≤ 1000 ∧ H ln = some (.ins CL dx (lineF c p)) ∧ SqL K H c (ns.map V.int) ∧ ns.drop p = PyFlat.put1 cl ++ rest ∧ Reads cl call ∧ ok call ∧
  AnsL CB CJ CL call b l j d ln dx c (p + (PyFlat.put1 cl).length) st H Q
/-- from the Line's last state to what is wanted -/
theorem AnsL.of {call : Ux04.Call} {b l j d ln dx c : Addr} {p p' : Nat} {st : Ux04.Bar} {H H1 : Hp} {Q : VK} (q : AnsL CB CJ CL call b l j d ln dx c p' st H Q) (hB : BarAt CB CJ H b l j d st) (hn : H ln = some (.ins CL dx (lineF c p))) (k : Keep [ln] H H1)
    (h1 : H1 ln = some (.ins CL dx (lineF c p'))) : Ans CB CJ call b l j d st H1 Q := by
  intro r H' l' a1 a2 a3 a4 a5
  obtain ⟨⟨db, t, hb, _⟩, ⟨as, hl, _⟩, ⟨kvs, ⟨dj, hj⟩, hd, _, hTb⟩, _⟩ := hB
  have ne : ln ∉ [b, l, j, d, tabP] := by
    simp only [List.mem_cons, List.not_mem_nil, or_false, not_or]
    exact ⟨line_bar hn hb, ne_of hn hl (by intro z; cases z), line_judge hn hj, ne_of hn hd (by intro z; cases z), tab_ne hTb hn (by intro _ z; cases z)⟩
  have fr : ∀ {y : Addr}, H1 y = none → H y = none := fun {y} e => by
    cases e2 : H y with
    | none => rfl
    | some o =>
      by_cases h : y = ln
      · rw [h, h1] at e; cases e
      · rw [k y o e2 (by simpa using h)] at e; cases e
  refine q r H' l' a1 ?_ ?_ (a3 _ _ h1 ne) (fr a4) a5
  · rcases a2 with a2 | a2
    · exact .inl a2
    · exact .inr (fr a2.1)
  · intro y o e hy
    have hy1 : y ∉ [ln] := fun z => hy (by simp at z; simp [z])
    have hy2 : y ∉ [b, l, j, d, tabP] := fun z => hy (by
      simp only [List.mem_cons, List.not_mem_nil, or_false] at z ⊢
      rcases z with z | z | z | z | z <;> simp [z])
    exact a3 y o (k y o e hy1) hy2
theorem getD_of_drop {ns : List Int} {p : Nat} {x : Int} {r : List Int} (h : ns.drop p = x :: r) : (ns.map V.int)[p]? = some (V.int x) ∧ ns.drop (p + 1) = r := by
  have h1 : (ns.drop p)[0]? = some x := by rw [h]; rfl
  rw [List.getElem?_drop, Nat.add_zero] at h1
  refine ⟨by rw [List.getElem?_map, h1]; rfl, ?_⟩
  have : ns.drop (p + 1) = (ns.drop p).drop 1 := by rw [List.drop_drop]
  rw [this, h]; rfl
structure TxtA (K : PySem.W.Frag) (mg : Str → Option Value) : Prop where
  m0 : ∃ t, mg "BAR" = some (.int 0 t)
  m1 : ∃ t, mg "SHAPE" = some (.int 1 t)
  m2 : ∃ t, mg "BITE" = some (.int 2 t)
  m3 : ∃ t, mg "BACK" = some (.int 3 t)
  m4 : ∃ t, mg "SHOWS" = some (.int 4 t)
  m5 : ∃ t, mg "WON" = some (.int 5 t)
  m6 : ∃ t, mg "GOOD" = some (.int 6 t)
  m7 : ∃ t, mg "LONG" = some (.int 7 t)
  m8 : ∃ t, mg "PLAY" = some (.int 8 t)
  m9 : ∃ t, mg "UNDER" = some (.int 9 t)
  m10 : ∃ t, mg "LOST" = some (.int 10 t)
  m11 : ∃ t, mg "TURNED" = some (.int 11 t)
theorem scAC : FnScope ["bar", "line", "number", "rows", "row"] ["bar", "line"] (defScope sAC) := ⟨rfl, rfl, rfl, by decide +kernel, rfl, by decide +kernel, by decide +kernel⟩
def okCalls : Ux04.Call → Prop := fun _ => True
theorem ok_ac {k : Nat} {f fT fTL f0 f1 f2 f3 f4 f5 f6 f7 f8 f9 f10 f11 : Addr} {fd fdT fdTL fd0 fd1 fd2 fd3 fd4 fd5 fd6 fd7 fd8 fd9 fd10 fd11 : FuncData} (hk3 : 3 ≤ k) (F : Fun K "answer_call" "answer_call" sAC f fd) (T : TxtA K mg) (clL : Cls K CL) (clB : Cls K CB)
    (mT : Meth K CL "take" fT) (bT : Binds K fdT ["self"] []) (GT : FnOk P w K mg base CX0 1 fT fdT ["self"] (spTake K CL))
    (mTL : Meth K CL "take_list" fTL) (bTL : Binds K fdTL ["self"] []) (GTL : FnOk P w K mg base CX0 2 fTL fdTL ["self"] (spTakeL K CL))
    (m0 : Meth K CB "lay_whole" f0) (b0 : Binds K fd0 ["self", "rows", "squares"] []) (G0 : FnOk P w K mg base CX0 3 f0 fd0 ["self", "rows", "squares"] (spBWhole CB CJ))
    (m1 : Meth K CB "lay_shape" f1) (b1 : Binds K fd1 ["self", "rows"] []) (G1 : FnOk P w K mg base CX0 2 f1 fd1 ["self", "rows"] (spBShape K CB CJ))
    (m2 : Meth K CB "bite" f2) (b2 : Binds K fd2 ["self", "row", "square"] []) (G2 : FnOk P w K mg base CX0 2 f2 fd2 ["self", "row", "square"] (spBBite CB CJ))
    (m3 : Meth K CB "back" f3) (b3 : Binds K fd3 ["self"] []) (G3 : FnOk P w K mg base CX0 1 f3 fd3 ["self"] (sp0 CB CJ .back))
    (m4 : Meth K CB "shows" f4) (b4 : Binds K fd4 ["self"] []) (G4 : FnOk P w K mg base CX0 1 f4 fd4 ["self"] (sp0 CB CJ .shows))
    (m5 : Meth K CB "won" f5) (b5 : Binds K fd5 ["self"] []) (G5 : FnOk P w K mg base CX0 k f5 fd5 ["self"] (sp0 CB CJ .won))
    (m6 : Meth K CB "good" f6) (b6 : Binds K fd6 ["self"] []) (G6 : FnOk P w K mg base CX0 k f6 fd6 ["self"] (sp0 CB CJ .good))
    (m7 : Meth K CB "long" f7) (b7 : Binds K fd7 ["self"] []) (G7 : FnOk P w K mg base CX0 k f7 fd7 ["self"] (sp0 CB CJ .long))
    (m8 : Meth K CB "play" f8) (b8 : Binds K fd8 ["self"] []) (G8 : FnOk P w K mg base CX0 k f8 fd8 ["self"] (sp0 CB CJ .play))
    (m9 : Meth K CB "under" f9) (b9 : Binds K fd9 ["self"] []) (G9 : FnOk P w K mg base CX0 k f9 fd9 ["self"] (sp0 CB CJ .under))
    (m10 : Meth K CB "lost" f10) (b10 : Binds K fd10 ["self", "count"] []) (G10 : FnOk P w K mg base CX0 k f10 fd10 ["self", "count"] (spBLost CB CJ))
    (m11 : Meth K CB "turned" f11) (b11 : Binds K fd11 ["self"] []) (G11 : FnOk P w K mg base CX0 k f11 fd11 ["self"] (sp0 CB CJ .turned)) :
    FnOk P w K mg base CX0 (k + 1) f fd ["bar", "line"] (spAC K CB CJ CL okCalls) := by
  refine F.ok scAC (fun vs H Q E h => ?_) (fun cdv A outer s H vs Q E hr h => ?_)
  · obtain ⟨b, l, j, d, ln, dx, c, p, st, ns, rest, cl, call, rfl, _⟩ := h
    rfl
  · obtain ⟨b, l, j, d, ln, dx, c, p, st, ns, rest, cl, call, rfl, hB, hlen, hn, hc, hdr, hR, hok, q⟩ := h
    obtain ⟨t0, g0⟩ := T.m0
    obtain ⟨t1, g1⟩ := T.m1
    obtain ⟨t2, g2⟩ := T.m2
    obtain ⟨t3, g3⟩ := T.m3
    obtain ⟨t4, g4⟩ := T.m4
    obtain ⟨t5, g5⟩ := T.m5
    obtain ⟨t6, g6⟩ := T.m6
    obtain ⟨t7, g7⟩ := T.m7
    obtain ⟨t8, g8⟩ := T.m8
    obtain ⟨t9, g9⟩ := T.m9
    obtain ⟨t10, g10⟩ := T.m10
    obtain ⟨t11, g11⟩ := T.m11
    have r1 : Room 1 _ := hr.mono (by omega)
    have r2 : Room 2 _ := hr.mono (by omega)
    have r3 : Room 3 _ := hr.mono hk3
    refine ⟨_, pss_cons (ps_set (i := 2) scAC.nd rfl (Or.inl rfl) (pe_meth0 (pv 1) clL mT GT r1 bT .nil pass0))
      (pss_cons (ps_if (pt_cmpR op_eq (pv 2) (pe_glob (v := .int 0) rfl g0 ⟨_, rfl⟩) (nomark _))
        (pss_cons (ps_set (i := 3) scAC.nd rfl (Or.inl rfl) (pe_meth0 (pv 1) clL mT GT r1 bT .nil pass0))
          (pss_one (ps_ret (pe_meth (pv 0) clB m0 G0 r3 b0 .nil pass0 (pa_cons (pv 3) (pa_cons (pe_meth0 (pv 1) clL mT GT r1 bT .nil pass0) pa_nil)))))) pss_nil)
      (pss_cons (ps_if (pt_cmpR op_eq (pv 2) (pe_glob (v := .int 1) rfl g1 ⟨_, rfl⟩) (nomark _))
        (pss_one (ps_ret (pe_meth (pv 0) clB m1 G1 r2 b1 .nil pass0 (pa_cons (pe_meth0 (pv 1) clL mTL GTL r2 bTL .nil pass0) pa_nil)))) pss_nil)
      (pss_cons (ps_if (pt_cmpR op_eq (pv 2) (pe_glob (v := .int 2) rfl g2 ⟨_, rfl⟩) (nomark _))
        (pss_cons (ps_set (i := 4) scAC.nd rfl (Or.inl rfl) (pe_meth0 (pv 1) clL mT GT r1 bT .nil pass0))
          (pss_one (ps_ret (pe_meth (pv 0) clB m2 G2 r2 b2 .nil pass0 (pa_cons (pv 4) (pa_cons (pe_meth0 (pv 1) clL mT GT r1 bT .nil pass0) pa_nil)))))) pss_nil)
      (pss_cons (ps_if (pt_cmpR op_eq (pv 2) (pe_glob (v := .int 3) rfl g3 ⟨_, rfl⟩) (nomark _)) (pss_one (ps_ret (pe_meth0 (pv 0) clB m3 G3 r1 b3 .nil pass0))) pss_nil)
      (pss_cons (ps_if (pt_cmpR op_eq (pv 2) (pe_glob (v := .int 4) rfl g4 ⟨_, rfl⟩) (nomark _)) (pss_one (ps_ret (pe_meth0 (pv 0) clB m4 G4 r1 b4 .nil pass0))) pss_nil)
      (pss_cons (ps_if (pt_cmpR op_eq (pv 2) (pe_glob (v := .int 5) rfl g5 ⟨_, rfl⟩) (nomark _)) (pss_one (ps_ret (pe_meth0 (pv 0) clB m5 G5 hr b5 .nil pass0))) pss_nil)
      (pss_cons (ps_if (pt_cmpR op_eq (pv 2) (pe_glob (v := .int 6) rfl g6 ⟨_, rfl⟩) (nomark _)) (pss_one (ps_ret (pe_meth0 (pv 0) clB m6 G6 hr b6 .nil pass0))) pss_nil)
      (pss_cons (ps_if (pt_cmpR op_eq (pv 2) (pe_glob (v := .int 7) rfl g7 ⟨_, rfl⟩) (nomark _)) (pss_one (ps_ret (pe_meth0 (pv 0) clB m7 G7 hr b7 .nil pass0))) pss_nil)
      (pss_cons (ps_if (pt_cmpR op_eq (pv 2) (pe_glob (v := .int 8) rfl g8 ⟨_, rfl⟩) (nomark _)) (pss_one (ps_ret (pe_meth0 (pv 0) clB m8 G8 hr b8 .nil pass0))) pss_nil)
      (pss_cons (ps_if (pt_cmpR op_eq (pv 2) (pe_glob (v := .int 9) rfl g9 ⟨_, rfl⟩) (nomark _)) (pss_one (ps_ret (pe_meth0 (pv 0) clB m9 G9 hr b9 .nil pass0))) pss_nil)
      (pss_cons (ps_if (pt_cmpR op_eq (pv 2) (pe_glob (v := .int 10) rfl g10 ⟨_, rfl⟩) (nomark _)) (pss_one (ps_ret (pe_meth (pv 0) clB m10 G10 hr b10 .nil pass0 (pa_cons (pe_meth0 (pv 1) clL mT GT r1 bT .nil pass0) pa_nil)))) pss_nil)
      (pss_cons (ps_if (pt_cmpR op_eq (pv 2) (pe_glob (v := .int 11) rfl g11 ⟨_, rfl⟩) (nomark _)) (pss_one (ps_ret (pe_meth0 (pv 0) clB m11 G11 hr b11 .nil pass0))) pss_nil)
      (pss_one ps_never))))))))))))), ?_⟩
    obtain ⟨⟨db, t, hb, ht⟩, _⟩ := id hB
    -- the numbers that are taken
    have tk : ∀ {H1 : Hp} {p1 : Nat} {x : Int} {r : List Int} {Q' : VK}, H1 ln = some (.ins CL dx (lineF c p1)) → SqL K H1 c (ns.map V.int) → ns.drop p1 = x :: r → Q' (.int x) (upd H1 ln (.ins CL dx (lineF c (p1 + 1)))) →
        spTake K CL [V.ref ln] H1 Q' E0 := fun a1 a2 a3 a4 => ⟨ln, dx, c, _, _, _, rfl, a1, a2, (getD_of_drop a3).1, a4⟩
    have kl : ∀ {H1 : Hp} {o : HO}, Keep [ln] H1 (upd H1 ln o) := Keep.upd (by simp)
    cases hR with
    | bar r c' h1 h2 =>
      refine ⟨_, rfl, ln, dx, _, rfl, hn, rfl, tk hn hc hdr ?_⟩
      have e1 := (getD_of_drop hdr).2
      have hn1 : upd H ln (.ins CL dx (lineF c (p + 1))) ln = some (.ins CL dx (lineF c (p + 1))) := upd_same
      have hc1 : SqL K (upd H ln (.ins CL dx (lineF c (p + 1)))) c (ns.map V.int) := seq_upd hc hn
      refine ⟨_, rfl, rfl, true, rfl, iteT ?_⟩
      refine ⟨_, rfl, ln, dx, _, rfl, hn1, rfl, tk hn1 hc1 e1 ?_⟩
      have e2 := (getD_of_drop e1).2
      rw [upd_upd]
      have hn2 : upd H ln (.ins CL dx (lineF c (p + 1 + 1))) ln = some (.ins CL dx (lineF c (p + 1 + 1))) := upd_same
      have hc2 : SqL K (upd H ln (.ins CL dx (lineF c (p + 1 + 1)))) c (ns.map V.int) := seq_upd hc hn
      refine ⟨_, rfl, b, db, _, rfl, by rw [upd_ne (line_bar hn hb).symm]; exact hb, rfl, _, rfl, _, rfl, ln, dx, _, rfl, hn2, rfl, tk hn2 hc2 e2 ?_⟩
      rw [upd_upd]
      exact ⟨b, l, j, d, st, r, c', rfl, hB.line hn, q.of hB hn kl upd_same⟩
    | shape ms h1 h2 =>
      refine ⟨_, rfl, ln, dx, _, rfl, hn, rfl, tk hn hc hdr ?_⟩
      have e1 : ns.drop (p + 1) = (ms.length : Int) :: (ms ++ rest) := by
        have := (getD_of_drop hdr).2
        rw [this]
        show ((ms.length : Int) :: ms ++ []) ++ rest = _
        simp
      have hn1 : upd H ln (.ins CL dx (lineF c (p + 1))) ln = some (.ins CL dx (lineF c (p + 1))) := upd_same
      have hc1 : SqL K (upd H ln (.ins CL dx (lineF c (p + 1)))) c (ns.map V.int) := seq_upd hc hn
      refine ⟨_, rfl, rfl, false, rfl, iteF ?_⟩
      refine ⟨_, rfl, rfl, true, rfl, iteT ?_⟩
      have e2 := getD_of_drop e1
      have hl : p + 1 + 1 + ms.length ≤ (ns.map V.int).length := by
        have := congrArg List.length e1
        rw [List.length_drop] at this
        simp at this ⊢
        omega
      have ecut : ((ns.map V.int).drop (p + 1 + 1)).take ms.length = ms.map V.int := by
        rw [← List.map_drop, e2.2, ← List.map_take, List.take_left]
      refine ⟨_, rfl, b, db, _, rfl, by rw [upd_ne (line_bar hn hb).symm]; exact hb, rfl, _, rfl, ln, dx, _, rfl, hn1, rfl, ln, dx, c, p + 1, ms.length, ns.map V.int, rfl, hn1, hc1, e2.1, hl, fun z hz => ?_⟩
      rw [upd_upd, ecut] at *
      have s1 := upd_same_of (o := .lst (ms.map V.int)) hz
      have hpos : p + (PyFlat.put1 [[1], ms]).length = p + 1 + 1 + ms.length := by
        show p + ((1 : Int) :: ((ms.length : Int) :: ms ++ [])).length = _
        simp; omega
      rw [hpos] at q
      refine ⟨b, l, j, d, z, st, ms, rfl, (hB.line hn).same s1, SqL.of upd_same, fun n hn => (h1 n hn).1, ?_⟩
      refine q.of hB hn (fun y o e hy => s1 _ _ (kl y o e hy)) (s1 _ _ upd_same)
    | bite i k h1 h2 =>
      refine ⟨_, rfl, ln, dx, _, rfl, hn, rfl, tk hn hc hdr ?_⟩
      have e1 := (getD_of_drop hdr).2
      have hn1 : upd H ln (.ins CL dx (lineF c (p + 1))) ln = some (.ins CL dx (lineF c (p + 1))) := upd_same
      have hc1 : SqL K (upd H ln (.ins CL dx (lineF c (p + 1)))) c (ns.map V.int) := seq_upd hc hn
      refine ⟨_, rfl, rfl, false, rfl, iteF ?_⟩
      refine ⟨_, rfl, rfl, false, rfl, iteF ?_⟩
      refine ⟨_, rfl, rfl, true, rfl, iteT ?_⟩
      refine ⟨_, rfl, ln, dx, _, rfl, hn1, rfl, tk hn1 hc1 e1 ?_⟩
      have e2 := (getD_of_drop e1).2
      rw [upd_upd]
      have hn2 : upd H ln (.ins CL dx (lineF c (p + 1 + 1))) ln = some (.ins CL dx (lineF c (p + 1 + 1))) := upd_same
      have hc2 : SqL K (upd H ln (.ins CL dx (lineF c (p + 1 + 1)))) c (ns.map V.int) := seq_upd hc hn
      refine ⟨_, rfl, b, db, _, rfl, by rw [upd_ne (line_bar hn hb).symm]; exact hb, rfl, _, rfl, _, rfl, ln, dx, _, rfl, hn2, rfl, tk hn2 hc2 e2 ?_⟩
      rw [upd_upd]
      exact ⟨b, l, j, d, st, i, k, rfl, hB.line hn, hlen, q.of hB hn kl upd_same⟩
    | back =>
      refine ⟨_, rfl, ln, dx, _, rfl, hn, rfl, tk hn hc hdr ?_⟩
      refine ⟨_, rfl, rfl, false, rfl, iteF ?_⟩
      refine ⟨_, rfl, rfl, false, rfl, iteF ?_⟩
      refine ⟨_, rfl, rfl, false, rfl, iteF ?_⟩
      refine ⟨_, rfl, rfl, true, rfl, iteT ?_⟩
      exact ⟨_, rfl, b, db, _, rfl, by rw [upd_ne (line_bar hn hb).symm]; exact hb, rfl, b, l, j, d, st, rfl, hB.line hn, hlen, q.of hB hn kl upd_same⟩
    | shows =>
      refine ⟨_, rfl, ln, dx, _, rfl, hn, rfl, tk hn hc hdr ?_⟩
      refine ⟨_, rfl, rfl, false, rfl, iteF ?_⟩
      refine ⟨_, rfl, rfl, false, rfl, iteF ?_⟩
      refine ⟨_, rfl, rfl, false, rfl, iteF ?_⟩
      refine ⟨_, rfl, rfl, false, rfl, iteF ?_⟩
      refine ⟨_, rfl, rfl, true, rfl, iteT ?_⟩
      exact ⟨_, rfl, b, db, _, rfl, by rw [upd_ne (line_bar hn hb).symm]; exact hb, rfl, b, l, j, d, st, rfl, hB.line hn, hlen, q.of hB hn kl upd_same⟩
    | won =>
      refine ⟨_, rfl, ln, dx, _, rfl, hn, rfl, tk hn hc hdr ?_⟩
      refine ⟨_, rfl, rfl, false, rfl, iteF ?_⟩
      refine ⟨_, rfl, rfl, false, rfl, iteF ?_⟩
      refine ⟨_, rfl, rfl, false, rfl, iteF ?_⟩
      refine ⟨_, rfl, rfl, false, rfl, iteF ?_⟩
      refine ⟨_, rfl, rfl, false, rfl, iteF ?_⟩
      refine ⟨_, rfl, rfl, true, rfl, iteT ?_⟩
      exact ⟨_, rfl, b, db, _, rfl, by rw [upd_ne (line_bar hn hb).symm]; exact hb, rfl, b, l, j, d, st, rfl, hB.line hn, hlen, q.of hB hn kl upd_same⟩
    | good =>
      refine ⟨_, rfl, ln, dx, _, rfl, hn, rfl, tk hn hc hdr ?_⟩
      refine ⟨_, rfl, rfl, false, rfl, iteF ?_⟩
      refine ⟨_, rfl, rfl, false, rfl, iteF ?_⟩
      refine ⟨_, rfl, rfl, false, rfl, iteF ?_⟩
      refine ⟨_, rfl, rfl, false, rfl, iteF ?_⟩
      refine ⟨_, rfl, rfl, false, rfl, iteF ?_⟩
      refine ⟨_, rfl, rfl, false, rfl, iteF ?_⟩
      refine ⟨_, rfl, rfl, true, rfl, iteT ?_⟩
      exact ⟨_, rfl, b, db, _, rfl, by rw [upd_ne (line_bar hn hb).symm]; exact hb, rfl, b, l, j, d, st, rfl, hB.line hn, hlen, q.of hB hn kl upd_same⟩
    | long =>
      refine ⟨_, rfl, ln, dx, _, rfl, hn, rfl, tk hn hc hdr ?_⟩
      refine ⟨_, rfl, rfl, false, rfl, iteF ?_⟩
      refine ⟨_, rfl, rfl, false, rfl, iteF ?_⟩
      refine ⟨_, rfl, rfl, false, rfl, iteF ?_⟩
      refine ⟨_, rfl, rfl, false, rfl, iteF ?_⟩
      refine ⟨_, rfl, rfl, false, rfl, iteF ?_⟩
      refine ⟨_, rfl, rfl, false, rfl, iteF ?_⟩
      refine ⟨_, rfl, rfl, false, rfl, iteF ?_⟩
      refine ⟨_, rfl, rfl, true, rfl, iteT ?_⟩
      exact ⟨_, rfl, b, db, _, rfl, by rw [upd_ne (line_bar hn hb).symm]; exact hb, rfl, b, l, j, d, st, rfl, hB.line hn, hlen, q.of hB hn kl upd_same⟩
    | play =>
      refine ⟨_, rfl, ln, dx, _, rfl, hn, rfl, tk hn hc hdr ?_⟩
      refine ⟨_, rfl, rfl, false, rfl, iteF ?_⟩
      refine ⟨_, rfl, rfl, false, rfl, iteF ?_⟩
      refine ⟨_, rfl, rfl, false, rfl, iteF ?_⟩
      refine ⟨_, rfl, rfl, false, rfl, iteF ?_⟩
      refine ⟨_, rfl, rfl, false, rfl, iteF ?_⟩
      refine ⟨_, rfl, rfl, false, rfl, iteF ?_⟩
      refine ⟨_, rfl, rfl, false, rfl, iteF ?_⟩
      refine ⟨_, rfl, rfl, false, rfl, iteF ?_⟩
      refine ⟨_, rfl, rfl, true, rfl, iteT ?_⟩
      exact ⟨_, rfl, b, db, _, rfl, by rw [upd_ne (line_bar hn hb).symm]; exact hb, rfl, b, l, j, d, st, rfl, hB.line hn, hlen, q.of hB hn kl upd_same⟩
    | under =>
      refine ⟨_, rfl, ln, dx, _, rfl, hn, rfl, tk hn hc hdr ?_⟩
      refine ⟨_, rfl, rfl, false, rfl, iteF ?_⟩
      refine ⟨_, rfl, rfl, false, rfl, iteF ?_⟩
      refine ⟨_, rfl, rfl, false, rfl, iteF ?_⟩
      refine ⟨_, rfl, rfl, false, rfl, iteF ?_⟩
      refine ⟨_, rfl, rfl, false, rfl, iteF ?_⟩
      refine ⟨_, rfl, rfl, false, rfl, iteF ?_⟩
      refine ⟨_, rfl, rfl, false, rfl, iteF ?_⟩
      refine ⟨_, rfl, rfl, false, rfl, iteF ?_⟩
      refine ⟨_, rfl, rfl, false, rfl, iteF ?_⟩
      refine ⟨_, rfl, rfl, true, rfl, iteT ?_⟩
      exact ⟨_, rfl, b, db, _, rfl, by rw [upd_ne (line_bar hn hb).symm]; exact hb, rfl, b, l, j, d, st, rfl, hB.line hn, hlen, q.of hB hn kl upd_same⟩
    | lost n h1 =>
      refine ⟨_, rfl, ln, dx, _, rfl, hn, rfl, tk hn hc hdr ?_⟩
      have e1 := (getD_of_drop hdr).2
      have hn1 : upd H ln (.ins CL dx (lineF c (p + 1))) ln = some (.ins CL dx (lineF c (p + 1))) := upd_same
      have hc1 : SqL K (upd H ln (.ins CL dx (lineF c (p + 1)))) c (ns.map V.int) := seq_upd hc hn
      refine ⟨_, rfl, rfl, false, rfl, iteF ?_⟩
      refine ⟨_, rfl, rfl, false, rfl, iteF ?_⟩
      refine ⟨_, rfl, rfl, false, rfl, iteF ?_⟩
      refine ⟨_, rfl, rfl, false, rfl, iteF ?_⟩
      refine ⟨_, rfl, rfl, false, rfl, iteF ?_⟩
      refine ⟨_, rfl, rfl, false, rfl, iteF ?_⟩
      refine ⟨_, rfl, rfl, false, rfl, iteF ?_⟩
      refine ⟨_, rfl, rfl, false, rfl, iteF ?_⟩
      refine ⟨_, rfl, rfl, false, rfl, iteF ?_⟩
      refine ⟨_, rfl, rfl, false, rfl, iteF ?_⟩
      refine ⟨_, rfl, rfl, true, rfl, iteT ?_⟩
      refine ⟨_, rfl, b, db, _, rfl, by rw [upd_ne (line_bar hn hb).symm]; exact hb, rfl, _, rfl, ln, dx, _, rfl, hn1, rfl, tk hn1 hc1 e1 ?_⟩
      rw [upd_upd]
      exact ⟨b, l, j, d, st, n, rfl, hB.line hn, q.of hB hn kl upd_same⟩
    | turned =>
      refine ⟨_, rfl, ln, dx, _, rfl, hn, rfl, tk hn hc hdr ?_⟩
      refine ⟨_, rfl, rfl, false, rfl, iteF ?_⟩
      refine ⟨_, rfl, rfl, false, rfl, iteF ?_⟩
      refine ⟨_, rfl, rfl, false, rfl, iteF ?_⟩
      refine ⟨_, rfl, rfl, false, rfl, iteF ?_⟩
      refine ⟨_, rfl, rfl, false, rfl, iteF ?_⟩
      refine ⟨_, rfl, rfl, false, rfl, iteF ?_⟩
      refine ⟨_, rfl, rfl, false, rfl, iteF ?_⟩
      refine ⟨_, rfl, rfl, false, rfl, iteF ?_⟩
      refine ⟨_, rfl, rfl, false, rfl, iteF ?_⟩
      refine ⟨_, rfl, rfl, false, rfl, iteF ?_⟩
      refine ⟨_, rfl, rfl, false, rfl, iteF ?_⟩
      refine ⟨_, rfl, rfl, true, rfl, iteT ?_⟩
      exact ⟨_, rfl, b, db, _, rfl, by rw [upd_ne (line_bar hn hb).symm]; exact hb, rfl, b, l, j, d, st, rfl, hB.line hn, hlen, q.of hB hn kl upd_same⟩
end
end Bb

end

section
set_option Elab.async false
set_option linter.all false
set_option maxRecDepth 100000
set_option maxHeartbeats 2000000
namespace Bb
open PySem PySem.Spec PyProof.Rows L2
open Ma (within cut Good Reads)
abbrev sAns : Stmt := top 31
section
variable {P : Program} {w : World} {K : PySem.W.Frag} {mg : Str → Option Value} {base : Heap} {CB CJ CL : Addr}
/-- another list is changed: the Bar is as it was -/
theorem BarAt.other {H : Hp} {b l j d y : Addr} {xs : List V} {o : HO} {st : Ux04.Bar} (h : BarAt CB CJ H b l j d st) (hy : H y = some (.lst xs)) (hl : y ≠ l) : BarAt CB CJ (upd H y o) b l j d st := by
  obtain ⟨⟨db, t, h1, h2⟩, ⟨as, h3, h4⟩, ⟨kvs, ⟨dj, h5⟩, h6, h7, h7T⟩, h8, h9⟩ := h
  have kt : TK H (upd H y o) := TK.upd hy
  refine ⟨⟨db, t, ?_, kt _ _ h2⟩, ⟨as, ?_, h4.keep kt⟩, ⟨kvs, ⟨dj, ?_⟩, ?_, h7, h7T.upd hy (by intro _ z; cases z) (by intro _ z; cases z)⟩, h8, h9⟩
  · rw [upd_ne (ne_of h1 hy (by intro z; cases z))]; exact h1
  · rw [upd_ne hl.symm]; exact h3
  · rw [upd_ne (ne_of h5 hy (by intro z; cases z))]; exact h5
  · rw [upd_ne (ne_of h6 hy (by intro z; cases z))]; exact h6
theorem sameT_seq {K : PySem.W.Frag} {H H' : Hp} {a : Addr} {xs : List V} (e : SameT tabP H H') (hT : H tabP = some (.tbl #[])) (h : SqL K H a xs) : SqL K H' a xs := by
  rcases h with (h | ⟨o, h⟩) | h
  · exact .inl (.inl (e _ _ h (ne_of h hT (by intro z; cases z))))
  · exact .inl (.inr ⟨o, e _ _ h (ne_of h hT (by intro z; cases z))⟩)
  · exact .inr h
theorem sameT_free {H H' : Hp} {y : Addr} (e : SameT tabP H H') (T : TabAt tabP lamQ H') (h : H' y = none) : H y = none := by
  cases q : H y with
  | none => rfl
  | some o =>
    exfalso
    by_cases hy : y = tabP
    · obtain ⟨ps, t1, _⟩ := T
      rw [hy, t1] at h; cases h
    · rw [e y o q hy] at h; cases h
def spAns (K : PySem.W.Frag) : Sp := fun vs H Q _ => ∃ (a : Addr) (ns : List Int), vs = [.ref a] ∧ H tabP = some (.tbl #[]) ∧ SqL K H a (ns.map V.int) ∧ PyUx04.answers_asked ns = true ∧ ∀ (H' : Hp) (p : Addr), H' p = some (.lst ((PyUx04.answers ns).map V.int)) → Q (.ref p) H'
theorem scAns : FnScope ["calls", "bar", "line", "told", "answer"] ["calls"] (defScope sAns) := ⟨rfl, rfl, rfl, by decide +kernel, rfl, by decide +kernel, by decide +kernel⟩
theorem ok_answers {f fBI fLI fR fAC : Addr} {fd fdBI fdLI fdR fdAC : FuncData} (F : Fun K "answers" "answers" sAns f fd) (len : mg "len" = none) (clL : Cls K CL)
    (MB : Mk K CB fBI) (mgB : mg "Bar" = some (.ref CB)) (bBI : Binds K fdBI ["self"] []) (GBI : FnOk P w K mg base CX0 3 fBI fdBI ["self"] (spBInit CB CJ))
    (ML : Mk K CL fLI) (mgL : mg "Line" = some (.ref CL)) (bLI : Binds K fdLI ["self", "calls"] []) (GLI : FnOk P w K mg base CX0 1 fLI fdLI ["self", "calls"] (spLInit CL))
    (mR : Meth K CL "is_read" fR) (bR : Binds K fdR ["self"] []) (GR : FnOk P w K mg base CX0 1 fR fdR ["self"] (spRead K CL))
    (mgA : mg "answer_call" = some (.ref fAC)) (kA : PySem.W.keepIn K (.ref fAC) = true) (bA : Binds K fdAC ["bar", "line"] []) {ok : Ux04.Call → Prop} (hok : ∀ c, ok c) (GA : FnOk P w K mg base CX0 19 fAC fdAC ["bar", "line"] (spAC K CB CJ CL ok)) :
    FnOk P w K mg base CX0 20 f fd ["calls"] (spAns K) := by
  refine F.ok scAns (fun vs H Q E h => ?_) (fun cdv A outer s H vs Q E hr h => ?_)
  · obtain ⟨a, ns, rfl, _⟩ := h
    rfl
  · obtain ⟨a, ns, rfl, hTb, ha, hask, q⟩ := h
    obtain ⟨cs, ens, hrd, h40, eans, hbig⟩ := Ma.asked_calls hask
    rw [eans] at q
    have r1 : Room 1 _ := hr.mono (by decide)
    have r2 : Room 2 _ := hr.mono (by decide)
    have r4 : Room 4 _ := hr.mono (by decide)
    refine ⟨_, pss_cons (ps_set (i := 1) scAns.nd rfl (Or.inl rfl) (pe_make0 MB GBI r4 rfl mgB bBI .nil pass0))
      (pss_cons (ps_set (i := 2) scAns.nd rfl (Or.inl rfl) (pe_make ML GLI r2 rfl mgL bLI .nil pass0 (pa_cons (pv 0) pa_nil)))
      (pss_cons (ps_set (i := 3) scAns.nd rfl (Or.inl rfl) (pe_lst pa_nil))
      (pss_cons (ps_while PassesOwn.never (pt_not (pt_val (pe_meth0 (pv 2) clL mR GR r1 bR .nil pass0)))
        (pss_cons (ps_set (i := 4) scAns.nd rfl (Or.inl rfl) (pe_call GA hr rfl mgA kA bA .nil pass0 (pa_cons (pv 1) (pa_cons (pv 2) pa_nil))))
        (pss_cons (ps_expr (pe_bm PySem.F.plainAttrs_list PySem.F.slot_list_append PySem.F.type_list_append mt_append (pv 3) (pa_cons (pe_callB call_len_seq (by rfl) len PySem.boot_len (pa_cons (pv 4) pa_nil)) pa_nil)))
        (pss_one (ps_expr (pe_bm PySem.F.plainAttrs_list PySem.F.slot_list_extend PySem.F.type_list_extend mt_extend (pv 3) (pa_cons (pv 4) pa_nil)))))))
      (pss_one (ps_ret (pv 3)))))), ?_⟩
    -- bar = Bar()
    intro b db nb ndb neb
    have hT0 : TabAt tabP lamQ H := ⟨#[], hTb, True.intro, fun pos cv e => by cases e⟩
    have hT1 : TabAt tabP lamQ (upd (upd H db (.own b)) b (.ins CB db [])) := (hT0.same (upd_same_of ndb)).same (upd_same_of (by rw [upd_ne (fun z => neb z.symm)]; exact nb))
    refine ⟨b, db, rfl, upd_same, hT1, fun H1 l j d hB nl nj nd k1 => ⟨rfl, ?_⟩⟩
    have s1 : Same H H1 := Same.made nb ndb k1
    have fr : ∀ {y : Addr}, (upd (upd H db (.own b)) b (.ins CB db [])) y = none → H y = none := fun {y} e => by
      cases e2 : H y with
      | none => rfl
      | some o => rw [upd_ne (ne_of_none e2 nb), upd_ne (ne_of_none e2 ndb), e2] at e; cases e
    -- line = Line(calls)
    refine ⟨_, rfl, ?_⟩
    intro ln dl nn ndl nel
    refine ⟨ln, dl, a, rfl, upd_same, fun H2 hln k2 => ⟨rfl, ?_⟩⟩
    have s2 : Same H1 H2 := Same.made nn ndl k2
    -- told = []
    refine ⟨by decide, fun tl htl => ?_⟩
    have s3 : Same H2 (upd H2 tl (.lst [])) := upd_same_of htl
    have s13 := (s1.trans s2).trans s3
    have hB3 := (hB.same s2).same s3
    -- the loop
    refine ⟨fun m σ H' => ∃ (done rest : List (List (List Int))) (v4 : Option V) (l : Addr), m = rest.length ∧ cs = done ++ rest ∧ σ = [some (.ref a), some (.ref b), some (.ref ln), some (.ref tl), v4] ∧ SameT tabP H H' ∧ H l = none ∧
      BarAt CB CJ H' b l j d (Ma.runC Ux04.init done) ∧ (Ma.runC Ux04.init done).old.length ≤ done.length ∧ H' ln = some (.ins CL dl (lineF a (PyFlat.put done).length)) ∧ H' tl = some (.lst ((Ma.outC Ux04.init done).map V.int)) ∧ tl ≠ l,
      ⟨cs.length, [], cs, none, l, rfl, rfl, rfl, fun y o e _ => s13 y o e, fr nl, hB3, Nat.zero_le _, s3 _ _ hln, upd_same, ?_⟩, ?_⟩
    · obtain ⟨as, hl, _⟩ := (hB.same s2).old
      exact (ne_of_none hl htl).symm
    · rintro m σ H' ⟨done, rest, v4, l, rfl, ecs, rfl, d1, d2, d3, d4, d5, d6, d7⟩
      have hc' : SqL K H' a (ns.map V.int) := sameT_seq d1 hTb ha
      refine ⟨_, rfl, ln, dl, _, rfl, d5, rfl, ln, dl, a, _, _, rfl, d5, hc', _, rfl, ?_⟩
      rw [List.length_map]
      have elen : ns.length = (PyFlat.put done).length + (PyFlat.put rest).length := by rw [ens, ecs, Ma.put_append, List.length_append]
      cases rest with
      | nil =>
        have : decide ((PyFlat.put done).length = ns.length) = true := decide_eq_true (by rw [elen]; rfl)
        rw [this]
        refine iteF ⟨_, rfl, ?_⟩
        rw [List.append_nil] at ecs
        subst ecs
        exact q H' tl d6
      | cons cl rest =>
        have hmem : cl ∈ cs := by rw [ecs]; simp
        obtain ⟨call, hR⟩ := hrd cl hmem
        have hpos : 0 < (PyFlat.put1 cl).length := by cases hR <;> simp [PyFlat.put1]
        have hlen2 : (PyFlat.put (cl :: rest)).length = (PyFlat.put1 cl).length + (PyFlat.put rest).length := by rw [PyFlat.put, List.length_append]
        have : decide ((PyFlat.put done).length = ns.length) = false := decide_eq_false (by rw [elen, hlen2]; omega)
        rw [this]
        refine iteT ?_
        have hdl : done.length ≤ 40 := by
          have := congrArg List.length ecs
          rw [List.length_append] at this; omega
        have hdr : ns.drop (PyFlat.put done).length = PyFlat.put1 cl ++ PyFlat.put rest := by
          rw [ens, ecs, Ma.put_append, List.drop_left]; rfl
        have est := Ma.stepC_eq hR (Ma.runC Ux04.init done)
        refine ⟨_, fun σ' H'' hN => ⟨rest.length, by simp, hN⟩, ?_⟩
        refine ⟨_, rfl, _, rfl, b, l, j, d, ln, dl, a, _, _, ns, _, cl, call, rfl, d3, by omega, d5, hc', hdr, hR, hok call, fun r H3 l' b1 b2 b3 b4 b5 b6 => ?_⟩
        rw [← est] at b1 b6
        have hl' : H l' = none := by
          rcases b2 with b2 | b2
          · rw [b2]; exact d2
          · exact sameT_free d1 d3.jud.choose_spec.tab b2
        have htl' : tl ≠ l' := by
          rcases b2 with b2 | b2
          · rw [b2]; exact d7
          · exact ne_of_none d6 b2
        obtain ⟨⟨db', t', hb', _⟩, ⟨as', hl0, _⟩, ⟨kvs', ⟨dj', hj'⟩, hd', _, hTb'⟩, _⟩ := id d3
        have ntl : tl ∉ [b, l, j, d, tabP, ln] := by
          simp only [List.mem_cons, List.not_mem_nil, or_false, not_or]
          exact ⟨ne_of d6 hb' (by intro z; cases z), d7, ne_of d6 hj' (by intro z; cases z), ne_of d6 hd' (by intro z; cases z), tab_ne hTb' d6 (by intro _ z; cases z), ne_of d6 d5 (by intro z; cases z)⟩
        have f6 := b3 _ _ d6 ntl
        have hrt : r ≠ tl := (ne_of_none d6 b5).symm
        -- what was there at the entry
        have nb0 : H b = none := nb
        have same3 : SameT tabP H H3 := fun y o e hyT => by
          refine b3 y o (d1 y o e hyT) ?_
          simp only [List.mem_cons, List.not_mem_nil, or_false, not_or]
          have hln0 : H ln = none := s1.free nn
          exact ⟨ne_of_none e nb, ne_of_none e d2, ne_of_none e (fr nj), ne_of_none e (fr nd), hyT, ne_of_none e hln0⟩
        have htl0 : H tl = none := (s1.trans s2).free htl
        have eout := Ma.outC_snoc Ux04.init done cl
        have hsz : (Ma.outC Ux04.init (done ++ [cl])).length ≤ 10000000 := by
          have : (Ma.outC Ux04.init cs).length = (Ma.outC Ux04.init (done ++ [cl])).length + (Ma.outC (Ma.runC Ux04.init (done ++ [cl])) rest).length := by
            rw [ecs, show done ++ cl :: rest = (done ++ [cl]) ++ rest by simp, Ma.outC_append, List.length_append]
          omega
        rw [eout, List.length_append, List.length_cons] at hsz
        -- told.append(len(answer))
        refine ⟨_, rfl, tyL f6, _, rfl, r, _, rfl, .inl (SqL.of b6), tl, _, _, rfl, rfl, f6, ?_, ?_⟩
        · rw [List.length_map]; exact Nat.lt_of_le_of_lt (show _ ≤ 10000000 by omega) (by decide)
        rw [List.length_map]
        -- told.extend(answer)
        refine ⟨_, rfl, tyL upd_same, _, rfl, tl, r, _, _, rfl, rfl, upd_same, by rw [upd_ne hrt]; exact b6, ?_, ?_⟩
        · rw [List.length_append, List.length_map, List.length_map, List.length_singleton]
          exact Nat.le_trans (show _ ≤ 10000000 by omega) (by decide)
        rw [upd_upd]
        have hrun := Ma.runC_snoc Ux04.init done cl
        refine ⟨done ++ [cl], rest, _, l', rfl, by rw [ecs]; simp, rfl, fun y o e hyT => ?_, hl', ?_, ?_, ?_, ?_, htl'⟩
        · rw [upd_ne (ne_of_none e htl0)]; exact same3 y o e hyT
        · rw [hrun]; exact b1.other f6 htl'
        · rw [hrun, est, List.length_append]
          have := Ma.old_len (Ma.runC Ux04.init done) call
          simp; omega
        · rw [upd_ne (ne_of b4 f6 (by intro z; cases z)), b4, Ma.put_append]
          have : PyFlat.put [cl] = PyFlat.put1 cl := by rw [PyFlat.put, PyFlat.put, List.append_nil]
          rw [this, List.length_append]
        · rw [upd_same, eout, List.map_append, List.map_cons, List.append_assoc]
          rfl
end
end Bb

end

set_option Elab.async false
set_option linter.all false
set_option maxRecDepth 100000
set_option maxHeartbeats 4000000
namespace Bb
open PySem PySem.Spec PyProof.Rows L2
theorem all_mk {P : Program} {w : World} {K : PySem.W.Frag} {h : Heap} {mg : Str → Option Value} {fa : Addr} (X : K.In h) (G : h.Ns mainGlobals mg) (hfa : mg "answers" = some (.ref fa))
    {f0 : Addr} {od0 an0 : Option Addr} {sl0 : Array (Option Value)} {oc0 kV0 dc0 pm0 cd0 ct0 : Value}
    {f1 : Addr} {od1 an1 : Option Addr} {sl1 : Array (Option Value)} {oc1 kV1 dc1 pm1 cd1 ct1 : Value}
    {f2 : Addr} {od2 an2 : Option Addr} {sl2 : Array (Option Value)} {oc2 kV2 dc2 pm2 cd2 ct2 : Value}
    {f3 : Addr} {od3 an3 : Option Addr} {sl3 : Array (Option Value)} {oc3 kV3 dc3 pm3 cd3 ct3 : Value}
    {f4 : Addr} {od4 an4 : Option Addr} {sl4 : Array (Option Value)} {oc4 kV4 dc4 pm4 cd4 ct4 : Value}
    {f5 : Addr} {od5 an5 : Option Addr} {sl5 : Array (Option Value)} {oc5 kV5 dc5 pm5 cd5 ct5 : Value}
    {f6 : Addr} {od6 an6 : Option Addr} {sl6 : Array (Option Value)} {oc6 kV6 dc6 pm6 cd6 ct6 : Value}
    {f7 : Addr} {od7 an7 : Option Addr} {sl7 : Array (Option Value)} {oc7 kV7 dc7 pm7 cd7 ct7 : Value}
    {f8 : Addr} {od8 an8 : Option Addr} {sl8 : Array (Option Value)} {oc8 kV8 dc8 pm8 cd8 ct8 : Value}
    {f9 : Addr} {od9 an9 : Option Addr} {sl9 : Array (Option Value)} {oc9 kV9 dc9 pm9 cd9 ct9 : Value}
    {f10 : Addr} {od10 an10 : Option Addr} {sl10 : Array (Option Value)} {oc10 kV10 dc10 pm10 cd10 ct10 : Value}
    {f11 : Addr} {od11 an11 : Option Addr} {sl11 : Array (Option Value)} {oc11 kV11 dc11 pm11 cd11 ct11 : Value}
    {f12 : Addr} {od12 an12 : Option Addr} {sl12 : Array (Option Value)} {oc12 kV12 dc12 pm12 cd12 ct12 : Value}
    {f13 : Addr} {od13 an13 : Option Addr} {sl13 : Array (Option Value)} {oc13 kV13 dc13 pm13 cd13 ct13 : Value}
    {f14 : Addr} {od14 an14 : Option Addr} {sl14 : Array (Option Value)} {oc14 kV14 dc14 pm14 ct14 : Value}
    {f15 : Addr} {od15 an15 : Option Addr} {sl15 : Array (Option Value)} {oc15 kV15 dc15 pm15 cd15 ct15 : Value}
    {f16 : Addr} {od16 an16 : Option Addr} {sl16 : Array (Option Value)} {oc16 kV16 dc16 pm16 cd16 ct16 : Value}
    {f17 : Addr} {od17 an17 : Option Addr} {sl17 : Array (Option Value)} {oc17 kV17 dc17 pm17 cd17 ct17 : Value}
    {f18 : Addr} {od18 an18 : Option Addr} {sl18 : Array (Option Value)} {oc18 kV18 dc18 pm18 cd18 ct18 : Value}
    {f19 : Addr} {od19 an19 : Option Addr} {sl19 : Array (Option Value)} {oc19 kV19 dc19 pm19 cd19 ct19 : Value}
    {f20 : Addr} {od20 an20 : Option Addr} {sl20 : Array (Option Value)} {oc20 kV20 dc20 pm20 cd20 ct20 : Value}
    {f21 : Addr} {od21 an21 : Option Addr} {sl21 : Array (Option Value)} {oc21 kV21 dc21 pm21 cd21 ct21 : Value}
    {f22 : Addr} {od22 an22 : Option Addr} {sl22 : Array (Option Value)} {oc22 kV22 dc22 pm22 cd22 ct22 : Value}
    {f23 : Addr} {od23 an23 : Option Addr} {sl23 : Array (Option Value)} {oc23 kV23 dc23 pm23 cd23 ct23 : Value}
    {f24 : Addr} {od24 an24 : Option Addr} {sl24 : Array (Option Value)} {oc24 kV24 dc24 pm24 cd24 ct24 : Value}
    {f25 : Addr} {od25 an25 : Option Addr} {sl25 : Array (Option Value)} {oc25 kV25 dc25 pm25 cd25 ct25 : Value}
    {f26 : Addr} {od26 an26 : Option Addr} {sl26 : Array (Option Value)} {oc26 kV26 dc26 pm26 cd26 ct26 : Value}
    {f27 : Addr} {od27 an27 : Option Addr} {sl27 : Array (Option Value)} {oc27 kV27 dc27 pm27 cd27 ct27 : Value}
    {f28 : Addr} {od28 an28 : Option Addr} {sl28 : Array (Option Value)} {oc28 kV28 dc28 pm28 cd28 ct28 : Value}
    {f29 : Addr} {od29 an29 : Option Addr} {sl29 : Array (Option Value)} {oc29 kV29 dc29 pm29 cd29 ct29 : Value}
    {f30 : Addr} {od30 an30 : Option Addr} {sl30 : Array (Option Value)} {oc30 kV30 dc30 pm30 cd30 ct30 : Value}
    {f31 : Addr} {od31 an31 : Option Addr} {sl31 : Array (Option Value)} {oc31 kV31 dc31 pm31 cd31 ct31 : Value}
    {f32 : Addr} {od32 an32 : Option Addr} {sl32 : Array (Option Value)} {oc32 kV32 dc32 pm32 cd32 ct32 : Value}
    {cC : Addr}
    {CJ : Addr}
    {CB : Addr}
    {CL : Addr}
    {t0 : Tok}
    {t1 : Tok}
    {t2 : Tok}
    {t3 : Tok}
    {t4 : Tok}
    {t5 : Tok}
    {t6 : Tok}
    {t7 : Tok}
    {t8 : Tok}
    {t9 : Tok}
    {t10 : Tok}
    {t11 : Tok}
    {t12 : Tok}
    {t13 : Tok}
    {t14 : Tok}
    {t15 : Tok}
    {t16 : Tok}
    {t17 : Tok}
    (aCJ : PySem.W.nsIn K mainGlobals "Judge" = some (some (.ref CJ)))
    (aCB : PySem.W.nsIn K mainGlobals "Bar" = some (some (.ref CB)))
    (aCL : PySem.W.nsIn K mainGlobals "Line" = some (some (.ref CL)))
    (a0 : PySem.W.nsIn K mainGlobals "is_shape" = some (some (.ref f0)))
    (l0 : K.lookup f0 = some ⟨oc0, od0, .func (PySem.W.fnOf "is_shape" "is_shape" (defArgs sIsShape) (defBody sIsShape) (defScope sIsShape) .none kV0 dc0 pm0 an0 (cd0) ct0), sl0⟩)
    (c0 : PySem.W.codeIn K (cd0) "is_shape" = true)
    (k0 : PySem.W.keepIn K (.ref f0) = true)
    (a1 : PySem.W.nsIn K mainGlobals "has_square" = some (some (.ref f1)))
    (l1 : K.lookup f1 = some ⟨oc1, od1, .func (PySem.W.fnOf "has_square" "has_square" (defArgs sHas) (defBody sHas) (defScope sHas) .none kV1 dc1 pm1 an1 (cd1) ct1), sl1⟩)
    (c1 : PySem.W.codeIn K (cd1) "has_square" = true)
    (k1 : PySem.W.keepIn K (.ref f1) = true)
    (a2 : PySem.W.nsIn K mainGlobals "left_by_bite" = some (some (.ref f2)))
    (l2 : K.lookup f2 = some ⟨oc2, od2, .func (PySem.W.fnOf "left_by_bite" "left_by_bite" (defArgs sLeft) (defBody sLeft) (defScope sLeft) .none kV2 dc2 pm2 an2 (cd2) ct2), sl2⟩)
    (c2 : PySem.W.codeIn K (cd2) "left_by_bite" = true)
    (k2 : PySem.W.keepIn K (.ref f2) = true)
    (a3 : PySem.W.nsIn K mainGlobals "bites_at" = some (some (.ref f3)))
    (l3 : K.lookup f3 = some ⟨oc3, od3, .func (PySem.W.fnOf "bites_at" "bites_at" (defArgs sBites) (defBody sBites) (defScope sBites) .none kV3 dc3 pm3 an3 (cd3) ct3), sl3⟩)
    (c3 : PySem.W.codeIn K (cd3) "bites_at" = true)
    (k3 : PySem.W.keepIn K (.ref f3) = true)
    (a4 : PySem.W.nsIn K mainGlobals "with_one_more_row" = some (some (.ref f4)))
    (l4 : K.lookup f4 = some ⟨oc4, od4, .func (PySem.W.fnOf "with_one_more_row" "with_one_more_row" (defArgs sGrow) (defBody sGrow) (defScope sGrow) .none kV4 dc4 pm4 an4 (cd4) ct4), sl4⟩)
    (c4 : PySem.W.codeIn K (cd4) "with_one_more_row" = true)
    (k4 : PySem.W.keepIn K (.ref f4) = true)
    (a5 : PySem.W.nsIn K mainGlobals "shapes_within" = some (some (.ref f5)))
    (l5 : K.lookup f5 = some ⟨oc5, od5, .func (PySem.W.fnOf "shapes_within" "shapes_within" (defArgs sWithin) (defBody sWithin) (defScope sWithin) .none kV5 dc5 pm5 an5 (cd5) ct5), sl5⟩)
    (c5 : PySem.W.codeIn K (cd5) "shapes_within" = true)
    (k5 : PySem.W.keepIn K (.ref f5) = true)
    (a6 : PySem.W.nsIn K mainGlobals "rows_and_squares_exchanged" = some (some (.ref f6)))
    (l6 : K.lookup f6 = some ⟨oc6, od6, .func (PySem.W.fnOf "rows_and_squares_exchanged" "rows_and_squares_exchanged" (defArgs sExch) (defBody sExch) (defScope sExch) .none kV6 dc6 pm6 an6 (cd6) ct6), sl6⟩)
    (c6 : PySem.W.codeIn K (cd6) "rows_and_squares_exchanged" = true)
    (k6 : PySem.W.keepIn K (.ref f6) = true)
    (a7 : PySem.W.nsIn K mainGlobals "answer_call" = some (some (.ref f7)))
    (l7 : K.lookup f7 = some ⟨oc7, od7, .func (PySem.W.fnOf "answer_call" "answer_call" (defArgs sAC) (defBody sAC) (defScope sAC) .none kV7 dc7 pm7 an7 (cd7) ct7), sl7⟩)
    (c7 : PySem.W.codeIn K (cd7) "answer_call" = true)
    (k7 : PySem.W.keepIn K (.ref f7) = true)
    (a8 : PySem.W.nsIn K mainGlobals "answers" = some (some (.ref f8)))
    (l8 : K.lookup f8 = some ⟨oc8, od8, .func (PySem.W.fnOf "answers" "answers" (defArgs sAns) (defBody sAns) (defScope sAns) .none kV8 dc8 pm8 an8 (cd8) ct8), sl8⟩)
    (c8 : PySem.W.codeIn K (cd8) "answers" = true)
    (k8 : PySem.W.keepIn K (.ref f8) = true)
    (a9 : PySem.W.findIn K (.ref CJ) "__init__" = some (some (.ref f9)))
    (i9 : PySem.W.isFn K (.ref f9) = true)
    (l9 : K.lookup f9 = some ⟨oc9, od9, .func (PySem.W.fnOf "__init__" "Judge.__init__" (defArgs sJInit) (defBody sJInit) (defScope sJInit) .none kV9 dc9 pm9 an9 (cd9) ct9), sl9⟩)
    (c9 : PySem.W.codeIn K (cd9) "Judge.__init__" = true)
    (k9 : PySem.W.keepIn K (.ref f9) = true)
    (a10 : PySem.W.findIn K (.ref CJ) "length" = some (some (.ref f10)))
    (i10 : PySem.W.isFn K (.ref f10) = true)
    (l10 : K.lookup f10 = some ⟨oc10, od10, .func (PySem.W.fnOf "length" "Judge.length" (defArgs sJLen) (defBody sJLen) (defScope sJLen) .none kV10 dc10 pm10 an10 (cd10) ct10), sl10⟩)
    (c10 : PySem.W.codeIn K (cd10) "Judge.length" = true)
    (k10 : PySem.W.keepIn K (.ref f10) = true)
    (a11 : PySem.W.findIn K (.ref CJ) "length_behind" = some (some (.ref f11)))
    (i11 : PySem.W.isFn K (.ref f11) = true)
    (l11 : K.lookup f11 = some ⟨oc11, od11, .func (PySem.W.fnOf "length_behind" "Judge.length_behind" (defArgs sJBeh) (defBody sJBeh) (defScope sJBeh) .none kV11 dc11 pm11 an11 (cd11) ct11), sl11⟩)
    (c11 : PySem.W.codeIn K (cd11) "Judge.length_behind" = true)
    (k11 : PySem.W.keepIn K (.ref f11) = true)
    (a12 : PySem.W.findIn K (.ref CJ) "is_lost" = some (some (.ref f12)))
    (i12 : PySem.W.isFn K (.ref f12) = true)
    (l12 : K.lookup f12 = some ⟨oc12, od12, .func (PySem.W.fnOf "is_lost" "Judge.is_lost" (defArgs sJLost) (defBody sJLost) (defScope sJLost) .none kV12 dc12 pm12 an12 (cd12) ct12), sl12⟩)
    (c12 : PySem.W.codeIn K (cd12) "Judge.is_lost" = true)
    (k12 : PySem.W.keepIn K (.ref f12) = true)
    (a13 : PySem.W.findIn K (.ref CJ) "good_bites" = some (some (.ref f13)))
    (i13 : PySem.W.isFn K (.ref f13) = true)
    (l13 : K.lookup f13 = some ⟨oc13, od13, .func (PySem.W.fnOf "good_bites" "Judge.good_bites" (defArgs sJGoods) (defBody sJGoods) (defScope sJGoods) .none kV13 dc13 pm13 an13 (cd13) ct13), sl13⟩)
    (c13 : PySem.W.codeIn K (cd13) "Judge.good_bites" = true)
    (k13 : PySem.W.keepIn K (.ref f13) = true)
    (a14 : PySem.W.findIn K (.ref CJ) "best_bite" = some (some (.ref f14)))
    (i14 : PySem.W.isFn K (.ref f14) = true)
    (l14 : K.lookup f14 = some ⟨oc14, od14, .func (PySem.W.fnOf "best_bite" "Judge.best_bite" (defArgs sJBest) (defBody sJBest) (defScope sJBest) .none kV14 dc14 pm14 an14 (.ref cC) ct14), sl14⟩)
    (c14 : PySem.W.codeIn K (.ref cC) "Judge.best_bite" = true)
    (k14 : PySem.W.keepIn K (.ref f14) = true)
    (a15 : PySem.W.findIn K (.ref CB) "__init__" = some (some (.ref f15)))
    (i15 : PySem.W.isFn K (.ref f15) = true)
    (l15 : K.lookup f15 = some ⟨oc15, od15, .func (PySem.W.fnOf "__init__" "Bar.__init__" (defArgs sBInit) (defBody sBInit) (defScope sBInit) .none kV15 dc15 pm15 an15 (cd15) ct15), sl15⟩)
    (c15 : PySem.W.codeIn K (cd15) "Bar.__init__" = true)
    (k15 : PySem.W.keepIn K (.ref f15) = true)
    (a16 : PySem.W.findIn K (.ref CB) "lay_whole" = some (some (.ref f16)))
    (i16 : PySem.W.isFn K (.ref f16) = true)
    (l16 : K.lookup f16 = some ⟨oc16, od16, .func (PySem.W.fnOf "lay_whole" "Bar.lay_whole" (defArgs sBWhole) (defBody sBWhole) (defScope sBWhole) .none kV16 dc16 pm16 an16 (cd16) ct16), sl16⟩)
    (c16 : PySem.W.codeIn K (cd16) "Bar.lay_whole" = true)
    (k16 : PySem.W.keepIn K (.ref f16) = true)
    (a17 : PySem.W.findIn K (.ref CB) "lay_shape" = some (some (.ref f17)))
    (i17 : PySem.W.isFn K (.ref f17) = true)
    (l17 : K.lookup f17 = some ⟨oc17, od17, .func (PySem.W.fnOf "lay_shape" "Bar.lay_shape" (defArgs sBShape) (defBody sBShape) (defScope sBShape) .none kV17 dc17 pm17 an17 (cd17) ct17), sl17⟩)
    (c17 : PySem.W.codeIn K (cd17) "Bar.lay_shape" = true)
    (k17 : PySem.W.keepIn K (.ref f17) = true)
    (a18 : PySem.W.findIn K (.ref CB) "bite" = some (some (.ref f18)))
    (i18 : PySem.W.isFn K (.ref f18) = true)
    (l18 : K.lookup f18 = some ⟨oc18, od18, .func (PySem.W.fnOf "bite" "Bar.bite" (defArgs sBBite) (defBody sBBite) (defScope sBBite) .none kV18 dc18 pm18 an18 (cd18) ct18), sl18⟩)
    (c18 : PySem.W.codeIn K (cd18) "Bar.bite" = true)
    (k18 : PySem.W.keepIn K (.ref f18) = true)
    (a19 : PySem.W.findIn K (.ref CB) "back" = some (some (.ref f19)))
    (i19 : PySem.W.isFn K (.ref f19) = true)
    (l19 : K.lookup f19 = some ⟨oc19, od19, .func (PySem.W.fnOf "back" "Bar.back" (defArgs sBBack) (defBody sBBack) (defScope sBBack) .none kV19 dc19 pm19 an19 (cd19) ct19), sl19⟩)
    (c19 : PySem.W.codeIn K (cd19) "Bar.back" = true)
    (k19 : PySem.W.keepIn K (.ref f19) = true)
    (a20 : PySem.W.findIn K (.ref CB) "shows" = some (some (.ref f20)))
    (i20 : PySem.W.isFn K (.ref f20) = true)
    (l20 : K.lookup f20 = some ⟨oc20, od20, .func (PySem.W.fnOf "shows" "Bar.shows" (defArgs sBShows) (defBody sBShows) (defScope sBShows) .none kV20 dc20 pm20 an20 (cd20) ct20), sl20⟩)
    (c20 : PySem.W.codeIn K (cd20) "Bar.shows" = true)
    (k20 : PySem.W.keepIn K (.ref f20) = true)
    (a21 : PySem.W.findIn K (.ref CB) "won" = some (some (.ref f21)))
    (i21 : PySem.W.isFn K (.ref f21) = true)
    (l21 : K.lookup f21 = some ⟨oc21, od21, .func (PySem.W.fnOf "won" "Bar.won" (defArgs sBWon) (defBody sBWon) (defScope sBWon) .none kV21 dc21 pm21 an21 (cd21) ct21), sl21⟩)
    (c21 : PySem.W.codeIn K (cd21) "Bar.won" = true)
    (k21 : PySem.W.keepIn K (.ref f21) = true)
    (a22 : PySem.W.findIn K (.ref CB) "good" = some (some (.ref f22)))
    (i22 : PySem.W.isFn K (.ref f22) = true)
    (l22 : K.lookup f22 = some ⟨oc22, od22, .func (PySem.W.fnOf "good" "Bar.good" (defArgs sBGood) (defBody sBGood) (defScope sBGood) .none kV22 dc22 pm22 an22 (cd22) ct22), sl22⟩)
    (c22 : PySem.W.codeIn K (cd22) "Bar.good" = true)
    (k22 : PySem.W.keepIn K (.ref f22) = true)
    (a23 : PySem.W.findIn K (.ref CB) "long" = some (some (.ref f23)))
    (i23 : PySem.W.isFn K (.ref f23) = true)
    (l23 : K.lookup f23 = some ⟨oc23, od23, .func (PySem.W.fnOf "long" "Bar.long" (defArgs sBLong) (defBody sBLong) (defScope sBLong) .none kV23 dc23 pm23 an23 (cd23) ct23), sl23⟩)
    (c23 : PySem.W.codeIn K (cd23) "Bar.long" = true)
    (k23 : PySem.W.keepIn K (.ref f23) = true)
    (a24 : PySem.W.findIn K (.ref CB) "play" = some (some (.ref f24)))
    (i24 : PySem.W.isFn K (.ref f24) = true)
    (l24 : K.lookup f24 = some ⟨oc24, od24, .func (PySem.W.fnOf "play" "Bar.play" (defArgs sBPlay) (defBody sBPlay) (defScope sBPlay) .none kV24 dc24 pm24 an24 (cd24) ct24), sl24⟩)
    (c24 : PySem.W.codeIn K (cd24) "Bar.play" = true)
    (k24 : PySem.W.keepIn K (.ref f24) = true)
    (a25 : PySem.W.findIn K (.ref CB) "under" = some (some (.ref f25)))
    (i25 : PySem.W.isFn K (.ref f25) = true)
    (l25 : K.lookup f25 = some ⟨oc25, od25, .func (PySem.W.fnOf "under" "Bar.under" (defArgs sBUnder) (defBody sBUnder) (defScope sBUnder) .none kV25 dc25 pm25 an25 (cd25) ct25), sl25⟩)
    (c25 : PySem.W.codeIn K (cd25) "Bar.under" = true)
    (k25 : PySem.W.keepIn K (.ref f25) = true)
    (a26 : PySem.W.findIn K (.ref CB) "lost" = some (some (.ref f26)))
    (i26 : PySem.W.isFn K (.ref f26) = true)
    (l26 : K.lookup f26 = some ⟨oc26, od26, .func (PySem.W.fnOf "lost" "Bar.lost" (defArgs sBLost) (defBody sBLost) (defScope sBLost) .none kV26 dc26 pm26 an26 (cd26) ct26), sl26⟩)
    (c26 : PySem.W.codeIn K (cd26) "Bar.lost" = true)
    (k26 : PySem.W.keepIn K (.ref f26) = true)
    (a27 : PySem.W.findIn K (.ref CB) "turned" = some (some (.ref f27)))
    (i27 : PySem.W.isFn K (.ref f27) = true)
    (l27 : K.lookup f27 = some ⟨oc27, od27, .func (PySem.W.fnOf "turned" "Bar.turned" (defArgs sBTurn) (defBody sBTurn) (defScope sBTurn) .none kV27 dc27 pm27 an27 (cd27) ct27), sl27⟩)
    (c27 : PySem.W.codeIn K (cd27) "Bar.turned" = true)
    (k27 : PySem.W.keepIn K (.ref f27) = true)
    (a28 : PySem.W.findIn K (.ref CB) "lost_among" = some (some (.ref f28)))
    (i28 : PySem.W.isFn K (.ref f28) = true)
    (l28 : K.lookup f28 = some ⟨oc28, od28, .func (PySem.W.fnOf "lost_among" "Bar.lost_among" (defArgs sBAmong) (defBody sBAmong) (defScope sBAmong) .none kV28 dc28 pm28 an28 (cd28) ct28), sl28⟩)
    (c28 : PySem.W.codeIn K (cd28) "Bar.lost_among" = true)
    (k28 : PySem.W.keepIn K (.ref f28) = true)
    (a29 : PySem.W.findIn K (.ref CL) "__init__" = some (some (.ref f29)))
    (i29 : PySem.W.isFn K (.ref f29) = true)
    (l29 : K.lookup f29 = some ⟨oc29, od29, .func (PySem.W.fnOf "__init__" "Line.__init__" (defArgs sLInit) (defBody sLInit) (defScope sLInit) .none kV29 dc29 pm29 an29 (cd29) ct29), sl29⟩)
    (c29 : PySem.W.codeIn K (cd29) "Line.__init__" = true)
    (k29 : PySem.W.keepIn K (.ref f29) = true)
    (a30 : PySem.W.findIn K (.ref CL) "is_read" = some (some (.ref f30)))
    (i30 : PySem.W.isFn K (.ref f30) = true)
    (l30 : K.lookup f30 = some ⟨oc30, od30, .func (PySem.W.fnOf "is_read" "Line.is_read" (defArgs sLRead) (defBody sLRead) (defScope sLRead) .none kV30 dc30 pm30 an30 (cd30) ct30), sl30⟩)
    (c30 : PySem.W.codeIn K (cd30) "Line.is_read" = true)
    (k30 : PySem.W.keepIn K (.ref f30) = true)
    (a31 : PySem.W.findIn K (.ref CL) "take" = some (some (.ref f31)))
    (i31 : PySem.W.isFn K (.ref f31) = true)
    (l31 : K.lookup f31 = some ⟨oc31, od31, .func (PySem.W.fnOf "take" "Line.take" (defArgs sLTake) (defBody sLTake) (defScope sLTake) .none kV31 dc31 pm31 an31 (cd31) ct31), sl31⟩)
    (c31 : PySem.W.codeIn K (cd31) "Line.take" = true)
    (k31 : PySem.W.keepIn K (.ref f31) = true)
    (a32 : PySem.W.findIn K (.ref CL) "take_list" = some (some (.ref f32)))
    (i32 : PySem.W.isFn K (.ref f32) = true)
    (l32 : K.lookup f32 = some ⟨oc32, od32, .func (PySem.W.fnOf "take_list" "Line.take_list" (defArgs sLList) (defBody sLList) (defScope sLList) .none kV32 dc32 pm32 an32 (cd32) ct32), sl32⟩)
    (c32 : PySem.W.codeIn K (cd32) "Line.take_list" = true)
    (k32 : PySem.W.keepIn K (.ref f32) = true)
    (pgCJ : PySem.W.plainGet K CJ Str.empty = true)
    (hdCJ : PySem.W.hasDictIn K CJ = true)
    (poCJ : PySem.W.plainOver K CJ = true)
    (saCJ : PySem.W.findIn K (.ref CJ) "__setattr__" = some (some (.builtin "object.__setattr__")))
    (mkCJ : PySem.W.makesIn K CJ = true)
    (kcCJ : PySem.W.keepIn K (.ref CJ) = true)
    (nCJ_lengths : PySem.W.findIn K (.ref CJ) "lengths" = some none)
    (pgCB : PySem.W.plainGet K CB Str.empty = true)
    (hdCB : PySem.W.hasDictIn K CB = true)
    (poCB : PySem.W.plainOver K CB = true)
    (saCB : PySem.W.findIn K (.ref CB) "__setattr__" = some (some (.builtin "object.__setattr__")))
    (mkCB : PySem.W.makesIn K CB = true)
    (kcCB : PySem.W.keepIn K (.ref CB) = true)
    (nCB_shape : PySem.W.findIn K (.ref CB) "shape" = some none)
    (nCB_earlier : PySem.W.findIn K (.ref CB) "earlier" = some none)
    (nCB_judge : PySem.W.findIn K (.ref CB) "judge" = some none)
    (pgCL : PySem.W.plainGet K CL Str.empty = true)
    (hdCL : PySem.W.hasDictIn K CL = true)
    (poCL : PySem.W.plainOver K CL = true)
    (saCL : PySem.W.findIn K (.ref CL) "__setattr__" = some (some (.builtin "object.__setattr__")))
    (mkCL : PySem.W.makesIn K CL = true)
    (kcCL : PySem.W.keepIn K (.ref CL) = true)
    (nCL_calls : PySem.W.findIn K (.ref CL) "calls" = some none)
    (nCL_place : PySem.W.findIn K (.ref CL) "place" = some none)
    (q0 : PySem.W.nsIn K mainGlobals "BAR" = some (some (.int (0) t0)))
    (q1 : PySem.W.nsIn K mainGlobals "SHAPE" = some (some (.int (1) t1)))
    (q2 : PySem.W.nsIn K mainGlobals "BITE" = some (some (.int (2) t2)))
    (q3 : PySem.W.nsIn K mainGlobals "BACK" = some (some (.int (3) t3)))
    (q4 : PySem.W.nsIn K mainGlobals "SHOWS" = some (some (.int (4) t4)))
    (q5 : PySem.W.nsIn K mainGlobals "WON" = some (some (.int (5) t5)))
    (q6 : PySem.W.nsIn K mainGlobals "GOOD" = some (some (.int (6) t6)))
    (q7 : PySem.W.nsIn K mainGlobals "LONG" = some (some (.int (7) t7)))
    (q8 : PySem.W.nsIn K mainGlobals "PLAY" = some (some (.int (8) t8)))
    (q9 : PySem.W.nsIn K mainGlobals "UNDER" = some (some (.int (9) t9)))
    (q10 : PySem.W.nsIn K mainGlobals "LOST" = some (some (.int (10) t10)))
    (q11 : PySem.W.nsIn K mainGlobals "TURNED" = some (some (.int (11) t11)))
    (q12 : PySem.W.nsIn K mainGlobals "MOST_ROWS" = some (some (.int (5) t12)))
    (q13 : PySem.W.nsIn K mainGlobals "MOST_SQUARES" = some (some (.int (6) t13)))
    (q14 : PySem.W.nsIn K mainGlobals "WRONG_SIZE" = some (some (.int (-1) t14)))
    (q15 : PySem.W.nsIn K mainGlobals "NO_SUCH_SQUARE" = some (some (.int (-2) t15)))
    (q16 : PySem.W.nsIn K mainGlobals "NOTHING_LEFT" = some (some (.int (-6) t16)))
    (q17 : PySem.W.nsIn K mainGlobals "NOBODY_HAS_BITTEN" = some (some (.int (-9) t17)))
    (z_len : PySem.W.nsIn K mainGlobals "len" = some none)
    (z_min : PySem.W.nsIn K mainGlobals "min" = some none)
    (z_max : PySem.W.nsIn K mainGlobals "max" = some none)
    (z_range : PySem.W.nsIn K mainGlobals "range" = some none)
    (z_tuple : PySem.W.nsIn K mainGlobals "tuple" = some none)
    (z_sum : PySem.W.nsIn K mainGlobals "sum" = some none)
    (z_list : PySem.W.nsIn K mainGlobals "list" = some none)
    (hHd : PySem.W.codeHdIn K cC tabP = true)
    : ∃ fd : FuncData, (∀ (s : Shared) (us : List Value), us.length = (["calls"] : List Str).length → BindsTo s fd ⟨us, []⟩ ((["calls"] : List Str).zip us)) ∧ ∀ base : Heap, K.In base → base.Ns mainGlobals mg → BMod1 mg base → FnOk P w K mg base CX0 20 fa fd ["calls"] (spAns K) := by
  have e := hfa.symm.trans (PySem.W.mg_of X G a8)
  cases e
  have F0 := fun_mk (st := sIsShape) l0 c0 k0
  have b0 := F0.binds (ps := ["rows"]) fun _ _ _ _ _ _ us hl => match us, hl with | [_], _ => rfl
  have m0 := PySem.W.mg_of X G a0
  have F1 := fun_mk (st := sHas) l1 c1 k1
  have b1 := F1.binds (ps := ["shape", "row", "square"]) fun _ _ _ _ _ _ us hl => match us, hl with | [_, _, _], _ => rfl
  have m1 := PySem.W.mg_of X G a1
  have F2 := fun_mk (st := sLeft) l2 c2 k2
  have b2 := F2.binds (ps := ["shape", "row", "square"]) fun _ _ _ _ _ _ us hl => match us, hl with | [_, _, _], _ => rfl
  have m2 := PySem.W.mg_of X G a2
  have F3 := fun_mk (st := sBites) l3 c3 k3
  have b3 := F3.binds (ps := ["shape"]) fun _ _ _ _ _ _ us hl => match us, hl with | [_], _ => rfl
  have m3 := PySem.W.mg_of X G a3
  have F4 := fun_mk (st := sGrow) l4 c4 k4
  have b4 := F4.binds (ps := ["shapes", "longest"]) fun _ _ _ _ _ _ us hl => match us, hl with | [_, _], _ => rfl
  have m4 := PySem.W.mg_of X G a4
  have F5 := fun_mk (st := sWithin) l5 c5 k5
  have b5 := F5.binds (ps := ["shape"]) fun _ _ _ _ _ _ us hl => match us, hl with | [_], _ => rfl
  have m5 := PySem.W.mg_of X G a5
  have F6 := fun_mk (st := sExch) l6 c6 k6
  have b6 := F6.binds (ps := ["shape"]) fun _ _ _ _ _ _ us hl => match us, hl with | [_], _ => rfl
  have m6 := PySem.W.mg_of X G a6
  have F7 := fun_mk (st := sAC) l7 c7 k7
  have b7 := F7.binds (ps := ["bar", "line"]) fun _ _ _ _ _ _ us hl => match us, hl with | [_, _], _ => rfl
  have m7 := PySem.W.mg_of X G a7
  have F8 := fun_mk (st := sAns) l8 c8 k8
  have b8 := F8.binds (ps := ["calls"]) fun _ _ _ _ _ _ us hl => match us, hl with | [_], _ => rfl
  have m8 := PySem.W.mg_of X G a8
  have F9 := fun_mk (st := sJInit) l9 c9 k9
  have b9 := F9.binds (ps := ["self"]) fun _ _ _ _ _ _ us hl => match us, hl with | [_], _ => rfl
  have m9 : Meth K CJ "__init__" f9 := ⟨a9, i9, k9⟩
  have F10 := fun_mk (st := sJLen) l10 c10 k10
  have b10 := F10.binds (ps := ["self", "shape"]) fun _ _ _ _ _ _ us hl => match us, hl with | [_, _], _ => rfl
  have m10 : Meth K CJ "length" f10 := ⟨a10, i10, k10⟩
  have F11 := fun_mk (st := sJBeh) l11 c11 k11
  have b11 := F11.binds (ps := ["self", "shape", "bite"]) fun _ _ _ _ _ _ us hl => match us, hl with | [_, _, _], _ => rfl
  have m11 : Meth K CJ "length_behind" f11 := ⟨a11, i11, k11⟩
  have F12 := fun_mk (st := sJLost) l12 c12 k12
  have b12 := F12.binds (ps := ["self", "shape"]) fun _ _ _ _ _ _ us hl => match us, hl with | [_, _], _ => rfl
  have m12 : Meth K CJ "is_lost" f12 := ⟨a12, i12, k12⟩
  have F13 := fun_mk (st := sJGoods) l13 c13 k13
  have b13 := F13.binds (ps := ["self", "shape"]) fun _ _ _ _ _ _ us hl => match us, hl with | [_, _], _ => rfl
  have m13 : Meth K CJ "good_bites" f13 := ⟨a13, i13, k13⟩
  have F14 := fun_mk (st := sJBest) l14 c14 k14
  have b14 := F14.binds (ps := ["self", "shape"]) fun _ _ _ _ _ _ us hl => match us, hl with | [_, _], _ => rfl
  have m14 : Meth K CJ "best_bite" f14 := ⟨a14, i14, k14⟩
  have F15 := fun_mk (st := sBInit) l15 c15 k15
  have b15 := F15.binds (ps := ["self"]) fun _ _ _ _ _ _ us hl => match us, hl with | [_], _ => rfl
  have m15 : Meth K CB "__init__" f15 := ⟨a15, i15, k15⟩
  have F16 := fun_mk (st := sBWhole) l16 c16 k16
  have b16 := F16.binds (ps := ["self", "rows", "squares"]) fun _ _ _ _ _ _ us hl => match us, hl with | [_, _, _], _ => rfl
  have m16 : Meth K CB "lay_whole" f16 := ⟨a16, i16, k16⟩
  have F17 := fun_mk (st := sBShape) l17 c17 k17
  have b17 := F17.binds (ps := ["self", "rows"]) fun _ _ _ _ _ _ us hl => match us, hl with | [_, _], _ => rfl
  have m17 : Meth K CB "lay_shape" f17 := ⟨a17, i17, k17⟩
  have F18 := fun_mk (st := sBBite) l18 c18 k18
  have b18 := F18.binds (ps := ["self", "row", "square"]) fun _ _ _ _ _ _ us hl => match us, hl with | [_, _, _], _ => rfl
  have m18 : Meth K CB "bite" f18 := ⟨a18, i18, k18⟩
  have F19 := fun_mk (st := sBBack) l19 c19 k19
  have b19 := F19.binds (ps := ["self"]) fun _ _ _ _ _ _ us hl => match us, hl with | [_], _ => rfl
  have m19 : Meth K CB "back" f19 := ⟨a19, i19, k19⟩
  have F20 := fun_mk (st := sBShows) l20 c20 k20
  have b20 := F20.binds (ps := ["self"]) fun _ _ _ _ _ _ us hl => match us, hl with | [_], _ => rfl
  have m20 : Meth K CB "shows" f20 := ⟨a20, i20, k20⟩
  have F21 := fun_mk (st := sBWon) l21 c21 k21
  have b21 := F21.binds (ps := ["self"]) fun _ _ _ _ _ _ us hl => match us, hl with | [_], _ => rfl
  have m21 : Meth K CB "won" f21 := ⟨a21, i21, k21⟩
  have F22 := fun_mk (st := sBGood) l22 c22 k22
  have b22 := F22.binds (ps := ["self"]) fun _ _ _ _ _ _ us hl => match us, hl with | [_], _ => rfl
  have m22 : Meth K CB "good" f22 := ⟨a22, i22, k22⟩
  have F23 := fun_mk (st := sBLong) l23 c23 k23
  have b23 := F23.binds (ps := ["self"]) fun _ _ _ _ _ _ us hl => match us, hl with | [_], _ => rfl
  have m23 : Meth K CB "long" f23 := ⟨a23, i23, k23⟩
  have F24 := fun_mk (st := sBPlay) l24 c24 k24
  have b24 := F24.binds (ps := ["self"]) fun _ _ _ _ _ _ us hl => match us, hl with | [_], _ => rfl
  have m24 : Meth K CB "play" f24 := ⟨a24, i24, k24⟩
  have F25 := fun_mk (st := sBUnder) l25 c25 k25
  have b25 := F25.binds (ps := ["self"]) fun _ _ _ _ _ _ us hl => match us, hl with | [_], _ => rfl
  have m25 : Meth K CB "under" f25 := ⟨a25, i25, k25⟩
  have F26 := fun_mk (st := sBLost) l26 c26 k26
  have b26 := F26.binds (ps := ["self", "count"]) fun _ _ _ _ _ _ us hl => match us, hl with | [_, _], _ => rfl
  have m26 : Meth K CB "lost" f26 := ⟨a26, i26, k26⟩
  have F27 := fun_mk (st := sBTurn) l27 c27 k27
  have b27 := F27.binds (ps := ["self"]) fun _ _ _ _ _ _ us hl => match us, hl with | [_], _ => rfl
  have m27 : Meth K CB "turned" f27 := ⟨a27, i27, k27⟩
  have F28 := fun_mk (st := sBAmong) l28 c28 k28
  have b28 := F28.binds (ps := ["self", "shapes"]) fun _ _ _ _ _ _ us hl => match us, hl with | [_, _], _ => rfl
  have m28 : Meth K CB "lost_among" f28 := ⟨a28, i28, k28⟩
  have F29 := fun_mk (st := sLInit) l29 c29 k29
  have b29 := F29.binds (ps := ["self", "calls"]) fun _ _ _ _ _ _ us hl => match us, hl with | [_, _], _ => rfl
  have m29 : Meth K CL "__init__" f29 := ⟨a29, i29, k29⟩
  have F30 := fun_mk (st := sLRead) l30 c30 k30
  have b30 := F30.binds (ps := ["self"]) fun _ _ _ _ _ _ us hl => match us, hl with | [_], _ => rfl
  have m30 : Meth K CL "is_read" f30 := ⟨a30, i30, k30⟩
  have F31 := fun_mk (st := sLTake) l31 c31 k31
  have b31 := F31.binds (ps := ["self"]) fun _ _ _ _ _ _ us hl => match us, hl with | [_], _ => rfl
  have m31 : Meth K CL "take" f31 := ⟨a31, i31, k31⟩
  have F32 := fun_mk (st := sLList) l32 c32 k32
  have b32 := F32.binds (ps := ["self"]) fun _ _ _ _ _ _ us hl => match us, hl with | [_], _ => rfl
  have m32 : Meth K CL "take_list" f32 := ⟨a32, i32, k32⟩
  have clCJ : Cls K CJ := ⟨pgCJ, hdCJ, poCJ, saCJ⟩
  have MCJ : Mk K CJ f9 := ⟨mkCJ, a9, i9, kcCJ⟩
  have mgCJ := PySem.W.mg_of X G aCJ
  have clCB : Cls K CB := ⟨pgCB, hdCB, poCB, saCB⟩
  have MCB : Mk K CB f15 := ⟨mkCB, a15, i15, kcCB⟩
  have mgCB := PySem.W.mg_of X G aCB
  have clCL : Cls K CL := ⟨pgCL, hdCL, poCL, saCL⟩
  have MCL : Mk K CL f29 := ⟨mkCL, a29, i29, kcCL⟩
  have mgCL := PySem.W.mg_of X G aCL
  have T : Txt K mg := ⟨⟨_, PySem.W.mg_of X G q12⟩, ⟨_, PySem.W.mg_of X G q13⟩, PySem.W.mg_none_of X G z_len, PySem.W.mg_none_of X G z_min, PySem.W.mg_none_of X G z_range, PySem.W.mg_none_of X G z_tuple⟩
  have TL : TxtL K mg CL := ⟨clCL, nCL_calls, nCL_place, PySem.W.mg_none_of X G z_len⟩
  have TJ : TxtJ K mg CJ := ⟨clCJ, nCJ_lengths⟩
  have TB : TxtB K mg CB := ⟨clCB, nCB_shape, nCB_earlier, nCB_judge, ⟨_, PySem.W.mg_of X G q12⟩, ⟨_, PySem.W.mg_of X G q14⟩, ⟨_, PySem.W.mg_of X G q15⟩, ⟨_, PySem.W.mg_of X G q16⟩, ⟨_, PySem.W.mg_of X G q17⟩, PySem.W.mg_none_of X G z_len, PySem.W.mg_none_of X G z_sum, PySem.W.mg_none_of X G z_list, PySem.W.mg_none_of X G z_tuple⟩
  have TA : TxtA K mg := ⟨⟨_, PySem.W.mg_of X G q0⟩, ⟨_, PySem.W.mg_of X G q1⟩, ⟨_, PySem.W.mg_of X G q2⟩, ⟨_, PySem.W.mg_of X G q3⟩, ⟨_, PySem.W.mg_of X G q4⟩, ⟨_, PySem.W.mg_of X G q5⟩, ⟨_, PySem.W.mg_of X G q6⟩, ⟨_, PySem.W.mg_of X G q7⟩, ⟨_, PySem.W.mg_of X G q8⟩, ⟨_, PySem.W.mg_of X G q9⟩, ⟨_, PySem.W.mg_of X G q10⟩, ⟨_, PySem.W.mg_of X G q11⟩⟩
  refine ⟨PySem.W.fnOf "answers" "answers" (defArgs sAns) (defBody sAns) (defScope sAns) .none kV8 dc8 pm8 an8 cd8 ct8, fun s us hu => match us, hu with | [_], _ => .of_eq rfl, fun base _ _ hBM => ?_⟩
  have R := Ma.rec_worth
  have hmax := PySem.W.mg_none_of X G z_max
  have LM : LamM K mg base cC tabP := ⟨hHd, hBM⟩
  have gIS := ok_is (P := P) (w := w) (base := base) F0 T
  have gHS := ok_has (P := P) (w := w) (base := base) F1 T
  have gLB := ok_left (P := P) (w := w) (base := base) F2 T
  have gBA := ok_bites (P := P) (w := w) (base := base) F3 T
  have gEX := ok_exch (P := P) (w := w) (base := base) F6 T
  have gWI := ok_within (P := P) (w := w) (base := base) F5 T F4 b4 m4
  have gJI := ok_jinit (P := P) (w := w) (base := base) (W := Ux04.worth) F9 TJ
  have gNK := ok_lenK (P := P) (w := w) (base := base) (W := Ux04.worth) F10 TJ
  have gJB := ok_beh (P := P) (w := w) (base := base) F11 TJ m10 b10 gNK F2 b2 m2 gLB
  have gLK := ok_jlost (P := P) (w := w) (base := base) F12 TJ m10 b10 gNK
  have gGK := (ok_goods (P := P) (w := w) (base := base) R (by decide) F13 TJ F3 b3 m3 gBA F2 b2 m2 gLB m12 b12 gLK).mono (k := 4) (by decide)
  have gTK := ok_best (P := P) (w := w) (base := base) R (by decide) l14 c14 LM TJ T hmax F3 b3 m3 gBA m13 b13 gGK m11 b11 gJB
  have gNG := ok_len (P := P) (w := w) (base := base) (by decide) F10 TJ m14 b14 gTK m11 b11 gJB F5 b5 m5 gWI
  have gLG := ok_jlost (P := P) (w := w) (base := base) F12 TJ m10 b10 gNG
  have gGG := ok_goods (P := P) (w := w) (base := base) R (by decide) F13 TJ F3 b3 m3 gBA F2 b2 m2 gLB m12 b12 gLG
  have gTG := ok_best (P := P) (w := w) (base := base) R (by decide) l14 c14 LM TJ T hmax F3 b3 m3 gBA m13 b13 gGG m11 b11 gJB
  have gBI := ok_binit (P := P) (w := w) (base := base) F15 TB MCJ mgCJ b9 gJI
  have gBS := ok_bshape (P := P) (w := w) (base := base) (CJ := CJ) F17 TB F0 b0 m0 gIS
  have gBW := ok_bwhole (P := P) (w := w) (base := base) (CJ := CJ) F16 TB b17 m17 gBS
  have gBB := ok_bbite (P := P) (w := w) (base := base) (CJ := CJ) F18 TB F1 b1 m1 gHS F2 b2 m2 gLB
  have gBK := ok_bback (P := P) (w := w) (base := base) (CJ := CJ) F19 TB
  have gBV := ok_bshows (P := P) (w := w) (base := base) (CJ := CJ) F20 TB
  have gBN := ok_bwon (P := P) (w := w) (base := base) (CB := CB) F21 TB clCJ m12 b12 gLG
  have gBG := ok_bgood (P := P) (w := w) (base := base) (CB := CB) F22 TB clCJ m13 b13 gGG
  have gBO := ok_blong (P := P) (w := w) (base := base) (CB := CB) F23 TB clCJ m10 b10 gNG
  have gBP := ok_bplay (P := P) (w := w) (base := base) (CB := CB) (by decide) F24 TB clCJ m14 b14 gTG m18 b18 gBB
  have gBM := ok_among (P := P) (w := w) (base := base) (CB := CB) F28 TB clCJ m12 b12 gLG
  have gBU := ok_bunder (P := P) (w := w) (base := base) (by decide) F25 TB F5 b5 m5 gWI m28 b28 gBM
  have gBX := ok_blost (P := P) (w := w) (base := base) (by decide) F26 TB T hmax F5 b5 m5 gWI m28 b28 gBM
  have gBT := ok_bturn (P := P) (w := w) (base := base) (CJ := CJ) F27 TB F6 b6 m6 gEX
  have gLI := ok_linit (P := P) (w := w) (base := base) F29 TL
  have gLR := ok_read (P := P) (w := w) (base := base) F30 TL
  have gLT := ok_take (P := P) (w := w) (base := base) F31 TL
  have gLL := ok_takel (P := P) (w := w) (base := base) F32 TL F31 b31 m31
  have gAC := ok_ac (P := P) (w := w) (base := base) (k := 12) (by decide) F7 TA clCL clCB m31 b31 gLT m32 b32 gLL m16 b16 gBW m17 b17 gBS m18 b18 gBB m19 b19 gBK m20 b20 gBV m21 b21 (gBN.mono (by decide)) m22 b22 (gBG.mono (by decide)) m23 b23 (gBO.mono (by decide)) m24 b24 (gBP.mono (by decide)) m25 b25 (gBU.mono (by decide)) m26 b26 (gBX.mono (by decide)) m27 b27 (gBT.mono (by decide))
  exact ok_answers F8 (PySem.W.mg_none_of X G z_len) clCL MCB mgCB b15 gBI MCL mgCL b29 gLI m30 b30 gLR m7 k7 b7 (ok := okCalls) (fun _ => True.intro) (gAC.mono (by decide))
end Bb
open PySem PySem.W PyProof.Rows
local macro_rules | `(tactic| o_headS ($_ $k $a $e)) => `(tactic| o_headS (PySem.W.kmHook $k $a $e [114]))
set_option maxRecDepth 100000 in
set_option maxHeartbeats 0 in
theorem PySem.Challenge.cw_bittenbar_s01_answers_holds : PySem.Challenge.rw_bittenbar_s01_answers.Holds := by
  w_on; k_headS; (case hw => exact ⟨[.list [.int 4]], by decide +kernel, by decide +kernel⟩)
  k_fillS
  refine L2.walk_specT (r := PySem.Challenge.rw_bittenbar_s01_answers) (k := 20) (CX := L2.CX0) (ps := ["calls"]) (sp := Bb.spAns) (c := 118) (T := 114) (by decide +kernel) rfl rfl ⟨rfl, by decide, by decide⟩ (fun w h Y => PySem.W.km_in_of Y)
    (fun w h Y => PySem.W.km_tabs_of Y 114 (by simp)) (fun w => by kernel_rfl) (fun w => by kernel_rfl) ?F ?S (fun _ _ _ _ z => z)
  case F =>
    intro w mg fa h Y KX G hmg
    refine' Bb.all_mk KX G hmg ?aCJ ?aCB ?aCL ?a0 ?l0 ?c0 ?k0 ?a1 ?l1 ?c1 ?k1 ?a2 ?l2 ?c2 ?k2 ?a3 ?l3 ?c3 ?k3 ?a4 ?l4 ?c4 ?k4 ?a5 ?l5 ?c5 ?k5 ?a6 ?l6 ?c6 ?k6 ?a7 ?l7 ?c7 ?k7 ?a8 ?l8 ?c8 ?k8 ?a9 ?i9 ?l9 ?c9 ?k9 ?a10 ?i10 ?l10 ?c10 ?k10 ?a11 ?i11 ?l11 ?c11 ?k11 ?a12 ?i12 ?l12 ?c12 ?k12 ?a13 ?i13 ?l13 ?c13 ?k13 ?a14 ?i14 ?l14 ?c14 ?k14 ?a15 ?i15 ?l15 ?c15 ?k15 ?a16 ?i16 ?l16 ?c16 ?k16 ?a17 ?i17 ?l17 ?c17 ?k17 ?a18 ?i18 ?l18 ?c18 ?k18 ?a19 ?i19 ?l19 ?c19 ?k19 ?a20 ?i20 ?l20 ?c20 ?k20 ?a21 ?i21 ?l21 ?c21 ?k21 ?a22 ?i22 ?l22 ?c22 ?k22 ?a23 ?i23 ?l23 ?c23 ?k23 ?a24 ?i24 ?l24 ?c24 ?k24 ?a25 ?i25 ?l25 ?c25 ?k25 ?a26 ?i26 ?l26 ?c26 ?k26 ?a27 ?i27 ?l27 ?c27 ?k27 ?a28 ?i28 ?l28 ?c28 ?k28 ?a29 ?i29 ?l29 ?c29 ?k29 ?a30 ?i30 ?l30 ?c30 ?k30 ?a31 ?i31 ?l31 ?c31 ?k31 ?a32 ?i32 ?l32 ?c32 ?k32 ?pgCJ ?hdCJ ?poCJ ?saCJ ?mkCJ ?kcCJ ?nCJ_lengths ?pgCB ?hdCB ?poCB ?saCB ?mkCB ?kcCB ?nCB_shape ?nCB_earlier ?nCB_judge ?pgCL ?hdCL ?poCL ?saCL ?mkCL ?kcCL ?nCL_calls ?nCL_place ?q0 ?q1 ?q2 ?q3 ?q4 ?q5 ?q6 ?q7 ?q8 ?q9 ?q10 ?q11 ?q12 ?q13 ?q14 ?q15 ?q16 ?q17 ?z_len ?z_min ?z_max ?z_range ?z_tuple ?z_sum ?z_list ?hHd
    (case aCJ => k_is)
    (case aCB => k_is)
    (case aCL => k_is)
    (case a0 => k_is)
    (case l0 => k_is)
    (case c0 => k_is)
    (case k0 => k_is)
    (case a1 => k_is)
    (case l1 => k_is)
    (case c1 => k_is)
    (case k1 => k_is)
    (case a2 => k_is)
    (case l2 => k_is)
    (case c2 => k_is)
    (case k2 => k_is)
    (case a3 => k_is)
    (case l3 => k_is)
    (case c3 => k_is)
    (case k3 => k_is)
    (case a4 => k_is)
    (case l4 => k_is)
    (case c4 => k_is)
    (case k4 => k_is)
    (case a5 => k_is)
    (case l5 => k_is)
    (case c5 => k_is)
    (case k5 => k_is)
    (case a6 => k_is)
    (case l6 => k_is)
    (case c6 => k_is)
    (case k6 => k_is)
    (case a7 => k_is)
    (case l7 => k_is)
    (case c7 => k_is)
    (case k7 => k_is)
    (case a8 => k_is)
    (case l8 => k_is)
    (case c8 => k_is)
    (case k8 => k_is)
    (case a9 => k_is)
    (case i9 => k_is)
    (case l9 => k_is)
    (case c9 => k_is)
    (case k9 => k_is)
    (case a10 => k_is)
    (case i10 => k_is)
    (case l10 => k_is)
    (case c10 => k_is)
    (case k10 => k_is)
    (case a11 => k_is)
    (case i11 => k_is)
    (case l11 => k_is)
    (case c11 => k_is)
    (case k11 => k_is)
    (case a12 => k_is)
    (case i12 => k_is)
    (case l12 => k_is)
    (case c12 => k_is)
    (case k12 => k_is)
    (case a13 => k_is)
    (case i13 => k_is)
    (case l13 => k_is)
    (case c13 => k_is)
    (case k13 => k_is)
    (case a14 => k_is)
    (case i14 => k_is)
    (case l14 => k_is)
    (case c14 => k_is)
    (case k14 => k_is)
    (case a15 => k_is)
    (case i15 => k_is)
    (case l15 => k_is)
    (case c15 => k_is)
    (case k15 => k_is)
    (case a16 => k_is)
    (case i16 => k_is)
    (case l16 => k_is)
    (case c16 => k_is)
    (case k16 => k_is)
    (case a17 => k_is)
    (case i17 => k_is)
    (case l17 => k_is)
    (case c17 => k_is)
    (case k17 => k_is)
    (case a18 => k_is)
    (case i18 => k_is)
    (case l18 => k_is)
    (case c18 => k_is)
    (case k18 => k_is)
    (case a19 => k_is)
    (case i19 => k_is)
    (case l19 => k_is)
    (case c19 => k_is)
    (case k19 => k_is)
    (case a20 => k_is)
    (case i20 => k_is)
    (case l20 => k_is)
    (case c20 => k_is)
    (case k20 => k_is)
    (case a21 => k_is)
    (case i21 => k_is)
    (case l21 => k_is)
    (case c21 => k_is)
    (case k21 => k_is)
    (case a22 => k_is)
    (case i22 => k_is)
    (case l22 => k_is)
    (case c22 => k_is)
    (case k22 => k_is)
    (case a23 => k_is)
    (case i23 => k_is)
    (case l23 => k_is)
    (case c23 => k_is)
    (case k23 => k_is)
    (case a24 => k_is)
    (case i24 => k_is)
    (case l24 => k_is)
    (case c24 => k_is)
    (case k24 => k_is)
    (case a25 => k_is)
    (case i25 => k_is)
    (case l25 => k_is)
    (case c25 => k_is)
    (case k25 => k_is)
    (case a26 => k_is)
    (case i26 => k_is)
    (case l26 => k_is)
    (case c26 => k_is)
    (case k26 => k_is)
    (case a27 => k_is)
    (case i27 => k_is)
    (case l27 => k_is)
    (case c27 => k_is)
    (case k27 => k_is)
    (case a28 => k_is)
    (case i28 => k_is)
    (case l28 => k_is)
    (case c28 => k_is)
    (case k28 => k_is)
    (case a29 => k_is)
    (case i29 => k_is)
    (case l29 => k_is)
    (case c29 => k_is)
    (case k29 => k_is)
    (case a30 => k_is)
    (case i30 => k_is)
    (case l30 => k_is)
    (case c30 => k_is)
    (case k30 => k_is)
    (case a31 => k_is)
    (case i31 => k_is)
    (case l31 => k_is)
    (case c31 => k_is)
    (case k31 => k_is)
    (case a32 => k_is)
    (case i32 => k_is)
    (case l32 => k_is)
    (case c32 => k_is)
    (case k32 => k_is)
    (case pgCJ => k_is)
    (case hdCJ => k_is)
    (case poCJ => k_is)
    (case saCJ => k_is)
    (case mkCJ => k_is)
    (case kcCJ => k_is)
    (case nCJ_lengths => k_is)
    (case pgCB => k_is)
    (case hdCB => k_is)
    (case poCB => k_is)
    (case saCB => k_is)
    (case mkCB => k_is)
    (case kcCB => k_is)
    (case nCB_shape => k_is)
    (case nCB_earlier => k_is)
    (case nCB_judge => k_is)
    (case pgCL => k_is)
    (case hdCL => k_is)
    (case poCL => k_is)
    (case saCL => k_is)
    (case mkCL => k_is)
    (case kcCL => k_is)
    (case nCL_calls => k_is)
    (case nCL_place => k_is)
    (case q0 => k_is)
    (case q1 => k_is)
    (case q2 => k_is)
    (case q3 => k_is)
    (case q4 => k_is)
    (case q5 => k_is)
    (case q6 => k_is)
    (case q7 => k_is)
    (case q8 => k_is)
    (case q9 => k_is)
    (case q10 => k_is)
    (case q11 => k_is)
    (case q12 => k_is)
    (case q13 => k_is)
    (case q14 => k_is)
    (case q15 => k_is)
    (case q16 => k_is)
    (case q17 => k_is)
    (case z_len => k_is)
    (case z_min => k_is)
    (case z_max => k_is)
    (case z_range => k_is)
    (case z_tuple => k_is)
    (case z_sum => k_is)
    (case z_list => k_is)
    (case hHd => kernel_rfl)
  case S =>
    intro K H xs a hO hwi hask hx
    cases hx with
    | cons h1 h2 =>
      cases h2
      cases h1 with
      | lst hs ha =>
        have e := L2.ints_dw a.1 _ ha
        subst e
        exact ⟨_, a.1, rfl, hO, hs, hask, fun H' p hp => .lst (L2.SqL.of hp) (L2.dw_ints _)⟩

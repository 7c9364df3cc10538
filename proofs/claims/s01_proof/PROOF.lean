import PyProof.Rows.All
import Wide.All
import OpenK.AllK
import Wide.FinOn
import PyProof.EqAt
import PyProof.EqKinds
import PyProof.TupleCall
import KE.BitLaws
import PyKp115
import KE.OsArgs
import KE.OsGo
import PySem.Challenge.RW_batterykeeper_s01_answers
section
-- CHANGE: your row's module here, as the last of these rows
set_option Elab.async false
set_option linter.all false
set_option maxRecDepth 100000
/-! THE HAND LAYER, for ints, bools, texts, own classes, lists, tuples, dicts, comprehensions, walks over dicts, enumerate, zip, reversed, texts, calls, loops. Paste it whole ahead of your own text; what your proof does not reach may be deleted. -/
namespace L2
open PySem PySem.Spec PyProof.Rows

/-- a key: an int or a str -/
abbrev Key := Sum Int Str
def keyIs : Key → Value → Bool
  | .inl k, v => Value.isInt k v
  | .inr x, v => Value.isStrOf x v
def keyH (w : World) : Key → Int
  | .inl k => hashInt k
  | .inr x => hashStr w x
theorem keyIs_shape : ∀ {k : Key} {v : Value}, keyIs k v = true → (∃ i t, k = Sum.inl i ∧ v = Value.int i t) ∨ (∃ x t, k = Sum.inr x ∧ v = Value.str x t)
  | .inl i, v, h => by
    obtain ⟨t, e⟩ := Value.isInt_shape (k := i) (v := v) h
    exact .inl ⟨i, t, rfl, e⟩
  | .inr x, v, h => by
    obtain ⟨t, e⟩ := Value.isStrOf_shape (x := x) (v := v) h
    exact .inr ⟨x, t, rfl, e⟩
theorem keyIs_int (i : Int) (t : Tok) : keyIs (.inl i) (.int i t) = true := by simp [keyIs, Value.isInt]
theorem keyIs_str (x : Str) (t : Tok) : keyIs (.inr x) (.str x t) = true := by simp [keyIs, Value.isStrOf]
theorem key_ll (a b : Int) : decide ((Sum.inl a : Key) = Sum.inl b) = (a == b) := by
  by_cases e : a = b
  · subst e; simp
  · have h : ¬ (Sum.inl a : Key) = Sum.inl b := fun q => e (Sum.inl.inj q)
    rw [decide_eq_false h]
    exact (beq_eq_false_iff_ne.mpr e).symm
theorem key_rr (a b : Str) : decide ((Sum.inr a : Key) = Sum.inr b) = decide (a = b) := by
  by_cases e : a = b
  · subst e; simp
  · have h : ¬ (Sum.inr a : Key) = Sum.inr b := fun q => e (Sum.inr.inj q)
    rw [decide_eq_false h, decide_eq_false e]
theorem key_lr (a : Int) (b : Str) : decide ((Sum.inl a : Key) = Sum.inr b) = false := decide_eq_false (fun q => nomatch q)
theorem key_rl (a : Str) (b : Int) : decide ((Sum.inr a : Key) = Sum.inl b) = false := decide_eq_false (fun q => nomatch q)

def mixKind (prog : Program) (w : World) : PySem.KeyKind prog w Key where
  is := keyIs
  hash := keyH w
  inj := fun v a b ha hb => by
    rcases keyIs_shape ha with ⟨i, t, rfl, rfl⟩ | ⟨x, t, rfl, rfl⟩
    · rcases keyIs_shape hb with ⟨j, u, rfl, e⟩ | ⟨y, u, rfl, e⟩
      · injection e with e1 _; rw [e1]
      · exact nomatch e
    · rcases keyIs_shape hb with ⟨j, u, rfl, e⟩ | ⟨y, u, rfl, e⟩
      · exact nomatch e
      · injection e with e1 _; rw [e1]
  byValue := fun k v h => by
    rcases keyIs_shape h with ⟨i, t, rfl, rfl⟩ | ⟨x, t, rfl, rfl⟩ <;> rfl
  pyHash := fun hv h => by
    rcases keyIs_shape hv with ⟨i, t, rfl, rfl⟩ | ⟨x, t, rfl, rfl⟩
    · exact wpAny_pyHash_int h
    · exact wpAny_pyHash_str h
  eqBool := fun hu hv h => by
    rcases keyIs_shape hu with ⟨i, t, rfl, rfl⟩ | ⟨x, t, rfl, rfl⟩
    · rcases keyIs_shape hv with ⟨j, u, rfl, rfl⟩ | ⟨y, u, rfl, rfl⟩
      · rw [key_ll] at h; exact wpAny_eqBool_int h
      · rw [key_lr] at h; exact SeqAt.EqAt.int_str i t y u _ _ _ _ h
    · rcases keyIs_shape hv with ⟨j, u, rfl, rfl⟩ | ⟨y, u, rfl, rfl⟩
      · rw [key_rl] at h; exact SeqAt.EqAt.str_int x t j u _ _ _ _ h
      · rw [key_rr] at h; exact wpAny_eqBool_str h
  «strs» := fun k x t v h => by
    rcases keyIs_shape h with ⟨i, u, rfl, e⟩ | ⟨y, u, rfl, e⟩
    · exact nomatch e
    · injection e with e1 _
      subst e1
      cases v <;> rfl

theorem mixKind_is (prog : Program) (w : World) (k : Key) (v : Value) : (mixKind prog w).is k v = keyIs k v := rfl
theorem mixKind_int (prog : Program) (w : World) (i : Int) (t : Tok) : (mixKind prog w).is (.inl i) (.int i t) = true := keyIs_int i t
theorem mixKind_str (prog : Program) (w : World) (x : Str) (t : Tok) : (mixKind prog w).is (.inr x) (.str x t) = true := keyIs_str x t
end L2

namespace L2
open PySem PySem.Spec PyProof.Rows

/-- a value, without the heap -/
inductive V where
  | non | bl (b : Bool) | int (i : Int) | str (x : Str) | byt (b : Array UInt8) | flt (b : UInt64) | ref (a : Addr) | ty (n : String)
  deriving DecidableEq

def RelV : V → Value → Prop
  | .non, u => u = Value.none
  | .bl b, u => u = Value.bool b
  | .int i, u => ∃ t, u = Value.int i t
  | .str x, u => ∃ t, u = Value.str x t
  | .byt b, u => ∃ t, u = Value.bytes b t
  | .flt b, u => ∃ t, u = Value.float b t
  | .ref a, u => u = Value.ref a
  | .ty n, u => u = Value.type n

abbrev Vals : List V → List Value → Prop := Paired RelV
theorem Vals.length {xs : List V} {us : List Value} (r : Vals xs us) : xs.length = us.length := Paired.length r
theorem Vals.get : ∀ {xs : List V} {us : List Value} {i : Nat} {x : V}, Vals xs us → xs[i]? = some x → ∃ u, us[i]? = some u ∧ RelV x u
  | _, _, _, _, .nil, e => by simp at e
  | _, _, 0, _, .cons r _, e => by simp at e; subst e; exact ⟨_, rfl, r⟩
  | _, _, i + 1, x, .cons _ t, e => by
    obtain ⟨u, h1, h2⟩ := Vals.get (i := i) (x := x) t (by simpa using e)
    exact ⟨u, by simpa using h1, h2⟩
theorem Vals.set {x : V} {u : Value} (r : RelV x u) : ∀ {xs : List V} {us : List Value} (i : Nat), Vals xs us → Vals (xs.set i x) (us.set i u)
  | _, _, _, .nil => .nil
  | _, _, 0, .cons _ t => .cons r t
  | _, _, i + 1, .cons q t => .cons q (Vals.set r i t)
theorem Vals.append : ∀ {xs ys : List V} {us ws : List Value}, Vals xs us → Vals ys ws → Vals (xs ++ ys) (us ++ ws)
  | _, _, _, _, .nil, s => s
  | _, _, _, _, .cons r t, s => .cons r (Vals.append t s)
theorem Vals.take : ∀ {xs : List V} {us : List Value} (n : Nat), Vals xs us → Vals (xs.take n) (us.take n)
  | _, _, 0, _ => .nil
  | _, _, _ + 1, .nil => .nil
  | _, _, n + 1, .cons r t => .cons r (Vals.take n t)
theorem Vals.drop : ∀ {xs : List V} {us : List Value} (n : Nat), Vals xs us → Vals (xs.drop n) (us.drop n)
  | _, _, 0, r => r
  | _, _, _ + 1, .nil => .nil
  | _, _, n + 1, .cons _ t => Vals.drop n t
theorem Vals.none_of : ∀ {xs : List V} {us : List Value} {i : Nat}, Vals xs us → xs[i]? = none → us[i]? = none := fun {xs us i} r e => by
  have h1 := r.length
  have h2 : xs.length ≤ i := List.getElem?_eq_none_iff.mp e
  exact List.getElem?_eq_none_iff.mpr (by omega)

def RelO : Option V → Option Value → Prop
  | some v, some u => RelV v u
  | none, none => True
  | _, _ => False
def KV {κ : Type} : List (κ × V) → List (κ × Value) → Prop := Paired fun (p : κ × V) (q : κ × Value) => p.1 = q.1 ∧ RelV p.2 q.2

/-- a key of a dict (00_mix): an int or a text -/
def kV : Key → V
  | .inl i => .int i
  | .inr x => .str x

/-- what stands at a tracked address -/
inductive HO where
  /-- a list -/
  | lst (xs : List V)
  /-- a tuple (never changes) -/
  | tup (xs : List V)
  /-- a dict whose keys are ints and texts; one whose keys are tuples of ints and texts (the empty one is both) -/
  | dK (kvs : List (Key × V)) | dT (kvs : List (List Key × V))
  /-- a set of ints: its members, its size -/
  | set (S : Int → Bool) (n : Nat)
  /-- an instance of the class at C, its dict at dx, its attributes -/
  | ins (C dx : Addr) (fs : List (Str × V))
  /-- the dict of the instance at x -/
  | own (x : Addr)
  /-- the dict of an exception -/
  | xd (fs : List (Str × V))
  /-- a bound method, f of x -/
  | met (f x : Addr)
  /-- a range object lo, lo + 1, .. below hi -/
  | rng (lo hi : Int)
  /-- a thing that is known to the object (the script; a dict while a loop walks it): read, never written while it is so -/
  | frz (o : Obj) (u : HO)
  /-- a code object's table -/
  | tbl (ps : Array Value)
  /-- any other thing, by what is true of its one object (a def of one's own: SetO a S n := HO.ext fun h => ..) -/
  | ext (φ : Heap → Prop)

abbrev Hp := Addr → Option HO
def upd (H : Hp) (a : Addr) (o : HO) : Hp := fun b => if b = a then some o else H b
theorem upd_same {H : Hp} {a : Addr} {o : HO} : upd H a o a = some o := by unfold upd; rw [if_pos rfl]
theorem upd_ne {H : Hp} {a b : Addr} {o : HO} (h : b ≠ a) : upd H a o b = H b := by unfold upd; rw [if_neg h]
theorem upd_upd {H : Hp} {a : Addr} {o u : HO} : upd (upd H a o) a u = upd H a u := by
  funext b; unfold upd; split <;> rfl
/-- two objects of different content stand apart -/
theorem ne_of {H : Hp} {a b : Addr} {o u : HO} (h : H a = some o) (h' : H b = some u) (d : o ≠ u) : a ≠ b := by
  intro e; subst e; rw [h] at h'; exact d (Option.some.inj h')
theorem ne_of_none {H : Hp} {a b : Addr} {o : HO} (h : H a = some o) (h' : H b = none) : a ≠ b := by
  intro e; subst e; rw [h] at h'; cases h'

section
variable (P : Program) (w : World)
def ObjOk (H : Hp) (h : Heap) (a : Addr) : HO → Prop
  | .lst xs => xs.length ≤ sizeLine ∧ ∃ (its : List Value) (n : Nat), Vals xs its ∧ h.get? a = some { cls := .type "list", data := .seq its.toArray n }
  | .tup xs => xs.length ≤ sizeLine ∧ ∃ its : List Value, Vals xs its ∧ IsTup h a its.toArray
  | .dK kvs => kvs.length ≤ sizeLine ∧ (a == sysModules) = false ∧ ∃ vs, KV kvs vs ∧ h.DictOf (mixKind P w) a vs
  | .dT kvs => kvs.length ≤ sizeLine ∧ (a == sysModules) = false ∧ ∃ xs : List (List Key × Addr × Value),
      Paired (fun (p : List Key × V) (q : List Key × Addr × Value) => p.1 = q.1 ∧ H q.2.1 = some (.tup (p.1.map kV)) ∧ RelV p.2 q.2.2) kvs xs ∧
      ∃ o es ep, h.get? a = some o ∧ o.ExactDict ∧ o.data = .dict es ep ∧ es.toList = xs.map (entryOfKey (tupleKind (mixKind P w))) ∧ (xs.map (·.1)).Nodup
  | .set S n => h.SetOf (intKind P w) a S n
  | .ins C dx fs => H dx = some (.own a) ∧ fs.length ≤ 1000 ∧ dx ≠ a ∧ h.get? a = some (PySem.W.instObj C dx) ∧
      ∃ mA, h.Ns1 dx mA ∧ (∀ f, RelO (fs.lookup f) (mA f)) ∧ PySem.Within mA (fs.map (·.1))
  | .own _ => ∃ o, h.get? a = some o
  | .xd fs => ∃ mA, h.Ns1 a mA ∧ ∀ f, RelO (fs.lookup f) (mA f)
  | .rng lo hi => ∃ t u v, h.get? a = some { cls := .type "range", data := .fields #[.int lo t, .int hi u, .int 1 v] }
  | .frz o u => h.get? a = some o ∧ ObjOk H h a u
  | .tbl ps => h.get? a = some { cls := .none, data := .fields ps }
  | .met f x => h.get? a = some (PySem.W.methodObj (.ref f) (.ref x))
  | .ext φ => φ h ∧ (∃ o, h.get? a = some o) ∧ ∀ h1 h2 : Heap, φ h1 → (∀ o, h1.get? a = some o → h2.get? a = some o) → φ h2
/-- the abstract heap is held -/
def HOk (H : Hp) (h : Heap) : Prop := ∀ a o, H a = some o → ObjOk P w H h a o
end

section
variable {P : Program} {w : World} {H H' : Hp} {h h' : Heap} {a : Addr} {o : HO}
theorem ObjOk.lt (x : ObjOk P w H h a o) : a < h.objs.size := by
  cases o with
  | lst xs => obtain ⟨_, _, _, _, e⟩ := x; exact Heap.lt_size e
  | tup xs => obtain ⟨_, _, _, p⟩ := x; exact p.lt
  | dK kvs => obtain ⟨_, _, _, _, o, _, _, e, _⟩ := x; exact Heap.lt_size e
  | dT kvs => obtain ⟨_, _, _, _, o, _, _, e, _⟩ := x; exact Heap.lt_size e
  | set S n => obtain ⟨o, _, _, _, e, _⟩ := x; exact Heap.lt_size e
  | ins C dx fs => obtain ⟨_, _, _, e, _⟩ := x; exact Heap.lt_size e
  | own y => obtain ⟨_, e⟩ := x; exact Heap.lt_size e
  | xd fs => obtain ⟨_, ⟨_, _, _, e, _⟩, _⟩ := x; exact Heap.lt_size e
  | rng lo hi => obtain ⟨_, _, _, e⟩ := x; exact Heap.lt_size e
  | frz ob u => obtain ⟨e, _⟩ := x; exact Heap.lt_size e
  | tbl ps => exact Heap.lt_size (show h.get? a = some _ from x)
  | met f y => exact Heap.lt_size (show h.get? a = some _ from x)
  | ext φ => obtain ⟨_, ⟨_, e⟩, _⟩ := x; exact Heap.lt_size e
theorem Paired.mapP {α β : Type} {F G : α → β → Prop} : ∀ {l₁ : List α} {l₂ : List β}, Paired F l₁ l₂ → (∀ a b, F a b → G a b) → Paired G l₁ l₂
  | _, _, .nil, _ => .nil
  | _, _, .cons r t, f => .cons (f _ _ r) (Paired.mapP t f)
theorem Paired.imp' {α β : Type} {F G : α → β → Prop} (f : ∀ a b, F a b → G a b) {l₁ : List α} {l₂ : List β} (r : Paired F l₁ l₂) : Paired G l₁ l₂ := Paired.mapP r f
/-- what an object's description leans on: its own object, its own dict, the tuples -/
theorem ObjOk.stay (x : ObjOk P w H h a o) (k : ∀ b u, (b = a ∨ H b = some (.own a)) → h.get? b = some u → h'.get? b = some u)
    (ho : ∀ b, H b = some (.own a) → H' b = some (.own a)) (ht : ∀ b xs, H b = some (.tup xs) → H' b = some (.tup xs)) : ObjOk P w H' h' a o := by
  induction o with
  | lst xs => obtain ⟨z, its, n, r, e⟩ := x; exact ⟨z, its, n, r, k _ _ (.inl rfl) e⟩
  | tup xs => obtain ⟨z, its, r, ob, e, c⟩ := x; exact ⟨z, its, r, ob, k _ _ (.inl rfl) e, c⟩
  | dK kvs => obtain ⟨z, y, vs, r, ob, es, ep, e, c⟩ := x; exact ⟨z, y, vs, r, ob, es, ep, k _ _ (.inl rfl) e, c⟩
  | dT kvs =>
    obtain ⟨z, y, xs, r, ob, es, ep, e, c⟩ := x
    exact ⟨z, y, xs, Paired.mapP r fun p q z => ⟨z.1, ht _ _ z.2.1, z.2.2⟩, ob, es, ep, k _ _ (.inl rfl) e, c⟩
  | set S n => obtain ⟨ob, es, ep, t, e, c⟩ := x; exact ⟨ob, es, ep, t, k _ _ (.inl rfl) e, c⟩
  | ins C dx fs =>
    obtain ⟨d, z, ne, e, mA, ⟨od, es, ep, e2, c⟩, r⟩ := x
    exact ⟨ho _ d, z, ne, k _ _ (.inl rfl) e, mA, ⟨od, es, ep, k _ _ (.inr d) e2, c⟩, r⟩
  | own y => obtain ⟨ob, e⟩ := x; exact ⟨ob, k _ _ (.inl rfl) e⟩
  | xd fs => obtain ⟨mA, ⟨od, es, ep, e, c⟩, r⟩ := x; exact ⟨mA, ⟨od, es, ep, k _ _ (.inl rfl) e, c⟩, r⟩
  | rng lo hi => obtain ⟨t, u, v, e⟩ := x; exact ⟨t, u, v, k _ _ (.inl rfl) e⟩
  | frz ob u ih => obtain ⟨e, q⟩ := x; exact ⟨k _ _ (.inl rfl) e, ih q⟩
  | tbl ps =>
    have e : h.get? a = some { cls := .none, data := .fields ps } := x
    show h'.get? a = some { cls := .none, data := .fields ps }
    exact k a _ (.inl rfl) e
  | met f y =>
    have e : h.get? a = some (PySem.W.methodObj (.ref f) (.ref y)) := x
    show h'.get? a = some (PySem.W.methodObj (.ref f) (.ref y))
    exact k a _ (.inl rfl) e
  | ext φ => obtain ⟨p, ⟨o, e⟩, st⟩ := x; exact ⟨st _ _ p fun o q => k _ _ (.inl rfl) q, ⟨o, k _ _ (.inl rfl) e⟩, st⟩
theorem HOk.lt (x : HOk P w H h) (e : H a = some o) : a < h.objs.size := (x a o e).lt
theorem HOk.fresh (x : HOk P w H h) (e : h.objs.size ≤ a) : H a = none := by
  cases q : H a with
  | none => rfl
  | some u => exact absurd (Nat.lt_of_lt_of_le (x.lt q) e) (Nat.lt_irrefl _)
/-- every object of the heap is kept -/
theorem HOk.kept (x : HOk P w H h) (k : ∀ b u, h.get? b = some u → h'.get? b = some u) : HOk P w H h' := fun a o e =>
  (x a o e).stay (fun b u _ q => k b u q) (fun _ q => q) fun _ _ q => q
/-- a new object is laid and tracked -/
theorem HOk.laid (x : HOk P w H h) (k : ∀ b u, h.get? b = some u → h'.get? b = some u) (hp : h.objs.size ≤ a) (new : ObjOk P w (upd H a o) h' a o) : HOk P w (upd H a o) h' := fun b u e => by
  have hn := x.fresh hp
  by_cases hb : b = a
  · subst hb; rw [upd_same] at e; cases e; exact new
  · rw [upd_ne hb] at e
    exact (x b u e).stay (fun c v _ q => k c v q) (fun c q => by rw [upd_ne (ne_of_none q hn)]; exact q) fun c xs q => by rw [upd_ne (ne_of_none q hn)]; exact q
end

/-- what may be read as u: it is u, or a known u -/
def Rd (H : Hp) (a : Addr) (u : HO) : Prop := H a = some u ∨ ∃ o, H a = some (.frz o u)
theorem Rd.of {H : Hp} {a : Addr} {u : HO} (h : H a = some u) : Rd H a u := .inl h
theorem Rd.ok {P : Program} {w : World} {H : Hp} {h : Heap} {a : Addr} {u : HO} (r : Rd H a u) (x : HOk P w H h) : ObjOk P w H h a u := by
  rcases r with r | ⟨o, r⟩
  · exact x a u r
  · obtain ⟨_, q⟩ := x a _ r
    exact q
/-- what may be written -/
def Mut : Option HO → Prop
  | some (.lst _) => True
  | some (.dK _) => True
  | some (.dT _) => True
  | some (.set _ _) => True
  | some (.ins _ _ _) => True
  | some (.ext _) => True
  | _ => False
section
variable {P : Program} {w : World} {H : Hp} {h h' : Heap} {x e : Addr} {o' : HO}
/-- the object at e is changed: x itself, or the dict of the instance x -/
theorem HOk.write (ok : HOk P w H h) (mu : Mut (H x)) (he : e = x ∨ H e = some (.own x)) (k : ∀ b u, b ≠ e → h.get? b = some u → h'.get? b = some u) (heo : ∃ u, h'.get? e = some u)
    (new : ObjOk P w (upd H x o') h' x o') : HOk P w (upd H x o') h' := fun b u q => by
  have nown : ∀ c y, H c = some (.own y) → c ≠ x := fun c y r z => by subst z; rw [r] at mu; exact mu
  have ntup : ∀ c xs, H c = some (.tup xs) → c ≠ x := fun c xs r z => by subst z; rw [r] at mu; exact mu
  by_cases hb : b = x
  · subst hb; rw [upd_same] at q; cases q; exact new
  · rw [upd_ne hb] at q
    by_cases hbe : b = e
    · have q' : H b = some (.own x) := by
        rcases he with z | z
        · exact absurd (hbe.trans z) hb
        · rw [hbe]; exact z
      rw [q] at q'; cases q'
      obtain ⟨v, hv⟩ := heo
      exact ⟨v, by rw [hbe]; exact hv⟩
    · refine (ok b u q).stay (fun c v hc r => k c v ?_ r) (fun c r => by rw [upd_ne (nown c b r)]; exact r) fun c xs r => by rw [upd_ne (ntup c xs r)]; exact r
      rcases hc with rfl | hc
      · exact hbe
      · rintro rfl
        rcases he with z | z
        · exact nown c b hc z
        · rw [hc] at z; cases z; exact hb rfl
end

/-! ### kept unless tracked; of the frames at fs (the callers') the slots may change (an exception that passes writes there); of the records at ex (iterators) nothing is said -/
structure Un (fs ex : List Addr) (H H' : Hp) (h h' : Heap) : Prop where
  keep : ∀ b o, h.get? b = some o → H b = none → b ∉ fs → b ∉ ex → h'.get? b = some o
  slot : ∀ b o, h.get? b = some o → H b = none → b ∈ fs → b ∉ ex → ∃ sl, h'.get? b = some { o with slots := sl }
  free : ∀ b o, h.get? b = some o → H b = none → b ∉ ex → H' b = none
  there : ∀ b o, h.get? b = some o → b ∉ ex → ∃ o', h'.get? b = some o'
  tups : ∀ b xs, H b = some (.tup xs) → H' b = some (.tup xs)
  frzs : ∀ b o u, H b = some (.frz o u) → H' b = some (.frz o u)
  tbls : ∀ b ps, H b = some (.tbl ps) → ∃ more, H' b = some (.tbl (ps ++ more))
section
variable {fs fs' ex ex' : List Addr} {H H1 H2 : Hp} {h h1 h2 h' : Heap} {a x e : Addr} {o : HO}
theorem Un.any (u : Un fs ex H H1 h h1) {b : Addr} {ob : Obj} (q : h.get? b = some ob) (n : H b = none) (hx : b ∉ ex) : ∃ sl, h1.get? b = some { ob with slots := sl } := by
  by_cases hb : b ∈ fs
  · exact u.slot b ob q n hb hx
  · exact ⟨ob.slots, u.keep b ob q n hb hx⟩
theorem Un.trans (a : Un fs ex H H1 h h1) (b : Un fs ex H1 H2 h1 h2) : Un fs ex H H2 h h2 where
  keep := fun c ob q n hc hx => b.keep c ob (a.keep c ob q n hc hx) (a.free c ob q n hx) hc hx
  slot := fun c ob q n hc hx => by
    obtain ⟨sl, e1⟩ := a.slot c ob q n hc hx
    obtain ⟨sl', e2⟩ := b.slot c _ e1 (a.free c ob q n hx) hc hx
    exact ⟨sl', e2⟩
  free := fun c ob q n hx => by
    obtain ⟨o', e1⟩ := a.there c ob q hx
    exact b.free c o' e1 (a.free c ob q n hx) hx
  there := fun c ob q hx => by
    obtain ⟨o', e1⟩ := a.there c ob q hx
    exact b.there c o' e1 hx
  tups := fun c xs q => b.tups c xs (a.tups c xs q)
  frzs := fun c ob xs q => b.frzs c ob xs (a.frzs c ob xs q)
  tbls := fun c ps q => by
    obtain ⟨m1, e1⟩ := a.tbls c ps q
    obtain ⟨m2, e2⟩ := b.tbls c _ e1
    exact ⟨m1 ++ m2, by rw [e2, Array.append_assoc]⟩
theorem Un.kept (k : ∀ b u, h.get? b = some u → h'.get? b = some u) : Un fs ex H H h h' :=
  ⟨fun b ob q _ _ _ => k b ob q, fun b ob q _ _ _ => ⟨ob.slots, k b ob q⟩, fun _ _ _ n _ => n, fun b ob q _ => ⟨ob, k b ob q⟩, fun _ _ q => q, fun _ _ _ q => q, fun _ ps q => ⟨#[], by rw [q]; simp⟩⟩
theorem Un.refl : Un fs ex H H h h := Un.kept fun _ _ q => q
theorem Un.laid (k : ∀ b u, h.get? b = some u → h'.get? b = some u) (hp : h.objs.size ≤ a) (hn : H a = none) : Un fs ex H (upd H a o) h h' where
  keep := fun b u q _ _ _ => k b u q
  slot := fun b u q _ _ _ => ⟨u.slots, k b u q⟩
  free := fun b u q n _ => by rw [upd_ne (Nat.ne_of_lt (Nat.lt_of_lt_of_le (Heap.lt_size q) hp))]; exact n
  there := fun b u q _ => ⟨u, k b u q⟩
  tups := fun b xs q => by rw [upd_ne (ne_of_none q hn)]; exact q
  frzs := fun b u xs q => by rw [upd_ne (ne_of_none q hn)]; exact q
  tbls := fun b ps q => ⟨#[], by rw [upd_ne (ne_of_none q hn), q]; simp⟩
theorem Un.write (mu : Mut (H x)) (he : e = x ∨ H e = some (.own x)) (k : ∀ b u, b ≠ e → h.get? b = some u → h'.get? b = some u) (heo : ∃ u, h'.get? e = some u) : Un fs ex H (upd H x o) h h' := by
  have hx : ∀ b, H b = none → b ≠ x := fun b n z => by subst z; rw [n] at mu; exact mu
  have hb : ∀ b, H b = none → b ≠ e := fun b n z => by
    subst z
    rcases he with r | r
    · exact hx b n r
    · rw [n] at r; cases r
  have hm : ∀ b u, H b = some u → ¬ Mut (some u) → b ≠ x := fun b u q nm z => by subst z; rw [q] at mu; exact nm mu
  refine ⟨fun b u q n _ _ => k b u (hb b n) q, fun b u q n _ _ => ⟨u.slots, k b u (hb b n) q⟩, fun b u q n _ => by rw [upd_ne (hx b n)]; exact n, fun b u q _ => ?_,
    fun b xs q => by rw [upd_ne (hm b _ q fun z => z)]; exact q, fun b u xs q => by rw [upd_ne (hm b _ q fun z => z)]; exact q, fun b ps q => ⟨#[], by rw [upd_ne (hm b _ q fun z => z), q]; simp⟩⟩
  by_cases hbe : b = e
  · subst hbe; exact heo
  · exact ⟨u, k b u hbe q⟩
theorem Un.mono (u : Un fs ex H H1 h h1) (hs : ∀ b ∈ fs, b ∈ fs') (hx : ∀ b ∈ ex, b ∈ ex') : Un fs' ex' H H1 h h1 :=
  ⟨fun b ob q n hb he => u.keep b ob q n (fun z => hb (hs b z)) fun z => he (hx b z), fun _ _ q n _ he => u.any q n fun z => he (hx _ z), fun b ob q n he => u.free b ob q n fun z => he (hx b z), fun b ob q he => u.there b ob q fun z => he (hx b z), u.tups, u.frzs, u.tbls⟩
end

/-! ### the heap without what is tracked -/
def trk (h : Heap) (H : Hp) : List Addr := (List.range h.objs.size).filter fun a => (H a).isSome
def hidT (h : Heap) (H : Hp) : Heap := PySem.W.hideAll h (trk h H)
theorem hidT_size (h : Heap) (H : Hp) : (hidT h H).objs.size = h.objs.size := PySem.W.hideAll_size _ _
theorem hidT_get {h : Heap} {H : Hp} {b : Addr} {o : Obj} (e : h.get? b = some o) (n : H b = none) : (hidT h H).get? b = some o :=
  PySem.W.hideAll_get _ e fun hm => by
    have q : (H b).isSome = true := (List.mem_filter.mp hm).2
    rw [n] at q; simp at q
theorem of_hidT {h : Heap} {H : Hp} {b : Addr} {o : Obj} (e : (hidT h H).get? b = some o) : h.get? b = some o ∧ H b = none := by
  have e' : h.get? b = some o := PySem.W.of_hideAll (trk h H) e
  refine ⟨e', ?_⟩
  cases q : H b with
  | none => rfl
  | some x =>
    have hm : b ∈ trk h H := List.mem_filter.mpr ⟨List.mem_range.mpr (Heap.lt_size e'), by simp [q]⟩
    have z : (hidT h H).get? b = none := PySem.W.hideAll_none (trk h H) hm
    rw [z] at e; cases e

/-! ### OpenK's ledger, filled with every new object but one -/
def allNews (g h : Heap) (L : Addr) : List (Addr × Obj) := (List.range h.objs.size).filterMap fun a => if a = L ∨ (g.get? a).isSome = true then none else (h.get? a).map fun o => (a, o)
theorem mem_allNews {g h : Heap} {L a : Addr} {o : Obj} (h1 : a ≠ L) (h2 : g.get? a = none) (h3 : h.get? a = some o) : (a, o) ∈ allNews g h L :=
  List.mem_filterMap.mpr ⟨a, List.mem_range.mpr (Heap.lt_size h3), by simp [h1, h2, h3]⟩
theorem of_mem_allNews {g h : Heap} {L : Addr} {p : Addr × Obj} (hp : p ∈ allNews g h L) : p.1 ≠ L ∧ g.get? p.1 = none ∧ h.get? p.1 = some p.2 := by
  obtain ⟨b, _, e⟩ := List.mem_filterMap.mp hp
  split at e
  · cases e
  · rename_i hn
    cases q : h.get? b with
    | none => rw [q] at e; simp at e
    | some u =>
      rw [q] at e
      simp only [Option.map_some, Option.some.injEq] at e
      subst e
      refine ⟨fun z => hn (.inl z), ?_, q⟩
      show g.get? b = none
      cases r : g.get? b with
      | none => rfl
      | some v => exact (hn (.inr (by simp [r]))).elim
def rest (g h : Heap) (L d : Addr) : List (Addr × Obj) := (allNews g h L).filter fun p => decide (p.1 ≠ d)
theorem rest_ne {g h : Heap} {L d : Addr} : ∀ p ∈ rest g h L d, p.1 ≠ d := fun p hp => of_decide_eq_true (List.mem_filter.mp hp).2
theorem mem_rest {g h : Heap} {L d a : Addr} {o : Obj} (h1 : a ≠ L) (h2 : g.get? a = none) (h3 : h.get? a = some o) (h4 : a ≠ d) : (a, o) ∈ rest g h L d :=
  List.mem_filter.mpr ⟨mem_allNews h1 h2 h3, decide_eq_true h4⟩
theorem news_all {g h : Heap} {L : Addr} : News g L h (allNews g h L) := fun p hp => let ⟨a, b, c⟩ := of_mem_allNews hp; ⟨c, a, b⟩
theorem news_at {g h : Heap} {L d : Addr} {o : Obj} (h1 : d ≠ L) (h2 : g.get? d = none) (h3 : h.get? d = some o) : News g L h ((d, o) :: rest g h L d) := fun p hp => by
  rcases List.mem_cons.mp hp with rfl | hp
  · exact ⟨h3, h1, h2⟩
  · exact news_all p (List.mem_filter.mp hp).1
/-- behind a rule that changed d alone: all else but the frame is kept -/
theorem kept_of_news {g h h' : Heap} {L d : Addr} {m : Str → Option Value} (k : ∀ b o, g.get? b = some o → h.get? b = some o) (F : Fr g L h' m) (N : News g L h' (rest g h L d)) :
    ∀ b o, b ≠ L → b ≠ d → h.get? b = some o → h'.get? b = some o := fun b o h1 h2 e => by
  cases q : g.get? b with
  | some u =>
    have := k b u q
    rw [e] at this; cases this
    exact F.keep b _ q
  | none => exact (N (b, o) (mem_rest h1 q e h2)).1
end L2

namespace L2
open PySem PySem.Spec PyProof.Rows

/-- the module's facts, over the base: the heap at the law's entry without what is tracked there -/
structure Mod (K : PySem.W.Frag) (mg : Str → Option Value) (base : Heap) : Prop where
  kin : K.In base
  glob : base.Ns mainGlobals mg
  blt : ∃ mb, base.Ns builtinsNs mb ∧ ∀ x : Str, x ≠ "__name__" → mb x = bootBuiltins x
  nolimit : base.NoLimit

/-- the context: a def's body (or a comprehension's block) running. base: fixed through the whole law; s₀, H₀: the entry; outer: the frames whose slots others may change (a def's callers); stack: all frames that run;
   ex: iterators that were made ahead of the entry and are walked here (a comprehension's); fn: the names whose cells were made at the entry (a def: all; a comprehension's block: its own); calm: not within an except suite; pn: pins that every state bears; xe: what is wanted of an exception that leaves the code -/
structure Cx where
  prog : Program
  w : World
  K : PySem.W.Frag
  mg : Str → Option Value
  base : Heap
  A : Around
  N : List Str
  s_0 : Shared
  H_0 : Hp
  env : Env
  outer : List Env
  stack : List Env
  ex : List Addr
  fn : Str → Bool
  calm : Bool
  pn : List (Addr × Obj)
  xe : Value → Shared → Prop
/-- the callers' frames -/
def frs (l : List Env) : List Addr := l.filterMap (·.frame)
abbrev Cx.fs (X : Cx) : List Addr := frs X.outer

def Vis (sc : Scope) (x : Str) : Prop := sc.names.lookup x = some .local ∨ sc.names.lookup x = some .cell ∨ sc.names.lookup x = some .free
def Loc (sc : Scope) (x : Str) : Prop := sc.names.lookup x = some .local ∨ sc.names.lookup x = some .cell
def Look (env : Env) (h : Heap) (m : Str → Option Value) (x : Str) (u : Value) : Prop :=
  (env.kindOf x = some .local ∧ m x = some u) ∨ ((env.kindOf x = some .cell ∨ env.kindOf x = some .free) ∧ ∃ c, env.cells.lookup x = some c ∧ h.IsCell c (some u))

structure Cx.Ok (X : Cx) : Prop where
  mod : Mod X.K X.mg X.base
  kind : X.env.scope.kind = .function
  glob : X.env.globals = mainGlobals
  blt : X.env.builtins = builtinsNs
  above : X.s_0.heap.objs.size ≤ X.env.locals
  inj : ∀ x y c, X.env.cells.lookup x = some c → X.env.cells.lookup y = some c → x = y
  has : ∀ x, (X.env.kindOf x = some .cell ∨ X.env.kindOf x = some .free) → ∃ c, X.env.cells.lookup x = some c
  cab : ∀ x c, X.fn x = true → X.env.cells.lookup x = some c → X.s_0.heap.objs.size ≤ c
  hd : X.calm = true → X.A.handled = none
  frames : X.A.frames = some X.stack
  stk : X.stack = X.outer ∨ (X.stack = X.env :: X.outer ∧ X.env.frame = some X.env.locals)
  exf : ∀ b ∈ X.ex, b ≠ X.env.locals ∧ ∀ x c, X.env.cells.lookup x = some c → c ≠ b
  bs : ∀ b o, X.base.get? b = some o → X.s_0.heap.get? b = some o ∧ X.H_0 b = none
  bsz : X.base.objs.size ≤ X.s_0.heap.objs.size
  noex : ∀ b o, X.base.get? b = some o → b ∉ X.ex
  exfs : ∀ b ∈ X.ex, b ∉ X.fs
  funs : X.s_0.heap.FunFrames X.base X.outer
  frf : ∀ b ∈ X.fs, X.H_0 b = none

structure Inv (X : Cx) (pins : List (Addr × Obj)) (σ : List (Option V)) (H : Hp) (s : Shared) : Prop where
  ok : X.Ok
  os : s.os = X.s_0.os
  bare : AllBare s.gens
  base : Un X.fs X.ex X.H_0 H X.s_0.heap s.heap
  loc : ∃ m, s.heap.Ns X.env.locals m ∧ ∀ (i : Nat) (x : Str) (v : V), X.N[i]? = some x → σ[i]? = some (some v) → Vis X.env.scope x → ∃ u, RelV v u ∧ Look X.env s.heap m x u
  cell : ∀ x c, X.env.cells.lookup x = some c → ∃ v, s.heap.IsCell c v
  free : H X.env.locals = none
  freeC : ∀ x c, X.env.cells.lookup x = some c → H c = none
  pin : ∀ p ∈ X.pn ++ pins, s.heap.get? p.1 = some p.2 ∧ H p.1 = none ∧ p.1 ≠ X.env.locals ∧ p.1 ∉ X.fs ∧ ∀ v, p.2.data ≠ .cell v
  hok : HOk X.prog X.w H s.heap
  len : σ.length = X.N.length

section
variable {X : Cx} {pins : List (Addr × Obj)} {σ : List (Option V)} {H H' : Hp} {s : Shared} {h' : Heap}

theorem Cx.Ok.nofr (ok : X.Ok) {b : Addr} {o : Obj} (e : X.base.get? b = some o) : b ∉ X.fs := fun hb => by
  have := (ok.funs.mem hb).1
  rw [e] at this; cases this
theorem Inv.bs (I : Inv X pins σ H s) : ∀ b o, X.base.get? b = some o → s.heap.get? b = some o ∧ H b = none := fun b o e =>
  ⟨I.base.keep b o (I.ok.bs b o e).1 (I.ok.bs b o e).2 (I.ok.nofr e) (I.ok.noex b o e), I.base.free b o (I.ok.bs b o e).1 (I.ok.bs b o e).2 (I.ok.noex b o e)⟩
theorem Inv.bk (I : Inv X pins σ H s) : ∀ b o, X.base.get? b = some o → s.heap.get? b = some o := fun b o e => (I.bs b o e).1
theorem Inv.mod (I : Inv X pins σ H s) : Mod X.K X.mg X.base := I.ok.mod
theorem Inv.kIn (I : Inv X pins σ H s) : X.K.In s.heap := I.ok.mod.kin.keeps I.bk
theorem Inv.nolimit (I : Inv X pins σ H s) : s.heap.NoLimit := I.ok.mod.nolimit.keeps I.bk
/-- the frame over the base: for OpenK's rules (K.In X.base is I.mod.kin) -/
theorem Inv.fr (I : Inv X pins σ H s) : ∃ m, Fr X.base X.env.locals s.heap m :=
  let ⟨m, hn, _⟩ := I.loc
  ⟨m, hn, I.bk, Nat.le_trans I.ok.bsz I.ok.above⟩
theorem Inv.lt (I : Inv X pins σ H s) : X.env.locals < s.heap.objs.size := let ⟨_, hn, _⟩ := I.loc; hn.lt
theorem Inv.sz (I : Inv X pins σ H s) : X.s_0.heap.objs.size ≤ s.heap.objs.size := Nat.le_trans I.ok.above (Nat.le_of_lt I.lt)
theorem Inv.nofs (I : Inv X pins σ H s) {a : Addr} (h : s.heap.objs.size ≤ a) : a ∉ X.fs := fun hb => by
  obtain ⟨_, o, ho, _⟩ := I.ok.funs.mem hb
  exact absurd (Nat.lt_of_lt_of_le (Heap.lt_size ho) (Nat.le_trans I.sz h)) (Nat.lt_irrefl _)
theorem Inv.cne (I : Inv X pins σ H s) : ∀ x c, X.env.cells.lookup x = some c → c ≠ X.env.locals := fun x c e z => by
  obtain ⟨v, o, ho, hd⟩ := I.cell x c e
  obtain ⟨m, ⟨o', es, ep, ho', hd', _⟩, _⟩ := I.loc
  rw [z, ho'] at ho; cases ho; rw [hd'] at hd; cases hd
theorem Inv.funs (I : Inv X pins σ H s) : s.heap.FunFrames X.base X.outer := by
  have all : ∀ (l : List Env), (∀ b ∈ frs l, b ∈ X.fs) → X.s_0.heap.FunFrames X.base l → s.heap.FunFrames X.base l := by
    intro l
    induction l with
    | nil => intro _ _; trivial
    | cons env r ih =>
      intro hs hl
      obtain ⟨hk, ⟨L, o, hf, hn, ho, hd⟩, hr⟩ := hl
      have hL : L ∈ X.fs := hs L (by unfold frs; rw [List.filterMap_cons, hf]; exact List.mem_cons_self)
      obtain ⟨sl, e⟩ := I.base.slot L o ho (I.ok.frf L hL) hL fun z => I.ok.exfs L z hL
      exact ⟨hk, ⟨L, _, hf, hn, e, hd⟩, ih (fun b hb => hs b (by unfold frs; rw [List.filterMap_cons, hf]; exact List.mem_cons_of_mem _ hb)) hr⟩
  exact all X.outer (fun _ hb => hb) I.ok.funs

/-- the frames that run, for a call -/
theorem Inv.stack (I : Inv X pins σ H s) : s.heap.FunFrames X.base X.stack := by
  rcases I.ok.stk with e | ⟨e, hf⟩
  · rw [e]; exact I.funs
  · rw [e]
    obtain ⟨m, hn, _⟩ := I.loc
    refine .cons (by rw [I.ok.kind]; decide) hf hn ?_ I.funs
    exact Heap.get?_none_of_le (Nat.le_trans I.ok.bsz I.ok.above)
theorem Inv.stkSub (I : Inv X pins σ H s) : ∀ b ∈ frs X.stack, b ∈ X.env.locals :: X.fs := fun b hb => by
  rcases I.ok.stk with e | ⟨e, hf⟩
  · rw [e] at hb; exact List.mem_cons_of_mem _ hb
  · rw [e] at hb
    unfold frs at hb
    rw [List.filterMap_cons, hf] at hb
    exact hb
theorem Inv.stkFree (I : Inv X pins σ H s) : ∀ b ∈ frs X.stack, H b = none := fun b hb => by
  rcases List.mem_cons.mp (I.stkSub b hb) with e | hb
  · rw [e]; exact I.free
  · obtain ⟨_, o, ho, _⟩ := I.ok.funs.mem hb
    exact I.base.free b o ho (I.ok.frf b hb) fun z => I.ok.exfs b z hb

/-- THE STEP: the untracked objects but the frame and the records at ch are kept (the callers' frames up to slots), the frame's map is kept, the new abstract heap is held -/
theorem Inv.step {g' : Array GenState} {t' : Nat} {d' : Drawn} {ch : List Addr} (I : Inv X pins σ H s)
    (hch : ∀ b ∈ ch, (b ∈ X.ex ∨ X.s_0.heap.objs.size ≤ b) ∧ b ≠ X.env.locals ∧ (∀ x c, X.env.cells.lookup x = some c → c ≠ b) ∧ ∀ p ∈ X.pn ++ pins, p.1 ≠ b)
    (keep : ∀ b o, b ≠ X.env.locals → b ∉ X.fs → b ∉ ch → s.heap.get? b = some o → H b = none → h'.get? b = some o)
    (slot : ∀ b o, b ≠ X.env.locals → b ∈ X.fs → b ∉ ch → s.heap.get? b = some o → H b = none → ∃ sl, h'.get? b = some { o with slots := sl }) (free : ∀ b o, b ∉ ch → s.heap.get? b = some o → H b = none → H' b = none)
    (there : ∀ b o, b ∉ ch → s.heap.get? b = some o → ∃ o', h'.get? b = some o')
    (tups : ∀ b xs, H b = some (.tup xs) → H' b = some (.tup xs)) (frzs : ∀ b o u, H b = some (.frz o u) → H' b = some (.frz o u)) (tbls : ∀ b ps, H b = some (.tbl ps) → ∃ more, H' b = some (.tbl (ps ++ more)))
    (ns : ∀ m, s.heap.Ns X.env.locals m → h'.Ns X.env.locals m) (hok : HOk X.prog X.w H' h') (hg : AllBare g') :
    Inv X pins σ H' { s with heap := h', gens := g', drawn := d', toks := t' } := by
  have neL : ∀ b o, X.s_0.heap.get? b = some o → b ≠ X.env.locals := fun b o e => Nat.ne_of_lt (Nat.lt_of_lt_of_le (Heap.lt_size e) I.ok.above)
  have neC : ∀ b o, X.s_0.heap.get? b = some o → b ∉ X.ex → b ∉ ch := fun b o e hx hb => by
    rcases (hch b hb).1 with z | z
    · exact hx z
    · exact absurd (Nat.lt_of_lt_of_le (Heap.lt_size e) z) (Nat.lt_irrefl _)
  have cellK : ∀ x c, X.env.cells.lookup x = some c → ∀ v, s.heap.IsCell c v → h'.IsCell c v := fun x c e v ⟨o, ho, hd⟩ => by
    have nch : c ∉ ch := fun z => (hch c z).2.2.1 x c e rfl
    by_cases hc : c ∈ X.fs
    · obtain ⟨sl, q⟩ := slot c o (I.cne x c e) hc nch ho (I.freeC x c e)
      exact ⟨_, q, hd⟩
    · exact ⟨o, keep c o (I.cne x c e) hc nch ho (I.freeC x c e), hd⟩
  refine ⟨I.ok, I.os, hg, ⟨fun b o e n hb hx => ?_, fun b o e n hb hx => ?_, fun b o e n hx => ?_, fun b o e hx => ?_, fun b xs e => tups b xs (I.base.tups b xs e), fun b o xs e => frzs b o xs (I.base.frzs b o xs e), fun b ps e => ?_⟩, ?_, fun x c e => ?_, ?_, fun x c e => ?_, fun p hp => ?_, hok, I.len⟩
  · exact keep b o (neL b o e) hb (neC b o e hx) (I.base.keep b o e n hb hx) (I.base.free b o e n hx)
  · obtain ⟨sl, e1⟩ := I.base.slot b o e n hb hx
    obtain ⟨sl', e2⟩ := slot b _ (neL b o e) hb (neC b o e hx) e1 (I.base.free b o e n hx)
    exact ⟨sl', e2⟩
  · obtain ⟨o', e1⟩ := I.base.there b o e hx
    exact free b o' (neC b o e hx) e1 (I.base.free b o e n hx)
  · obtain ⟨o', e1⟩ := I.base.there b o e hx
    exact there b o' (neC b o e hx) e1
  · obtain ⟨m1, e1⟩ := I.base.tbls b ps e
    obtain ⟨m2, e2⟩ := tbls b _ e1
    exact ⟨m1 ++ m2, by rw [e2, Array.append_assoc]⟩
  · obtain ⟨m, hn, hl⟩ := I.loc
    refine ⟨m, ns m hn, fun i x v e1 e2 e3 => ?_⟩
    obtain ⟨u, r, l⟩ := hl i x v e1 e2 e3
    refine ⟨u, r, ?_⟩
    rcases l with l | ⟨k, c, e, z⟩
    · exact .inl l
    · exact .inr ⟨k, c, e, cellK x c e _ z⟩
  · obtain ⟨v, z⟩ := I.cell x c e
    exact ⟨v, cellK x c e v z⟩
  · obtain ⟨m, ⟨o, _, _, ho, _⟩, _⟩ := I.loc
    exact free _ o (fun z => (hch _ z).2.1 rfl) ho I.free
  · obtain ⟨v, o, ho, hd⟩ := I.cell x c e
    exact free c o (fun z => (hch c z).2.2.1 x c e rfl) ho (I.freeC x c e)
  · obtain ⟨e, n, ne, nf, d⟩ := I.pin p hp
    have nch : p.1 ∉ ch := fun z => (hch p.1 z).2.2.2 p hp rfl
    exact ⟨keep p.1 p.2 ne nf nch e n, free p.1 p.2 nch e n, ne, nf, d⟩
/-- .. where the frame's own object is kept too -/
theorem Inv.un {t' : Nat} (I : Inv X pins σ H s) (u : Un X.fs [] H H' s.heap h') (hok : HOk X.prog X.w H' h') : Inv X pins σ H' { s with heap := h', toks := t' } := by
  obtain ⟨m, ⟨o, es, ep, ho, r⟩, _⟩ := id I.loc
  obtain ⟨sl, hL⟩ := u.any ho I.free (by simp)
  exact I.step (g' := s.gens) (d' := s.drawn) (ch := []) (fun _ z => nomatch z) (fun b o _ hb _ e n => u.keep b o e n hb (by simp)) (fun b o _ hb _ e n => u.slot b o e n hb (by simp)) (fun b o _ e n => u.free b o e n (by simp)) (fun b o _ e => u.there b o e (by simp)) u.tups u.frzs u.tbls (fun m' hm => by
    obtain ⟨o', es', ep', ho', r'⟩ := hm
    rw [ho] at ho'; cases ho'
    exact ⟨_, es', ep', hL, r'⟩) hok I.bare
/-- behind a call (or a comprehension's block): the slots of this frame may have changed too, the records at ch may have turned -/
theorem Inv.call {g' : Array GenState} {t' : Nat} {d' : Drawn} {ch : List Addr} (I : Inv X pins σ H s) (u : Un (frs X.stack) ch H H' s.heap h') (hok : HOk X.prog X.w H' h') (hg : AllBare g')
    (hch : ∀ b ∈ ch, (b ∈ X.ex ∨ X.s_0.heap.objs.size ≤ b) ∧ b ≠ X.env.locals ∧ (∀ x c, X.env.cells.lookup x = some c → c ≠ b) ∧ ∀ p ∈ X.pn ++ pins, p.1 ≠ b) :
    Inv X pins σ H' { s with heap := h', gens := g', drawn := d', toks := t' } := by
  obtain ⟨m, ⟨o, es, ep, ho, r⟩, _⟩ := id I.loc
  obtain ⟨sl, hL⟩ := u.any ho I.free fun z => (hch _ z).2.1 rfl
  exact I.step (ch := ch) hch (fun b o hL hb hc e n => u.keep b o e n (fun z => (List.mem_cons.mp (I.stkSub b z)).elim hL hb) hc) (fun b o _ _ hc e n => u.any e n hc) (fun b o hc e n => u.free b o e n hc) (fun b o hc e => u.there b o e hc) u.tups u.frzs u.tbls (fun m' hm => by
    obtain ⟨o', es', ep', ho', r'⟩ := hm
    rw [ho] at ho'; cases ho'
    exact ⟨_, es', ep', hL, r'⟩) hok hg
/-- an untracked record of ours (an iterator) has turned -/
theorem Inv.turned {t' : Nat} {it : Addr} (I : Inv X pins σ H s) (k : ∀ b o, b ≠ it → s.heap.get? b = some o → h'.get? b = some o) (hn : H it = none) (hL : it ≠ X.env.locals)
    (h1 : it ∈ X.ex ∨ X.s_0.heap.objs.size ≤ it) (h2 : ∀ x c, X.env.cells.lookup x = some c → c ≠ it) (h3 : ∀ p ∈ X.pn ++ pins, p.1 ≠ it) : Inv X pins σ H { s with heap := h', toks := t' } := by
  have nit : ∀ b u, H b = some u → b ≠ it := fun b u e z => by rw [z, hn] at e; cases e
  refine I.step (g' := s.gens) (d' := s.drawn) (ch := [it]) (fun b hb => ?_) (fun b o _ _ hc e _ => k b o (fun z => hc (by simp [z])) e) (fun b o _ _ hc e _ => ⟨o.slots, k b o (fun z => hc (by simp [z])) e⟩) (fun _ _ _ _ n => n)
    (fun b o hc e => ⟨o, k b o (fun z => hc (by simp [z])) e⟩) (fun _ _ e => e) (fun _ _ _ e => e) (fun b ps e => ⟨#[], by rw [e]; simp⟩) (fun m hm => ?_) (fun b u e => ?_) I.bare
  · have e : b = it := by simpa using hb
    subst e
    exact ⟨h1, hL, h2, h3⟩
  · obtain ⟨o, es, ep, ho, r⟩ := hm
    exact ⟨o, es, ep, k _ o (Ne.symm hL) ho, r⟩
  · refine (I.hok b u e).stay (fun c v hc q => k c v ?_ q) (fun _ q => q) fun _ _ q => q
    rcases hc with z | z
    · rw [z]; exact nit b u e
    · exact nit c _ z
theorem Inv.tok (I : Inv X pins σ H s) (t : Nat) : Inv X pins σ H { s with toks := t } := I.un (h' := s.heap) (t' := t) Un.refl I.hok
/-- all objects kept -/
theorem Inv.kept {t' : Nat} (I : Inv X pins σ H s) (k : ∀ b u, s.heap.get? b = some u → h'.get? b = some u) : Inv X pins σ H { s with heap := h', toks := t' } := I.un (Un.kept k) (I.hok.kept k)
/-- a new object laid and tracked -/
theorem Inv.laid {a : Addr} {o : HO} {t' : Nat} (I : Inv X pins σ H s) (k : ∀ b u, s.heap.get? b = some u → h'.get? b = some u) (hp : s.heap.objs.size ≤ a) (new : ObjOk X.prog X.w (upd H a o) h' a o) :
    Inv X pins σ (upd H a o) { s with heap := h', toks := t' } := I.un (Un.laid k hp (I.hok.fresh hp)) (I.hok.laid k hp new)
/-- an object written -/
theorem Inv.write {x e : Addr} {o : HO} {t' : Nat} (I : Inv X pins σ H s) (mu : Mut (H x)) (he : e = x ∨ H e = some (.own x)) (k : ∀ b u, b ≠ e → s.heap.get? b = some u → h'.get? b = some u) (heo : ∃ u, h'.get? e = some u)
    (new : ObjOk X.prog X.w (upd H x o) h' x o) : Inv X pins σ (upd H x o) { s with heap := h', toks := t' } := I.un (Un.write mu he k heo) (I.hok.write mu he k heo new)
/-- forgetting slots, pins -/
theorem Inv.weak {σ' : List (Option V)} (I : Inv X pins σ H s) (hl : σ'.length = σ.length) (w : ∀ (i : Nat) v, σ'[i]? = some (some v) → σ[i]? = some (some v)) : Inv X pins σ' H s :=
  ⟨I.ok, I.os, I.bare, I.base, let ⟨m, hn, hl'⟩ := I.loc; ⟨m, hn, fun i x v e1 e2 e3 => hl' i x v e1 (w i v e2) e3⟩, I.cell, I.free, I.freeC, I.pin, I.hok, hl.trans I.len⟩
theorem Inv.pins_of {pins' : List (Addr × Obj)} (I : Inv X pins σ H s) (h : ∀ p ∈ pins', s.heap.get? p.1 = some p.2 ∧ H p.1 = none ∧ p.1 ≠ X.env.locals ∧ p.1 ∉ X.fs ∧ ∀ v, p.2.data ≠ .cell v) : Inv X pins' σ H s :=
  ⟨I.ok, I.os, I.bare, I.base, I.loc, I.cell, I.free, I.freeC, fun p hp => (List.mem_append.mp hp).elim (fun z => I.pin p (List.mem_append_left _ z)) (h p), I.hok, I.len⟩

theorem nodup_ix {N : List Str} (hN : N.Nodup) {i j : Nat} {x : Str} (a : N[i]? = some x) (b : N[j]? = some x) : i = j := by
  obtain ⟨h1, e1⟩ := List.getElem?_eq_some_iff.mp a
  obtain ⟨h2, e2⟩ := List.getElem?_eq_some_iff.mp b
  exact (List.getElem_inj hN).mp (e1.trans e2.symm)

/-- a name is stored; what changed -/
theorem store_ok2 {M : Model} {A : Around} {E : Value → Shared → Prop} {i : Nat} {x : Str} {v : V} {u : Value} {Q : Unit → Shared → Prop} (I : Inv X pins σ H s) (hN : X.N.Nodup) (hi : X.N[i]? = some x) (hx : Loc X.env.scope x) (r : RelV v u)
    (h : ∀ s', Inv X pins (σ.set i (some v)) H s' → (∃ a, Heap.SameBut a s.heap s'.heap ∧ (a = X.env.locals ∨ X.env.cells.lookup x = some a)) → Q () s') (hf : X.fn x = true ∨ X.env.scope.names.lookup x = some .local := by first | exact .inl rfl | exact .inr rfl | assumption) : wpAny M A (storeName X.env x u) Q E s := by
  obtain ⟨m, hn, hl⟩ := id I.loc
  have hcls : (X.env.scope.kind == .class || (X.env.scope.kind == .module && X.env.locals != X.env.globals)) = false := by rw [I.ok.kind]; rfl
  have hiσ : i < σ.length := by rw [I.len]; exact (List.getElem?_eq_some_iff.mp hi).1
  have cne := I.cne
  have tracked : ∀ {a : Addr} {h' : Heap}, (∃ o, s.heap.get? a = some o ∧ H a = none) → Heap.SameBut a s.heap h' → HOk X.prog X.w H h' := fun {a h'} ha hs b ob e => by
    obtain ⟨_, _, hfree⟩ := ha
    refine (I.hok b ob e).stay (fun c w' hc q => (hs.2 c ?_).trans q) (fun _ q => q) fun _ _ q => q
    rintro rfl
    rcases hc with rfl | hc
    · rw [hfree] at e; cases e
    · rw [hfree] at hc; cases hc
  rcases hx with hk | hk
  · refine wpAny_storeName_local hk hn (fun h' hn' hs => ?_) hcls
    obtain ⟨oL, _, _, hoL, _⟩ := id hn
    refine h _ ⟨I.ok, I.os, I.bare, ⟨fun b o e n hb hx => ?_, fun b o e n hb hx => ?_, I.base.free, fun b o e hx => ?_, I.base.tups, I.base.frzs, I.base.tbls⟩, ⟨_, hn', fun j y v' e1 e2 e3 => ?_⟩, fun y c e => ?_, I.free, I.freeC, fun p hp => ?_, tracked ⟨oL, hoL, I.free⟩ hs, by simpa using I.len⟩ ⟨_, hs, .inl rfl⟩
    · exact (hs.2 b (Nat.ne_of_lt (Nat.lt_of_lt_of_le (Heap.lt_size e) I.ok.above))).trans (I.base.keep b o e n hb hx)
    · obtain ⟨sl, e1⟩ := I.base.slot b o e n hb hx
      exact ⟨sl, (hs.2 b (Nat.ne_of_lt (Nat.lt_of_lt_of_le (Heap.lt_size e) I.ok.above))).trans e1⟩
    · obtain ⟨o', e1⟩ := I.base.there b o e hx
      exact ⟨o', (hs.2 b (Nat.ne_of_lt (Nat.lt_of_lt_of_le (Heap.lt_size e) I.ok.above))).trans e1⟩
    · by_cases hj : j = i
      · subst hj
        rw [hi] at e1; cases e1
        rw [List.getElem?_set_self hiσ] at e2
        cases e2
        exact ⟨u, r, .inl ⟨hk, by simp⟩⟩
      · rw [List.getElem?_set_ne (Ne.symm hj)] at e2
        obtain ⟨u', r', q⟩ := hl j y v' e1 e2 e3
        refine ⟨u', r', ?_⟩
        rcases q with ⟨k, e⟩ | ⟨k, c, e, z⟩
        · refine .inl ⟨k, ?_⟩
          have : y ≠ x := fun e => hj (nodup_ix hN e1 (e ▸ hi))
          simp [this, e]
        · exact .inr ⟨k, c, e, z.sameBut hs (cne y c e)⟩
    · obtain ⟨w', z⟩ := I.cell y c e
      exact ⟨w', z.sameBut hs (cne y c e)⟩
    · obtain ⟨e, n, ne, nf, d⟩ := I.pin p hp
      exact ⟨(hs.2 p.1 ne).trans e, n, ne, nf, d⟩
  · have hfn : X.fn x = true := by
      rcases hf with z | z
      · exact z
      · rw [z] at hk; cases hk
    obtain ⟨c, hc⟩ := I.ok.has x (.inl hk)
    obtain ⟨w', z⟩ := I.cell x c hc
    refine wpAny_storeName_cell I.ok.kind hk hc z (fun h' hc' hs => ?_)
    obtain ⟨oc, hoc, hocd⟩ := id z
    refine h { s with heap := h' } ⟨I.ok, I.os, I.bare, ⟨fun b o e n hb hx => ?_, fun b o e n hb hx => ?_, I.base.free, fun b o e hx => ?_, I.base.tups, I.base.frzs, I.base.tbls⟩, ⟨m, hn.sameBut hs (Ne.symm (cne x c hc)), fun j y v' e1 e2 e3 => ?_⟩, fun y c' e => ?_, I.free, I.freeC, fun p hp => ?_, tracked ⟨oc, hoc, I.freeC x c hc⟩ hs, by simpa using I.len⟩ ⟨c, hs, .inr hc⟩
    · exact (hs.2 b (Nat.ne_of_lt (Nat.lt_of_lt_of_le (Heap.lt_size e) (I.ok.cab x c hfn hc)))).trans (I.base.keep b o e n hb hx)
    · obtain ⟨sl, e1⟩ := I.base.slot b o e n hb hx
      exact ⟨sl, (hs.2 b (Nat.ne_of_lt (Nat.lt_of_lt_of_le (Heap.lt_size e) (I.ok.cab x c hfn hc)))).trans e1⟩
    · obtain ⟨o', e1⟩ := I.base.there b o e hx
      exact ⟨o', (hs.2 b (Nat.ne_of_lt (Nat.lt_of_lt_of_le (Heap.lt_size e) (I.ok.cab x c hfn hc)))).trans e1⟩
    · by_cases hj : j = i
      · subst hj
        rw [hi] at e1; cases e1
        rw [List.getElem?_set_self hiσ] at e2
        cases e2
        exact ⟨u, r, .inr ⟨.inl hk, c, hc, hc'⟩⟩
      · rw [List.getElem?_set_ne (Ne.symm hj)] at e2
        obtain ⟨u', r', q⟩ := hl j y v' e1 e2 e3
        refine ⟨u', r', ?_⟩
        rcases q with q | ⟨k, c', e, z'⟩
        · exact .inl q
        · refine .inr ⟨k, c', e, z'.sameBut hs ?_⟩
          rintro rfl
          exact hj (nodup_ix hN e1 (I.ok.inj _ _ _ e hc ▸ hi))
    · by_cases hcc : c' = c
      · subst hcc; exact ⟨_, hc'⟩
      · obtain ⟨w2, z2⟩ := I.cell y c' e
        exact ⟨w2, z2.sameBut hs hcc⟩
    · obtain ⟨e, n, ne, nf, d⟩ := I.pin p hp
      refine ⟨(hs.2 p.1 ?_).trans e, n, ne, nf, d⟩
      intro q
      rw [q, hoc] at e
      have q' : oc = p.2 := Option.some.inj e
      exact d w' (by rw [← q']; exact hocd)
theorem store_ok {M : Model} {A : Around} {E : Value → Shared → Prop} {i : Nat} {x : Str} {v : V} {u : Value} {Q : Unit → Shared → Prop} (I : Inv X pins σ H s) (hN : X.N.Nodup) (hi : X.N[i]? = some x) (hx : Loc X.env.scope x) (r : RelV v u)
    (h : ∀ s', Inv X pins (σ.set i (some v)) H s' → Q () s') (hf : X.fn x = true ∨ X.env.scope.names.lookup x = some .local := by first | exact .inl rfl | exact .inr rfl | assumption) : wpAny M A (storeName X.env x u) Q E s :=
  store_ok2 I hN hi hx r (fun s' I' _ => h s' I') hf
/-- behind a call or a block, the state as it is -/
theorem Inv.call' {s' : Shared} {ch : List Addr} (I : Inv X pins σ H s) (ho : s'.os = s.os) (u : Un (frs X.stack) ch H H' s.heap s'.heap) (hok : HOk X.prog X.w H' s'.heap) (hg : AllBare s'.gens)
    (hch : ∀ b ∈ ch, (b ∈ X.ex ∨ X.s_0.heap.objs.size ≤ b) ∧ b ≠ X.env.locals ∧ (∀ x c, X.env.cells.lookup x = some c → c ≠ b) ∧ ∀ p ∈ X.pn ++ pins, p.1 ≠ b) : Inv X pins σ H' s' := by
  obtain ⟨h', g', d', t', o'⟩ := s'
  have e : o' = s.os := ho
  subst e
  exact I.call (g' := g') (t' := t') (d' := d') u hok hg hch
end

/-! ### the judgements -/
/-- an exception: its class, its own dict's address (where it has one), the abstract heap behind it -/
abbrev XK := Value → Option Addr → Hp → Prop
abbrev St := List (Option V)
abbrev VK := V → Hp → Prop
/-- an expression's reading; a test's; an argument list's -/
abbrev TE := St → Hp → VK → Prop
abbrev TT := St → Hp → (Bool → Hp → Prop) → Prop
abbrev TA := St → Hp → (List V → Hp → Prop) → Prop
/-- what is wanted behind a statement -/
structure Ends where
  nx : St → Hp → Prop
  rt : VK
  bk : St → Hp → Prop := fun _ _ => False
  ct : St → Hp → Prop := fun _ _ => False
abbrev TS := Ends → St → Hp → Prop

def EP (X : Cx) (pins : List (Addr × Obj)) (σ : St) (Q : VK) (u : Value) (s' : Shared) : Prop := ∃ v H', Inv X pins σ H' s' ∧ RelV v u ∧ Q v H'
def TP (X : Cx) (pins : List (Addr × Obj)) (σ : St) (Q : Bool → Hp → Prop) (b : Bool) (s' : Shared) : Prop := ∃ H', Inv X pins σ H' s' ∧ Q b H'
def AP (X : Cx) (pins : List (Addr × Obj)) (σ : St) (Q : List V → Hp → Prop) (us : List Value) (s' : Shared) : Prop := ∃ vs H', Inv X pins σ H' s' ∧ Vals vs us ∧ Q vs H'
def SP (X : Cx) (pins : List (Addr × Obj)) (D : Ends) (f : Flow) (s' : Shared) : Prop :=
  match f with
  | .next => ∃ σ' H', Inv X pins σ' H' s' ∧ D.nx σ' H'
  | .brk => ∃ σ' H', Inv X pins σ' H' s' ∧ D.bk σ' H'
  | .cont => ∃ σ' H', Inv X pins σ' H' s' ∧ D.ct σ' H'
  | .ret u => ∃ v σ' H', Inv X pins σ' H' s' ∧ RelV v u ∧ D.rt v H'

def PE (X : Cx) (e : Expr) (t : TE) : Prop :=
  ∀ (pins : List (Addr × Obj)) (s : Shared) (σ : St) (H : Hp) (Q : VK), Inv X pins σ H s → t σ H Q → wpAny (model X.prog X.w) X.A (eval e X.env) (EP X pins σ Q) X.xe s
def PT (X : Cx) (e : Expr) (t : TT) : Prop :=
  ∀ (pins : List (Addr × Obj)) (s : Shared) (σ : St) (H : Hp) (Q : Bool → Hp → Prop), Inv X pins σ H s → t σ H Q → wpAny (model X.prog X.w) X.A (isTrue e X.env (eval e X.env)) (TP X pins σ Q) X.xe s
/-- a test whatever its 'whole' is (and, or) -/
def PW (X : Cx) (e : Expr) (t : TT) : Prop :=
  ∀ (whole : Sem Value) (pins : List (Addr × Obj)) (s : Shared) (σ : St) (H : Hp) (Q : Bool → Hp → Prop), Inv X pins σ H s → t σ H Q → wpAny (model X.prog X.w) X.A (isTrue e X.env whole) (TP X pins σ Q) X.xe s
theorem PW.pt {X : Cx} {e : Expr} {t : TT} (h : PW X e t) : PT X e t := h _
/-- an argument list (no star), from the left -/
def PA (X : Cx) (es : List Expr) (t : TA) : Prop :=
  ∀ (pos : Pos) (pins : List (Addr × Obj)) (s : Shared) (σ : St) (H : Hp) (Q : List V → Hp → Prop), Inv X pins σ H s → t σ H Q → wpAny (model X.prog X.w) X.A (spliced (backTo pos (starEach es X.env))) (AP X pins σ Q) X.xe s
def PS (X : Cx) (st : Stmt) (t : TS) : Prop :=
  ∀ (pins : List (Addr × Obj)) (s : Shared) (σ : St) (H : Hp) (D : Ends), Inv X pins σ H s → t D σ H → wpAny (model X.prog X.w) X.A (exec st X.env) (SP X pins D) X.xe s
def PSs (X : Cx) (st : List Stmt) (t : TS) : Prop :=
  ∀ (pins : List (Addr × Obj)) (s : Shared) (σ : St) (H : Hp) (D : Ends), Inv X pins σ H s → t D σ H → wpAny (model X.prog X.w) X.A (execs st X.env) (SP X pins D) X.xe s
/-- weaken the end -/
theorem thn {α : Type} {t : Sem α} {Q Q' : α → Shared → Prop} {M : Model} {A : Around} {E : Value → Shared → Prop} {s : Shared} (h : wpAny M A t Q E s) (hQ : ∀ a s, Q a s → Q' a s) : wpAny M A t Q' E s := wpAny_mono h hQ fun _ _ x => x
end L2

namespace L2
open PySem PySem.Spec PyProof.Rows
section
variable {X : Cx}

/-- two expressions in a row -/
theorem bin {a b : Expr} {ta tb : TE} (ha : PE X a ta) (hb : PE X b tb) {pins : List (Addr × Obj)} {s : Shared} {σ : St} {H : Hp} {R : V → V → Hp → Prop} (I : Inv X pins σ H s) (h : ta σ H fun x H1 => tb σ H1 fun y H2 => R x y H2)
    {α : Type} {Q : α → Shared → Prop} {f : Value → Value → Sem α}
    (hf : ∀ v u s2 x y H2, Inv X pins σ H2 s2 → RelV x v → RelV y u → R x y H2 → wpAny (model X.prog X.w) X.A (f v u) Q X.xe s2) :
    wpAny (model X.prog X.w) X.A (eval a X.env) (fun v s₁ => wpAny (model X.prog X.w) X.A (eval b X.env) (fun u s₂ => wpAny (model X.prog X.w) X.A (f v u) Q X.xe s₂) X.xe s₁) X.xe s := by
  refine thn (ha pins s σ H _ I h) fun v s1 ⟨x, H1, I1, r1, q1⟩ => ?_
  refine thn (hb pins s1 σ H1 _ I1 q1) fun u s2 ⟨y, H2, I2, r2, q2⟩ => ?_
  exact hf v u s2 x y H2 I2 r1 r2 q2

/-! ### names and constants -/
def tVar (i : Nat) : TE := fun σ H Q => ∃ v, σ[i]? = some (some v) ∧ Q v H
def tC (v : V) : TE := fun _ H Q => Q v H
theorem pe_var {i : Nat} {x : Str} {pos : Pos} (hN : X.N[i]? = some x) (hv : Vis X.env.scope x) (hd : (x == ("__debug__" : Str)) = false := by decide) (hcd : (x == ("__classdict__" : Str)) = false := by decide) : PE X (.Name x pos) (tVar i) := by
  intro pins s σ H Q I h
  obtain ⟨v, e, h⟩ := h
  obtain ⟨m, hn, hl⟩ := I.loc
  obtain ⟨u, r, l⟩ := hl i x v hN e hv
  have fin : EP X pins σ Q u s := ⟨v, H, I, r, h⟩
  rcases l with ⟨hk, hm⟩ | ⟨hk, c, hc, hcell⟩
  · exact wpAny_Name (wpAny_loadName_local I.ok.kind hk hn hm fin) hd
  · rcases hk with hk | hk
    · exact wpAny_Name (wpAny_loadName_cell I.ok.kind hk hc hcell fin) hd
    · exact wpAny_Name (wpAny_loadName_free I.ok.kind hk hc hcell fin hcd) hd
theorem pe_int {i j pos} : PE X (.Constant (.int i) j pos) (tC (.int i)) := fun _ _ _ H _ I h => wpAny_Constant_int ⟨.int i, H, I.tok _, ⟨_, rfl⟩, h⟩
theorem pe_bl {b j pos} : PE X (.Constant (.bool b) j pos) (tC (.bl b)) := fun _ _ _ H _ I h => Constant_bool ⟨.bl b, H, I, rfl, h⟩
theorem pe_non {j pos} : PE X (.Constant .none j pos) (tC .non) := fun _ _ _ H _ I h => Constant_none ⟨.non, H, I, rfl, h⟩
theorem pe_str {x j pos} : PE X (.Constant (.str x) j pos) (tC (.str x)) := fun _ _ _ H _ I h => Calls.Constant_str ⟨.str x, H, I.tok _, ⟨_, rfl⟩, h⟩

/-- a global name of the def -/
def Gl (X : Cx) (x : Str) : Prop := X.env.kindOf x = some .globalImplicit
theorem ld_glob {E : Value → Shared → Prop} {pins : List (Addr × Obj)} {s : Shared} {σ : St} {H : Hp} {x : Str} {u : Value} {pos : Pos} {Q : Value → Shared → Prop} (I : Inv X pins σ H s) (hg : Gl X x) (hm : X.mg x = some u) (h : Q u s)
    (hd : (x == ("__debug__" : Str)) = false := by decide) : wpAny (model X.prog X.w) X.A (eval (.Name x pos) X.env) Q E s :=
  Calls.Name_function_global I.ok.kind hg (Calls.loadGlobal_global (by rw [I.ok.glob]; exact I.mod.glob.keeps I.bk) hm h) hd
theorem ld_blt {E : Value → Shared → Prop} {pins : List (Addr × Obj)} {s : Shared} {σ : St} {H : Hp} {x : Str} {u : Value} {pos : Pos} {Q : Value → Shared → Prop} (I : Inv X pins σ H s) (hg : Gl X x) (hm : X.mg x = none) (hv : bootBuiltins x = some u) (h : Q u s)
    (hn : x ≠ "__name__" := by decide) (hd : (x == ("__debug__" : Str)) = false := by decide) : wpAny (model X.prog X.w) X.A (eval (.Name x pos) X.env) Q E s := by
  obtain ⟨mb, h1, h2⟩ := I.mod.blt
  exact Calls.Name_function_global I.ok.kind hg (Calls.loadGlobal_builtin (by rw [I.ok.glob]; exact I.mod.glob.keeps I.bk) hm (by rw [I.ok.blt]; exact h1.keeps I.bk) ((h2 x hn).trans hv) h) hd
/-- a module's constant, a class, a function, as a value -/
theorem pe_glob {x : Str} {v : V} {u : Value} {pos : Pos} (hg : Gl X x) (hm : X.mg x = some u) (r : RelV v u) (hd : (x == ("__debug__" : Str)) = false := by decide) : PE X (.Name x pos) (tC v) :=
  fun _ _ _ H _ I h => ld_glob I hg hm ⟨v, H, I, r, h⟩ hd
theorem pe_bltn {x : Str} {v : V} {u : Value} {pos : Pos} (hg : Gl X x) (hm : X.mg x = none) (hv : bootBuiltins x = some u) (r : RelV v u) (hn : x ≠ "__name__" := by decide) (hd : (x == ("__debug__" : Str)) = false := by decide) : PE X (.Name x pos) (tC v) :=
  fun _ _ _ H _ I h => ld_blt I hg hm hv ⟨v, H, I, r, h⟩ hn hd

/-! ### arithmetic -/
/-- two ints -/
def t2I (ta tb : TE) (k : Int → Int → Hp → Prop) : St → Hp → Prop := fun σ H => ta σ H fun x H1 => tb σ H1 fun y H2 => ∃ i j, x = .int i ∧ y = .int j ∧ k i j H2
def tAdd (ta tb : TE) : TE := fun σ H Q => t2I ta tb (fun i j H2 => Q (.int (i + j)) H2) σ H
def tSub (ta tb : TE) : TE := fun σ H Q => t2I ta tb (fun i j H2 => Q (.int (i - j)) H2) σ H
/-- the left factor below 2^64 -/
def tMul (ta tb : TE) : TE := fun σ H Q => t2I ta tb (fun i j H2 => (-(2 ^ 64) < i ∧ i < 2 ^ 64) ∧ Q (.int (i * j)) H2) σ H
variable {a b : Expr} {ta tb : TE} {pos : Pos}
theorem pe_add (ha : PE X a ta) (hb : PE X b tb) : PE X (.BinOp a .Add b pos) (tAdd ta tb) := by
  intro pins s σ H Q I h
  refine wpAny_BinOp (bin ha hb I h fun v u s2 x y H2 I2 rx ry q => ?_)
  obtain ⟨i, j, rfl, rfl, q⟩ := q
  obtain ⟨t, rfl⟩ := rx
  obtain ⟨t', rfl⟩ := ry
  exact add_int ⟨.int _, H2, I2.tok _, ⟨_, rfl⟩, q⟩
theorem pe_sub (ha : PE X a ta) (hb : PE X b tb) : PE X (.BinOp a .Sub b pos) (tSub ta tb) := by
  intro pins s σ H Q I h
  refine wpAny_BinOp (bin ha hb I h fun v u s2 x y H2 I2 rx ry q => ?_)
  obtain ⟨i, j, rfl, rfl, q⟩ := q
  obtain ⟨t, rfl⟩ := rx
  obtain ⟨t', rfl⟩ := ry
  exact sub_int ⟨.int _, H2, I2.tok _, ⟨_, rfl⟩, q⟩
theorem pe_mul (ha : PE X a ta) (hb : PE X b tb) : PE X (.BinOp a .Mult b pos) (tMul ta tb) := by
  intro pins s σ H Q I h
  refine wpAny_BinOp (bin ha hb I h fun v u s2 x y H2 I2 rx ry q => ?_)
  obtain ⟨i, j, rfl, rfl, ⟨q1, q2⟩, q⟩ := q
  obtain ⟨t, rfl⟩ := rx
  obtain ⟨t', rfl⟩ := ry
  exact mul_int ⟨.int _, H2, I2.tok _, ⟨_, rfl⟩, q⟩ (.of_left (intBits_le_64 q1 q2))

/-! ### comparisons -/
def PC (X : Cx) (op : CmpOp) (a b : Expr) (t : TE) : Prop :=
  ∀ (pins : List (Addr × Obj)) (s : Shared) (σ : St) (H : Hp) (Q : VK), Inv X pins σ H s → t σ H Q →
    wpAny (model X.prog X.w) X.A (eval a X.env) (fun v s₁ => wpAny (model X.prog X.w) X.A (eval b X.env) (fun u s₂ => wpAny (model X.prog X.w) X.A (compareOp op v u) (EP X pins σ Q) X.xe s₂) X.xe s₁) X.xe s
theorem nobehind (b : Expr) {op : CmpOp} (h : op ≠ .In) (h2 : op ≠ .NotIn) : behindInMarks op b = false := by
  have e1 : (op == CmpOp.In) = false := by cases op <;> first | rfl | exact absurd rfl h
  have e2 : (op == CmpOp.NotIn) = false := by cases op <;> first | rfl | exact absurd rfl h2
  cases b <;> simp [behindInMarks, e1, e2]
def tCmp (p : Int → Int → Bool) (ta tb : TE) : TE := fun σ H Q => t2I ta tb (fun i j H2 => Q (.bl (p i j)) H2) σ H
abbrev tLt : TE → TE → TE := tCmp fun i j => decide (i < j)
abbrev tLe : TE → TE → TE := tCmp fun i j => decide (i ≤ j)
abbrev tGt : TE → TE → TE := tCmp fun i j => decide (j < i)
abbrev tGe : TE → TE → TE := tCmp fun i j => decide (j ≤ i)
abbrev tEqI : TE → TE → TE := tCmp fun i j => decide (i = j)
abbrev tNeI : TE → TE → TE := tCmp fun i j => !decide (i = j)
/-- a comparison of two ints, by its rule -/
theorem pc_int {op : CmpOp} {p : Int → Int → Bool} (ha : PE X a ta) (hb : PE X b tb)
    (rule : ∀ (i j : Int) (t u : Tok) (Q : Value → Shared → Prop) (s : Shared), Q (.bool (p i j)) s → wpAny (model X.prog X.w) X.A (compareOp op (.int i t) (.int j u)) Q X.xe s) : PC X op a b (tCmp p ta tb) := by
  intro pins s σ H Q I h
  refine bin ha hb I h fun v u s2 x y H2 I2 rx ry q => ?_
  obtain ⟨i, j, rfl, rfl, q⟩ := q
  obtain ⟨t, rfl⟩ := rx
  obtain ⟨t', rfl⟩ := ry
  exact rule i j t t' _ s2 ⟨.bl _, H2, I2, rfl, q⟩
theorem pc_lt (ha : PE X a ta) (hb : PE X b tb) : PC X .Lt a b (tLt ta tb) := pc_int ha hb fun _ _ _ _ _ _ h => lt_int h
theorem pc_le (ha : PE X a ta) (hb : PE X b tb) : PC X .LtE a b (tLe ta tb) := pc_int ha hb fun _ _ _ _ _ _ h => le_int h
theorem pc_gt (ha : PE X a ta) (hb : PE X b tb) : PC X .Gt a b (tGt ta tb) := pc_int ha hb fun _ _ _ _ _ _ h => gt_int h
theorem pc_ge (ha : PE X a ta) (hb : PE X b tb) : PC X .GtE a b (tGe ta tb) := pc_int ha hb fun _ _ _ _ _ _ h => ge_int h
theorem pc_eqI (ha : PE X a ta) (hb : PE X b tb) : PC X .Eq a b (tEqI ta tb) := pc_int ha hb fun _ _ _ _ _ _ h => eq_int (by rw [Bool.beq_eq_decide_eq]; exact h)
theorem pc_neI (ha : PE X a ta) (hb : PE X b tb) : PC X .NotEq a b (tNeI ta tb) := pc_int ha hb fun _ _ _ _ _ _ h => ne_int (by rw [bne, Bool.beq_eq_decide_eq]; exact h)
/-- is None -/
def tIsN (ta : TE) : TE := fun σ H Q => ta σ H fun x H1 => Q (.bl (decide (x = .non))) H1
def tNotN (ta : TE) : TE := fun σ H Q => ta σ H fun x H1 => Q (.bl (!decide (x = .non))) H1
theorem RelV.none_iff {x : V} {v : Value} (r : RelV x v) : (v == Value.none) = decide (x = .non) := by
  cases x with
  | non => cases r; rfl
  | bl _ => cases r; rfl
  | int _ => obtain ⟨t, rfl⟩ := r; rfl
  | str _ => obtain ⟨t, rfl⟩ := r; rfl
  | byt _ => obtain ⟨t, rfl⟩ := r; rfl
  | flt _ => obtain ⟨t, rfl⟩ := r; rfl
  | ref _ => cases r; rfl
  | ty _ => cases r; rfl
theorem pc_isN {j pos'} (ha : PE X a ta) : PC X .Is a (.Constant .none j pos') (tIsN ta) := by
  intro pins s σ H Q I h
  refine thn (ha pins s σ H _ I h) fun v s1 ⟨x, H1, I1, r1, q1⟩ => ?_
  exact Constant_none (is_none_gen ⟨.bl _, H1, I1, by rw [r1.none_iff]; rfl, q1⟩)
theorem pc_notN {j pos'} (ha : PE X a ta) : PC X .IsNot a (.Constant .none j pos') (tNotN ta) := by
  intro pins s σ H Q I h
  refine thn (ha pins s σ H _ I h) fun v s1 ⟨x, H1, I1, r1, q1⟩ => ?_
  exact Constant_none (isnot_none_gen ⟨.bl _, H1, I1, by rw [r1.none_iff]; rfl, q1⟩)
/-- a comparison as a value, as a test -/
def tB (t : TE) : TT := fun σ H Q => t σ H fun x H1 => ∃ c, x = .bl c ∧ Q c H1
theorem pe_cmp {op : CmpOp} {t : TE} (h : PC X op a b t) (h1 : behindInMarks op b = false := by first | exact nobehind _ (by decide) (by decide) | rfl) : PE X (.Compare a [op] [b] pos) t := fun pins s σ H Q I hw => wpAny_Compare1 (h pins s σ H Q I hw) h1
theorem pt_cmp {op : CmpOp} {t : TE} (h : PC X op a b t) (h1 : behindInMarks op b = false := by first | exact nobehind _ (by decide) (by decide) | rfl) : PT X (.Compare a [op] [b] pos) (tB t) := by
  intro pins s σ H Q I hw
  refine wpAny_isTrue_Compare1 (thn (h pins s σ H _ I hw) fun v s1 h1 => thn h1 fun u s2 h2 => thn h2 fun c s3 ⟨x, H1, I1, r1, q1⟩ => ?_) h1
  obtain ⟨d, rfl, q⟩ := q1
  cases r1
  exact wpAny_truthy_bool ⟨H1, I1, q⟩
/-- an expression whose value is a bool, as a test -/
theorem pt_val {e : Expr} {t : TE} (h : PE X e t) (he : ∀ whole, isTrue e X.env whole = (do let v ← whole; standAt e.pos; holding [v] (truthy v)) := by intro _; rfl) : PT X e (tB t) := by
  intro pins s σ H Q I hw
  refine isTrue_plain (thn (h pins s σ H _ I hw) fun v s1 ⟨x, H1, I1, r1, q1⟩ => ?_) (he _)
  obtain ⟨d, rfl, q⟩ := q1
  cases r1
  exact wpAny_truthy_bool ⟨H1, I1, q⟩

/-! ### and, or, not -/
variable {tA tB' : TT} {rest : List Expr}
def tAnd (t u : TT) : TT := fun σ H Q => t σ H fun c H1 => if c = true then u σ H1 Q else Q false H1
def tOr (t u : TT) : TT := fun σ H Q => t σ H fun c H1 => if c = true then Q true H1 else u σ H1 Q
def tNot (t : TT) : TT := fun σ H Q => t σ H fun c H1 => Q (!c) H1
theorem pw_and1 (ha : PT X a tA) : PW X (.BoolOp .And [a] pos) tA := by
  intro wh pins s σ H Q I h
  refine isTrue_and (thn (ha pins s σ H Q I h) fun c s1 e => ?_)
  cases c with
  | true => exact isTrue_and_nil e
  | false => exact e
theorem pw_or1 (ha : PT X a tA) : PW X (.BoolOp .Or [a] pos) tA := by
  intro wh pins s σ H Q I h
  refine isTrue_or (thn (ha pins s σ H Q I h) fun c s1 e => ?_)
  cases c with
  | false => exact isTrue_or_nil e
  | true => exact e
theorem pw_and (ha : PT X a tA) (hb : PW X (.BoolOp .And (b :: rest) pos) tB') : PW X (.BoolOp .And (a :: b :: rest) pos) (tAnd tA tB') := by
  intro wh pins s σ H Q I h
  refine isTrue_and (thn (ha pins s σ H _ I h) fun c s1 ⟨H1, I1, q1⟩ => ?_)
  cases c with
  | true => exact hb wh pins s1 σ H1 Q I1 q1
  | false => exact ⟨H1, I1, q1⟩
theorem pw_or (ha : PT X a tA) (hb : PW X (.BoolOp .Or (b :: rest) pos) tB') : PW X (.BoolOp .Or (a :: b :: rest) pos) (tOr tA tB') := by
  intro wh pins s σ H Q I h
  refine isTrue_or (thn (ha pins s σ H _ I h) fun c s1 ⟨H1, I1, q1⟩ => ?_)
  cases c with
  | true => exact ⟨H1, I1, q1⟩
  | false => exact hb wh pins s1 σ H1 Q I1 q1
theorem pt_not (ha : PT X a tA) : PT X (.UnaryOp .Not a pos) (tNot tA) := by
  intro pins s σ H Q I h
  exact isTrue_not (ha pins s σ H (fun c H1 => Q (!c) H1) I h)
/-- .. as values (bools) -/
def tAndV (ta tb : TE) : TE := fun σ H Q => ta σ H fun x H1 => ∃ c, x = .bl c ∧ if c = true then tb σ H1 Q else Q (.bl false) H1
def tOrV (ta tb : TE) : TE := fun σ H Q => ta σ H fun x H1 => ∃ c, x = .bl c ∧ if c = true then Q (.bl true) H1 else tb σ H1 Q
def tNotV (ta : TE) : TE := fun σ H Q => ta σ H fun x H1 => ∃ c, x = .bl c ∧ Q (.bl (!c)) H1
theorem pe_one {op} {t : TE} (h : PE X a t) : PE X (.BoolOp op [a] pos) t := fun pins s σ H Q I hw => BoolOp_one (h pins s σ H Q I hw)
theorem pe_and (ha : PE X a ta) (hb : PE X (.BoolOp .And (b :: rest) pos) tb) : PE X (.BoolOp .And (a :: b :: rest) pos) (tAndV ta tb) := by
  intro pins s σ H Q I h
  refine BoolOp_and (thn (ha pins s σ H _ I h) fun v s1 ⟨x, H1, I1, r1, q1⟩ => ?_)
  obtain ⟨c, rfl, q1⟩ := q1
  cases r1
  refine wpAny_truthy_bool ?_
  cases c with
  | true => exact hb pins s1 σ H1 Q I1 q1
  | false => exact ⟨.bl false, H1, I1, rfl, q1⟩
theorem pe_or (ha : PE X a ta) (hb : PE X (.BoolOp .Or (b :: rest) pos) tb) : PE X (.BoolOp .Or (a :: b :: rest) pos) (tOrV ta tb) := by
  intro pins s σ H Q I h
  refine BoolOp_or (thn (ha pins s σ H _ I h) fun v s1 ⟨x, H1, I1, r1, q1⟩ => ?_)
  obtain ⟨c, rfl, q1⟩ := q1
  cases r1
  refine wpAny_truthy_bool ?_
  cases c with
  | false => exact hb pins s1 σ H1 Q I1 q1
  | true => exact ⟨.bl true, H1, I1, rfl, q1⟩
theorem pe_not (ha : PE X a ta) : PE X (.UnaryOp .Not a pos) (tNotV ta) := by
  intro pins s σ H Q I h
  refine UnaryOp_ (thn (ha pins s σ H _ I h) fun v s1 ⟨x, H1, I1, r1, q1⟩ => ?_)
  obtain ⟨c, rfl, q1⟩ := q1
  cases r1
  exact not_of (wpAny_truthy_bool ⟨.bl (!c), H1, I1, rfl, q1⟩)
/-- a if t else b -/
def tIf (t : TT) (ta tb : TE) : TE := fun σ H Q => t σ H fun c H1 => if c = true then ta σ H1 Q else tb σ H1 Q
theorem pe_ifExp {c : Expr} (hc : PT X c tA) (ha : PE X a ta) (hb : PE X b tb) : PE X (.IfExp c a b pos) (tIf tA ta tb) := by
  intro pins s σ H Q I h
  refine wpAny_IfExp (thn (hc pins s σ H _ I h) fun d s1 ⟨H1, I1, q1⟩ => ?_)
  cases d with
  | true => exact ha pins s1 σ H1 Q I1 q1
  | false => exact hb pins s1 σ H1 Q I1 q1
end
end L2

namespace L2
open PySem PySem.Spec PyProof.Rows

/-! ### a list, a tuple that is read: tracked, frozen, or an object of the module -/
def SqL (K : PySem.W.Frag) (H : Hp) (a : Addr) (xs : List V) : Prop :=
  Rd H a (.lst xs) ∨
    ∃ (o : Obj) (its : Array Value) (n : Nat), K.lookup a = some o ∧ o.cls = .type "list" ∧ o.dict = none ∧ o.data = .seq its n ∧ its.size ≤ sizeLine ∧ Vals xs its.toList
def SqT (K : PySem.W.Frag) (H : Hp) (a : Addr) (xs : List V) : Prop :=
  Rd H a (.tup xs) ∨
    ∃ (o : Obj) (its : Array Value) (n : Nat), K.lookup a = some o ∧ o.cls = .type "tuple" ∧ o.data = .seq its n ∧ its.size ≤ sizeLine ∧ Vals xs its.toList
def absV : Value → Option V
  | .none => some .non
  | .bool b => some (.bl b)
  | .int i _ => some (.int i)
  | .str x _ => some (.str x)
  | .bytes b _ => some (.byt b)
  | .float b _ => some (.flt b)
  | .ref a => some (.ref a)
  | .type n => some (.ty n)
  | _ => none
theorem RelV.abs {x : V} {u : Value} (r : RelV x u) : absV u = some x := by
  cases x with
  | non => cases r; rfl
  | bl _ => cases r; rfl
  | int _ => obtain ⟨t, rfl⟩ := r; rfl
  | str _ => obtain ⟨t, rfl⟩ := r; rfl
  | byt _ => obtain ⟨t, rfl⟩ := r; rfl
  | flt _ => obtain ⟨t, rfl⟩ := r; rfl
  | ref _ => cases r; rfl
  | ty _ => cases r; rfl
theorem RelV.inj {x y : V} {u : Value} (r : RelV x u) (q : RelV y u) : x = y := Option.some.inj (r.abs.symm.trans q.abs)
theorem Vals.inj : ∀ {xs ys : List V} {us : List Value}, Vals xs us → Vals ys us → xs = ys
  | _, _, _, .nil, .nil => rfl
  | _, _, _, .cons r t, .cons r' t' => by rw [r.inj r', Vals.inj t t']
section
variable {X : Cx} {pins : List (Addr × Obj)} {σ : St} {H : Hp} {s : Shared} {a : Addr} {xs ys : List V}
theorem SqL.of {K : PySem.W.Frag} (h : H a = some (.lst xs)) : SqL K H a xs := .inl (.inl h)
theorem SqT.of {K : PySem.W.Frag} (h : H a = some (.tup xs)) : SqT K H a xs := .inl (.inl h)
theorem Inv.list (I : Inv X pins σ H s) (h : SqL X.K H a xs) : ∃ its : List Value, Vals xs its ∧ PlainL s.heap a its.toArray ∧ xs.length ≤ sizeLine := by
  rcases h with h | ⟨o, its, n, hk, hc, hd, hs, hz, r⟩
  · obtain ⟨z, its, n, r, e⟩ := h.ok I.hok
    exact ⟨its, r, ⟨_, n, e, rfl, rfl, rfl⟩, z⟩
  · refine ⟨its.toList, r, ⟨o, n, I.kIn a o hk, hc, hd, by simpa using hs⟩, ?_⟩
    have e := r.length
    simp only [Array.length_toList] at e
    omega
theorem Inv.tuple (I : Inv X pins σ H s) (h : SqT X.K H a xs) : ∃ its : List Value, Vals xs its ∧ IsTup s.heap a its.toArray ∧ xs.length ≤ sizeLine := by
  rcases h with h | ⟨o, its, n, hk, hc, hs, hz, r⟩
  · obtain ⟨z, its, r, p⟩ := h.ok I.hok
    exact ⟨its, r, p, z⟩
  · refine ⟨its.toList, r, ⟨o, I.kIn a o hk, hc, n, by simpa using hs⟩, ?_⟩
    have e := r.length
    simp only [Array.length_toList] at e
    omega
theorem Inv.list_inj (I : Inv X pins σ H s) (h : SqL X.K H a xs) (h' : SqL X.K H a ys) : xs = ys := by
  obtain ⟨its, r, ⟨o, n, e, _, _, d⟩, _⟩ := I.list h
  obtain ⟨its', r', ⟨o', n', e', _, _, d'⟩, _⟩ := I.list h'
  rw [e] at e'; cases e'
  rw [d] at d'
  injection d' with d1 _
  have : its = its' := by simpa using congrArg Array.toList d1
  subst this
  exact r.inj r'
theorem Inv.tuple_inj (I : Inv X pins σ H s) (h : SqT X.K H a xs) (h' : SqT X.K H a ys) : xs = ys := by
  obtain ⟨its, r, ⟨o, e, _, n, d⟩, _⟩ := I.tuple h
  obtain ⟨its', r', ⟨o', e', _, n', d'⟩, _⟩ := I.tuple h'
  rw [e] at e'; cases e'
  rw [d] at d'
  injection d' with d1 _
  have : its = its' := by simpa using congrArg Array.toList d1
  subst this
  exact r.inj r'
end

/-! ### another wish about exceptions -/
abbrev Cx.wish (X : Cx) (E : Value → Shared → Prop) : Cx := { X with xe := E }
/-- no exception leaves -/
abbrev Cx.nox (X : Cx) : Cx := X.wish fun _ _ => False
theorem Cx.Ok.wish {X : Cx} (ok : X.Ok) (E : Value → Shared → Prop) : (X.wish E).Ok :=
  ⟨ok.mod, ok.kind, ok.glob, ok.blt, ok.above, ok.inj, ok.has, ok.cab, ok.hd, ok.frames, ok.stk, ok.exf, ok.bs, ok.bsz, ok.noex, ok.exfs, ok.funs, ok.frf⟩
theorem Cx.Ok.unwish {X : Cx} {E : Value → Shared → Prop} (ok : (X.wish E).Ok) : X.Ok :=
  ⟨ok.mod, ok.kind, ok.glob, ok.blt, ok.above, ok.inj, ok.has, ok.cab, ok.hd, ok.frames, ok.stk, ok.exf, ok.bs, ok.bsz, ok.noex, ok.exfs, ok.funs, ok.frf⟩
section
variable {X : Cx} {pins : List (Addr × Obj)} {σ : St} {H : Hp} {s : Shared} {E : Value → Shared → Prop}
theorem Inv.wish (I : Inv X pins σ H s) (E : Value → Shared → Prop) : Inv (X.wish E) pins σ H s := ⟨I.ok.wish E, I.os, I.bare, I.base, I.loc, I.cell, I.free, I.freeC, I.pin, I.hok, I.len⟩
theorem Inv.unwish (I : Inv (X.wish E) pins σ H s) : Inv X pins σ H s := ⟨I.ok.unwish, I.os, I.bare, I.base, I.loc, I.cell, I.free, I.freeC, I.pin, I.hok, I.len⟩
theorem SP.unwish {D : Ends} {f : Flow} {s' : Shared} (h : SP (X.wish E) pins D f s') : SP X pins D f s' := by
  cases f with
  | next => obtain ⟨σ', H', I, q⟩ := h; exact ⟨σ', H', I.unwish, q⟩
  | brk => obtain ⟨σ', H', I, q⟩ := h; exact ⟨σ', H', I.unwish, q⟩
  | cont => obtain ⟨σ', H', I, q⟩ := h; exact ⟨σ', H', I.unwish, q⟩
  | ret u => obtain ⟨v, σ', H', I, r, q⟩ := h; exact ⟨v, σ', H', I.unwish, r, q⟩
theorem PE.nox {e : Expr} {t : TE} (h : PE X.nox e t) : PE X e t := fun pins s σ H Q I hw =>
  wpAny_mono (h pins s σ H Q (I.wish _) hw) (fun _ _ ⟨v, H', I', r, q⟩ => ⟨v, H', I'.unwish, r, q⟩) fun _ _ z => False.elim z
theorem PT.nox {e : Expr} {t : TT} (h : PT X.nox e t) : PT X e t := fun pins s σ H Q I hw =>
  wpAny_mono (h pins s σ H Q (I.wish _) hw) (fun _ _ ⟨H', I', q⟩ => ⟨H', I'.unwish, q⟩) fun _ _ z => False.elim z
theorem PSs.nox {st : List Stmt} {t : TS} (h : PSs X.nox st t) : PSs X st t := fun pins s σ H D I hw =>
  wpAny_mono (h pins s σ H D (I.wish _) hw) (fun _ _ q => q.unwish) fun _ _ z => False.elim z
end

/-! ### blocks and small statements -/
section
variable {X : Cx} {st : Stmt} {rest : List Stmt} {t u : TS} {e : Expr} {te : TE} {pos : Pos}
def tNext : TS := fun D σ H => D.nx σ H
def tSeq (t u : TS) : TS := fun D σ H => t { D with nx := u D } σ H
theorem pss_nil : PSs X [] tNext := fun _ _ σ H _ I h => wpAny_execs_nil ⟨σ, H, I, h⟩
theorem pss_cons (h1 : PS X st t) (h2 : PSs X rest u) : PSs X (st :: rest) (tSeq t u) := by
  intro pins s σ H D I h
  refine wpAny_execs_cons (thn (h1 pins s σ H { D with nx := u D } I h) fun f s1 q => ?_)
  cases f with
  | next =>
    obtain ⟨σ', H', I', q⟩ := q
    exact h2 pins s1 σ' H' D I' q
  | ret v => exact q
  | brk => exact q
  | cont => exact q
theorem pss_one (h1 : PS X st t) : PSs X [st] t := by
  intro pins s σ H D I h
  refine wpAny_execs_cons (thn (h1 pins s σ H D I h) fun f s1 q => ?_)
  cases f with
  | next => exact wpAny_execs_nil q
  | ret v => exact q
  | brk => exact q
  | cont => exact q
def tBreak : TS := fun D σ H => D.bk σ H
def tCont : TS := fun D σ H => D.ct σ H
theorem ps_pass : PS X (.Pass pos) tNext := fun _ _ σ H _ I h => wpAny_Pass ⟨σ, H, I, h⟩
theorem ps_break : PS X (.Break pos) tBreak := fun _ _ σ H _ I h => wpAny_Break ⟨σ, H, I, h⟩
theorem ps_continue : PS X (.Continue pos) tCont := fun _ _ σ H _ I h => wpAny_Continue ⟨σ, H, I, h⟩
/-- in a def's body nothing is shown -/
theorem Inv.quiet {pins : List (Addr × Obj)} {σ : St} {H : Hp} {s : Shared} (I : Inv X pins σ H s) : interactive X.env = false := by simp [interactive, I.ok.kind]
/-- a docstring -/
theorem ps_doc {x j pos pos'} : PS X (.Expr (.Constant (.str x) j pos) pos') tNext := fun _ s σ H _ I h => wpAny_Expr (Calls.Constant_str (show SP X _ _ .next { s with toks := s.toks + 1 } from ⟨σ, H, I.tok _, h⟩)) I.quiet
/-- an expression whose value is dropped -/
def tDrop (te : TE) : TS := fun D σ H => te σ H fun _ H1 => D.nx σ H1
theorem ps_expr (he : PE X e te) (hs : swapsWith e none pos.line X.env = pure false := by rfl) : PS X (.Expr e pos) (tDrop te) := by
  intro pins s σ H D I h
  exact wpAny_Expr_any (thn (he pins s σ H _ I h) fun v s1 ⟨x, H1, I1, r1, q1⟩ => ⟨σ, H1, I1, q1⟩) I.quiet hs
def tRet (te : TE) : TS := fun D σ H => te σ H D.rt
theorem ps_ret (he : PE X e te) : PS X (.Return (some e) pos) (tRet te) := by
  intro pins s σ H D I h
  exact wpAny_Return_some (thn (he pins s σ H _ I h) fun v s1 ⟨x, H1, I1, r1, q1⟩ => ⟨x, σ, H1, I1, r1, q1⟩)
def tRetN : TS := fun D _ H => D.rt .non H
theorem ps_retN : PS X (.Return none pos) tRetN := fun _ _ σ H _ I h => wpAny_Return_none ⟨.non, σ, H, I, rfl, h⟩
def tIfS (c : TT) (t u : TS) : TS := fun D σ H => c σ H fun b H1 => if b = true then t D σ H1 else u D σ H1
theorem ps_if {c : Expr} {a b : List Stmt} {tc : TT} (hc : PT X c tc) (ha : PSs X a t) (hb : PSs X b u) : PS X (.If c a b pos) (tIfS tc t u) := by
  intro pins s σ H D I h
  refine wpAny_If (thn (hc pins s σ H _ I h) fun d s1 ⟨H1, I1, q1⟩ => ?_)
  cases d with
  | true => exact ha pins s1 σ H1 D I1 q1
  | false => exact hb pins s1 σ H1 D I1 q1
/-- code that the proof never comes to -/
def tNever : TS := fun _ _ _ => False
theorem ps_never : PS X st tNever := fun _ _ _ _ _ _ h => h.elim
theorem pss_never {sts : List Stmt} : PSs X sts tNever := fun _ _ _ _ _ _ h => h.elim
end

/-! ### targets -/
abbrev TG := V → St → Hp → (St → Hp → Prop) → Prop
abbrev TGs := List V → St → Hp → (St → Hp → Prop) → Prop
def PG (X : Cx) (target : Expr) (t : TG) : Prop :=
  ∀ (pins : List (Addr × Obj)) (s : Shared) (σ : St) (H : Hp) (v : V) (u : Value) (Q : St → Hp → Prop), Inv X pins σ H s → RelV v u → t v σ H Q →
    wpAny (model X.prog X.w) X.A (assign target X.env u) (fun _ s' => ∃ σ' H', Inv X pins σ' H' s' ∧ Q σ' H') X.xe s
/-- several targets, one after another -/
def PGs (X : Cx) (ts : List Expr) (t : TGs) : Prop :=
  ∀ (pins : List (Addr × Obj)) (s : Shared) (σ : St) (H : Hp) (vs : List V) (us : List Value) (Q : St → Hp → Prop), Inv X pins σ H s → Vals vs us → t vs σ H Q →
    wpAny (model X.prog X.w) X.A (assignInOrder ((assignEach ts X.env).map (·.2)) us) (fun _ s' => ∃ σ' H', Inv X pins σ' H' s' ∧ Q σ' H') X.xe s
/-- o[i] = v, by values -/
abbrev TSet := V → V → V → Hp → (Hp → Prop) → Prop
def PSet (X : Cx) (t : TSet) : Prop :=
  ∀ (pins : List (Addr × Obj)) (s : Shared) (σ : St) (H : Hp) (o i v : V) (ov iv u : Value) (Q : Hp → Prop), Inv X pins σ H s → RelV o ov → RelV i iv → RelV v u → t o i v H Q →
    wpAny (model X.prog X.w) X.A (setItem ov iv u) (fun _ s' => ∃ H', Inv X pins σ H' s' ∧ Q H') X.xe s
/-- a op= b, by values -/
abbrev TIp := V → V → Hp → VK → Prop
def PIp (X : Cx) (op : Operator) (t : TIp) : Prop :=
  ∀ (pins : List (Addr × Obj)) (s : Shared) (σ : St) (H : Hp) (x y : V) (v u : Value) (Q : VK), Inv X pins σ H s → RelV x v → RelV y u → t x y H Q →
    wpAny (model X.prog X.w) X.A (inplaceOp op v u) (EP X pins σ Q) X.xe s
section
variable {X : Cx} {pos : Pos}
def gName (i : Nat) : TG := fun v σ H Q => Q (σ.set i (some v)) H
theorem pg_name {i : Nat} {x : Str} (hN : X.N.Nodup) (hi : X.N[i]? = some x) (hx : Loc X.env.scope x) (hf : X.fn x = true ∨ X.env.scope.names.lookup x = some .local := by first | exact .inl rfl | exact .inr rfl | assumption) : PG X (.Name x pos) (gName i) := by
  intro pins s σ H v u Q I r h
  exact wpAny_assign_Name (store_ok I hN hi hx r (fun s' I' => ⟨_, H, I', h⟩) hf)
def gNil : TGs := fun vs σ H Q => vs = [] ∧ Q σ H
def gCons (t : TG) (u : TGs) : TGs := fun vs σ H Q => ∃ v r, vs = v :: r ∧ t v σ H fun σ' H' => u r σ' H' Q
theorem pgs_nil : PGs X [] gNil := by
  intro pins s σ H vs us Q I r h
  obtain ⟨e, h⟩ := h
  subst e
  cases r
  exact assignInOrder_nil ⟨σ, H, I, h⟩
theorem pgs_cons {e : Expr} {es : List Expr} {t : TG} {u : TGs} (h1 : PG X e t) (h2 : PGs X es u)
    (hs : (assignEach (e :: es) X.env).map (·.2) = assign e X.env :: (assignEach es X.env).map (·.2) := by rfl) : PGs X (e :: es) (gCons t u) := by
  intro pins s σ H vs us Q I r h
  obtain ⟨v, vr, e1, h⟩ := h
  subst e1
  cases r with
  | cons r rr =>
    rw [hs]
    refine assignInOrder_cons (thn (h1 pins s σ H _ _ _ I r h) fun _ s1 ⟨σ1, H1, I1, q1⟩ => ?_)
    exact h2 pins s1 σ1 H1 _ _ Q I1 rr q1
/-- (a, b, ..) = a tuple of that length -/
def gTup (K : PySem.W.Frag) (n : Nat) (t : TGs) : TG := fun v σ H Q => ∃ a xs, v = .ref a ∧ SqT K H a xs ∧ xs.length = n ∧ t xs σ H Q
theorem pg_tup {es : List Expr} {k : Nat} {t : TGs} {n : Nat} (hc : X.calm = true) (h : PGs X es t)
    (hn : (assignEach es X.env).length = n := by rfl) (hst : (assignEach es X.env).findIdx? (·.1) = none := by rfl) : PG X (.Tuple es k pos) (gTup X.K n t) := by
  intro pins s σ H v u Q I r hw
  obtain ⟨a, xs, e1, hq, hl, hw⟩ := hw
  subst e1
  cases r
  obtain ⟨its, rv, ht, hz⟩ := I.tuple hq
  refine assign_Tuple_tuple (I.ok.hd hc) ht (by simp [hn, ← hl, rv.length]) hst fun h' hx => ?_
  have I1 : Inv X pins σ H { s with heap := h' } := I.kept (t' := s.toks) fun b o e => hx b o (Nat.ne_of_lt (Heap.lt_size e)) e
  exact h pins _ σ H xs _ Q I1 (by simpa using rv) hw
/-- o[i] = .. -/
def gSub (to ti : TE) (t : TSet) : TG := fun v σ H Q => to σ H fun o H1 => ti σ H1 fun i H2 => t o i v H2 fun H3 => Q σ H3
theorem pg_sub {o i : Expr} {to ti : TE} {t : TSet} (ho : PE X o to) (hi : PE X i ti) (hs : PSet X t)
    (ha : ∀ v, assign (.Subscript o i pos) X.env v = (do
      let ov ← holding [v] (eval o X.env)
      let iv ← holding [v, ov] (eval i X.env)
      standAt pos
      holding [v, ov, iv] (setItem ov iv v)
      release [v, ov, iv] []) := by intro _; rfl) : PG X (.Subscript o i pos) (gSub to ti t) := by
  intro pins s σ H v u Q I r h
  rw [ha]
  refine wpAny_bind (wpAny_holding (thn (ho pins s σ H _ I h) fun ov s1 ⟨x, H1, I1, r1, q1⟩ => ?_))
  refine wpAny_bind (wpAny_holding (thn (hi pins s1 σ H1 _ I1 q1) fun iv s2 ⟨y, H2, I2, r2, q2⟩ => ?_))
  refine wpAny_bind (wpAny_standAt (wpAny_bind (wpAny_holding (thn (hs pins s2 σ H2 x y v ov iv u _ I2 r1 r2 r q2) fun _ s3 ⟨H3, I3, q3⟩ => ?_))))
  exact wpAny_release ⟨σ, H3, I3, q3⟩
/-- target = value -/
def tAsg (te : TE) (g : TG) : TS := fun D σ H => te σ H fun x H1 => g x σ H1 D.nx
theorem ps_asg {tg e : Expr} {te : TE} {g : TG} (he : PE X e te) (hg : PG X tg g) (hs : swapsWithSole [tg] e pos.line X.env = pure false := by rfl) (hw : swappedStores [tg] e X.env = pure none := by rfl)
    (h1 : (assignEach [tg] X.env).map (·.2) = [assign tg X.env] := by rfl) : PS X (.Assign [tg] e pos) (tAsg te g) := by
  intro pins s σ H D I h
  refine wpAny_Assign_stores (thn (he pins s σ H _ I h) fun v s1 ⟨x, H1, I1, r1, q1⟩ => ?_) hs hw
  rw [h1]
  exact thn (hg pins s1 σ H1 x v _ I1 r1 q1) fun _ s2 q => q
/-- name = value -/
theorem ps_set {i : Nat} {x : Str} {e : Expr} {te : TE} {pos' : Pos} (hN : X.N.Nodup) (hi : X.N[i]? = some x) (hx : Loc X.env.scope x) (he : PE X e te) (hs : swapsWith e (some (.Name x pos')) pos.line X.env = pure false := by rfl) (hf : X.fn x = true ∨ X.env.scope.names.lookup x = some .local := by first | exact .inl rfl | exact .inr rfl | assumption) :
    PS X (.Assign [.Name x pos'] e pos) (tAsg te (gName i)) := by
  intro pins s σ H D I h
  refine wpAny_Assign_Name (thn (he pins s σ H _ I h) fun v s1 ⟨y, H1, I1, r1, q1⟩ => ?_) hs
  exact store_ok I1 hN hi hx r1 (fun s2 I2 => ⟨_, H1, I2, q1⟩) hf
/-- a, b = x, y with plain local names: stored from the right; the pair itself is not tracked (the opening rows as in PyProof/Rows/TupAssign.lean:23) -/
def tPar (i j : Nat) (ta : TA) : TS := fun D σ H => ta σ H fun vs H1 => ∃ v w, vs = [v, w] ∧ D.nx ((σ.set i (some v)).set j (some w)) H1
theorem ps_par {i j : Nat} {x y : Str} {a b : Expr} {ta : TA} {px py pt : Pos} {kt k2 pt2} (hc : X.calm = true) (hN : X.N.Nodup) (hi : X.N[i]? = some x) (hj : X.N[j]? = some y) (hij : i ≠ j)
    (hx : X.env.scope.names.lookup x = some .local) (hy : X.env.scope.names.lookup y = some .local) (ha : PA X [a, b] ta)
    (hw : swappedStores [.Tuple [.Name x px, .Name y py] kt pt] (.Tuple [a, b] k2 pt2) X.env = pure (some [x, y]))
    (hs : swapsWithSole [.Tuple [.Name x px, .Name y py] kt pt] (.Tuple [a, b] k2 pt2) pos.line X.env = pure false := by rfl) :
    PS X (.Assign [.Tuple [.Name x px, .Name y py] kt pt] (.Tuple [a, b] k2 pt2) pos) (tPar i j ta) := by
  intro pins s σ H D I h
  rw [exec_Assign_arm]
  refine wpAny_bind (wpAny_standAt ?_)
  rw [hs]
  refine wpAny_bind (wpAny_pure ?_)
  rw [if_neg (by decide)]
  refine wpAny_bind (Tuple_ (thn (ha _ pins s σ H _ I h) fun us s1 ⟨vs, H1, I1, r1, q1⟩ => ?_))
  obtain ⟨v, w, e1, q1⟩ := q1
  subst e1
  obtain ⟨u1, u2, rfl, rv, rw'⟩ : ∃ u1 u2, us = [u1, u2] ∧ RelV v u1 ∧ RelV w u2 := by
    cases r1 with
    | cons p q =>
      cases q with
      | cons p' q' =>
        cases q'
        exact ⟨_, _, rfl, p, p'⟩
  refine wpAny_newObj_type ?_ (by show 2 ≤ sizeLine; decide)
  have I2 : Inv X pins σ H1 { s1 with heap := s1.heap.push { cls := .type "tuple", data := .seq [u1, u2].toArray } } := I1.kept (t' := s1.toks) fun b o e => Heap.get?_push_of_some _ e
  rw [hw]
  refine wpAny_bind (wpAny_pure ?_)
  show wpAny (model X.prog X.w) X.A (do rule "assign.swapped-stores"; let items ← unpackItems (.ref s1.heap.objs.size) 2 none; assignInOrder [fun v => bindName X.env y v, fun v => bindName X.env x v] items.reverse; pure Flow.next) _ _ _
  refine wpAny_bind (wpAny_rule (wpAny_bind (unpackItems_tuple (items := #[u1, u2]) (I.ok.hd hc) (IsTup.new s1.heap _) fun h' hx' => ?_)))
  have I3 := I2.kept (h' := h') (t' := s1.toks) fun b o e => hx' b o (Nat.ne_of_lt (Heap.lt_size e)) e
  show wpAny _ _ (assignInOrder [fun v => bindName X.env y v, fun v => bindName X.env x v] [u2, u1] >>= fun _ => pure Flow.next) _ _ _
  refine wpAny_bind (assignInOrder_cons (wpAny_bindName (store_ok I3 hN hj (.inl hy) rw' (fun s2 I4 => ?_) (.inr hy))))
  refine assignInOrder_cons (wpAny_bindName (store_ok I4 hN hi (.inl hx) rv (fun s3 I5 => assignInOrder_nil (wpAny_pure ?_)) (.inr hx)))
  rw [List.set_comm _ _ (Ne.symm hij)] at I5
  exact ⟨_, H1, I5, q1⟩
/-- name op= e -/
def tAug (i : Nat) (te : TE) (ti : TIp) : TS := fun D σ H => ∃ x, σ[i]? = some (some x) ∧ te σ H fun y H1 => ti x y H1 fun z H2 => D.nx (σ.set i (some z)) H2
theorem ps_aug {i : Nat} {x : Str} {e : Expr} {te : TE} {op : Operator} {ti : TIp} {pos' : Pos} (hN : X.N.Nodup) (hi : X.N[i]? = some x) (hx : Loc X.env.scope x) (he : PE X e te) (ho : PIp X op ti) (hf : X.fn x = true ∨ X.env.scope.names.lookup x = some .local := by first | exact .inl rfl | exact .inr rfl | assumption) :
    PS X (.AugAssign (.Name x pos') op e pos) (tAug i te ti) := by
  intro pins s σ H D I h
  obtain ⟨v, e1, h⟩ := h
  obtain ⟨m, hn, hl⟩ := I.loc
  have vis : Vis X.env.scope x := by rcases hx with k | k; exact .inl k; exact .inr (.inl k)
  obtain ⟨u, r, l⟩ := hl i x v hi e1 vis
  refine wpAny_AugAssign_Name ?_
  have go : wpAny (model X.prog X.w) X.A (eval e X.env) (fun w s₂ => wpAny (model X.prog X.w) X.A (inplaceOp op u w) (fun r s₃ => wpAny (model X.prog X.w) X.A (storeName X.env x r) (fun _ => SP X pins D .next) X.xe s₃) X.xe s₂) X.xe s := by
    refine thn (he pins s σ H _ I h) fun w s1 ⟨y, H1, I1, r1, q1⟩ => ?_
    refine thn (ho pins s1 σ H1 v y u w _ I1 r r1 q1) fun z s2 ⟨zv, H2, I2, r2, q2⟩ => ?_
    exact store_ok I2 hN hi hx r2 (fun s3 I3 => ⟨_, H2, I3, q2⟩) hf
  rcases l with ⟨hk, hm⟩ | ⟨hk, c, hc, hcell⟩
  · exact wpAny_loadName_local I.ok.kind hk hn hm go
  · rcases hk with hk | hk
    · exact wpAny_loadName_cell I.ok.kind hk hc hcell go
    · rcases hx with k | k
      · have : X.env.scope.names.lookup x = some .free := hk
        rw [k] at this; cases this
      · have : X.env.scope.names.lookup x = some .free := hk
        rw [k] at this; cases this
/-- o[i] op= e -/
def tAugS (to ti te : TE) (tget : V → V → Hp → VK → Prop) (tip : TIp) (tset : TSet) : TS := fun D σ H => to σ H fun o H1 => ti σ H1 fun i H2 => tget o i H2 fun x H3 => te σ H3 fun y H4 => tip x y H4 fun z H5 => tset o i z H5 fun H6 => D.nx σ H6
/-- o[i], by values -/
def PGet (X : Cx) (t : V → V → Hp → VK → Prop) : Prop :=
  ∀ (pins : List (Addr × Obj)) (s : Shared) (σ : St) (H : Hp) (o i : V) (ov iv : Value) (Q : VK), Inv X pins σ H s → RelV o ov → RelV i iv → t o i H Q →
    wpAny (model X.prog X.w) X.A (getItem ov iv) (EP X pins σ Q) X.xe s
theorem ps_augS {o i e : Expr} {to ti te : TE} {tget : V → V → Hp → VK → Prop} {tip : TIp} {tset : TSet} {op : Operator} {tpos : Pos} (ho : PE X o to) (hi : PE X i ti) (hg : PGet X tget) (he : PE X e te) (hp : PIp X op tip) (hs : PSet X tset)
    (ha : ∀ ov iv new, augStore i ov iv new = (do holding [new, ov, iv] (setItem ov iv new); release [new, ov, iv] []; pure .next) := by intros; rfl) : PS X (.AugAssign (.Subscript o i tpos) op e pos) (tAugS to ti te tget tip tset) := by
  intro pins s σ H D I h
  refine wpAny_AugAssign_SubscriptAny (thn (ho pins s σ H _ I h) fun ov s1 ⟨x1, H1, I1, r1, q1⟩ => ?_) ha
  refine thn (hi pins s1 σ H1 _ I1 q1) fun iv s2 ⟨x2, H2, I2, r2, q2⟩ => ?_
  refine thn (hg pins s2 σ H2 x1 x2 ov iv _ I2 r1 r2 q2) fun old s3 ⟨x3, H3, I3, r3, q3⟩ => ?_
  refine thn (he pins s3 σ H3 _ I3 q3) fun v s4 ⟨x4, H4, I4, r4, q4⟩ => ?_
  refine thn (hp pins s4 σ H4 x3 x4 old v _ I4 r3 r4 q4) fun new s5 ⟨x5, H5, I5, r5, q5⟩ => ?_
  exact thn (hs pins s5 σ H5 x1 x2 x5 ov iv new _ I5 r1 r2 r5 q5) fun _ s6 ⟨H6, I6, q6⟩ => ⟨σ, H6, I6, q6⟩
/-- ints -/
def ipI (f : Int → Int → Int) : TIp := fun x y H Q => ∃ i j, x = .int i ∧ y = .int j ∧ Q (.int (f i j)) H
theorem ip_add : PIp X .Add (ipI fun i j => i + j) := by
  intro pins s σ H x y v u Q I r1 r2 h
  obtain ⟨i, j, e1, e2, q⟩ := h
  subst e1; subst e2
  obtain ⟨t, rfl⟩ := r1
  obtain ⟨t', rfl⟩ := r2
  exact iadd_int ⟨.int _, H, I.tok _, ⟨_, rfl⟩, q⟩
theorem ip_sub : PIp X .Sub (ipI fun i j => i - j) := by
  intro pins s σ H x y v u Q I r1 r2 h
  obtain ⟨i, j, e1, e2, q⟩ := h
  subst e1; subst e2
  obtain ⟨t, rfl⟩ := r1
  obtain ⟨t', rfl⟩ := r2
  exact isub_int ⟨.int _, H, I.tok _, ⟨_, rfl⟩, q⟩
end

/-! ### while -/
section
variable {X : Cx} {pos : Pos}
/-- the invariant W with its measure -/
def tWhile (c : TT) (tb : TS) : TS := fun D σ H => ∃ W : Nat → St → Hp → Prop, (∃ m, W m σ H) ∧ ∀ m σ H, W m σ H →
  c σ H fun b H1 => if b = true then ∃ N : St → Hp → Prop, (∀ σ' H', N σ' H' → ∃ m', m' < m ∧ W m' σ' H') ∧ tb { D with nx := N, ct := N, bk := D.nx } σ H1 else D.nx σ H1
theorem ps_while {c : Expr} {body : List Stmt} {tc : TT} {tb : TS} (hp : PassesOwn (model X.prog X.w) X.A X.env X.xe) (hc : PT X c tc) (hb : PSs X body tb) : PS X (.While c body [] pos) (tWhile tc tb) := by
  intro pins s σ H D I h
  obtain ⟨W, ⟨m0, w0⟩, turn⟩ := h
  refine wpAny_While (codeAny_whileLoop (fun n s' => ∃ σ' H', Inv X pins σ' H' s' ∧ W n σ' H') ?_ m0 ⟨σ, H, I, w0⟩)
  rintro n s1 ⟨σ1, H1, I1, w1⟩
  refine wpAny_passesOwn hp (thn (hc pins s1 σ1 H1 _ I1 (turn n σ1 H1 w1)) fun b s2 ⟨H2, I2, q2⟩ => ?_)
  cases b with
  | true =>
    obtain ⟨N, hN, q2⟩ := q2
    rw [if_pos rfl]
    refine wpAny_passesOwn hp (thn (hb pins s2 σ1 H2 _ I2 q2) fun f s3 q3 => ?_)
    cases f with
    | next =>
      obtain ⟨σ3, H3, I3, n3⟩ := q3
      obtain ⟨m', hm, w3⟩ := hN σ3 H3 n3
      exact ⟨m', hm, σ3, H3, I3, w3⟩
    | cont =>
      obtain ⟨σ3, H3, I3, n3⟩ := q3
      obtain ⟨m', hm, w3⟩ := hN σ3 H3 n3
      exact ⟨m', hm, σ3, H3, I3, w3⟩
    | brk => exact q3
    | ret v => exact q3
  | false =>
    rw [if_neg Bool.false_ne_true]
    exact wpAny_execs_nil ⟨σ1, H2, I2, q2⟩
end

/-! ### what a loop or a comprehension walks -/
/-- at turn i: it yields x (the heap may grow), or it stops -/
structure It where
  go : Nat → Hp → Prop
  yld : Nat → Hp → V → Hp → Prop
  stop : Nat → Hp → Prop
/-- the iterator's own objects may turn: they are not the frame's, not pinned, younger than the entry (or a comprehension's own) -/
def FpOk (X : Cx) (pins : List (Addr × Obj)) (H : Hp) (b : Addr) : Prop :=
  H b = none ∧ b ≠ X.env.locals ∧ b ∉ X.fs ∧ (b ∈ X.ex ∨ X.s_0.heap.objs.size ≤ b) ∧ (∀ x c, X.env.cells.lookup x = some c → c ≠ b) ∧ ∀ p ∈ X.pn ++ pins, p.1 ≠ b
theorem Inv.fpOk {X : Cx} {pins : List (Addr × Obj)} {σ : St} {H H' : Hp} {s : Shared} {b : Addr} (I : Inv X pins σ H s) (hb : s.heap.objs.size ≤ b) (hn : H' b = none) : FpOk X pins H' b := by
  refine ⟨hn, Nat.ne_of_gt (Nat.lt_of_lt_of_le I.lt hb), I.nofs hb, .inr (Nat.le_trans I.sz hb), fun x c e z => ?_, fun p hp z => ?_⟩
  · obtain ⟨v, q⟩ := I.cell x c e
    exact absurd (Nat.lt_of_lt_of_le q.lt (by rw [z]; exact hb)) (Nat.lt_irrefl _)
  · exact absurd (Nat.lt_of_lt_of_le (Heap.lt_size (I.pin p hp).1) (by rw [z]; exact hb)) (Nat.lt_irrefl _)
structure Turn (P : Program) (w : World) (K : PySem.W.Frag) (tg : Expr) (J : It) (fp : List Addr) (it : Addr) (tn : Nat → Heap → Prop) : Prop where
  mem : it ∈ fp
  obj : ∀ i h, tn i h → ∀ b ∈ fp, ∃ o, h.get? b = some o ∧ ∀ v, o.data ≠ .cell v
  keep : ∀ i h h', tn i h → (∀ b ∈ fp, ∀ o, h.get? b = some o → h'.get? b = some o) → tn i h'
  item : ∀ (X : Cx), X.prog = P → X.w = w → X.K = K → X.calm = true → ∀ (i : Nat) (pins : List (Addr × Obj)) (s : Shared) (σ : St) (H : Hp) (E : Value → Shared → Prop), Inv X pins σ H s → (∀ b ∈ fp, FpOk X pins H b) → tn i s.heap → J.go i H →
    wpAny (model P w) X.A (pyNext (.ref it)) (fun r s1 => ∃ u, r = some u ∧
      wpAny (model P w) X.A (letOwnedTupleGo tg (.ref it) u) (fun _ s2 => ∃ x H', Inv X pins σ H' s2 ∧ RelV x u ∧ J.yld i H x H' ∧ tn (i + 1) s2.heap ∧ ∀ b ∈ fp, H' b = none) E s1) E s
  done : ∀ (X : Cx), X.prog = P → X.w = w → X.K = K → X.calm = true → ∀ (i : Nat) (pins : List (Addr × Obj)) (s : Shared) (σ : St) (H : Hp) (E : Value → Shared → Prop), Inv X pins σ H s → (∀ b ∈ fp, FpOk X pins H b) → tn i s.heap → J.stop i H →
    wpAny (model P w) X.A (pyNext (.ref it)) (fun r s1 => r = none ∧ Inv X pins σ H s1) E s
  self : ∀ (A : Around) (i : Nat) (s : Shared) (Q : Value → Shared → Prop) (E : Value → Shared → Prop), tn i s.heap → Q (.ref it) s → wpAny (model P w) A (pyIter (.ref it)) Q E s
abbrev TI := St → Hp → (It → Hp → Prop) → Prop
/-- an iterator has come -/
def PIE (X : Cx) (pins : List (Addr × Obj)) (σ : St) (tg : Expr) (R : It → Hp → Prop) (itv : Value) (s2 : Shared) : Prop :=
  ∃ (it : Addr) (fp : List Addr) (tn : Nat → Heap → Prop) (J : It) (H' : Hp), itv = .ref it ∧ Inv X pins σ H' s2 ∧ Turn X.prog X.w X.K tg J fp it tn ∧ tn 0 s2.heap ∧ (∀ b ∈ fp, FpOk X pins H' b) ∧ R J H'
def PI (X : Cx) (tg iter : Expr) (wi : TI) : Prop :=
  ∀ (pins : List (Addr × Obj)) (s : Shared) (σ : St) (H : Hp) (R : It → Hp → Prop), Inv X pins σ H s → wi σ H R →
    wpAny (model X.prog X.w) X.A (eval iter X.env) (fun v s1 => wpAny (model X.prog X.w) X.A (pyIter v) (PIE X pins σ tg R) X.xe s1) X.xe s

/-- the step ahead of the store is nothing for an iterator that keeps no tuple -/
theorem go_of {M : Model} {A : Around} {E : Value → Shared → Prop} {s : Shared} {tg : Expr} {it : Addr} {u : Value} {o : Obj} {n : String} {vs : Array Value} {Q : Unit → Shared → Prop} (ho : s.heap.get? it = some o) (hc : o.cls = .type n) (hd : o.data = .fields vs)
    (hn : ["enumerate", "zip", "dict_itemiterator", "dict_reverseitemiterator", "odict_iterator", "itertools.zip_longest", "itertools.pairwise"].contains n = false) (hQ : Q () s) : wpAny M A (letOwnedTupleGo tg (.ref it) u) Q E s := by
  unfold letOwnedTupleGo
  cases tg <;> first
    | exact wpAny_pure hQ
    | (cases u <;> first
        | exact wpAny_pure hQ
        | (refine wpAny_bind (wpAny_load ho ?_)
           rw [hc, hd]
           show wpAny M A (if (["enumerate", "zip", "dict_itemiterator", "dict_reverseitemiterator", "odict_iterator", "itertools.zip_longest", "itertools.pairwise"].contains n && vs[0]? == some (rawInt _)) = true then _ else _) Q E s
           rw [if_neg (by intro h; rw [hn, Bool.false_and] at h; cases h)]
           exact wpAny_pure hQ))

/-- the list at a, as it stands at each turn (a loop may append to it) -/
def Itl (K : PySem.W.Frag) (a : Addr) : It :=
  ⟨fun i H => ∃ xs x, SqL K H a xs ∧ xs[i]? = some x, fun i H x H' => H' = H ∧ ∀ xs, SqL K H a xs → xs[i]? = some x, fun i H => ∃ xs, SqL K H a xs ∧ xs.length ≤ i⟩
def Itt (K : PySem.W.Frag) (a : Addr) : It :=
  ⟨fun i H => ∃ xs x, SqT K H a xs ∧ xs[i]? = some x, fun i H x H' => H' = H ∧ ∀ xs, SqT K H a xs → xs[i]? = some x, fun i H => ∃ xs, SqT K H a xs ∧ xs.length ≤ i⟩
/-- lo, lo + 1, .. (n of them) -/
def Itr (lo : Int) (n : Nat) : It := ⟨fun i _ => i < n, fun i H x H' => H' = H ∧ x = .int (lo + i), fun i _ => n ≤ i⟩
theorem turn_list {P : Program} {w : World} {K : PySem.W.Frag} {tg : Expr} (a it : Addr) : Turn P w K tg (Itl K a) [it] it (fun i h => h.IsListIter it a i) where
  mem := by simp
  obj := fun i h st b hb => by
    have e : b = it := by simpa using hb
    subst e
    obtain ⟨o, e, c, d⟩ := st
    exact ⟨o, e, fun v z => by rw [d] at z; cases z⟩
  keep := fun i h h' st k => st.at fun o e => k it (by simp) o e
  item := by
    intro X hP hw hK hc i pins s σ H E I hf st hg
    subst hP hw hK
    obtain ⟨xs, x, hq, hx⟩ := hg
    obtain ⟨its, rv, p, hz⟩ := I.list hq
    obtain ⟨u, hu, ru⟩ := rv.get hx
    obtain ⟨f0, f1, f2, f3, f4, f5⟩ := hf it (by simp)
    refine wpAny_pyNext_list_item st p.isList (x := u) (by simpa using hu) fun h' st' sb => ?_
    have I1 : Inv X pins σ H { s with heap := h' } := I.turned (t' := s.toks) (fun b o hb e => (sb.2 b hb).trans e) f0 f1 f3 f4 f5
    obtain ⟨o, e, c, d⟩ := id st'
    exact ⟨u, rfl, go_of (s := { s with heap := h' }) e c d (by decide) ⟨x, H, I1, ru, ⟨rfl, fun ys hy => by rw [I.list_inj hy hq]; exact hx⟩, st', fun b hb => (hf b hb).1⟩⟩
  done := by
    intro X hP hw hK hc i pins s σ H E I hf st hg
    subst hP hw hK
    obtain ⟨xs, hq, hx⟩ := hg
    obtain ⟨its, rv, p, hz⟩ := I.list hq
    obtain ⟨f0, f1, f2, f3, f4, f5⟩ := hf it (by simp)
    have hl := rv.length
    exact wpAny_pyNext_list_end (I.ok.hd hc) st p.isList (by simp; omega) fun h' eb => ⟨rfl, I.turned (t' := s.toks) (fun b o hb e => eb b o hb e) f0 f1 f3 f4 f5⟩
  self := fun _ _ _ _ _ st h => wpAny_pyIter_listiter st h
theorem turn_tuple {P : Program} {w : World} {K : PySem.W.Frag} {tg : Expr} (a it : Addr) : Turn P w K tg (Itt K a) [it] it (fun i h => h.IsTupleIter it a i) where
  mem := by simp
  obj := fun i h st b hb => by
    have e : b = it := by simpa using hb
    subst e
    obtain ⟨o, e, c, d⟩ := st
    exact ⟨o, e, fun v z => by rw [d] at z; cases z⟩
  keep := fun i h h' st k => st.at fun o e => k it (by simp) o e
  item := by
    intro X hP hw hK hc i pins s σ H E I hf st hg
    subst hP hw hK
    obtain ⟨xs, x, hq, hx⟩ := hg
    obtain ⟨its, rv, p, hz⟩ := I.tuple hq
    obtain ⟨u, hu, ru⟩ := rv.get hx
    obtain ⟨f0, f1, f2, f3, f4, f5⟩ := hf it (by simp)
    refine wpAny_pyNext_tuple_item st (show s.heap.IsTuple a its.toArray from p) (x := u) (by simpa using hu) fun h' st' sb => ?_
    have I1 : Inv X pins σ H { s with heap := h' } := I.turned (t' := s.toks) (fun b o hb e => (sb.2 b hb).trans e) f0 f1 f3 f4 f5
    obtain ⟨o, e, c, d⟩ := id st'
    exact ⟨u, rfl, go_of (s := { s with heap := h' }) e c d (by decide) ⟨x, H, I1, ru, ⟨rfl, fun ys hy => by rw [I.tuple_inj hy hq]; exact hx⟩, st', fun b hb => (hf b hb).1⟩⟩
  done := by
    intro X hP hw hK hc i pins s σ H E I hf st hg
    subst hP hw hK
    obtain ⟨xs, hq, hx⟩ := hg
    obtain ⟨its, rv, p, hz⟩ := I.tuple hq
    obtain ⟨f0, f1, f2, f3, f4, f5⟩ := hf it (by simp)
    have hl := rv.length
    exact wpAny_pyNext_tuple_end (I.ok.hd hc) st (show s.heap.IsTuple a its.toArray from p) (by simp; omega) fun h' eb => ⟨rfl, I.turned (t' := s.toks) (fun b o hb e => eb b o hb e) f0 f1 f3 f4 f5⟩
  self := fun _ _ _ _ _ st h => wpAny_pyIter_tupleiter st h
theorem turn_range {P : Program} {w : World} {K : PySem.W.Frag} {tg : Expr} (it : Addr) (lo : Int) (n : Nat) : Turn P w K tg (Itr lo n) [it] it (fun i h => IsRangeIter h it (lo + (i : Nat) * 1) ((n : Int) - (i : Nat)) 1) where
  mem := by simp
  obj := fun i h st b hb => by
    have e : b = it := by simpa using hb
    subst e
    exact ⟨_, st, fun v z => by
      have z' : Data.fields _ = Data.cell v := z
      cases z'⟩
  keep := fun i h h' st k => k it (by simp) _ st
  item := by
    intro X hP hw hK hc i pins s σ H E I hf st hg
    subst hP hw hK
    obtain ⟨f0, f1, f2, f3, f4, f5⟩ := hf it (by simp)
    have W := Walks.range (prog := X.prog) (w := X.w) (I.ok.hd hc) it lo 1 n
    refine W.item i s _ _ hg st fun v h' tk hv st' kk => ?_
    obtain ⟨t, rfl⟩ := hv
    have I1 : Inv X pins σ H { s with heap := h', toks := tk } := I.turned (fun b o hb e => kk b o (by simpa using hb) e) f0 f1 f3 f4 f5
    refine ⟨_, rfl, go_of (s := { s with heap := h', toks := tk }) (n := "range_iterator") st' rfl rfl (by decide) ⟨.int (lo + i), H, I1, ⟨t, ?_⟩, ⟨rfl, rfl⟩, st', fun b hb => (hf b hb).1⟩⟩
    rw [Int.mul_one]
  done := by
    intro X hP hw hK hc i pins s σ H E I hf st hg
    subst hP hw hK
    obtain ⟨f0, f1, f2, f3, f4, f5⟩ := hf it (by simp)
    exact wpAny_pyNext_range_end (I.ok.hd hc) st (by have : n ≤ i := hg; omega) fun h' eb => ⟨rfl, I.turned (t' := s.toks) (fun b o hb e => eb b o hb e) f0 f1 f3 f4 f5⟩
  self := fun _ _ _ _ _ st h => wpAny_pyIter_rangeiter st h
end L2

namespace L2
open PySem PySem.Spec PyProof.Rows
section
variable {X : Cx} {tg : Expr}
def iList (K : PySem.W.Frag) (tl : TE) : TI := fun σ H R => tl σ H fun x H1 => ∃ a, x = .ref a ∧ (∃ xs, SqL K H1 a xs) ∧ R (Itl K a) H1
def iTup (K : PySem.W.Frag) (tl : TE) : TI := fun σ H R => tl σ H fun x H1 => ∃ a, x = .ref a ∧ (∃ xs, SqT K H1 a xs) ∧ R (Itt K a) H1
theorem pi_list {l : Expr} {tl : TE} (hl : PE X l tl) : PI X tg l (iList X.K tl) := by
  intro pins s σ H R I h
  refine thn (hl pins s σ H _ I h) fun v s1 ⟨x, H1, I1, r1, q1⟩ => ?_
  obtain ⟨a, e, ⟨xs, hq⟩, q⟩ := q1
  subst e
  cases r1
  obtain ⟨its, rv, p, hz⟩ := I1.list hq
  refine wpAny_pyIter_list p.isList ?_
  refine ⟨s1.heap.objs.size, [s1.heap.objs.size], _, _, H1, rfl, I1.kept (t' := s1.toks) fun b o e => Heap.get?_push_of_some _ e, turn_list a _, ⟨_, Heap.get?_push_size _ rfl, rfl, rfl⟩, fun b hb => ?_, q⟩
  have e : b = s1.heap.objs.size := by simpa using hb
  subst e
  exact I1.fpOk (Nat.le_refl _) (I1.hok.fresh (Nat.le_refl _))
theorem pi_tup {l : Expr} {tl : TE} (hl : PE X l tl) : PI X tg l (iTup X.K tl) := by
  intro pins s σ H R I h
  refine thn (hl pins s σ H _ I h) fun v s1 ⟨x, H1, I1, r1, q1⟩ => ?_
  obtain ⟨a, e, ⟨xs, hq⟩, q⟩ := q1
  subst e
  cases r1
  obtain ⟨its, rv, p, hz⟩ := I1.tuple hq
  refine wpAny_pyIter_tuple (show s1.heap.IsTuple a its.toArray from p) ?_
  refine ⟨s1.heap.objs.size, [s1.heap.objs.size], _, _, H1, rfl, I1.kept (t' := s1.toks) fun b o e => Heap.get?_push_of_some _ e, turn_tuple a _, ⟨_, Heap.get?_push_size _ rfl, rfl, rfl⟩, fun b hb => ?_, q⟩
  have e : b = s1.heap.objs.size := by simpa using hb
  subst e
  exact I1.fpOk (Nat.le_refl _) (I1.hok.fresh (Nat.le_refl _))
/-- a range object just made, walked -/
theorem range_it {pins : List (Addr × Obj)} {σ : St} {H : Hp} {s : Shared} {R : It → Hp → Prop} {E : Value → Shared → Prop} {lo hi : Int} {t u v : Tok} {tk : Nat} (I : Inv X pins σ H s) (h1 : -(2 ^ 62) ≤ lo) (h2 : lo < 2 ^ 62) (h3 : -(2 ^ 62) ≤ hi) (h4 : hi < 2 ^ 62)
    (q : R (Itr lo (hi - lo).toNat) H) : wpAny (model X.prog X.w) X.A (pyIter (.ref s.heap.objs.size)) (PIE X pins σ tg R) E { s with heap := s.heap.push { cls := .type "range", data := .fields #[.int lo t, .int hi u, .int 1 v] }, toks := tk } := by
  refine wpAny_pyIter_range (IsRange.new ..) (small_one h1 h2 h3 h4) ?_
  have I1 : Inv X pins σ H { s with heap := s.heap.push { cls := .type "range", data := .fields #[.int lo t, .int hi u, .int 1 v] }, toks := tk } := I.kept fun b o e => Heap.get?_push_of_some _ e
  refine ⟨(s.heap.push { cls := .type "range", data := .fields #[.int lo t, .int hi u, .int 1 v] }).objs.size, [(s.heap.push { cls := .type "range", data := .fields #[.int lo t, .int hi u, .int 1 v] }).objs.size], _, _, H, rfl,
    I1.kept (t' := tk) fun b o e => Heap.get?_push_of_some _ e, turn_range _ lo (hi - lo).toNat, ?_, fun b hb => ?_, q⟩
  · have e1 : lo + ((0 : Nat) : Int) * 1 = lo := by simp
    have e2 : (((hi - lo).toNat : Nat) : Int) - ((0 : Nat) : Int) = Builtin.Range.rangeSize lo hi 1 := by rw [rangeSize_one]; split <;> omega
    show IsRangeIter _ _ (lo + ((0 : Nat) : Int) * 1) ((((hi - lo).toNat : Nat) : Int) - ((0 : Nat) : Int)) 1
    rw [e1, e2]
    exact Heap.get?_push_size _ rfl
  · have e : b = (s.heap.push { cls := .type "range", data := .fields #[.int lo t, .int hi u, .int 1 v] }).objs.size := by simpa using hb
    subst e
    exact I1.fpOk (Nat.le_refl _) (I1.hok.fresh (Nat.le_refl _))
def iRng1 (ta : TA) : TI := fun σ H R => ta σ H fun vs H1 => ∃ j : Int, vs = [.int j] ∧ -(2 ^ 62) ≤ j ∧ j < 2 ^ 62 ∧ R (Itr 0 j.toNat) H1
def iRng2 (ta : TA) : TI := fun σ H R => ta σ H fun vs H1 => ∃ i j : Int, vs = [.int i, .int j] ∧ (-(2 ^ 62) ≤ i ∧ i < 2 ^ 62 ∧ -(2 ^ 62) ≤ j ∧ j < 2 ^ 62) ∧ R (Itr i (j - i).toNat) H1
theorem pi_range1 {a : Expr} {ta : TA} {p pos : Pos} (hg : Gl X "range") (hm : X.mg "range" = none) (ha : PA X [a] ta) (hs : starEach [a] X.env = [(false, eval a X.env)] := by rfl) : PI X tg (.Call (.Name "range" p) [a] [] pos) (iRng1 ta) := by
  intro pins s σ H R I h
  refine Call_ (ld_blt I hg hm boot_range (PyProof.Rows.callWith_type1 (thn (ha pos pins s σ H _ I h) fun us s1 ⟨vs, H1, I1, r1, q1⟩ => ?_) hs rfl))
  obtain ⟨j, e, q1, q2, q⟩ := q1
  subst e
  cases r1 with
  | cons r rr =>
    cases rr
    obtain ⟨t, rfl⟩ := r
    exact call_range_1 (range_it I1 (by omega) (by omega) q1 q2 (by simpa using q))
theorem pi_range2 {a b : Expr} {ta : TA} {p pos : Pos} (hg : Gl X "range") (hm : X.mg "range" = none) (ha : PA X [a, b] ta) (hs : starEach [a, b] X.env = [(false, eval a X.env), (false, eval b X.env)] := by rfl) (hs2 : starEach [b] X.env = [(false, eval b X.env)] := by rfl) :
    PI X tg (.Call (.Name "range" p) [a, b] [] pos) (iRng2 ta) := by
  intro pins s σ H R I h
  refine Call_ (ld_blt I hg hm boot_range (PyProof.Rows.callWith_type1 (thn (ha pos pins s σ H _ I h) fun us s1 ⟨vs, H1, I1, r1, q1⟩ => ?_) (by rw [hs, hs2]) (by rw [hs2]; rfl)))
  obtain ⟨i, j, e, ⟨q1, q2, q3, q4⟩, q⟩ := q1
  subst e
  cases r1 with
  | cons r rr =>
    cases rr with
    | cons r' rr =>
      cases rr
      obtain ⟨t, rfl⟩ := r
      obtain ⟨t', rfl⟩ := r'
      exact call_range_2 (range_it I1 q1 q2 q3 q4 q)

/-! ### for -/
/-- W: the invariant by the turn and a measure; N: what the body is to reach -/
def tFor (wi : TI) (g : TG) (tb : TS) : TS := fun D σ H => wi σ H fun J H1 => ∃ W : Nat → Nat → St → Hp → Prop, (∃ m, W 0 m σ H1) ∧ ∀ i m σ H, W i m σ H →
  (J.stop i H ∧ D.nx σ H) ∨ (J.go i H ∧ ∃ N : St → Hp → Prop, (∀ σ' H', N σ' H' → ∃ m', m' < m ∧ W (i + 1) m' σ' H') ∧ ∀ x H', J.yld i H x H' → g x σ H' fun σ2 H2 => tb { D with nx := N, ct := N, bk := D.nx } σ2 H2)
/-- the records at fp as they stand -/
def pinsAt (fp : List Addr) (h : Heap) : List (Addr × Obj) := fp.filterMap fun b => (h.get? b).map fun o => (b, o)
theorem mem_pinsAt {fp : List Addr} {h : Heap} {b : Addr} {o : Obj} (hb : b ∈ fp) (e : h.get? b = some o) : (b, o) ∈ pinsAt fp h := List.mem_filterMap.mpr ⟨b, hb, by rw [e]; rfl⟩
theorem of_pinsAt {fp : List Addr} {h : Heap} {p : Addr × Obj} (hp : p ∈ pinsAt fp h) : p.1 ∈ fp ∧ h.get? p.1 = some p.2 := by
  obtain ⟨b, hb, e⟩ := List.mem_filterMap.mp hp
  cases q : h.get? b with
  | none => rw [q] at e; cases e
  | some o =>
    rw [q] at e
    have e' : (b, o) = p := Option.some.inj e
    subst e'
    exact ⟨hb, q⟩
theorem Inv.pinned {pins : List (Addr × Obj)} {σ : St} {H : Hp} {s : Shared} {fp : List Addr} (I : Inv X pins σ H s) (hf : ∀ b ∈ fp, FpOk X pins H b) (ho : ∀ b ∈ fp, ∃ o, s.heap.get? b = some o ∧ ∀ v, o.data ≠ .cell v) : Inv X (pins ++ pinsAt fp s.heap) σ H s :=
  I.pins_of fun p hp => (List.mem_append.mp hp).elim (fun z => I.pin p (List.mem_append_right _ z)) fun z => by
    obtain ⟨hb, e⟩ := of_pinsAt z
    obtain ⟨f0, f1, f2, _⟩ := hf p.1 hb
    obtain ⟨o, e', d⟩ := ho p.1 hb
    rw [e] at e'; cases e'
    exact ⟨e, f0, f1, f2, d⟩
theorem Inv.unpinned {pins pl : List (Addr × Obj)} {σ : St} {H : Hp} {s : Shared} (I : Inv X (pins ++ pl) σ H s) : Inv X pins σ H s := I.pins_of fun p hp => I.pin p (List.mem_append_right _ (List.mem_append_left _ hp))
theorem ps_for {iter : Expr} {body : List Stmt} {wi : TI} {g : TG} {tb : TS} {pos : Pos} (hp : PassesOwn (model X.prog X.w) X.A X.env X.xe) (hc : X.calm = true) (hi : PI X tg iter wi) (hg : PG X tg g) (hb : PSs X body tb)
    (hs : ∀ x, foldedSetIterable iter X.env x = pure x := by intro _; rfl) : PS X (.For tg iter body [] pos) (tFor wi g tb) := by
  intro pins s σ H D I h
  refine wpAny_For (thn (hi pins s σ H _ I h) fun v s1 h1 => thn h1 fun itv s2 h2 => ?_) hs
  obtain ⟨it, fp, tn, J, H2, e, I2, T, st2, f2, W, ⟨m0, w0⟩, turn⟩ := h2
  subst e
  -- what stays true of the iterator's objects through the loop
  have stat : ∀ {H' : Hp}, (∀ b ∈ fp, H' b = none) → ∀ b ∈ fp, FpOk X pins H' b := fun hn b hb => ⟨hn b hb, (f2 b hb).2⟩
  refine codeAny_forLoop_any (fun n s' => ∃ i σ' H', Inv X pins σ' H' s' ∧ tn i s'.heap ∧ (∀ b ∈ fp, H' b = none) ∧ W i n σ' H') ?_ m0 ⟨0, σ, H2, I2, st2, fun b hb => (f2 b hb).1, w0⟩
  rintro n s3 ⟨i, σ3, H3, I3, st3, fr3, w3⟩
  rcases turn i n σ3 H3 w3 with ⟨stop, qn⟩ | ⟨go, N, hN, step⟩
  · refine wpAny_passesOwn hp (thn (T.done X rfl rfl rfl hc i pins s3 σ3 H3 X.xe I3 (stat fr3) st3 stop) fun r s4 ⟨hr, I4⟩ => ?_)
    subst hr
    exact wpAny_execs_nil ⟨σ3, H3, I4, qn⟩
  · refine wpAny_passesOwn hp (thn (T.item X rfl rfl rfl hc i pins s3 σ3 H3 X.xe I3 (stat fr3) st3 go) fun r s4 ⟨u, hr, h4⟩ => ?_)
    subst hr
    refine wpAny_passesOwn hp (thn h4 fun _ s5 ⟨x, H5, I5, r5, y5, st5, fr5⟩ => ?_)
    have I5' := I5.pinned (stat fr5) (T.obj _ _ st5)
    refine wpAny_passesOwn hp (thn (hg _ s5 σ3 H5 x u _ I5' r5 (step x H5 y5)) fun _ s6 ⟨σ6, H6, I6, q6⟩ => ?_)
    refine wpAny_passesOwn hp (thn (hb _ s6 σ6 H6 _ I6 q6) fun f s7 q7 => ?_)
    have again : ∀ {σ7 : St} {H7 : Hp}, Inv X (pins ++ pinsAt fp s5.heap) σ7 H7 s7 → N σ7 H7 → ∃ m, m < n ∧ ∃ i σ' H', Inv X pins σ' H' s7 ∧ tn i s7.heap ∧ (∀ b ∈ fp, H' b = none) ∧ W i m σ' H' := fun {σ7 H7} I7 n7 => by
      obtain ⟨m', hm, w7⟩ := hN σ7 H7 n7
      refine ⟨m', hm, i + 1, σ7, H7, I7.unpinned, T.keep _ _ _ st5 fun b hb o e => (I7.pin (b, o) (List.mem_append_right _ (List.mem_append_right _ (mem_pinsAt hb e)))).1, fun b hb => ?_, w7⟩
      obtain ⟨o, e, d⟩ := T.obj _ _ st5 b hb
      exact (I7.pin (b, o) (List.mem_append_right _ (List.mem_append_right _ (mem_pinsAt hb e)))).2.1
    cases f with
    | next => obtain ⟨σ7, H7, I7, n7⟩ := q7; exact again I7 n7
    | cont => obtain ⟨σ7, H7, I7, n7⟩ := q7; exact again I7 n7
    | brk => obtain ⟨σ7, H7, I7, q7⟩ := q7; exact ⟨σ7, H7, I7.unpinned, q7⟩
    | ret v => obtain ⟨x7, σ7, H7, I7, r7, q7⟩ := q7; exact ⟨x7, σ7, H7, I7.unpinned, r7, q7⟩
end

/-! ### the forms one uses -/
/-- over a list that the body leaves as it is -/
theorem for_list {K : PySem.W.Frag} {a : Addr} {xs : List V} {g : TG} {tb : TS} {D : Ends} {σ : St} {H : Hp} (Pv : Nat → St → Hp → Prop) (h0 : Pv 0 σ H) (hl : ∀ i σ H, i ≤ xs.length → Pv i σ H → SqL K H a xs)
    (hs : ∀ i x σ H, xs[i]? = some x → Pv i σ H → g x σ H fun σ2 H2 => tb { D with nx := Pv (i + 1), ct := Pv (i + 1), bk := D.nx } σ2 H2) (hd : ∀ σ H, Pv xs.length σ H → D.nx σ H) :
    ∃ W : Nat → Nat → St → Hp → Prop, (∃ m, W 0 m σ H) ∧ ∀ i m σ H, W i m σ H →
      ((Itl K a).stop i H ∧ D.nx σ H) ∨ ((Itl K a).go i H ∧ ∃ N : St → Hp → Prop, (∀ σ' H', N σ' H' → ∃ m', m' < m ∧ W (i + 1) m' σ' H') ∧ ∀ x H', (Itl K a).yld i H x H' → g x σ H' fun σ2 H2 => tb { D with nx := N, ct := N, bk := D.nx } σ2 H2) := by
  refine ⟨fun i m σ H => m = xs.length - i ∧ i ≤ xs.length ∧ Pv i σ H, ⟨xs.length, by simp, Nat.zero_le _, h0⟩, ?_⟩
  rintro i m σ H ⟨rfl, hi, p⟩
  have q := hl i σ H hi p
  by_cases hlt : i < xs.length
  · refine .inr ⟨⟨xs, xs[i], q, by simp [hlt]⟩, Pv (i + 1), fun σ' H' p' => ⟨xs.length - (i + 1), by omega, rfl, hlt, p'⟩, fun x H' y => ?_⟩
    obtain ⟨e, y⟩ := y
    subst e
    exact hs i x σ _ (y xs q) p
  · have e : i = xs.length := by omega
    subst e
    exact .inl ⟨⟨xs, q, Nat.le_refl _⟩, hd σ H p⟩
theorem for_tup {K : PySem.W.Frag} {a : Addr} {xs : List V} {g : TG} {tb : TS} {D : Ends} {σ : St} {H : Hp} (Pv : Nat → St → Hp → Prop) (h0 : Pv 0 σ H) (hl : ∀ i σ H, i ≤ xs.length → Pv i σ H → SqT K H a xs)
    (hs : ∀ i x σ H, xs[i]? = some x → Pv i σ H → g x σ H fun σ2 H2 => tb { D with nx := Pv (i + 1), ct := Pv (i + 1), bk := D.nx } σ2 H2) (hd : ∀ σ H, Pv xs.length σ H → D.nx σ H) :
    ∃ W : Nat → Nat → St → Hp → Prop, (∃ m, W 0 m σ H) ∧ ∀ i m σ H, W i m σ H →
      ((Itt K a).stop i H ∧ D.nx σ H) ∨ ((Itt K a).go i H ∧ ∃ N : St → Hp → Prop, (∀ σ' H', N σ' H' → ∃ m', m' < m ∧ W (i + 1) m' σ' H') ∧ ∀ x H', (Itt K a).yld i H x H' → g x σ H' fun σ2 H2 => tb { D with nx := N, ct := N, bk := D.nx } σ2 H2) := by
  refine ⟨fun i m σ H => m = xs.length - i ∧ i ≤ xs.length ∧ Pv i σ H, ⟨xs.length, by simp, Nat.zero_le _, h0⟩, ?_⟩
  rintro i m σ H ⟨rfl, hi, p⟩
  have q := hl i σ H hi p
  by_cases hlt : i < xs.length
  · refine .inr ⟨⟨xs, xs[i], q, by simp [hlt]⟩, Pv (i + 1), fun σ' H' p' => ⟨xs.length - (i + 1), by omega, rfl, hlt, p'⟩, fun x H' y => ?_⟩
    obtain ⟨e, y⟩ := y
    subst e
    exact hs i x σ _ (y xs q) p
  · have e : i = xs.length := by omega
    subst e
    exact .inl ⟨⟨xs, q, Nat.le_refl _⟩, hd σ H p⟩
theorem for_range {lo : Int} {n : Nat} {g : TG} {tb : TS} {D : Ends} {σ : St} {H : Hp} (Pv : Nat → St → Hp → Prop) (h0 : Pv 0 σ H)
    (hs : ∀ i σ H, i < n → Pv i σ H → g (.int (lo + i)) σ H fun σ2 H2 => tb { D with nx := Pv (i + 1), ct := Pv (i + 1), bk := D.nx } σ2 H2) (hd : ∀ σ H, Pv n σ H → D.nx σ H) :
    ∃ W : Nat → Nat → St → Hp → Prop, (∃ m, W 0 m σ H) ∧ ∀ i m σ H, W i m σ H →
      ((Itr lo n).stop i H ∧ D.nx σ H) ∨ ((Itr lo n).go i H ∧ ∃ N : St → Hp → Prop, (∀ σ' H', N σ' H' → ∃ m', m' < m ∧ W (i + 1) m' σ' H') ∧ ∀ x H', (Itr lo n).yld i H x H' → g x σ H' fun σ2 H2 => tb { D with nx := N, ct := N, bk := D.nx } σ2 H2) := by
  refine ⟨fun i m σ H => m = n - i ∧ i ≤ n ∧ Pv i σ H, ⟨n, by simp, Nat.zero_le _, h0⟩, ?_⟩
  rintro i m σ H ⟨rfl, hi, p⟩
  by_cases hlt : i < n
  · refine .inr ⟨hlt, Pv (i + 1), fun σ' H' p' => ⟨n - (i + 1), by omega, rfl, hlt, p'⟩, fun x H' y => ?_⟩
    obtain ⟨e, y⟩ := y
    subst e y
    exact hs i σ _ hlt p
  · have e : i = n := by omega
    subst e
    exact .inl ⟨Nat.le_refl _, hd σ H p⟩
/-- while, by a word and a measure of the state -/
theorem while_by {c : TT} {tb : TS} {D : Ends} {σ : St} {H : Hp} (Pv : St → Hp → Prop) (μ : St → Hp → Nat) (h0 : Pv σ H)
    (hs : ∀ σ H, Pv σ H → c σ H fun b H1 => if b = true then tb { D with nx := fun σ' H' => Pv σ' H' ∧ μ σ' H' < μ σ H, ct := fun σ' H' => Pv σ' H' ∧ μ σ' H' < μ σ H, bk := D.nx } σ H1 else D.nx σ H1)
    (mono : ∀ σ H Q Q', (∀ b H1, Q b H1 → Q' b H1) → c σ H Q → c σ H Q') : tWhile c tb D σ H := by
  refine ⟨fun m σ H => m = μ σ H ∧ Pv σ H, ⟨_, rfl, h0⟩, ?_⟩
  rintro m σ H ⟨rfl, p⟩
  refine mono σ H _ _ (fun b H1 q => ?_) (hs σ H p)
  cases b with
  | true => exact ⟨_, fun σ' H' ⟨p', l⟩ => ⟨_, l, rfl, p'⟩, q⟩
  | false => exact q
end L2

namespace L2
open PySem PySem.Spec PyProof.Rows

abbrev R2 := V → V → Hp → VK → Prop
/-- a two-place operation on values: f is binaryOp op, inplaceOp op or compareOp op -/
def OpR (X : Cx) (f : Value → Value → Sem Value) (r : R2) : Prop :=
  ∀ (pins : List (Addr × Obj)) (s : Shared) (σ : St) (H : Hp) (x y : V) (v u : Value) (Q : VK), Inv X pins σ H s → RelV x v → RelV y u → r x y H Q →
    wpAny (model X.prog X.w) X.A (f v u) (EP X pins σ Q) X.xe s
/-- a one-place operation -/
def UnR (X : Cx) (f : Value → Sem Value) (r : V → Hp → VK → Prop) : Prop :=
  ∀ (pins : List (Addr × Obj)) (s : Shared) (σ : St) (H : Hp) (x : V) (v : Value) (Q : VK), Inv X pins σ H s → RelV x v → r x H Q →
    wpAny (model X.prog X.w) X.A (f v) (EP X pins σ Q) X.xe s
/-- a call of a value that is known (a builtin, a type) with values -/
def CallR (X : Cx) (f : Value) (r : List V → Hp → VK → Prop) : Prop :=
  ∀ (pins : List (Addr × Obj)) (s : Shared) (σ : St) (H : Hp) (xs : List V) (us : List Value) (Q : VK), Inv X pins σ H s → Vals xs us → r xs H Q →
    wpAny (model X.prog X.w) X.A (call f us) (EP X pins σ Q) X.xe s
/-- a value's truth -/
def TruR (X : Cx) (r : V → Hp → (Bool → Hp → Prop) → Prop) : Prop :=
  ∀ (pins : List (Addr × Obj)) (s : Shared) (σ : St) (H : Hp) (x : V) (v : Value) (Q : Bool → Hp → Prop), Inv X pins σ H s → RelV x v → r x H Q →
    wpAny (model X.prog X.w) X.A (truthy v) (TP X pins σ Q) X.xe s

def tOp (r : R2) (ta tb : TE) : TE := fun σ H Q => ta σ H fun x H1 => tb σ H1 fun y H2 => r x y H2 Q
def tUn (r : V → Hp → VK → Prop) (ta : TE) : TE := fun σ H Q => ta σ H fun x H1 => r x H1 Q
/-- ints in, under C, and a value out -/
def rI (C : Int → Int → Prop) (g : Int → Int → V) : R2 := fun x y H Q => ∃ i j, x = .int i ∧ y = .int j ∧ C i j ∧ Q (g i j) H
def rI0 (g : Int → Int → V) : R2 := fun x y H Q => ∃ i j, x = .int i ∧ y = .int j ∧ Q (g i j) H
def rU (g : Int → V) : V → Hp → VK → Prop := fun x H Q => ∃ i, x = .int i ∧ Q (g i) H

section
variable {X : Cx} {a b c : Expr} {ta tb tc : TE} {pos : Pos}

theorem binT (ha : PE X a ta) (hb : PE X b tb) {pins : List (Addr × Obj)} {s : Shared} {σ : St} {H : Hp} {R : V → V → Hp → Prop} (I : Inv X pins σ H s)
    (h : ta σ H fun x H1 => tb σ H1 fun y H2 => R x y H2) {Q : Value → Shared → Prop} {f : Value → Value → Sem Value}
    (hf : ∀ v u s2 x y H2, Inv X pins σ H2 s2 → RelV x v → RelV y u → R x y H2 → wpAny (model X.prog X.w) X.A (f v u) Q X.xe s2) :
    wpAny (model X.prog X.w) X.A (eval a X.env) (fun v s₁ => wpAny (model X.prog X.w) X.A (eval b X.env) (fun u s₂ => wpAny (model X.prog X.w) X.A (f v u) Q X.xe s₂) X.xe s₁) X.xe s := by
  refine thn (ha pins s σ H _ I h) fun v s1 ⟨x, H1, I1, r1, q1⟩ => ?_
  refine thn (hb pins s1 σ H1 _ I1 q1) fun u s2 ⟨y, H2, I2, r2, q2⟩ => ?_
  exact hf v u s2 x y H2 I2 r1 r2 q2

theorem pe_op {op : Operator} {r : R2} (ho : OpR X (binaryOp op) r) (ha : PE X a ta) (hb : PE X b tb) : PE X (.BinOp a op b pos) (tOp r ta tb) := by
  intro pins s σ H Q I h
  exact wpAny_BinOp (binT ha hb I h fun v u s2 x y H2 I2 rx ry q => ho pins s2 σ H2 x y v u Q I2 rx ry q)
theorem pe_un {op : UnaryOp} {r : V → Hp → VK → Prop} (ho : UnR X (unaryOp op) r) (ha : PE X a ta) : PE X (.UnaryOp op a pos) (tUn r ta) := by
  intro pins s σ H Q I h
  exact UnaryOp_ (thn (ha pins s σ H _ I h) fun v s1 ⟨x, H1, I1, r1, q1⟩ => ho pins s1 σ H1 x v Q I1 r1 q1)
/-- a op= e at a name: the name's slot i -/
theorem augR {op : Operator} {r : R2} (ho : OpR X (inplaceOp op) r) {pins : List (Addr × Obj)} {s : Shared} {σ : St} {H : Hp} {x y : V} {v u : Value} {Q : VK} (I : Inv X pins σ H s)
    (rx : RelV x v) (ry : RelV y u) (q : r x y H Q) : wpAny (model X.prog X.w) X.A (inplaceOp op v u) (EP X pins σ Q) X.xe s := ho pins s σ H x y v u Q I rx ry q

/-! ### ints -/
theorem opI {f : Value → Value → Sem Value} {C : Int → Int → Prop} {g : Int → Int → Int}
    (rule : ∀ (i j : Int) (t u : Tok) (s : Shared) (Q : Value → Shared → Prop) (E : Value → Shared → Prop), C i j → Q (.int (g i j) s.toks) { s with toks := s.toks + 1 } → wpAny (model X.prog X.w) X.A (f (.int i t) (.int j u)) Q E s) :
    OpR X f (rI C fun i j => .int (g i j)) := by
  intro pins s σ H x y v u Q I rx ry h
  obtain ⟨i, j, rfl, rfl, hc, q⟩ := h
  obtain ⟨t, rfl⟩ := rx
  obtain ⟨t', rfl⟩ := ry
  exact rule i j t t' s _ _ hc ⟨.int (g i j), H, I.tok _, ⟨_, rfl⟩, q⟩
theorem opI0 {f : Value → Value → Sem Value} {g : Int → Int → Int}
    (rule : ∀ (i j : Int) (t u : Tok) (s : Shared) (Q : Value → Shared → Prop) (E : Value → Shared → Prop), Q (.int (g i j) s.toks) { s with toks := s.toks + 1 } → wpAny (model X.prog X.w) X.A (f (.int i t) (.int j u)) Q E s) :
    OpR X f (rI0 fun i j => .int (g i j)) := by
  intro pins s σ H x y v u Q I rx ry h
  obtain ⟨i, j, rfl, rfl, q⟩ := h
  obtain ⟨t, rfl⟩ := rx
  obtain ⟨t', rfl⟩ := ry
  exact rule i j t t' s _ _ ⟨.int (g i j), H, I.tok _, ⟨_, rfl⟩, q⟩
theorem opB0 {f : Value → Value → Sem Value} {g : Int → Int → Bool}
    (rule : ∀ (i j : Int) (t u : Tok) (s : Shared) (Q : Value → Shared → Prop) (E : Value → Shared → Prop), Q (.bool (g i j)) s → wpAny (model X.prog X.w) X.A (f (.int i t) (.int j u)) Q E s) :
    OpR X f (rI0 fun i j => .bl (g i j)) := by
  intro pins s σ H x y v u Q I rx ry h
  obtain ⟨i, j, rfl, rfl, q⟩ := h
  obtain ⟨t, rfl⟩ := rx
  obtain ⟨t', rfl⟩ := ry
  exact rule i j t t' s _ _ ⟨.bl (g i j), H, I, rfl, q⟩

def CDiv (i j : Int) : Prop := 0 < j ∧ j < 1073741824
def CDivN (i j : Int) : Prop := j ≠ 0 ∧ j.natAbs < 1073741824
def CPow (i j : Int) : Prop := 0 ≤ j ∧ j ≤ 1000000 ∧ i.natAbs < 2 ^ 64
def CMul (i j : Int) : Prop := (-(2 ^ 64) < i ∧ i < 2 ^ 64) ∨ (-(2 ^ 64) < j ∧ j < 2 ^ 64)
theorem CMul.ok {i j : Int} (h : CMul i j) : IntMulOk i j := by
  rcases h with ⟨h1, h2⟩ | ⟨h1, h2⟩
  · exact .of_left (intBits_le_64 h1 h2)
  · exact .of_right (intBits_le_64 h1 h2)
theorem two_pow_nn (k : Nat) : (0 : Int) ≤ 2 ^ k := by
  rw [two_pow_cast]
  exact Int.natCast_nonneg _

theorem op_add : OpR X (binaryOp .Add) (rI0 fun i j => .int (i + j)) := opI0 fun _ _ _ _ _ _ _ q => add_int q
theorem op_sub : OpR X (binaryOp .Sub) (rI0 fun i j => .int (i - j)) := opI0 fun _ _ _ _ _ _ _ q => sub_int q
theorem op_mul : OpR X (binaryOp .Mult) (rI CMul fun i j => .int (i * j)) := opI fun _ _ _ _ _ _ _ hc q => mul_int q hc.ok
/-- // by a positive divisor -/
theorem op_fdiv : OpR X (binaryOp .FloorDiv) (rI CDiv fun i j => .int (i / j)) := opI fun i j _ _ _ _ _ hc q => by
  have h1 : (0 : Int) < j := hc.1
  have h2 : j < 1073741824 := hc.2
  exact floordiv_int (by omega) (by rw [Int.fdiv_eq_ediv_of_nonneg i (by omega)]; exact q) (.inl (PyProof.noPylong_small (by omega)))
theorem op_fdivN : OpR X (binaryOp .FloorDiv) (rI CDivN fun i j => .int (i.fdiv j)) := opI fun _ _ _ _ _ _ _ hc q => floordiv_int hc.1 q (.inl (PyProof.noPylong_small hc.2))
/-- % by a positive divisor of any size -/
theorem op_mod : OpR X (binaryOp .Mod) (rI (fun _ j => 0 < j) fun i j => .int (i % j)) := opI fun i j _ _ _ _ _ hc q => by
  have h1 : (0 : Int) < j := hc
  exact mod_int' (by omega) (by rw [Int.fmod_eq_emod_of_nonneg i (by omega)]; exact q)
theorem op_modN : OpR X (binaryOp .Mod) (rI (fun _ j => j ≠ 0) fun i j => .int (i.fmod j)) := opI fun _ _ _ _ _ _ _ hc q => mod_int' hc q
theorem op_pow : OpR X (binaryOp .Pow) (rI CPow fun i j => .int (i ^ j.toNat)) := opI fun _ _ _ _ _ _ _ hc q => pow_int_small hc.1 hc.2.1 hc.2.2 q
theorem op_shl : OpR X (binaryOp .LShift) (rI CPow fun i j => .int (i * 2 ^ j.toNat)) := opI fun _ _ _ _ _ _ _ hc q => lshift_int_small hc.1 hc.2.1 hc.2.2 q
theorem op_shr : OpR X (binaryOp .RShift) (rI (fun _ j => 0 ≤ j) fun i j => .int (i / 2 ^ j.toNat)) := opI fun i j _ _ _ _ _ hc q =>
  rshift_int hc (by rw [Int.fdiv_eq_ediv_of_nonneg i (two_pow_nn _)]; exact q)
theorem op_and : OpR X (binaryOp .BitAnd) (rI0 fun i j => .int (Builtin.bitAnd i j)) := opI0 fun _ _ _ _ _ _ _ q => and_int q
theorem op_or : OpR X (binaryOp .BitOr) (rI0 fun i j => .int (Builtin.bitOr i j)) := opI0 fun _ _ _ _ _ _ _ q => or_int q
theorem op_xor : OpR X (binaryOp .BitXor) (rI0 fun i j => .int (Builtin.bitXor i j)) := opI0 fun _ _ _ _ _ _ _ q => xor_int q

theorem iop_add : OpR X (inplaceOp .Add) (rI0 fun i j => .int (i + j)) := opI0 fun _ _ _ _ _ _ _ q => iadd_int q
theorem iop_sub : OpR X (inplaceOp .Sub) (rI0 fun i j => .int (i - j)) := opI0 fun _ _ _ _ _ _ _ q => isub_int q
theorem iop_mul : OpR X (inplaceOp .Mult) (rI CMul fun i j => .int (i * j)) := opI fun _ _ _ _ _ _ _ hc q => imul_int q hc.ok
theorem iop_fdiv : OpR X (inplaceOp .FloorDiv) (rI CDiv fun i j => .int (i / j)) := opI fun i j _ _ _ _ _ hc q => by
  have h1 : (0 : Int) < j := hc.1
  have h2 : j < 1073741824 := hc.2
  exact ifloordiv_int (by omega) (by rw [Int.fdiv_eq_ediv_of_nonneg i (by omega)]; exact q) (.inl (PyProof.noPylong_small (by omega)))
theorem iop_mod : OpR X (inplaceOp .Mod) (rI (fun _ j => 0 < j) fun i j => .int (i % j)) := opI fun i j _ _ _ _ _ hc q => by
  have h1 : (0 : Int) < j := hc
  exact imod_int (by omega) (by rw [Int.fmod_eq_emod_of_nonneg i (by omega)]; exact q)
theorem iop_shl : OpR X (inplaceOp .LShift) (rI CPow fun i j => .int (i * 2 ^ j.toNat)) := opI fun _ _ _ _ _ _ _ hc q => ilshift_int_small hc.1 hc.2.1 hc.2.2 q
theorem iop_shr : OpR X (inplaceOp .RShift) (rI (fun _ j => 0 ≤ j) fun i j => .int (i / 2 ^ j.toNat)) := opI fun i j _ _ _ _ _ hc q =>
  irshift_int hc (by rw [Int.fdiv_eq_ediv_of_nonneg i (two_pow_nn _)]; exact q)
theorem iop_and : OpR X (inplaceOp .BitAnd) (rI0 fun i j => .int (Builtin.bitAnd i j)) := opI0 fun _ _ _ _ _ _ _ q => iand_int q
theorem iop_or : OpR X (inplaceOp .BitOr) (rI0 fun i j => .int (Builtin.bitOr i j)) := opI0 fun _ _ _ _ _ _ _ q => ior_int q
theorem iop_xor : OpR X (inplaceOp .BitXor) (rI0 fun i j => .int (Builtin.bitXor i j)) := opI0 fun _ _ _ _ _ _ _ q => ixor_int q

theorem unI {f : Value → Sem Value} {g : Int → Int}
    (rule : ∀ (i : Int) (t : Tok) (s : Shared) (Q : Value → Shared → Prop) (E : Value → Shared → Prop), Q (.int (g i) s.toks) { s with toks := s.toks + 1 } → wpAny (model X.prog X.w) X.A (f (.int i t)) Q E s) :
    UnR X f (rU fun i => .int (g i)) := by
  intro pins s σ H x v Q I rx h
  obtain ⟨i, rfl, q⟩ := h
  obtain ⟨t, rfl⟩ := rx
  exact rule i t s _ _ ⟨.int (g i), H, I.tok _, ⟨_, rfl⟩, q⟩
theorem un_neg : UnR X (unaryOp .USub) (rU fun i => .int (-i)) := unI fun _ _ _ _ _ q => neg_int q
theorem un_inv : UnR X (unaryOp .Invert) (rU fun i => .int (Builtin.bitNot i)) := unI fun _ _ _ _ _ q => invert_int q

/-! ### bools among ints: n += (a < b) -/
theorem op_add_ib : OpR X (binaryOp .Add) (fun x y H Q => ∃ i k, x = .int i ∧ y = .bl k ∧ Q (.int (i + b2i k)) H) := by
  intro pins s σ H x y v u Q I rx ry h
  obtain ⟨i, k, rfl, rfl, q⟩ := h
  obtain ⟨t, rfl⟩ := rx
  cases ry
  exact add_int_bool ⟨.int (i + b2i k), H, I.tok _, ⟨_, rfl⟩, q⟩
end

/-! ### comparisons -/
/-- the scalars that == tells apart as data does -/
def scal : V → V → Bool
  | .non, .non => true | .non, .int _ => true | .int _, .non => true | .non, .bl _ => true | .bl _, .non => true | .non, .str _ => true | .str _, .non => true
  | .int _, .int _ => true | .bl _, .bl _ => true | .str _, .str _ => true | .byt _, .byt _ => true
  | .int _, .str _ => true | .str _, .int _ => true | .bl _, .str _ => true | .str _, .bl _ => true
  | _, _ => false
def rEq : R2 := fun x y H Q => scal x y = true ∧ Q (.bl (decide (x = y))) H
def rNe : R2 := fun x y H Q => scal x y = true ∧ Q (.bl (!decide (x = y))) H

theorem dec_int {i j : Int} : decide (V.int i = V.int j) = (i == j) := by
  rw [Bool.eq_iff_iff]
  simp
theorem dec_bl {i j : Bool} : decide (V.bl i = V.bl j) = (i == j) := by
  rw [Bool.eq_iff_iff]
  simp
theorem dec_str {i j : Str} : decide (V.str i = V.str j) = (i == j) := by
  rw [Bool.eq_iff_iff]
  simp
theorem dec_byt {i j : Array UInt8} : decide (V.byt i = V.byt j) = (i.toList == j.toList) := by
  rw [Bool.eq_iff_iff]
  cases i
  cases j
  simp

section
variable {X : Cx} {a b c : Expr} {ta tb tc : TE} {pos : Pos}
theorem fin_bl {pins : List (Addr × Obj)} {σ : St} {H : Hp} {s : Shared} {Q : VK} {k k' : Bool} (I : Inv X pins σ H s) (q : Q (.bl k) H) (e : k = k') : EP X pins σ Q (.bool k') s := by
  subst e
  exact ⟨.bl k, H, I, rfl, q⟩
theorem op_eq : OpR X (compareOp .Eq) rEq := by
  intro pins s σ H x y v u Q I rx ry h
  obtain ⟨hs, q⟩ := h
  cases x with
  | non =>
    cases rx
    cases y with
    | non => cases ry; exact PySem.EqNone.eq_none_none (fin_bl I q (by simp))
    | bl j => cases ry; exact PySem.EqNone.eq_none_bool (fin_bl I q (by simp))
    | int j => obtain ⟨t', rfl⟩ := ry; exact PySem.EqNone.eq_none_int (fin_bl I q (by simp))
    | str j => obtain ⟨t', rfl⟩ := ry; exact PySem.EqNone.eq_none_str (fin_bl I q (by simp))
    | _ => exact absurd (show false = true from hs) Bool.false_ne_true
  | bl i =>
    cases rx
    cases y with
    | non => cases ry; exact PySem.EqNone.eq_bool_none (fin_bl I q (by simp))
    | bl j => cases ry; exact eq_bool (fin_bl I q dec_bl)
    | str j => obtain ⟨t', rfl⟩ := ry; exact PySem.EqMixed.eq_bool_str (fin_bl I q (by simp))
    | _ => exact absurd (show false = true from hs) Bool.false_ne_true
  | int i =>
    obtain ⟨t, rfl⟩ := rx
    cases y with
    | non => cases ry; exact PySem.EqNone.eq_int_none (fin_bl I q (by simp))
    | int j => obtain ⟨t', rfl⟩ := ry; exact eq_int (fin_bl I q dec_int)
    | str j => obtain ⟨t', rfl⟩ := ry; exact PySem.EqMixed.eq_int_str (fin_bl I q (by simp))
    | _ => exact absurd (show false = true from hs) Bool.false_ne_true
  | str i =>
    obtain ⟨t, rfl⟩ := rx
    cases y with
    | non => cases ry; exact PySem.EqNone.eq_str_none (fin_bl I q (by simp))
    | bl j => cases ry; exact PySem.EqMixed.eq_str_bool (fin_bl I q (by simp))
    | int j => obtain ⟨t', rfl⟩ := ry; exact PySem.EqMixed.eq_str_int (fin_bl I q (by simp))
    | str j => obtain ⟨t', rfl⟩ := ry; exact eq_str (fin_bl I q dec_str)
    | _ => exact absurd (show false = true from hs) Bool.false_ne_true
  | byt i =>
    obtain ⟨t, rfl⟩ := rx
    cases y with
    | byt j => obtain ⟨t', rfl⟩ := ry; exact PySem.W.eq_bytes (fin_bl I q dec_byt)
    | _ => exact absurd (show false = true from hs) Bool.false_ne_true
  | _ => cases y <;> exact absurd (show false = true from hs) Bool.false_ne_true
theorem op_ne : OpR X (compareOp .NotEq) rNe := by
  intro pins s σ H x y v u Q I rx ry h
  obtain ⟨hs, q⟩ := h
  cases x with
  | non =>
    cases rx
    cases y with
    | non => cases ry; exact PySem.EqNone.ne_none_none (fin_bl I q (by simp))
    | bl j => cases ry; exact PySem.EqNone.ne_none_bool (fin_bl I q (by simp))
    | int j => obtain ⟨t', rfl⟩ := ry; exact PySem.EqNone.ne_none_int (fin_bl I q (by simp))
    | str j => obtain ⟨t', rfl⟩ := ry; exact PySem.EqNone.ne_none_str (fin_bl I q (by simp))
    | _ => exact absurd (show false = true from hs) Bool.false_ne_true
  | bl i =>
    cases rx
    cases y with
    | non => cases ry; exact PySem.EqNone.ne_bool_none (fin_bl I q (by simp))
    | bl j => cases ry; exact ne_bool (fin_bl I q (congrArg not dec_bl))
    | str j => obtain ⟨t', rfl⟩ := ry; exact PySem.EqMixed.ne_bool_str (fin_bl I q (by simp))
    | _ => exact absurd (show false = true from hs) Bool.false_ne_true
  | int i =>
    obtain ⟨t, rfl⟩ := rx
    cases y with
    | non => cases ry; exact PySem.EqNone.ne_int_none (fin_bl I q (by simp))
    | int j => obtain ⟨t', rfl⟩ := ry; exact ne_int (fin_bl I q (congrArg not dec_int))
    | str j => obtain ⟨t', rfl⟩ := ry; exact PySem.EqMixed.ne_int_str (fin_bl I q (by simp))
    | _ => exact absurd (show false = true from hs) Bool.false_ne_true
  | str i =>
    obtain ⟨t, rfl⟩ := rx
    cases y with
    | non => cases ry; exact PySem.EqNone.ne_str_none (fin_bl I q (by simp))
    | bl j => cases ry; exact PySem.EqMixed.ne_str_bool (fin_bl I q (by simp))
    | int j => obtain ⟨t', rfl⟩ := ry; exact PySem.EqMixed.ne_str_int (fin_bl I q (by simp))
    | str j => obtain ⟨t', rfl⟩ := ry; exact ne_str (fin_bl I q (congrArg not dec_str))
    | _ => exact absurd (show false = true from hs) Bool.false_ne_true
  | byt i =>
    obtain ⟨t, rfl⟩ := rx
    cases y with
    | byt j => obtain ⟨t', rfl⟩ := ry; exact PySem.W.ne_bytes (fin_bl I q (congrArg not dec_byt))
    | _ => exact absurd (show false = true from hs) Bool.false_ne_true
  | _ => cases y <;> exact absurd (show false = true from hs) Bool.false_ne_true

theorem op_lt : OpR X (compareOp .Lt) (rI0 fun i j => .bl (decide (i < j))) := opB0 fun _ _ _ _ _ _ _ q => lt_int q
theorem op_le : OpR X (compareOp .LtE) (rI0 fun i j => .bl (decide (i ≤ j))) := opB0 fun _ _ _ _ _ _ _ q => le_int q
theorem op_gt : OpR X (compareOp .Gt) (rI0 fun i j => .bl (decide (j < i))) := opB0 fun _ _ _ _ _ _ _ q => gt_int q
theorem op_ge : OpR X (compareOp .GtE) (rI0 fun i j => .bl (decide (j ≤ i))) := opB0 fun _ _ _ _ _ _ _ q => ge_int q
theorem op_lt_str : OpR X (compareOp .Lt) (fun x y H Q => ∃ i j, x = .str i ∧ y = .str j ∧ Q (.bl (decide (i.cps.toList < j.cps.toList))) H) := by
  intro pins s σ H x y v u Q I rx ry h
  obtain ⟨i, j, rfl, rfl, q⟩ := h
  obtain ⟨t, rfl⟩ := rx
  obtain ⟨t', rfl⟩ := ry
  exact lt_str (fin_bl I q rfl)
/-- the one string within the other -/
theorem op_in_str : OpR X (compareOp .In) (fun x y H Q => ∃ i j, x = .str i ∧ y = .str j ∧ Q (.bl (!(Builtin.Str.occurrences j i 0 j.length 1).isEmpty)) H) := by
  intro pins s σ H x y v u Q I rx ry h
  obtain ⟨i, j, rfl, rfl, q⟩ := h
  obtain ⟨t, rfl⟩ := rx
  obtain ⟨t', rfl⟩ := ry
  exact in_str (fin_bl I q rfl)

/-- is None, is not None: the right side a value none -/
theorem op_isN : OpR X (compareOp .Is) (fun x y H Q => y = .non ∧ Q (.bl (decide (x = .non))) H) := by
  intro pins s σ H x y v u Q I rx ry h
  obtain ⟨rfl, q⟩ := h
  cases ry
  refine is_none_gen (fin_bl I q ?_)
  cases x <;> first
    | (cases rx; rfl)
    | (obtain ⟨t, rfl⟩ := rx; rfl)
theorem op_notN : OpR X (compareOp .IsNot) (fun x y H Q => y = .non ∧ Q (.bl (!decide (x = .non))) H) := by
  intro pins s σ H x y v u Q I rx ry h
  obtain ⟨rfl, q⟩ := h
  cases ry
  refine isnot_none_gen (fin_bl I q ?_)
  cases x <;> first
    | (cases rx; rfl)
    | (obtain ⟨t, rfl⟩ := rx; rfl)

theorem op_notin_str : OpR X (compareOp .NotIn) (fun x y H Q => ∃ i j, x = .str i ∧ y = .str j ∧ Q (.bl (!(!(Builtin.Str.occurrences j i 0 j.length 1).isEmpty))) H) := by
  intro pins s σ H x y v u Q I rx ry h
  obtain ⟨i, j, rfl, rfl, q⟩ := h
  obtain ⟨t, rfl⟩ := rx
  obtain ⟨t', rfl⟩ := ry
  exact notIn_str (fin_bl I q rfl)
/-- is, is not of two objects that are tracked lists or instances -/
def isObj : HO → Bool
  | .lst _ => true
  | .ins _ _ _ => true
  | _ => false
theorem obj_there {pins : List (Addr × Obj)} {s : Shared} {σ : St} {H : Hp} {a : Addr} {o : HO} (I : Inv X pins σ H s) (h : H a = some o) (p : isObj o = true) : ∃ ob, s.heap.get? a = some ob ∧ ob.cls ≠ .type "tuple" := by
  cases o with
  | lst xs =>
    obtain ⟨_, its, n, _, e⟩ : xs.length ≤ sizeLine ∧ ∃ (its : List Value) (n : Nat), Vals xs its ∧ s.heap.get? a = some { cls := .type "list", data := .seq its.toArray n } := I.hok a _ h
    exact ⟨_, e, (by show Value.type "list" ≠ .type "tuple"; decide +kernel)⟩
  | ins C dx fs =>
    have x := I.hok a _ h
    obtain ⟨_, _, _, e, _⟩ := x
    exact ⟨_, e, (by show Value.ref C ≠ .type "tuple"; exact fun z => by cases z)⟩
  | _ => exact absurd (show false = true from p) Bool.false_ne_true
theorem op_is_ref : OpR X (compareOp .Is) (fun x y H Q => ∃ a b oa ob, x = .ref a ∧ y = .ref b ∧ H a = some oa ∧ isObj oa = true ∧ H b = some ob ∧ isObj ob = true ∧ Q (.bl (decide (a = b))) H) := by
  intro pins s σ H x y v u Q I rx ry h
  obtain ⟨a, b, oa, ob, rfl, rfl, ha, pa, hb, pb, q⟩ := h
  cases rx
  cases ry
  obtain ⟨o1, e1, n1⟩ := obj_there I ha pa
  obtain ⟨o2, e2, _⟩ := obj_there I hb pb
  by_cases z : a = b
  · subst z
    exact wpAny_is_ref_self (fin_bl I q (by simp))
  · exact wpAny_is_ref_other z e1 e2 n1 (fin_bl I q (by simp [z]))
theorem op_isnot_ref : OpR X (compareOp .IsNot) (fun x y H Q => ∃ a b oa ob, x = .ref a ∧ y = .ref b ∧ H a = some oa ∧ isObj oa = true ∧ H b = some ob ∧ isObj ob = true ∧ Q (.bl (!decide (a = b))) H) := by
  intro pins s σ H x y v u Q I rx ry h
  obtain ⟨a, b, oa, ob, rfl, rfl, ha, pa, hb, pb, q⟩ := h
  cases rx
  cases ry
  obtain ⟨o1, e1, n1⟩ := obj_there I ha pa
  obtain ⟨o2, e2, _⟩ := obj_there I hb pb
  by_cases z : a = b
  · subst z
    exact wpAny_isNot_ref_self (fin_bl I q (by simp))
  · exact wpAny_isNot_ref_other z e1 e2 n1 (fin_bl I q (by simp [z]))

/-- two rules for one operation: by cases -/
theorem OpR.or {f : Value → Value → Sem Value} {r r' : R2} (h : OpR X f r) (h' : OpR X f r') : OpR X f (fun x y H Q => r x y H Q ∨ r' x y H Q) := by
  intro pins s σ H x y v u Q I rx ry q
  rcases q with q | q
  · exact h pins s σ H x y v u Q I rx ry q
  · exact h' pins s σ H x y v u Q I rx ry q

theorem nomark (b : Expr) {op : CmpOp} (h : op ≠ .In := by decide) (h2 : op ≠ .NotIn := by decide) : behindInMarks op b = false := by
  have e1 : (op == CmpOp.In) = false := by cases op <;> first | rfl | exact absurd rfl h
  have e2 : (op == CmpOp.NotIn) = false := by cases op <;> first | rfl | exact absurd rfl h2
  cases b <;> simp [behindInMarks, e1, e2]
/-- a comparison as a value; hm: nomark b, or (for in, not in) by with_unfolding_all rfl -/
theorem pe_cmpR {op : CmpOp} {r : R2} (ho : OpR X (compareOp op) r) (ha : PE X a ta) (hb : PE X b tb) (hm : behindInMarks op b = false) : PE X (.Compare a [op] [b] pos) (tOp r ta tb) := by
  intro pins s σ H Q I h
  exact wpAny_Compare1 (binT ha hb I h fun v u s2 x y H2 I2 rx ry q => ho pins s2 σ H2 x y v u Q I2 rx ry q) hm
/-- a reading of a value as a test -/
def tTest (t : TE) : TT := fun σ H Q => t σ H fun x H' => ∃ k, x = .bl k ∧ Q k H'
theorem pt_cmpR {op : CmpOp} {r : R2} (ho : OpR X (compareOp op) r) (ha : PE X a ta) (hb : PE X b tb) (hm : behindInMarks op b = false) : PT X (.Compare a [op] [b] pos) (tTest (tOp r ta tb)) := by
  intro pins s σ H Q I h
  refine wpAny_isTrue_Compare1 (thn (ha pins s σ H _ I h) fun v s1 ⟨x, H1, I1, r1, q1⟩ => thn (hb pins s1 σ H1 _ I1 q1) fun u s2 ⟨y, H2, I2, r2, q2⟩ =>
    thn (ho pins s2 σ H2 x y v u _ I2 r1 r2 q2) fun c s3 ⟨z, H3, I3, r3, k, e, q3⟩ => ?_) hm
  subst e
  cases r3
  exact wpAny_truthy_bool ⟨H3, I3, q3⟩
/-- a op1 b op2 c -/
def tChain (r r' : R2) (ta tb tc : TE) : TE := fun σ H Q => ta σ H fun x H1 => tb σ H1 fun y H2 => r x y H2 fun z H3 => ∃ k, z = .bl k ∧
  (if k = true then tc σ H3 fun w' H4 => r' y w' H4 Q else Q (.bl false) H3)
theorem pe_chain {op op' : CmpOp} {r r' : R2} (ho : OpR X (compareOp op) r) (ho' : OpR X (compareOp op') r') (ha : PE X a ta) (hb : PE X b tb) (hc : PE X c tc)
    (hm : lastMarks [op, op'] [b, c] = false := by with_unfolding_all rfl) : PE X (.Compare a [op, op'] [b, c] pos) (tChain r r' ta tb tc) := by
  intro pins s σ H Q I h
  refine Compare_chain (thn (ha pins s σ H _ I h) fun v s1 ⟨x, H1, I1, r1, q1⟩ => chain_link (thn (hb pins s1 σ H1 _ I1 q1) fun u s2 ⟨y, H2, I2, r2, q2⟩ =>
    thn (ho pins s2 σ H2 x y v u _ I2 r1 r2 q2) fun d s3 ⟨z, H3, I3, r3, k, e, q3⟩ => ?_)) hm
  subst e
  cases r3
  refine wpAny_truthy_bool ?_
  cases k with
  | false => exact ite_ff ⟨.bl false, H3, I3, rfl, q3⟩
  | true => exact ite_tt (chain_last (thn (hc pins s3 σ H3 _ I3 q3) fun w' s4 ⟨z', H4, I4, r4, q4⟩ => ho' pins s4 σ H4 y z' u w' Q I4 r2 r4 q4))
theorem pt_chain {op op' : CmpOp} {r r' : R2} (ho : OpR X (compareOp op) r) (ho' : OpR X (compareOp op') r') (ha : PE X a ta) (hb : PE X b tb) (hc : PE X c tc)
    (hm : lastMarks [op, op'] [b, c] = false := by with_unfolding_all rfl) : PT X (.Compare a [op, op'] [b, c] pos) (tTest (tChain r r' ta tb tc)) := by
  intro pins s σ H Q I h
  refine isTrue_chain (thn (ha pins s σ H _ I h) fun v s1 ⟨x, H1, I1, r1, q1⟩ => test_link (thn (hb pins s1 σ H1 _ I1 q1) fun u s2 ⟨y, H2, I2, r2, q2⟩ =>
    thn (ho pins s2 σ H2 x y v u _ I2 r1 r2 q2) fun d s3 ⟨z, H3, I3, r3, k, e, q3⟩ => ?_)) hm
  subst e
  cases r3
  refine wpAny_truthy_bool ?_
  cases k with
  | false =>
    obtain ⟨k', e', q'⟩ := q3
    cases e'
    exact ite_ff ⟨H3, I3, q'⟩
  | true =>
    refine ite_tt (test_last (thn (hc pins s3 σ H3 _ I3 q3) fun w' s4 ⟨z', H4, I4, r4, q4⟩ => thn (ho' pins s4 σ H4 y z' u w' _ I4 r2 r4 q4) fun d' s5 ⟨z2, H5, I5, r5, k2, e2, q5⟩ => ?_))
    subst e2
    cases r5
    exact wpAny_truthy_bool ⟨H5, I5, q5⟩

/-! ### truth -/
/-- a value's truth by the abstract heap -/
def TruV (K : PySem.W.Frag) (x : V) (H : Hp) (k : Bool) : Prop :=
  match x with
  | .non => k = false
  | .bl b => k = b
  | .int i => k = (i != 0)
  | .str y => y.length ≤ sizeLine ∧ k = ((y.length : Int) != 0)
  | .byt y => y.size ≤ sizeLine ∧ k = ((y.size : Int) != 0)
  | .ref p => (∃ xs, SqL K H p xs ∧ k = !xs.isEmpty) ∨ (∃ xs, SqT K H p xs ∧ k = !xs.isEmpty) ∨ ∃ kvs, H p = some (.dK kvs) ∧ k = !kvs.isEmpty
  | _ => False
theorem isEmpty_kv {κ : Type} {kvs : List (κ × V)} {vs : List (κ × Value)} (r : KV kvs vs) : (!vs.isEmpty) = !kvs.isEmpty := by
  cases r <;> rfl
theorem isEmpty_of {xs : List V} {its : List Value} (r : Vals xs its) : (!its.toArray.isEmpty) = !xs.isEmpty := by
  cases r <;> simp
theorem line63 : (sizeLine : Nat) < 2 ^ 63 := by rw [sizeLine_eq]; decide
theorem tru_ok : TruR X (fun x H Q => ∃ k, TruV X.K x H k ∧ Q k H) := by
  intro pins s σ H x v Q I rx h
  obtain ⟨k, e, q⟩ := h
  have hl := line63
  have hs : sizeLine = 16777216 := sizeLine_eq
  cases x with
  | non =>
    cases rx
    have e' : k = false := e
    subst e'
    exact truthy_none ⟨H, I, q⟩
  | bl b =>
    cases rx
    have e' : k = b := e
    subst e'
    exact wpAny_truthy_bool ⟨H, I, q⟩
  | int i =>
    obtain ⟨t, rfl⟩ := rx
    have e' : k = (i != 0) := e
    subst e'
    exact PySem.P.truthy_int ⟨H, I, q⟩
  | str y =>
    obtain ⟨t, rfl⟩ := rx
    obtain ⟨hy, e'⟩ : y.length ≤ sizeLine ∧ k = ((y.length : Int) != 0) := e
    subst e'
    exact PySem.P.truthy_str (by omega) ⟨H, I.tok _, q⟩
  | byt y =>
    obtain ⟨t, rfl⟩ := rx
    obtain ⟨hy, e'⟩ : y.size ≤ sizeLine ∧ k = ((y.size : Int) != 0) := e
    subst e'
    exact PySem.W.truthy_bytes (by omega) ⟨H, I.tok _, q⟩
  | ref p =>
    cases rx
    have e' : (∃ xs, SqL X.K H p xs ∧ k = !xs.isEmpty) ∨ (∃ xs, SqT X.K H p xs ∧ k = !xs.isEmpty) ∨ ∃ kvs, H p = some (.dK kvs) ∧ k = !kvs.isEmpty := e
    rcases e' with ⟨xs, hx, e'⟩ | ⟨xs, hx, e'⟩ | ⟨kvs, hx, e'⟩
    · subst e'
      obtain ⟨its, r, pl, hz⟩ := I.list hx
      have hlen := r.length
      exact wpAny_truthy_list pl.isList (by simp only [List.size_toArray]; omega) ⟨H, I.tok _, by rw [isEmpty_of r]; exact q⟩
    · subst e'
      obtain ⟨its, r, pl, hz⟩ := I.tuple hx
      have hlen := r.length
      exact truthy_tuple pl (by simp only [List.size_toArray]; omega) ⟨H, I.tok _, by rw [isEmpty_of r]; exact q⟩
    · subst e'
      obtain ⟨hz, hS, vs, r, m⟩ : kvs.length ≤ sizeLine ∧ (p == sysModules) = false ∧ ∃ vs, KV kvs vs ∧ s.heap.DictOf (mixKind X.prog X.w) p vs := I.hok p _ hx
      have hlen : kvs.length = vs.length := Paired.length r
      exact wpAny_truthy_dict hS m (by omega) ⟨H, I.tok _, by rw [isEmpty_kv r]; exact q⟩
  | _ => exact (show False from e).elim
/-- any expression whose test is its value's truth (a name, a call, a subscript, a field ..: he by fun _ => rfl) -/
theorem pt_truth (ha : PE X a ta) (he : ∀ whole, isTrue a X.env whole = (do let v ← whole; standAt a.pos; holding [v] (truthy v))) :
    PT X a (fun σ H Q => ta σ H fun x H' => ∃ k, TruV X.K x H' k ∧ Q k H') := by
  intro pins s σ H Q I h
  exact isTrue_plain (thn (ha pins s σ H _ I h) fun v s1 ⟨x, H1, I1, r1, q1⟩ => tru_ok pins s1 σ H1 x v Q I1 r1 q1) (he _)

/-! ### strs and bytes -/
theorem pe_byt {x : List UInt8} {k : Nat} : PE X (.Constant (.bytes x) k pos) (fun _ H Q => Q (.byt x.toArray) H) := fun _ _ _ H _ I h => PySem.W.Constant_bytes ⟨.byt x.toArray, H, I.tok _, ⟨_, rfl⟩, h⟩
theorem op_add_str : OpR X (binaryOp .Add) (fun x y H Q => ∃ i j, x = .str i ∧ y = .str j ∧ i.length + j.length ≤ sizeLine ∧ Q (.str (i ++ j)) H) := by
  intro pins s σ H x y v u Q I rx ry h
  obtain ⟨i, j, rfl, rfl, hz, q⟩ := h
  obtain ⟨t, rfl⟩ := rx
  obtain ⟨t', rfl⟩ := ry
  exact add_str (fun t' tk => ⟨.str (i ++ j), H, I.tok _, ⟨_, rfl⟩, q⟩) hz
theorem iop_add_str : OpR X (inplaceOp .Add) (fun x y H Q => ∃ i j, x = .str i ∧ y = .str j ∧ i.length + j.length ≤ sizeLine ∧ Q (.str (i ++ j)) H) := by
  intro pins s σ H x y v u Q I rx ry h
  obtain ⟨i, j, rfl, rfl, hz, q⟩ := h
  obtain ⟨t, rfl⟩ := rx
  obtain ⟨t', rfl⟩ := ry
  exact iadd_str (fun t' tk => ⟨.str (i ++ j), H, I.tok _, ⟨_, rfl⟩, q⟩) hz
theorem op_add_byt : OpR X (binaryOp .Add) (fun x y H Q => ∃ i j, x = .byt i ∧ y = .byt j ∧ i.size + j.size ≤ 16777216 ∧ Q (.byt (i ++ j)) H) := by
  intro pins s σ H x y v u Q I rx ry h
  obtain ⟨i, j, rfl, rfl, hz, q⟩ := h
  obtain ⟨t, rfl⟩ := rx
  obtain ⟨t', rfl⟩ := ry
  exact PySem.W.KBy.add_bytes hz (fun t' tk => ⟨.byt (i ++ j), H, I.tok _, ⟨_, rfl⟩, q⟩)

def PlainIxT (b : Expr) : Prop := ∀ o i, subscripted b false o i = operate [o, i] (getItem o i)
/-- s[i], 0 ≤ i < len -/
theorem pe_item_str (ha : PE X a ta) (hb : PE X b tb) (hs : PlainIxT b) :
    PE X (.Subscript a b pos) (tOp (fun x y H Q => ∃ z i c, x = .str z ∧ y = .int i ∧ 0 ≤ i ∧ i < 2 ^ 63 ∧ i < z.length ∧ z.cps[i.toNat]? = some c ∧ Q (.str ⟨#[c]⟩) H) ta tb) := by
  intro pins s σ H Q I h
  refine Subscript_ (binT ha hb I h fun v u s2 x y H2 I2 rx ry q => ?_)
  obtain ⟨z, i, c, rfl, rfl, h0, h63, h1, hc, q⟩ := q
  obtain ⟨t, rfl⟩ := rx
  obtain ⟨t', rfl⟩ := ry
  have e : seqIndex? i z.length = some i.toNat := PySem.StrLaws.seqIndex_nonneg h0 h1
  exact tail_any (typeIs_str s2 z t) slot_str_getitem.lookup (getItem_str (c := c) (by
    have e1 : decide (i < -(2 ^ 63 : Int)) = false := decide_eq_false (by omega)
    have e2 : decide (i ≥ 2 ^ 63) = false := decide_eq_false (by omega)
    rw [e1, e2] <;> rfl) (by rw [e]; exact hc) ⟨.str ⟨#[c]⟩, H2, I2.tok _, ⟨_, rfl⟩, q⟩) (hs _ _)
/-- b[i], 0 ≤ i < len -/
theorem pe_item_byt (ha : PE X a ta) (hb : PE X b tb) (hs : PlainIxT b) :
    PE X (.Subscript a b pos) (tOp (fun x y H Q => ∃ (z : List UInt8) (i : Int), x = .byt z.toArray ∧ y = .int i ∧ z.length ≤ sizeLine ∧ 0 ≤ i ∧ i < z.length ∧ Q (.int ((z.getD i.toNat 0).toNat : Nat)) H) ta tb) := by
  intro pins s σ H Q I h
  refine Subscript_ (binT ha hb I h fun v u s2 x y H2 I2 rx ry q => ?_)
  obtain ⟨z, i, rfl, rfl, hz, h0, h1, q⟩ := q
  obtain ⟨t, rfl⟩ := rx
  obtain ⟨t', rfl⟩ := ry
  have hl : sizeLine = 16777216 := sizeLine_eq
  exact tail_any (PySem.W.typeIs_bytes s2 z.toArray t) PySem.W.FB.slot_bytes_getitem.lookup (PySem.W.getItem_bytes (by omega) h0 h1 ⟨.int ((z.getD i.toNat 0).toNat : Nat), H2, I2.tok _, ⟨_, rfl⟩, q⟩) (hs _ _)

/-! ### scalar builtins, by CallR -/
theorem vals1 {x : V} {us : List Value} (r : Vals [x] us) : ∃ u, us = [u] ∧ RelV x u := by
  cases r with
  | cons r1 r2 => cases r2; exact ⟨_, rfl, r1⟩
theorem vals2 {x y : V} {us : List Value} (r : Vals [x, y] us) : ∃ u w', us = [u, w'] ∧ RelV x u ∧ RelV y w' := by
  cases r with
  | cons r1 r2 =>
    cases r2 with
    | cons r3 r4 => cases r4; exact ⟨_, _, rfl, r1, r3⟩
theorem call_abs : CallR X (.builtin "abs") (fun xs H Q => ∃ i, xs = [.int i] ∧ Q (.int (if i < 0 then -i else i)) H) := by
  intro pins s σ H xs us Q I r h
  obtain ⟨i, rfl, q⟩ := h
  obtain ⟨u, rfl, t, rfl⟩ := vals1 r
  exact call_abs_int fun u tk => ⟨.int (if i < 0 then -i else i), H, I.tok _, ⟨_, rfl⟩, q⟩
theorem call_max2 (hc : X.calm = true) : CallR X (.builtin "max") (fun xs H Q => ∃ i j, xs = [.int i, .int j] ∧ Q (.int (if j > i then j else i)) H) := by
  intro pins s σ H xs us Q I r h
  obtain ⟨i, j, rfl, q⟩ := h
  obtain ⟨u, w', rfl, ⟨t, rfl⟩, ⟨t', rfl⟩⟩ := vals2 r
  refine max_two_ints (I.ok.hd hc) fun h' tk k => ⟨_, H, I.kept k, ?_, q⟩
  by_cases hj : j > i
  · rw [if_pos hj, if_pos hj]; exact ⟨_, rfl⟩
  · rw [if_neg hj, if_neg hj]; exact ⟨_, rfl⟩
theorem call_min2 (hc : X.calm = true) : CallR X (.builtin "min") (fun xs H Q => ∃ i j, xs = [.int i, .int j] ∧ Q (.int (if j < i then j else i)) H) := by
  intro pins s σ H xs us Q I r h
  obtain ⟨i, j, rfl, q⟩ := h
  obtain ⟨u, w', rfl, ⟨t, rfl⟩, ⟨t', rfl⟩⟩ := vals2 r
  refine min_two_ints (I.ok.hd hc) fun h' tk k => ⟨_, H, I.kept k, ?_, q⟩
  by_cases hj : j < i
  · rw [if_pos hj, if_pos hj]; exact ⟨_, rfl⟩
  · rw [if_neg hj, if_neg hj]; exact ⟨_, rfl⟩
theorem call_int1 : CallR X (.type "int") (fun xs H Q => (∃ i, xs = [.int i] ∧ Q (.int i) H) ∨ ∃ k, xs = [.bl k] ∧ Q (.int (if k then 1 else 0)) H) := by
  intro pins s σ H xs us Q I r h
  rcases h with ⟨i, rfl, q⟩ | ⟨k, rfl, q⟩
  · obtain ⟨u, rfl, t, rfl⟩ := vals1 r
    exact call_int_int ⟨.int i, H, I, ⟨_, rfl⟩, q⟩
  · obtain ⟨u, rfl, r1⟩ := vals1 r
    cases r1
    exact call_int_bool ⟨.int (if k then 1 else 0), H, I.tok _, ⟨_, rfl⟩, q⟩
theorem call_bool1 : CallR X (.type "bool") (fun xs H Q => (∃ i, xs = [.int i] ∧ Q (.bl (i != 0)) H) ∨ ∃ k, xs = [.bl k] ∧ Q (.bl k) H) := by
  intro pins s σ H xs us Q I r h
  rcases h with ⟨i, rfl, q⟩ | ⟨k, rfl, q⟩
  · obtain ⟨u, rfl, t, rfl⟩ := vals1 r
    exact call_bool_int ⟨.bl (i != 0), H, I, rfl, q⟩
  · obtain ⟨u, rfl, r1⟩ := vals1 r
    cases r1
    exact call_bool_bool ⟨.bl k, H, I, rfl, q⟩
theorem call_str_int : CallR X (.type "str") (fun xs H Q => ∃ i, xs = [.int i] ∧ i.natAbs.log2 < 1920 ∧ Q (.str (toString i)) H) := by
  intro pins s σ H xs us Q I r h
  obtain ⟨i, rfl, hz, q⟩ := h
  obtain ⟨u, rfl, t, rfl⟩ := vals1 r
  exact PySem.P.str_of_int hz ⟨.str _, H, I.tok _, ⟨_, rfl⟩, q⟩
theorem call_ord : CallR X (.builtin "ord") (fun xs H Q => ∃ x, xs = [.str x] ∧ x.length = 1 ∧ Q (.int (x.cps.getD 0 0 : Nat)) H) := by
  intro pins s σ H xs us Q I r h
  obtain ⟨x, rfl, hz, q⟩ := h
  obtain ⟨u, rfl, t, rfl⟩ := vals1 r
  exact ord_of_one hz ⟨.int _, H, I.tok _, ⟨_, rfl⟩, q⟩
theorem call_chr : CallR X (.builtin "chr") (fun xs H Q => ∃ i, xs = [.int i] ∧ 0 ≤ i ∧ i ≤ 1114111 ∧ Q (.str ⟨#[i.toNat]⟩) H) := by
  intro pins s σ H xs us Q I r h
  obtain ⟨i, rfl, h0, h1, q⟩ := h
  obtain ⟨u, rfl, t, rfl⟩ := vals1 r
  exact chr_of_range h0 h1 ⟨.str _, H, I.tok _, ⟨_, rfl⟩, q⟩
/-- len of a str, a bytes, a list, a tuple -/
def LenV (K : PySem.W.Frag) (x : V) (H : Hp) (n : Nat) : Prop :=
  match x with
  | .str y => y.length ≤ sizeLine ∧ n = y.length
  | .byt y => y.size ≤ sizeLine ∧ n = y.size
  | .ref p => (∃ xs, SqL K H p xs ∧ n = xs.length) ∨ ∃ xs, SqT K H p xs ∧ n = xs.length
  | _ => False
theorem call_len : CallR X (.builtin "len") (fun xs H Q => ∃ x n, xs = [x] ∧ LenV X.K x H n ∧ Q (.int n) H) := by
  intro pins s σ H xs us Q I r h
  obtain ⟨x, n, rfl, e, q⟩ := h
  obtain ⟨u, rfl, rx⟩ := vals1 r
  have hl := line63
  have hs : sizeLine = 16777216 := sizeLine_eq
  cases x with
  | str y =>
    obtain ⟨t, rfl⟩ := rx
    obtain ⟨hy, e'⟩ : y.length ≤ sizeLine ∧ n = y.length := e
    subst e'
    exact len_str (by omega) ⟨.int _, H, I.tok _, ⟨_, rfl⟩, q⟩
  | byt y =>
    obtain ⟨t, rfl⟩ := rx
    obtain ⟨hy, e'⟩ : y.size ≤ sizeLine ∧ n = y.size := e
    subst e'
    exact PySem.W.len_bytes (by omega) ⟨.int _, H, I.tok _, ⟨_, rfl⟩, q⟩
  | ref p =>
    cases rx
    have e' : (∃ xs, SqL X.K H p xs ∧ n = xs.length) ∨ ∃ xs, SqT X.K H p xs ∧ n = xs.length := e
    rcases e' with ⟨xs, hx, e'⟩ | ⟨xs, hx, e'⟩
    · subst e'
      obtain ⟨its, r', pl, hz⟩ := I.list hx
      have hlen := r'.length
      exact Calls.call_len_list pl.isList (by simp only [List.size_toArray]; omega) ⟨.int xs.length, H, I.tok _, ⟨_, by simp only [List.size_toArray]; rw [hlen]⟩, q⟩
    · subst e'
      obtain ⟨its, r', pl, hz⟩ := I.tuple hx
      have hlen := r'.length
      exact len_tuple pl (by simp only [List.size_toArray]; omega) ⟨.int xs.length, H, I.tok _, ⟨_, by simp only [List.size_toArray]; rw [hlen]⟩, q⟩
  | _ => exact (show False from e).elim
/-- divmod: a new tuple -/
theorem call_divmod : CallR X (.builtin "divmod") (fun xs H Q => ∃ i j, xs = [.int i, .int j] ∧ CDiv i j ∧ ∀ p, H p = none → Q (.ref p) (upd H p (.tup [.int (i / j), .int (i % j)]))) := by
  intro pins s σ H xs us Q I r h
  obtain ⟨i, j, rfl, ⟨h1, h2⟩, q⟩ := h
  obtain ⟨u, w', rfl, ⟨t, rfl⟩, ⟨t', rfl⟩⟩ := vals2 r
  refine divmod_int (by omega) ?_ (.inl (PyProof.noPylong_small (by omega)))
  rw [Int.fdiv_eq_ediv_of_nonneg i (by omega), Int.fmod_eq_emod_of_nonneg i (by omega)]
  have hn : H s.heap.objs.size = none := I.hok.fresh (Nat.le_refl _)
  refine ⟨.ref s.heap.objs.size, _, ?_, rfl, q _ hn⟩
  refine I.laid (fun b o e => Heap.get?_push_of_some _ e) (Nat.le_refl _) ⟨by simp only [List.length_cons, List.length_nil]; rw [sizeLine_eq]; decide, [.int (i / j) s.toks, .int (i % j) (s.toks + 1)], .cons ⟨_, rfl⟩ (.cons ⟨_, rfl⟩ .nil), ?_⟩
  exact ⟨_, Heap.get?_push_size s.heap rfl, rfl, 0, rfl⟩
end
end L2

namespace L2
open PySem PySem.Spec PyProof.Rows

/-! ### an instance, its attributes a map -/
structure ObjM (h : Heap) (x dx C : Addr) (mA : Str → Option Value) : Prop where
  obj : h.get? x = some (PySem.W.instObj C dx)
  ns : h.Ns1 dx mA
  ne : dx ≠ x

theorem lookIn_ns {h : Heap} {dx : Addr} {mA : Str → Option Value} (n : h.Ns1 dx mA) : ∃ od, h.get? dx = some od ∧ ∀ name, PySem.W.lookIn name od = some (mA name) := by
  obtain ⟨o, es, ep, ho, hd, hk, _, hm⟩ := n
  refine ⟨o, ho, fun name => ?_⟩
  have e := hm name
  unfold nsFind findBy at e
  rw [← Array.find?_toList] at e
  unfold PySem.W.lookIn
  rw [hd]
  dsimp only
  split
  · rename_i y q
    rw [q] at e
    exact congrArg some e
  · rename_i q
    rw [q] at e
    have a : es.toList.any (·.refKey) = false := by
      rw [List.any_eq_false]
      intro y hy
      obtain ⟨z, t, hkey⟩ := hk y (Array.mem_toList_iff.mp hy)
      simp [DictEntry.refKey, hkey]
    have a' : ¬ es.toList.any (·.refKey) = true := by rw [a]; exact Bool.false_ne_true
    rw [if_neg a']
    exact congrArg some e

theorem ObjM.look {h : Heap} {x dx C : Addr} {mA : Str → Option Value} (I : ObjM h x dx C mA) : ∃ od, PySem.W.InstAt h x (PySem.W.instObj C dx) C (some od) ∧ ∀ name, PySem.W.lookIn name od = some (mA name) :=
  let ⟨od, ho, hl⟩ := lookIn_ns I.ns
  ⟨od, ⟨I.obj, rfl, rfl, ho⟩, hl⟩

section
variable {prog : Program} {w : World} {A : Around} {E : Value → Shared → Prop} {s : Shared} {K : PySem.W.Frag} {x dx C f : Addr} {mA : Str → Option Value} {name : Str} {v : Value}

theorem get_map {expr : Bool} {Q : Value → Shared → Prop} (X : K.In s.heap) (I : ObjM s.heap x dx C mA) (hg : PySem.W.plainGet K C name = true) (hh : PySem.W.hasDictIn K C = true)
    (ha : PySem.W.findIn K (.ref C) name = some none) (hv : mA name = some v) (hv' : PySem.W.handedIn v = true) (h : Q v { s with toks := s.toks + 1 }) :
    wpAny (model prog w) A (getAttr (.ref x) name expr) Q E s := by
  obtain ⟨od, J, hl⟩ := I.look
  exact PySem.W.get_value X J (PySem.W.plainGet_of hg).1 (PySem.W.findObj_own hh ha rfl (by rw [hl, hv])) hv' h

theorem get_const {expr : Bool} {a : Value} {Q : Value → Shared → Prop} (X : K.In s.heap) (I : ObjM s.heap x dx C mA) (hg : PySem.W.plainGet K C name = true) (hh : PySem.W.hasDictIn K C = true)
    (ha : PySem.W.findIn K (.ref C) name = some (some a)) (hn : PySem.W.specialIn K a "__get__" = some none) (hc : PySem.W.copiedNames.contains name = false) (hv : mA name = none) (hv' : PySem.W.handedIn a = true)
    (h : Q a { s with toks := s.toks + 1 }) : wpAny (model prog w) A (getAttr (.ref x) name expr) Q E s := by
  obtain ⟨od, J, hl⟩ := I.look
  exact PySem.W.get_value X J (PySem.W.plainGet_of hg).1 (PySem.W.findObj_cls hh ha hn hv' hc (by rw [hl, hv])) hv' h

theorem get_meth {pl : Sem Bool} {Q : Value × List Value → Shared → Prop} (X : K.In s.heap) (I : ObjM s.heap x dx C mA) (hg : PySem.W.plainGet K C name = true)
    (hf : PySem.W.findIn K (.ref C) name = some (some (.ref f))) (ht : PySem.W.isFn K (.ref f) = true) (hv : mA name = none) (h : Q (.ref f, [.ref x]) s) :
    wpAny (model prog w) A (getMethod (.ref x) name pl) Q E s := by
  obtain ⟨od, J, hl⟩ := I.look
  exact PySem.W.method_fn X J (PySem.W.plainGet_of hg).1 (PySem.W.plainGet_of hg).2 hf (beq_iff_eq.mp ht) (by show (PySem.W.lookIn name od).map (·.isSome) = some false; rw [hl, hv]; rfl) h

theorem set_map {ns : List Str} {Q : Unit → Shared → Prop} (X : K.In s.heap) (I : ObjM s.heap x dx C mA)
    (hs : PySem.W.findIn K (.ref C) "__setattr__" = some (some (.builtin "object.__setattr__"))) (hp : PySem.W.plainOver K C = true) (ht : PySem.W.takerIn K C name = some none) (hh : PySem.W.hasDictIn K C = true)
    (hw : PySem.Within mA ns) (hsz : ns.length ≤ sizeLine)
    (h : ∀ h', ObjM h' x dx C (fun y => if y = name then some v else mA y) → Heap.SameBut dx s.heap h' → Q () { s with heap := h', toks := s.toks + 2 }) :
    wpAny (model prog w) A (setAttr (.ref x) name v) Q E s := by
  obtain ⟨od, J, hl⟩ := I.look
  refine PySem.W.set_plain X J hs (PySem.W.osa_open (s := { s with toks := s.toks + 1 }) (r := none) X J hp ht fun b => ?_)
  obtain ⟨cd, hc, hd'⟩ := PySem.W.any_some hh
  have hx : s.heap.get? x = some ⟨.ref C, some dx, .plain, #[]⟩ := I.obj
  refine wpAny_bind (wpAny_pure (wpAny_bind (wpAny_bind (wpAny_loadPart hx (wpAny_bind (PySem.W.Looks.here (s := { s with toks := s.toks + 1 }) (PySem.W.looks_clsIn X hc) ?_))))))
  rw [hd']
  refine wpAny_pure (a := some dx) (wpAny_bind (wpAny_pure (wpAny_bind ?_)))
  refine wpAny_nsSet1 (s := { s with toks := s.toks + 1 }) I.ns fun h' hn2 hs2 => ?_
  obtain ⟨oD, esD, epD, hoD, hdD, hcD⟩ := hn2.count (PySem.Within.cons name v hw)
  refine wpAny_bind (wpAny_lookBehind hoD (by rw [hdD]; exact pastItsLine_dict (Nat.le_trans hcD (by rw [List.length_cons]; omega))) ?_)
  exact wpAny_pure (h _ ⟨(hs2.2 _ (Ne.symm I.ne)).trans I.obj, hn2, I.ne⟩ hs2)

/-- C(..): the dict at the heap's end, the instance behind it; then its __init__ -/
theorem make_map {R : Result → Shared → Prop} {vs : List Value} {kw : List (Str × Value)} (X : K.In s.heap) (hm : PySem.W.makesIn K C = true)
    (hi : PySem.W.findIn K (.ref C) "__init__" = some (some (.ref f))) (hf : PySem.W.typeIn K (.ref f) = some (.type "function"))
    (h : codeAny (model prog w) (A.under (.builtin "type.__call__" ⟨.ref C :: vs, kw⟩)) (.call (.ref f) ⟨.ref (s.heap.objs.size + 1) :: vs, kw⟩) (PySem.W.InitBack (s.heap.objs.size + 1) R)
      { s with heap := (s.heap.push PySem.W.emptyDict).push (PySem.W.instObj C s.heap.objs.size) }) :
    codeAny (model prog w) A (.call (.ref C) ⟨vs, kw⟩) R s := by
  obtain ⟨hh, g, d, t, os⟩ := s
  exact PySem.W.make_core (PySem.W.makes_of X hm) (PySem.W.looks_findIn X hi) (fun self => PySem.W.bind_fn X self hf) (.inl rfl) h
/-- C() where there is no __init__ but object's -/
theorem make_map0 {R : Result → Shared → Prop} (X : K.In s.heap) (hm : PySem.W.makesIn K C = true)
    (hi : PySem.W.findIn K (.ref C) "__init__" = some (some (.builtin "object.__init__")))
    (hb : ∀ self, PySem.W.Looks (model prog w) s.heap (bindSpecial (.builtin "object.__init__") self) (.builtin "object.__init__", [self]))
    (h : codeAny (model prog w) (A.under (.builtin "type.__call__" ⟨[.ref C], []⟩)) (.call (.builtin "object.__init__") ⟨[.ref (s.heap.objs.size + 1)], []⟩) (PySem.W.InitBack (s.heap.objs.size + 1) R)
      { s with heap := (s.heap.push PySem.W.emptyDict).push (PySem.W.instObj C s.heap.objs.size) }) :
    codeAny (model prog w) A (.call (.ref C) ⟨[], []⟩) R s := by
  obtain ⟨hh, g, d, t, os⟩ := s
  exact PySem.W.make_core (PySem.W.makes_of X hm) (PySem.W.looks_findIn X hi) hb (.inr ⟨rfl, rfl⟩) h
end

/-! ### the attributes as a list of pairs -/
def putF (f : Str) (v : V) : List (Str × V) → List (Str × V)
  | [] => [(f, v)]
  | (g, x) :: r => if g = f then (g, v) :: r else (g, x) :: putF f v r
theorem lookup_putF (f g : Str) (v : V) : ∀ fs : List (Str × V), (putF f v fs).lookup g = if g = f then some v else fs.lookup g
  | [] => by
    show List.lookup g [(f, v)] = _
    by_cases h : g = f
    · have hb : (g == f) = true := beq_iff_eq.mpr h
      simp only [List.lookup, hb, if_pos h]
    · have hb : (g == f) = false := beq_eq_false_iff_ne.mpr h
      simp only [List.lookup, hb, if_neg h]
  | (k, x) :: r => by
    have ih := lookup_putF f g v r
    rw [show putF f v ((k, x) :: r) = (if k = f then (k, v) :: r else (k, x) :: putF f v r) from rfl]
    by_cases hk : k = f
    · rw [if_pos hk]
      by_cases h : g = k
      · have hb : (g == k) = true := beq_iff_eq.mpr h
        simp only [List.lookup, hb, if_pos (h.trans hk)]
      · have hb : (g == k) = false := beq_eq_false_iff_ne.mpr h
        simp only [List.lookup, hb, if_neg (fun e : g = f => h (e.trans hk.symm))]
    · rw [if_neg hk]
      by_cases h : g = k
      · have hb : (g == k) = true := beq_iff_eq.mpr h
        simp only [List.lookup, hb, if_neg (fun e : g = f => hk (h.symm.trans e))]
      · have hb : (g == k) = false := beq_eq_false_iff_ne.mpr h
        simp only [List.lookup, hb]
        exact ih
theorem keys_putF (f : Str) (v : V) : ∀ fs : List (Str × V), f ∈ (putF f v fs).map (·.1) ∧ ∀ g, g ∈ fs.map (·.1) → g ∈ (putF f v fs).map (·.1)
  | [] => ⟨by simp [putF], fun g h => by simp at h⟩
  | (k, x) :: r => by
    obtain ⟨i1, i2⟩ := keys_putF f v r
    rw [show putF f v ((k, x) :: r) = (if k = f then (k, v) :: r else (k, x) :: putF f v r) from rfl]
    by_cases hk : k = f
    · rw [if_pos hk]
      subst hk
      exact ⟨by simp, fun g h => by simpa using h⟩
    · rw [if_neg hk]
      refine ⟨?_, fun g h => ?_⟩
      · rw [List.map_cons]
        exact List.mem_cons_of_mem _ i1
      · rw [List.map_cons] at h ⊢
        rcases List.mem_cons.mp h with e | e
        · exact List.mem_cons.mpr (.inl e)
        · exact List.mem_cons_of_mem _ (i2 g e)
theorem length_putF (f : Str) (v : V) : ∀ fs : List (Str × V), (putF f v fs).length ≤ fs.length + 1
  | [] => by simp [putF]
  | (k, x) :: r => by
    have ih := length_putF f v r
    rw [show putF f v ((k, x) :: r) = (if k = f then (k, v) :: r else (k, x) :: putF f v r) from rfl]
    by_cases hk : k = f
    · rw [if_pos hk, List.length_cons, List.length_cons]; omega
    · rw [if_neg hk, List.length_cons, List.length_cons]; omega

theorem RelO.some_of {v : V} {o : Option Value} (r : RelO (some v) o) : ∃ u, o = some u ∧ RelV v u := by
  cases o with
  | none => exact (show False from r).elim
  | some u => exact ⟨u, rfl, r⟩
theorem RelO.none_of {o : Option Value} (r : RelO none o) : o = none := by
  cases o with
  | none => rfl
  | some u => exact (show False from r).elim
theorem handed_of {v : V} {u : Value} (r : RelV v u) : PySem.W.handedIn u = true := by
  cases v with
  | non => cases (show u = Value.none from r); rfl
  | bl b => cases (show u = Value.bool b from r); rfl
  | int i => obtain ⟨t, e⟩ := (show ∃ t, u = Value.int i t from r); cases e; rfl
  | str x => obtain ⟨t, e⟩ := (show ∃ t, u = Value.str x t from r); cases e; rfl
  | byt b => obtain ⟨t, e⟩ := (show ∃ t, u = Value.bytes b t from r); cases e; rfl
  | flt b => obtain ⟨t, e⟩ := (show ∃ t, u = Value.float b t from r); cases e; rfl
  | ref a => cases (show u = Value.ref a from r); rfl
  | ty n => cases (show u = Value.type n from r); rfl

section
variable {P : Program} {w : World} {H H' : Hp} {h h' : Heap} {a C dx : Addr} {fs fs' : List (Str × V)}
theorem ins_get (hok : HOk P w H h) (e : H a = some (.ins C dx fs)) : ∃ mA, ObjM h a dx C mA ∧ (∀ f, RelO (fs.lookup f) (mA f)) ∧ PySem.Within mA (fs.map (·.1)) ∧ fs.length ≤ 1000 ∧ H dx = some (.own a) := by
  obtain ⟨d, z, ne, ob, mA, n, r, q⟩ := (show ObjOk P w H h a (.ins C dx fs) from hok a _ e)
  exact ⟨mA, ⟨ob, n, ne⟩, r, q, z, d⟩
end

/-! ### what of the text a class must have -/
structure Cls (K : PySem.W.Frag) (C : Addr) : Prop where
  pg : PySem.W.plainGet K C Str.empty = true
  hd : PySem.W.hasDictIn K C = true
  po : PySem.W.plainOver K C = true
  sa : PySem.W.findIn K (.ref C) "__setattr__" = some (some (.builtin "object.__setattr__"))
theorem Cls.get {K : PySem.W.Frag} {C : Addr} (c : Cls K C) (f : Str) : PySem.W.plainGet K C f = true := c.pg
/-- no class of it has the name -/
def NoAttr (K : PySem.W.Frag) (C : Addr) (f : Str) : Prop := PySem.W.findIn K (.ref C) f = some none
theorem NoAttr.taker {K : PySem.W.Frag} {C : Addr} {f : Str} (n : NoAttr K C f) : PySem.W.takerIn K C f = some none := by
  unfold PySem.W.takerIn
  rw [show PySem.W.findIn K (.ref C) f = some none from n]
  rfl
/-- a constant of the class -/
structure Con (K : PySem.W.Frag) (C : Addr) (f : Str) (v : V) (u : Value) : Prop where
  at_ : PySem.W.findIn K (.ref C) f = some (some u)
  rel : RelV v u
  get : PySem.W.specialIn K u "__get__" = some none
  cp : PySem.W.copiedNames.contains f = false
/-- a method: a plain def of the class or of one above it -/
structure Meth (K : PySem.W.Frag) (C : Addr) (m : Str) (f : Addr) : Prop where
  at_ : PySem.W.findIn K (.ref C) m = some (some (.ref f))
  fn : PySem.W.isFn K (.ref f) = true
  kp : PySem.W.keepIn K (.ref f) = true

section
variable {X : Cx} {pins : List (Addr × Obj)} {σ : St} {H : Hp} {s : Shared} {a C dx : Addr} {fs : List (Str × V)} {f : Str} {v : V} {A : Around} {E : Value → Shared → Prop}

theorem getattr_ok {b : Bool} {Q : Value → Shared → Prop} (I : Inv X pins σ H s) (e : H a = some (.ins C dx fs)) (c : Cls X.K C) (n : NoAttr X.K C f) (l : fs.lookup f = some v)
    (h : ∀ u s', Inv X pins σ H s' → RelV v u → Q u s') : wpAny (model X.prog X.w) A (getAttr (.ref a) f b) Q E s := by
  obtain ⟨mA, O, r, _, _, _⟩ := ins_get I.hok e
  obtain ⟨u, hu, ru⟩ := RelO.some_of (v := v) (o := mA f) (by rw [← l]; exact r f)
  exact get_map I.kIn O (c.get f) c.hd n hu (handed_of ru) (h u _ (I.tok _) ru)

theorem getcon_ok {b : Bool} {u : Value} {Q : Value → Shared → Prop} (I : Inv X pins σ H s) (e : H a = some (.ins C dx fs)) (c : Cls X.K C) (k : Con X.K C f v u) (l : fs.lookup f = none)
    (h : ∀ s', Inv X pins σ H s' → Q u s') : wpAny (model X.prog X.w) A (getAttr (.ref a) f b) Q E s := by
  obtain ⟨mA, O, r, _, _, _⟩ := ins_get I.hok e
  have hn : mA f = none := RelO.none_of (by rw [← l]; exact r f)
  exact get_const I.kIn O (c.get f) c.hd k.at_ k.get k.cp hn (handed_of k.rel) (h _ (I.tok _))

theorem getmeth_ok {m : Str} {g : Addr} {pl : Sem Bool} {Q : Value × List Value → Shared → Prop} (I : Inv X pins σ H s) (e : H a = some (.ins C dx fs)) (c : Cls X.K C) (k : Meth X.K C m g) (l : fs.lookup m = none)
    (h : Q (.ref g, [.ref a]) s) : wpAny (model X.prog X.w) A (getMethod (.ref a) m pl) Q E s := by
  obtain ⟨mA, O, r, _, _, _⟩ := ins_get I.hok e
  have hn : mA m = none := RelO.none_of (by rw [← l]; exact r m)
  exact get_meth I.kIn O (c.get m) k.at_ k.fn hn h

theorem setattr_ok {y : V} {u : Value} {Q : Unit → Shared → Prop} (I : Inv X pins σ H s) (e : H a = some (.ins C dx fs)) (c : Cls X.K C) (n : NoAttr X.K C f) (hl : fs.length < 1000) (ry : RelV y u)
    (h : ∀ s', Inv X pins σ (upd H a (.ins C dx (putF f y fs))) s' → Q () s') : wpAny (model X.prog X.w) A (setAttr (.ref a) f u) Q E s := by
  obtain ⟨mA, O, r, wi, _, ho⟩ := ins_get I.hok e
  have hz : (fs.map (·.1)).length ≤ sizeLine := by rw [List.length_map, sizeLine_eq]; omega
  refine set_map I.kIn O c.sa c.po n.taker c.hd wi hz fun h' O' sb => h _ ?_
  have hd : ∃ o, h'.get? dx = some o := let ⟨o, _, _, e', _⟩ := O'.ns; ⟨o, e'⟩
  refine I.write (x := a) (e := dx) (by rw [e]; exact True.intro) (.inr ho) (fun b q hb z => (sb.2 b hb).trans z) hd ?_
  refine ⟨by rw [upd_ne O.ne]; exact ho, ?_, O.ne, O'.obj, _, O'.ns, fun g => ?_, fun g hg => ?_⟩
  · have := length_putF f y fs; omega
  · show RelO ((putF f y fs).lookup g) (if g = f then some u else mA g)
    rw [lookup_putF]
    by_cases q : g = f
    · rw [if_pos q, if_pos q]; exact ry
    · rw [if_neg q, if_neg q]; exact r g
  · by_cases q : g = f
    · rw [q]; exact (keys_putF f y fs).1
    · refine (keys_putF f y fs).2 g (wi g fun z => hg ?_)
      show (if g = f then some u else mA g) = none
      rw [if_neg q]; exact z

/-- a new instance, tracked, without attributes -/
theorem Inv.made (I : Inv X pins σ H s) : Inv X pins σ (upd (upd H s.heap.objs.size (.own (s.heap.objs.size + 1))) (s.heap.objs.size + 1) (.ins C s.heap.objs.size []))
    { s with heap := (s.heap.push PySem.W.emptyDict).push (PySem.W.instObj C s.heap.objs.size) } := by
  have e1 : (s.heap.push PySem.W.emptyDict).get? s.heap.objs.size = some PySem.W.emptyDict := Heap.get?_push_size s.heap rfl
  have e2 : ((s.heap.push PySem.W.emptyDict).push (PySem.W.instObj C s.heap.objs.size)).get? (s.heap.objs.size + 1) = some (PySem.W.instObj C s.heap.objs.size) := by
    have := Heap.get?_push_size (s.heap.push PySem.W.emptyDict) (o := PySem.W.instObj C s.heap.objs.size) rfl
    rwa [Heap.size_push] at this
  have e3 : (s.heap.push PySem.W.emptyDict).Ns s.heap.objs.size (fun _ => none) := ⟨PySem.W.emptyDict, #[], _, e1, rfl, (fun e he => absurd he (by simp)), fun _ => rfl⟩
  have I1 := I.laid (a := s.heap.objs.size) (o := .own (s.heap.objs.size + 1)) (h' := s.heap.push PySem.W.emptyDict) (t' := s.toks) (fun b u q => Heap.get?_push_of_some _ q) (Nat.le_refl _) ⟨_, e1⟩
  refine I1.laid (a := s.heap.objs.size + 1) (o := .ins C s.heap.objs.size []) (t' := s.toks) (fun b u q => Heap.get?_push_of_some _ q) (Nat.le_of_eq (Heap.size_push _ _)) ?_
  have ne : s.heap.objs.size ≠ s.heap.objs.size + 1 := Nat.ne_of_lt (Nat.lt_succ_self _)
  refine ⟨by rw [upd_ne ne, upd_same], Nat.zero_le _, ne, e2, fun _ => none, (Heap.Ns1.of_empty e3).at fun o q => Heap.get?_push_of_some _ q, fun _ => True.intro, fun y hy => absurd rfl hy⟩

/-- e.f where nothing but the object is asked: through attributeBase (super) and the last hold -/
theorem attr_of {prog : Program} {w : World} {env : Env} {e : Expr} {f : Str} {pos : Pos} {s : Shared} {Q : Value → Shared → Prop} (hb : attributeBase e f env (eval e env) = eval e env)
    (h : wpAny (model prog w) A (eval e env) (fun o s₁ => wpAny (model prog w) A (getAttr o f true) Q E s₁) E s) : wpAny (model prog w) A (eval (.Attribute e f pos) env) Q E s :=
  Attribute_any_ h (by rw [arm_eval_Attribute, hb])
end

/-! ### readings and rules -/
/-- e.f, an attribute of the instance -/
def tFld (K : PySem.W.Frag) (ta : TE) (f : Str) : TE := fun σ H Q => ta σ H fun x H1 => ∃ a C dx fs v, x = .ref a ∧ H1 a = some (.ins C dx fs) ∧ Cls K C ∧ NoAttr K C f ∧ fs.lookup f = some v ∧ Q v H1
/-- e.f, a constant of the class -/
def tCon (K : PySem.W.Frag) (ta : TE) (f : Str) : TE := fun σ H Q => ta σ H fun x H1 => ∃ a C dx fs v u, x = .ref a ∧ H1 a = some (.ins C dx fs) ∧ Cls K C ∧ Con K C f v u ∧ fs.lookup f = none ∧ Q v H1
/-- e.f = value -/
def sFld (K : PySem.W.Frag) (ta tv : TE) (f : Str) : TS := fun D σ H => tv σ H fun y H1 => ta σ H1 fun x H2 => ∃ a C dx fs, x = .ref a ∧ H2 a = some (.ins C dx fs) ∧ Cls K C ∧ NoAttr K C f ∧ fs.length < 1000 ∧
  D.nx σ (upd H2 a (.ins C dx (putF f y fs)))
/-- an augmented operator on two values -/
def InOp (X : Cx) (op : Operator) (rd : V → V → Hp → VK → Prop) : Prop :=
  ∀ (pins : List (Addr × Obj)) (s : Shared) (σ : St) (H : Hp) (x y : V) (u v : Value) (Q : VK), Inv X pins σ H s → RelV x u → RelV y v → rd x y H Q → wpAny (model X.prog X.w) X.A (inplaceOp op u v) (EP X pins σ Q) X.xe s
/-- e.f op= value -/
def sFldAug (K : PySem.W.Frag) (ta tv : TE) (rd : V → V → Hp → VK → Prop) (f : Str) : TS := fun D σ H => ta σ H fun x H1 => ∃ a C dx fs v, x = .ref a ∧ H1 a = some (.ins C dx fs) ∧ Cls K C ∧ NoAttr K C f ∧ fs.lookup f = some v ∧
  tv σ H1 fun y H2 => rd v y H2 fun z H3 => ∃ dx' fs', H3 a = some (.ins C dx' fs') ∧ fs'.length < 1000 ∧ D.nx σ (upd H3 a (.ins C dx' (putF f z fs')))

section
variable {X : Cx} {o e value : Expr} {f : Str} {pos pos' tpos : Pos} {ta tv : TE}
theorem pe_fld (he : PE X e ta) (hb : attributeBase e f X.env (eval e X.env) = eval e X.env) : PE X (.Attribute e f pos) (tFld X.K ta f) := by
  intro pins s σ H Q I h
  refine attr_of hb (thn (he pins s σ H _ I h) fun u s1 ⟨x, H1, I1, rx, a, C, dx, fs, v, ex, ea, c, n, l, q⟩ => ?_)
  subst ex
  obtain rfl : u = Value.ref a := rx
  exact getattr_ok I1 ea c n l fun u' s2 I2 ru => ⟨v, H1, I2, ru, q⟩
theorem pe_con (he : PE X e ta) (hb : attributeBase e f X.env (eval e X.env) = eval e X.env) : PE X (.Attribute e f pos) (tCon X.K ta f) := by
  intro pins s σ H Q I h
  refine attr_of hb (thn (he pins s σ H _ I h) fun u s1 ⟨x, H1, I1, rx, a, C, dx, fs, v, u0, ex, ea, c, k, l, q⟩ => ?_)
  subst ex
  obtain rfl : u = Value.ref a := rx
  exact getcon_ok I1 ea c k l fun s2 I2 => ⟨v, H1, I2, k.rel, q⟩
theorem ps_fld (ha : PE X o ta) (hv : PE X value tv) (hs : swapsWith value (some (.Attribute o f pos')) pos.line X.env = pure false) : PS X (.Assign [.Attribute o f pos'] value pos) (sFld X.K ta tv f) := by
  intro pins s σ H D I h
  refine plainObj_wpAny_Assign_Attribute (thn (hv pins s σ H _ I h) fun u s1 ⟨y, H1, I1, ry, q⟩ => thn (ha pins s1 σ H1 _ I1 q) fun ov s2 ⟨x, H2, I2, rx, a, C, dx, fs, ex, ea, c, n, l, q2⟩ => ?_) hs
  subst ex
  obtain rfl : ov = Value.ref a := rx
  exact setattr_ok I2 ea c n l ry fun s3 I3 => ⟨σ, _, I3, q2⟩
theorem ps_fldaug {op : Operator} {rd : V → V → Hp → VK → Prop} (ha : PE X o ta) (hv : PE X value tv) (hop : InOp X op rd) : PS X (.AugAssign (.Attribute o f tpos) op value pos) (sFldAug X.K ta tv rd f) := by
  intro pins s σ H D I h
  refine wpAny_AugAssign_AttributeAny (thn (ha pins s σ H _ I h) fun ov s1 ⟨x, H1, I1, rx, a, C, dx, fs, v, ex, ea, c, n, l, q⟩ => ?_)
  subst ex
  obtain rfl : ov = Value.ref a := rx
  refine getattr_ok I1 ea c n l fun u s2 I2 ru => thn (hv pins s2 σ H1 _ I2 q) fun w3 s3 ⟨y, H2, I3, ry, q3⟩ => thn (hop pins s3 σ H2 v y u w3 _ I3 ru ry q3) fun w4 s4 ⟨z, H3, I4, rz, dx', fs', ea', l', q4⟩ => ?_
  exact setattr_ok I4 ea' c n l' rz fun s5 I5 => ⟨σ, _, I5, q4⟩
def rAdd : V → V → Hp → VK → Prop := fun x y H Q => ∃ i j, x = .int i ∧ y = .int j ∧ Q (.int (i + j)) H
def rSub : V → V → Hp → VK → Prop := fun x y H Q => ∃ i j, x = .int i ∧ y = .int j ∧ Q (.int (i - j)) H
theorem in_add : InOp X .Add rAdd := by
  rintro pins s σ H x y u v Q I rx ry ⟨i, j, rfl, rfl, q⟩
  obtain ⟨t, rfl⟩ := (show ∃ t, u = Value.int i t from rx)
  obtain ⟨t', rfl⟩ := (show ∃ t', v = Value.int j t' from ry)
  exact PyProof.Rows.iadd_int ⟨.int (i + j), H, I.tok _, ⟨_, rfl⟩, q⟩
theorem in_sub : InOp X .Sub rSub := by
  rintro pins s σ H x y u v Q I rx ry ⟨i, j, rfl, rfl, q⟩
  obtain ⟨t, rfl⟩ := (show ∃ t, u = Value.int i t from rx)
  obtain ⟨t', rfl⟩ := (show ∃ t', v = Value.int j t' from ry)
  exact PyProof.Rows.isub_int ⟨.int (i - j), H, I.tok _, ⟨_, rfl⟩, q⟩

/-- what is between an instance and its method: the tree of a method call -/
theorem methcall_of {pl : Sem Bool} {m : Str} {apos : Pos} {args : List Expr} {pins : List (Addr × Obj)} {s : Shared} {σ : St} {H : Hp} {Q : Value → Shared → Prop} {te : TE} (he : PE X e te) (I : Inv X pins σ H s)
    (h : te σ H fun x H1 => ∃ a C dx fs g, x = .ref a ∧ H1 a = some (.ins C dx fs) ∧ Cls X.K C ∧ Meth X.K C m g ∧ fs.lookup m = none ∧
      ∀ s1, Inv X pins σ H1 s1 → wpAny (model X.prog X.w) X.A (callWith pos (.ref g) [.ref a] (backTo pos (starEach args X.env)) (backToKw pos (keywordEach [] X.env))) Q X.xe s1)
    (ht : eval (.Call (.Attribute e m apos) args [] pos) X.env = (do
      let ov ← eval e X.env
      standAt apos.atName
      let (f, first) ← holding [ov] (getMethod ov m pl)
      callWith pos f first (backTo pos (starEach args X.env)) (backToKw pos (keywordEach [] X.env)))) :
    wpAny (model X.prog X.w) X.A (eval (.Call (.Attribute e m apos) args [] pos) X.env) Q X.xe s := by
  refine PySem.W.methodCall_KW (pl := pl) (thn (he pins s σ H _ I h) fun u s1 ⟨x, H1, I1, rx, a, C, dx, fs, g, ex, ea, c, k, l, q⟩ => ?_) ht
  subst ex
  obtain rfl : u = Value.ref a := rx
  exact getmeth_ok I1 ea c k l (q s1 I1)
end

/-! ### isinstance -/
section
variable {X : Cx} {pins : List (Addr × Obj)} {σ : St} {H : Hp} {s : Shared} {A : Around} {E : Value → Shared → Prop} {Q : Value → Shared → Prop} {c : Value} {b : Bool}
/-- the type of a value, as the fragment's deciders take it; for an instance its class -/
inductive TyOf (K : PySem.W.Frag) (H : Hp) : V → Value → Prop where
  | non : TyOf K H .non (.type "NoneType")
  | bl (x : Bool) : TyOf K H (.bl x) (.type "bool")
  | int (i : Int) : TyOf K H (.int i) (.type "int")
  | str (x : Str) : TyOf K H (.str x) (.type "str")
  | flt (x : UInt64) : TyOf K H (.flt x) (.type "float")
  | lst {a : Addr} {xs : List V} (e : H a = some (.lst xs)) : TyOf K H (.ref a) (.type "list")
  | frz {a : Addr} {o : Obj} {xs : List V} (e : H a = some (.frz o (.lst xs))) : TyOf K H (.ref a) (.type "list")
  | tup {a : Addr} {xs : List V} (e : H a = some (.tup xs)) : TyOf K H (.ref a) (.type "tuple")
  | dK {a : Addr} {kvs : List (Key × V)} (e : H a = some (.dK kvs)) : TyOf K H (.ref a) (.type "dict")
  | dT {a : Addr} {kvs : List (List Key × V)} (e : H a = some (.dT kvs)) : TyOf K H (.ref a) (.type "dict")
  | ins {a C dx : Addr} {fs : List (Str × V)} (e : H a = some (.ins C dx fs)) (cl : Cls K C) (ha : PySem.W.findIn K (.ref C) "__class__" = some (some (.builtin "object.__class__")))
      (hn : PySem.W.specialIn K (.builtin "object.__class__") "__get__" = some (some (.builtin "getset_descriptor.__get__"))) (htk : PySem.W.takesIn K (.builtin "object.__class__") = some true)
      (hm : PySem.W.mroIn K C (.type "object") = some true) : TyOf K H (.ref a) (.ref C)
/-- isinstance(x, c) for one class c, a built-in or an own one: kitOne's answer -/
theorem isinst_ok {x : V} {u t : Value} (I : Inv X pins σ H s) (rx : RelV x u) (ty : TyOf X.K H x t) (e : PySem.W.kitOne X.K t c = some b) (h : ∀ tk, Q (.bool b) { s with toks := tk }) :
    wpAny (model X.prog X.w) A (call (.builtin "isinstance") [u, c]) Q E s := by
  cases ty with
  | non => cases (show u = Value.none from rx); exact PySem.W.kia_one PySem.W.kitx_none I.kIn True.intro e (fun z => nomatch z) h
  | bl y => cases (show u = Value.bool y from rx); exact PySem.W.kia_one PySem.W.kitx_bool I.kIn True.intro e (fun z => nomatch z) h
  | int i => obtain ⟨t, q⟩ := (show ∃ t, u = Value.int i t from rx); cases q; exact PySem.W.kia_one PySem.W.kitx_int I.kIn True.intro e (fun z => nomatch z) h
  | str y => obtain ⟨t, q⟩ := (show ∃ t, u = Value.str y t from rx); cases q; exact PySem.W.kia_one PySem.W.kitx_str I.kIn True.intro e (fun z => nomatch z) h
  | flt y => obtain ⟨t, q⟩ := (show ∃ t, u = Value.float y t from rx); cases q; exact PySem.W.kia_one PySem.W.kitx_float I.kIn True.intro e (fun z => nomatch z) h
  | @lst a xs ea =>
    cases (show u = Value.ref a from rx)
    obtain ⟨_, _, n, _, h1⟩ := (show ObjOk X.prog X.w H s.heap a (.lst xs) from I.hok a _ ea)
    exact PySem.W.kia_one PySem.W.kitx_list I.kIn ⟨_, h1, rfl⟩ e (fun z => nomatch z) h
  | @frz a ob xs ea =>
    cases (show u = Value.ref a from rx)
    obtain ⟨_, _, _, n, _, h1⟩ := (show ObjOk X.prog X.w H s.heap a (.frz ob (.lst xs)) from I.hok a _ ea)
    exact PySem.W.kia_one PySem.W.kitx_list I.kIn ⟨_, h1, rfl⟩ e (fun z => nomatch z) h
  | @tup a xs ea =>
    cases (show u = Value.ref a from rx)
    obtain ⟨_, _, _, p⟩ := (show ObjOk X.prog X.w H s.heap a (.tup xs) from I.hok a _ ea)
    obtain ⟨o, h1, h2, _⟩ := p
    exact PySem.W.kia_one PySem.W.kitx_tuple I.kIn ⟨o, h1, h2⟩ e (fun z => nomatch z) h
  | @dK a kvs ea =>
    cases (show u = Value.ref a from rx)
    obtain ⟨_, _, vs, _, p⟩ := (show ObjOk X.prog X.w H s.heap a (.dK kvs) from I.hok a _ ea)
    obtain ⟨o, es, ep, h1, h2, _⟩ := p
    exact PySem.W.kia_one PySem.W.kitx_dict I.kIn ⟨o, h1, h2.1⟩ e (fun z => nomatch z) h
  | @dT a kvs ea =>
    cases (show u = Value.ref a from rx)
    obtain ⟨_, _, xs, _, o, es, ep, h1, h2, _⟩ := (show ObjOk X.prog X.w H s.heap a (.dT kvs) from I.hok a _ ea)
    exact PySem.W.kia_one PySem.W.kitx_dict I.kIn ⟨o, h1, h2.1⟩ e (fun z => nomatch z) h
  | @ins a C dx fs ea cl ha hn htk hm =>
    cases (show u = Value.ref a from rx)
    obtain ⟨mA, O, _⟩ := ins_get I.hok ea
    obtain ⟨od, J, _⟩ := O.look
    exact PySem.W.kia_one (PySem.W.kitx_own (cl.get _) cl.hd ha hn htk hm) I.kIn J e (fun z => nomatch z) h
end
end L2

namespace L2
open PySem PySem.Spec PyProof.Rows

/-! ### room -/
structure Room (k : Nat) (A : Around) : Prop where
  hd : A.handled = none
  dp : A.depth + 3 * k + 5 < recursionLimit
  un : A.units + 16 * k + 200 < cLine
theorem Room.mono {j k : Nat} {A : Around} (r : Room k A) (h : j ≤ k) : Room j A := ⟨r.hd, by have := r.dp; omega, by have := r.un; omega⟩
theorem Room.deeper {k : Nat} {A : Around} (r : Room (k + 1) A) (env : Env) : Room k (A.deeper env) :=
  ⟨r.hd, by have := r.dp; show A.depth + 1 + 3 * k + 5 < _; omega, by have := r.un; show A.units + 3 + 16 * k + 200 < _; omega⟩
theorem Room.in1 {k : Nat} {A : Around} (r : Room (k + 1) A) : Room k A.in1 :=
  ⟨r.hd, by have := r.dp; show A.depth + 3 * k + 5 < _; omega, by have := r.un; show A.units + 1 + 16 * k + 200 < _; omega⟩
theorem make_depth {A : Around} {C : Addr} {us : List Value} {kw : List (Str × Value)} : (A.under (.builtin "type.__call__" ⟨.ref C :: us, kw⟩)).depth = A.depth + 1 := by
  first | rfl | simp [Around.under, Code.weight, Code.isCreation, Code.isGuard, Code.isCaller, Code.frames, Code.isFrame, guardIds]
theorem make_units {A : Around} {C : Addr} {us : List Value} {kw : List (Str × Value)} : (A.under (.builtin "type.__call__" ⟨.ref C :: us, kw⟩)).units = A.units + 1 := by
  first | rfl | simp [Around.under, Code.cUnits, Code.frames, Code.isFrame]
theorem Room.make {k : Nat} {A : Around} (r : Room (k + 1) A) (C : Addr) (us : List Value) (kw : List (Str × Value)) : Room k (A.under (.builtin "type.__call__" ⟨.ref C :: us, kw⟩)) :=
  ⟨r.hd, by have := r.dp; rw [make_depth]; omega, by have := r.un; rw [make_units]; omega⟩
theorem Room.depth {k : Nat} {A : Around} (r : Room k A) : A.depth < recursionLimit := by have := r.dp; omega
theorem Room.units {k : Nat} {A : Around} (r : Room k A) : A.units + 64 < cLine := by have := r.un; omega
theorem Room.units0 {k : Nat} {A : Around} (r : Room k A) : A.units < cLine := by have := r.un; omega

/-! ### argument lists and displays -/
def tNil : TA := fun _ H Q => Q [] H
def tCons (ta : TE) (tr : TA) : TA := fun σ H Q => ta σ H fun x H1 => tr σ H1 fun xs H2 => Q (x :: xs) H2
section
variable {X : Cx} {e : Expr} {es : List Expr} {te : TE} {t : TA} {pos : Pos}
theorem pa_nil : PA X [] tNil := fun _ _ _ _ H Q I h => Calls.spliced_nil ⟨[], H, I, .nil, h⟩
theorem pa_cons (ha : PE X e te) (hr : PA X es t) (hs : starEach (e :: es) X.env = (false, eval e X.env) :: starEach es X.env := by rfl) : PA X (e :: es) (tCons te t) := by
  intro pos pins s σ H Q I h
  rw [hs]
  show wpAny _ _ (spliced ((false, eval e X.env) :: backTo pos (starEach es X.env))) _ _ s
  refine Calls.spliced_cons (thn (ha pins s σ H _ I h) fun u s1 ⟨x, H1, I1, r1, q1⟩ => ?_)
  exact thn (hr pos pins s1 σ H1 _ I1 q1) fun us s2 ⟨xs, H2, I2, r2, q2⟩ => ⟨x :: xs, H2, I2, .cons r1 r2, q2⟩

/-- a tuple, a list of written items -/
def tTup (t : TA) : TE := fun σ H Q => t σ H fun xs H1 => xs.length ≤ sizeLine ∧ ∀ p, H1 p = none → Q (.ref p) (upd H1 p (.tup xs))
def tLst (t : TA) : TE := fun σ H Q => t σ H fun xs H1 => xs.length ≤ sizeLine ∧ ∀ p, H1 p = none → Q (.ref p) (upd H1 p (.lst xs))
theorem pe_tup {x1} (h : PA X es t) : PE X (.Tuple es x1 pos) (tTup t) := by
  intro pins s σ H Q I hq
  refine wpAny_Tuple_spliced (thn (h pos pins s σ H _ I hq) fun us s1 ⟨xs, H1, I1, r, z, q⟩ => ⟨by rw [← r.length]; exact z, ?_⟩)
  have hf : H1 s1.heap.objs.size = none := I1.hok.fresh (Nat.le_refl _)
  refine ⟨.ref s1.heap.objs.size, upd H1 s1.heap.objs.size (.tup xs), I1.laid (t' := s1.toks) (fun b u e => Heap.get?_push_of_some _ e) (Nat.le_refl _) ?_, rfl, q _ hf⟩
  exact ⟨z, us, r, ⟨_, Heap.get?_push_size _ rfl, rfl, _, rfl⟩⟩
theorem pe_lst (h : PA X es t) : PE X (.List es pos) (tLst t) := by
  intro pins s σ H Q I hq
  refine wpAny_List_spliced (thn (h pos pins s σ H _ I hq) fun us s1 ⟨xs, H1, I1, r, z, q⟩ => ⟨by rw [← r.length]; exact z, ?_⟩)
  have hf : H1 s1.heap.objs.size = none := I1.hok.fresh (Nat.le_refl _)
  refine ⟨.ref s1.heap.objs.size, upd H1 s1.heap.objs.size (.lst xs), I1.laid (t' := s1.toks) (fun b u e => Heap.get?_push_of_some _ e) (Nat.le_refl _) ?_, rfl, q _ hf⟩
  exact ⟨z, us, 0, r, Heap.get?_push_size _ rfl⟩
end

/-! ### what a def promises -/
/-- a def's promise: the bound arguments in the parameters' order, the heap, the wanted end, the wanted exception -/
abbrev Sp := List V → Hp → VK → XK → Prop
/-- how an exception lies behind a call (file 08 gives it): the callers' frames, abstract heap and state ahead of the call, the wish, the exception, the state -/
abbrev CXT := List Env → Hp → Shared → XK → Value → Shared → Prop

/-- the state at a call -/
structure Env0 (P : Program) (w : World) (K : PySem.W.Frag) (mg : Str → Option Value) (base : Heap) (A : Around) (outer : List Env) (s : Shared) (H : Hp) : Prop where
  frames : A.frames = some outer
  mod : Mod K mg base
  bs : ∀ b o, base.get? b = some o → s.heap.get? b = some o ∧ H b = none
  bsz : base.objs.size ≤ s.heap.objs.size
  funs : s.heap.FunFrames base outer
  frf : ∀ b ∈ frs outer, H b = none
  hok : HOk P w H s.heap
  bare : AllBare s.gens
/-- a call's end -/
def CE (outer : List Env) (P : Program) (w : World) (H : Hp) (s : Shared) (Q : VK) (u : Value) (s' : Shared) : Prop :=
  ∃ v H', s'.os = s.os ∧ AllBare s'.gens ∧ Un (frs outer) [] H H' s.heap s'.heap ∧ HOk P w H' s'.heap ∧ RelV v u ∧ Q v H'
def CR (CX : CXT) (outer : List Env) (P : Program) (w : World) (H : Hp) (s : Shared) (Q : VK) (E : XK) (r : Result) (s' : Shared) : Prop :=
  match r with
  | .ok (.ret u) => CE outer P w H s Q u s'
  | .ok _ => False
  | .error e => CX outer H s E e s'
structure FnOk (P : Program) (w : World) (K : PySem.W.Frag) (mg : Str → Option Value) (base : Heap) (CX : CXT) (k : Nat) (f : Addr) (fd : FuncData) (ps : List Str) (sp : Sp) : Prop where
  len : ∀ vs H Q E, sp vs H Q E → vs.length = ps.length
  run : ∀ (A : Around) (outer : List Env) (s : Shared) (H : Hp) (args : Args) (us : List Value) (vs : List V) (Q : VK) (E : XK), Room k A → Env0 P w K mg base A outer s H → BindsTo s fd args (ps.zip us) → Vals vs us → sp vs H Q E →
    codeAny (model P w) A (.call (.ref f) args) (CR CX outer P w H s Q E) s
theorem FnOk.mono {P : Program} {w : World} {K : PySem.W.Frag} {mg : Str → Option Value} {base : Heap} {CX : CXT} {j k : Nat} {f : Addr} {fd : FuncData} {ps : List Str} {sp : Sp} (F : FnOk P w K mg base CX j f fd ps sp) (h : j ≤ k) :
    FnOk P w K mg base CX k f fd ps sp := ⟨F.len, fun A outer s H args us vs Q E hr => F.run A outer s H args us vs Q E (hr.mono h)⟩
/-- a weaker promise -/
theorem FnOk.imp {P : Program} {w : World} {K : PySem.W.Frag} {mg : Str → Option Value} {base : Heap} {CX : CXT} {k : Nat} {f : Addr} {fd : FuncData} {ps : List Str} {sp sp' : Sp} (F : FnOk P w K mg base CX k f fd ps sp)
    (h : ∀ vs H Q E, sp' vs H Q E → sp vs H Q E) : FnOk P w K mg base CX k f fd ps sp' :=
  ⟨fun vs H Q E q => F.len vs H Q E (h _ _ _ _ q), fun A outer s H args us vs Q E hr he hb hv hs => F.run A outer s H args us vs Q E hr he hb hv (h _ _ _ _ hs)⟩

theorem Env0.make {P : Program} {w : World} {K : PySem.W.Frag} {mg : Str → Option Value} {base : Heap} {A : Around} {outer : List Env} {s : Shared} {H : Hp} (e : Env0 P w K mg base A outer s H) (C : Addr) (us : List Value) (kw : List (Str × Value)) :
    Env0 P w K mg base (A.under (.builtin "type.__call__" ⟨.ref C :: us, kw⟩)) outer s H := ⟨by first | exact e.frames | (simpa [Around.under, Code.envs, Code.isFrame, pushEnvs] using e.frames), e.mod, e.bs, e.bsz, e.funs, e.frf, e.hok, e.bare⟩
theorem Env0.in1 {P : Program} {w : World} {K : PySem.W.Frag} {mg : Str → Option Value} {base : Heap} {A : Around} {outer : List Env} {s : Shared} {H : Hp} (e : Env0 P w K mg base A outer s H) :
    Env0 P w K mg base A.in1 outer s H := ⟨e.frames, e.mod, e.bs, e.bsz, e.funs, e.frf, e.hok, e.bare⟩

section
variable {X : Cx} {pins : List (Addr × Obj)} {σ : St} {H : Hp} {s s' : Shared}
/-- from a body: what a callee wants -/
theorem Inv.env0 (I : Inv X pins σ H s) : Env0 X.prog X.w X.K X.mg X.base X.A X.stack s H :=
  ⟨I.ok.frames, I.ok.mod, I.bs, Nat.le_trans I.ok.bsz I.sz, I.stack, I.stkFree, I.hok, I.bare⟩
/-- behind a call -/
theorem Inv.after {Q : VK} {u : Value} (I : Inv X pins σ H s) (h : CE X.stack X.prog X.w H s Q u s') : EP X pins σ Q u s' := by
  obtain ⟨v, H', os, bare, un, hok, r, q⟩ := h
  obtain ⟨hh, g, d, t, os'⟩ := s'
  obtain rfl : os' = s.os := os
  exact ⟨v, H', I.call (h' := hh) (g' := g) (d' := d) (t' := t) (ch := []) un hok bare (fun b z => absurd z (by simp)), r, q⟩
end

/-! ### calls -/
/-- f(..): the written arguments, then the defaults dvs; E: what is wanted of an exception -/
def tCall (sp : Sp) (dvs : List V) (E : XK) (t : TA) : TE := fun σ H Q => t σ H fun vs H1 => sp (vs ++ dvs) H1 Q E
/-- o.m(..) of an instance of the class at C -/
def tMeth (C : Addr) (m : Str) (sp : Sp) (dvs : List V) (E : XK) (ta : TE) (t : TA) : TE := fun σ H Q => ta σ H fun x H1 => ∃ a dx fs, x = .ref a ∧ H1 a = some (.ins C dx fs) ∧ fs.lookup m = none ∧
  t σ H1 fun vs H2 => sp (x :: (vs ++ dvs)) H2 Q E
/-- C(..): a new instance and its dict, then __init__ -/
def tMake (C : Addr) (sp : Sp) (dvs : List V) (E : XK) (t : TA) : TE := fun σ H Q => t σ H fun vs H1 => ∀ x dx, H1 x = none → H1 dx = none → dx ≠ x →
  sp (.ref x :: (vs ++ dvs)) (upd (upd H1 dx (.own x)) x (.ins C dx [])) (fun v H2 => v = .non ∧ Q (.ref x) H2) E

/-- how the parameters are bound: us the positional arguments, kw the keywords' values by name, ds the defaults that fill up -/
def Binds (K : PySem.W.Frag) (fd : FuncData) (ps : List Str) (ds : List Value) : Prop :=
  ∀ (s : Shared) (us : List Value), K.In s.heap → (us ++ ds).length = ps.length → BindsTo s fd ⟨us, []⟩ (ps.zip (us ++ ds))
/-- every parameter is given -/
theorem Binds.all {K : PySem.W.Frag} {fd : FuncData} {ps : List Str} (h : ∀ us : List Value, us.length = ps.length → bindArgs fd ⟨us, []⟩ = pure (ps.zip us)) : Binds K fd ps [] := fun s us _ hl => by
  rw [List.append_nil] at hl ⊢
  exact .of_eq (h us hl)

/-- an exception of a callee reaches what this body wants of exceptions -/
def Passes (CX : CXT) (X : Cx) (E : XK) : Prop := ∀ (pins : List (Addr × Obj)) (σ : St) (H : Hp) (s : Shared) (e : Value) (s' : Shared), Inv X pins σ H s → CX X.stack H s E e s' → X.xe e s'

section
variable {X : Cx} {CX : CXT} {k : Nat} {f C : Addr} {fd : FuncData} {ps : List Str} {sp : Sp} {dvs : List V} {ds : List Value} {E : XK} {x m : Str} {p pos apos : Pos} {e o : Expr} {es : List Expr} {ta : TE} {t : TA}

/-- the callee runs -/
theorem run_fn {pins : List (Addr × Obj)} {σ : St} {H : Hp} {s : Shared} {Q : VK} {us : List Value} {vs : List V} (F : FnOk X.prog X.w X.K X.mg X.base CX k f fd ps sp) (hr : Room k X.A) (hb : Binds X.K fd ps ds) (hd : Vals dvs ds) (hx : Passes CX X E)
    (I : Inv X pins σ H s) (r : Vals vs us) (h : sp (vs ++ dvs) H Q E) : wpAny (model X.prog X.w) X.A (call (.ref f) us) (EP X pins σ Q) X.xe s := by
  have r2 : Vals (vs ++ dvs) (us ++ ds) := r.append hd
  have hl : (us ++ ds).length = ps.length := by rw [← r2.length]; exact F.len _ _ _ _ h
  refine wpAny_call (codeAny_mono (F.run X.A X.stack s H ⟨us, []⟩ (us ++ ds) (vs ++ dvs) Q E hr I.env0 (hb s us I.kIn hl) r2 h) fun r s' hq => ?_)
  cases r with
  | error e => exact hx pins σ H s e s' I hq
  | ok fl =>
    cases fl with
    | ret u => exact I.after hq
    | next => exact False.elim hq
    | brk => exact False.elim hq
    | cont => exact False.elim hq

theorem pe_call (F : FnOk X.prog X.w X.K X.mg X.base CX k f fd ps sp) (hr : Room k X.A) (hg : Gl X x) (hm : X.mg x = some (.ref f)) (hk : PySem.W.keepIn X.K (.ref f) = true) (hb : Binds X.K fd ps ds) (hd : Vals dvs ds) (hx : Passes CX X E)
    (ha : PA X (e :: es) t) (hdb : (x == ("__debug__" : Str)) = false := by decide) (he : starEach (e :: es) X.env = (false, eval e X.env) :: starEach es X.env := by rfl) (hpl : (backTo pos (starEach es X.env)).any (·.1) = false := by rfl) :
    PE X (.Call (.Name x p) (e :: es) [] pos) (tCall sp dvs E t) := by
  intro pins s σ H Q I h
  refine wpAny_Call_Name_kw (ld_glob I hg hm ?_ hdb)
  refine PySem.W.callWith_K (h₀ := X.base) I.ok.mod.kin hk (thn (ha pos pins s σ H _ I h) fun us s1 ⟨vs, H1, I1, r, q⟩ => ⟨I1.kIn, ?_⟩) he hpl
  exact run_fn F hr hb hd hx I1 r q
theorem pe_call0 (F : FnOk X.prog X.w X.K X.mg X.base CX k f fd ps sp) (hr : Room k X.A) (hg : Gl X x) (hm : X.mg x = some (.ref f)) (hk : PySem.W.keepIn X.K (.ref f) = true) (hb : Binds X.K fd ps ds) (hd : Vals dvs ds) (hx : Passes CX X E)
    (hdb : (x == ("__debug__" : Str)) = false := by decide) : PE X (.Call (.Name x p) [] [] pos) (tCall sp dvs E tNil) := by
  intro pins s σ H Q I h
  refine wpAny_Call_Name_kw (ld_glob I hg hm ?_ hdb)
  exact PySem.W.callWith_K0 I.kIn hk (run_fn (us := []) F hr hb hd hx I .nil h)

/-- o.m(e, ..) -/
theorem pe_meth {pl : Sem Bool} (he : PE X o ta) (c : Cls X.K C) (hm : Meth X.K C m f) (F : FnOk X.prog X.w X.K X.mg X.base CX k f fd ps sp) (hr : Room k X.A) (hb : Binds X.K fd ps ds) (hd : Vals dvs ds) (hx : Passes CX X E) (ha : PA X (e :: es) t)
    (hst : starEach (e :: es) X.env = (false, eval e X.env) :: starEach es X.env := by rfl) (hpl : (backTo pos (starEach es X.env)).any (·.1) = false := by rfl)
    (ht : eval (.Call (.Attribute o m apos) (e :: es) [] pos) X.env = (do
      let ov ← eval o X.env
      standAt apos.atName
      let (f, first) ← holding [ov] (getMethod ov m pl)
      callWith pos f first (backTo pos (starEach (e :: es) X.env)) (backToKw pos (keywordEach [] X.env))) := by rfl) :
    PE X (.Call (.Attribute o m apos) (e :: es) [] pos) (tMeth C m sp dvs E ta t) := by
  intro pins s σ H Q I h
  refine PySem.W.methodCall_KW (pl := pl) (thn (he pins s σ H _ I h) fun u s1 ⟨x, H1, I1, rx, a, dx, fs, ex, ea, l, q⟩ => ?_) ht
  subst ex
  obtain rfl : u = Value.ref a := rx
  refine getmeth_ok I1 ea c hm l ?_
  refine PySem.W.callWith_K (first := [.ref a]) (h₀ := X.base) I.ok.mod.kin hm.kp (thn (ha pos pins s1 σ H1 _ I1 q) fun us s2 ⟨vs, H2, I2, r, q2⟩ => ⟨I2.kIn, ?_⟩) hst hpl
  exact run_fn (us := .ref a :: us) (vs := .ref a :: vs) F hr hb hd hx I2 (.cons rfl r) q2
/-- o.m() -/
theorem pe_meth0 {pl : Sem Bool} (he : PE X o ta) (c : Cls X.K C) (hm : Meth X.K C m f) (F : FnOk X.prog X.w X.K X.mg X.base CX k f fd ps sp) (hr : Room k X.A) (hb : Binds X.K fd ps ds) (hd : Vals dvs ds) (hx : Passes CX X E)
    (ht : eval (.Call (.Attribute o m apos) [] [] pos) X.env = (do
      let ov ← eval o X.env
      standAt apos.atName
      let (f, first) ← holding [ov] (getMethod ov m pl)
      callWith pos f first (backTo pos (starEach [] X.env)) (backToKw pos (keywordEach [] X.env))) := by rfl) :
    PE X (.Call (.Attribute o m apos) [] [] pos) (tMeth C m sp dvs E ta tNil) := by
  intro pins s σ H Q I h
  refine PySem.W.methodCall_KW (pl := pl) (thn (he pins s σ H _ I h) fun u s1 ⟨x, H1, I1, rx, a, dx, fs, ex, ea, l, q⟩ => ?_) ht
  subst ex
  obtain rfl : u = Value.ref a := rx
  refine getmeth_ok I1 ea c hm l ?_
  exact PySem.W.callWith_K0 (first := [.ref a]) I1.kIn hm.kp (run_fn (us := [.ref a]) (vs := [.ref a]) F hr hb hd hx I1 (.cons rfl .nil) q)

/-- what a class must have to be made -/
structure Mk (K : PySem.W.Frag) (C f : Addr) : Prop where
  makes : PySem.W.makesIn K C = true
  init : PySem.W.findIn K (.ref C) "__init__" = some (some (.ref f))
  fn : PySem.W.isFn K (.ref f) = true
  kp : PySem.W.keepIn K (.ref C) = true

theorem run_make {pins : List (Addr × Obj)} {σ : St} {H : Hp} {s : Shared} {Q : VK} {us : List Value} {vs : List V} (M : Mk X.K C f) (F : FnOk X.prog X.w X.K X.mg X.base CX k f fd ps sp) (hr : Room (k + 1) X.A) (hb : Binds X.K fd ps ds) (hd : Vals dvs ds)
    (hx : Passes CX X E) (I : Inv X pins σ H s) (r : Vals vs us)
    (h : ∀ x dx, H x = none → H dx = none → dx ≠ x → sp (.ref x :: (vs ++ dvs)) (upd (upd H dx (.own x)) x (.ins C dx [])) (fun v H2 => v = .non ∧ Q (.ref x) H2) E) :
    wpAny (model X.prog X.w) X.A (call (.ref C) us) (EP X pins σ Q) X.xe s := by
  have hq := h (s.heap.objs.size + 1) s.heap.objs.size (I.hok.fresh (Nat.le_succ _)) (I.hok.fresh (Nat.le_refl _)) (Nat.ne_of_lt (Nat.lt_succ_self _))
  have I2 := Inv.made (C := C) I
  have r2 : Vals (V.ref (s.heap.objs.size + 1) :: (vs ++ dvs)) (Value.ref (s.heap.objs.size + 1) :: (us ++ ds)) := .cons rfl (r.append hd)
  have hl : (Value.ref (s.heap.objs.size + 1) :: us ++ ds).length = ps.length := by
    have e := r2.length
    rw [F.len _ _ _ _ hq] at e
    exact e.symm
  refine wpAny_call (make_map (f := f) I.kIn M.makes M.init (beq_iff_eq.mp M.fn) (codeAny_mono (F.run _ X.stack _ _ ⟨Value.ref (s.heap.objs.size + 1) :: us, []⟩ (Value.ref (s.heap.objs.size + 1) :: (us ++ ds)) _ _ E (hr.make C us [])
    (I2.env0.make C us []) (hb _ (Value.ref (s.heap.objs.size + 1) :: us) I2.kIn hl) r2 hq) fun r s' hq' => ?_))
  cases r with
  | error e => exact hx pins σ _ _ e s' I2 hq'
  | ok fl =>
    cases fl with
    | ret u =>
      obtain ⟨v, H', I3, rv, ev, q3⟩ := I2.after hq'
      subst ev
      exact ⟨rv, ⟨V.ref (s.heap.objs.size + 1), H', I3, rfl, q3⟩⟩
    | next => exact False.elim hq'
    | brk => exact False.elim hq'
    | cont => exact False.elim hq'
theorem pe_make (M : Mk X.K C f) (F : FnOk X.prog X.w X.K X.mg X.base CX k f fd ps sp) (hr : Room (k + 1) X.A) (hg : Gl X x) (hm : X.mg x = some (.ref C)) (hb : Binds X.K fd ps ds) (hd : Vals dvs ds) (hx : Passes CX X E)
    (ha : PA X (e :: es) t) (hdb : (x == ("__debug__" : Str)) = false := by decide) (he : starEach (e :: es) X.env = (false, eval e X.env) :: starEach es X.env := by rfl) (hpl : (backTo pos (starEach es X.env)).any (·.1) = false := by rfl) :
    PE X (.Call (.Name x p) (e :: es) [] pos) (tMake C sp dvs E t) := by
  intro pins s σ H Q I h
  refine wpAny_Call_Name_kw (ld_glob I hg hm ?_ hdb)
  refine PySem.W.callWith_K (h₀ := X.base) I.ok.mod.kin M.kp (thn (ha pos pins s σ H _ I h) fun us s1 ⟨vs, H1, I1, r, q⟩ => ⟨I1.kIn, ?_⟩) he hpl
  exact run_make M F hr hb hd hx I1 r q
theorem pe_make0 (M : Mk X.K C f) (F : FnOk X.prog X.w X.K X.mg X.base CX k f fd ps sp) (hr : Room (k + 1) X.A) (hg : Gl X x) (hm : X.mg x = some (.ref C)) (hb : Binds X.K fd ps ds) (hd : Vals dvs ds) (hx : Passes CX X E)
    (hdb : (x == ("__debug__" : Str)) = false := by decide) : PE X (.Call (.Name x p) [] [] pos) (tMake C sp dvs E tNil) := by
  intro pins s σ H Q I h
  refine wpAny_Call_Name_kw (ld_glob I hg hm ?_ hdb)
  exact PySem.W.callWith_K0 I.kIn M.kp (run_make (us := []) M F hr hb hd hx I .nil h)
end

/-! ### keywords -/
/-- the values of the keywords, from the left -/
def PK (X : Cx) (kws : List Keyword) (t : TA) : Prop :=
  ∀ (pos : Pos) (pins : List (Addr × Obj)) (s : Shared) (σ : St) (H : Hp) (Q : List V → Hp → Prop), Inv X pins σ H s → t σ H Q → wpAny (model X.prog X.w) X.A (evalAll ((backToKw pos (keywordEach kws X.env)).map (·.2))) (AP X pins σ Q) X.xe s
section
variable {X : Cx} {CX : CXT} {k : Nat} {f C : Addr} {fd : FuncData} {ps ks : List Str} {sp : Sp} {E : XK} {x m : Str} {p pos apos kpos : Pos} {e o : Expr} {es : List Expr} {kws : List Keyword} {te ta : TE} {t tk : TA} {nm : Option Str}
theorem pk_nil : PK X [] tNil := fun _ _ _ _ H Q I h => wpAny_evalAll_nil ⟨[], H, I, .nil, h⟩
theorem pk_cons (ha : PE X e te) (hr : PK X kws t) : PK X (⟨nm, e, kpos⟩ :: kws) (tCons te t) := by
  intro pos pins s σ H Q I h
  show wpAny _ _ (evalAll ((do let v ← eval e X.env; standAt pos; pure v) :: (backToKw pos (keywordEach kws X.env)).map (·.2))) _ _ s
  refine wpAny_evalAll_cons (wpAny_bind (thn (ha pins s σ H _ I h) fun u s1 ⟨x, H1, I1, r1, q1⟩ => wpAny_bind (wpAny_standAt (wpAny_pure ?_))))
  exact thn (hr pos pins s1 σ H1 _ I1 q1) fun us s2 ⟨xs, H2, I2, r2, q2⟩ => ⟨x :: xs, H2, I2, .cons r1 r2, q2⟩

/-- how a call with keywords binds: g puts the positional values us and the keywords' values ws (names ks) in the parameters' order, defaults among them -/
structure KBinds (K : PySem.W.Frag) (fd : FuncData) (ps ks : List Str) (g : List Value → List Value → List Value) (gV : List V → List V → List V) : Prop where
  to : ∀ (s : Shared) (us ws : List Value), K.In s.heap → (g us ws).length = ps.length → BindsTo s fd ⟨us, ks.zip ws⟩ (ps.zip (g us ws))
  rel : ∀ {vs : List V} {us : List Value} {zs : List V} {ws : List Value}, Vals vs us → Vals zs ws → Vals (gV vs zs) (g us ws)
def tCallK (sp : Sp) (gV : List V → List V → List V) (E : XK) (t tk : TA) : TE := fun σ H Q => t σ H fun vs H1 => tk σ H1 fun zs H2 => sp (gV vs zs) H2 Q E
variable {g : List Value → List Value → List Value} {gV : List V → List V → List V}
theorem run_fnk {pins : List (Addr × Obj)} {σ : St} {H : Hp} {s : Shared} {Q : VK} {us ws : List Value} {vs zs : List V} (F : FnOk X.prog X.w X.K X.mg X.base CX k f fd ps sp) (hr : Room k X.A) (hb : KBinds X.K fd ps ks g gV) (hx : Passes CX X E)
    (I : Inv X pins σ H s) (r : Vals vs us) (rz : Vals zs ws) (h : sp (gV vs zs) H Q E) : wpAny (model X.prog X.w) X.A (call (.ref f) us (ks.zip ws)) (EP X pins σ Q) X.xe s := by
  have r2 := hb.rel r rz
  have hl : (g us ws).length = ps.length := by rw [← r2.length]; exact F.len _ _ _ _ h
  refine wpAny_call (codeAny_mono (F.run X.A X.stack s H ⟨us, ks.zip ws⟩ (g us ws) (gV vs zs) Q E hr I.env0 (hb.to s us ws I.kIn hl) r2 h) fun r s' hq => ?_)
  cases r with
  | error e => exact hx pins σ H s e s' I hq
  | ok fl =>
    cases fl with
    | ret u => exact I.after hq
    | next => exact False.elim hq
    | brk => exact False.elim hq
    | cont => exact False.elim hq
/-- f(e, .., k = v, ..) -/
theorem pe_callK (F : FnOk X.prog X.w X.K X.mg X.base CX k f fd ps sp) (hr : Room k X.A) (hg : Gl X x) (hm : X.mg x = some (.ref f)) (hk : PySem.W.keepIn X.K (.ref f) = true) (hb : KBinds X.K fd ps ks g gV) (hx : Passes CX X E)
    (ha : PA X (e :: es) t) (hkw : PK X kws tk) (hall : (backToKw pos (keywordEach kws X.env)).all (·.1.isSome) = true := by rfl) (hks : (backToKw pos (keywordEach kws X.env)).filterMap (·.1) = ks := by rfl)
    (hdb : (x == ("__debug__" : Str)) = false := by decide) (he : starEach (e :: es) X.env = (false, eval e X.env) :: starEach es X.env := by rfl)
    (hpl : ((backTo pos (starEach (e :: es) X.env)).any (·.1) || (backToKw pos (keywordEach kws X.env)).any (·.1.isNone)) = false := by rfl) :
    PE X (.Call (.Name x p) (e :: es) kws pos) (tCallK sp gV E t tk) := by
  intro pins s σ H Q I h
  refine wpAny_Call_Name_kw (ld_glob I hg hm ?_ hdb)
  refine PySem.W.callWith_KW (h₀ := X.base) I.ok.mod.kin hk hall (thn (ha pos pins s σ H _ I h) fun us s1 ⟨vs, H1, I1, r, q⟩ => ?_) hpl he
  refine thn (hkw pos pins s1 σ H1 _ I1 q) fun ws s2 ⟨zs, H2, I2, rz, q2⟩ => ⟨I2.kIn, ?_⟩
  rw [hks]
  exact run_fnk F hr hb hx I2 r rz q2
end

/-! ### a def's body keeps its promise -/
/-- names: the parameters first -/
structure FnScope (N P : List Str) (sc : Scope) : Prop where
  kind : sc.kind = .function
  co : sc.isCoroutine = false
  gen : sc.isGenerator = false
  nd : N.Nodup
  pre : N.take P.length = P
  par : ∀ x ∈ P, sc.names.lookup x = some .local ∨ sc.names.lookup x = some .cell
  nofree : ∀ y ∈ sc.names, y.2 ≠ .free

theorem bindL_out {kindOf : Str → Option NameKind} {x : Str} : ∀ {binds : List (Str × Value)} {m : Str → Option Value}, (∀ v, (x, v) ∉ binds) → bindL kindOf binds m x = m x
  | [], _, _ => rfl
  | (n, v) :: r, m, h => by
    unfold bindL
    rw [bindL_out fun w hw => h w (List.mem_cons_of_mem _ hw)]
    split
    · have : x ≠ n := by rintro rfl; exact h v List.mem_cons_self
      simp [this]
    · rfl
theorem bindC_out {kindOf : Str → Option NameKind} {x : Str} : ∀ {binds : List (Str × Value)} {m : Str → Option Value}, (∀ v, (x, v) ∉ binds) → bindC kindOf binds m x = m x
  | [], _, _ => rfl
  | (n, v) :: r, m, h => by
    unfold bindC
    rw [bindC_out fun w hw => h w (List.mem_cons_of_mem _ hw)]
    split
    · rfl
    · have : x ≠ n := by rintro rfl; exact h v List.mem_cons_self
      simp [this]
theorem bindL_get {kindOf : Str → Option NameKind} {x : Str} {v : Value} : ∀ {P : List Str} {vs : List Value} {i : Nat} {m : Str → Option Value}, P.Nodup → P[i]? = some x → vs[i]? = some v → kindOf x = some .local →
    bindL kindOf (P.zip vs) m x = some v
  | [], _, _, _, _, h, _, _ => by simp at h
  | _ :: _, [], _, _, _, _, h, _ => by simp at h
  | p :: P, w :: vs, 0, m, nd, h1, h2, hk => by
    simp at h1 h2; subst h1; subst h2
    show bindL kindOf ((p, w) :: P.zip vs) m p = _
    unfold bindL
    rw [bindL_out fun v hv => (List.nodup_cons.mp nd).1 (List.of_mem_zip hv).1, if_pos hk]
    simp
  | p :: P, w :: vs, i + 1, m, nd, h1, h2, hk => by
    show bindL kindOf ((p, w) :: P.zip vs) m x = _
    unfold bindL
    exact bindL_get (i := i) (List.nodup_cons.mp nd).2 (by simpa using h1) (by simpa using h2) hk
theorem bindC_get {kindOf : Str → Option NameKind} {x : Str} {v : Value} : ∀ {P : List Str} {vs : List Value} {i : Nat} {m : Str → Option Value}, P.Nodup → P[i]? = some x → vs[i]? = some v → kindOf x ≠ some .local →
    bindC kindOf (P.zip vs) m x = some v
  | [], _, _, _, _, h, _, _ => by simp at h
  | _ :: _, [], _, _, _, _, h, _ => by simp at h
  | p :: P, w :: vs, 0, m, nd, h1, h2, hk => by
    simp at h1 h2; subst h1; subst h2
    show bindC kindOf ((p, w) :: P.zip vs) m p = _
    unfold bindC
    rw [bindC_out fun v hv => (List.nodup_cons.mp nd).1 (List.of_mem_zip hv).1, if_neg hk]
    simp
  | p :: P, w :: vs, i + 1, m, nd, h1, h2, hk => by
    show bindC kindOf ((p, w) :: P.zip vs) m x = _
    unfold bindC
    exact bindC_get (i := i) (List.nodup_cons.mp nd).2 (by simpa using h1) (by simpa using h2) hk

/-- the names' values at the entry -/
def start (N : List Str) (vs : List V) : St := vs.map some ++ List.replicate (N.length - vs.length) none

/-- the context of a def's body, at its entry; an exception leaves the frame, then lies as CX says -/
def cxOf (CX : CXT) (P : Program) (w : World) (K : PySem.W.Frag) (mg : Str → Option Value) (base : Heap) (N : List Str) (qual : Str) (scope : Scope) (f : Addr) (cd : Value) (A : Around) (outer : List Env) (s : Shared) (H : Hp) (E : XK) : Cx where
  prog := P
  w := w
  K := K
  mg := mg
  base := base
  A := A.deeper (envOfC qual scope s.heap.objs.size f cd)
  N := N
  s_0 := s
  H_0 := H
  env := envOfC qual scope s.heap.objs.size f cd
  outer := outer
  stack := envOfC qual scope s.heap.objs.size f cd :: outer
  ex := []
  calm := true
  fn := fun _ => true
  pn := []
  xe := fun e s' => wpAny (model P w) (A.deeper (envOfC qual scope s.heap.objs.size f cd)) (leaving (envOfC qual scope s.heap.objs.size f cd) e) (fun _ s'' => CX outer H s E e s'') (fun e' s'' => CX outer H s E e' s'') s'

theorem cell_has {sc : Scope} {n : Nat} {x : Str} (h : sc.names.lookup x = some .cell) : ∃ c, (cellsFrom n sc.names []).lookup x = some c := by
  have q := PySem.W.cellsFrom_some sc.names n [] (.inl h)
  exact Option.isSome_iff_exists.mp q

theorem inv_start {CX : CXT} {P : Program} {w : World} {K : PySem.W.Frag} {mg : Str → Option Value} {base : Heap} {N ps : List Str} {qual : Str} {scope : Scope} {f : Addr} {cd : Value} {A : Around} {outer : List Env} {s s1 : Shared} {H : Hp} {E : XK} {us : List Value} {vs : List V}
    (S : FnScope N ps scope) (hd : A.handled = none) (e0 : Env0 P w K mg base A outer s H) (hl : vs.length = ps.length) (r : Vals vs us)
    (x : InCallC s s.heap.objs.size (bindL (envOfC qual scope s.heap.objs.size f cd).kindOf (ps.zip us) fun _ => none) (cellsFrom (s.heap.objs.size + 1) scope.names []) (bindC (envOfC qual scope s.heap.objs.size f cd).kindOf (ps.zip us) fun _ => none) s1) :
    Inv (cxOf CX P w K mg base N qual scope f cd A outer s H E) [] (start N vs) H s1 := by
  have hpl : ps.length ≤ N.length := by have := congrArg List.length S.pre; rw [List.length_take] at this; omega
  obtain ⟨h1, tk, rfl, hk⟩ := x.done
  have noA : ∀ b : Addr, b ∉ (cxOf CX P w K mg base N qual scope f cd A outer s H E).ex := fun b z => absurd (show b ∈ ([] : List Addr) from z) (by simp)
  refine ⟨⟨e0.mod, S.kind, rfl, rfl, Nat.le_refl _, fun y z c h1 h2 => ?_, fun y hy => ?_, fun y c _ h => ?_, fun _ => hd, Around.frames_deeper e0.frames, .inr ⟨rfl, rfl⟩, fun b z => absurd z (noA b), e0.bs, e0.bsz, fun b _ _ => noA b, fun b z => absurd z (noA b), e0.funs, e0.frf⟩,
    rfl, e0.bare, Un.kept hk, ⟨_, x.toInCall.ns, fun i y v h1 h2 h3 => ?_⟩, fun y c h => ⟨_, x.cell y c h⟩, e0.hok.fresh (Nat.le_refl _), fun y c h => ?_, fun p hp => absurd (show p ∈ ([] : List (Addr × Obj)) from hp) (by simp), e0.hok.kept hk, ?_⟩
  · exact name_of_addr x.apart (PySem.mem_of_lookup h1) (PySem.mem_of_lookup h2)
  · have hy : scope.names.lookup y = some .cell ∨ scope.names.lookup y = some .free := hy
    rcases hy with hy | hy
    · exact cell_has hy
    · exact absurd rfl (S.nofree _ (PySem.mem_of_lookup hy))
  · exact Nat.le_of_lt (x.above y c (PySem.mem_of_lookup h))
  · have hi : i < vs.length := by
      unfold start at h2
      by_cases hi : i < vs.length
      · exact hi
      · rw [List.getElem?_append_right (by simpa using hi)] at h2
        rw [List.getElem?_replicate] at h2
        split at h2 <;> cases h2
    have ha : vs[i]? = some v := by
      unfold start at h2
      rw [List.getElem?_append_left (by simpa using hi), List.getElem?_map] at h2
      cases e : vs[i]? with
      | none => rw [e] at h2; cases h2
      | some a => rw [e] at h2; cases h2; rfl
    obtain ⟨u, hu, rv⟩ := r.get ha
    have hp : ps[i]? = some y := by
      rw [← S.pre, List.getElem?_take_of_lt (by omega)]; exact h1
    have ndP : ps.Nodup := by rw [← S.pre]; exact S.nd.sublist (List.take_sublist _ _)
    refine ⟨u, rv, ?_⟩
    rcases S.par y (List.mem_of_getElem? hp) with k | k
    · exact .inl ⟨k, bindL_get ndP hp hu k⟩
    · obtain ⟨c, e⟩ := cell_has (n := s.heap.objs.size + 1) k
      refine .inr ⟨.inl k, c, e, ?_⟩
      have q := x.cell y c e
      rw [bindC_get ndP hp hu (by show scope.names.lookup y ≠ _; rw [k]; decide)] at q
      exact q
  · exact e0.hok.fresh (Nat.le_of_lt (x.above y c (PySem.mem_of_lookup h)))
  · unfold start
    show _ = N.length
    rw [List.length_append, List.length_map, List.length_replicate]
    omega

/-- THE RULE: a def (or a method) of the text, by its body. The body's reading t is chosen for each entry; it is run at the parameters' values -/
theorem fn_of {CX : CXT} {P : Program} {w : World} {K : PySem.W.Frag} {mg : Str → Option Value} {base : Heap} {k : Nat} {f : Addr} {name qual : Str} {params : Arguments} {body : List Stmt} {scope : Scope} {dV kV doc pm cdv ct oc : Value} {an od : Option Addr}
    {osl : Array (Option Value)} {N ps : List Str} {sp : Sp} (lk : K.lookup f = some ⟨oc, od, .func (PySem.W.fnOf name qual params body scope dV kV doc pm an cdv ct), osl⟩) (hcd : PySem.W.codeIn K cdv qual = true) (S : FnScope N ps scope)
    (len : ∀ vs H Q E, sp vs H Q E → vs.length = ps.length)
    (hbody : ∀ (A : Around) (outer : List Env) (s : Shared) (H : Hp) (vs : List V) (Q : VK) (E : XK), Room k (A.deeper (envOfC qual scope s.heap.objs.size f cdv)) → sp vs H Q E →
      ∃ t, PSs (cxOf CX P w K mg base N qual scope f cdv A outer s H E) body t ∧ t { nx := fun _ H' => Q .non H', rt := Q } (start N vs) H) :
    FnOk P w K mg base CX (k + 1) f (PySem.W.fnOf name qual params body scope dV kV doc pm an cdv ct) ps sp := by
  refine ⟨len, fun A outer s H args us vs Q E hr e0 hb r hsp => ?_⟩
  have hl := len _ _ _ _ hsp
  have KX : K.In s.heap := e0.mod.kin.keeps fun b o e => (e0.bs b o e).1
  have lim : s.heap.NoLimit := e0.mod.nolimit.keeps fun b o e => (e0.bs b o e).1
  have hkind : ∀ y ∈ ps.zip us, scope.names.lookup y.1 = some .local ∨ (scope.names.lookup y.1 = some .cell ∧ ((cellsFrom (s.heap.objs.size + 1) scope.names []).lookup y.1).isSome = true) := fun ⟨n, v⟩ hy => by
    rcases S.par n (List.of_mem_zip hy).1 with q | q
    · exact .inl q
    · exact .inr ⟨q, PySem.W.cellsFrom_some _ _ _ (.inl q)⟩
  refine codeAny_call_function hr.depth (KX _ _ lk) rfl S.co S.gen rfl (PySem.W.codeRec_of KX hcd) (hb _ _ _ _ ?_)
  refine wpAny_newFunctionEnv_cells S.kind hkind fun env he s1 x => ?_
  subst he
  refine ⟨lim.keeps x.toInCall.keep, codeAny_func ?_⟩
  obtain ⟨t, ht, hq⟩ := hbody A outer s H vs Q E (hr.deeper _) hsp
  have I : Inv (cxOf CX P w K mg base N qual scope f cdv A outer s H E) [] (start N vs) H s1 := inv_start S hr.hd e0 hl r x
  refine wpAny_mono (ht [] s1 (start N vs) H _ I hq) (fun fl s' hs => ?_) fun e s' hs => hs
  have fin : ∀ {σ' : St} {H' : Hp} {v : V} {u : Value}, Inv (cxOf CX P w K mg base N qual scope f cdv A outer s H E) [] σ' H' s' → RelV v u → Q v H' → CE outer P w H s Q u s' :=
    fun {σ' H' v u} J rv q => ⟨v, H', J.os, J.bare, J.base, J.hok, rv, q⟩
  cases fl with
  | ret u =>
    obtain ⟨v, σ', H', J, rv, q⟩ := hs
    exact fin J rv q
  | next =>
    obtain ⟨σ', H', J, q⟩ := hs
    exact fin (v := V.non) (u := Value.none) J rfl q
  | brk =>
    obtain ⟨_, _, _, q⟩ := hs
    exact False.elim q
  | cont =>
    obtain ⟨_, _, _, q⟩ := hs
    exact False.elim q
end L2

namespace L2
open PySem PySem.Spec PyProof.Rows
section
variable {X : Cx} {x : Str} {p pos : Pos} {e : Expr} {es : List Expr} {t : TA} {id T : String} {r : List V → Hp → VK → Prop}

def tCB (r : List V → Hp → VK → Prop) (t : TA) : TE := fun σ H Q => t σ H fun vs H1 => r vs H1 Q
/-- f(e, ..), f a built-in function -/
theorem pe_callB (hc : CallR X (.builtin id) r) (hg : Gl X x) (hm : X.mg x = none) (hv : bootBuiltins x = some (.builtin id)) (ha : PA X (e :: es) t) (hn : x ≠ "__name__" := by decide) (hdb : (x == ("__debug__" : Str)) = false := by decide)
    (he : starEach (e :: es) X.env = (false, eval e X.env) :: starEach es X.env := by rfl) (hpl : (backTo pos (starEach es X.env)).any (·.1) = false := by rfl) : PE X (.Call (.Name x p) (e :: es) [] pos) (tCB r t) := by
  intro pins s σ H Q I h
  refine wpAny_Call_Name_kw (ld_blt I hg hm hv ?_ hn hdb)
  exact PyProof.Rows.callWith_builtin1 (thn (ha pos pins s σ H _ I h) fun us s1 ⟨vs, H1, I1, r1, q1⟩ => hc pins s1 σ H1 vs us Q I1 r1 q1) he hpl
/-- T(e, ..), T a built-in type -/
theorem pe_callTy (hc : CallR X (.type T) r) (hg : Gl X x) (hm : X.mg x = none) (hv : bootBuiltins x = some (.type T)) (ha : PA X (e :: es) t) (hn : x ≠ "__name__" := by decide) (hdb : (x == ("__debug__" : Str)) = false := by decide)
    (he : starEach (e :: es) X.env = (false, eval e X.env) :: starEach es X.env := by rfl) (hpl : (backTo pos (starEach es X.env)).any (·.1) = false := by rfl) : PE X (.Call (.Name x p) (e :: es) [] pos) (tCB r t) := by
  intro pins s σ H Q I h
  refine wpAny_Call_Name_kw (ld_blt I hg hm hv ?_ hn hdb)
  exact PyProof.Rows.callWith_type1 (thn (ha pos pins s σ H _ I h) fun us s1 ⟨vs, H1, I1, r1, q1⟩ => hc pins s1 σ H1 vs us Q I1 r1 q1) he hpl
/-- T() -/
theorem pe_callTy0 (hc : CallR X (.type T) r) (hg : Gl X x) (hm : X.mg x = none) (hv : bootBuiltins x = some (.type T)) (hn : x ≠ "__name__" := by decide) (hdb : (x == ("__debug__" : Str)) = false := by decide) :
    PE X (.Call (.Name x p) [] [] pos) (tCB r tNil) := by
  intro pins s σ H Q I h
  refine wpAny_Call_Name_kw (ld_blt I hg hm hv ?_ hn hdb)
  exact PyProof.Rows.callWith_type0 (hc pins s σ H [] [] Q I .nil h)
end
end L2

namespace HT
open PySem PyProof.Rows

/-- t < u of tuples of ints -/
def lexLt : List Int → List Int → Bool
  | [], [] => false
  | [], _ :: _ => true
  | _ :: _, [] => false
  | x :: xs, y :: ys => if x = y then lexLt xs ys else decide (x < y)
theorem lexLt_cons (x y : Int) (xs ys : List Int) : lexLt (x :: xs) (y :: ys) = if x = y then lexLt xs ys else decide (x < y) := rfl
theorem lexLt_nil_nil : lexLt [] [] = false := rfl
theorem lexLt_nil_cons (y : Int) (ys : List Int) : lexLt [] (y :: ys) = true := rfl
theorem lexLt_cons_nil (x : Int) (xs : List Int) : lexLt (x :: xs) [] = false := rfl

theorem eqAt_int (A : Around) (s : Shared) (a : Int) (t : Tok) (c : Int) (u : Tok) : ∃ e, SeqAt.EqAt A s (.int a t) (.int c u) e ∧ (e = true ↔ a = c) :=
  ⟨(a == c), SeqAt.EqAt.int_int a t c u, by simp⟩
theorem rcLt_int (A : Around) (s : Shared) (a : Int) (t : Tok) (c : Int) (u : Tok) (prog : Program) (w : World) (E : Value → Shared → Prop) (Q : Value → Shared → Prop) (h : Q (.bool (decide (a < c))) s) :
    wpAny (model prog w) A (richCompare .Lt (.int a t) (.int c u)) Q E s :=
  (PyProof.Rows.lt_int h : wpAny (model prog w) A (compareOp .Lt (.int a t) (.int c u)) Q E s)

section
open PySem.SeqAt
open PySem.AutoSeq1 (wpAny_loadPart')
open PySem.MeetsSeq PySem.MeetsSeq2 PySem.MeetsSeq3

theorem tuple_lt_ints (l b : Addr) (items items2 : Array Value) (n n2 : Nat) (dd dd2 : Option Addr) (sl sl2 : Array (Option Value)) (ns ms : List Int) (hi : IntsAre items.toList ns) (hj : IntsAre items2.toList ms) :
    Meets (Builtin.«tuple.__lt__» ⟨[.ref l, .ref b], []⟩)
      (fun _ R s => s.heap.get? l = some { cls := .type "tuple", dict := dd, data := .seq items n, slots := sl } ∧ s.heap.get? b = some { cls := .type "tuple", dict := dd2, data := .seq items2 n2, slots := sl2 } ∧
        R (.ok (.ret (.bool (lexLt ns ms)))) s) :=
  .of_wp fun prog w A R s h => by
    obtain ⟨hp, g, d, tk, os⟩ := s; obtain ⟨hl, hb, h⟩ := h
    have f2 := AutoSeq1.sub_tuple_tuple
    have z1 : items.size = ns.length := by rw [← hi.length]; simp
    have z2 : items2.size = ms.length := by rw [← hj.length]; simp
    wp_walk using wpAny_loadPart' hl, wpAny_loadPart' hb, wpAny_forIn_list _ (fun rest b s' => b.1 = none ∧ s' = ⟨hp, g, d, tk, os⟩ ∧ ∃ (vs ws : List Value) (ns' ms' : List Int), rest = vs.zip ws ∧
      IntsAre vs ns' ∧ IntsAre ws ms' ∧ ns'.length + items2.size = ms'.length + items.size ∧ R (.ok (.ret (.bool (lexLt ns' ms')))) ⟨hp, g, d, tk, os⟩) _
    case turn =>
      rintro ⟨y, x⟩ rest b s' ⟨hb', rfl, vs, ws, ns', ms', hz, hvi, hwi, hlen, hR⟩
      cases hvi with
      | nil => rw [List.zip_nil_left] at hz; cases hz
      | cons a t hvi' =>
        cases hwi with
        | nil => rw [List.zip_nil_right] at hz; cases hz
        | cons c u hwi' =>
          rw [List.zip_cons_cons] at hz
          injection hz with hyx hrest
          injection hyx with hy hx
          subst hy hx
          rw [lexLt_cons] at hR
          simp only [List.length_cons] at hlen
          obtain ⟨e, he, hiff⟩ := eqAt_int A.in1 ⟨hp, g, d, tk, os⟩ a t c u
          refine wpAny_bind (he prog w _ _ ?_)
          cases e with
          | true =>
            rw [if_pos (hiff.mp rfl)] at hR
            wp_walk
            exact ⟨rfl, rfl, _, _, _, _, hrest, hvi', hwi', by omega, hR⟩
          | false =>
            rw [if_neg (fun q => absurd (hiff.mpr q) Bool.false_ne_true)] at hR
            have hri := rcLt_int A.in1 ⟨hp, g, d, tk, os⟩ a t c u prog w
            wp_walk using hri
            exact ⟨_, rfl, by simpa using hR⟩
    case fin =>
      rintro ⟨b1, b2⟩ s' ⟨hb', rfl, vs, ws, ns', ms', hz, hvi, hwi, hlen, hR⟩
      simp only at hb'
      subst hb'
      have hv : lexLt ns' ms' = decide (items.size < items2.size) := by
        cases hvi with
        | nil =>
          cases hwi with
          | nil =>
            simp only [List.length_nil] at hlen
            rw [lexLt_nil_nil]
            exact (decide_eq_false (by omega)).symm
          | cons c u hw =>
            simp only [List.length_nil, List.length_cons] at hlen
            rw [lexLt_nil_cons]
            exact (decide_eq_true (by omega)).symm
        | cons a t hv =>
          cases hwi with
          | nil =>
            simp only [List.length_nil, List.length_cons] at hlen
            rw [lexLt_cons_nil]
            exact (decide_eq_false (by omega)).symm
          | cons c u hw =>
            rw [List.zip_cons_cons] at hz
            cases hz
      rw [hv] at hR
      wp_walk
      exact ⟨_, rfl, by simpa [Builtin.Tuple.tupleCompareSizes] using hR⟩
    case h =>
      exact ⟨rfl, rfl, items.toList, items2.toList, ns, ms, rfl, hi, hj, by omega, h⟩
end

section
variable {prog : Program} {w : World} {A : Around} {E : Value → Shared → Prop} {s : Shared}

theorem lt_tupInts {l b : Addr} {items items2 : Array Value} {ns ms : List Int} {Q : Value → Shared → Prop} (hl : IsTup s.heap l items) (hb : IsTup s.heap b items2) (hi : IntsAre items.toList ns) (hj : IntsAre items2.toList ms)
    (hu : A.units < cLine) (h : Q (.bool (lexLt ns ms)) s) : wpAny (model prog w) A (compareOp .Lt (.ref l) (.ref b)) Q E s := by
  obtain ⟨⟨cls, dd, data, sl⟩, ho, hc, n, hd⟩ := id hl
  obtain ⟨⟨cls2, dd2, data2, sl2⟩, ho2, hc2, n2, hd2⟩ := id hb
  simp only at hc hd hc2 hd2
  subst hc hd hc2 hd2
  exact richCompare_meets_room (op := .Lt) ⟨_, ho, rfl⟩ ⟨_, ho2, rfl⟩ PySem.F.slot_tuple_lt PySem.F.entry_tuple_lt (PySem.F.args_tuple_lt_2 _ _) (tuple_lt_ints l b items items2 n n2 dd dd2 sl sl2 ns ms hi hj)
    ⟨ho, ho2, show Value.bool (lexLt ns ms) ≠ Value.notImplemented ∧ Q (.bool (lexLt ns ms)) s from ⟨(fun x => nomatch x), h⟩⟩ hu

/-- t + u, t not empty -/
theorem cat_tup {t b : Addr} {vs ws : List Value} {Q : Value → Shared → Prop} (ht : IsTup s.heap t vs.toArray) (hb : IsTup s.heap b ws.toArray) (hv : vs ≠ [])
    (h1 : ws = [] → Q (.ref t) s) (h2 : ws ≠ [] → Q (.ref s.heap.objs.size) { s with heap := s.heap.push { cls := .type "tuple", data := .seq (vs ++ ws).toArray } })
    (hsz : vs.length + ws.length ≤ sizeLine) : wpAny (model prog w) A (binaryOp .Add (.ref t) (.ref b)) Q E s := by
  obtain ⟨⟨cls, dd, data, sl⟩, ho, hc, n, hd⟩ := id ht
  obtain ⟨⟨cls2, dd2, data2, sl2⟩, ho2, hc2, n2, hd2⟩ := id hb
  simp only at hc hd hc2 hd2
  subst hc hd hc2 hd2
  have e : vs.toArray ++ ws.toArray = (vs ++ ws).toArray := by simp
  by_cases hw : ws = []
  · exact concat_meets ⟨_, ho, rfl⟩ ⟨_, ho2, rfl⟩ noFill_tuple_add seq_tuple_add PySem.F.slot_tuple_add PySem.F.entry_tuple_add (PySem.F.args_tuple_add_2 _ _)
      (tuple_addW1 t b vs.toArray ws.toArray n n2 dd dd2 sl sl2 (by simpa using hv) (by simp [hw])) ⟨ho, ho2, h1 hw⟩
  · refine concat_meets ⟨_, ho, rfl⟩ ⟨_, ho2, rfl⟩ noFill_tuple_add seq_tuple_add PySem.F.slot_tuple_add PySem.F.entry_tuple_add (PySem.F.args_tuple_add_2 _ _)
      (tuple_addW2 t b vs.toArray ws.toArray n n2 dd dd2 sl sl2 (by simpa using hv) (by simpa using hw) (by rw [List.size_toArray, List.size_toArray]; exact hsz)) ⟨ho, ho2, ?_⟩
    rw [e]
    exact h2 hw

/-! ### t[a:b], not the whole -/
/-- a slice's bound as a place among n (d where it is left out) -/
def sIx (n d : Nat) : Option Int → Nat
  | none => d
  | some v => if v < 0 then (v + (n : Int)).toNat else min v.toNat n
theorem sIx_none (n d : Nat) : sIx n d none = d := rfl
theorem sIx_nat (n d k : Nat) : sIx n d (some (k : Int)) = min k n := by
  show (if (k : Int) < 0 then ((k : Int) + (n : Int)).toNat else min (k : Int).toNat n) = min k n
  rw [if_neg (by omega), Int.toNat_natCast]
theorem sIx_le (n d : Nat) (hd : d ≤ n) (o : Option Int) : sIx n d o ≤ n := by
  cases o with
  | none => exact hd
  | some v =>
    show (if v < 0 then (v + (n : Int)).toNat else min v.toNat n) ≤ n
    by_cases hv : v < 0
    · rw [if_pos hv]; omega
    · rw [if_neg hv]; exact Nat.min_le_right _ _
theorem clip_eq (v : Int) (n d : Nat) : (if v < 0 then max (v + (n : Int)) 0 else min v (n : Int)) = ((sIx n d (some v) : Nat) : Int) := by
  show (if v < 0 then max (v + (n : Int)) 0 else min v (n : Int)) = (((if v < 0 then (v + (n : Int)).toNat else min v.toNat n) : Nat) : Int)
  by_cases hv : v < 0
  · simp only [if_pos hv]; omega
  · simp only [if_neg hv]; omega
theorem adjust_gen (lo hi : Option Int) (n : Nat) : Builtin.Slice.sliceAdjust lo hi 1 (n : Int) = (((sIx n 0 lo : Nat) : Int), ((sIx n n hi : Nat) : Int)) := by
  have h1 : ¬ ((1 : Int) < 0) := by omega
  unfold Builtin.Slice.sliceAdjust
  simp only [h1, if_false]
  refine Prod.ext ?_ ?_
  · cases lo with
    | none => rfl
    | some v => exact clip_eq v n 0
  · cases hi with
    | none => rfl
    | some v => exact clip_eq v n n
theorem places_gen (i j : Nat) : Builtin.Slice.slicePlaces (i : Int) (j : Int) 1 = j - i := by
  unfold Builtin.Slice.slicePlaces
  have h1 : (1 : Int) > 0 := by omega
  simp only [h1, if_true, Int.ediv_one]
  split <;> omega
theorem slicePart_ {v : Value} {o : Option Int} {Q : Option Int → Shared → Prop} (p : IsPart v o) (h : Q o s) : wpAny (model prog w) A (Builtin.Slice.slicePartIndex v) Q E s := by
  cases p with
  | none => exact slicePart_none h
  | int i t => exact slicePart_int h
theorem sliceApplied_gen {sl : Addr} {vl vu : Value} {lo hi : Option Int} {n : Nat} {Q : Int × Int × Nat → Shared → Prop} (hs : s.heap.IsSliceOf sl vl vu .none) (pl : IsPart vl lo) (pu : IsPart vu hi)
    (h : Q (((sIx n 0 lo : Nat) : Int), 1, sIx n n hi - sIx n 0 lo) s) : wpAny (model prog w) A (Builtin.Slice.sliceApplied (.ref sl) (pure (n : Int))) Q E s := by
  obtain ⟨os, hos, hcs, hds⟩ := id hs
  unfold Builtin.Slice.sliceApplied Builtin.Slice.sliceFields
  refine wpAny_bind (wpAny_bind (wpAny_field hos hds (x := vl) rfl (wpAny_bind (wpAny_field hos hds (x := vu) rfl (wpAny_bind (wpAny_field hos hds (x := .none) rfl (wpAny_pure ?_)))))))
  refine wpAny_bind (slicePart_none ?_)
  show wpAny _ _ (if ((1 : Int) == 0) = true then _ else _) _ _ s
  rw [if_neg (by decide)]
  refine wpAny_bind (slicePart_ pl (wpAny_bind (slicePart_ pu (wpAny_bind (wpAny_pure ?_)))))
  show wpAny _ _ (match Builtin.Slice.sliceAdjust lo hi 1 (n : Int) with | (lo, hi) => pure (lo, (1 : Int), Builtin.Slice.slicePlaces lo hi 1)) _ _ s
  rw [adjust_gen lo hi n]
  show wpAny _ _ (pure (((sIx n 0 lo : Nat) : Int), (1 : Int), Builtin.Slice.slicePlaces ((sIx n 0 lo : Nat) : Int) ((sIx n n hi : Nat) : Int) 1)) _ _ s
  rw [places_gen]
  exact wpAny_pure h
theorem pick_gen (xs : Array Value) (i k : Nat) : ((List.range k).filterMap fun (m : Nat) => xs[((i : Int) + (m : Int) * 1).toNat]?).toArray = ((xs.toList.drop i).take k).toArray := by
  have e : (fun (m : Nat) => xs[((i : Int) + (m : Int) * 1).toNat]?) = fun m => xs[i + m]? := by
    funext m
    have : ((i : Int) + (m : Int) * 1).toNat = i + m := by omega
    rw [this]
  rw [e]
  have := pick_run xs i k
  rw [List.filterMap_map] at this
  have e2 : ((fun x => xs[x]?) ∘ fun x => i + x) = fun m => xs[i + m]? := rfl
  rw [e2] at this
  rw [this]

theorem getItem_tuple_cut {t sl : Addr} {items : Array Value} {vl vu : Value} {lo hi : Option Int} {Q : Value → Shared → Prop} (ht : IsTup s.heap t items) (hs : s.heap.IsSliceOf sl vl vu .none) (pl : IsPart vl lo) (pu : IsPart vu hi)
    (hw : ¬ (sIx items.size 0 lo = 0 ∧ sIx items.size items.size hi = items.size))
    (h : Q (.ref s.heap.objs.size) { s with heap := s.heap.push { cls := .type "tuple", data := .seq ((items.toList.drop (sIx items.size 0 lo)).take (sIx items.size items.size hi - sIx items.size 0 lo)).toArray } })
    (hsz : items.size ≤ sizeLine) : wpAny (model prog w) A (getItem (.ref t) (.ref sl)) Q E s := by
  have htake : sizeOk (.seq ((items.toList.drop (sIx items.size 0 lo)).take (sIx items.size items.size hi - sIx items.size 0 lo)).toArray) := by
    show ((items.toList.drop (sIx items.size 0 lo)).take (sIx items.size items.size hi - sIx items.size 0 lo)).toArray.size ≤ sizeLine
    rw [List.size_toArray, List.length_take, List.length_drop, Array.length_toList]
    omega
  have hj : sIx items.size items.size hi ≤ items.size := sIx_le _ _ (Nat.le_refl _) hi
  obtain ⟨os, hos, hcs, hds⟩ := id hs
  have hTs : s.TypeIs (.ref sl) "slice" := ⟨os, hos, hcs⟩
  unfold getItem
  try with_reducible refine wpAny_holding ?_
  first | refine wpAny_bind (wpAny_pure ?_) | skip
  refine wpAny_bind (wpAny_sequenceKey ht.typeIs (by decide) ?_)
  refine wpAny_bind (wpAny_callSpecial?_slot (name := Str.ofString "__getitem__") ht.typeIs PyProof.Rows.slot_tuple_getitem
    (wpAny_call_entry PyProof.Rows.slot_tuple_getitem ht.typeIs entry_tuple_getitem ?_ (args_tuple_getitem _ _)))
  show wpAny _ _ (Builtin.Tuple.tupleItemsOf (.ref t) >>= _) _ _ s
  refine wpAny_bind (tupleItemsOf_ ht ?_)
  refine wpAny_bind (wpAny_typeOf hTs ?_)
  rw [if_pos (by decide)]
  refine wpAny_bind (sliceApplied_gen hs pl pu ?_)
  have hno : ¬ ((((sIx items.size 0 lo : Nat) : Int) == 0 && (1 : Int) == 1 && (sIx items.size items.size hi - sIx items.size 0 lo) == items.size) = true) := by
    intro q
    rw [Bool.and_eq_true, Bool.and_eq_true] at q
    have q1 : ((sIx items.size 0 lo : Nat) : Int) = 0 := eq_of_beq q.1.1
    have q2 : sIx items.size items.size hi - sIx items.size 0 lo = items.size := eq_of_beq q.2
    exact hw ⟨by omega, by omega⟩
  show wpAny _ _ (if (((sIx items.size 0 lo : Nat) : Int) == 0 && (1 : Int) == 1 && (sIx items.size items.size hi - sIx items.size 0 lo) == items.size) = true then _ else _) _ _ s
  rw [if_neg hno, pick_gen]
  first
    | exact wpAny_bind (m := Builtin.Tuple.tupleExact _) (wpAny_newObj_type (wpAny_pure ⟨_, rfl, wpAny_pure h⟩) htake)
    | exact wpAny_bind (m := Builtin.Tuple.tupleExact _) (wpAny_newObj_type (wpAny_bind (wpAny_pure (wpAny_pure ⟨_, rfl, wpAny_pure h⟩))) htake)
    | exact wpAny_bind (wpAny_bind (m := Builtin.Tuple.tupleExact _) (wpAny_newObj_type (wpAny_pure (wpAny_pure ⟨_, rfl, wpAny_pure h⟩)) htake))
    | exact wpAny_bind (wpAny_bind (m := Builtin.Tuple.tupleExact _) (wpAny_newObj_type (wpAny_pure ⟨_, rfl, wpAny_pure h⟩) htake))
end
end HT

namespace L2
open PySem PySem.Spec PyProof.Rows

/-! ### the parts of a slice -/
abbrev TO := St → Hp → (Option Int → Hp → Prop) → Prop
/-- a slice's part (left out, or an int) -/
def PO (X : Cx) (e : Option Expr) (t : TO) : Prop :=
  ∀ (pins : List (Addr × Obj)) (s : Shared) (σ : St) (H : Hp) (Q : Option Int → Hp → Prop), Inv X pins σ H s → t σ H Q →
    wpAny (model X.prog X.w) X.A (evalPart e X.env) (fun u s' => ∃ o H', Inv X pins σ H' s' ∧ IsPart u o ∧ Q o H') X.xe s
def tNoPart : TO := fun _ H Q => Q none H
def tPart (t : TE) : TO := fun σ H Q => t σ H fun x H1 => ∃ i, x = .int i ∧ Q (some i) H1

theorem intsAre_of {ns : List Int} : ∀ {us : List Value}, Vals (ns.map V.int) us → IntsAre us ns := by
  induction ns with
  | nil => intro us r; rw [List.map_nil] at r; cases r; exact .nil
  | cons n ns ih =>
    intro us r
    rw [List.map_cons] at r
    cases r with
    | cons r1 r2 =>
      obtain ⟨t, e⟩ := r1
      subst e
      exact .cons n t (ih r2)

section
variable {X : Cx} {e : Expr} {te : TE} {lo hi : Option Expr} {tl th : TO} {pos p2 : Pos}

theorem po_none : PO X none tNoPart := by
  intro pins s σ H Q I h
  rw [evalPart_none]
  exact wpAny_pure ⟨none, H, I, .none, h⟩
theorem po_some (h : PE X e te) : PO X (some e) (tPart te) := by
  intro pins s σ H Q I hw
  rw [evalPart_some]
  refine thn (h pins s σ H _ I hw) fun u s1 ⟨x, H1, I1, r1, q1⟩ => ?_
  obtain ⟨i, rfl, q⟩ := q1
  obtain ⟨t, rfl⟩ := r1
  exact ⟨some i, H1, I1, .int i t, q⟩

/-- what a slice of a value is, by values: the slice object stands at sl -/
def SlR (X : Cx) (r : V → Option Int → Option Int → Hp → VK → Prop) : Prop :=
  ∀ (pins : List (Addr × Obj)) (s : Shared) (σ : St) (H : Hp) (x : V) (v vl vu : Value) (lo hi : Option Int) (sl : Addr) (Q : VK), Inv X pins σ H s → RelV x v → s.heap.IsSliceOf sl vl vu .none → IsPart vl lo → IsPart vu hi → r x lo hi H Q →
    ∃ T id, typeLookup (.type T) "__getitem__" = pure (some (.builtin id)) ∧ s.TypeIs v T ∧ wpAny (model X.prog X.w) X.A (getItem v (.ref sl)) (EP X pins σ Q) X.xe s
theorem SlR.or {r r' : V → Option Int → Option Int → Hp → VK → Prop} (h : SlR X r) (h' : SlR X r') : SlR X (fun x lo hi H Q => r x lo hi H Q ∨ r' x lo hi H Q) := by
  intro pins s σ H x v vl vu lo hi sl Q I rx hs pl pu q
  rcases q with q | q
  · exact h pins s σ H x v vl vu lo hi sl Q I rx hs pl pu q
  · exact h' pins s σ H x v vl vu lo hi sl Q I rx hs pl pu q
def tSl (r : V → Option Int → Option Int → Hp → VK → Prop) (te : TE) (tl th : TO) : TE := fun σ H Q => te σ H fun x H1 => tl σ H1 fun l H2 => th σ H2 fun u H3 => r x l u H3 Q
/-- a[lo:hi], any a -/
theorem pe_slice {r : V → Option Int → Option Int → Hp → VK → Prop} (hr : SlR X r) (he : PE X e te) (hl : PO X lo tl) (hu : PO X hi th) : PE X (.Subscript e (.Slice lo hi none p2) pos) (tSl r te tl th) := by
  intro pins s σ H Q I h
  refine Subscript_ (thn (he pins s σ H _ I h) fun v s1 ⟨x, H1, I1, r1, q1⟩ => ?_)
  refine wpAny_Slice (thn (hl pins s1 σ H1 _ I1 q1) fun vl s2 ⟨l, H2, I2, pl, q2⟩ => thn (hu pins s2 σ H2 _ I2 q2) fun vu s3 ⟨u, H3, I3, pu, q3⟩ => ?_)
  rw [evalPart_none]
  refine wpAny_pure ?_
  have I4 : Inv X pins σ H3 { s3 with heap := s3.heap.push { cls := .type "slice", data := .fields #[vl, vu, .none] } } := I3.kept (t' := s3.toks) fun b ob q => Heap.get?_push_of_some _ q
  obtain ⟨T, id, hT, ht, hg⟩ := hr pins { s3 with heap := s3.heap.push { cls := .type "slice", data := .fields #[vl, vu, .none] } } σ H3 x v vl vu l u s3.heap.objs.size Q I4 r1 (Heap.IsSliceOf.new ..) pl pu q3
  show wpAny (model X.prog X.w) X.A (subscriptTail e (.Slice lo hi none p2) v (.ref s3.heap.objs.size)) (EP X pins σ Q) X.xe { s3 with heap := s3.heap.push { cls := .type "slice", data := .fields #[vl, vu, .none] } }
  exact tail_any (ops := [.ref s3.heap.objs.size, v]) ht hT hg (by with_unfolding_all rfl)

/-- the items of xs[lo:hi] -/
def cutV (xs : List V) (lo hi : Option Int) : List V := (xs.drop (HT.sIx xs.length 0 lo)).take (HT.sIx xs.length xs.length hi - HT.sIx xs.length 0 lo)
theorem cutV_length (xs : List V) (lo hi : Option Int) : (cutV xs lo hi).length ≤ xs.length := by
  unfold cutV
  rw [List.length_take, List.length_drop]
  omega
/-- t[lo:hi], not the whole of it (the whole would be t itself) -/
def rSlT (K : PySem.W.Frag) : V → Option Int → Option Int → Hp → VK → Prop := fun x lo hi H Q => ∃ a xs, x = .ref a ∧ SqT K H a xs ∧
  ¬ (HT.sIx xs.length 0 lo = 0 ∧ HT.sIx xs.length xs.length hi = xs.length) ∧ ∀ p, H p = none → Q (.ref p) (upd H p (.tup (cutV xs lo hi)))
theorem sl_tup : SlR X (rSlT X.K) := by
  intro pins s σ H x v vl vu lo hi sl Q I rx hs pl pu h
  obtain ⟨a, xs, rfl, hx, hw, q⟩ := h
  cases rx
  obtain ⟨its, r, ht, hz⟩ := I.tuple hx
  have hlen : its.toArray.size = xs.length := by rw [List.size_toArray]; exact r.length.symm
  refine ⟨"tuple", _, PyProof.Rows.slot_tuple_getitem.lookup, ht.typeIs, ?_⟩
  refine HT.getItem_tuple_cut ht hs pl pu (by rw [hlen]; exact hw) ?_ (by rw [hlen]; exact hz)
  rw [hlen]
  refine ⟨.ref s.heap.objs.size, _, I.laid (t' := s.toks) (o := .tup (cutV xs lo hi)) (fun b ob q => Heap.get?_push_of_some _ q) (Nat.le_refl _) ?_, rfl, q _ (I.hok.fresh (Nat.le_refl _))⟩
  exact ⟨Nat.le_trans (cutV_length xs lo hi) hz, _, (r.drop (HT.sIx xs.length 0 lo)).take (HT.sIx xs.length xs.length hi - HT.sIx xs.length 0 lo), IsTup.new _ _⟩

/-! ### t < u, t + u -/
def rLtT (K : PySem.W.Frag) : R2 := fun x y H Q => ∃ a b ns ms, x = .ref a ∧ y = .ref b ∧ SqT K H a (ns.map V.int) ∧ SqT K H b (ms.map V.int) ∧ Q (.bl (HT.lexLt ns ms)) H
theorem op_ltT (hu : X.A.units < cLine) : OpR X (compareOp .Lt) (rLtT X.K) := by
  intro pins s σ H x y v u Q I rx ry h
  obtain ⟨a, b, ns, ms, rfl, rfl, ha, hb, q⟩ := h
  cases rx
  cases ry
  obtain ⟨its, r1, p1, _⟩ := I.tuple ha
  obtain ⟨its2, r2, p2, _⟩ := I.tuple hb
  have i1 : IntsAre its.toArray.toList ns := intsAre_of r1
  have i2 : IntsAre its2.toArray.toList ms := intsAre_of r2
  exact HT.lt_tupInts p1 p2 i1 i2 hu ⟨.bl (HT.lexLt ns ms), H, I, rfl, q⟩
/-- t + u, t not empty: u empty gives t itself -/
def rCatT (K : PySem.W.Frag) : R2 := fun x y H Q => ∃ a b xs ys, x = .ref a ∧ y = .ref b ∧ SqT K H a xs ∧ SqT K H b ys ∧ xs ≠ [] ∧ xs.length + ys.length ≤ sizeLine ∧
  (ys = [] → Q (.ref a) H) ∧ (ys ≠ [] → ∀ p, H p = none → Q (.ref p) (upd H p (.tup (xs ++ ys))))
theorem Vals.nil_iff {xs : List V} {us : List Value} (r : Vals xs us) : us = [] ↔ xs = [] := by
  cases r with
  | nil => simp
  | cons _ _ => simp
theorem op_catT : OpR X (binaryOp .Add) (rCatT X.K) := by
  intro pins s σ H x y v u Q I rx ry h
  obtain ⟨a, b, xs, ys, rfl, rfl, ha, hb, hx, hz, q1, q2⟩ := h
  cases rx
  cases ry
  obtain ⟨its, r1, p1, _⟩ := I.tuple ha
  obtain ⟨its2, r2, p2, _⟩ := I.tuple hb
  refine HT.cat_tup p1 p2 (fun z => hx (r1.nil_iff.mp z)) (fun z => ⟨.ref a, H, I, rfl, q1 (r2.nil_iff.mp z)⟩) (fun z => ?_) (by rw [← r1.length, ← r2.length]; exact hz)
  refine ⟨.ref s.heap.objs.size, _, I.laid (t' := s.toks) (o := .tup (xs ++ ys)) (fun b ob q => Heap.get?_push_of_some _ q) (Nat.le_refl _) ?_, rfl, q2 (fun w => z (r2.nil_iff.mpr w)) _ (I.hok.fresh (Nat.le_refl _))⟩
  exact ⟨by rw [List.length_append]; exact hz, _, r1.append r2, IsTup.new _ _⟩
/-- tuple(t) -/
theorem call_tupleT : CallR X (.type "tuple") (fun xs H Q => ∃ a ys, xs = [.ref a] ∧ SqT X.K H a ys ∧ Q (.ref a) H) := by
  intro pins s σ H xs us Q I r h
  obtain ⟨a, ys, rfl, ha, q⟩ := h
  obtain ⟨u, rfl, ru⟩ := vals1 r
  cases ru
  obtain ⟨its, _, p1, _⟩ := I.tuple ha
  exact call_tuple_same (items := its.toArray) p1 ⟨.ref a, H, I, rfl, q⟩
end
end L2

namespace L2
open PySem PySem.Spec PyProof.Rows

/-! ### places -/
/-- the place that an index of any sign means -/
def ixN (n : Nat) (i : Int) : Option Nat := if 0 ≤ i then (if i < n then some i.toNat else none) else if -(n : Int) ≤ i then some (i + n).toNat else none
def atI {α : Type} (xs : List α) (i : Int) : Option α := (ixN xs.length i).bind fun j => xs[j]?
theorem ixN_seq {n : Nat} {i : Int} {j : Nat} (h : ixN n i = some j) : seqIndex? i n = some j ∧ j < n ∧ -(n : Int) ≤ i ∧ i < n := by
  unfold ixN at h
  by_cases h0 : 0 ≤ i
  · rw [if_pos h0] at h
    by_cases h1 : i < n
    · rw [if_pos h1] at h
      have e : i.toNat = j := Option.some.inj h
      exact ⟨by rw [seqIndex_of h0 h1, e], by omega, by omega, h1⟩
    · rw [if_neg h1] at h; cases h
  · rw [if_neg h0] at h
    by_cases h1 : -(n : Int) ≤ i
    · rw [if_pos h1] at h
      have e : (i + n).toNat = j := Option.some.inj h
      exact ⟨by rw [seqIndex_neg (by omega) h1, e], by omega, h1, by omega⟩
    · rw [if_neg h1] at h; cases h
theorem atI_get {α : Type} {xs : List α} {i : Int} {v : α} (h : atI xs i = some v) : ∃ j, seqIndex? i xs.length = some j ∧ xs[j]? = some v ∧ j < xs.length ∧ -(xs.length : Int) ≤ i ∧ i < xs.length := by
  unfold atI at h
  cases e : ixN xs.length i with
  | none => rw [e] at h; cases h
  | some j =>
    rw [e] at h
    obtain ⟨h1, h2, h3, h4⟩ := ixN_seq e
    exact ⟨j, h1, h, h2, h3, h4⟩
theorem atI_nat {α : Type} {xs : List α} {j : Nat} {v : α} (h : xs[j]? = some v) : atI xs (j : Int) = some v := by
  have hj : j < xs.length := (List.getElem?_eq_some_iff.mp h).1
  have e : ixN xs.length (j : Int) = some j := by
    unfold ixN
    rw [if_pos (by omega), if_pos (by omega)]; simp
  unfold atI; rw [e]; exact h
theorem atI_last {α : Type} (xs : List α) (v : α) : atI (xs ++ [v]) (-1) = some v := by
  have hl : (xs ++ [v]).length = xs.length + 1 := by simp
  have e : ixN (xs ++ [v]).length (-1) = some xs.length := by
    unfold ixN
    rw [hl, if_neg (by decide), if_pos (by omega)]
    congr 1
    omega
  unfold atI
  rw [e]
  show (xs ++ [v])[xs.length]? = some v
  simp

/-! ### what may be subscripted -/
/-- what stands as an index of a plain subscript -/
def PlainIx (b : Expr) : Prop := ∀ o i, subscripted b false o i = operate [o, i] (getItem o i)
/-- a subscript by values -/
def IxR (X : Cx) (r : R2) : Prop :=
  ∀ (value slice : Expr) (pins : List (Addr × Obj)) (s : Shared) (σ : St) (H : Hp) (x y : V) (v u : Value) (Q : VK), Inv X pins σ H s → RelV x v → RelV y u → r x y H Q →
    subscripted slice false v u = operate [v, u] (getItem v u) → wpAny (model X.prog X.w) X.A (subscriptTail value slice v u) (EP X pins σ Q) X.xe s
/-- a call of a builtin's method by values: the receiver, the arguments -/
def MtR (X : Cx) (id : String) (r : V → List V → Hp → VK → Prop) : Prop :=
  ∀ (pins : List (Addr × Obj)) (s : Shared) (σ : St) (H : Hp) (x : V) (xs : List V) (v : Value) (us : List Value) (Q : VK), Inv X pins σ H s → RelV x v → Vals xs us → r x xs H Q →
    wpAny (model X.prog X.w) X.A (call (.builtin id) (v :: us)) (EP X pins σ Q) X.xe s
section
variable {X : Cx} {a b : Expr} {ta tb : TE} {pos : Pos}
theorem IxR.or {r r' : R2} (h : IxR X r) (h' : IxR X r') : IxR X (fun x y H Q => r x y H Q ∨ r' x y H Q) := by
  intro value slice pins s σ H x y v u Q I rx ry q hs
  rcases q with q | q
  · exact h value slice pins s σ H x y v u Q I rx ry q hs
  · exact h' value slice pins s σ H x y v u Q I rx ry q hs
theorem MtR.or {id : String} {r r' : V → List V → Hp → VK → Prop} (h : MtR X id r) (h' : MtR X id r') : MtR X id (fun x xs H Q => r x xs H Q ∨ r' x xs H Q) := by
  intro pins s σ H x xs v us Q I rx rs q
  rcases q with q | q
  · exact h pins s σ H x xs v us Q I rx rs q
  · exact h' pins s σ H x xs v us Q I rx rs q
/-- a[b] -/
theorem pe_ix {r : R2} (hr : IxR X r) (ha : PE X a ta) (hb : PE X b tb) (hs : PlainIx b) : PE X (.Subscript a b pos) (tOp r ta tb) := by
  intro pins s σ H Q I h
  exact Subscript_ (binT ha hb I h fun v u s2 x y H2 I2 rx ry q => hr a b pins s2 σ H2 x y v u Q I2 rx ry q (hs _ _))

def rIxL (K : PySem.W.Frag) : R2 := fun x y H Q => ∃ p xs i v, x = .ref p ∧ y = .int i ∧ SqL K H p xs ∧ atI xs i = some v ∧ Q v H
def rIxT (K : PySem.W.Frag) : R2 := fun x y H Q => ∃ p xs i v, x = .ref p ∧ y = .int i ∧ SqT K H p xs ∧ atI xs i = some v ∧ Q v H
def rIxS : R2 := fun x y H Q => ∃ z i c, x = .str z ∧ y = .int i ∧ z.length ≤ sizeLine ∧ atI z.cps.toList i = some c ∧ Q (.str ⟨#[c]⟩) H
theorem ix_list : IxR X (rIxL X.K) := by
  intro value slice pins s σ H x y v u Q I rx ry h hs
  obtain ⟨p, xs, i, z, rfl, rfl, hq, he, q⟩ := h
  cases rx
  obtain ⟨t, rfl⟩ := ry
  obtain ⟨its, r, pl, hz⟩ := I.list hq
  obtain ⟨j, h1, h2, h3, h4, h5⟩ := atI_get he
  obtain ⟨w, ew, rw'⟩ := r.get h2
  have hl := r.length
  have hn := line63
  have fin : EP X pins σ Q w s := ⟨z, H, I, rw', q⟩
  by_cases h0 : 0 ≤ i
  · have hj : i.toNat = j := by
      rw [seqIndex_of h0 h5] at h1
      exact Option.some.inj h1
    exact item_listR pl.isList h0 (by omega) (by rw [hj]; simpa using ew) fin hs
  · have hj : (i + (its.toArray.size : Int)).toNat = j := by
      rw [seqIndex_neg (by omega) h4] at h1
      rw [List.size_toArray, ← hl]
      exact Option.some.inj h1
    exact subscriptTail_builtinR (x := w) pl.isList.typeIs slot_list_getitem.lookup
      (wpAny_getItem_list_neg (Q := fun r s' => r = w ∧ EP X pins σ Q r s') pl.isList (by omega) (by rw [List.size_toArray] <;> omega) (by omega) (by rw [hj]; simpa using ew) ⟨rfl, fin⟩) hs
theorem ix_tup : IxR X (rIxT X.K) := by
  intro value slice pins s σ H x y v u Q I rx ry h hs
  obtain ⟨p, xs, i, z, rfl, rfl, hq, he, q⟩ := h
  cases rx
  obtain ⟨t, rfl⟩ := ry
  obtain ⟨its, r, pl, hz⟩ := I.tuple hq
  obtain ⟨j, h1, h2, h3, h4, h5⟩ := atI_get he
  obtain ⟨w, ew, rw'⟩ := r.get h2
  have hl := r.length
  have hn := line63
  have fin : EP X pins σ Q w s := ⟨z, H, I, rw', q⟩
  exact subscriptTail_builtinR (x := w) pl.typeIs slot_tuple_getitem.lookup
    (getItem_tuple (j := j) (Q := fun r s' => r = w ∧ EP X pins σ Q r s') pl (by omega) (by omega) (by rw [List.size_toArray, ← hl]; exact h1) (by simpa using ew) ⟨rfl, fin⟩) hs
theorem ix_str : IxR X rIxS := by
  intro value slice pins s σ H x y v u Q I rx ry h hs
  obtain ⟨z, i, c, rfl, rfl, hz, he, q⟩ := h
  obtain ⟨t, rfl⟩ := rx
  obtain ⟨t', rfl⟩ := ry
  obtain ⟨j, h1, h2, h3, h4, h5⟩ := atI_get he
  have hl : z.cps.toList.length = z.length := by simp [Str.length]
  rw [hl] at h1 h4 h5
  have hn := line63
  exact tail_any (typeIs_str s z t) slot_str_getitem.lookup (getItem_str (c := c) (by
    have e1 : decide (i < -(2 ^ 63 : Int)) = false := decide_eq_false (by omega)
    have e2 : decide (i ≥ 2 ^ 63) = false := decide_eq_false (by omega)
    rw [e1, e2, Bool.or_false]) (by rw [h1]; simpa using h2) ⟨.str ⟨#[c]⟩, H, I.tok _, ⟨_, rfl⟩, q⟩) hs
/-- list, tuple or str -/
def rIx (K : PySem.W.Frag) : R2 := fun x y H Q => rIxL K x y H Q ∨ rIxT K x y H Q ∨ rIxS x y H Q
theorem ix_seq : IxR X (rIx X.K) := ix_list.or (ix_tup.or ix_str)

/-! ### xs[i] = v, any sign -/
/-- the list's object behind a store -/
theorem mapSeq_set (its : List Value) (n j : Nat) (u : Value) : Obj.mapSeq (·.setIfInBounds j u) { cls := .type "list", data := .seq its.toArray n } = { cls := .type "list", data := .seq (its.set j u).toArray n } := by
  simp [Obj.mapSeq]
theorem Inv.lst {pins : List (Addr × Obj)} {σ : St} {H : Hp} {s : Shared} {p : Addr} {xs : List V} (I : Inv X pins σ H s) (h : H p = some (.lst xs)) :
    ∃ (its : List Value) (n : Nat), Vals xs its ∧ s.heap.get? p = some { cls := .type "list", data := .seq its.toArray n } ∧ xs.length ≤ sizeLine := by
  obtain ⟨z, its, n, r, e⟩ := I.hok p _ h
  exact ⟨its, n, r, e, z⟩
/-- the list at p is written by an update of its object -/
theorem Inv.lstUpd {pins : List (Addr × Obj)} {σ : St} {H : Hp} {s : Shared} {p : Addr} {xs ys : List V} {its its' : List Value} {n n' : Nat} {f : Obj → Obj} (I : Inv X pins σ H s) (h : H p = some (.lst xs))
    (ho : s.heap.get? p = some { cls := .type "list", data := .seq its.toArray n }) (hf : f { cls := .type "list", data := .seq its.toArray n } = { cls := .type "list", data := .seq its'.toArray n' }) (r : Vals ys its') (hz : ys.length ≤ sizeLine) (t : Nat) :
    Inv X pins σ (upd H p (.lst ys)) { s with heap := s.heap.update p f, toks := t } := by
  have e : (s.heap.update p f).get? p = some { cls := .type "list", data := .seq its'.toArray n' } := by
    rw [Heap.get?_update_self f ho (by rw [hf] <;> rfl), hf]
  refine I.write (x := p) (e := p) (by rw [h]; trivial) (.inl rfl) (fun b u hb q => (Heap.get?_update_other _ _ (Ne.symm hb)).trans q) ⟨_, e⟩ ?_
  exact ⟨hz, its', n', r, e⟩
def rSetL : V → V → V → Hp → (Hp → Prop) → Prop := fun o i v H Q => ∃ p xs k j, o = .ref p ∧ i = .int k ∧ H p = some (.lst xs) ∧ ixN xs.length k = some j ∧ Q (upd H p (.lst (xs.set j v)))
theorem set_list : PSet X rSetL := by
  intro pins s σ H o i v ov iv u Q I ro ri rv h
  obtain ⟨p, xs, k, j, rfl, rfl, hp, hj, q⟩ := h
  cases ro
  obtain ⟨t, rfl⟩ := ri
  obtain ⟨its, n, r, ho, hz⟩ := I.lst hp
  obtain ⟨h1, h2, h3, h4⟩ := ixN_seq hj
  have hl := r.length
  have hn := line63
  have I' : Inv X pins σ (upd H p (.lst (xs.set j v))) { s with heap := s.heap.update p (Obj.mapSeq (·.setIfInBounds j u)) } :=
    I.lstUpd hp ho (mapSeq_set its n j u) (r.set rv j) (by rw [List.length_set]; exact hz) s.toks
  by_cases h0 : 0 ≤ k
  · have hk : k.toNat = j := by
      rw [seqIndex_of h0 h4] at h1
      exact Option.some.inj h1
    exact PySem.W.ki_setAt ho h0 (by omega) (by rw [List.size_toArray, ← hl]; exact h4) (by rw [hk]; exact ⟨_, I', q⟩)
  · have hk : (k + (its.toArray.size : Int)).toNat = j := by
      rw [seqIndex_neg (by omega) h3] at h1
      rw [List.size_toArray, ← hl]
      exact Option.some.inj h1
    exact PySem.W.ki_setBack ho (by omega) (by rw [List.size_toArray, ← hl]; exact h3) (by omega) (by rw [hk]; exact ⟨_, I', q⟩)

/-! ### slices -/
theorem slice_bounds (lo hi : Option Int) (n : Nat) : (sliceBounds lo hi none n).1 = ((HT.sIx n 0 lo : Nat) : Int) ∧ (sliceBounds lo hi none n).2.1 = ((HT.sIx n n hi : Nat) : Int) ∧ (sliceBounds lo hi none n).2.2 = 1 := by
  refine ⟨?_, ?_, rfl⟩
  · cases lo with
    | none => simp [sliceBounds, HT.sIx]
    | some i =>
      simp only [sliceBounds, HT.sIx, Option.getD_none, show (1 : Int) > 0 by decide, if_true]
      by_cases h : i < 0
      · simp only [h, if_true] <;> omega
      · simp only [h, if_false] <;> omega
  · cases hi with
    | none => simp [sliceBounds, HT.sIx]
    | some i =>
      simp only [sliceBounds, HT.sIx, Option.getD_none, show (1 : Int) > 0 by decide, if_true]
      by_cases h : i < 0
      · simp only [h, if_true] <;> omega
      · simp only [h, if_false] <;> omega
theorem slicePick_cut (its : List Value) (lo hi : Option Int) : slicePick its.toArray lo hi none = ((its.drop (HT.sIx its.length 0 lo)).take (HT.sIx its.length its.length hi - HT.sIx its.length 0 lo)).toArray := by
  obtain ⟨h1, h2, h3⟩ := slice_bounds lo hi its.toArray.size
  unfold slicePick
  rw [h1, h2, h3]
  simp only [sliceRange_one, pick_run, List.size_toArray] <;> rfl
/-- xs[lo:hi] of a list: a new list -/
def rSlL (K : PySem.W.Frag) : V → Option Int → Option Int → Hp → VK → Prop := fun x lo hi H Q => ∃ a xs, x = .ref a ∧ SqL K H a xs ∧ ∀ p, H p = none → Q (.ref p) (upd H p (.lst (cutV xs lo hi)))
theorem sl_list : SlR X (rSlL X.K) := by
  intro pins s σ H x v vl vu lo hi sl Q I rx hs pl pu h
  obtain ⟨a, xs, rfl, hx, q⟩ := h
  cases rx
  obtain ⟨its, r, ht, hz⟩ := I.list hx
  have hlen := r.length
  refine ⟨"list", _, slot_list_getitem.lookup, ht.isList.typeIs, ?_⟩
  refine wpAny_getItem_list_slice ht.isList hs pl pu .none (by simp) ?_ (by rw [List.size_toArray] <;> omega)
  rw [slicePick_cut, ← hlen]
  refine ⟨.ref s.heap.objs.size, _, I.laid (t' := s.toks) (o := .lst (cutV xs lo hi)) (fun b ob q => Heap.get?_push_of_some _ q) (Nat.le_refl _) ?_, rfl, q _ (I.hok.fresh (Nat.le_refl _))⟩
  exact ⟨Nat.le_trans (cutV_length xs lo hi) hz, _, 0, (r.drop (HT.sIx xs.length 0 lo)).take (HT.sIx xs.length xs.length hi - HT.sIx xs.length 0 lo), Heap.get?_push_size _ rfl⟩

/-! ### in, not in: flat items -/
def flatV : V → Bool
  | .non => true
  | .bl _ => true
  | .int _ => true
  | .str _ => true
  | _ => false
/-- == of flat values -/
def eqV : V → V → Bool
  | .non, .non => true
  | .bl a, .bl b => a == b
  | .bl a, .int b => (if a then 1 else 0) == b
  | .int a, .bl b => a == (if b then 1 else 0)
  | .int a, .int b => a == b
  | .str a, .str b => a == b
  | _, _ => false
theorem eqAt_V {A : Around} {s : Shared} {y x : V} {u v : Value} (ry : RelV y u) (rx : RelV x v) (fy : flatV y = true) (fx : flatV x = true) : SeqAt.EqAt A s u v (eqV y x) := by
  cases y with
  | non =>
    cases ry
    cases x with
    | non => cases rx; exact SeqAt.EqAt.same _
    | bl b => cases rx; exact SeqAt.EqAt.none_bool b
    | int b => obtain ⟨t, rfl⟩ := rx; exact SeqAt.EqAt.none_int b t
    | str b => obtain ⟨t, rfl⟩ := rx; exact SeqAt.EqAt.none_str b t
    | _ => exact absurd (show false = true from fx) Bool.false_ne_true
  | bl a =>
    cases ry
    cases x with
    | non => cases rx; exact SeqAt.EqAt.bool_none a
    | bl b => cases rx; exact SeqAt.EqAt.bool_bool a b
    | int b => obtain ⟨t, rfl⟩ := rx; exact SeqAt.EqAt.bool_int a b t
    | str b => obtain ⟨t, rfl⟩ := rx; exact SeqAt.EqAt.bool_str a b t
    | _ => exact absurd (show false = true from fx) Bool.false_ne_true
  | int a =>
    obtain ⟨t', rfl⟩ := ry
    cases x with
    | non => cases rx; exact SeqAt.EqAt.int_none a t'
    | bl b => cases rx; exact SeqAt.EqAt.int_bool a t' b
    | int b => obtain ⟨t, rfl⟩ := rx; exact SeqAt.EqAt.int_int a t' b t
    | str b => obtain ⟨t, rfl⟩ := rx; exact SeqAt.EqAt.int_str a t' b t
    | _ => exact absurd (show false = true from fx) Bool.false_ne_true
  | str a =>
    obtain ⟨t', rfl⟩ := ry
    cases x with
    | non => cases rx; exact SeqAt.EqAt.str_none a t'
    | bl b => cases rx; exact SeqAt.EqAt.str_bool a t' b
    | int b => obtain ⟨t, rfl⟩ := rx; exact SeqAt.EqAt.str_int a t' b t
    | str b => obtain ⟨t, rfl⟩ := rx; exact SeqAt.EqAt.str_str a t' b t
    | _ => exact absurd (show false = true from fx) Bool.false_ne_true
  | _ => exact absurd (show false = true from fy) Bool.false_ne_true
/-- the items' answers, read off the values (a value's own answer does not lean on its token) -/
def eqU (x : V) (u : Value) : Bool := match u with
  | .none => eqV .non x
  | .bool b => eqV (.bl b) x
  | .int i _ => eqV (.int i) x
  | .str z _ => eqV (.str z) x
  | _ => false
theorem eqU_of {x y : V} {u : Value} (r : RelV y u) (f : flatV y = true) : eqU x u = eqV y x := by
  cases y with
  | non => cases r; rfl
  | bl b => cases r; rfl
  | int i => obtain ⟨t, rfl⟩ := r; rfl
  | str z => obtain ⟨t, rfl⟩ := r; rfl
  | _ => exact absurd (show false = true from f) Bool.false_ne_true
theorem any_eqU {x : V} : ∀ {xs : List V} {us : List Value}, Vals xs us → xs.all flatV = true → us.any (eqU x) = xs.any fun y => eqV y x
  | _, _, .nil, _ => rfl
  | y :: xs, u :: us, .cons r t, f => by
    rw [List.all_cons, Bool.and_eq_true] at f
    rw [List.any_cons, List.any_cons, eqU_of r f.1, any_eqU t f.2]
theorem mem_eqAt {A : Around} {s : Shared} {x : V} {v : Value} (rx : RelV x v) (fx : flatV x = true) : ∀ {xs : List V} {us : List Value}, Vals xs us → xs.all flatV = true → ∀ u ∈ us, SeqAt.EqAt A s u v (eqU x u)
  | _, _, .nil, _ => fun u hu => by cases hu
  | y :: xs, u :: us, .cons r t, f => fun u' hu => by
    rw [List.all_cons, Bool.and_eq_true] at f
    rcases List.mem_cons.mp hu with rfl | hu
    · rw [eqU_of r f.1]; exact eqAt_V r rx f.1 fx
    · exact mem_eqAt rx fx t f.2 u' hu
def inV (x : V) (xs : List V) : Bool := xs.any fun y => eqV y x
/-- x in a list or tuple of flat items -/
def rIn (K : PySem.W.Frag) (neg : Bool) : R2 := fun x y H Q => ∃ p xs, y = .ref p ∧ (SqL K H p xs ∨ SqT K H p xs) ∧ flatV x = true ∧ xs.all flatV = true ∧ Q (.bl (if neg then !inV x xs else inV x xs)) H
theorem op_in_seq : OpR X (compareOp .In) (rIn X.K false) := by
  intro pins s σ H x y v u Q I rx ry h
  obtain ⟨p, xs, rfl, hq, fx, fs, q⟩ := h
  cases ry
  rcases hq with hq | hq
  · obtain ⟨its, r, pl, hz⟩ := I.list hq
    refine SeqAt.in_listAt (eqU x) pl.isList (fun w hw => mem_eqAt rx fx r fs w (by simpa using hw)) ⟨.bl _, H, I, rfl, ?_⟩
    rw [show its.toArray.any (eqU x) = its.any (eqU x) by simp, any_eqU r fs]
    exact q
  · obtain ⟨its, r, pl, hz⟩ := I.tuple hq
    refine SeqAt.in_tupleAt (eqU x) pl (fun w hw => mem_eqAt rx fx r fs w (by simpa using hw)) ⟨.bl _, H, I, rfl, ?_⟩
    rw [show its.toArray.any (eqU x) = its.any (eqU x) by simp, any_eqU r fs]
    exact q
theorem op_notIn_seq : OpR X (compareOp .NotIn) (rIn X.K true) := by
  intro pins s σ H x y v u Q I rx ry h
  obtain ⟨p, xs, rfl, hq, fx, fs, q⟩ := h
  cases ry
  rcases hq with hq | hq
  · obtain ⟨its, r, pl, hz⟩ := I.list hq
    refine SeqAt.notIn_listAt (eqU x) pl.isList (fun w hw => mem_eqAt rx fx r fs w (by simpa using hw)) ⟨.bl _, H, I, rfl, ?_⟩
    rw [show its.toArray.any (eqU x) = its.any (eqU x) by simp, any_eqU r fs]
    exact q
  · obtain ⟨its, r, pl, hz⟩ := I.tuple hq
    refine SeqAt.notIn_tupleAt (eqU x) pl (fun w hw => mem_eqAt rx fx r fs w (by simpa using hw)) ⟨.bl _, H, I, rfl, ?_⟩
    rw [show its.toArray.any (eqU x) = its.any (eqU x) by simp, any_eqU r fs]
    exact q
theorem op_notIn_str : OpR X (compareOp .NotIn) (fun x y H Q => ∃ i j, x = .str i ∧ y = .str j ∧ Q (.bl (!(!(Builtin.Str.occurrences j i 0 j.length 1).isEmpty))) H) := by
  intro pins s σ H x y v u Q I rx ry h
  obtain ⟨i, j, rfl, rfl, q⟩ := h
  obtain ⟨t, rfl⟩ := rx
  obtain ⟨t', rfl⟩ := ry
  exact notIn_str ⟨.bl _, H, I, rfl, q⟩

/-! ### len, list(x), tuple(x) of any list or tuple that is read -/
theorem call_len_seq : CallR X (.builtin "len") (fun xs H Q => ∃ p ys, xs = [.ref p] ∧ (SqL X.K H p ys ∨ SqT X.K H p ys) ∧ Q (.int ys.length) H) := by
  intro pins s σ H xs us Q I r h
  obtain ⟨p, ys, rfl, hq, q⟩ := h
  obtain ⟨u, rfl, rx⟩ := vals1 r
  cases rx
  have hn := line63
  rcases hq with hq | hq
  · obtain ⟨its, r', pl, hz⟩ := I.list hq
    have hlen := r'.length
    exact Calls.call_len_list pl.isList (by simp only [List.size_toArray] <;> omega) ⟨.int ys.length, H, I.tok _, ⟨s.toks + 1, by rw [List.size_toArray, hlen]⟩, q⟩
  · obtain ⟨its, r', pl, hz⟩ := I.tuple hq
    have hlen := r'.length
    exact len_tuple pl (by simp only [List.size_toArray] <;> omega) ⟨.int ys.length, H, I.tok _, ⟨s.toks + 1, by rw [List.size_toArray, hlen]⟩, q⟩
theorem call_len_str : CallR X (.builtin "len") (fun xs H Q => ∃ z, xs = [.str z] ∧ z.length ≤ sizeLine ∧ Q (.int z.length) H) := by
  intro pins s σ H xs us Q I r h
  obtain ⟨z, rfl, hz, q⟩ := h
  obtain ⟨u, rfl, t, rfl⟩ := vals1 r
  have hn := line63
  exact len_str (by omega) ⟨.int z.length, H, I.tok _, ⟨_, rfl⟩, q⟩
theorem CallR.or {f : Value} {r r' : List V → Hp → VK → Prop} (h : CallR X f r) (h' : CallR X f r') : CallR X f (fun xs H Q => r xs H Q ∨ r' xs H Q) := by
  intro pins s σ H xs us Q I rs q
  rcases q with q | q
  · exact h pins s σ H xs us Q I rs q
  · exact h' pins s σ H xs us Q I rs q
theorem call_list_of : CallR X (.type "list") (fun xs H Q => ∃ p ys, xs = [.ref p] ∧ (SqL X.K H p ys ∨ SqT X.K H p ys) ∧ ∀ l, H l = none → Q (.ref l) (upd H l (.lst ys))) := by
  intro pins s σ H xs us Q I r h
  obtain ⟨p, ys, rfl, hq, q⟩ := h
  obtain ⟨u, rfl, rx⟩ := vals1 r
  cases rx
  have fin : ∀ (its : List Value), Vals ys its → ys.length ≤ sizeLine → ∀ (h' : Heap) (c' : Nat), (∀ b o', s.heap.get? b = some o' → h'.get? b = some o') →
      h'.get? s.heap.objs.size = some { cls := .type "list", dict := none, data := .seq its.toArray c', slots := #[] } → EP X pins σ Q (.ref s.heap.objs.size) { s with heap := h' } := fun its r' hz h' c' kp e =>
    ⟨.ref s.heap.objs.size, _, I.laid (t' := s.toks) kp (Nat.le_refl _) (show ObjOk X.prog X.w _ h' _ (.lst ys) from ⟨hz, its, c', r', e⟩), rfl, q _ (I.hok.fresh (Nat.le_refl _))⟩
  rcases hq with hq | hq
  · obtain ⟨its, r', pl, hz⟩ := I.list hq
    have hlen := r'.length
    obtain ⟨o, ho, hc, n, hd⟩ := pl.isList
    exact call_list_seq p (.inl rfl) ho hc hd (fun h' c' kp e => fin its r' hz h' c' kp e) (by simp only [List.size_toArray] <;> omega)
  · obtain ⟨its, r', pl, hz⟩ := I.tuple hq
    have hlen := r'.length
    obtain ⟨o, ho, hc, n, hd⟩ := pl
    exact call_list_seq p (.inr rfl) ho hc hd (fun h' c' kp e => fin its r' hz h' c' kp e) (by simp only [List.size_toArray] <;> omega)
theorem call_tuple_of : CallR X (.type "tuple") (fun xs H Q => ∃ p ys, xs = [.ref p] ∧ ((SqL X.K H p ys ∧ ∀ l, H l = none → Q (.ref l) (upd H l (.tup ys))) ∨ (SqT X.K H p ys ∧ Q (.ref p) H))) := by
  intro pins s σ H xs us Q I r h
  obtain ⟨p, ys, rfl, h⟩ := h
  obtain ⟨u, rfl, rx⟩ := vals1 r
  cases rx
  rcases h with ⟨hq, q⟩ | ⟨hq, q⟩
  · obtain ⟨its, r', pl, hz⟩ := I.list hq
    have hlen := r'.length
    refine call_tuple_list pl.isList (fun h' kp => ?_) (by simp only [List.size_toArray] <;> omega)
    have I1 : Inv X pins σ H { s with heap := h' } := I.kept (t' := s.toks) kp
    have I2 : Inv X pins σ (upd H h'.objs.size (.tup ys)) { s with heap := h'.push { cls := .type "tuple", data := .seq its.toArray } } :=
      I1.laid (t' := s.toks) (fun b o e => Heap.get?_push_of_some _ e) (Nat.le_refl _) (show ObjOk X.prog X.w _ _ _ (.tup ys) from ⟨hz, its, r', IsTup.new _ _⟩)
    exact ⟨.ref h'.objs.size, _, I2, rfl, q _ (I1.hok.fresh (Nat.le_refl _))⟩
  · obtain ⟨its, r', pl, hz⟩ := I.tuple hq
    exact call_tuple_same pl ⟨.ref p, H, I, rfl, q⟩

/-! ### the call of a builtin's method: o.m(..) -/
/-- the value is of that builtin type -/
def tyV (K : PySem.W.Frag) (T : String) (x : V) (H : Hp) : Prop := match x with
  | .str _ => T = "str"
  | .int _ => T = "int"
  | .ref p => (T = "list" ∧ ∃ xs, SqL K H p xs) ∨ (T = "tuple" ∧ ∃ o, K.lookup p = some o ∧ o.cls = .type "tuple" ∧ o.dict = none) ∨
      (T = "dict" ∧ ((∃ kvs, H p = some (.dK kvs)) ∨ ∃ kvs, H p = some (.dT kvs))) ∨ (T = "set" ∧ ∃ S n, H p = some (.set S n))
  | _ => False
theorem tyV_is {pins : List (Addr × Obj)} {σ : St} {H : Hp} {s : Shared} {T : String} {x : V} {v : Value} (I : Inv X pins σ H s) (r : RelV x v) (ty : tyV X.K T x H) :
    s.TypeIs v T ∧ ∀ a, v = .ref a → ∃ ob, s.heap.get? a = some ob ∧ ob.dict = none := by
  cases x with
  | str z =>
    obtain ⟨t, rfl⟩ := r
    cases (show T = "str" from ty)
    exact ⟨typeIs_str s z t, fun _ e => nomatch e⟩
  | int i =>
    obtain ⟨t, rfl⟩ := r
    cases (show T = "int" from ty)
    exact ⟨typeIs_int s i t, fun _ e => nomatch e⟩
  | ref p =>
    cases r
    rcases ty with ⟨rfl, xs, hq⟩ | ⟨rfl, o, hk, hc, hd⟩ | ⟨rfl, hk⟩ | ⟨rfl, S, n, hk⟩
    · obtain ⟨its, _, pl, _⟩ := I.list hq
      refine ⟨pl.isList.typeIs, fun a e => ?_⟩
      cases e
      obtain ⟨o, n, e, c, hd, _⟩ := pl
      exact ⟨o, e, hd⟩
    · refine ⟨⟨o, I.kIn p o hk, hc⟩, fun a e => ?_⟩
      cases e
      exact ⟨o, I.kIn _ o hk, hd⟩
    · have z : ∃ o, s.heap.get? p = some o ∧ o.ExactDict := by
        rcases hk with ⟨kvs, hk⟩ | ⟨kvs, hk⟩
        · obtain ⟨_, _, _, _, o, _, _, e, ex, _⟩ := I.hok p _ hk
          exact ⟨o, e, ex⟩
        · obtain ⟨_, _, _, _, o, _, _, e, ex, _⟩ := I.hok p _ hk
          exact ⟨o, e, ex⟩
      obtain ⟨o, e, ex⟩ := z
      refine ⟨⟨o, e, ex.1⟩, fun a e2 => ?_⟩
      cases e2
      exact ⟨o, e, ex.2.1⟩
    · obtain ⟨o, _, _, _, e, ex, _⟩ := I.hok p _ hk
      refine ⟨⟨o, e, ex.1⟩, fun a e2 => ?_⟩
      cases e2
      exact ⟨o, e, ex.2.1⟩
  | _ => exact False.elim ty
def tBM0 (K : PySem.W.Frag) (T : String) (r : V → List V → Hp → VK → Prop) (to : TE) : TE := fun σ H Q => to σ H fun x H1 => tyV K T x H1 ∧ r x [] H1 Q
def tBM (K : PySem.W.Frag) (T : String) (r : V → List V → Hp → VK → Prop) (to : TE) (t : TA) : TE := fun σ H Q => to σ H fun x H1 => tyV K T x H1 ∧ t σ H1 fun xs H2 => r x xs H2 Q
variable {o e : Expr} {es : List Expr} {to : TE} {t : TA} {name : Str} {apos cpos : Pos} {T id : String} {r : V → List V → Hp → VK → Prop}
theorem pe_bm0 (pa : PlainAttrs T) (slot : Slot T name id) (hty : typeOf (.builtin id) = pure (.type "method_descriptor")) (hm : MtR X id r) (ho : PE X o to)
    (hbase : attributeBase o name X.env (eval o X.env) = eval o X.env := by rfl) (hline : (apos.endLine == cpos.line) = true := by rfl) : PE X (.Call (.Attribute o name apos) [] [] cpos) (tBM0 X.K T r to) := by
  intro pins s σ H Q I h
  refine wpAny_Call_method0_late hbase hline (thn (ho pins s σ H _ I h) fun v s1 ⟨x, H1, I1, r1, ty, q1⟩ => ?_)
  obtain ⟨h1, h2⟩ := tyV_is I1 r1 ty
  exact ⟨T, id, pa, slot, hty, h1, h2, Calls.callWith_builtin rfl (PySem.evalArgs_none (hm pins s1 σ H1 x [] v [] Q I1 r1 .nil q1))⟩
theorem pe_bm (pa : PlainAttrs T) (slot : Slot T name id) (hty : typeOf (.builtin id) = pure (.type "method_descriptor")) (hm : MtR X id r) (ho : PE X o to) (ha : PA X (e :: es) t)
    (hbase : attributeBase o name X.env (eval o X.env) = eval o X.env := by rfl)
    (hfew : ((backTo cpos (starEach (e :: es) X.env)).all (fun x => !x.1) && (backToKw cpos (keywordEach [] X.env)).all (fun x => x.1.isSome)
      && decide ((e :: es).length + ([] : List Keyword).length + (if ([] : List Keyword).isEmpty then 0 else 1) < 30)) = true := by rfl)
    (hline : (apos.endLine == cpos.line) = true := by rfl) (hs : starEach (e :: es) X.env = (false, eval e X.env) :: starEach es X.env := by rfl) (hplain : (backTo cpos (starEach es X.env)).any (·.1) = false := by rfl) :
    PE X (.Call (.Attribute o name apos) (e :: es) [] cpos) (tBM X.K T r to t) := by
  intro pins s σ H Q I h
  refine wpAny_Call_method_late hbase hfew hline rfl (thn (ho pins s σ H _ I h) fun v s1 ⟨x, H1, I1, r1, ty, q1⟩ => ?_)
  obtain ⟨h1, h2⟩ := tyV_is I1 r1 ty
  refine ⟨T, id, pa, slot, hty, h1, h2, ?_⟩
  have hA := ha cpos pins s1 σ H1 _ I1 q1
  rw [hs] at hA ⊢
  refine Calls.callWith_builtin (by show (false || (backTo cpos (starEach es X.env)).any (·.1)) = false; rw [hplain] <;> rfl) (Calls.evalArgs_plain ?_)
  exact thn hA fun us s2 ⟨vs, H2, I2, r2, q2⟩ => hm pins s2 σ H2 x vs v us Q I2 r1 r2 q2
/- xs.append(e), list.index on a module's tuple .. are MtR facts of 06m -/
end
end L2

namespace L2
open PySem PySem.Spec PyProof.Rows

def MtM (X : Cx) (id : String) (r : V → List V → Hp → VK → Prop) : Prop :=
  ∀ (pins : List (Addr × Obj)) (s : Shared) (σ : St) (H : Hp) (x : V) (xs : List V) (v : Value) (us : List Value) (Q : VK), Inv X pins σ H s → RelV x v → Vals xs us → r x xs H Q →
    wpAny (model X.prog X.w) X.A (call (.builtin id) (v :: us)) (EP X pins σ Q) X.xe s

/-! ### lists of values -/
theorem Vals.one : ∀ {x : V} {us : List Value}, Vals [x] us → ∃ u, us = [u] ∧ RelV x u
  | _, _, .cons r .nil => ⟨_, rfl, r⟩
theorem Vals.two : ∀ {x y : V} {us : List Value}, Vals [x, y] us → ∃ u v, us = [u, v] ∧ RelV x u ∧ RelV y v
  | _, _, _, .cons r (.cons q .nil) => ⟨_, _, rfl, r, q⟩
theorem Vals.zero : ∀ {us : List Value}, Vals [] us → us = []
  | _, .nil => rfl
theorem Vals.dropLast {xs : List V} {us : List Value} (h : Vals xs us) : Vals xs.dropLast us.dropLast := by
  induction h with
  | nil => exact .nil
  | cons r t ih =>
    cases t with
    | nil => exact .nil
    | cons q t' => exact .cons r ih
theorem Vals.eraseIdx : ∀ {xs : List V} {us : List Value} (i : Nat), Vals xs us → Vals (xs.eraseIdx i) (us.eraseIdx i)
  | _, _, _, .nil => .nil
  | _, _, 0, .cons _ t => t
  | _, _, i + 1, .cons r t => .cons r (Vals.eraseIdx i t)
theorem Vals.reverse {xs : List V} {us : List Value} (h : Vals xs us) : Vals xs.reverse us.reverse := by
  induction h with
  | nil => exact .nil
  | cons r t ih => rw [List.reverse_cons, List.reverse_cons]; exact Vals.append ih (.cons r .nil)
theorem Vals.rep {xs : List V} {us : List Value} (h : Vals xs us) : ∀ k : Nat, Vals (List.replicate k xs).flatten (List.replicate k us).flatten
  | 0 => .nil
  | k + 1 => by
    rw [List.replicate_succ, List.replicate_succ, List.flatten_cons, List.flatten_cons]
    exact Vals.append h (Vals.rep h k)
theorem erase_last {α : Type} (l : List α) : l.eraseIdx (l.length - 1) = l.dropLast := by
  induction l with
  | nil => rfl
  | cons a r ih =>
    cases r with
    | nil => rfl
    | cons b r =>
      have e : (a :: b :: r).length - 1 = ((b :: r).length - 1) + 1 := by
        have h1 : (a :: b :: r).length = r.length + 2 := rfl
        have h2 : (b :: r).length = r.length + 1 := rfl
        omega
      rw [e, List.eraseIdx_cons_succ, ih]
      all_goals rfl
theorem len_erase {α : Type} : ∀ (l : List α) (i : Nat), (l.eraseIdx i).length ≤ l.length
  | [], _ => Nat.le_refl _
  | _ :: _, 0 => Nat.le_succ _
  | _ :: r, i + 1 => Nat.succ_le_succ (len_erase r i)
theorem foldl_rep (its : List Value) : ∀ (k : Nat) (acc : List Value),
    List.foldl (fun x1 x2 => x1 ++ x2) acc.toArray (List.replicate k its.toArray) = (acc ++ (List.replicate k its).flatten).toArray
  | 0, acc => by simp
  | k + 1, acc => by
    have e : acc.toArray ++ its.toArray = (acc ++ its).toArray := by simp
    have e2 : (acc ++ its) ++ (List.replicate k its).flatten = acc ++ (List.replicate (k + 1) its).flatten := by
      rw [List.replicate_succ, List.flatten_cons, List.append_assoc]
    rw [← e2, ← foldl_rep its k (acc ++ its), ← e, List.replicate_succ, List.foldl_cons]

section
variable {X : Cx} {pins : List (Addr × Obj)} {σ : St} {H : Hp} {s : Shared} {l b : Addr} {xs ys zs : List V}

/-! ### the two steps: a tracked list is rewritten, a new list is laid -/
theorem Inv.lset {its its' : List Value} {n : Nat} {f : Array Value → Array Value} {t' : Nat} (I : Inv X pins σ H s) (hH : H l = some (.lst xs))
    (e : s.heap.get? l = some { cls := .type "list", data := .seq its.toArray n }) (hf : f its.toArray = its'.toArray) (hv : Vals ys its') (hz : ys.length ≤ sizeLine) :
    Inv X pins σ (upd H l (.lst ys)) { s with heap := s.heap.update l (Obj.mapSeq f), toks := t' } := by
  have q := PySem.IsL.update e f
  rw [hf] at q
  refine I.write (x := l) (e := l) (by rw [hH]; exact trivial) (.inl rfl) (fun b' u hb hu => (Heap.get?_update_other s.heap (Obj.mapSeq f) (Ne.symm hb)).trans hu) ⟨_, q⟩ ?_
  exact ⟨hz, its', _, hv, q⟩
theorem Inv.lnew {its : List Value} {t' : Nat} (I : Inv X pins σ H s) (hv : Vals ys its) (hz : ys.length ≤ sizeLine) :
    Inv X pins σ (upd H s.heap.objs.size (.lst ys)) { s with heap := s.heap.push { cls := .type "list", data := .seq its.toArray }, toks := t' } :=
  I.laid (fun _ _ q => Heap.get?_push_of_some _ q) (Nat.le_refl _) ⟨hz, its, 0, hv, Heap.get?_push_size _ rfl⟩
theorem Inv.fresh (I : Inv X pins σ H s) : H s.heap.objs.size = none := I.hok.fresh (Nat.le_refl _)
theorem Inv.lstM (I : Inv X pins σ H s) (hH : H l = some (.lst xs)) : xs.length ≤ sizeLine ∧ ∃ (its : List Value) (n : Nat), Vals xs its ∧ xs.length = its.length ∧ s.heap.get? l = some { cls := .type "list", data := .seq its.toArray n } := by
  obtain ⟨z, its, n, r, e⟩ := I.hok l _ hH
  exact ⟨z, its, n, r, r.length, e⟩

theorem notLongL {n : Nat} (h : n ≤ sizeLine) : Builtin.List.listTooLong n = false := by
  unfold Builtin.List.listTooLong
  exact decide_eq_false (by omega)
end

section
variable {X : Cx}

/-! ### methods -/
def rAppend : V → List V → Hp → VK → Prop := fun x vs H Q => ∃ l xs y, x = .ref l ∧ vs = [y] ∧ H l = some (.lst xs) ∧ xs.length < sizeLine ∧ Q .non (upd H l (.lst (xs ++ [y])))
theorem mt_append : MtM X "list.append" rAppend := by
  intro pins s σ H x vs v us Q I rx rv h
  obtain ⟨l, xs, y, rfl, rfl, hH, hz, q⟩ := h
  cases rx
  obtain ⟨u, rfl, ru⟩ := rv.one
  obtain ⟨z, its, n, r, hl, e⟩ := I.lstM hH
  refine call_meets F.slot_list_append ⟨_, e, rfl⟩ F.entry_list_append (F.args_list_append_2 _ _) (PySem.list_append l its.toArray n u (by rw [List.size_toArray]; omega)) ⟨e, ?_⟩
  refine ⟨.non, _, I.lset (its' := its ++ [u]) hH e (by simp) (r.append (.cons ru .nil)) ?_, rfl, q⟩
  rw [List.length_append, List.length_singleton]
  omega

def rExtend : V → List V → Hp → VK → Prop := fun x vs H Q => ∃ l b xs zs, x = .ref l ∧ vs = [.ref b] ∧ H l = some (.lst xs) ∧ H b = some (.lst zs) ∧ xs.length + zs.length ≤ sizeLine ∧ Q .non (upd H l (.lst (xs ++ zs)))
theorem mt_extend : MtM X "list.extend" rExtend := by
  intro pins s σ H x vs v us Q I rx rv h
  obtain ⟨l, b, xs, zs, rfl, rfl, hH, hB, hz, q⟩ := h
  cases rx
  obtain ⟨u, rfl, ru⟩ := rv.one
  cases ru
  obtain ⟨z, its, n, r, hl, e⟩ := I.lstM hH
  obtain ⟨z2, its2, n2, r2, hl2, e2⟩ := I.lstM hB
  have hsz : its.toArray.size + its2.toArray.size ≤ sizeLine := by rw [List.size_toArray, List.size_toArray]; omega
  have hlong : ¬ (!its.toArray.isEmpty && Builtin.List.listTooLong (its.toArray.size + its2.toArray.size)) = true := by
    rw [notLongL hsz, Bool.and_false]
    exact Bool.false_ne_true
  refine call_meets F.slot_list_extend ⟨_, e, rfl⟩ F.entry_list_extend (F.args_list_extend_2 _ _)
    (AutoSeq1.list_extend_list_list_0 l its.toArray n b its2.toArray n2 hlong (by rw [List.size_toArray]; omega) (by omega)) ⟨e, e2, ?_⟩
  refine ⟨.non, _, I.lset (its' := its ++ its2) hH e (by simp) (r.append r2) ?_, rfl, q⟩
  rw [List.length_append]
  omega

def rPop : V → List V → Hp → VK → Prop := fun x vs H Q => ∃ l xs y, x = .ref l ∧ vs = [] ∧ H l = some (.lst xs) ∧ xs[xs.length - 1]? = some y ∧ Q y (upd H l (.lst xs.dropLast))
theorem mt_pop : MtM X "list.pop" rPop := by
  intro pins s σ H x vs v us Q I rx rv h
  obtain ⟨l, xs, y, rfl, rfl, hH, hy, q⟩ := h
  cases rx
  have hus := rv.zero
  subst hus
  obtain ⟨z, its, n, r, hl, e⟩ := I.lstM hH
  obtain ⟨u, hu, ru⟩ := r.get hy
  have hy' : its.toArray[its.toArray.size - 1]? = some u := by
    show its.toArray[its.length - 1]? = some u
    rw [← Array.getElem?_toList, ← hl]
    exact hu
  refine call_meets F.slot_list_pop ⟨_, e, rfl⟩ F.entry_list_pop (F.args_list_pop_1 _) (MeetsSeq.list_pop_last l its.toArray n u hy' (by rw [List.size_toArray]; omega)) ⟨e, ?_⟩
  refine ⟨y, _, I.lset (its' := its.dropLast) hH e ?_ r.dropLast ?_, ru, q⟩
  · show its.toArray.eraseIdxIfInBounds (its.toArray.size - 1) = its.dropLast.toArray
    rw [List.size_toArray, List.eraseIdxIfInBounds_toArray, erase_last]
  · rw [List.length_dropLast]
    omega

def rPopAt : V → List V → Hp → VK → Prop := fun x vs H Q => ∃ l xs i k y, x = .ref l ∧ vs = [.int i] ∧ H l = some (.lst xs) ∧ -(2 ^ 63) ≤ i ∧ i < 2 ^ 63 ∧ seqIndex? i xs.length = some k ∧ xs[k]? = some y ∧ Q y (upd H l (.lst (xs.eraseIdx k)))
theorem mt_popAt : MtM X "list.pop" rPopAt := by
  intro pins s σ H x vs v us Q I rx rv h
  obtain ⟨l, xs, i, k, y, rfl, rfl, hH, h1, h2, hk, hy, q⟩ := h
  cases rx
  obtain ⟨u, rfl, ru⟩ := rv.one
  obtain ⟨t, rfl⟩ := ru
  obtain ⟨z, its, n, r, hl, e⟩ := I.lstM hH
  obtain ⟨w, hw, rw'⟩ := r.get hy
  refine call_meets F.slot_list_pop ⟨_, e, rfl⟩ F.entry_list_pop (F.args_list_pop_2 _ _)
    (MeetsSeq.list_pop_at l its.toArray n i t k w (fitsIndex_both h1 h2) (by rw [List.size_toArray, ← hl]; exact hk) (by rw [← Array.getElem?_toList]; exact hw) (by rw [List.size_toArray]; omega)) ⟨e, ?_⟩
  refine ⟨y, _, I.lset (its' := its.eraseIdx k) hH e ?_ (r.eraseIdx k) ?_, rw', q⟩
  · show its.toArray.eraseIdxIfInBounds k = (its.eraseIdx k).toArray
    rw [List.eraseIdxIfInBounds_toArray]
  · have := len_erase xs k
    omega

def rReverse : V → List V → Hp → VK → Prop := fun x vs H Q => ∃ l xs, x = .ref l ∧ vs = [] ∧ H l = some (.lst xs) ∧ Q .non (upd H l (.lst xs.reverse))
theorem mt_reverse : MtM X "list.reverse" rReverse := by
  intro pins s σ H x vs v us Q I rx rv h
  obtain ⟨l, xs, rfl, rfl, hH, q⟩ := h
  cases rx
  have hus := rv.zero
  subst hus
  obtain ⟨z, its, n, r, hl, e⟩ := I.lstM hH
  refine call_meets F.slot_list_reverse ⟨_, e, rfl⟩ F.entry_list_reverse (F.args_list_reverse_1 _) (AutoSeq1.list_reverse_list_0 l its.toArray n (by rw [List.size_toArray]; omega)) ⟨e, ?_⟩
  refine ⟨.non, _, I.lset (its' := its.reverse) hH e (by simp) r.reverse ?_, rfl, q⟩
  rw [List.length_reverse]
  omega

def rClear : V → List V → Hp → VK → Prop := fun x vs H Q => ∃ l xs, x = .ref l ∧ vs = [] ∧ H l = some (.lst xs) ∧ Q .non (upd H l (.lst []))
theorem mt_clear : MtM X "list.clear" rClear := by
  intro pins s σ H x vs v us Q I rx rv h
  obtain ⟨l, xs, rfl, rfl, hH, q⟩ := h
  cases rx
  have hus := rv.zero
  subst hus
  obtain ⟨z, its, n, r, hl, e⟩ := I.lstM hH
  refine call_meets F.slot_list_clear ⟨_, e, rfl⟩ F.entry_list_clear (F.args_list_clear_1 _) (AutoSeq1.list_clear_list_0 l its.toArray n (by rw [List.size_toArray]; omega)) ⟨e, ?_⟩
  exact ⟨.non, _, I.lset (its' := []) (ys := []) hH e rfl .nil (Nat.zero_le _), rfl, q⟩

/-! ### list + list, list += list, list * int -/
def rCat : R2 := fun x y H Q => ∃ l b xs zs, x = .ref l ∧ y = .ref b ∧ H l = some (.lst xs) ∧ H b = some (.lst zs) ∧ xs.length + zs.length ≤ sizeLine ∧ ∀ p, H p = none → Q (.ref p) (upd H p (.lst (xs ++ zs)))
theorem op_cat : OpR X (binaryOp .Add) rCat := by
  intro pins s σ H x y v u Q I rx ry h
  obtain ⟨l, b, xs, zs, rfl, rfl, hH, hB, hz, q⟩ := h
  cases rx
  cases ry
  obtain ⟨z, its, n, r, hl, e⟩ := I.lstM hH
  obtain ⟨z2, its2, n2, r2, hl2, e2⟩ := I.lstM hB
  refine PySem.P.add_list e e2 ?_ (by rw [List.size_toArray, List.size_toArray]; omega)
  have ea : its.toArray ++ its2.toArray = (its ++ its2).toArray := by simp
  rw [ea]
  exact ⟨.ref _, _, I.lnew (t' := s.toks) (r.append r2) (by rw [List.length_append]; omega), rfl, q _ I.fresh⟩
/-- a list times an int (a negative one is nothing) -/
def rRep : R2 := fun x y H Q => ∃ l k xs, x = .ref l ∧ y = .int k ∧ H l = some (.lst xs) ∧ -(2 ^ 63) ≤ k ∧ k < 2 ^ 63 ∧ xs.length * k.toNat ≤ sizeLine ∧
  ∀ p, H p = none → Q (.ref p) (upd H p (.lst (List.replicate k.toNat xs).flatten))
theorem len_rep {α : Type} (xs : List α) (k : Nat) : (List.replicate k xs).flatten.length = k * xs.length := by
  induction k with
  | zero => simp
  | succ k ih => rw [List.replicate_succ, List.flatten_cons, List.length_append, ih, Nat.succ_mul, Nat.add_comm]
theorem op_rep : OpR X (binaryOp .Mult) rRep := by
  intro pins s σ H x y v u Q I rx ry h
  obtain ⟨l, k, xs, rfl, rfl, hH, h1, h2, hz, q⟩ := h
  cases rx
  obtain ⟨t, rfl⟩ := ry
  obtain ⟨z, its, n, r, hl, e⟩ := I.lstM hH
  have hlen : its.toArray.size * k.toNat ≤ sizeLine := by rw [List.size_toArray, ← hl]; exact hz
  have hcap : ¬ its.toArray.size * k.toNat > (2 ^ 63 - 1) / 8 := by
    have : (sizeLine : Nat) ≤ (2 ^ 63 - 1) / 8 := by decide
    omega
  have hfit : ¬ (!Builtin.List.listFitsIndex k) = true := by
    rw [fitsIndex_both h1 h2]
    exact Bool.false_ne_true
  have hlong : ¬ Builtin.List.listTooLong (its.toArray.size * k.toNat) = true := by
    rw [notLongL hlen]
    exact Bool.false_ne_true
  have hnew : List.foldl (fun x1 x2 => x1 ++ x2) #[] (List.replicate (if its.toArray.isEmpty = true then 0 else k.toNat) its.toArray) = (List.replicate k.toNat its).flatten.toArray := by
    have f0 : ∀ m : Nat, List.foldl (fun x1 x2 => x1 ++ x2) #[] (List.replicate m its.toArray) = (List.replicate m its).flatten.toArray := fun m => by
      have := foldl_rep its m []
      rw [List.nil_append] at this
      exact this
    rw [f0]
    cases its with
    | nil => simp
    | cons a r' => rw [if_neg (by simp)]
  refine wpAny_binaryOp_repeat_ref (T := "list") (U := "int") (by decide) ⟨_, e, rfl⟩ (fun s' => typeIs_int s' k t) noFill_list_mul F.fills_int_mul F.slot_int_rmul repeat_list F.slot_int_index.lookup
    (call_meets F.slot_int_rmul (typeIs_int s k t) F.entry_int_rmul (F.args_int_rmul_2 _ _) (int___rmul___int_list k t l its.toArray n)
      ⟨e, rfl, ⟨_, e, rfl⟩, call_meets F.slot_list_mul ⟨_, e, rfl⟩ F.entry_list_mul (F.args_list_mul_2 _ _) (AutoListH.list___mul___list_int_3 l its.toArray n k t hfit hcap hlong) ⟨e, ?_⟩⟩)
  rw [hnew]
  exact ⟨.ref _, _, I.lnew (t' := s.toks) (r.rep k.toNat) (by rw [len_rep, Nat.mul_comm]; exact hz), rfl, q _ I.fresh⟩

/-! ### del xs[i] -/
theorem del_list {pins : List (Addr × Obj)} {s : Shared} {σ : St} {H : Hp} {l : Addr} {xs : List V} {i : Int} {t : Tok} {k : Nat} {Q : Unit → Shared → Prop} (I : Inv X pins σ H s) (hH : H l = some (.lst xs))
    (h1 : -(2 ^ 63) ≤ i) (h2 : i < 2 ^ 63) (hk : seqIndex? i xs.length = some k) (h : ∀ s', Inv X pins σ (upd H l (.lst (xs.eraseIdx k))) s' → Q () s') :
    wpAny (model X.prog X.w) X.A (delItem (.ref l) (.int i t)) Q X.xe s := by
  obtain ⟨z, its, n, r, hl, e⟩ := I.lstM hH
  refine PySem.P.delItem_list (k := k) e (fitsIndex_both h1 h2) (by rw [List.size_toArray, ← hl]; exact hk) (h _ ?_) (by rw [List.size_toArray]; omega)
  refine I.lset (its' := its.eraseIdx k) (t' := s.toks) hH e ?_ (r.eraseIdx k) ?_
  · show its.toArray.eraseIdxIfInBounds k = (its.eraseIdx k).toArray
    rw [List.eraseIdxIfInBounds_toArray]
  · have := len_erase xs k
    omega
end

/-! ### xs[a:b] = ys -/
section
variable {prog : Program} {w : World} {A : Around} {E : Value → Shared → Prop} {s : Shared}
theorem splice_eq (its its2 : List Value) (a c : Nat) : its.toArray.extract 0 a ++ its2.toArray ++ its.toArray.extract c its.toArray.size = (its.take a ++ its2 ++ its.drop c).toArray := by
  apply Array.toList_inj.mp
  first
    | (simp
       exact List.take_of_length_le (by simp))
    | simp [List.take_of_length_le]
    | simp
theorem bounds_run {a c n : Nat} (hac : a ≤ c) (hc : c ≤ n) : sliceBounds (some (a : Int)) (some (c : Int)) none n = ((a : Int), (c : Int), 1) := by
  simp only [sliceBounds, Option.getD_none]
  have h1 : ¬ ((a : Int) < 0) := by omega
  have h2 : ¬ ((c : Int) < 0) := by omega
  simp only [h1, h2, if_false, show (1 : Int) > 0 by decide, if_true]
  congr 1
  · omega
  · congr 1; omega
set_option maxRecDepth 100000 in
/-- list.__setitem__ with a slice of step one and another list -/
theorem setItem_slice {l b sl : Addr} {items new : Array Value} {n n2 : Nat} {vl vu : Value} {a c : Nat} {Q : Unit → Shared → Prop}
    (e : s.heap.get? l = some { cls := .type "list", data := .seq items n }) (e2 : s.heap.get? b = some { cls := .type "list", data := .seq new n2 }) (hne : l ≠ b)
    (hs : s.heap.IsSliceOf sl vl vu .none) (pl : IsPart vl (some (a : Int))) (pu : IsPart vu (some (c : Int))) (hac : a ≤ c) (hc : c ≤ items.size)
    (hsz : items.size + new.size ≤ sizeLine) (h : Q () { s with heap := s.heap.update l (Obj.mapSeq fun xs => xs.extract 0 a ++ new ++ xs.extract c xs.size) }) :
    wpAny (model prog w) A (setItem (.ref l) (.ref sl) (.ref b)) Q E s := by
  have hl : s.heap.IsList l items := PySem.IsL.isList e
  have hb : s.heap.IsList b new := PySem.IsL.isList e2
  obtain ⟨os, hos, hcs, hds⟩ := id hs
  have hTs : s.TypeIs (.ref sl) "slice" := ⟨os, hos, hcs⟩
  have hstep : ¬ ((rawPart none == rawInt 0) = true) := Bool.false_ne_true
  have hsame : Builtin.List.listSameRef (.ref l) (.ref b) = false := by
    unfold Builtin.List.listSameRef
    exact beq_eq_false_iff_ne.mpr hne
  have hmax : (max (a : Int) (c : Int)).toNat = c := by omega
  have hz' : ((fun xs : Array Value => xs.extract 0 a ++ new ++ xs.extract c xs.size) items).size ≤ sizeLine + 1 := by
    simp only [Array.size_append, Array.size_extract]
    omega
  unfold setItem
  try with_reducible refine wpAny_holding ?_
  first | refine wpAny_bind (wpAny_pure ?_) | skip
  refine wpAny_bind (wpAny_sequenceKey hl.typeIs (by decide) ?_)
  refine wpAny_bind (wpAny_callSpecial?_slot (name := Str.ofString "__setitem__") hl.typeIs slot_list_setitem
    (wpAny_call_entry slot_list_setitem hl.typeIs entry_list_setitem ?_ (args_list_setitem _ _ _)))
  show wpAny _ _ (Builtin.List.listSubscript? (.ref sl) >>= _) _ _ s
  refine wpAny_bind ?_
  unfold Builtin.List.listSubscript?
  refine wpAny_bind (wpAny_specialOf hTs slice_no_index ?_)
  simp only [Option.isNone_none, if_true]
  refine wpAny_pure ?_
  show wpAny _ _ (typeOf (.ref sl) >>= _) _ _ s
  refine wpAny_bind (wpAny_typeOf hTs ?_)
  first
    | rw [if_neg (by decide)]
    | refine PySem.W.KFB.if_not (by decide) ?_
  rw [listSliceParts_eq]
  refine wpAny_bind (wpAny_bind (wpAny_field hos hds (x := .none) rfl (wpAny_bind (wpAny_listPart .none ?_))))
  rw [if_neg hstep]
  refine wpAny_bind (wpAny_field hos hds (x := vl) rfl (wpAny_bind (wpAny_listPart pl ?_)))
  refine wpAny_bind (wpAny_field hos hds (x := vu) rfl (wpAny_bind (wpAny_listPart pu (wpAny_pure ?_))))
  first
    | simp only [hsame, Bool.false_eq_true, if_false]
    | refine PySem.W.KFB.if_not hsame ?_
    | (dsimp only
       rw [if_neg (by rw [hsame]; exact Bool.false_ne_true)])
  refine wpAny_bind (m := Builtin.List.listAllItems (.ref b) "must assign iterable to extended slice") ?_
  unfold Builtin.List.listAllItems
  refine wpAny_bind (wpAny_typeOf hb.typeIs ?_)
  first
    | refine PySem.W.KFB.if_so (by decide) ?_
    | rw [if_pos (by decide)]
    | simp only [beq_self_eq_true, Bool.true_or, if_true]
  unfold Builtin.List.listItems
  refine wpAny_bind (wpAny_seqItems e2 rfl (wpAny_pure ?_))
  refine wpAny_bind (wpAny_bind (wpAny_seqItems e rfl (wpAny_pure ?_)))
  refine wpAny_bind (wpAny_of_eq ((sliceIndices_raw (some (a : Int)) (some (c : Int)) none items.size (by simp)).trans (congrArg (pure : Int × Int × Int → Sem (Int × Int × Int)) (bounds_run hac hc))) ?_)
  show wpAny _ _ (if ((1 : Int) == 1) = true then _ else _) _ _ s
  rw [if_pos (by decide)]
  refine wpAny_bind (wpAny_rule ?_)
  first
    | simp only [notLongL hsz, Bool.false_eq_true, if_false]
    | refine PySem.W.KFB.if_not (notLongL hsz) ?_
  first | refine wpAny_bind (wpAny_pure ?_) | skip
  show wpAny _ _ (updateSeq l (fun xs => xs.extract 0 ((a : Int)).toNat ++ new ++ xs.extract (max (a : Int) (c : Int)).toNat xs.size) >>= _) _ _ s
  rw [hmax, Int.toNat_natCast]
  refine wpAny_bind (wpAny_updateSeq (hz := Nat.le_trans (Nat.le_add_right _ _) hsz) (_hz' := hz') e rfl ?_)
  refine wpAny_bind (wpAny_letGo ?_)
  first
    | exact wpAny_bind (wpAny_pure (wpAny_pure ⟨.none, rfl, wpAny_pure h⟩))
    | exact wpAny_pure ⟨.none, rfl, wpAny_pure h⟩
end

section
variable {X : Cx}
/-- xs[a:c] = ys of another list, at the value level: sl is the slice object that was just made -/
theorem set_slice {pins : List (Addr × Obj)} {s : Shared} {σ : St} {H : Hp} {l b sl : Addr} {xs ys : List V} {a c : Int} {vl vu : Value} {Q : Unit → Shared → Prop} (I : Inv X pins σ H s)
    (hH : H l = some (.lst xs)) (hB : H b = some (.lst ys)) (hne : l ≠ b) (hs : s.heap.IsSliceOf sl vl vu .none) (ra : RelV (.int a) vl) (rc : RelV (.int c) vu) (h0 : 0 ≤ a) (hac : a ≤ c) (hc : c ≤ xs.length)
    (hz : xs.length + ys.length ≤ sizeLine) (h : ∀ s', Inv X pins σ (upd H l (.lst (xs.take a.toNat ++ ys ++ xs.drop c.toNat))) s' → Q () s') :
    wpAny (model X.prog X.w) X.A (setItem (.ref l) (.ref sl) (.ref b)) Q X.xe s := by
  obtain ⟨ta, rfl⟩ := ra
  obtain ⟨tc, rfl⟩ := rc
  obtain ⟨z, its, n, r, hl, e⟩ := I.lstM hH
  obtain ⟨z2, its2, n2, r2, hl2, e2⟩ := I.lstM hB
  obtain ⟨a', rfl⟩ := Int.eq_ofNat_of_zero_le h0
  obtain ⟨c', rfl⟩ := Int.eq_ofNat_of_zero_le (Int.le_trans h0 hac)
  simp only [Int.toNat_natCast] at h
  refine setItem_slice (a := a') (c := c') e e2 hne hs (.int _ _) (.int _ _) (by omega) (by rw [List.size_toArray]; omega) (by rw [List.size_toArray, List.size_toArray]; omega) (h _ ?_)
  refine I.lset (its' := its.take a' ++ its2 ++ its.drop c') (t' := s.toks) hH e ?_ (Vals.append (Vals.append (r.take _) r2) (r.drop _)) ?_
  · exact splice_eq its its2 a' c'
  · rw [List.length_append, List.length_append, List.length_take, List.length_drop]
    omega
end
end L2

namespace L2
open PySem PySem.Spec PyProof.Rows

theorem Vals.ints : ∀ {ns : List Int} {us : List Value}, Vals (ns.map V.int) us → IntsAre us ns
  | [], us, h => by
    rw [List.map_nil] at h
    cases h
    exact IntsAre.nil
  | n :: ns, us, h => by
    rw [List.map_cons] at h
    cases h with
    | cons r t =>
      obtain ⟨k, rfl⟩ := r
      exact IntsAre.cons n k (Vals.ints t)
theorem vals_of_ints : ∀ {us : List Value} {ns : List Int}, IntsAre us ns → Vals (ns.map V.int) us
  | _, _, .nil => by rw [List.map_nil]; exact Paired.nil
  | _, _, .cons n t h => by rw [List.map_cons]; exact Paired.cons (show RelV (V.int n) (Value.int n t) from ⟨t, rfl⟩) (vals_of_ints h)
theorem Vals.strs : ∀ {xs : List Str} {us : List Value}, Vals (xs.map V.str) us → StrsAre us xs
  | [], us, h => by
    rw [List.map_nil] at h
    cases h
    exact StrsAre.nil
  | x :: xs, us, h => by
    rw [List.map_cons] at h
    cases h with
    | cons r t =>
      obtain ⟨k, rfl⟩ := r
      exact StrsAre.cons x k (Vals.strs t)
theorem vals_of_strs : ∀ {us : List Value} {xs : List Str}, StrsAre us xs → Vals (xs.map V.str) us
  | _, _, .nil => by rw [List.map_nil]; exact Paired.nil
  | _, _, .cons x t h => by rw [List.map_cons]; exact Paired.cons (show RelV (V.str x) (Value.str x t) from ⟨t, rfl⟩) (vals_of_strs h)
theorem Vals.bls : ∀ {bs : List Bool} {us : List Value}, Vals (bs.map V.bl) us → us = bs.map Value.bool
  | [], us, h => by
    rw [List.map_nil] at h
    cases h
    rfl
  | b :: bs, us, h => by
    rw [List.map_cons] at h
    cases h with
    | cons r t =>
      cases r
      rw [Vals.bls t, List.map_cons]
theorem Vals.ref1 {a : Addr} {us : List Value} (r : Vals [V.ref a] us) : us = [Value.ref a] := by
  cases r with
  | cons r t =>
    cases t
    cases r
    rfl
theorem Vals.int2 {i j : Int} {us : List Value} (r : Vals [V.int i, V.int j] us) : ∃ t u, us = [Value.int i t, Value.int j u] := by
  cases r with
  | cons r t =>
    cases t with
    | cons r2 t2 =>
      cases t2
      obtain ⟨t, rfl⟩ := r
      obtain ⟨u, rfl⟩ := r2
      exact ⟨t, u, rfl⟩

/-! ### the library's walks over a list of ints, kept objects alone -/
section
variable {prog : Program} {w : World} {A : Around} {E : Value → Shared → Prop} {s : Shared} {l : Addr} {its : List Value} {ns : List Int} {Q : Value → Shared → Prop}
theorem sum_raw (hh : A.handled = none) (hl : s.heap.IsList l its.toArray) (hi : IntsAre its ns)
    (h : ∀ h' tk t', (∀ b o, s.heap.get? b = some o → h'.get? b = some o) → Q (.int ns.sum t') { s with heap := h', toks := tk }) : wpAny (model prog w) A (call (.builtin "sum") [.ref l]) Q E s := by
  obtain ⟨xs, e⟩ := hi.allInts.items
  have hn : numsOf (intItems xs).toList = ns := by rw [← e]; exact hi.numsOf
  rw [nums_intItems] at hn
  rw [e] at hl
  refine PySem.sum_intListG hh hl fun h' tk t' hk => ?_
  have := h h' tk t' hk
  rw [preSum_eq, List.take_of_length_le (by simp), hn]; exact this
theorem max_raw (hh : A.handled = none) (hl : s.heap.IsList l its.toArray) (hi : IntsAre its ns) (hne : 0 < ns.length)
    (h : ∀ h' tk M t', (∀ b o, s.heap.get? b = some o → h'.get? b = some o) → M ∈ ns → (∀ a, a ∈ ns → a ≤ M) → Q (.int M t') { s with heap := h', toks := tk }) : wpAny (model prog w) A (call (.builtin "max") [.ref l]) Q E s := by
  obtain ⟨xs, e⟩ := hi.allInts.items
  have hn : numsOf (intItems xs).toList = ns := by rw [← e]; exact hi.numsOf
  rw [nums_intItems] at hn
  subst hn
  rw [e] at hl
  have hsz : 0 < xs.size := by simpa using hne
  refine PySem.max_intList hh hl hsz fun v h' tk hv hk => ?_
  obtain ⟨t, rfl⟩ := intItems_at hv
  obtain ⟨h1, h2⟩ := argBest_gt (numAt xs) (xs.size - 1)
  refine h h' tk _ t hk ?_ fun a ha => ?_
  · rw [numAt_eq]; exact PySem.getD_mem (by rw [List.length_map, Array.length_toList]; omega)
  · obtain ⟨j, hj, rfl⟩ := mem_getD ha
    rw [List.length_map, Array.length_toList] at hj
    rw [← numAt_eq]; exact h2 j (by omega)
theorem min_raw (hh : A.handled = none) (hl : s.heap.IsList l its.toArray) (hi : IntsAre its ns) (hne : 0 < ns.length)
    (h : ∀ h' tk M t', (∀ b o, s.heap.get? b = some o → h'.get? b = some o) → M ∈ ns → (∀ a, a ∈ ns → M ≤ a) → Q (.int M t') { s with heap := h', toks := tk }) : wpAny (model prog w) A (call (.builtin "min") [.ref l]) Q E s := by
  obtain ⟨xs, e⟩ := hi.allInts.items
  have hn : numsOf (intItems xs).toList = ns := by rw [← e]; exact hi.numsOf
  rw [nums_intItems] at hn
  subst hn
  rw [e] at hl
  have hsz : 0 < xs.size := by simpa using hne
  refine PySem.min_intList hh hl hsz fun v h' tk hv hk => ?_
  obtain ⟨t, rfl⟩ := intItems_at hv
  obtain ⟨h1, h2⟩ := argBest_lt (numAt xs) (xs.size - 1)
  refine h h' tk _ t hk ?_ fun a ha => ?_
  · rw [numAt_eq]; exact PySem.getD_mem (by rw [List.length_map, Array.length_toList]; omega)
  · obtain ⟨j, hj, rfl⟩ := mem_getD ha
    rw [List.length_map, Array.length_toList] at hj
    rw [← numAt_eq]; exact h2 j (by omega)
end

/-! ### the calls, by values (CallR of 03t; MtR of 06l) -/
section
variable {X : Cx}
/-- sum(xs) of a list of ints -/
def rSum (K : PySem.W.Frag) : List V → Hp → VK → Prop := fun vs H Q => ∃ (a : Addr) (ns : List Int), vs = [V.ref a] ∧ SqL K H a (ns.map V.int) ∧ Q (.int ns.sum) H
/-- max(xs), min(xs) of a list of ints -/
def rMax (K : PySem.W.Frag) : List V → Hp → VK → Prop := fun vs H Q => ∃ (a : Addr) (ns : List Int), vs = [V.ref a] ∧ SqL K H a (ns.map V.int) ∧ 0 < ns.length ∧ ∀ m, m ∈ ns → (∀ y, y ∈ ns → y ≤ m) → Q (.int m) H
def rMin (K : PySem.W.Frag) : List V → Hp → VK → Prop := fun vs H Q => ∃ (a : Addr) (ns : List Int), vs = [V.ref a] ∧ SqL K H a (ns.map V.int) ∧ 0 < ns.length ∧ ∀ m, m ∈ ns → (∀ y, y ∈ ns → m ≤ y) → Q (.int m) H
theorem cr_sum (hc : X.calm = true) : CallR X (.builtin "sum") (rSum X.K) := by
  intro pins s σ H vs us Q I r h
  obtain ⟨a, ns, rfl, hs, q⟩ := h
  obtain ⟨its, rv, hl, _⟩ := I.list hs
  rw [Vals.ref1 r]
  exact sum_raw (I.ok.hd hc) hl.isList rv.ints fun h' tk t' hk => ⟨.int _, H, I.kept hk, ⟨_, rfl⟩, q⟩
theorem cr_max (hc : X.calm = true) : CallR X (.builtin "max") (rMax X.K) := by
  intro pins s σ H vs us Q I r h
  obtain ⟨a, ns, rfl, hs, hne, q⟩ := h
  obtain ⟨its, rv, hl, _⟩ := I.list hs
  rw [Vals.ref1 r]
  exact max_raw (I.ok.hd hc) hl.isList rv.ints hne fun h' tk m t' hk h1 h2 => ⟨.int _, H, I.kept hk, ⟨_, rfl⟩, q m h1 h2⟩
theorem cr_min (hc : X.calm = true) : CallR X (.builtin "min") (rMin X.K) := by
  intro pins s σ H vs us Q I r h
  obtain ⟨a, ns, rfl, hs, hne, q⟩ := h
  obtain ⟨its, rv, hl, _⟩ := I.list hs
  rw [Vals.ref1 r]
  exact min_raw (I.ok.hd hc) hl.isList rv.ints hne fun h' tk m t' hk h1 h2 => ⟨.int _, H, I.kept hk, ⟨_, rfl⟩, q m h1 h2⟩

/-! sorted, sort (fewer than 64 items: the library's own bound) -/
def rSorted (K : PySem.W.Frag) : List V → Hp → VK → Prop := fun vs H Q => ∃ (a : Addr) (ns : List Int), vs = [V.ref a] ∧ SqL K H a (ns.map V.int) ∧ ns.length < 64 ∧
  ∀ (ns' : List Int) (p : Addr), ns'.Perm ns → ns'.Pairwise (· ≤ ·) → H p = none → Q (.ref p) (upd H p (.lst (ns'.map V.int)))
def rSortedS (K : PySem.W.Frag) : List V → Hp → VK → Prop := fun vs H Q => ∃ (a : Addr) (xs : List Str), vs = [V.ref a] ∧ SqL K H a (xs.map V.str) ∧ xs.length < 64 ∧
  ∀ (ys : List Str) (p : Addr), ys.Perm xs → sortedS ys = true → H p = none → Q (.ref p) (upd H p (.lst (ys.map V.str)))
theorem small64 {n : Nat} (h : n < 64) : n ≤ sizeLine := by rw [sizeLine_eq]; omega
theorem cr_sorted : CallR X (.builtin "sorted") (rSorted X.K) := by
  intro pins s σ H vs us Q I r h
  obtain ⟨a, ns, rfl, hs, h64, q⟩ := h
  obtain ⟨its, rv, hl, _⟩ := I.list hs
  rw [Vals.ref1 r]
  have hi := rv.ints
  refine PyProof.Rows.sorted_ints hl.isList hi (by rw [hi.length]; exact h64) fun out ns' h1 h2 h3 => ?_
  obtain ⟨ep, he'⟩ := PyProof.Rows.sortedAll_at s.heap its out
  have hlen : (ns'.map V.int).length ≤ sizeLine := by rw [List.length_map, h2.length_eq]; exact small64 h64
  exact ⟨.ref _, upd H (s.heap.objs.size + 1) (.lst (ns'.map V.int)), I.laid (t' := s.toks) (fun _ _ => PyProof.Rows.sortedAll_old) (Nat.le_succ _) ⟨hlen, out.toList, ep, vals_of_ints h1, he'⟩, rfl, q ns' _ h2 h3 (I.hok.fresh (Nat.le_succ _))⟩
theorem cr_sortedS : CallR X (.builtin "sorted") (rSortedS X.K) := by
  intro pins s σ H vs us Q I r h
  obtain ⟨a, xs, rfl, hs, h64, q⟩ := h
  obtain ⟨its, rv, hl, _⟩ := I.list hs
  rw [Vals.ref1 r]
  have hlen0 := rv.length
  rw [List.length_map] at hlen0
  refine PyProof.Rows.sorted_strs hl.isList rv.strs (by rw [← hlen0]; exact h64) fun out ys h1 h2 h3 => ?_
  obtain ⟨ep, he'⟩ := PyProof.Rows.sortedAll_at s.heap its out
  have hlen : (ys.map V.str).length ≤ sizeLine := by rw [List.length_map, h2.length_eq]; exact small64 h64
  exact ⟨.ref _, upd H (s.heap.objs.size + 1) (.lst (ys.map V.str)), I.laid (t' := s.toks) (fun _ _ => PyProof.Rows.sortedAll_old) (Nat.le_succ _) ⟨hlen, out.toList, ep, vals_of_strs h1, he'⟩, rfl, q ys _ h2 h3 (I.hok.fresh (Nat.le_succ _))⟩
/-- xs.sort(), ints -/
def rSort : V → List V → Hp → VK → Prop := fun x xs H Q => ∃ (a : Addr) (ns : List Int), x = V.ref a ∧ xs = [] ∧ H a = some (.lst (ns.map V.int)) ∧ ns.length < 64 ∧
  ∀ ns' : List Int, ns'.Perm ns → ns'.Pairwise (· ≤ ·) → Q .non (upd H a (.lst (ns'.map V.int)))
theorem mt_sort : MtR X "list.sort" rSort := by
  intro pins s σ H x xs v us Q I rx rxs h
  obtain ⟨a, ns, rfl, rfl, ha, h64, q⟩ := h
  cases rx
  cases rxs
  obtain ⟨hz, its, n, rv, hob⟩ := I.hok a _ ha
  have hi := rv.ints
  refine wpAny_call_entry PyProof.Rows.slot_list_sort ⟨_, hob, rfl⟩ PyProof.Rows.entry_list_sort
    (PyProof.Rows.list_sort_tree hob hi (by rw [hi.length]; exact h64) fun out ns' h1 h2 h3 => ⟨.none, rfl, ?_⟩) (PyProof.Rows.args_list_sort _)
  obtain ⟨ep, he'⟩ := PyProof.Rows.sortedHeap_at (vs := its) (out := out) hob
  have hlen : (ns'.map V.int).length ≤ sizeLine := by rw [List.length_map, h2.length_eq]; exact small64 h64
  refine ⟨.non, upd H a (.lst (ns'.map V.int)), I.write (e := a) (t' := s.toks) (by rw [ha]; trivial) (.inl rfl) (fun b u hb hu => ?_) ⟨_, he'⟩ ⟨hlen, out.toList, ep, vals_of_ints h1, he'⟩, rfl, q ns' h2 h3⟩
  rw [PyProof.Rows.sortedHeap_old hb (Heap.lt_size hu)]; exact hu
end

/-! ### list.index, flat items -/
section
variable {X : Cx}
def rIndex (K : PySem.W.Frag) : V → List V → Hp → VK → Prop := fun x xs H Q => ∃ (a : Addr) (ys : List V) (y : V) (j : Nat) (z : V), x = V.ref a ∧ xs = [y] ∧ SqL K H a ys ∧ flatV y = true ∧ ys.all flatV = true ∧ ys[j]? = some z ∧ eqV z y = true ∧
  (∀ (m : Nat) (z' : V), m < j → ys[m]? = some z' → eqV z' y = false) ∧ Q (.int (j : Nat)) H
theorem flat_at {ys : List V} (f : ys.all flatV = true) {j : Nat} {z : V} (h : ys[j]? = some z) : flatV z = true := List.all_eq_true.mp f z (List.mem_of_getElem? h)
theorem mt_index : MtR X "list.index" (rIndex X.K) := by
  intro pins s σ H x xs v us Q I rx rxs h
  obtain ⟨a, ys, y, j, z, rfl, rfl, hs, fy, fys, hz, hzj, hno, q⟩ := h
  cases rx
  cases rxs with
  | cons ry rt =>
    rename_i uy ut
    cases rt
    obtain ⟨its, rv, ⟨⟨cls, dd, data, sl⟩, n, ho, hc, hdn, hd⟩, hlen⟩ := I.list hs
    simp only at hc hd
    subst hc hd
    obtain ⟨u, hu, ru⟩ := rv.get hz
    obtain ⟨hjl, hje⟩ := List.getElem?_eq_some_iff.mp hu
    have hvl := rv.length
    have hj : j < its.toArray.size := by simpa using hjl
    have hsl := sizeLine_eq
    refine call_meets PySem.F.slot_list_index ⟨_, ho, rfl⟩ PySem.F.entry_list_index (PySem.F.args_list_index_2 _ _)
      (SeqAt.list_indexAt a its.toArray n dd sl uy (eqU y) j hj (by omega) ?_ ?_) ⟨ho, fun u' hu' => mem_eqAt ry fy rv fys u' (by simpa using hu'), ?_⟩
    · have e1 : its.toArray[j] = u := by simpa using hje
      rw [e1, eqU_of ru (flat_at fys hz)]
      exact hzj
    · intro m hm hmj
      have hml : m < its.length := by simpa using hm
      have hmy : m < ys.length := by omega
      have hy' : ys[m]? = some ys[m] := List.getElem?_eq_getElem hmy
      obtain ⟨u2, hu2, ru2⟩ := rv.get hy'
      obtain ⟨_, hme⟩ := List.getElem?_eq_some_iff.mp hu2
      have e1 : its.toArray[m] = u2 := by simpa using hme
      rw [e1, eqU_of ru2 (flat_at fys hy')]
      exact hno m _ hmj hy'
    · exact ⟨.int (j : Nat), H, I.tok _, ⟨_, rfl⟩, q⟩
end

/-! ### any(xs), all(xs) of a list of bools -/
theorem iter_any {prog : Program} {w : World} {A : Around} {E : Value → Shared → Prop} {s : Shared} {l : Addr} {items : Array Value} {Q : Value → Shared → Prop} (hl : s.heap.IsList l items)
    (h : ∀ s₂ : Shared, s₂ = { s with heap := s.heap.push { cls := .type "list_iterator", data := .fields #[.ref l, .int 0 0] } } →
      (s₂.heap.IsListIter s.heap.objs.size l 0 ∧ s₂.heap.IsList l items) → l ≠ s.heap.objs.size → Q (.ref s.heap.objs.size) s₂) : wpAny (model prog w) A (pyIter (.ref l)) Q E s := by
  have hlt : l < s.heap.objs.size := by obtain ⟨_, e, _⟩ := hl; exact Heap.lt_size e
  exact wpAny_pyIter_list hl (h _ rfl ⟨⟨_, Heap.get?_push_size _ rfl, rfl, rfl⟩, hl.push _⟩ (Nat.ne_of_lt hlt))
theorem truth_bools {prog : Program} {w : World} {A : Around} {bs : List Bool} {its : List Value} (e : its = bs.map Value.bool) :
    TruthOf prog w A (fun i v => its.toArray[i]? = some v) (fun i => bs.getD i false) := fun i v s Q E hv hq => by
  have hv' : its[i]? = some v := by simpa using hv
  rw [e, List.getElem?_map] at hv'
  obtain ⟨b, hb, rfl⟩ := Option.map_eq_some_iff.mp hv'
  have hg : bs.getD i false = b := by rw [List.getD_eq_getElem?_getD, hb] <;> rfl
  have hq' : Q (bs.getD i false) s := hq
  rw [hg] at hq'
  exact wpAny_truthy_bool hq'
theorem any_range : ∀ bs : List Bool, (List.range bs.length).any (fun i => bs.getD i false) = bs.any id
  | [] => rfl
  | b :: bs => by
    rw [List.length_cons, List.range_succ_eq_map, List.any_cons, List.any_map, List.any_cons, ← any_range bs]
    all_goals rfl
theorem all_range : ∀ bs : List Bool, (List.range bs.length).all (fun i => bs.getD i false) = bs.all id
  | [] => rfl
  | b :: bs => by
    rw [List.length_cons, List.range_succ_eq_map, List.all_cons, List.all_map, List.all_cons, ← all_range bs]
    all_goals rfl
section
variable {X : Cx}
def rAny (K : PySem.W.Frag) : List V → Hp → VK → Prop := fun vs H Q => ∃ (a : Addr) (bs : List Bool), vs = [V.ref a] ∧ SqL K H a (bs.map V.bl) ∧ Q (.bl (bs.any id)) H
def rAll (K : PySem.W.Frag) : List V → Hp → VK → Prop := fun vs H Q => ∃ (a : Addr) (bs : List Bool), vs = [V.ref a] ∧ SqL K H a (bs.map V.bl) ∧ Q (.bl (bs.all id)) H
theorem cr_any (hc : X.calm = true) : CallR X (.builtin "any") (rAny X.K) := by
  intro pins s σ H vs us Q I r h
  obtain ⟨a, bs, rfl, hs, q⟩ := h
  obtain ⟨its, rv, hl, _⟩ := I.list hs
  rw [Vals.ref1 r]
  have hb := rv.bls
  refine call_any_walk (iter_any hl.isList fun s₂ e2 st hne => ?_)
  subst e2
  refine ⟨_, _, _, _, _, _, _, rfl, Walks.list (A := X.A.in1) (I.ok.hd hc) _ a hne its.toArray, st, truth_bools hb, fun h' tk hk => ?_⟩
  refine ⟨.bl _, H, I.kept fun b o eo => hk b o (fun hmem => ?_) (Heap.get?_push_of_some _ eo), ?_, q⟩
  · rcases List.mem_cons.mp hmem with e1 | hmem
    · exact absurd (e1 ▸ Heap.lt_size eo) (Nat.lt_irrefl _)
    · cases hmem
  · show Value.bool _ = Value.bool _
    rw [← any_range, hb, List.size_toArray, List.length_map]
theorem cr_all (hc : X.calm = true) : CallR X (.builtin "all") (rAll X.K) := by
  intro pins s σ H vs us Q I r h
  obtain ⟨a, bs, rfl, hs, q⟩ := h
  obtain ⟨its, rv, hl, _⟩ := I.list hs
  rw [Vals.ref1 r]
  have hb := rv.bls
  refine call_all_walk (iter_any hl.isList fun s₂ e2 st hne => ?_)
  subst e2
  refine ⟨_, _, _, _, _, _, _, rfl, Walks.list (A := X.A.in1) (I.ok.hd hc) _ a hne its.toArray, st, truth_bools hb, fun h' tk hk => ?_⟩
  refine ⟨.bl _, H, I.kept fun b o eo => hk b o (fun hmem => ?_) (Heap.get?_push_of_some _ eo), ?_, q⟩
  · rcases List.mem_cons.mp hmem with e1 | hmem
    · exact absurd (e1 ▸ Heap.lt_size eo) (Nat.lt_irrefl _)
    · cases hmem
  · show Value.bool _ = Value.bool _
    rw [← all_range, hb, List.size_toArray, List.length_map]
end

end L2

namespace L2
open PySem PySem.Spec PyProof.Rows
abbrev CellAt (h : Heap) (c : Addr) (v : Option Value) : Prop := h.IsCell c v
def relS (scope sc : Scope) : Scope :=
  { scope with names := scope.names.map fun (n, k) => if (k == .free && sc.kind == .function && sc.names.lookup n == some .cell) then (n, .cell) else (n, k) }

def cloFrom (cells : List (Str × Addr)) : List (Str × NameKind) → List (Str × Addr) → List (Str × Addr)
  | [], acc => acc
  | (n, k) :: r, acc => if k == .free then cloFrom cells r ((n, (cells.lookup n).getD 0) :: acc) else cloFrom cells r acc

theorem closure_loop (env : Env) (f : Str × NameKind → List (Str × Addr) → Sem (ForInStep (List (Str × Addr))))
    (hf : ∀ n k c, f (n, k) c = if k == .free then (do let a ← cellOf env n; pure (.yield ((n, a) :: c))) else pure (.yield c)) :
    ∀ (names : List (Str × NameKind)) (acc : List (Str × Addr)), (∀ y ∈ names, y.2 = .free → ∃ c, env.cells.lookup y.1 = some c) → forIn names acc f = pure (cloFrom env.cells names acc)
  | [], acc, _ => by rw [List.forIn_nil]; rfl
  | (n, k) :: r, acc, h => by
    rw [List.forIn_cons, hf]
    have ih := fun acc => closure_loop env f hf r acc fun y hy => h y (List.mem_cons_of_mem _ hy)
    unfold cloFrom
    by_cases hk : (k == NameKind.free) = true
    · rw [if_pos hk, if_pos hk]
      obtain ⟨c, hc⟩ := h (n, k) List.mem_cons_self (by simpa using hk)
      have e : cellOf env n = pure c := by unfold cellOf; rw [hc]
      rw [e]
      have e2 : (env.cells.lookup n).getD 0 = c := by rw [hc]; rfl
      rw [e2]
      exact ih _
    · rw [if_neg hk, if_neg hk]
      exact ih _
theorem closure_ok {scope : Scope} {env : Env} (h : ∀ y ∈ scope.names, y.2 = .free → ∃ c, env.cells.lookup y.1 = some c) : closureFor scope env = pure (cloFrom env.cells scope.names []) := by
  simp only [closureFor]
  rw [closure_loop env _ (fun n k c => rfl) scope.names [] h]
  rfl

theorem mem_lookup {α : Type} : ∀ {l : List (Str × α)} {n : Str} {c : α}, (n, c) ∈ l → ∃ c', l.lookup n = some c'
  | (k, v) :: r, n, c, h => by
    rw [List.lookup_cons]
    cases hb : n == k with
    | true => exact ⟨_, rfl⟩
    | false =>
      rcases List.mem_cons.mp h with e | h
      · cases e; simp at hb
      · exact mem_lookup h

theorem cloFrom_mem {cells : List (Str × Addr)} : ∀ {names : List (Str × NameKind)} {acc : List (Str × Addr)} {n : Str} {c : Addr}, (n, c) ∈ cloFrom cells names acc → (n, c) ∈ acc ∨ ((n, .free) ∈ names ∧ c = (cells.lookup n).getD 0)
  | [], _, _, _, h => .inl h
  | (m, k) :: r, acc, n, c, h => by
    unfold cloFrom at h
    split at h
    · rename_i hk
      have hk : k = .free := by simpa using hk
      rcases cloFrom_mem h with h | ⟨h1, h2⟩
      · rcases List.mem_cons.mp h with e | h
        · cases e; exact .inr ⟨hk ▸ List.mem_cons_self, rfl⟩
        · exact .inl h
      · exact .inr ⟨List.mem_cons_of_mem _ h1, h2⟩
    · rcases cloFrom_mem h with h | ⟨h1, h2⟩
      · exact .inl h
      · exact .inr ⟨List.mem_cons_of_mem _ h1, h2⟩
theorem cloFrom_acc {cells : List (Str × Addr)} : ∀ {names : List (Str × NameKind)} {acc : List (Str × Addr)} {p : Str × Addr}, p ∈ acc → p ∈ cloFrom cells names acc
  | [], _, _, h => h
  | (m, k) :: r, acc, p, h => by
    unfold cloFrom
    split
    · exact cloFrom_acc (List.mem_cons_of_mem _ h)
    · exact cloFrom_acc h
theorem cloFrom_has {cells : List (Str × Addr)} : ∀ {names : List (Str × NameKind)} {acc : List (Str × Addr)} {n : Str}, (n, .free) ∈ names → (n, (cells.lookup n).getD 0) ∈ cloFrom cells names acc
  | (m, k) :: r, acc, n, h => by
    unfold cloFrom
    rcases List.mem_cons.mp h with e | h
    · cases e
      exact cloFrom_acc List.mem_cons_self
    · split
      · exact cloFrom_has h
      · exact cloFrom_has h

theorem cells_mem : ∀ {names : List (Str × NameKind)} {h : Heap} {acc : List (Str × Addr)} {x : Str} {c : Addr}, (x, c) ∈ cellsFrom h.objs.size names acc →
    (x, c) ∈ acc ∨ ((x, .cell) ∈ names ∧ h.objs.size ≤ c ∧ CellAt (pushCells h names) c none)
  | [], _, _, _, _, h => .inl h
  | (n, k) :: r, h, acc, x, c, hm => by
    unfold cellsFrom at hm
    unfold pushCells
    split at hm
    · rename_i hk
      rw [if_pos hk]
      have hk : k = .cell := by simpa using hk
      rw [← Heap.size_push h { cls := .type "cell", data := .cell none }] at hm
      rcases cells_mem hm with hm | ⟨h1, h2, h3⟩
      · rcases List.mem_cons.mp hm with e | hm
        · cases e
          exact .inr ⟨hk ▸ List.mem_cons_self, Nat.le_refl _, _, pushCells_keeps r _ _ _ (Heap.get?_push_size _ rfl), rfl⟩
        · exact .inl hm
      · rw [Heap.size_push] at h2
        exact .inr ⟨List.mem_cons_of_mem _ h1, Nat.le_of_succ_le h2, h3⟩
    · rename_i hk
      rw [if_neg hk]
      rcases cells_mem hm with hm | ⟨h1, h2, h3⟩
      · exact .inl hm
      · exact .inr ⟨List.mem_cons_of_mem _ h1, h2, h3⟩
theorem cells_acc : ∀ {names : List (Str × NameKind)} {n : Nat} {acc : List (Str × Addr)} {p : Str × Addr}, p ∈ acc → p ∈ cellsFrom n names acc
  | [], _, _, _, h => h
  | (m, k) :: r, n, acc, p, h => by
    unfold cellsFrom
    split
    · exact cells_acc (List.mem_cons_of_mem _ h)
    · exact cells_acc h
theorem cells_has : ∀ {names : List (Str × NameKind)} {n : Nat} {acc : List (Str × Addr)} {x : Str}, (x, .cell) ∈ names → ∃ c, (x, c) ∈ cellsFrom n names acc
  | (m, k) :: r, n, acc, x, h => by
    unfold cellsFrom
    rcases List.mem_cons.mp h with e | h
    · cases e
      exact ⟨n, cells_acc List.mem_cons_self⟩
    · split
      · exact cells_has h
      · exact cells_has h
theorem cells_inj : ∀ {names : List (Str × NameKind)} {h : Heap} {acc : List (Str × Addr)} {x y : Str} {c : Addr}, (∀ p ∈ acc, p.2 < h.objs.size) → (∀ x y c, (x, c) ∈ acc → (y, c) ∈ acc → x = y) →
    (x, c) ∈ cellsFrom h.objs.size names acc → (y, c) ∈ cellsFrom h.objs.size names acc → x = y
  | [], _, _, _, _, _, _, hi, h1, h2 => hi _ _ _ h1 h2
  | (n, k) :: r, h, acc, x, y, c, hl, hi, h1, h2 => by
    unfold cellsFrom at h1 h2
    split at h1
    · rename_i hk
      rw [if_pos hk] at h2
      rw [← Heap.size_push h { cls := .type "cell", data := .cell none }] at h1 h2
      refine cells_inj (h := h.push _) (fun p hp => ?_) (fun x y c a b => ?_) h1 h2
      · rw [Heap.size_push]
        rcases List.mem_cons.mp hp with rfl | hp
        · exact Nat.lt_succ_self _
        · exact Nat.lt_succ_of_lt (hl p hp)
      · rcases List.mem_cons.mp a with e | a <;> rcases List.mem_cons.mp b with e' | b
        · cases e; cases e'; rfl
        · cases e; exact absurd (hl _ b) (Nat.lt_irrefl _)
        · cases e'; exact absurd (hl _ a) (Nat.lt_irrefl _)
        · exact hi _ _ _ a b
    · rename_i hk
      rw [if_neg hk] at h2
      exact cells_inj hl hi h1 h2

theorem newEnv_comp {M : Model} {A : Around} {E : Value → Shared → Prop} {s : Shared} {scope : Scope} {globals : Addr} {closure : List (Str × Addr)} {qual : Str} {func : Option Addr} {code : Value} {around : Env} {builtins : Addr} {Q : Env → Shared → Prop}
    (h : Q (newEnv scope s.heap.objs.size globals (cellsFrom (s.heap.objs.size + 1) scope.names closure) qual func code (some around) builtins)
      { s with heap := pushCells (s.heap.push { cls := .type "dict", data := .dict #[] }) scope.names }) :
    wpAny M A (newFunctionEnv scope globals closure [] qual func code (some around) builtins) Q E s := by
  simp only [newFunctionEnv, Option.isSome_some, if_true]
  refine wpAny_bind (wpAny_alloc ?_)
  refine wpAny_bind (wpAny_layCells _ (fun n k c => rfl) scope.names closure _ _ ?_)
  rw [show ({ s with heap := s.heap.push { cls := .type "dict", data := .dict #[] } } : Shared).heap.objs.size = s.heap.objs.size + 1 from Heap.size_push ..]
  rw [List.forIn_nil]
  exact wpAny_bind (wpAny_pure (wpAny_pure h))

/-- every name of the written scope, in the scope that runs -/
theorem lookup_relS {sc : Scope} : ∀ {names : List (Str × NameKind)} {x : Str} {k : NameKind},
    (names.map fun (n, k) => if (k == NameKind.free && sc.kind == .function && sc.names.lookup n == some .cell) then (n, NameKind.cell) else (n, k)).lookup x = some k →
    ∃ k', names.lookup x = some k' ∧ (k = k' ∨ (k' = .free ∧ k = .cell))
  | [], _, _, h => by simp at h
  | (n, k₀) :: r, x, k, h => by
    have ih := @lookup_relS sc r x k
    have h' : List.lookup x ((if (k₀ == NameKind.free && sc.kind == .function && sc.names.lookup n == some .cell) = true then (n, NameKind.cell) else (n, k₀)) :: (r.map _)) = some k := h
    cases hx : x == n with
    | true =>
      simp only [List.lookup_cons, hx]
      by_cases hc : (k₀ == NameKind.free && sc.kind == .function && sc.names.lookup n == some .cell) = true
      · rw [if_pos hc] at h'
        simp only [List.lookup_cons, hx] at h'
        cases h'
        simp only [Bool.and_eq_true, beq_iff_eq] at hc
        exact ⟨k₀, rfl, .inr ⟨hc.1.1, rfl⟩⟩
      · rw [if_neg hc] at h'
        simp only [List.lookup_cons, hx] at h'
        cases h'
        exact ⟨_, rfl, .inl rfl⟩
    | false =>
      simp only [List.lookup_cons, hx]
      by_cases hc : (k₀ == NameKind.free && sc.kind == .function && sc.names.lookup n == some .cell) = true
      · rw [if_pos hc] at h'
        simp only [List.lookup_cons, hx] at h'
        exact ih h'
      · rw [if_neg hc] at h'
        simp only [List.lookup_cons, hx] at h'
        exact ih h'
theorem lookup_relS_keep {sc : Scope} : ∀ {names : List (Str × NameKind)} {x : Str} {k : NameKind}, k ≠ .free → names.lookup x = some k →
    (names.map fun (n, k) => if (k == NameKind.free && sc.kind == .function && sc.names.lookup n == some .cell) then (n, NameKind.cell) else (n, k)).lookup x = some k
  | [], _, _, _, h => by simp at h
  | (n, k₀) :: r, x, k, hk, h => by
    have ih := @lookup_relS_keep sc r x k hk
    show List.lookup x ((if (k₀ == NameKind.free && sc.kind == .function && sc.names.lookup n == some .cell) = true then (n, NameKind.cell) else (n, k₀)) :: (r.map _)) = some k
    cases hx : x == n with
    | true =>
      simp only [List.lookup_cons, hx] at h
      cases h
      have : ¬ (k₀ == NameKind.free && sc.kind == .function && sc.names.lookup n == some .cell) = true := by simp [hk]
      rw [if_neg this]
      simp only [List.lookup_cons, hx]
    | false =>
      simp only [List.lookup_cons, hx] at h
      by_cases hc : (k₀ == NameKind.free && sc.kind == .function && sc.names.lookup n == some .cell) = true
      · rw [if_pos hc]; simp only [List.lookup_cons, hx]; exact ih h
      · rw [if_neg hc]; simp only [List.lookup_cons, hx]; exact ih h

theorem pushCells_size : ∀ (names : List (Str × NameKind)) (h : Heap), h.objs.size ≤ (pushCells h names).objs.size
  | [], _ => Nat.le_refl _
  | (_, k) :: r, h => by
    unfold pushCells
    split
    · refine Nat.le_trans ?_ (pushCells_size r _)
      rw [Heap.size_push]; exact Nat.le_succ _
    · exact pushCells_size r h


/-- the names of a comprehension's block: its own (with their places in N), or captured -/
structure BlkOk (N : List Str) (sc scope : Scope) (own : List (Str × Nat)) : Prop where
  kind : scope.kind = .function
  uniq : ∀ y ∈ scope.names, scope.names.lookup y.1 = some y.2
  ix : ∀ p ∈ own, N[p.2]? = some p.1
  free : ∀ y ∈ scope.names, y.2 = .free → sc.names.lookup y.1 = some .cell ∨ sc.names.lookup y.1 = some .free
  own : ∀ y ∈ scope.names, y.2 = .local ∨ y.2 = .cell → y.1 ∈ own.map (·.1) ∨ y.1 ∉ N
/-- the slots of the block's own names forgotten -/
def wipe (σ : St) : List Nat → St
  | [] => σ
  | v :: vs => (wipe σ vs).set v none
theorem wipe_length (σ : St) : ∀ vs : List Nat, (wipe σ vs).length = σ.length
  | [] => rfl
  | v :: vs => by unfold wipe; rw [List.length_set, wipe_length σ vs]
theorem wipe_some {σ : St} {i : Nat} {x : V} : ∀ {vs : List Nat}, (wipe σ vs)[i]? = some (some x) → σ[i]? = some (some x) ∧ i ∉ vs
  | [], h => ⟨h, by simp⟩
  | v :: vs, h => by
    unfold wipe at h
    by_cases hi : v = i
    · subst hi
      by_cases hv : v < (wipe σ vs).length
      · rw [List.getElem?_set_self hv] at h; cases h
      · rw [List.getElem?_eq_none (by simpa using hv)] at h; cases h
    · rw [List.getElem?_set_ne hi] at h
      obtain ⟨h1, h2⟩ := wipe_some h
      exact ⟨h1, by simp only [List.mem_cons, not_or]; exact ⟨fun e => hi e.symm, h2⟩⟩

/-- the context of a block that starts at s, its iterator's objects at fp -/
abbrev Cx.blk (X : Cx) (s : Shared) (H : Hp) (scope : Scope) (cenv : Env) (fp : List Addr) : Cx := { X with s_0 := s, H_0 := H, env := cenv, outer := X.stack, ex := fp, fn := fun x => scope.names.lookup x == some .cell, pn := [], xe := fun _ _ => False }
section
variable {X : Cx} {pins : List (Addr × Obj)} {σ : St} {H : Hp} {s : Shared}
theorem block_start {scope : Scope} {own : List (Str × Nat)} {fp : List Addr} (I : Inv X pins σ H s) (ok : BlkOk X.N X.env.scope scope own) (hN : X.N.Nodup) (hfp : ∀ b ∈ fp, FpOk X pins H b ∧ b < s.heap.objs.size) :
    Inv (X.blk s H scope (compEnvC scope (cellsFrom (s.heap.objs.size + 1) scope.names (cloFrom X.env.cells scope.names [])) s.heap.objs.size X.env) fp) [] (wipe σ (own.map (·.2))) H { s with heap := pushCells (s.heap.push { cls := .type "dict", data := .dict #[] }) scope.names } := by
  have hfree : ∀ y ∈ scope.names, y.2 = .free → ∃ c, X.env.cells.lookup y.1 = some c := fun y hy e => by
    rcases ok.free y hy e with k | k
    · exact I.ok.has _ (.inl k)
    · exact I.ok.has _ (.inr k)
  generalize hcenv : compEnvC scope (cellsFrom (s.heap.objs.size + 1) scope.names (cloFrom X.env.cells scope.names [])) s.heap.objs.size X.env = cenv
  have kp : ∀ b o, s.heap.get? b = some o → (pushCells (s.heap.push { cls := .type "dict", data := .dict #[] }) scope.names).get? b = some o := fun b o e => pushCells_keeps _ _ _ _ (Heap.get?_push_of_some _ e)
  have hL : cenv.locals = s.heap.objs.size := by rw [← hcenv]; rfl
  have hcl : cenv.cells = cellsFrom (s.heap.objs.size + 1) scope.names (cloFrom X.env.cells scope.names []) := by rw [← hcenv]; rfl
  have hsc : cenv.scope = relS scope X.env.scope := by rw [← hcenv]; rfl
  rw [← Heap.size_push s.heap { cls := .type "dict", data := .dict #[] }] at hcl
  have cm : ∀ {y c}, (y, c) ∈ cloFrom X.env.cells scope.names [] → X.env.cells.lookup y = some c ∧ c < s.heap.objs.size := fun {y c} hm => by
    rcases cloFrom_mem hm with hm | ⟨h1, rfl⟩
    · cases hm
    · obtain ⟨c, hc⟩ := hfree _ h1 rfl
      rw [hc]
      obtain ⟨w, z⟩ := I.cell _ _ hc
      exact ⟨rfl, z.lt⟩
  have mem : ∀ {y c}, cenv.cells.lookup y = some c → (X.env.cells.lookup y = some c ∧ c < s.heap.objs.size) ∨ (s.heap.objs.size + 1 ≤ c ∧ CellAt (pushCells (s.heap.push { cls := .type "dict", data := .dict #[] }) scope.names) c none) := fun {y c} e => by
    rw [hcl] at e
    rcases cells_mem (PySem.mem_of_lookup e) with hm | ⟨_, h2, h3⟩
    · exact .inl (cm hm)
    · rw [Heap.size_push] at h2; exact .inr ⟨h2, h3⟩
  have look : ∀ {y}, scope.names.lookup y = some .free → ∃ c, cenv.cells.lookup y = some c ∧ X.env.cells.lookup y = some c := fun {y} hl => by
    have hy : (y, NameKind.free) ∈ scope.names := PySem.mem_of_lookup hl
    obtain ⟨c', e'⟩ := mem_lookup (cells_acc (names := scope.names) (n := (s.heap.push { cls := .type "dict", data := .dict #[] }).objs.size) (cloFrom_has (cells := X.env.cells) (acc := []) hy))
    rw [← hcl] at e'
    refine ⟨c', e', ?_⟩
    rw [hcl] at e'
    rcases cells_mem (PySem.mem_of_lookup e') with hm | ⟨h1, _, _⟩
    · exact (cm hm).1
    · have := ok.uniq _ h1
      rw [hl] at this; cases this
  have okB : (X.blk s H scope cenv fp).Ok := by
    refine ⟨I.ok.mod, by show cenv.scope.kind = _; rw [hsc]; exact ok.kind, by show cenv.globals = _; rw [← hcenv]; exact I.ok.glob, by show cenv.builtins = _; rw [← hcenv]; exact I.ok.blt, by show s.heap.objs.size ≤ cenv.locals; rw [hL]; exact Nat.le_refl _,
      fun y z c e1 e2 => ?_, fun y hy => ?_, fun y c z e => ?_, I.ok.hd, I.ok.frames, .inl rfl, fun b hb => ⟨?_, fun y c e z => ?_⟩, I.bs, Nat.le_trans I.ok.bsz I.sz, fun b o e hb => ?_, fun b hb z => ?_, I.stack, I.stkFree⟩
    · have e1 : cenv.cells.lookup y = some c := e1
      have e2 : cenv.cells.lookup z = some c := e2
      rw [hcl] at e1 e2
      refine cells_inj (fun p hp => ?_) (fun y z c a b => I.ok.inj y z c (cm a).1 (cm b).1) (PySem.mem_of_lookup e1) (PySem.mem_of_lookup e2)
      rw [Heap.size_push]
      exact Nat.lt_succ_of_lt (cm (y := p.1) (c := p.2) hp).2
    · show ∃ c, cenv.cells.lookup y = some c
      have key : ∀ k, cenv.kindOf y = some k → (k = .cell ∨ k = .free) → ∃ c, cenv.cells.lookup y = some c := fun k hk hk' => by
        unfold Env.kindOf at hk
        rw [hsc] at hk
        obtain ⟨k', e, r⟩ := lookup_relS hk
        have : k' = .cell ∨ k' = .free := by
          rcases r with rfl | ⟨rfl, _⟩
          · exact hk'
          · exact .inr rfl
        rcases this with rfl | rfl
        · obtain ⟨c, hm⟩ := cells_has (n := (s.heap.push { cls := .type "dict", data := .dict #[] }).objs.size) (acc := cloFrom X.env.cells scope.names []) (PySem.mem_of_lookup e)
          obtain ⟨c', e'⟩ := mem_lookup hm
          exact ⟨c', by rw [hcl]; exact e'⟩
        · obtain ⟨c, h1, _⟩ := look e
          exact ⟨c, h1⟩
      rcases hy with hy | hy
      · exact key _ hy (.inl rfl)
      · exact key _ hy (.inr rfl)
    · have z : (scope.names.lookup y == some NameKind.cell) = true := z
      have z : scope.names.lookup y = some .cell := by simpa using z
      have e : cenv.cells.lookup y = some c := e
      rw [hcl] at e
      rcases cells_mem (PySem.mem_of_lookup e) with hm | ⟨_, h2, _⟩
      · rcases cloFrom_mem hm with hm | ⟨h1, _⟩
        · cases hm
        · have q := ok.uniq _ h1
          rw [z] at q; cases q
      · rw [Heap.size_push] at h2
        exact Nat.le_of_succ_le h2
    · show b ≠ cenv.locals
      rw [hL]; exact Nat.ne_of_lt (hfp b hb).2
    · have e : cenv.cells.lookup y = some c := e
      rcases mem e with ⟨h1, _⟩ | ⟨h1, _⟩
      · exact (hfp b hb).1.2.2.2.2.1 y c h1 z
      · have h2 : s.heap.objs.size + 1 ≤ b := by rw [← z]; exact h1
        exact absurd (Nat.lt_of_lt_of_le (hfp b hb).2 (Nat.le_of_succ_le h2)) (Nat.lt_irrefl _)
    · rcases (hfp b hb).1.2.2.2.1 with z | z
      · exact I.ok.noex b o e z
      · exact absurd (Nat.lt_of_lt_of_le (Heap.lt_size e) (Nat.le_trans I.ok.bsz z)) (Nat.lt_irrefl _)
    · rcases List.mem_cons.mp (I.stkSub b z) with z | z
      · exact (hfp b hb).1.2.1 z
      · exact (hfp b hb).1.2.2.1 z
  refine ⟨okB, rfl, I.bare, Un.kept kp, ⟨fun _ => none, ?_, fun i y av e1 e2 e3 => ?_⟩, fun y c e => ?_, ?_, fun y c e => ?_, fun p hp => ?_, I.hok.kept kp, by rw [wipe_length]; exact I.len⟩
  · show Heap.Ns _ cenv.locals _
    rw [hL]
    exact Heap.Ns.keeps (Heap.Ns.new ..) fun b o e => pushCells_keeps _ _ _ _ e
  · obtain ⟨e2, hne⟩ := wipe_some e2
    have hfr : scope.names.lookup y = some .free ∧ (cenv.kindOf y = some .cell ∨ cenv.kindOf y = some .free) := by
      have key : ∀ k, cenv.scope.names.lookup y = some k → k = .local ∨ k = .cell ∨ k = .free → scope.names.lookup y = some .free ∧ (cenv.kindOf y = some .cell ∨ cenv.kindOf y = some .free) := fun k hk hk' => by
        have hk0 := hk
        rw [hsc] at hk
        obtain ⟨k', e, r⟩ := lookup_relS hk
        have no : ¬ (k' = .local ∨ k' = .cell) := fun hh => by
          rcases ok.own _ (PySem.mem_of_lookup e) hh with e' | e'
          · obtain ⟨p, hp, hpy⟩ := List.mem_map.mp e'
            have e3 := ok.ix p hp
            have : p.1 = y := hpy
            rw [this] at e3
            exact hne (List.mem_map.mpr ⟨p, hp, nodup_ix hN e3 e1⟩)
          · exact e' (List.mem_of_getElem? e1)
        rcases r with rfl | ⟨rfl, rfl⟩
        · rcases hk' with rfl | rfl | rfl
          · exact absurd (.inl rfl) no
          · exact absurd (.inr rfl) no
          · exact ⟨e, .inr hk0⟩
        · exact ⟨e, .inl hk0⟩
      have e3 : Vis cenv.scope y := e3
      rcases e3 with e3 | e3 | e3
      · exact key _ e3 (.inl rfl)
      · exact key _ e3 (.inr (.inl rfl))
      · exact key _ e3 (.inr (.inr rfl))
    obtain ⟨m, hn, hl⟩ := I.loc
    have hvis : Vis X.env.scope y := (ok.free _ (PySem.mem_of_lookup hfr.1) rfl).elim (fun k => .inr (.inl k)) (fun k => .inr (.inr k))
    obtain ⟨w, r, q⟩ := hl i y av e1 e2 hvis
    refine ⟨w, r, .inr ⟨hfr.2, ?_⟩⟩
    obtain ⟨c, h1, h2⟩ := look hfr.1
    rcases q with ⟨k, _⟩ | ⟨_, c', e', z⟩
    · have k : X.env.scope.names.lookup y = some .local := k
      rcases ok.free _ (PySem.mem_of_lookup hfr.1) rfl with k' | k' <;> rw [show X.env.scope.names.lookup y = _ from k'] at k <;> cases k
    · rw [h2] at e'; cases e'
      exact ⟨c, h1, z.keeps kp⟩
  · have e : cenv.cells.lookup y = some c := e
    rcases mem e with ⟨h1, _⟩ | ⟨_, z⟩
    · obtain ⟨w, z⟩ := I.cell y c h1
      exact ⟨w, z.keeps kp⟩
    · exact ⟨_, z⟩
  · show H cenv.locals = none
    rw [hL]; exact I.hok.fresh (Nat.le_refl _)
  · have e : cenv.cells.lookup y = some c := e
    rcases mem e with ⟨h1, _⟩ | ⟨h1, _⟩
    · exact I.freeC y c h1
    · exact I.hok.fresh (Nat.le_of_succ_le h1)
  · exact absurd (show p ∈ ([] : List (Addr × Obj)) ++ [] from hp) (by simp)

/-- an item appended to a tracked list -/
theorem app_ok {E : Value → Shared → Prop} {D : Addr} {xs : List V} {y : V} {v : Value} {Q : Value → Shared → Prop} (I : Inv X pins σ H s) (hD : H D = some (.lst xs)) (hz : xs.length < sizeLine) (r : RelV y v)
    (h : ∀ s', Inv X pins σ (upd H D (.lst (xs ++ [y]))) s' → Q .none s') : wpAny (model X.prog X.w) X.A (call (.builtin "list.append") [.ref D, v]) Q E s := by
  obtain ⟨hz', its, n, ri, e⟩ := I.hok D _ hD
  have hl := ri.length
  refine append_at (hsz := by rw [List.size_toArray]; omega) e fun h' sb ho' => ?_
  refine h { s with heap := h' } (I.write (t' := s.toks) (by rw [hD]; trivial) (.inl rfl) (fun b u hb q => (sb.2 b hb).trans q) ⟨_, ho'⟩ ⟨by rw [List.length_append]; exact hz, its ++ [v], n + 1, ri.append (.cons r .nil), ?_⟩)
  rw [ho']
  simp

/-- a clause's tests -/
def PTs (X : Cx) (ifs : List Expr) (t : TT) : Prop :=
  ∀ (pins : List (Addr × Obj)) (s : Shared) (σ : St) (H : Hp) (Q : Bool → Hp → Prop), Inv X pins σ H s → t σ H Q →
    wpAny (model X.prog X.w) X.A (forIn ifs true fun c r => if r = true then do let ok ← isTrue c X.env (eval c X.env); pure (ForInStep.yield ok) else pure (ForInStep.yield r)) (TP X pins σ Q) X.xe s
def tYes : TT := fun _ H Q => Q true H
theorem pts_nil : PTs X [] tYes := fun _ _ _ H _ I h => wpAny_tests_nil ⟨H, I, h⟩
theorem pts_one {c : Expr} {t : TT} (h : PT X c t) : PTs X [c] t := fun pins s σ H Q I hw => wpAny_tests_one (h pins s σ H Q I hw)
end

theorem thnF {α : Type} {t : Sem α} {Q Q' : α → Shared → Prop} {M : Model} {A : Around} {E : Value → Shared → Prop} {s : Shared} (h : wpAny M A t Q (fun _ _ => False) s) (hQ : ∀ a s, Q a s → Q' a s) : wpAny M A t Q' E s := wpAny_mono h hQ fun _ _ z => False.elim z

/-- the loop of a list comprehension's block, the target of any form (codeAny_compLoop_tests asks a target that no tuple goes to; statement and proof follow it, PyProof/CompMap.lean:41-61, with the step letOwnedTupleGo kept) -/
theorem compLoop_any {prog : Program} {w : World} {A : Around} {R : Result → Shared → Prop} {s : Shared} {elt target iter : Expr} {ifs : List Expr} {scope : Scope} {pos : Pos} {it acc : Value} {env : Env} (I : Nat → Shared → Prop)
    (turn : ∀ n s, I n s → wpAny (model prog w) A (pyNext it) (fun r s₁ => match r with
      | none => R (.ok .next) s₁
      | some v => wpAny (model prog w) A (letOwnedTupleGo target it v) (fun _ s₁' => wpAny (model prog w) A (assign target env v) (fun _ s₂ =>
          wpAny (model prog w) A (forIn ifs true fun c r => if r = true then do let ok ← isTrue c env (eval c env); pure (ForInStep.yield ok) else pure (ForInStep.yield r)) (fun ok s₃ =>
            if ok = true then wpAny (model prog w) A (eval elt env) (fun x s₄ =>
              wpAny (model prog w) A (call (.builtin "list.append") [acc, x]) (fun _ s₅ => ∃ m, m < n ∧ I m s₅) (notedBy (model prog w) A env fun e s' => R (.error e) s') s₄) (notedBy (model prog w) A env fun e s' => R (.error e) s') s₃
            else ∃ m, m < n ∧ I m s₃) (notedBy (model prog w) A env fun e s' => R (.error e) s') s₂) (notedBy (model prog w) A env fun e s' => R (.error e) s') s₁') (notedBy (model prog w) A env fun e s' => R (.error e) s') s₁) (notedBy (model prog w) A env fun e s' => R (.error e) s') s)
    (n : Nat) (h : I n s) :
    codeAny (model prog w) A (.compLoop (.ListComp elt [⟨target, iter, ifs, 0⟩] scope pos) 0 it acc env) R s := by
  refine codeAny_loop rfl I (fun n s hI => ?_) n h
  show wpAny _ A ((compTurn (.ListComp elt [⟨target, iter, ifs, 0⟩] scope pos) 0 it acc env).onRaise (fun x => do noteFrame x env; theTreesLotGoes x)) _ _ s
  refine wpAny_noted ?_
  rw [compTurn_list]
  refine wpAny_bind (wpAny_standAt (wpAny_bind (wpAny_mono (turn n s hI) (fun r s₁ h₁ => ?_) fun _ _ h' => h')))
  cases r with
  | none => exact wpAny_pure h₁
  | some v =>
    refine wpAny_bind (wpAny_mono h₁ (fun _ s₁' h₁' => ?_) fun _ _ h' => h')
    refine wpAny_bind (wpAny_mono h₁' (fun _ s₂ h₂ => wpAny_bind (wpAny_mono h₂ (fun ok s₃ h₃ => ?_) fun _ _ h' => h')) fun _ _ h' => h')
    cases ok with
    | false => exact wpAny_pure ⟨rfl, h₃⟩
    | true =>
      exact wpAny_bind (wpAny_bind (wpAny_mono h₃ (fun x s₄ h₄ => wpAny_bind (wpAny_mono h₄ (fun _ s₅ h₅ => wpAny_pure (wpAny_pure ⟨rfl, h₅⟩)) fun _ _ h' => h')) fun _ _ h' => h'))

section
variable {X : Cx}
/-- [elt for target in iter if ..]: D the new list; W by the turn and a measure, Nx what a turn is to reach -/
def tLc (wi : TI) (g : TG) (tt : TT) (te : TE) (vs : List Nat) : TE := fun σ H Q => wi σ H fun J H1 => ∀ D, H1 D = none → ∃ W : Nat → Nat → Hp → Prop, (∃ m, W 0 m (upd H1 D (.lst []))) ∧ ∀ i m H, W i m H →
  (J.stop i H ∧ Q (.ref D) H) ∨ (J.go i H ∧ ∃ Nx : Hp → Prop, (∀ H', Nx H' → ∃ m', m' < m ∧ W (i + 1) m' H') ∧ ∀ x H', J.yld i H x H' → g x (wipe σ vs) H' fun σ2 H2 => wipe σ2 vs = wipe σ vs ∧ tt σ2 H2 fun b H3 =>
    if b = true then te σ2 H3 fun y H4 => ∃ acc, H4 D = some (.lst acc) ∧ acc.length < sizeLine ∧ Nx (upd H4 D (.lst (acc ++ [y]))) else Nx H3)
theorem lc_core {pins : List (Addr × Obj)} {s : Shared} {σ : St} {H : Hp} {Q : VK} {elt tg iter : Expr} {ifs : List Expr} {scope : Scope} {own : List (Str × Nat)} {pos pos' : Pos} {wi : TI} {g : TG} {tt : TT} {te : TE} {use : Option (Value → Sem Unit)} {Qf : Value → Shared → Prop}
    (hc : X.calm = true) (hN : X.N.Nodup) (I : Inv X pins σ H s) (hi : PI X tg iter wi) (ok : BlkOk X.N X.env.scope scope own)
    (hg : ∀ (s : Shared) (H : Hp) (C : Addr) (cl : List (Str × Addr)) (fp : List Addr), PG (X.blk s H scope (compEnvC scope cl C X.env) fp) tg g) (ht : ∀ (s : Shared) (H : Hp) (C : Addr) (cl : List (Str × Addr)) (fp : List Addr), PTs (X.blk s H scope (compEnvC scope cl C X.env) fp) ifs tt)
    (he : ∀ (s : Shared) (H : Hp) (C : Addr) (cl : List (Str × Addr)) (fp : List Addr), PE (X.blk s H scope (compEnvC scope cl C X.env) fp) elt te) (hs : ∀ x, foldedSetIterable iter X.env x = pure x)
    (h : tLc wi g tt te (own.map (·.2)) σ H Q)
    (hRR : ∀ D C s' m H', Inv X pins σ H' s' → Q (.ref D) H' → s'.heap.Ns C m → FpOk X pins H' C → compPost (model X.prog X.w) X.A X.xe use Qf (.ref D) C (.ok .next) s') :
    wpAny (model X.prog X.w) X.A (comprehension (.ListComp elt [⟨tg, iter, ifs, 0⟩] scope pos) scope X.env pos' (newList []) false (eval iter X.env) use) Qf X.xe s := by
  have hfree : ∀ y ∈ scope.names, y.2 = .free → ∃ c, X.env.cells.lookup y.1 = some c := fun y hy e => by
    rcases ok.free y hy e with k | k
    · exact I.ok.has _ (.inl k)
    · exact I.ok.has _ (.inr k)
  refine wpAny_comprehension_free (use := use) rfl hs (closure_ok hfree) ok.kind (fun y hy e => by rw [ok.uniq y hy, e])
    (thn (hi pins s σ H _ I h) fun xv s1 hx => thn hx fun itv s2 h2 => ?_)
  obtain ⟨it, fp, tn, J, H2, e, I2, T, st2, f2, q⟩ := h2
  subst e
  refine wpAny_newObj_type (newEnv_comp ?_) (by show 0 ≤ sizeLine; decide)
  generalize hD : s2.heap.objs.size = D
  have hDn : H2 D = none := I2.hok.fresh (Nat.le_of_eq hD)
  obtain ⟨W, ⟨m0, w0⟩, turn⟩ := q D hDn
  -- the new list
  generalize hs3 : ({ s2 with heap := s2.heap.push { cls := .type "list", data := .seq ([] : List Value).toArray } } : Shared) = s3
  have I3 : Inv X pins σ (upd H2 D (.lst [])) s3 := by
    rw [← hs3]
    refine I2.laid (t' := s2.toks) (fun b o e => Heap.get?_push_of_some _ e) (Nat.le_of_eq hD) ⟨Nat.zero_le _, [], 0, .nil, ?_⟩
    rw [← hD]
    exact Heap.get?_push_size _ rfl
  have h3 : s3.heap = s2.heap.push { cls := .type "list", data := .seq ([] : List Value).toArray } := by rw [← hs3]
  have sz : ∀ b ∈ fp, b < s2.heap.objs.size := fun b hb => by
    obtain ⟨o, e, _⟩ := T.obj _ _ st2 b hb
    exact Heap.lt_size e
  have f3 : ∀ b ∈ fp, FpOk X pins (upd H2 D (.lst [])) b ∧ b < s3.heap.objs.size := fun b hb => by
    have hlt := sz b hb
    refine ⟨⟨?_, (f2 b hb).2⟩, by rw [h3, Heap.size_push]; exact Nat.lt_succ_of_lt hlt⟩
    rw [upd_ne (by rw [← hD]; exact Nat.ne_of_lt hlt)]
    exact (f2 b hb).1
  have st3 : tn 0 s3.heap := T.keep _ _ _ st2 fun b _ o e => by rw [h3]; exact Heap.get?_push_of_some _ e
  have I4 := block_start I3 ok hN f3
  have pg := hg s3 (upd H2 D (.lst [])) s3.heap.objs.size (cellsFrom (s3.heap.objs.size + 1) scope.names (cloFrom X.env.cells scope.names [])) fp
  have pt := ht s3 (upd H2 D (.lst [])) s3.heap.objs.size (cellsFrom (s3.heap.objs.size + 1) scope.names (cloFrom X.env.cells scope.names [])) fp
  have pe := he s3 (upd H2 D (.lst [])) s3.heap.objs.size (cellsFrom (s3.heap.objs.size + 1) scope.names (cloFrom X.env.cells scope.names [])) fp
  show codeAny _ _ (.compStart (.ListComp elt [⟨tg, iter, ifs, 0⟩] scope pos) 0 (.ref it) (.ref D) (compEnvC scope (cellsFrom (s3.heap.objs.size + 1) scope.names (cloFrom X.env.cells scope.names [])) s3.heap.objs.size X.env)) (compPost (model X.prog X.w) X.A X.xe use Qf (.ref D) s3.heap.objs.size) { s3 with heap := pushCells (s3.heap.push { cls := .type "dict", data := .dict #[] }) scope.names }
  have nfp : ∀ b ∈ fp, (upd H2 D (.lst [])) b = none := fun b hb => (f3 b hb).1.1
  generalize hce : compEnvC scope (cellsFrom (s3.heap.objs.size + 1) scope.names (cloFrom X.env.cells scope.names [])) s3.heap.objs.size X.env = ce at I4 pg pt pe ⊢
  have cL : ce.locals = s3.heap.objs.size := by subst hce; rfl
  generalize hH3 : upd H2 D (.lst []) = H3 at I3 I4 pg pt pe w0 nfp f3
  generalize hs4 : ({ s3 with heap := pushCells (s3.heap.push { cls := .type "dict", data := .dict #[] }) scope.names } : Shared) = s4 at I4 ⊢
  have st4 : tn 0 s4.heap := T.keep _ _ _ st3 fun b _ o e => by rw [← hs4]; exact pushCells_keeps _ _ _ _ (Heap.get?_push_of_some _ e)
  have stat : ∀ {σ' : St} {H' : Hp} {s' : Shared}, Inv (X.blk s3 H3 scope ce fp) [] σ' H' s' → (∀ b ∈ fp, H' b = none) → ∀ b ∈ fp, FpOk (X.blk s3 H3 scope ce fp) [] H' b := fun {σ' H' s'} I' hn b hb =>
    ⟨hn b hb, (I'.ok.exf b hb).1, I'.ok.exfs b hb, .inl hb, fun x c e => (I'.ok.exf b hb).2 x c e, fun p hp => absurd (show p ∈ ([] : List (Addr × Obj)) ++ [] from hp) (by simp)⟩
  have loop : codeAny (model X.prog X.w) X.A (.compLoop (.ListComp elt [⟨tg, iter, ifs, 0⟩] scope pos) 0 (.ref it) (.ref D) ce) (compPost (model X.prog X.w) X.A X.xe use Qf (.ref D) s3.heap.objs.size) s4 := by
    refine compLoop_any (fun n s' => ∃ i H', Inv (X.blk s3 H3 scope ce fp) [] (wipe σ (own.map (·.2))) H' s' ∧ tn i s'.heap ∧ (∀ b ∈ fp, H' b = none) ∧ W i n H') ?_ m0 ⟨0, H3, I4, st4, nfp, w0⟩
    rintro n s5 ⟨i, H5, I5, st5, n5, w5⟩
    rcases turn i n H5 w5 with ⟨stop, qq⟩ | ⟨go, Nx, hNx, step⟩
    · have td := T.done (X.blk s3 H3 scope ce fp) rfl rfl rfl hc i [] s5 _ H5 (fun _ _ => False) I5 (stat I5 n5) st5 stop
      refine thnF td fun r s6 ⟨hr, I6⟩ => ?_
      subst hr
      -- back in the def's context
      have I7 : Inv X pins σ H5 s6 := I3.call' (ch := fp) I6.os I6.base I6.hok I6.bare fun b hb => ⟨(f3 b hb).1.2.2.2.1, (f3 b hb).1.2.1, (f3 b hb).1.2.2.2.2.1, (f3 b hb).1.2.2.2.2.2⟩
      have nC : H5 s3.heap.objs.size = none := by
        have z : H5 ce.locals = none := I6.free
        rw [cL] at z
        exact z
      obtain ⟨m, hn, _⟩ := I6.loc
      have hn : s6.heap.Ns ce.locals m := hn
      rw [cL] at hn
      exact hRR D s3.heap.objs.size s6 m H5 I7 qq hn (I3.fpOk (Nat.le_refl _) nC)
    · have ti := T.item (X.blk s3 H3 scope ce fp) rfl rfl rfl hc i [] s5 _ H5 (fun _ _ => False) I5 (stat I5 n5) st5 go
      refine thnF ti fun r s6 ⟨u, hr, h6⟩ => ?_
      subst hr
      refine thnF h6 fun _ s7 ⟨x, H7, I7, r7, y7, st7, n7⟩ => ?_
      have I7' := I7.pinned (stat I7 n7) (T.obj _ _ st7)
      refine thnF (pg _ s7 _ H7 x u _ I7' r7 (step x H7 y7)) fun _ s8 ⟨σ8, H8, I8, hw8, q8⟩ => ?_
      refine thnF (pt _ s8 σ8 H8 _ I8 q8) fun b s9 ⟨H9, I9, q9⟩ => ?_
      -- the turn's end
      have fin : ∀ {s' : Shared} {H' : Hp}, Inv (X.blk s3 H3 scope ce fp) ([] ++ pinsAt fp s7.heap) σ8 H' s' → Nx H' → ∃ m, m < n ∧ ∃ i H', Inv (X.blk s3 H3 scope ce fp) [] (wipe σ (own.map (·.2))) H' s' ∧ tn i s'.heap ∧ (∀ b ∈ fp, H' b = none) ∧ W i m H' := fun {s' H'} I' nx => by
        obtain ⟨m', hm, w'⟩ := hNx H' nx
        have pin' : ∀ b ∈ fp, ∀ o, s7.heap.get? b = some o → s'.heap.get? b = some o ∧ H' b = none := fun b hb o e =>
          let z := I'.pin (b, o) (List.mem_append_right _ (List.mem_append_right _ (mem_pinsAt hb e)))
          ⟨z.1, z.2.1⟩
        have hl : (wipe σ (own.map (·.2))).length = σ8.length := by rw [← hw8, wipe_length]
        refine ⟨m', hm, i + 1, H', (I'.unpinned (pins := [])).weak hl (fun j v e => ?_), T.keep _ _ _ st7 fun b hb o e => (pin' b hb o e).1, fun b hb => ?_, w'⟩
        · rw [← hw8] at e
          exact (wipe_some e).1
        · obtain ⟨o, e, _⟩ := T.obj _ _ st7 b hb
          exact (pin' b hb o e).2
      cases b with
      | false =>
        simp only [Bool.false_eq_true, if_false] at q9 ⊢
        exact fin I9 q9
      | true =>
        simp only [if_true] at q9 ⊢
        refine thnF (pe _ s9 σ8 H9 _ I9 q9) fun z s10 ⟨yv, H10, I10, r10, acc, hD10, hz10, nx⟩ => ?_
        exact app_ok (X := X.blk s3 H3 scope ce fp) I10 hD10 hz10 r10 fun s11 I11 => fin I11 nx
  exact codeAny_compStart_list loop (T.self X.A 0 _ _ _ st4 loop)
/-- as a value -/
theorem pe_lc {elt tg iter : Expr} {ifs : List Expr} {scope : Scope} {own : List (Str × Nat)} {pos : Pos} {wi : TI} {g : TG} {tt : TT} {te : TE} (hc : X.calm = true) (hN : X.N.Nodup) (hi : PI X tg iter wi) (ok : BlkOk X.N X.env.scope scope own)
    (hg : ∀ (s : Shared) (H : Hp) (C : Addr) (cl : List (Str × Addr)) (fp : List Addr), PG (X.blk s H scope (compEnvC scope cl C X.env) fp) tg g) (ht : ∀ (s : Shared) (H : Hp) (C : Addr) (cl : List (Str × Addr)) (fp : List Addr), PTs (X.blk s H scope (compEnvC scope cl C X.env) fp) ifs tt)
    (he : ∀ (s : Shared) (H : Hp) (C : Addr) (cl : List (Str × Addr)) (fp : List Addr), PE (X.blk s H scope (compEnvC scope cl C X.env) fp) elt te) (hs : ∀ x, foldedSetIterable iter X.env x = pure x := by intro _; rfl) :
    PE X (.ListComp elt [⟨tg, iter, ifs, 0⟩] scope pos) (tLc wi g tt te (own.map (·.2))) := by
  intro pins s σ H Q I h
  rw [eval_ListComp]
  refine lc_core hc hN I hi ok hg ht he hs h fun D C s' m H' I' q hn f => ⟨m, hn, fun h'' sb => ?_⟩
  obtain ⟨f0, f1, f2, f3, f4, f5⟩ := f
  exact ⟨.ref D, H', I'.turned (t' := s'.toks) (fun b o hb e => (sb.2 b hb).trans e) f0 f1 f3 f4 f5, rfl, q⟩
/-- name = [..] on one line, the name a local -/
theorem ps_setLc {i : Nat} {y : Str} {py : Pos} {elt tg iter : Expr} {ifs : List Expr} {scope : Scope} {own : List (Str × Nat)} {pos spos : Pos} {wi : TI} {g : TG} {tt : TT} {te : TE} (hc : X.calm = true) (hN : X.N.Nodup) (hy : X.N[i]? = some y) (hyl : X.env.scope.names.lookup y = some .local)
    (hsw : swapsWith (.ListComp elt [⟨tg, iter, ifs, 0⟩] scope pos) (some (.Name y py)) spos.line X.env = pure true) (hi : PI X tg iter wi) (ok : BlkOk X.N X.env.scope scope own)
    (hg : ∀ (s : Shared) (H : Hp) (C : Addr) (cl : List (Str × Addr)) (fp : List Addr), PG (X.blk s H scope (compEnvC scope cl C X.env) fp) tg g) (ht : ∀ (s : Shared) (H : Hp) (C : Addr) (cl : List (Str × Addr)) (fp : List Addr), PTs (X.blk s H scope (compEnvC scope cl C X.env) fp) ifs tt)
    (he : ∀ (s : Shared) (H : Hp) (C : Addr) (cl : List (Str × Addr)) (fp : List Addr), PE (X.blk s H scope (compEnvC scope cl C X.env) fp) elt te) (hs : ∀ x, foldedSetIterable iter X.env x = pure x := by intro _; rfl) :
    PS X (.Assign [.Name y py] (.ListComp elt [⟨tg, iter, ifs, 0⟩] scope pos) spos) (tAsg (tLc wi g tt te (own.map (·.2))) (gName i)) := by
  intro pins s σ H D I h
  rw [exec_Assign_Name_used _ _ _ _ hsw]
  refine wpAny_bind (wpAny_standAt (wpAny_bind ?_))
  show wpAny _ X.A (do let _ ← comprehension (.ListComp elt [⟨tg, iter, ifs, 0⟩] scope pos) scope X.env (firstIterPos [⟨tg, iter, ifs, 0⟩] pos) (newList []) false (eval iter X.env) (some (assign (.Name y py) X.env))) _ _ s
  have h : tLc wi g tt te (own.map (·.2)) σ H (fun x H1 => gName i x σ H1 D.nx) := h
  refine wpAny_bind (thn (lc_core (Qf := fun _ s' => SP X pins D .next s') hc hN I hi ok hg ht he hs h fun L C s' m H' I' q hn f => ?_) fun _ s' hq => wpAny_pure (wpAny_pure hq))
  show wpAny _ _ (assign (.Name y py) X.env (.ref L)) _ _ _
  refine wpAny_assign_Name (store_ok2 (v := V.ref L) I' hN hy (.inl hyl) rfl (fun s2 I2 ⟨a, sb, ha⟩ => ?_) (.inr hyl))
  obtain ⟨f0, f1, f2, f3, f4, f5⟩ := f
  have haC : C ≠ a := by
    rcases ha with z | z
    · rw [z]; exact f1
    · exact fun e => f4 y a z e.symm
  refine ⟨m, hn.sameBut sb haC, fun h3 sb3 => ?_⟩
  exact ⟨_, H', I2.turned (t' := s2.toks) (fun b o hb e => (sb3.2 b hb).trans e) f0 f1 f3 f4 f5, q⟩
theorem sw_true {elt : Expr} {gs : List Comprehension} {scope : Scope} {pos py : Pos} {y : Str} {l : Nat} {env : Env} (hk : env.scope.kind = .function) (hy : env.scope.names.lookup y = some .local) (hl : (py.line == pos.line) = true)
    (ha : (scope.names.any fun (n, k) => n == y && (k == .local || k == .cell)) = false) : swapsWith (.ListComp elt gs scope pos) (some (.Name y py)) l env = pure true := by
  have ky : env.kindOf y = some .local := hy
  have hb : env.blockKind = .function := by unfold Env.blockKind; rw [hk]; rfl
  unfold swapsWith
  simp only [hb, ky, ha, Expr.pos, hl]
  rfl
end

/-! ### the forms one uses -/
/-- over a range: Pv by the turn and the heap (the new list at D within) -/
theorem lc_range {lo : Int} {n : Nat} {g : TG} {tt : TT} {te : TE} {vs : List Nat} {σ : St} {H1 : Hp} {D : Addr} {Qd : Hp → Prop} (Pv : Nat → Hp → Prop) (h0 : Pv 0 (upd H1 D (.lst [])))
    (hs : ∀ i H, i < n → Pv i H → g (.int (lo + i)) (wipe σ vs) H fun σ2 H2 => wipe σ2 vs = wipe σ vs ∧ tt σ2 H2 fun b H3 =>
      if b = true then te σ2 H3 fun y H4 => ∃ acc, H4 D = some (.lst acc) ∧ acc.length < sizeLine ∧ Pv (i + 1) (upd H4 D (.lst (acc ++ [y]))) else Pv (i + 1) H3) (hd : ∀ H, Pv n H → Qd H) :
    ∃ W : Nat → Nat → Hp → Prop, (∃ m, W 0 m (upd H1 D (.lst []))) ∧ ∀ i m H, W i m H →
      ((Itr lo n).stop i H ∧ Qd H) ∨ ((Itr lo n).go i H ∧ ∃ Nx : Hp → Prop, (∀ H', Nx H' → ∃ m', m' < m ∧ W (i + 1) m' H') ∧ ∀ x H', (Itr lo n).yld i H x H' → g x (wipe σ vs) H' fun σ2 H2 => wipe σ2 vs = wipe σ vs ∧ tt σ2 H2 fun b H3 =>
        if b = true then te σ2 H3 fun y H4 => ∃ acc, H4 D = some (.lst acc) ∧ acc.length < sizeLine ∧ Nx (upd H4 D (.lst (acc ++ [y]))) else Nx H3) := by
  refine ⟨fun i m H => m = n - i ∧ i ≤ n ∧ Pv i H, ⟨n, by simp, Nat.zero_le _, h0⟩, ?_⟩
  rintro i m H ⟨rfl, hi, p⟩
  by_cases hlt : i < n
  · refine .inr ⟨hlt, Pv (i + 1), fun H' p' => ⟨n - (i + 1), by omega, rfl, hlt, p'⟩, fun x H' y => ?_⟩
    obtain ⟨e, y⟩ := y
    subst e y
    exact hs i _ hlt p
  · have e : i = n := by omega
    subst e
    exact .inl ⟨Nat.le_refl _, hd H p⟩
/-- over a list that the block leaves as it is -/
theorem lc_list {K : PySem.W.Frag} {a : Addr} {xs : List V} {g : TG} {tt : TT} {te : TE} {vs : List Nat} {σ : St} {H1 : Hp} {D : Addr} {Qd : Hp → Prop} (Pv : Nat → Hp → Prop) (h0 : Pv 0 (upd H1 D (.lst []))) (hl : ∀ i H, i ≤ xs.length → Pv i H → SqL K H a xs)
    (hs : ∀ i x H, xs[i]? = some x → Pv i H → g x (wipe σ vs) H fun σ2 H2 => wipe σ2 vs = wipe σ vs ∧ tt σ2 H2 fun b H3 =>
      if b = true then te σ2 H3 fun y H4 => ∃ acc, H4 D = some (.lst acc) ∧ acc.length < sizeLine ∧ Pv (i + 1) (upd H4 D (.lst (acc ++ [y]))) else Pv (i + 1) H3) (hd : ∀ H, Pv xs.length H → Qd H) :
    ∃ W : Nat → Nat → Hp → Prop, (∃ m, W 0 m (upd H1 D (.lst []))) ∧ ∀ i m H, W i m H →
      ((Itl K a).stop i H ∧ Qd H) ∨ ((Itl K a).go i H ∧ ∃ Nx : Hp → Prop, (∀ H', Nx H' → ∃ m', m' < m ∧ W (i + 1) m' H') ∧ ∀ x H', (Itl K a).yld i H x H' → g x (wipe σ vs) H' fun σ2 H2 => wipe σ2 vs = wipe σ vs ∧ tt σ2 H2 fun b H3 =>
        if b = true then te σ2 H3 fun y H4 => ∃ acc, H4 D = some (.lst acc) ∧ acc.length < sizeLine ∧ Nx (upd H4 D (.lst (acc ++ [y]))) else Nx H3) := by
  refine ⟨fun i m H => m = xs.length - i ∧ i ≤ xs.length ∧ Pv i H, ⟨xs.length, by simp, Nat.zero_le _, h0⟩, ?_⟩
  rintro i m H ⟨rfl, hi, p⟩
  have q := hl i H hi p
  by_cases hlt : i < xs.length
  · refine .inr ⟨⟨xs, xs[i], q, by simp [hlt]⟩, Pv (i + 1), fun H' p' => ⟨xs.length - (i + 1), by omega, rfl, hlt, p'⟩, fun x H' y => ?_⟩
    obtain ⟨e, y⟩ := y
    subst e
    exact hs i x _ (y xs q) p
  · have e : i = xs.length := by omega
    subst e
    exact .inl ⟨⟨xs, q, Nat.le_refl _⟩, hd H p⟩
/-- over a tuple -/
theorem lc_tup {K : PySem.W.Frag} {a : Addr} {xs : List V} {g : TG} {tt : TT} {te : TE} {vs : List Nat} {σ : St} {H1 : Hp} {D : Addr} {Qd : Hp → Prop} (Pv : Nat → Hp → Prop) (h0 : Pv 0 (upd H1 D (.lst []))) (hl : ∀ i H, i ≤ xs.length → Pv i H → SqT K H a xs)
    (hs : ∀ i x H, xs[i]? = some x → Pv i H → g x (wipe σ vs) H fun σ2 H2 => wipe σ2 vs = wipe σ vs ∧ tt σ2 H2 fun b H3 =>
      if b = true then te σ2 H3 fun y H4 => ∃ acc, H4 D = some (.lst acc) ∧ acc.length < sizeLine ∧ Pv (i + 1) (upd H4 D (.lst (acc ++ [y]))) else Pv (i + 1) H3) (hd : ∀ H, Pv xs.length H → Qd H) :
    ∃ W : Nat → Nat → Hp → Prop, (∃ m, W 0 m (upd H1 D (.lst []))) ∧ ∀ i m H, W i m H →
      ((Itt K a).stop i H ∧ Qd H) ∨ ((Itt K a).go i H ∧ ∃ Nx : Hp → Prop, (∀ H', Nx H' → ∃ m', m' < m ∧ W (i + 1) m' H') ∧ ∀ x H', (Itt K a).yld i H x H' → g x (wipe σ vs) H' fun σ2 H2 => wipe σ2 vs = wipe σ vs ∧ tt σ2 H2 fun b H3 =>
        if b = true then te σ2 H3 fun y H4 => ∃ acc, H4 D = some (.lst acc) ∧ acc.length < sizeLine ∧ Nx (upd H4 D (.lst (acc ++ [y]))) else Nx H3) := by
  refine ⟨fun i m H => m = xs.length - i ∧ i ≤ xs.length ∧ Pv i H, ⟨xs.length, by simp, Nat.zero_le _, h0⟩, ?_⟩
  rintro i m H ⟨rfl, hi, p⟩
  have q := hl i H hi p
  by_cases hlt : i < xs.length
  · refine .inr ⟨⟨xs, xs[i], q, by simp [hlt]⟩, Pv (i + 1), fun H' p' => ⟨xs.length - (i + 1), by omega, rfl, hlt, p'⟩, fun x H' y => ?_⟩
    obtain ⟨e, y⟩ := y
    subst e
    exact hs i x _ (y xs q) p
  · have e : i = xs.length := by omega
    subst e
    exact .inl ⟨⟨xs, q, Nat.le_refl _⟩, hd H p⟩
def blkC (N : List Str) (sc scope : Scope) (own : List (Str × Nat)) : Bool :=
  (match scope.kind with | .function => true | _ => false) && (scope.names.all fun y => decide (scope.names.lookup y.1 = some y.2)) && (own.all fun p => decide (N[p.2]? = some p.1)) &&
    (scope.names.all fun y => match y.2 with
      | .free => (match sc.names.lookup y.1 with | some .cell => true | some .free => true | _ => false)
      | .local => decide (y.1 ∈ own.map (·.1)) || decide (y.1 ∉ N)
      | .cell => decide (y.1 ∈ own.map (·.1)) || decide (y.1 ∉ N)
      | _ => true)
theorem blkOk_by {N : List Str} {sc scope : Scope} {own : List (Str × Nat)} (h : blkC N sc scope own = true) : BlkOk N sc scope own := by
  unfold blkC at h
  simp only [Bool.and_eq_true, List.all_eq_true, decide_eq_true_eq] at h
  obtain ⟨⟨⟨h1, h2⟩, h3⟩, h4⟩ := h
  refine ⟨?_, h2, h3, fun y hy e => ?_, fun y hy e => ?_⟩
  · split at h1
    · assumption
    · cases h1
  · have q := h4 y hy
    simp only [e] at q
    split at q <;> first | exact .inl (by assumption) | exact .inr (by assumption) | cases q
  · have q := h4 y hy
    rcases e with e | e <;> (simp only [e, Bool.or_eq_true, decide_eq_true_eq] at q; exact q)
end L2





section 
end 

section 
end 




namespace L2
open PySem PySem.Spec PyProof.Rows

theorem vals_ints : ∀ {vs : List Value} {ns : List Int}, IntsAre vs ns → Vals (ns.map V.int) vs
  | _, _, .nil => .nil
  | _, _, .cons n t h => .cons ⟨t, rfl⟩ (vals_ints h)

/-- nothing is tracked but the script, known to the object (or it is an object of the module) -/
def Only (H : Hp) : Prop := ∀ b, H b = none ∨ ∃ o xs, H b = some (.frz o (.lst xs))

/-- THE HEAD: the law's promise, at the heap behind the top. F, the promise of the law's def, may use that base is part of the heap (so K.In base, base.Ns mainGlobals mg stand in Mod) -/
theorem law_call {P : Program} {w : World} {K : PySem.W.Frag} {mg mb : Str → Option Value} {CX : CXT} {k : Nat} {fa a : Addr} {fd : FuncData} {x : Str} {sp : Sp} {s₁ : Shared} {vs : List Value} {ns : List Int}
    (KX : K.In s₁.heap) (hns : s₁.heap.Ns mainGlobals mg) (hb : s₁.heap.Ns builtinsNs mb) (hbb : ∀ x : Str, x ≠ "__name__" → mb x = bootBuiltins x) (hlim : s₁.heap.NoLimit) (hg : s₁.gens = #[])
    (ha : s₁.heap.get? a = some { cls := .type "list", data := .seq vs.toArray }) (hi : IntsAre vs ns) (hl : ns.length ≤ sizeLine) (hr : Room k callerA)
    (F : ∀ base : Heap, K.In base → base.Ns mainGlobals mg → FnOk P w K mg base CX k fa fd [x] sp) (hbind : ∀ (s : Shared) (u : Value), BindsTo s fd ⟨[u], []⟩ [(x, u)])
    (hsp : ∀ H : Hp, Only H → SqL K H a (ns.map V.int) → sp [.ref a] H (fun v _ => v = .bl true) fun _ _ _ => False)
    (hCX : ∀ H e s', CX [] H s₁ (fun _ _ _ => False) e s' → False) :
    codeAny (model P w) callerA (.call (.ref fa) ⟨[.ref a], []⟩) (fun r s' => r = .ok (.ret (.bool true)) ∧ OldK s₁.heap s'.heap ∧ s'.os = s₁.os ∧ AllBare s'.gens) s₁ := by
  have rv := vals_ints hi
  have lenV := hi.length
  -- from an abstract heap in which nothing but the script may be tracked
  have core : ∀ H : Hp, Only H → SqL K H a (ns.map V.int) → HOk P w H s₁.heap → (∀ b, H b ≠ none → b = a) → (H a ≠ none → K.lookup a = none) →
      codeAny (model P w) callerA (.call (.ref fa) ⟨[.ref a], []⟩) (fun r s' => r = .ok (.ret (.bool true)) ∧ OldK s₁.heap s'.heap ∧ s'.os = s₁.os ∧ AllBare s'.gens) s₁ := by
    intro H hO hS hok hA hK
    have base_of : ∀ {b : Addr} {o : Obj}, s₁.heap.get? b = some o → H b = none → (hidT s₁.heap H).get? b = some o := fun e n => hidT_get e n
    have noA : ∀ {b : Addr} {o : Obj} {es : Array DictEntry} {ep : Nat}, s₁.heap.get? b = some o → o.data = .dict es ep → H b = none := fun {b o es ep} e d => by
      cases q : H b with
      | none => rfl
      | some u =>
        have e' : b = a := hA b (by rw [q]; simp)
        subst e'
        rw [ha] at e; cases e
        have d' : Data.seq vs.toArray _ = Data.dict es ep := d
        cases d'
    have nsK : ∀ {b : Addr} {m : Str → Option Value}, s₁.heap.Ns b m → (hidT s₁.heap H).Ns b m := fun {b m} ⟨o, es, ep, e, d, r⟩ => ⟨o, es, ep, base_of e (noA e d), d, r⟩
    have hKb : K.In (hidT s₁.heap H) := fun b o e => base_of (KX b o e) (by
      cases q : H b with
      | none => rfl
      | some u =>
        have e' : b = a := hA b (by rw [q]; simp)
        subst e'
        rw [hK (by rw [q]; simp)] at e; cases e)
    have hM : Mod K mg (hidT s₁.heap H) := ⟨hKb, nsK hns, ⟨mb, nsK hb, hbb⟩, let ⟨mc, h1, h2⟩ := hlim; ⟨mc, nsK h1, h2⟩⟩
    have e0 : Env0 P w K mg (hidT s₁.heap H) callerA [] s₁ H := ⟨rfl, hM, fun b o e => of_hidT e, Nat.le_of_eq (hidT_size _ _), trivial, fun b hb => absurd (show b ∈ ([] : List Addr) from hb) (by simp), hok, .of_eq hg⟩
    refine codeAny_mono ((F _ hKb (nsK hns)).run callerA [] s₁ H ⟨[.ref a], []⟩ [.ref a] [.ref a] _ _ hr e0 (hbind s₁ (.ref a)) (.cons rfl .nil) (hsp H hO hS)) fun r s' h => ?_
    cases r with
    | error e => exact (hCX H e s' h).elim
    | ok fl =>
      cases fl with
      | next => exact False.elim h
      | brk => exact False.elim h
      | cont => exact False.elim h
      | ret u =>
        obtain ⟨v, H', os, bare, un, hok', r', q⟩ := h
        have q' : v = .bl true := q
        subst q'
        obtain rfl : u = Value.bool true := r'
        refine ⟨rfl, OldK.of_keep fun b o e => ?_, os, bare⟩
        cases q : H b with
        | none => exact un.keep b o e q (by intro z; exact absurd (show b ∈ ([] : List Addr) from z) (by simp)) (by simp)
        | some u =>
          rcases hO b with z | ⟨ob, xs, z⟩
          · rw [q] at z; cases z
          · have z2 := un.frzs b ob _ z
            obtain ⟨e1, _⟩ := hok b _ z
            obtain ⟨e2, _⟩ := hok' b _ z2
            rw [e] at e1; cases e1
            exact e2
  cases hk : K.lookup a with
  | some o =>
    -- the script is one of the module's own objects
    have e := KX a o hk
    rw [ha] at e
    cases e
    refine core (fun _ => none) (fun _ => .inl rfl) (.inr ⟨_, vs.toArray, _, hk, rfl, rfl, rfl, by rw [List.size_toArray, lenV]; exact hl, by simpa using rv⟩) (fun b u z => by have z' : (none : Option HO) = some u := z; cases z') (fun b z => absurd rfl z) fun z => absurd rfl z
  | none =>
    refine core (fun b => if b = a then some (.frz { cls := .type "list", data := .seq vs.toArray } (.lst (ns.map V.int))) else none) (fun b => ?_) (.inl (.inr ⟨{ cls := .type "list", data := .seq vs.toArray }, if_pos rfl⟩)) (fun b u z => ?_) (fun b z => ?_) fun _ => hk
    · by_cases hb : b = a
      · exact .inr ⟨_, _, if_pos hb⟩
      · exact .inl (if_neg hb)
    · by_cases hb : b = a
      · have z' := (if_pos hb).symm.trans z
        cases z'
        subst hb
        exact ⟨ha, by rw [List.length_map]; exact hl, vs, _, rv, ha⟩
      · have z' := (if_neg hb).symm.trans z
        cases z'
    · by_cases hb : b = a
      · exact hb
      · exact absurd (if_neg hb) z
end L2

/-! SHORT WORDS over the layer: a def of the text, its body, what a loop and a test want. -/
namespace L2
open PySem PySem.Spec PyProof.Rows

/-! ### the text by places -/
/-- the j-th statement of a class's body -/
def inClass (s : Stmt) (j : Nat) : Stmt := match s with
  | .ClassDef _ _ _ body _ _ _ _ _ _ _ => body.getD j (.Pass ⟨0, 0, 0, 0⟩)
  | _ => .Pass ⟨0, 0, 0, 0⟩
def defArgs (s : Stmt) : Arguments := match s with
  | .FunctionDef _ a _ _ _ _ _ _ _ _ => a
  | _ => { posonlyargs := [], args := [], vararg := none, kwonlyargs := [], kw_defaults := [], kwarg := none, defaults := [] }
def defBody (s : Stmt) : List Stmt := match s with
  | .FunctionDef _ _ b _ _ _ _ _ _ _ => b
  | _ => []
def defScope (s : Stmt) : Scope := match s with
  | .FunctionDef _ _ _ _ _ _ sc _ _ _ => sc
  | _ => { kind := .function, names := [], isGenerator := false, isCoroutine := false }

/-! ### no exception leaves a def -/
abbrev CX0 : CXT := fun _ _ _ _ _ _ => False
abbrev E0 : XK := fun _ _ _ => False
theorem pass0 {X : Cx} : Passes CX0 X E0 := fun _ _ _ _ _ _ _ h => h.elim

/-! ### a def (or method) of the text as it stands behind the top -/
structure Fun (K : PySem.W.Frag) (x qual : Str) (st : Stmt) (f : Addr) (fd : FuncData) : Prop where
  ex : ∃ (oc : Value) (od : Option Addr) (kV doc pm : Value) (an : Option Addr) (cdv ct : Value) (osl : Array (Option Value)),
    fd = PySem.W.fnOf x qual (defArgs st) (defBody st) (defScope st) .none kV doc pm an cdv ct ∧ K.lookup f = some ⟨oc, od, .func fd, osl⟩ ∧ PySem.W.codeIn K cdv qual = true
  kp : PySem.W.keepIn K (.ref f) = true
section
variable {P : Program} {w : World} {K : PySem.W.Frag} {mg : Str → Option Value} {base : Heap}
/-- THE RULE for a def: its body as a term of rules, and the reading of that term -/
theorem Fun.ok {x qual : Str} {st : Stmt} {f : Addr} {fd : FuncData} {N ps : List Str} {k : Nat} {sp : Sp} (F : Fun K x qual st f fd) (S : FnScope N ps (defScope st)) (len : ∀ vs H Q E, sp vs H Q E → vs.length = ps.length)
    (hbody : ∀ (cdv : Value) (A : Around) (outer : List Env) (s : Shared) (H : Hp) (vs : List V) (Q : VK) (E : XK), Room k (A.deeper (envOfC qual (defScope st) s.heap.objs.size f cdv)) → sp vs H Q E →
      ∃ t, PSs (cxOf CX0 P w K mg base N qual (defScope st) f cdv A outer s H E).nox (defBody st) t ∧ t { nx := fun _ H' => Q .non H', rt := Q } (start N vs) H) : FnOk P w K mg base CX0 (k + 1) f fd ps sp := by
  obtain ⟨oc, od, kV, doc, pm, an, cdv, ct, osl, rfl, lk, hcd⟩ := F.ex
  refine fn_of lk hcd S len fun A outer s H vs Q E hr hsp => ?_
  obtain ⟨t, h, q⟩ := hbody cdv A outer s H vs Q E hr hsp
  exact ⟨t, h.nox, q⟩
/-- how its arguments bind (no defaults): h is «fun _ _ _ _ _ _ us hl => match us, hl with | [_, _], _ => rfl», one _ a parameter -/
theorem Fun.binds {x qual : Str} {st : Stmt} {f : Addr} {fd : FuncData} {ps : List Str} (F : Fun K x qual st f fd)
    (h : ∀ (kV doc pm : Value) (an : Option Addr) (cdv ct : Value) (us : List Value), us.length = ps.length → bindArgs (PySem.W.fnOf x qual (defArgs st) (defBody st) (defScope st) .none kV doc pm an cdv ct) ⟨us, []⟩ = pure (ps.zip us)) : Binds K fd ps [] := by
  obtain ⟨oc, od, kV, doc, pm, an, cdv, ct, osl, rfl, lk, hcd⟩ := F.ex
  exact .all (h kV doc pm an cdv ct)
theorem fun_mk {x qual : Str} {st : Stmt} {f : Addr} {oc : Value} {od an : Option Addr} {osl : Array (Option Value)} {kV doc pm cdv ct : Value} (l : K.lookup f = some ⟨oc, od, .func (PySem.W.fnOf x qual (defArgs st) (defBody st) (defScope st) .none kV doc pm an cdv ct), osl⟩)
    (c : PySem.W.codeIn K cdv qual = true) (k : PySem.W.keepIn K (.ref f) = true) : Fun K x qual st f (PySem.W.fnOf x qual (defArgs st) (defBody st) (defScope st) .none kV doc pm an cdv ct) := ⟨⟨oc, od, kV, doc, pm, an, cdv, ct, osl, rfl, l, c⟩, k⟩
end
theorem hu_of {A : Around} {k : Nat} (hr : Room k A) : A.units + 1 < cLine := Nat.lt_of_le_of_lt (Nat.add_le_add_left (by decide : 1 ≤ 64) _) hr.units
theorem small1000 {n : Nat} (h : n ≤ 1000) : n < sizeLine := Nat.lt_of_le_of_lt h (by decide)

/-! ### expressions in short: the name that stands in the i-th slot -/
section
variable {X : Cx}
theorem pv (i : Nat) {x : Str} {pos : Pos} (hN : X.N[i]? = some x := by rfl) (hv : Vis X.env.scope x := by first | exact Or.inl rfl | exact Or.inr (Or.inl rfl) | exact Or.inr (Or.inr rfl)) (hd : (x == ("__debug__" : Str)) = false := by decide)
    (hcd : (x == ("__classdict__" : Str)) = false := by decide) : PE X (.Name x pos) (tVar i) := pe_var hN hv hd hcd
end

/-! ### tests -/
theorem iteF {A B : Prop} (h : B) : if false = true then A else B := by
  rw [if_neg Bool.false_ne_true]
  exact h
theorem iteT {A B : Prop} (h : A) : if true = true then A else B := by
  rw [if_pos rfl]
  exact h
theorem ite2 {c A B : Prop} [Decidable c] (h1 : c → A) (h2 : ¬ c → B) : if c then A else B := by
  by_cases h : c
  · rw [if_pos h]
    exact h1 h
  · rw [if_neg h]
    exact h2 h
theorem iteNS {c A B : Prop} [Decidable c] (hc : c) (h : B) : if (!decide c) = true then A else B := by
  rw [decide_eq_true hc]
  exact iteF h

/-! ### heaps -/
/-- all that was tracked is as it was -/
def Same (H H' : Hp) : Prop := ∀ b o, H b = some o → H' b = some o
theorem Same.refl (H : Hp) : Same H H := fun _ _ h => h
theorem Same.trans {H H1 H2 : Hp} (a : Same H H1) (b : Same H1 H2) : Same H H2 := fun c o h => b c o (a c o h)
theorem Same.free {H H' : Hp} (e : Same H H') {l : Addr} (h : H' l = Option.none) : H l = Option.none := by
  cases q : H l with
  | none => rfl
  | some o =>
    rw [e l o q] at h
    cases h
theorem Same.seq {K : PySem.W.Frag} {H H' : Hp} {a : Addr} {xs : List V} (e : Same H H') (h : SqL K H a xs) : SqL K H' a xs := by
  rcases h with (h | ⟨o, h⟩) | h
  · exact .inl (.inl (e _ _ h))
  · exact .inl (.inr ⟨o, e _ _ h⟩)
  · exact .inr h

/-! ### lists -/
theorem at_of {xs : List V} {z : Int} {j : Nat} {v : V} (e : z = (j : Int)) (h : xs[j]? = some v) : atI xs z = some v := by
  rw [e]
  exact atI_nat h
theorem nd_ix {α : Type} {l : List α} (hN : l.Nodup) {i j : Nat} {x : α} (a : l[i]? = some x) (b : l[j]? = some x) : i = j := by
  obtain ⟨h1, e1⟩ := List.getElem?_eq_some_iff.mp a
  obtain ⟨h2, e2⟩ := List.getElem?_eq_some_iff.mp b
  exact (List.getElem_inj hN).mp (e1.trans e2.symm)
theorem sum_set : ∀ {l : List Int} {j : Nat} {z y : Int}, l[j]? = some z → (l.set j y).sum = l.sum - z + y
  | [], j, z, y, h => by simp at h
  | a :: r, 0, z, y, h => by
    have e : a = z := Option.some.inj h
    subst e
    show (y :: r).sum = (a :: r).sum - a + y
    rw [List.sum_cons, List.sum_cons]
    omega
  | a :: r, j + 1, z, y, h => by
    have ih := sum_set (l := r) (j := j) (z := z) (y := y) h
    show (a :: r.set j y).sum = (a :: r).sum - z + y
    rw [List.sum_cons, List.sum_cons, ih]
    omega
theorem sum_take : ∀ {l : List Int} {i : Nat} {z : Int}, l[i]? = some z → (l.take (i + 1)).sum = (l.take i).sum + z
  | [], i, z, h => by simp at h
  | a :: r, 0, z, h => by
    have e : a = z := Option.some.inj h
    subst e
    show ([a] : List Int).sum = ([] : List Int).sum + a
    rw [List.sum_cons]
    exact Int.add_comm _ _
  | a :: r, i + 1, z, h => by
    have ih := sum_take (l := r) (i := i) (z := z) h
    show (a :: r.take (i + 1)).sum = (a :: r.take i).sum + z
    rw [List.sum_cons, List.sum_cons, ih]
    omega
/-- a new instance and its __init__ leave all that was tracked as it was -/
theorem Same.made {H H1 : Hp} {x dx C : Addr} (nx : H x = Option.none) (nd : H dx = Option.none) (k : ∀ b o, (upd (upd H dx (.own x)) x (.ins C dx [])) b = some o → b ≠ x → H1 b = some o) : Same H H1 := fun b o e =>
  k b o (by rw [upd_ne (ne_of_none e nx), upd_ne (ne_of_none e nd)]; exact e) (ne_of_none e nx)
end L2
end
section
set_option linter.unusedVariables false
namespace BK
open Kp82 (down up)
open Kp113 (Make Pr FULL W point falls fallsLeast within iLow iHigh isMake goodMake first32 atDown atUp)
open Kp114 (stretch atLeast atMost safeBelow safeAbove mayGive mayTake greatest fall rise)

/-- what a right make tells -/
structure GM (M : Make) : Prop where
  c1 : 1 ≤ M.cells
  c2 : M.cells ≤ 16
  w1 : 1 ≤ M.wait
  w2 : M.wait ≤ 16
  f1 : 1 ≤ M.fill
  f2 : M.fill ≤ 65536
  k1 : 65536 ≤ M.weak
  k2 : M.weak ≤ M.strong
  k3 : M.strong ≤ 1099511627776
  l0 : 0 ≤ M.least
  l1 : M.least ≤ M.most
  l2 : M.most ≤ 16777216
  e0 : 0 ≤ M.leak
  e1 : M.leak ≤ 1048576
  b0 : 0 ≤ M.bleedLow
  b1 : M.bleedLow ≤ M.bleedHigh
  b2 : M.bleedHigh ≤ 1048576
  o0 : 0 ≤ M.off
  o1 : M.off ≤ 1048576
  u0 : 0 ≤ M.fuse
  u1 : M.fuse ≤ 4194304
  mf : M.most * M.fuse ≤ 8589934592
  n0 : 0 ≤ M.near
  n1 : M.near ≤ 1073741824
  i0 : 0 ≤ M.like
  i1 : M.like ≤ 1073741824
  lo : -17179869184 ≤ M.low
  lh : M.low ≤ M.high
  hi : M.high ≤ 17179869184
  len : M.curve.length = 33
  ris : ∀ k, k < 32 → point M k < point M (k + 1)
  p0 : 0 ≤ point M 0
  p32 : point M 32 ≤ 8589934592

theorem rising_iff {l : List Int} : Kp113.rising l = true ↔ ∀ k, k + 1 < l.length → l.getD k 0 < l.getD (k + 1) 0 := by
  unfold Kp113.rising
  rw [List.all_eq_true]
  constructor
  · intro h k hk
    exact of_decide_eq_true (h k (List.mem_range.mpr (by omega)))
  · intro h k hk
    exact decide_eq_true (h k (by have := List.mem_range.mp hk; omega))

theorem GM.of {M : Make} (h : isMake M) (g : goodMake M = true) : GM M := by
  obtain ⟨hl, hn⟩ := h
  have g2 := g
  unfold goodMake at g2
  simp only [Bool.and_eq_true, decide_eq_true_eq] at g2
  obtain ⟨⟨⟨a, r⟩, p0⟩, p32⟩ := g2
  have r := rising_iff.mp r
  simp only [List.forall_mem_cons] at hn
  obtain ⟨h1, h2, h3, h4, h5, h6, h7, h8, h9, h10, h11, h12, h13, h14, _⟩ := hn
  obtain ⟨a1, a2, a3, a4, a5, a6, a7, a8, a9, a10, a11, a12, a13, a14, a15, a16, a17, a18, a19, a20, a21, a22, a23, a24, a25, a26⟩ := a
  exact ⟨a1, a2, a3, a4, a5, a6, by omega, a8, by omega, h7, a10, by omega, h9, by omega, h10, a13, by omega, h12, by omega, h13, by omega, by omega, a18, by omega, a20, by omega, by omega, a23, by omega, hl, fun k hk => r k (by omega), p0, by omega⟩

theorem GM.to {M : Make} (h : isMake M) (a : 1 ≤ M.cells ∧ M.cells ≤ 16 ∧ 1 ≤ M.wait ∧ M.wait ≤ 16 ∧ 1 ≤ M.fill ∧ M.fill ≤ 65536 ∧ M.none_ = 0 ∧ M.none2 = 0)
    (b : 65536 ≤ M.weak ∧ M.weak ≤ M.strong ∧ M.strong ≤ 1099511627776 ∧ 0 ≤ M.least ∧ M.least ≤ M.most ∧ M.most ≤ 16777216)
    (c : 0 ≤ M.leak ∧ M.leak ≤ 1048576 ∧ 0 ≤ M.bleedLow ∧ M.bleedLow ≤ M.bleedHigh ∧ M.bleedHigh ≤ 1048576 ∧ 0 ≤ M.off ∧ M.off ≤ 1048576 ∧ 0 ≤ M.fuse ∧ M.fuse ≤ 4194304 ∧ M.most * M.fuse ≤ 8589934592)
    (d : 0 ≤ M.near ∧ M.near ≤ 1073741824 ∧ 0 ≤ M.like ∧ M.like ≤ 1073741824 ∧ -17179869184 ≤ M.low ∧ M.low ≤ M.high ∧ M.high ≤ 17179869184)
    (e : M.curve.length = 33 ∧ 0 ≤ point M 0 ∧ point M 32 ≤ 8589934592 ∧ ∀ k, k < 32 → point M k < point M (k + 1)) : goodMake M = true := by
  unfold goodMake
  simp only [Bool.and_eq_true, decide_eq_true_eq]
  have r : Kp113.rising M.curve = true := rising_iff.mpr fun k hk => e.2.2.2 k (by omega)
  refine ⟨⟨⟨?_, r⟩, e.2.1⟩, by have := e.2.2.1; omega⟩
  refine ⟨?_, ?_, ?_, ?_, ?_, ?_, ?_, ?_, ?_, ?_, ?_, ?_, ?_, ?_, ?_, ?_, ?_, ?_, ?_, ?_, ?_, ?_, ?_, ?_, ?_, ?_⟩ <;> omega

/-- the five looks of the program, as one -/
theorem good_iff {M : Make} (h : isMake M) : goodMake M = true ↔ ((1 ≤ M.cells ∧ M.cells ≤ 16 ∧ 1 ≤ M.wait ∧ M.wait ≤ 16 ∧ 1 ≤ M.fill ∧ M.fill ≤ 65536 ∧ M.none_ = 0 ∧ M.none2 = 0) ∧
    (65536 ≤ M.weak ∧ M.weak ≤ M.strong ∧ M.strong ≤ 1099511627776 ∧ 0 ≤ M.least ∧ M.least ≤ M.most ∧ M.most ≤ 16777216) ∧
    (0 ≤ M.leak ∧ M.leak ≤ 1048576 ∧ 0 ≤ M.bleedLow ∧ M.bleedLow ≤ M.bleedHigh ∧ M.bleedHigh ≤ 1048576 ∧ 0 ≤ M.off ∧ M.off ≤ 1048576 ∧ 0 ≤ M.fuse ∧ M.fuse ≤ 4194304 ∧ M.most * M.fuse ≤ 8589934592) ∧
    (0 ≤ M.near ∧ M.near ≤ 1073741824 ∧ 0 ≤ M.like ∧ M.like ≤ 1073741824 ∧ -17179869184 ≤ M.low ∧ M.low ≤ M.high ∧ M.high ≤ 17179869184) ∧
    (M.curve.length = 33 ∧ 0 ≤ point M 0 ∧ point M 32 ≤ 8589934592 ∧ ∀ k, k < 32 → point M k < point M (k + 1))) := by
  constructor
  · intro g
    have G := GM.of h g
    have z : M.none_ = 0 ∧ M.none2 = 0 := by
      have g2 := g
      unfold goodMake at g2
      simp only [Bool.and_eq_true, decide_eq_true_eq] at g2
      obtain ⟨⟨⟨a, r⟩, p0⟩, p32⟩ := g2
      exact ⟨by omega, by omega⟩
    exact ⟨⟨G.c1, G.c2, G.w1, G.w2, G.f1, G.f2, z.1, z.2⟩, ⟨G.k1, G.k2, G.k3, G.l0, G.l1, G.l2⟩, ⟨G.e0, G.e1, G.b0, G.b1, G.b2, G.o0, G.o1, G.u0, G.u1, G.mf⟩, ⟨G.n0, G.n1, G.i0, G.i1, G.lo, G.lh, G.hi⟩, G.len, G.p0, G.p32, G.ris⟩
  · rintro ⟨a, b, c, d, e⟩
    exact GM.to h a b c d e

/-! ### the curve -/
theorem GM.mono {M : Make} (G : GM M) : ∀ {i j : Nat}, i ≤ j → j ≤ 32 → point M i ≤ point M j := by
  intro i j hij
  induction j with
  | zero => intro _; have : i = 0 := by omega
            subst this; exact Int.le_refl _
  | succ j ih =>
    intro hj
    by_cases e : i = j + 1
    · subst e; exact Int.le_refl _
    · have := ih (by omega) (by omega)
      have := G.ris j (by omega)
      omega
theorem GM.strict {M : Make} (G : GM M) {i j : Nat} (hij : i < j) (hj : j ≤ 32) : point M i < point M j := by
  have := G.ris i (by omega)
  have := G.mono (i := i + 1) (j := j) (by omega) hj
  omega

theorem first32_eq {f : Nat → Bool} {k : Nat} (hk : k < 32) (hf : f k = true) (hu : ∀ j, j < k → f j = false) : first32 f = k := by
  unfold first32
  have : (List.range 32).find? f = some k := by
    rw [List.find?_range_eq_some]
    refine ⟨hf, List.mem_range.mpr hk, fun j hj => ?_⟩
    rw [hu j hj]; rfl
  rw [this]; rfl

theorem atDown_eq {M : Make} (G : GM M) {x : Int} {k : Nat} (hk : k < 32) (h1 : point M k < x) (h2 : x ≤ point M (k + 1)) :
    atDown M x = (k : Int) * W + down ((x - point M k) * W) (point M (k + 1) - point M k) := by
  have e : (first32 fun k => decide (point M k < x) && decide (x ≤ point M (k + 1))) = k := by
    refine first32_eq hk (by simp [h1, h2]) fun j hj => ?_
    have := G.mono (i := j + 1) (j := k) (by omega) (by omega)
    simp only [Bool.and_eq_false_iff, decide_eq_false_iff_not]
    right; omega
  unfold atDown
  rw [e]
theorem atUp_eq {M : Make} (G : GM M) {y : Int} {k : Nat} (hk : k < 32) (h1 : point M k ≤ y) (h2 : y < point M (k + 1)) :
    atUp M y = (k : Int) * W + up ((y - point M k) * W) (point M (k + 1) - point M k) := by
  have e : (first32 fun k => decide (point M k ≤ y) && decide (y < point M (k + 1))) = k := by
    refine first32_eq hk (by simp [h1, h2]) fun j hj => ?_
    have := G.mono (i := j + 1) (j := k) (by omega) (by omega)
    simp only [Bool.and_eq_false_iff, decide_eq_false_iff_not]
    right; omega
  unfold atUp
  rw [e]

/-- the curve at a charge, W times -/
def tt (M : Make) (z : Int) : Int := if z = 4294967296 then point M 32 * 134217728 else point M (z / 134217728).toNat * 134217728 + (point M ((z / 134217728).toNat + 1) - point M (z / 134217728).toNat) * (z % 134217728)

theorem tt_seg {M : Make} {z : Int} (h0 : 0 ≤ z) (h1 : z ≤ 4294967296) : tt M z = point M (stretch z) * 134217728 + (point M (stretch z + 1) - point M (stretch z)) * (z - (stretch z : Int) * 134217728) := by
  unfold tt
  by_cases e : z = 4294967296
  · subst e
    have : stretch 4294967296 = 31 := by decide
    rw [if_pos rfl, this]
    have e2 : (4294967296 - ((31 : Nat) : Int) * 134217728 : Int) = 134217728 := by decide
    rw [e2, Int.sub_mul]
    show point M 32 * _ = _ + (point M 32 * _ - _)
    omega
  · have : stretch z = (z / 134217728).toNat := by
      unfold stretch
      show min 31 (z / 134217728).toNat = _
      omega
    rw [if_neg e, this]
    have e2 : z - (((z / 134217728).toNat : Nat) : Int) * 134217728 = z % 134217728 := by omega
    rw [e2]
theorem stretch_le (z : Int) : stretch z ≤ 31 := by unfold stretch; omega
theorem atLeast_eq {M : Make} {z y : Int} (h0 : 0 ≤ z) (h1 : z ≤ 4294967296) : atLeast M z y = decide (y * 134217728 ≤ tt M z) := by
  unfold atLeast
  rw [tt_seg h0 h1]
  show decide ((y - point M (stretch z)) * 134217728 ≤ (point M (stretch z + 1) - point M (stretch z)) * (z - (stretch z : Int) * 134217728)) = _
  rw [Int.sub_mul]
  refine decide_eq_decide.mpr ⟨fun h => ?_, fun h => ?_⟩ <;> omega
theorem atMost_eq {M : Make} {z y : Int} (h0 : 0 ≤ z) (h1 : z ≤ 4294967296) : atMost M z y = decide (tt M z ≤ y * 134217728) := by
  unfold atMost
  rw [tt_seg h0 h1]
  show decide ((point M (stretch z + 1) - point M (stretch z)) * (z - (stretch z : Int) * 134217728) ≤ (y - point M (stretch z)) * 134217728) = _
  rw [Int.sub_mul]
  refine decide_eq_decide.mpr ⟨fun h => ?_, fun h => ?_⟩ <;> omega

theorem stretch_mono {z z' : Int} (h : z ≤ z') : stretch z ≤ stretch z' := by
  unfold stretch
  have : z / W ≤ z' / W := Int.ediv_le_ediv (by decide) h
  omega
theorem seg_lo {z : Int} (h0 : 0 ≤ z) : 0 ≤ z - (stretch z : Int) * 134217728 := by
  unfold stretch
  have e : z / W = z / 134217728 := rfl
  rw [e]; omega
theorem seg_hi {z : Int} (h0 : 0 ≤ z) (h1 : z ≤ 4294967296) : z - (stretch z : Int) * 134217728 ≤ 134217728 := by
  unfold stretch
  have e : z / W = z / 134217728 := rfl
  rw [e]; omega
theorem tt_mono {M : Make} (G : GM M) {z z' : Int} (h0 : 0 ≤ z) (h : z ≤ z') (h1 : z' ≤ 4294967296) : tt M z ≤ tt M z' := by
  rw [tt_seg h0 (by omega), tt_seg (by omega) h1]
  have a := seg_lo h0
  have b := seg_hi h0 (by omega)
  have a' := seg_lo (z := z') (by omega)
  have sm := stretch_mono h
  have sl := stretch_le z
  have sl' := stretch_le z'
  have r := G.ris (stretch z) (by omega)
  have r' := G.ris (stretch z') (by omega)
  by_cases e : stretch z = stretch z'
  · rw [← e]
    have := Int.mul_le_mul_of_nonneg_left (c := point M (stretch z + 1) - point M (stretch z)) (a := z - (stretch z : Int) * 134217728) (b := z' - (stretch z : Int) * 134217728) (by omega) (by omega)
    omega
  · have m := G.mono (i := stretch z + 1) (j := stretch z') (by omega) (by omega)
    have u := Int.mul_le_mul_of_nonneg_left (c := point M (stretch z + 1) - point M (stretch z)) b (by omega)
    have v := Int.mul_nonneg (a := point M (stretch z' + 1) - point M (stretch z')) (by omega) a'
    have u2 := Int.sub_mul (point M (stretch z + 1)) (point M (stretch z)) 134217728
    have w : point M (stretch z + 1) * 134217728 ≤ point M (stretch z') * 134217728 := by omega
    omega

/-! ### up, down -/
theorem up_mono {x y d : Int} (hd : 0 < d) (h : x ≤ y) : up x d ≤ up y d := by
  unfold up
  rw [Int.fdiv_eq_ediv_of_nonneg _ (by omega), Int.fdiv_eq_ediv_of_nonneg _ (by omega)]
  have := Int.ediv_le_ediv (a := -y) (b := -x) hd (by omega)
  omega
theorem up_nonneg {x d : Int} (hd : 0 < d) (h : 0 ≤ x) : 0 ≤ up x d := by
  have := up_mono hd h
  have e : up 0 d = 0 := by unfold up; simp
  omega
theorem GM.wp {M : Make} (G : GM M) : 0 < M.weak := by have := G.k1; omega
theorem GM.sp {M : Make} (G : GM M) : 0 < M.strong := by have := G.k1; have := G.k2; omega
theorem GM.fall0 {M : Make} (G : GM M) : 0 ≤ fall M := up_nonneg G.wp (Int.mul_nonneg (by have := G.u0; have := G.e0; have := G.b0; have := G.b1; omega) (by decide))
theorem GM.rise0 {M : Make} (G : GM M) : 0 ≤ rise M := up_nonneg G.wp (Int.mul_nonneg G.u0 (by decide))

theorem safeBelow_mono {M : Make} (G : GM M) {z z' k : Int} (hk : 1 ≤ k) (h : z ≤ z') (h1 : z' ≤ 4294967296) (s : safeBelow M z k = true) : safeBelow M z' k = true := by
  unfold safeBelow at s ⊢
  have f0 := G.fall0
  rw [Bool.and_eq_true, decide_eq_true_eq] at s ⊢
  obtain ⟨s1, s2⟩ := s
  have m1 : (k - 1) * fall M = k * fall M - fall M := by rw [Int.sub_mul]; omega
  have m2 : 0 ≤ (k - 1) * fall M := Int.mul_nonneg (by omega) f0
  refine ⟨by omega, ?_⟩
  rw [atLeast_eq (by omega) (by omega), decide_eq_true_eq] at s2 ⊢
  have := tt_mono G (z := z - (k - 1) * fall M) (z' := z' - (k - 1) * fall M) (by omega) (by omega) (by omega)
  omega
theorem safeAbove_mono {M : Make} (G : GM M) {z z' k : Int} (hk : 1 ≤ k) (h : z' ≤ z) (h1 : 0 ≤ z') (s : safeAbove M z k = true) : safeAbove M z' k = true := by
  unfold safeAbove at s ⊢
  have f0 := G.rise0
  rw [Bool.and_eq_true, decide_eq_true_eq] at s ⊢
  obtain ⟨s1, s2⟩ := s
  have e : FULL = 4294967296 := rfl
  rw [e] at s1 ⊢
  have m1 : (k - 1) * rise M = k * rise M - rise M := by rw [Int.sub_mul]; omega
  have m2 : 0 ≤ (k - 1) * rise M := Int.mul_nonneg (by omega) f0
  refine ⟨by omega, ?_⟩
  rw [atMost_eq (by omega) (by omega), decide_eq_true_eq] at s2 ⊢
  have := tt_mono G (z := z' + (k - 1) * rise M) (z' := z + (k - 1) * rise M) (by omega) (by omega) (by omega)
  omega

theorem give_anti {M : Make} (G : GM M) {p : Pr} (hp : p.lo ≤ 4294967296) {i j : Int} (hi : 0 ≤ i) (h : i ≤ j) (s : mayGive M p j = true) : mayGive M p i = true := by
  unfold mayGive at s ⊢
  have o := G.o0; have u := G.u0; have e := G.e0; have b := G.b0; have b1 := G.b1
  have m : up ((min (i + M.off) M.fuse + M.leak + M.bleedHigh) * FULL) M.weak ≤ up ((min (j + M.off) M.fuse + M.leak + M.bleedHigh) * FULL) M.weak := by
    refine up_mono G.wp (Int.mul_le_mul_of_nonneg_right ?_ (by decide))
    omega
  have z : 0 ≤ up ((min (i + M.off) M.fuse + M.leak + M.bleedHigh) * FULL) M.weak := up_nonneg G.wp (Int.mul_nonneg (by omega) (by decide))
  exact safeBelow_mono G G.w1 (by omega) (by omega) s
theorem take_anti {M : Make} (G : GM M) {p : Pr} (hp : 0 ≤ p.hi) {i j : Int} (hi : 0 ≤ i) (h : i ≤ j) (s : mayTake M p j = true) : mayTake M p i = true := by
  unfold mayTake at s ⊢
  have o := G.o0; have u := G.u0
  have m : up (min (i + M.off) M.fuse * FULL) M.weak ≤ up (min (j + M.off) M.fuse * FULL) M.weak := by
    refine up_mono G.wp (Int.mul_le_mul_of_nonneg_right ?_ (by decide))
    omega
  have z : 0 ≤ up (min (i + M.off) M.fuse * FULL) M.weak := up_nonneg G.wp (Int.mul_nonneg (by omega) (by decide))
  exact safeAbove_mono G G.w1 (by omega) (by omega) s

/-! ### the greatest -/
theorem fold_greatest {f : Int → Bool} {n r : Int} (hr0 : 0 ≤ r) (hrn : r ≤ n) (anti : ∀ i j, 0 ≤ i → i ≤ j → f j = true → f i = true) (hr : f r = true) (hm : r = n ∨ f (r + 1) = false) :
    ∀ (j : Nat) (s : Int), 0 ≤ s → s ≤ r → r < s + 2 ^ j → (List.range j).reverse.foldl (fun s k => if s + 2 ^ k ≤ n ∧ f (s + 2 ^ k) = true then s + 2 ^ k else s) s = r := by
  intro j
  induction j with
  | zero =>
    intro s h0 h1 h2
    have : (2 : Int) ^ 0 = 1 := rfl
    show s = r
    omega
  | succ j ih =>
    intro s h0 h1 h2
    rw [List.range_succ, List.reverse_append]
    show (List.range j).reverse.foldl _ (if s + 2 ^ j ≤ n ∧ f (s + 2 ^ j) = true then s + 2 ^ j else s) = r
    have e : (2 : Int) ^ (j + 1) = 2 ^ j * 2 := Int.pow_succ 2 j
    have p : (0 : Int) < 2 ^ j := Int.pow_pos (by decide)
    by_cases c : s + 2 ^ j ≤ n ∧ f (s + 2 ^ j) = true
    · rw [if_pos c]
      refine ih _ (by omega) ?_ (by omega)
      refine Int.not_lt.mp fun q => ?_
      rcases hm with hm | hm
      · omega
      · have := anti (r + 1) (s + 2 ^ j) (by omega) (by omega) c.2
        rw [hm] at this; cases this
    · rw [if_neg c]
      refine ih _ h0 h1 (Int.not_le.mp fun q => c ⟨by omega, anti _ r (by omega) q hr⟩)
theorem greatest_eq {f : Int → Bool} {n r : Int} (hn : n ≤ 4194304) (hr0 : 0 ≤ r) (hrn : r ≤ n) (anti : ∀ i j, 0 ≤ i → i ≤ j → f j = true → f i = true) (hr : f r = true) (hm : r = n ∨ f (r + 1) = false) : greatest f n = r := by
  unfold greatest
  have h0 : f 0 = true := anti 0 r (Int.le_refl _) hr0 hr
  rw [h0, if_neg (by decide)]
  exact fold_greatest hr0 hrn anti hr hm 23 0 (Int.le_refl _) hr0 (by have : (0 : Int) + 2 ^ 23 = 8388608 := by decide
                                                                      omega)
theorem greatest_none {f : Int → Bool} {n : Int} (h : f 0 = false) : greatest f n = 4294967295 := by
  unfold greatest
  rw [h, if_pos rfl]; rfl
end BK
end
section
set_option linter.unusedVariables false
namespace BK
open Kp113 (Make Pr FULL W point isMake goodMake)
open Kp115 (Abs)

theorem leastOf_eq {l : List Int} {m : Int} (h1 : m ∈ l) (h2 : ∀ x ∈ l, m ≤ x) : l.foldl min (l.headD 0) = m := by
  have key : ∀ (l : List Int) (a : Int), (∀ x ∈ l, m ≤ x) → m ≤ a → (m ∈ l ∨ a = m) → l.foldl min a = m := by
    intro l
    induction l with
    | nil => intro a _ _ h; rcases h with h | h
             · cases h
             · exact h
    | cons x r ih =>
      intro a h ha hm
      rw [List.foldl_cons]
      have hx := h x (.head _)
      refine ih _ (fun y hy => h y (.tail _ hy)) (by omega) ?_
      rcases hm with hm | hm
      · rcases List.mem_cons.mp hm with e | e
        · right; omega
        · left; exact e
      · right; omega
  cases l with
  | nil => cases h1
  | cons x r => exact key (x :: r) x h2 (h2 x (.head _)) (.inl h1)
theorem mostOf_eq {l : List Int} {m : Int} (h1 : m ∈ l) (h2 : ∀ x ∈ l, x ≤ m) : l.foldl max (l.headD 0) = m := by
  have key : ∀ (l : List Int) (a : Int), (∀ x ∈ l, x ≤ m) → a ≤ m → (m ∈ l ∨ a = m) → l.foldl max a = m := by
    intro l
    induction l with
    | nil => intro a _ _ h; rcases h with h | h
             · cases h
             · exact h
    | cons x r ih =>
      intro a h ha hm
      rw [List.foldl_cons]
      have hx := h x (.head _)
      refine ih _ (fun y hy => h y (.tail _ hy)) (by omega) ?_
      rcases hm with hm | hm
      · rcases List.mem_cons.mp hm with e | e
        · right; omega
        · left; exact e
      · right; omega
  cases l with
  | nil => cases h1
  | cons x r => exact key (x :: r) x h2 (h2 x (.head _)) (.inl h1)

/-- the program's own state of a keeper -/
structure KS where
  m : Make
  cells : List Pr
  bled : List Bool
  asked : Bool
  sw : Int
  f : Int
  o : Int

def sumL (l : List Int) : Int := l.foldl (· + ·) 0
theorem foldl_sum : ∀ (l : List Int) (a : Int), l.foldl (· + ·) a = a + l.sum
  | [], a => by simp
  | x :: r, a => by rw [List.foldl_cons, foldl_sum r, List.sum_cons]; omega
theorem sum_eq (l : List Int) : Kp115.sum l = l.sum := by
  unfold Kp115.sum; rw [foldl_sum]; omega

def cellK (S : KS) (i : Int) (v : List Int) (k : Nat) : Option Pr := Kp115.cellTick S.m (S.cells.getD k Kp113.all) i (v.getD k 0) (S.bled.getD k false)
def cellsK (S : KS) (i : Int) (v : List Int) : Option (List Pr) := Kp115.every ((List.range S.cells.length).map (cellK S i v))
def fillK (S : KS) (link volt : Int) : KS :=
  if 15 * volt ≤ 16 * link then { S with sw := 2 } else if S.f + 1 = S.m.fill then { S with sw := 3, f := S.f + 1 } else { S with f := S.f + 1 }
def turnK (S : KS) (link volt : Int) : KS :=
  if S.sw = 0 then (if (S.asked && Kp115.good S.m S.cells) = true then { S with sw := 1, f := 0 } else S)
  else if (S.asked && Kp115.good S.m S.cells) = true then (if S.sw = 1 then fillK S link volt else S) else { S with sw := 0 }
def longK (S : KS) (i : Int) : Bool := decide (S.m.wait < S.o) && decide (S.m.off < if i < 0 then -i else i)
def afterK (T : KS) : KS := if T.sw = 3 then T else { T with bled := Kp115.bleeds T.m T.cells, o := if T.sw = 0 then (if 65535 < T.o + 1 then 65535 else T.o + 1) else 0 }
def clearK (T : KS) : KS := if T.sw = 3 then { T with bled := List.replicate T.m.cells.toNat false } else T
def goK (S : KS) (i link : Int) (v : List Int) : KS :=
  if longK S i = true then { S with sw := 3 }
  else match cellsK S i v with
    | none => { S with sw := 3 }
    | some l => afterK (turnK { S with cells := l } link v.sum)
def tickK (S : KS) (i link : Int) (v : List Int) : KS := if S.sw = 3 then S else clearK (goK S i link v)

def PrOk (p : Pr) : Prop := 0 ≤ p.lo ∧ p.lo ≤ p.hi ∧ p.hi ≤ 4294967296
/-- a keeper's state as the document tells it, and as the program has it -/
structure Rel (S : KS) (A : Abs) : Prop where
  m : S.m = A.m
  gm : GM A.m
  cells : S.cells = A.cells
  bled : S.bled = A.bled
  asked : S.asked = A.asked
  sw : S.sw = (A.sw : Int)
  sw4 : A.sw ≤ 3
  clen : A.cells.length = A.m.cells.toNat
  blen : A.bled.length = A.m.cells.toNat
  prs : ∀ p ∈ A.cells, PrOk p
  n0 : A.sw ≠ 1 → A.n = 0
  n1 : A.sw = 1 → S.f = A.n ∧ 0 ≤ A.n ∧ A.n < A.m.fill
  o : A.sw ≠ 3 → S.o = A.idle
  o0 : 0 ≤ A.idle ∧ A.idle ≤ 65535

theorem every_len {α : Type} : ∀ {l : List (Option α)} {m : List α}, Kp115.every l = some m → m.length = l.length
  | [], m, h => by cases h; rfl
  | none :: _, m, h => by cases h
  | some a :: r, m, h => by
    unfold Kp115.every at h
    obtain ⟨q, hq, rfl⟩ := Option.map_eq_some_iff.mp h
    simp [every_len hq]
theorem every_mem {α : Type} : ∀ {l : List (Option α)} {m : List α}, Kp115.every l = some m → ∀ x ∈ m, some x ∈ l
  | [], m, h, x, hx => by cases h; cases hx
  | none :: _, m, h, _, _ => by cases h
  | some a :: r, m, h, x, hx => by
    unfold Kp115.every at h
    obtain ⟨q, hq, rfl⟩ := Option.map_eq_some_iff.mp h
    rcases List.mem_cons.mp hx with e | e
    · rw [e]; exact .head _
    · exact .tail _ (every_mem hq x e)
theorem every_snoc {α : Type} {a : α} : ∀ {l : List (Option α)} {m : List α}, Kp115.every l = some m → Kp115.every (l ++ [some a]) = some (m ++ [a])
  | [], m, h => by cases h; rfl
  | none :: _, m, h => by cases h
  | some b :: r, m, h => by
    unfold Kp115.every at h
    obtain ⟨q, hq, rfl⟩ := Option.map_eq_some_iff.mp h
    show (Kp115.every (r ++ [some a])).map _ = _
    rw [every_snoc hq]; rfl
theorem every_none {α : Type} : ∀ {l r : List (Option α)}, Kp115.every (l ++ none :: r) = none
  | [], r => rfl
  | none :: _, r => rfl
  | some b :: l, r => by
    show (Kp115.every (l ++ none :: r)).map _ = _
    rw [every_none]; rfl
theorem cells_none {S : KS} {i : Int} {v : List Int} {k : Nat} (hk : k < S.cells.length) (h : cellK S i v k = none) : cellsK S i v = none := by
  unfold cellsK
  obtain ⟨n, hn⟩ : ∃ n, S.cells.length = k + (n + 1) := ⟨S.cells.length - k - 1, by omega⟩
  have e : (List.range S.cells.length).map (cellK S i v) = (List.range k).map (cellK S i v) ++ none :: (List.range n).map (fun x => cellK S i v (k + (x + 1))) := by
    rw [hn, List.range_add, List.map_append, List.map_map, List.range_succ_eq_map, List.map_cons, List.map_map]
    congr 1
    rw [← h]
    rfl
  rw [e]; exact every_none

theorem pair_ok {a b : Int} {q : Pr} (h : Kp113.pair a b = some q) : q.lo = a ∧ q.hi = b ∧ a ≤ b := by
  unfold Kp113.pair at h
  split at h
  · cases h; exact ⟨rfl, rfl, by assumption⟩
  · cases h
theorem step_ok {M : Make} {p q : Pr} {i : Int} {b : Bool} (h : Kp113.step M p i b = some q) : PrOk q := by
  unfold Kp113.step at h
  split at h
  · cases h
  · obtain ⟨e1, e2, e3⟩ := pair_ok h
    have : FULL = 4294967296 := rfl
    refine ⟨?_, ?_, ?_⟩ <;> omega
theorem cell_ok {S : KS} {i : Int} {v : List Int} {k : Nat} {q : Pr} (h : cellK S i v k = some q) : PrOk q := by
  unfold cellK Kp115.cellTick at h
  obtain ⟨r, _, h2⟩ := Option.bind_eq_some_iff.mp h
  exact step_ok h2
theorem cells_ok {S : KS} {i : Int} {v : List Int} {l : List Pr} (h : cellsK S i v = some l) : l.length = S.cells.length ∧ ∀ p ∈ l, PrOk p := by
  unfold cellsK at h
  refine ⟨by rw [every_len h]; simp, fun p hp => ?_⟩
  obtain ⟨k, _, e⟩ := List.mem_map.mp (every_mem h p hp)
  exact cell_ok e

theorem Rel.broken {S : KS} {A : Abs} (R : Rel S A) {f o : Int} {cs : List Pr} (hl : cs.length = A.cells.length) (hc : ∀ p ∈ cs, PrOk p) :
    Rel { S with cells := cs, bled := List.replicate S.m.cells.toNat false, sw := 3, f := f, o := o } { Kp115.broken A with cells := cs } := by
  have e : Kp115.noBleed A = List.replicate A.m.cells.toNat false := by unfold Kp115.noBleed; rw [R.clen]
  exact ⟨R.m, R.gm, rfl, by rw [R.m]; exact e.symm, R.asked, rfl, (by decide : 3 ≤ 3), hl.trans R.clen, by show (Kp115.noBleed A).length = _; rw [e]; simp; rfl, hc, fun _ => rfl, fun h => absurd (show 3 = 1 from h) (by decide),
    fun h => absurd rfl h, ⟨Int.le_refl _, show (0 : Int) ≤ 65535 by decide⟩⟩

theorem cells_same {S : KS} {A : Abs} (R : Rel S A) (i : Int) (v : List Int) : cellsK S i v = Kp115.cellsTick A i v := by
  unfold cellsK Kp115.cellsTick
  rw [R.cells]
  congr 1
  refine List.map_congr_left fun k _ => ?_
  unfold cellK
  rw [R.cells, R.m, R.bled]

theorem turn_next {S : KS} {A : Abs} (R : Rel S A) (h3 : A.sw ≠ 3) (l : List Pr) (link : Int) (v : List Int) : ∃ (T : KS) (sw : Nat) (n : Int), turnK { S with cells := l } link v.sum = T ∧ Kp115.next A (Kp115.good A.m l) v link = (sw, n) ∧
    T.m = S.m ∧ T.cells = l ∧ T.bled = S.bled ∧ T.asked = S.asked ∧ T.o = S.o ∧ T.sw = (sw : Int) ∧ sw ≤ 3 ∧ (sw ≠ 1 → n = 0) ∧ (sw = 1 → T.f = n ∧ 0 ≤ n ∧ n < A.m.fill) := by
  have may : (S.asked && Kp115.good S.m l) = (A.asked && Kp115.good A.m l) := by rw [R.asked, R.m]
  unfold turnK Kp115.next
  dsimp only
  rw [may]
  have f1 := R.gm.f1
  generalize (A.asked && Kp115.good A.m l) = b
  by_cases s0 : A.sw = 0
  · have s0' : S.sw = 0 := by rw [R.sw, s0]; rfl
    rw [if_pos s0, if_pos s0']
    cases b with
    | true => exact ⟨_, 1, 0, if_pos rfl, if_pos rfl, rfl, rfl, rfl, rfl, rfl, rfl, by decide, fun h => absurd rfl h, fun _ => ⟨rfl, Int.le_refl _, by omega⟩⟩
    | false => exact ⟨_, 0, 0, if_neg (by decide), if_neg (by decide), rfl, rfl, rfl, rfl, rfl, s0', by decide, fun _ => rfl, fun h => absurd h (by decide)⟩
  · have s0' : ¬ S.sw = 0 := by rw [R.sw]; omega
    rw [if_neg s0, if_neg s0']
    cases b with
    | false =>
      refine ⟨_, 0, 0, if_neg (by decide), ?_, rfl, rfl, rfl, rfl, rfl, rfl, by decide, fun _ => rfl, fun h => absurd h (by decide)⟩
      by_cases s1 : A.sw = 1
      · rw [if_pos s1, if_pos rfl]
      · rw [if_neg s1, if_neg (by decide)]
    | true =>
      rw [if_pos rfl]
      by_cases s1 : A.sw = 1
      · have s1' : S.sw = 1 := by rw [R.sw, s1]; rfl
        obtain ⟨n1, n2, n3⟩ := R.n1 s1
        rw [if_pos s1, if_pos s1', if_neg (by decide), sum_eq]
        unfold fillK
        dsimp only
        by_cases c : 15 * v.sum ≤ 16 * link
        · rw [if_pos c, if_pos c]
          exact ⟨_, 2, 0, rfl, rfl, rfl, rfl, rfl, rfl, rfl, rfl, by decide, fun _ => rfl, fun h => absurd h (by decide)⟩
        · rw [if_neg c, if_neg c, R.m, n1]
          by_cases c2 : A.n + 1 = A.m.fill
          · rw [if_pos c2, if_pos (by omega)]
            exact ⟨_, 3, 0, rfl, rfl, rfl, rfl, rfl, rfl, rfl, rfl, by decide, fun _ => rfl, fun h => absurd h (by decide)⟩
          · rw [if_neg c2, if_neg (by omega)]
            exact ⟨_, 1, A.n + 1, rfl, rfl, rfl, rfl, rfl, rfl, rfl, s1', by decide, fun h => absurd rfl h, fun _ => ⟨rfl, by omega, by omega⟩⟩
      · have s1' : ¬ S.sw = 1 := by rw [R.sw]; omega
        have s2 : A.sw = 2 := by have := R.sw4; omega
        have s2' : S.sw = 2 := by rw [R.sw, s2]; rfl
        rw [if_neg s1, if_neg s1', if_pos rfl]
        exact ⟨_, 2, 0, rfl, rfl, rfl, rfl, rfl, rfl, rfl, s2', by decide, fun _ => rfl, fun h => absurd h (by decide)⟩

theorem clear3 {S : KS} {A : Abs} (R : Rel S A) : Rel (clearK { S with sw := 3 }) (Kp115.broken A) := by
  have := R.broken (f := S.f) (o := S.o) (cs := S.cells) (by rw [R.cells]) (by rw [R.cells]; exact R.prs)
  rw [show ({ Kp115.broken A with cells := S.cells } : Abs) = Kp115.broken A by rw [R.cells]; rfl] at this
  unfold clearK
  rw [if_pos rfl]
  exact this
theorem after_rel {S T : KS} {A : Abs} {l : List Pr} {sw : Nat} {n : Int} (R : Rel S A) (h3 : A.sw ≠ 3) (ll' : l.length = A.cells.length) (lp : ∀ p ∈ l, PrOk p) (t1 : T.m = S.m) (t2 : T.cells = l) (t4 : T.asked = S.asked) (t5 : T.o = S.o) (t6 : T.sw = (sw : Int)) (t7 : sw ≤ 3)
    (t8 : sw ≠ 1 → n = 0) (t9 : sw = 1 → T.f = n ∧ 0 ≤ n ∧ n < A.m.fill) :
    Rel (clearK (afterK T)) (if sw = 3 then { Kp115.broken A with cells := l } else { A with cells := l, bled := Kp115.bleeds A.m l, sw := sw, n := n, idle := if sw = 0 then min 65535 (A.idle + 1) else 0 }) := by
  have bl : (Kp115.bleeds A.m l).length = A.m.cells.toNat := by unfold Kp115.bleeds; rw [List.length_map, ll']; exact R.clen
  by_cases w3 : sw = 3
  · have w3' : T.sw = 3 := by rw [t6, w3]; rfl
    rw [if_pos w3]
    have e : afterK T = T := if_pos w3'
    rw [e]
    unfold clearK
    rw [if_pos w3']
    have := R.broken (f := T.f) (o := T.o) (cs := l) ll' lp
    rw [show ({ T with bled := List.replicate T.m.cells.toNat false } : KS) = { S with cells := l, bled := List.replicate S.m.cells.toNat false, sw := 3, f := T.f, o := T.o } by rw [← t1, ← t2, ← t4, ← w3']]
    exact this
  · have w3' : ¬ T.sw = 3 := by rw [t6]; omega
    have e : afterK T = { T with bled := Kp115.bleeds T.m T.cells, o := if T.sw = 0 then (if 65535 < T.o + 1 then 65535 else T.o + 1) else 0 } := if_neg w3'
    rw [if_neg w3, e]
    unfold clearK
    rw [if_neg (show ¬ ({ T with bled := Kp115.bleeds T.m T.cells, o := if T.sw = 0 then (if 65535 < T.o + 1 then 65535 else T.o + 1) else 0 } : KS).sw = 3 from w3')]
    have oi := R.o0
    refine ⟨t1.trans R.m, R.gm, t2, by show Kp115.bleeds T.m T.cells = _; rw [t1, t2, R.m], t4.trans R.asked, t6, t7, ll'.trans R.clen, bl, lp, t8, t9, fun _ => ?_, ?_⟩
    · show (if T.sw = 0 then (if 65535 < T.o + 1 then 65535 else T.o + 1) else 0) = if sw = 0 then min 65535 (A.idle + 1) else 0
      rw [t6, t5, R.o h3]
      by_cases z : sw = 0
      · rw [if_pos z, if_pos (by omega)]
        split <;> omega
      · rw [if_neg z, if_neg (by omega)]
    · show 0 ≤ (if sw = 0 then min 65535 (A.idle + 1) else 0) ∧ (if sw = 0 then min 65535 (A.idle + 1) else 0) ≤ 65535
      split <;> omega
theorem tick_rel {S : KS} {A : Abs} (R : Rel S A) (i link : Int) (v : List Int) : Rel (tickK S i link v) (Kp115.tick A i v link) := by
  unfold tickK Kp115.tick
  by_cases h3 : A.sw = 3
  · rw [if_pos h3, if_pos (by rw [R.sw, h3]; rfl)]
    exact R
  · have h3' : ¬ S.sw = 3 := by rw [R.sw]; omega
    rw [if_neg h3, if_neg h3']
    have hl : longK S i = true ↔ (A.m.wait < A.idle ∧ (A.m.off < i ∨ i < -A.m.off)) := by
      unfold longK
      rw [R.m, R.o h3, Bool.and_eq_true, decide_eq_true_eq, decide_eq_true_eq]
      have := R.gm.o0
      refine ⟨fun ⟨a, b⟩ => ⟨a, ?_⟩, fun ⟨a, b⟩ => ⟨a, ?_⟩⟩
      · split at b <;> omega
      · split <;> omega
    unfold goK
    by_cases h1 : longK S i = true
    · rw [if_pos h1, if_pos (hl.mp h1)]
      exact clear3 R
    · rw [if_neg h1, if_neg fun q => h1 (hl.mpr q)]
      have hcc := cells_same R i v
      cases hc : Kp115.cellsTick A i v with
      | none =>
        rw [hcc, hc]
        exact clear3 R
      | some l =>
        have hc' : cellsK S i v = some l := hcc.trans hc
        rw [hc']
        obtain ⟨ll, lp⟩ := cells_ok hc'
        have ll' : l.length = A.cells.length := by rw [ll, R.cells]
        obtain ⟨T, sw, n, e1, e2, t1, t2, t3, t4, t5, t6, t7, t8, t9⟩ := turn_next R h3 l link v
        show Rel (clearK (afterK (turnK { S with cells := l } link v.sum))) _
        rw [e1]
        have := after_rel R h3 ll' lp t1 t2 t4 t5 t6 t7 t8 t9
        have e3 : (Kp115.next A (Kp115.good A.m l) v link).1 = sw := by rw [e2]
        have e4 : (Kp115.next A (Kp115.good A.m l) v link).2 = n := by rw [e2]
        rw [← e3, ← e4] at this
        exact this
end BK
end
section
set_option linter.unusedVariables false
namespace BK
open Kp113 (Make Pr isMake goodMake)
open Kp115 (Abs)
open Kp115Neutral (S step does callOf askedFrom asked1 may starts wrKp115_Ans)

def mkOf (ns row : List Int) : Make := ⟨ns.getD 0 0, ns.getD 1 0, ns.getD 2 0, ns.getD 3 0, ns.getD 4 0, ns.getD 5 0, ns.getD 6 0, ns.getD 7 0, ns.getD 8 0, ns.getD 9 0, ns.getD 10 0, ns.getD 11 0, ns.getD 12 0, ns.getD 13 0, ns.getD 14 0, ns.getD 15 0, ns.getD 16 0, ns.getD 17 0, row⟩

/-- a call as the program has it: its number, its numbers, its row -/
inductive Is : Int → List Int → List Int → Kp115.Call → Prop
  | start (ns row : List Int) (h : ns.length = 18) (hm : isMake (mkOf ns row)) : Is 0 ns row (.start (mkOf ns row))
  | ask (on : Int) (h : 0 ≤ on) : Is 1 [on] [] (.ask on.toNat)
  | tick (i link : Int) (row : List Int) (h : row.length = 16) : Is 2 [i, link] row (.tick i row link)
  | cell (k : Int) (h : 0 ≤ k) (h2 : k < 9223372036854775808) : Is 3 [k] [] (.cell k.toNat)
  | state : Is 4 [] [] .state

theorem whole_id (c : List (List Int)) : PyKp115.whole c = c := by
  unfold PyKp115.whole
  split <;> rfl

structure Lp (ns : List Int) (b : Nat) (s : S) (out : List Int) : Prop where
  le : b ≤ ns.length
  ex : ∃ fuel cs, PyFlat.calls PyKp115.shape fuel (ns.drop b) = some cs ∧ askedFrom s cs = true ∧ PyKp115.answers ns = out ++ PyFlat.told (PyFlat.played step s cs)
  len : out.length ≤ 8 * b

theorem Lp.start {ns : List Int} (h : PyKp115.answers_asked ns = true) : Lp ns 0 none [] := by
  unfold PyKp115.answers_asked at h
  cases e : PyFlat.calls PyKp115.shape ns.length ns with
  | none =>
    have e2 : PyKp115.calls ns = none := by unfold PyKp115.calls; rw [e]
    rw [e2] at h; cases h
  | some cs =>
    have e2 : PyKp115.calls ns = some cs := by
      unfold PyKp115.calls; rw [e]
      show some (cs.map PyKp115.whole) = some cs
      have : PyKp115.whole = id := funext whole_id
      rw [this, List.map_id]
    rw [e2] at h
    have h2 : (PyFlat.atMost 3000 cs && Kp115Neutral.asked cs) = true := h
    rw [Bool.and_eq_true] at h2
    have h3 := h2.2
    unfold Kp115Neutral.asked at h3
    rw [Bool.and_eq_true, Bool.and_eq_true] at h3
    refine ⟨Nat.zero_le _, ⟨ns.length, cs, by rw [List.drop_zero]; exact e, h3.2.2, ?_⟩, Nat.le_refl _⟩
    unfold PyKp115.answers
    rw [e2]; rfl
theorem Lp.done {ns : List Int} {b : Nat} {s : S} {out : List Int} (L : Lp ns b s out) (h : ¬ b < ns.length) : PyKp115.answers ns = out := by
  obtain ⟨fuel, cs, h1, h2, h3⟩ := L.ex
  have e : ns.drop b = [] := List.drop_eq_nil_of_le (by omega)
  rw [e] at h1
  have : PyFlat.calls PyKp115.shape fuel [] = some [] := by cases fuel <;> rfl
  rw [this] at h1
  cases h1
  rw [h3]
  show out ++ [] = out
  rw [List.append_nil]

theorem list18 {l : List Int} (h : l.length = 18) : ∃ s0 s1 s2 s3 s4 s5 s6 s7 s8 s9 s10 s11 s12 s13 s14 s15 s16 s17, l = [s0, s1, s2, s3, s4, s5, s6, s7, s8, s9, s10, s11, s12, s13, s14, s15, s16, s17] := by
  match l, h with
  | [s0, s1, s2, s3, s4, s5, s6, s7, s8, s9, s10, s11, s12, s13, s14, s15, s16, s17], _ => exact ⟨_, _, _, _, _, _, _, _, _, _, _, _, _, _, _, _, _, _, rfl⟩

theorem is_of {p : Int} {n k : Nat} {nums : List Int} {xs : List (List Int)} {s : S} (hs : PyKp115.shape p = some (n, k)) (hn : nums.length = n) (hx : xs.length = k) (h1 : asked1 ((p :: nums) :: xs) = true)
    (h2 : (match callOf ((p :: nums) :: xs) with | some x => may s x | none => false) = true) :
    ∃ x row, callOf ((p :: nums) :: xs) = some x ∧ may s x = true ∧ Is p nums row x ∧ ((k = 0 ∧ row = [] ∧ xs = []) ∨ (k = 1 ∧ xs = [row])) := by
  unfold PyKp115.shape at hs
  by_cases p0 : p = 0
  · rw [if_pos p0] at hs
    cases hs
    subst p0
    obtain ⟨s0, s1, s2, s3, s4, s5, s6, s7, s8, s9, s10, s11, s12, s13, s14, s15, s16, s17, rfl⟩ := list18 hn
    match xs, hx with
    | [row], _ =>
      have hm : may s (.start (mkOf [s0, s1, s2, s3, s4, s5, s6, s7, s8, s9, s10, s11, s12, s13, s14, s15, s16, s17] row)) = true := h2
      refine ⟨_, row, rfl, hm, .start _ row rfl ?_, .inr ⟨rfl, rfl⟩⟩
      unfold may at hm
      rw [Bool.and_eq_true] at hm
      have hd := @of_decide_eq_true _ (Kp115Neutral.preDec _) hm.2
      exact hd
  · rw [if_neg p0] at hs
    by_cases p1 : p = 1
    · rw [if_pos p1] at hs
      cases hs
      subst p1
      match nums, hn, xs, hx with
      | [on], _, [], _ =>
        have hq : Kp115Neutral.natural on 63 = true := h1
        unfold Kp115Neutral.natural at hq
        rw [Bool.and_eq_true, decide_eq_true_eq, decide_eq_true_eq] at hq
        exact ⟨_, [], rfl, h2, .ask on hq.1, .inl ⟨rfl, rfl, rfl⟩⟩
    · rw [if_neg p1] at hs
      by_cases p2 : p = 2
      · rw [if_pos p2] at hs
        cases hs
        subst p2
        match nums, hn, xs, hx with
        | [i, link], _, [row], _ =>
          have hm : may s (.tick i row link) = true := h2
          refine ⟨_, row, rfl, hm, .tick i link row ?_, .inr ⟨rfl, rfl⟩⟩
          unfold may at hm
          rw [Bool.and_eq_true] at hm
          have hd := @of_decide_eq_true _ (Kp115Neutral.preDec _) hm.2
          exact hd
      · rw [if_neg p2] at hs
        by_cases p3 : p = 3
        · rw [if_pos p3] at hs
          cases hs
          subst p3
          match nums, hn, xs, hx with
          | [k], _, [], _ =>
            have hq : Kp115Neutral.natural k 63 = true := h1
            unfold Kp115Neutral.natural at hq
            rw [Bool.and_eq_true, decide_eq_true_eq, decide_eq_true_eq] at hq
            exact ⟨_, [], rfl, h2, .cell k hq.1 (by have := hq.2; omega), .inl ⟨rfl, rfl, rfl⟩⟩
        · rw [if_neg p3] at hs
          by_cases p4 : p = 4
          · rw [if_pos p4] at hs
            cases hs
            subst p4
            match nums, hn, xs, hx with
            | [], _, [], _ => exact ⟨_, [], rfl, h2, .state, .inl ⟨rfl, rfl, rfl⟩⟩
          · rw [if_neg p4] at hs
            cases hs

def rowB : List Bool := [true, false, true, false, false]
def numsB : List Int := [18, 1, 2, 1, 0]
theorem shape_ix {p : Int} {n k : Nat} (hs : PyKp115.shape p = some (n, k)) : ∃ j : Nat, p = (j : Int) ∧ numsB[j]? = some (n : Int) ∧ ((k = 0 ∧ rowB[j]? = some false) ∨ (k = 1 ∧ rowB[j]? = some true)) := by
  unfold PyKp115.shape at hs
  by_cases p0 : p = 0
  · rw [if_pos p0] at hs; cases hs; exact ⟨0, p0, rfl, .inr ⟨rfl, rfl⟩⟩
  · rw [if_neg p0] at hs
    by_cases p1 : p = 1
    · rw [if_pos p1] at hs; cases hs; exact ⟨1, p1, rfl, .inl ⟨rfl, rfl⟩⟩
    · rw [if_neg p1] at hs
      by_cases p2 : p = 2
      · rw [if_pos p2] at hs; cases hs; exact ⟨2, p2, rfl, .inr ⟨rfl, rfl⟩⟩
      · rw [if_neg p2] at hs
        by_cases p3 : p = 3
        · rw [if_pos p3] at hs; cases hs; exact ⟨3, p3, rfl, .inl ⟨rfl, rfl⟩⟩
        · rw [if_neg p3] at hs
          by_cases p4 : p = 4
          · rw [if_pos p4] at hs; cases hs; exact ⟨4, p4, rfl, .inl ⟨rfl, rfl⟩⟩
          · rw [if_neg p4] at hs; cases hs

/-- the next call of a list -/
structure Nx (ns : List Int) (b : Nat) (s : S) (out : List Int) (j n : Nat) (hr : Bool) (nums row : List Int) (e : Nat) (x : Kp115.Call) : Prop where
  at_ : ns[b]? = some (j : Int)
  num : numsB[j]? = some (n : Int)
  has : rowB[j]? = some hr
  nms : nums = (ns.drop (b + 1)).take n
  nlen : nums.length = n
  in1 : b + 1 + n ≤ ns.length
  no : hr = false → row = [] ∧ e = b + 1 + n
  yes : hr = true → ∃ m : Nat, ns[b + 1 + n]? = some (m : Int) ∧ row = (ns.drop (b + 1 + n + 1)).take m ∧ row.length = m ∧ e = b + 1 + n + 1 + m
  in2 : e ≤ ns.length
  lt : b < e
  is : Is (j : Int) nums row x
  may : may s x = true
  next : (wrKp115_Ans (does s x).2).length ≤ 7 → Lp ns e (does s x).1 (out ++ ((wrKp115_Ans (does s x).2).length : Int) :: wrKp115_Ans (does s x).2)

theorem Lp.next {ns : List Int} {b : Nat} {s : S} {out : List Int} (L : Lp ns b s out) (h : b < ns.length) : ∃ j n hr nums row e x, Nx ns b s out j n hr nums row e x := by
  obtain ⟨fuel, cs, h1, h2, h3⟩ := L.ex
  have len := L.len
  have ed : ns.drop b = ns[b] :: ns.drop (b + 1) := List.drop_eq_getElem_cons h
  rw [ed] at h1
  have hp : ns[b]? = some ns[b] := List.getElem?_eq_getElem h
  generalize ns[b] = p at h1 hp
  cases fuel with
  | zero => cases h1
  | succ fuel =>
    unfold PyFlat.calls at h1
    cases hc : PyFlat.call PyKp115.shape (p :: ns.drop (b + 1)) with
    | none => rw [hc] at h1; cases h1
    | some ct =>
      obtain ⟨c, t⟩ := ct
      rw [hc] at h1
      dsimp only at h1
      cases hr : PyFlat.calls PyKp115.shape fuel t with
      | none => rw [hr] at h1; cases h1
      | some cs' =>
        rw [hr] at h1
        cases h1
        unfold PyFlat.call at hc
        dsimp only at hc
        cases hs : PyKp115.shape p with
        | none => rw [hs] at hc; cases hc
        | some nk =>
          obtain ⟨n, k⟩ := nk
          rw [hs] at hc
          dsimp only at hc
          by_cases hl : (ns.drop (b + 1)).length < n
          · rw [if_pos hl] at hc; cases hc
          · rw [if_neg hl] at hc
            rw [List.length_drop] at hl
            cases hw : PyFlat.rows k ((ns.drop (b + 1)).drop n) with
            | none => rw [hw] at hc; cases hc
            | some xt =>
              obtain ⟨xs, t'⟩ := xt
              rw [hw] at hc
              cases hc
              rw [List.drop_drop] at hw
              have nl : ((ns.drop (b + 1)).take n).length = n := by rw [List.length_take, List.length_drop]; omega
              rw [show askedFrom s (((p :: (ns.drop (b + 1)).take n) :: xs) :: cs') = (asked1 ((p :: (ns.drop (b + 1)).take n) :: xs) && (match callOf ((p :: (ns.drop (b + 1)).take n) :: xs) with | some x => Kp115Neutral.may s x | none => false) && askedFrom (step s ((p :: (ns.drop (b + 1)).take n) :: xs)).1 cs') from rfl, Bool.and_eq_true, Bool.and_eq_true] at h2
              obtain ⟨⟨q1, q2⟩, q3⟩ := h2
              obtain ⟨j, rfl, hj, hk⟩ := shape_ix hs
              have stp : ∀ {x : Kp115.Call}, callOf (((j : Int) :: (ns.drop (b + 1)).take n) :: xs) = some x → step s (((j : Int) :: (ns.drop (b + 1)).take n) :: xs) = ((does s x).1, wrKp115_Ans (does s x).2) := fun e => by
                unfold step; rw [e]
              have nxt : ∀ {x : Kp115.Call} {e : Nat}, callOf (((j : Int) :: (ns.drop (b + 1)).take n) :: xs) = some x → e ≤ ns.length → b < e → ns.drop e = t → (wrKp115_Ans (does s x).2).length ≤ 7 → Lp ns e (does s x).1 (out ++ ((wrKp115_Ans (does s x).2).length : Int) :: wrKp115_Ans (does s x).2) := by
                intro x e ex he hbe het hlen
                have sx := stp ex
                refine ⟨he, ⟨fuel, cs', by rw [het]; exact hr, by rw [sx] at q3; exact q3, ?_⟩, ?_⟩
                · rw [h3]
                  show out ++ PyFlat.told ((step s (((j : Int) :: (ns.drop (b + 1)).take n) :: xs)).2 :: PyFlat.played step (step s (((j : Int) :: (ns.drop (b + 1)).take n) :: xs)).1 cs') = _
                  rw [sx]
                  unfold PyFlat.told
                  rw [List.flatMap_cons, List.append_assoc]
                · rw [List.length_append, List.length_cons]
                  omega
              rcases hk with ⟨rfl, hk⟩ | ⟨rfl, hk⟩
              · cases hw
                obtain ⟨x, row, hx1, hx2, hx3, hx4⟩ := is_of hs nl rfl q1 q2
                rcases hx4 with ⟨_, rfl, _⟩ | ⟨z, _⟩
                · exact ⟨j, n, false, _, [], b + 1 + n, x, ⟨hp, hj, hk, rfl, nl, by omega, fun _ => ⟨rfl, rfl⟩, fun z => (Bool.noConfusion z), by omega, by omega, hx3, hx2, nxt hx1 (by omega) (by omega) rfl⟩⟩
                · cases z
              · unfold PyFlat.rows at hw
                cases hrow : PyFlat.row (ns.drop (b + 1 + n)) with
                | none => rw [hrow] at hw; cases hw
                | some xs2 =>
                  obtain ⟨r0, t2⟩ := xs2
                  rw [hrow] at hw
                  cases hw
                  obtain ⟨x, row, hx1, hx2, hx3, hx4⟩ := is_of hs nl rfl q1 q2
                  rcases hx4 with ⟨z, _⟩ | ⟨_, z⟩
                  · cases z
                  · cases z
                    by_cases hb2 : b + 1 + n < ns.length
                    · rw [List.drop_eq_getElem_cons hb2] at hrow
                      unfold PyFlat.row at hrow
                      dsimp only at hrow
                      have hm : ns[b + 1 + n]? = some ns[b + 1 + n] := List.getElem?_eq_getElem hb2
                      generalize ns[b + 1 + n] = m at hrow hm
                      by_cases hc2 : 0 ≤ m ∧ m.toNat ≤ (ns.drop (b + 1 + n + 1)).length
                      · rw [if_pos hc2] at hrow
                        cases hrow
                        obtain ⟨m0, m1⟩ := hc2
                        rw [List.length_drop] at m1
                        have em : m = (m.toNat : Int) := by omega
                        refine ⟨j, n, true, _, _, b + 1 + n + 1 + m.toNat, x, ⟨hp, hj, hk, rfl, nl, by omega, fun z => (Bool.noConfusion z), fun _ => ⟨m.toNat, by rw [← em]; exact hm, rfl, ?_, rfl⟩, by omega, by omega, hx3, hx2, nxt hx1 (by omega) (by omega) ?_⟩⟩
                        · rw [List.length_take, List.length_drop]; omega
                        · rw [List.drop_drop]
                      · rw [if_neg hc2] at hrow; cases hrow
                    · rw [List.drop_eq_nil_of_le (by omega)] at hrow
                      cases hrow
end BK
end
section
set_option linter.unusedVariables false
namespace BK
open Kp113 (Make Pr isMake goodMake)
open Kp115 (Abs)
open Kp115Neutral (S does wrKp115_Ans)

theorem wr_num (v : Int) : wrKp115_Ans (.num v) = [0, v] := rfl
theorem wr_pair (p : Pr) : wrKp115_Ans (.pair p) = [1, p.lo, p.hi] := rfl
theorem wr_out (v a b c d : Int) : wrKp115_Ans (.out v [a, b, c, d]) = [2, v, 4, a, b, c, d] := rfl

def startK (M : Make) : KS := ⟨M, List.replicate M.cells.toNat ⟨0, 4294967296⟩, List.replicate M.cells.toNat false, false, 0, 0, 65535⟩
theorem start_rel {M : Make} (G : GM M) : Rel (startK M) (Kp115.start M) :=
  ⟨rfl, G, rfl, rfl, rfl, rfl, (by decide : 0 ≤ 3), by show (List.replicate _ _).length = _; rw [List.length_replicate]; rfl, by show (List.replicate _ _).length = _; rw [List.length_replicate]; rfl,
    fun p hp => by
      have hp' : p ∈ List.replicate M.cells.toNat Kp113.all := hp
      rw [List.eq_of_mem_replicate hp']
      exact ⟨by decide, by decide, by decide⟩, fun _ => rfl, fun h => absurd (show 0 = 1 from h) (by decide), fun _ => rfl, (show (0 : Int) ≤ 65535 ∧ (65535 : Int) ≤ 65535 by decide)⟩
theorem act_start (a : Abs) (M : Make) : Kp115.act a (.start M) = if goodMake M = false then (a, .num (-22)) else (Kp115.start M, .num 0) := rfl
theorem does_start (s : S) (M : Make) : does s (.start M) = if goodMake M = true then (some (Kp115.start M), .num 0) else (s, .num (-22)) := by
  by_cases g : goodMake M = true
  · have e : ∀ a, Kp115.act a (.start M) = (Kp115.start M, .num 0) := fun a => by rw [act_start, if_neg (by rw [g]; decide)]
    rw [if_pos g]
    cases s with
    | none =>
      show (if Kp115Neutral.began (Kp115.act Kp115Neutral.dummy (.start M)).2 = true then some (Kp115.act Kp115Neutral.dummy (.start M)).1 else none, (Kp115.act Kp115Neutral.dummy (.start M)).2) = _
      rw [e]; rfl
    | some a =>
      show (some (Kp115.act a (.start M)).1, (Kp115.act a (.start M)).2) = _
      rw [e]
  · have e : ∀ a, Kp115.act a (.start M) = (a, .num (-22)) := fun a => by rw [act_start, if_pos (Bool.eq_false_iff.mpr g)]
    rw [if_neg g]
    cases s with
    | none =>
      show (if Kp115Neutral.began (Kp115.act Kp115Neutral.dummy (.start M)).2 = true then some (Kp115.act Kp115Neutral.dummy (.start M)).1 else none, (Kp115.act Kp115Neutral.dummy (.start M)).2) = _
      rw [e]; rfl
    | some a =>
      show (some (Kp115.act a (.start M)).1, (Kp115.act a (.start M)).2) = _
      rw [e]
theorem does_ask (A : Abs) (on : Nat) : does (some A) (.ask on) = (some { A with asked := on != 0 }, .num 0) := rfl
theorem ask_rel {S : KS} {A : Abs} (R : Rel S A) (b : Bool) : Rel { S with asked := b } { A with asked := b } :=
  ⟨R.m, R.gm, R.cells, R.bled, rfl, R.sw, R.sw4, R.clen, R.blen, R.prs, R.n0, R.n1, R.o, R.o0⟩
theorem does_cell (A : Abs) (k : Nat) : does (some A) (.cell k) = (some A, match A.cells[k]? with | none => .num (-2) | some p => .pair p) := rfl
theorem does_state (A : Abs) : does (some A) .state = (some A, .out 0 [(A.sw : Nat), if A.asked then 1 else 0, Kp115.mask A.bled, A.n]) := rfl
theorem does_tick (A : Abs) (i link : Int) (v : List Int) : does (some A) (.tick i v link) = (some (Kp115.tick A i (v.take A.cells.length) link),
    .out (Kp115.tick A i (v.take A.cells.length) link).sw [((Kp115.tick A i (v.take A.cells.length) link).sw : Nat), Kp115.mask (Kp115.tick A i (v.take A.cells.length) link).bled, (Kp115.most (Kp115.tick A i (v.take A.cells.length) link)).1, (Kp115.most (Kp115.tick A i (v.take A.cells.length) link)).2]) := rfl

/-- the bits of the bled cells, of the first i -/
def bitsTo (l : List Bool) (i : Nat) : List Int := ((List.range i).filter fun k => l.getD k false).map fun k => (2 : Int) ^ k
theorem bitsTo_succ (l : List Bool) (i : Nat) : bitsTo l (i + 1) = if l.getD i false = true then bitsTo l i ++ [(2 : Int) ^ i] else bitsTo l i := by
  unfold bitsTo
  rw [List.range_succ, List.filter_append, List.map_append]
  by_cases h : l.getD i false = true
  · rw [if_pos h]
    simp only [List.filter_cons, h, if_true, List.filter_nil, List.map_cons, List.map_nil]
  · rw [if_neg h]
    simp only [List.filter_cons, h, List.filter_nil]
    simp
theorem bits_sum (l : List Bool) : ∀ i : Nat, (bitsTo l i).sum = (List.range i).foldl (fun s k => if l.getD k false then s + 2 ^ k else s) 0 := by
  intro i
  induction i with
  | zero => rfl
  | succ i ih =>
    rw [bitsTo_succ, List.range_succ, List.foldl_append]
    show _ = if l.getD i false then (List.range i).foldl _ 0 + 2 ^ i else (List.range i).foldl _ 0
    by_cases h : l.getD i false = true
    · rw [if_pos h, if_pos h, List.sum_append, ih]; simp
    · rw [if_neg h, if_neg h, ih]
theorem mask_eq (l : List Bool) : (bitsTo l l.length).sum = Kp115.mask l := bits_sum l l.length
theorem bitsTo_len (l : List Bool) (i : Nat) : (bitsTo l i).length ≤ i := by
  unfold bitsTo
  rw [List.length_map]
  exact Nat.le_trans (List.length_filter_le _ _) (by simp)

theorem bleed_eq {M : Make} {l : List Pr} {least : Int} (h1 : least ∈ l.map (·.hi)) (h2 : ∀ y ∈ l.map (·.hi), least ≤ y) (p : Pr) :
    (decide (least < p.lo) && decide (Kp114.fall M ≤ p.lo)) = (decide (Kp114.fall M ≤ p.lo) && l.any fun q => decide (q.hi < p.lo)) := by
  rw [Bool.and_comm]
  congr 1
  rw [Bool.eq_iff_iff, decide_eq_true_eq, List.any_eq_true]
  constructor
  · intro h
    obtain ⟨q, hq, e⟩ := List.mem_map.mp h1
    exact ⟨q, hq, decide_eq_true (by rw [e]; exact h)⟩
  · rintro ⟨q, hq, h⟩
    have := of_decide_eq_true h
    have := h2 q.hi (List.mem_map_of_mem hq)
    omega

def oneOf (x : List Int) : Int := if x.contains Kp114.NONE then Kp114.NONE else Kp115.leastOf x
theorem most_closed {A : Abs} (h : A.sw = 2) : Kp115.most A = (oneOf (A.cells.map fun p => (Kp114.most A.m p).1), oneOf (A.cells.map fun p => (Kp114.most A.m p).2)) := by
  unfold Kp115.most
  rw [if_pos h]
  simp only [List.map_map]
  rfl
theorem most_open {A : Abs} (h : A.sw ≠ 2) : Kp115.most A = (0, 0) := by
  unfold Kp115.most
  rw [if_neg h]
theorem one_in {x : List Int} (h : (4294967295 : Int) ∈ x) : oneOf x = 4294967295 := by
  unfold oneOf
  rw [if_pos (by rw [List.contains_iff_mem]; exact h)]
  rfl
theorem one_min {x : List Int} {m : Int} (h : ¬ (4294967295 : Int) ∈ x) (h1 : m ∈ x) (h2 : ∀ y ∈ x, m ≤ y) : oneOf x = m := by
  unfold oneOf
  rw [if_neg (by rw [List.contains_iff_mem]; exact h)]
  exact leastOf_eq h1 h2
end BK
end
section
set_option Elab.async false
set_option linter.all false
set_option maxRecDepth 100000
namespace L2
open PySem PySem.Spec PyProof.Rows
section
variable {X : Cx}
/-- // by a number above 0 -/
def CDivB (i j : Int) : Prop := 0 < j ∧ j < 18446744073709551616
theorem op_fdivB : OpR X (binaryOp .FloorDiv) (rI CDivB fun i j => .int (i.fdiv j)) := opI fun i j _ _ _ _ _ hc q => by
  have h0 : j.natAbs ≠ 0 := by have := hc.1; omega
  have h1 : j.natAbs < 2 ^ 64 := by have := hc.1; have := hc.2; omega
  have h2 : j.natAbs.log2 < 64 := (Nat.log2_lt h0).mpr h1
  exact floordiv_int (by have := hc.1; omega) q (.inl (PyProof.noPylong_of_log2 (by omega)))
variable {a b c d : Expr} {ta tb tc td : TE} {pos : Pos}
/-- a op1 b op2 c op3 d -/
def tChain3 (r r' r'' : R2) (ta tb tc td : TE) : TE := fun σ H Q => ta σ H fun x H1 => tb σ H1 fun y H2 => r x y H2 fun z H3 => ∃ k, z = .bl k ∧
  (if k = true then tc σ H3 fun y' H4 => r' y y' H4 fun z' H5 => ∃ k', z' = .bl k' ∧ (if k' = true then td σ H5 fun w' H6 => r'' y' w' H6 Q else Q (.bl false) H5) else Q (.bl false) H3)
theorem pe_chain3 {op op' op'' : CmpOp} {r r' r'' : R2} (ho : OpR X (compareOp op) r) (ho' : OpR X (compareOp op') r') (ho'' : OpR X (compareOp op'') r'') (ha : PE X a ta) (hb : PE X b tb) (hc : PE X c tc) (hd : PE X d td)
    (hm : lastMarks [op, op', op''] [b, c, d] = false := by with_unfolding_all rfl) : PE X (.Compare a [op, op', op''] [b, c, d] pos) (tChain3 r r' r'' ta tb tc td) := by
  intro pins s σ H Q I h
  refine Compare_chain (thn (ha pins s σ H _ I h) fun v s1 ⟨x, H1, I1, r1, q1⟩ => chain_link (thn (hb pins s1 σ H1 _ I1 q1) fun u s2 ⟨y, H2, I2, r2, q2⟩ =>
    thn (ho pins s2 σ H2 x y v u _ I2 r1 r2 q2) fun d s3 ⟨z, H3, I3, r3, k, e, q3⟩ => ?_)) hm
  subst e
  cases r3
  refine wpAny_truthy_bool ?_
  cases k with
  | false => exact ite_ff ⟨.bl false, H3, I3, rfl, q3⟩
  | true =>
    refine ite_tt (chain_link (thn (hc pins s3 σ H3 _ I3 q3) fun u' s4 ⟨y', H4, I4, r4, q4⟩ => thn (ho' pins s4 σ H4 y y' u u' _ I4 r2 r4 q4) fun d' s5 ⟨z', H5, I5, r5, k', e', q5⟩ => ?_))
    subst e'
    cases r5
    refine wpAny_truthy_bool ?_
    cases k' with
    | false => exact ite_ff ⟨.bl false, H5, I5, rfl, q5⟩
    | true => exact ite_tt (chain_last (thn (hd pins s5 σ H5 _ I5 q5) fun w' s6 ⟨z2, H6, I6, r6, q6⟩ => ho'' pins s6 σ H6 y' z2 u' w' Q I6 r4 r6 q6))
/-- a number of the text's top -/
def GI (mg : Str → Option Value) (x : Str) (i : Int) : Prop := ∃ t, mg x = some (.int i t)
theorem pe_gint {x : Str} {i : Int} {pos : Pos} (hg : Gl X x) (h : GI X.mg x i) (hd : (x == ("__debug__" : Str)) = false := by decide) : PE X (.Name x pos) (tC (.int i)) := by
  obtain ⟨t, e⟩ := h
  exact pe_glob hg e ⟨t, rfl⟩ hd
theorem pe_gref {x : Str} {a : Addr} {pos : Pos} (hg : Gl X x) (h : X.mg x = some (.ref a)) (hd : (x == ("__debug__" : Str)) = false := by decide) : PE X (.Name x pos) (tC (.ref a)) := pe_glob hg h rfl hd
end
/-- a def of the text that keeps its promise -/
def Df (P : Program) (w : World) (K : PySem.W.Frag) (mg : Str → Option Value) (base : Heap) (x : Str) (k : Nat) (ps : List Str) (sp : Sp) : Prop :=
  ∃ f fd, FnOk P w K mg base CX0 k f fd ps sp ∧ mg x = some (.ref f) ∧ PySem.W.keepIn K (.ref f) = true ∧ Binds K fd ps []
theorem pe_def {X : Cx} {x : Str} {k : Nat} {ps : List Str} {sp : Sp} {p pos : Pos} {e : Expr} {es : List Expr} {t : TA} (D : Df X.prog X.w X.K X.mg X.base x k ps sp) (hr : Room k X.A) (hg : Gl X x) (ha : PA X (e :: es) t)
    (hdb : (x == ("__debug__" : Str)) = false := by decide) (he : starEach (e :: es) X.env = (false, eval e X.env) :: starEach es X.env := by rfl) (hpl : (backTo pos (starEach es X.env)).any (·.1) = false := by rfl) :
    PE X (.Call (.Name x p) (e :: es) [] pos) (tCall sp [] E0 t) := by
  obtain ⟨f, fd, F, hm, hk, hb⟩ := D
  exact pe_call F hr hg hm hk hb .nil pass0 ha hdb he hpl
/-- a def as it stands behind the top -/
def DefAt (K : PySem.W.Frag) (mg : Str → Option Value) (x : Str) (st : Stmt) (ps : List Str) : Prop :=
  ∃ f fd, Fun K x x st f fd ∧ mg x = some (.ref f) ∧ Binds K fd ps []
theorem DefAt.df {P : Program} {w : World} {K : PySem.W.Frag} {mg : Str → Option Value} {base : Heap} {x : Str} {st : Stmt} {k : Nat} {ps : List Str} {sp : Sp} (A : DefAt K mg x st ps)
    (h : ∀ f fd, Fun K x x st f fd → FnOk P w K mg base CX0 k f fd ps sp) : Df P w K mg base x k ps sp := by
  obtain ⟨f, fd, F, hm, hb⟩ := A
  exact ⟨f, fd, h f fd F, hm, F.kp, hb⟩
/-- a class of the text whose __init__ keeps its promise -/
def Dc (P : Program) (w : World) (K : PySem.W.Frag) (mg : Str → Option Value) (base : Heap) (x : Str) (C : Addr) (k : Nat) (ps : List Str) (sp : Sp) : Prop :=
  ∃ f fd, FnOk P w K mg base CX0 k f fd ps sp ∧ mg x = some (.ref C) ∧ Mk K C f ∧ Binds K fd ps []
theorem pe_cls {X : Cx} {x : Str} {C : Addr} {k : Nat} {ps : List Str} {sp : Sp} {p pos : Pos} {e : Expr} {es : List Expr} {t : TA} (D : Dc X.prog X.w X.K X.mg X.base x C k ps sp) (hr : Room (k + 1) X.A) (hg : Gl X x) (ha : PA X (e :: es) t)
    (hdb : (x == ("__debug__" : Str)) = false := by decide) (he : starEach (e :: es) X.env = (false, eval e X.env) :: starEach es X.env := by rfl) (hpl : (backTo pos (starEach es X.env)).any (·.1) = false := by rfl) :
    PE X (.Call (.Name x p) (e :: es) [] pos) (tMake C sp [] E0 t) := by
  obtain ⟨f, fd, F, hm, hk, hb⟩ := D
  exact pe_make hk F hr hg hm hb .nil pass0 ha hdb he hpl
theorem pe_cls0 {X : Cx} {x : Str} {C : Addr} {k : Nat} {ps : List Str} {sp : Sp} {p pos : Pos} (D : Dc X.prog X.w X.K X.mg X.base x C k ps sp) (hr : Room (k + 1) X.A) (hg : Gl X x)
    (hdb : (x == ("__debug__" : Str)) = false := by decide) : PE X (.Call (.Name x p) [] [] pos) (tMake C sp [] E0 tNil) := by
  obtain ⟨f, fd, F, hm, hk, hb⟩ := D
  exact pe_make0 hk F hr hg hm hb .nil pass0 hdb
def InitAt (K : PySem.W.Frag) (mg : Str → Option Value) (x qual : Str) (C : Addr) (st : Stmt) (ps : List Str) : Prop :=
  ∃ f fd, Fun K "__init__" qual st f fd ∧ mg x = some (.ref C) ∧ Mk K C f ∧ Binds K fd ps []
theorem InitAt.dc {P : Program} {w : World} {K : PySem.W.Frag} {mg : Str → Option Value} {base : Heap} {x qual : Str} {C : Addr} {st : Stmt} {k : Nat} {ps : List Str} {sp : Sp} (A : InitAt K mg x qual C st ps)
    (h : ∀ f fd, Fun K "__init__" qual st f fd → FnOk P w K mg base CX0 k f fd ps sp) : Dc P w K mg base x C k ps sp := by
  obtain ⟨f, fd, F, hm, hk, hb⟩ := A
  exact ⟨f, fd, h f fd F, hm, hk, hb⟩

/-! ### attributes by a list of names and a list of values -/
theorem zf_look : ∀ {ks : List Str} {vs : List V} {i : Nat} {x : Str} {v : V}, ks.Nodup → ks[i]? = some x → vs[i]? = some v → (ks.zip vs).lookup x = some v
  | [], _, _, _, _, _, h, _ => by simp at h
  | _ :: _, [], _, _, _, _, _, h => by simp at h
  | k :: ks, w :: vs, 0, x, v, nd, h1, h2 => by
    simp at h1 h2
    subst h1 h2
    simp [List.lookup_cons]
  | k :: ks, w :: vs, i + 1, x, v, nd, h1, h2 => by
    have n := List.nodup_cons.mp nd
    have h1' : ks[i]? = some x := by simpa using h1
    have hx : (x == k) = false := beq_eq_false_iff_ne.mpr fun e => n.1 (by rw [← e]; exact List.mem_of_getElem? h1')
    rw [List.zip_cons_cons, List.lookup_cons, hx]
    exact zf_look n.2 h1' (by simpa using h2)
theorem zf_none : ∀ {ks : List Str} {vs : List V} {x : Str}, x ∉ ks → (ks.zip vs).lookup x = none
  | [], _, _, _ => rfl
  | _ :: _, [], _, _ => rfl
  | k :: ks, w :: vs, x, h => by
    have hx : (x == k) = false := beq_eq_false_iff_ne.mpr fun e => h (by rw [e]; exact .head _)
    rw [List.zip_cons_cons, List.lookup_cons, hx]
    exact zf_none fun m => h (.tail _ m)
theorem zf_put : ∀ {ks : List Str} {vs : List V} {i : Nat} {x : Str} {v : V}, ks.Nodup → ks[i]? = some x → i < vs.length → putF x v (ks.zip vs) = ks.zip (vs.set i v)
  | [], _, _, _, _, _, h, _ => by simp at h
  | _ :: _, [], _, _, _, _, _, h => by simp at h
  | k :: ks, w :: vs, 0, x, v, nd, h1, h2 => by
    simp at h1
    subst h1
    show putF k v ((k, w) :: ks.zip vs) = (k, v) :: ks.zip vs
    unfold putF
    rw [if_pos rfl]
  | k :: ks, w :: vs, i + 1, x, v, nd, h1, h2 => by
    have n := List.nodup_cons.mp nd
    have h1' : ks[i]? = some x := by simpa using h1
    have hx : ¬ k = x := fun e => n.1 (by rw [e]; exact List.mem_of_getElem? h1')
    show putF x v ((k, w) :: ks.zip vs) = (k, w) :: ks.zip (vs.set i v)
    unfold putF
    rw [if_neg hx, zf_put n.2 h1' (by simpa using h2)]
theorem zf_new : ∀ {ks : List Str} {vs : List V} {x : Str} {v : V}, x ∉ ks → ks.length = vs.length → putF x v (ks.zip vs) = (ks ++ [x]).zip (vs ++ [v])
  | [], [], x, v, _, _ => rfl
  | [], _ :: _, _, _, _, h => by simp at h
  | _ :: _, [], _, _, _, h => by simp at h
  | k :: ks, w :: vs, x, v, h, hl => by
    have hx : ¬ k = x := fun e => h (by rw [e]; exact .head _)
    show putF x v ((k, w) :: ks.zip vs) = (k, w) :: (ks ++ [x]).zip (vs ++ [v])
    unfold putF
    rw [if_neg hx, zf_new (fun m => h (.tail _ m)) (by simpa using hl)]
end L2
end
section
set_option Elab.async false
set_option linter.all false
set_option maxRecDepth 100000
namespace L2
open PySem PySem.Spec PyProof.Rows
/-- the code object at c bears the name qual -/
def CodeO (c : Addr) (qual : Str) : HO := .ext fun h => h.CodeRec (.ref c) qual
theorem codeO_ok {P : Program} {w : World} {H : Hp} {h : Heap} {c : Addr} {qual : Str} (r : h.CodeRec (.ref c) qual) : ObjOk P w H h c (CodeO c qual) := by
  refine ⟨r, ?_, fun h1 h2 r1 k => ?_⟩
  · obtain ⟨c', o, vs, t, e, ho, _⟩ := r
    cases e
    exact ⟨o, ho⟩
  · obtain ⟨c', o, vs, t, e, ho, hd, hv⟩ := r1
    cases e
    exact ⟨c, o, vs, t, rfl, k o ho, hd, hv⟩
theorem codeO_rec {P : Program} {w : World} {H : Hp} {h : Heap} {c : Addr} {qual : Str} (ok : HOk P w H h) (e : H c = some (CodeO c qual)) : h.CodeRec (.ref c) qual := (ok c _ e).1

/-- a def within a def, of one parameter p; it reads names around it -/
structure InScope (N : List Str) (p : Str) (sc : Scope) : Prop where
  kind : sc.kind = .function
  co : sc.isCoroutine = false
  gen : sc.isGenerator = false
  nd : N.Nodup
  par : sc.names.lookup p = some .local
  n0 : N[0]? = some p
  nocell : ∀ y ∈ sc.names, y.2 ≠ .cell

def cxIn (P : Program) (w : World) (K : PySem.W.Frag) (mg : Str → Option Value) (base : Heap) (N : List Str) (qual : Str) (scope : Scope) (f c : Addr) (cl : List (Str × Addr)) (A : Around) (outer : List Env) (s : Shared) (H : Hp) : Cx where
  prog := P
  w := w
  K := K
  mg := mg
  base := base
  A := A.deeper (PySem.W.envX qual scope s.heap.objs.size f (.ref c) cl)
  N := N
  s_0 := s
  H_0 := H
  env := PySem.W.envX qual scope s.heap.objs.size f (.ref c) cl
  outer := outer
  stack := PySem.W.envX qual scope s.heap.objs.size f (.ref c) cl :: outer
  ex := []
  calm := true
  fn := fun _ => false
  pn := []
  xe := fun _ _ => False

theorem fn_in {P : Program} {w : World} {K : PySem.W.Frag} {mg : Str → Option Value} {base : Heap} {k : Nat} {f c : Addr} {fo : Obj} {name qual p : Str} {params : Arguments} {body : List Stmt} {scope : Scope} {cl : List (Str × Addr)} {doc pm ctv : Value} {N : List Str} {sp : Sp}
    {fv : Str → Option V} (ho : base.get? f = some fo) (hd : fo.data = .func (PySem.W.fnX name qual params body scope cl .none .none doc pm none (.ref c) ctv)) (S : InScope N p scope)
    (inj : ∀ x y a, cl.lookup x = some a → cl.lookup y = some a → x = y) (has : ∀ x, scope.names.lookup x = some .free → ∃ a, cl.lookup x = some a)
    (cells : ∀ x a, cl.lookup x = some a → ∃ v u, fv x = some v ∧ RelV v u ∧ base.IsCell a (some u))
    (code : ∀ vs H Q E, sp vs H Q E → H c = some (CodeO c qual)) (len : ∀ vs H Q E, sp vs H Q E → vs.length = 1)
    (σ0 : V → St) (sl : ∀ v, (σ0 v).length = N.length) (s0 : ∀ (v : V) (i : Nat) (x : Str) (v' : V), N[i]? = some x → (σ0 v)[i]? = some (some v') → (i = 0 ∧ v' = v) ∨ (scope.names.lookup x = some .free ∧ fv x = some v'))
    (hbody : ∀ (A : Around) (outer : List Env) (s : Shared) (H : Hp) (v : V) (Q : VK) (E : XK), Room k (A.deeper (PySem.W.envX qual scope s.heap.objs.size f (.ref c) cl)) → sp [v] H Q E →
      ∃ t, PSs (cxIn P w K mg base N qual scope f c cl A outer s H) body t ∧ t { nx := fun _ H' => Q .non H', rt := Q } (σ0 v) H) :
    FnOk P w K mg base CX0 (k + 1) f (PySem.W.fnX name qual params body scope cl .none .none doc pm none (.ref c) ctv) [p] sp := by
  refine ⟨len, fun A outer s H args us vs Q E hr e0 hb r hsp => ?_⟩
  have hl := len _ _ _ _ hsp
  obtain ⟨v, rfl⟩ : ∃ v, vs = [v] := by
    match vs, hl with
    | [v], _ => exact ⟨v, rfl⟩
  obtain ⟨u, rfl, ru⟩ := Vals.one r
  have fo' := (e0.bs f fo ho).1
  have lim : s.heap.NoLimit := e0.mod.nolimit.keeps fun b o e => (e0.bs b o e).1
  have crec := codeO_rec e0.hok (code _ _ _ _ hsp)
  refine codeAny_call_function hr.depth fo' hd S.co S.gen rfl crec (hb _ _ _ _ ?_)
  refine wpAny_newFunctionEnv S.nocell (fun y hy => ?_) (fun h' hns hsb => ?_) S.kind
  · obtain rfl : y = (p, u) := List.mem_singleton.mp hy
    exact S.par
  · have keep : ∀ b o, s.heap.get? b = some o → h'.get? b = some o := fun b o e => by
      have hne : b ≠ s.heap.objs.size := Nat.ne_of_lt (Heap.lt_size e)
      exact (hsb.2 b hne).trans (Heap.get?_push_of_some _ e)
    refine ⟨lim.keeps keep, codeAny_func ?_⟩
    obtain ⟨t, ht, hq⟩ := hbody A outer s H v Q E (hr.deeper _) hsp
    have noA : ∀ b : Addr, b ∉ (cxIn P w K mg base N qual scope f c cl A outer s H).ex := fun b z => absurd (show b ∈ ([] : List Addr) from z) (by simp)
    have I : Inv (cxIn P w K mg base N qual scope f c cl A outer s H) [] (σ0 v) H { s with heap := h', toks := s.toks + ([p].zip [u]).length } := by
      refine ⟨⟨e0.mod, S.kind, rfl, rfl, Nat.le_refl _, fun y z a h1 h2 => inj y z a h1 h2, fun y hy => ?_, fun y a z _ => Bool.noConfusion z, fun _ => hr.hd, Around.frames_deeper e0.frames, .inr ⟨rfl, rfl⟩, fun b z => absurd z (noA b), e0.bs, e0.bsz, fun b _ _ => noA b, fun b z => absurd z (noA b), e0.funs, e0.frf⟩,
        rfl, e0.bare, Un.kept keep, ⟨_, hns, fun i y v' h1 h2 h3 => ?_⟩, fun y a h => ?_, e0.hok.fresh (Nat.le_refl _), fun y a h => ?_, fun q hq => absurd (show q ∈ ([] : List (Addr × Obj)) from hq) (by simp), e0.hok.kept keep, sl v⟩
      · have hy : scope.names.lookup y = some .cell ∨ scope.names.lookup y = some .free := hy
        rcases hy with hy | hy
        · exact absurd rfl (S.nocell _ (PySem.mem_of_lookup hy))
        · exact has y hy
      · rcases s0 v i y v' h1 h2 with ⟨rfl, rfl⟩ | ⟨hf, hv⟩
        · have ey : y = p := Option.some.inj (h1.symm.trans S.n0)
          subst ey
          refine ⟨u, ru, .inl ⟨S.par, ?_⟩⟩
          show ([(y, u)] : List (Str × Value)).reverse.lookup y = some u
          simp [List.lookup_cons]
        · obtain ⟨a, ha⟩ := has y hf
          obtain ⟨v2, u2, e2, r2, c2⟩ := cells y a ha
          have : v2 = v' := Option.some.inj (e2.symm.trans hv)
          subst this
          refine ⟨u2, r2, .inr ⟨.inr hf, a, ha, ?_⟩⟩
          obtain ⟨o, ho2, hd2⟩ := c2
          exact ⟨o, keep a o (e0.bs a o ho2).1, hd2⟩
      · obtain ⟨v2, u2, e2, r2, o, ho2, hd2⟩ := cells y a h
        exact ⟨_, o, keep a o (e0.bs a o ho2).1, hd2⟩
      · obtain ⟨v2, u2, e2, r2, o, ho2, hd2⟩ := cells y a h
        exact (e0.bs a o ho2).2
    refine wpAny_mono (ht [] _ (σ0 v) H _ I hq) (fun fl s' hs => ?_) fun e s' hs => hs.elim
    have fin : ∀ {σ' : St} {H' : Hp} {v : V} {u : Value}, Inv (cxIn P w K mg base N qual scope f c cl A outer s H) [] σ' H' s' → RelV v u → Q v H' → CE outer P w H s Q u s' :=
      fun {σ' H' v u} J rv q => ⟨v, H', J.os, J.bare, J.base, J.hok, rv, q⟩
    cases fl with
    | ret u =>
      obtain ⟨v, σ', H', J, rv, q⟩ := hs
      exact fin J rv q
    | next =>
      obtain ⟨σ', H', J, q⟩ := hs
      exact fin (v := V.non) (u := Value.none) J rfl q
    | brk =>
      obtain ⟨_, _, _, q⟩ := hs
      exact False.elim q
    | cont =>
      obtain ⟨_, _, _, q⟩ := hs
      exact False.elim q

/-! ### a def made within a def -/
/-- the table of a code object: its own codes, by place -/
def TabAt (H : Hp) (Pt : Addr) (ps : Array Value) : Prop := H Pt = some (.tbl ps) ∧ TriplesOk ps.toList
theorem Inv.grow {X : Cx} {pins : List (Addr × Obj)} {σ : St} {H : Hp} {s : Shared} {Pt c : Addr} {ps more : Array Value} {qual : Str} {h' : Heap} {t' : Nat} (I : Inv X pins σ H s) (hP : H Pt = some (.tbl ps)) (hx : Heap.ExtBut Pt s.heap h')
    (hc : s.heap.objs.size ≤ c) (hr : h'.CodeRec (.ref c) qual) (ht : h'.get? Pt = some (PySem.W.tabObj (ps ++ more))) :
    Inv X pins σ (upd (upd H Pt (.tbl (ps ++ more))) c (CodeO c qual)) { s with heap := h', toks := t' } := by
  have hPl : Pt < s.heap.objs.size := I.hok.lt hP
  have hcP : c ≠ Pt := fun e => absurd hPl (by rw [← e]; exact Nat.not_lt.mpr hc)
  have hcn : H c = none := I.hok.fresh hc
  have old : ∀ b o, s.heap.get? b = some o → b ≠ c := fun b o e z => absurd (Heap.lt_size e) (by rw [z]; exact Nat.not_lt.mpr hc)
  have val : ∀ b, b ≠ c → b ≠ Pt → upd (upd H Pt (.tbl (ps ++ more))) c (CodeO c qual) b = H b := fun b h1 h2 => by rw [upd_ne h1, upd_ne h2]
  have kn : ∀ b o, s.heap.get? b = some o → H b = none → h'.get? b = some o := fun b o e n => hx b o (fun z => by rw [z, hP] at n; cases n) e
  refine I.un ⟨fun b o e n _ _ => kn b o e n, fun b o e n _ _ => ⟨o.slots, kn b o e n⟩, fun b o e n _ => ?_, fun b o e _ => ?_, fun b xs q => ?_, fun b o u q => ?_, fun b ps' q => ?_⟩ fun b u q => ?_
  · rw [val b (old b o e) (fun z => by rw [z, hP] at n; cases n)]
    exact n
  · by_cases hb : b = Pt
    · subst hb; exact ⟨_, ht⟩
    · exact ⟨o, hx b o hb e⟩
  · rw [val b (fun z => by rw [z, hcn] at q; cases q) (fun z => by rw [z, hP] at q; cases q)]
    exact q
  · rw [val b (fun z => by rw [z, hcn] at q; cases q) (fun z => by rw [z, hP] at q; cases q)]
    exact q
  · by_cases hb : b = Pt
    · subst hb
      rw [hP] at q
      cases q
      exact ⟨more, by rw [upd_ne (Ne.symm hcP), upd_same]⟩
    · exact ⟨#[], by rw [val b (fun z => by rw [z, hcn] at q; cases q) hb, q]; simp⟩
  · by_cases hb : b = c
    · subst hb
      rw [upd_same] at q
      cases q
      exact codeO_ok hr
    · by_cases hb2 : b = Pt
      · subst hb2
        rw [upd_ne hb, upd_same] at q
        cases q
        exact ht
      · rw [val b hb hb2] at q
        refine (I.hok b u q).stay (fun b' o' hb' e => ?_) (fun b' e => ?_) fun b' xs e => ?_
        · refine hx b' o' (fun z => ?_) e
          rcases hb' with z' | z'
          · exact hb2 (z'.symm.trans z)
          · rw [z, hP] at z'; cases z'
        · rw [val b' (fun z => by rw [z, hcn] at e; cases e) (fun z => by rw [z, hP] at e; cases e)]
          exact e
        · rw [val b' (fun z => by rw [z, hcn] at e; cases e) (fun z => by rw [z, hP] at e; cases e)]
          exact e
/-- a new thing that is only pinned -/
theorem Inv.pinNew {X : Cx} {pins : List (Addr × Obj)} {σ : St} {H : Hp} {s : Shared} {o : Obj} {t' : Nat} (I : Inv X pins σ H s) (ho : ∀ v, o.data ≠ .cell v) (hs : (s.heap.push o).get? s.heap.objs.size = some o) :
    Inv X (pins ++ [(s.heap.objs.size, o)]) σ H { s with heap := s.heap.push o, toks := t' } := by
  have J : Inv X pins σ H { s with heap := s.heap.push o, toks := t' } := I.kept (t' := t') fun b u e => Heap.get?_push_of_some _ e
  refine J.pins_of fun p hp => ?_
  rcases List.mem_append.mp hp with hp | hp
  · exact J.pin p (List.mem_append_right _ hp)
  · obtain rfl := List.mem_singleton.mp hp
    exact ⟨hs, I.hok.fresh (Nat.le_refl _), Nat.ne_of_gt I.lt, I.nofs (Nat.le_refl _), ho⟩
/-- what a def's making leaves: the table as it was, or grown by a new code -/
structure Made (H H' : Hp) (Pt c : Addr) (ps ps' : Array Value) (pos : Pos) (qual : Str) : Prop where
  tab : H' Pt = some (.tbl ps')
  code : H' c = some (CodeO c qual)
  kept : ∀ b o, H b = some o → b ≠ Pt → H' b = some o
  is : (ps' = ps ∧ H' = H ∧ codeAmong pos ps.toList = some (.ref c)) ∨ (codeAmong pos ps.toList = none ∧ ps' = ps ++ #[rawInt pos.line, rawInt pos.col, .ref c] ∧ H c = none)
theorem def_ok {X : Cx} {pins : List (Addr × Obj)} {σ : St} {H : Hp} {s : Shared} {i : Nat} {name qual : Str} {params : Arguments} {body : List Stmt} {scope : Scope} {pos : Pos} {cl : List (Str × Addr)} {c0 Pt : Addr} {ps : Array Value} {Q : Flow → Shared → Prop}
    (I : Inv X pins σ H s) (hN : X.N.Nodup) (hi : X.N[i]? = some name) (hx : X.env.scope.names.lookup name = some .local) (d0 : params.defaults = []) (k0 : params.kw_defaults = []) (ha : annTrees params none X.env = [])
    (hcl : closureFor scope X.env = pure cl) (hcode : X.env.code = .ref c0) (C : PySem.W.CodeHd X.base c0 Pt) (B : X.base.BuiltinsAt X.mg Pt) (hq : qualnameIn X.env name name = qual)
    (hP : H Pt = some (.tbl ps)) (ht : TriplesOk ps.toList) (hit : ∀ v, codeAmong pos ps.toList = some v → ∃ c, v = .ref c ∧ H c = some (CodeO c qual))
    (k : ∀ s' f fo H' c ctv doc ps', Inv X (pins ++ [(f, fo)]) (σ.set i (some (.ref f))) H' s' → fo.data = .func (PySem.W.fnX name qual params body scope cl .none .none doc ((X.mg "__name__").getD .none) none (.ref c) ctv) → Made H H' Pt c ps ps' pos qual → Q .next s') :
    wpAny (model X.prog X.w) X.A (exec (.FunctionDef name params body [] none [] scope none name pos) X.env) Q X.xe s := by
  refine PySem.W.nestDef_K d0 k0 ha ?_
  rw [hq]
  have hg : s.heap.Ns mainGlobals X.mg := I.mod.glob.keeps I.bk
  have hPg : s.heap.get? Pt = some (PySem.W.tabObj ps) := I.hok Pt _ hP
  have hB : s.heap.BuiltinsAt X.mg Pt := by
    obtain ⟨bm, o, b1, b2, b3, b4, b5, b6⟩ := B
    exact ⟨bm, o, b1, b2, b3, b4, I.bk _ _ b5, b6⟩
  have hgP : mainGlobals ≠ Pt := fun q => by
    obtain ⟨o, es, ep, e, hd, _⟩ := hg
    rw [q, hPg] at e; cases e; cases hd
  cases hf : codeAmong pos ps.toList with
  | none =>
    refine PySem.W.makeFunction_K (mg := X.mg) hcl I.ok.glob hg hcode (C.keeps I.bk) hPg ht hf hgP hB fun c ctv doc h' tk hxb hge hlt hrec htb => ?_
    have J := I.grow (t' := tk) hP hxb hge hrec htb
    have hcn : H c = none := I.hok.fresh hge
    have hcP : c ≠ Pt := fun e => by rw [e, hP] at hcn; cases hcn
    have J2 := Inv.pinNew (o := PySem.W.fnMade name qual params body scope cl doc ((X.mg "__name__").getD .none) c ctv) (t' := tk) J (fun v e => by cases e) (Heap.get?_push_size _ rfl)
    refine store_ok J2 hN hi (.inl hx) (v := .ref h'.objs.size) rfl (fun s' J3 => k s' _ _ _ c ctv doc _ J3 rfl ⟨?_, upd_same, fun b o e hb => ?_, .inr ⟨hf, rfl, hcn⟩⟩) (.inr hx)
    · rw [upd_ne (Ne.symm hcP), upd_same]
    · rw [upd_ne (ne_of_none e hcn), upd_ne hb]
      exact e
  | some cv =>
    obtain ⟨c, rfl, hc⟩ := hit cv hf
    refine PySem.W.makeFunction_hit (mg := X.mg) hcl I.ok.glob hg hcode (C.keeps I.bk) hPg ht hf hB fun ctv doc h' tk hk hsz => ?_
    have J : Inv X pins σ H { s with heap := h', toks := tk } := I.kept (t' := tk) hk
    have J2 := Inv.pinNew (o := { cls := .type "function", data := .func (PySem.W.fnX name qual params body scope cl .none .none doc ((X.mg "__name__").getD .none) none (.ref c) ctv) }) (t' := tk) J (fun v e => by cases e) (Heap.get?_push_size _ rfl)
    refine store_ok J2 hN hi (.inl hx) (v := .ref h'.objs.size) rfl (fun s' J3 => k s' _ _ _ c ctv doc ps J3 rfl ⟨hP, hc, fun b o e _ => e, .inl ⟨rfl, rfl, hf⟩⟩) (.inr hx)

/-! ### a call over a base of its own: all that stands and isn't tracked, the frames aside -/
def hidF (h : Heap) (H : Hp) (fs : List Addr) : Heap := PySem.W.hideAll h (trk h H ++ fs)
theorem hidF_get {h : Heap} {H : Hp} {fs : List Addr} {b : Addr} {o : Obj} (e : h.get? b = some o) (n : H b = none) (hb : b ∉ fs) : (hidF h H fs).get? b = some o := by
  refine PySem.W.hideAll_get _ e fun m => ?_
  rcases List.mem_append.mp m with m | m
  · have := (List.mem_filter.mp m).2
    rw [n] at this
    cases this
  · exact hb m
theorem of_hidF {h : Heap} {H : Hp} {fs : List Addr} {b : Addr} {o : Obj} (e : (hidF h H fs).get? b = some o) : h.get? b = some o ∧ H b = none ∧ b ∉ fs := by
  have e1 := PySem.W.of_hideAll _ e
  have hno : ∀ b, b ∈ trk h H ++ fs → (hidF h H fs).get? b = none := fun b m => PySem.W.hideAll_none _ m
  refine ⟨e1, ?_, fun m => ?_⟩
  · cases q : H b with
    | none => rfl
    | some u =>
      have m : b ∈ trk h H := List.mem_filter.mpr ⟨List.mem_range.mpr (Heap.lt_size e1), by rw [q]; rfl⟩
      rw [hno b (List.mem_append_left _ m)] at e
      cases e
  · rw [hno b (List.mem_append_right _ m)] at e
    cases e
theorem Inv.env1 {X : Cx} {pins : List (Addr × Obj)} {σ : St} {H : Hp} {s : Shared} (I : Inv X pins σ H s) : Env0 X.prog X.w X.K X.mg (hidF s.heap H (X.env.locals :: X.fs)) X.A X.stack s H := by
  have up : ∀ b o, X.base.get? b = some o → (hidF s.heap H (X.env.locals :: X.fs)).get? b = some o := fun b o e => by
    obtain ⟨e1, n⟩ := I.bs b o e
    refine hidF_get e1 n fun m => ?_
    rcases List.mem_cons.mp m with z | z
    · have h1 : b < X.base.objs.size := Heap.lt_size e
      have h2 := I.ok.bsz
      have h3 := I.ok.above
      rw [z] at h1
      exact absurd h1 (Nat.not_lt.mpr (Nat.le_trans h2 h3))
    · exact I.ok.nofr e z
  refine ⟨I.ok.frames, ⟨I.mod.kin.keeps up, I.mod.glob.keeps up, ?_, I.mod.nolimit.keeps up⟩, fun b o e => ⟨(of_hidF e).1, (of_hidF e).2.1⟩, Nat.le_of_eq (PySem.W.hideAll_size _ _), ?_, I.stkFree, I.hok, I.bare⟩
  · obtain ⟨mb, h1, h2⟩ := I.mod.blt
    exact ⟨mb, h1.keeps up, h2⟩
  · have all : ∀ l : List Env, (∀ b ∈ frs l, b ∈ X.env.locals :: X.fs) → s.heap.FunFrames X.base l → s.heap.FunFrames (hidF s.heap H (X.env.locals :: X.fs)) l := by
      intro l
      induction l with
      | nil => intro _ _; trivial
      | cons env r ih =>
        intro hs hl
        obtain ⟨hk, ⟨L, o, hf, hn, ho, hd⟩, hr⟩ := hl
        have hL : L ∈ X.env.locals :: X.fs := hs L (by unfold frs; rw [List.filterMap_cons, hf]; exact List.mem_cons_self)
        refine ⟨hk, ⟨L, o, hf, PySem.W.hideAll_none _ (List.mem_append_right _ hL), ho, hd⟩, ih (fun b hb => hs b (by unfold frs; rw [List.filterMap_cons, hf]; exact List.mem_cons_of_mem _ hb)) hr⟩
    exact all X.stack I.stkSub I.stack
/-- f(e, ..) where f's promise hangs on what stands at the call; the names' values are σ₀ -/
def tCallG (σ0 : St) (sp : Sp) (t : TA) : TE := fun σ H Q => σ = σ0 ∧ t σ H fun vs H1 => sp vs H1 Q E0
theorem pe_callG {X : Cx} {x : Str} {k : Nat} {f : Addr} {fd : FuncData} {ps : List Str} {sp : Sp} {p pos : Pos} {e : Expr} {es : List Expr} {t : TA} {σ0 : St}
    (F : ∀ (pins : List (Addr × Obj)) (H : Hp) (s : Shared), Inv X pins σ0 H s → FnOk X.prog X.w X.K X.mg (hidF s.heap H (X.env.locals :: X.fs)) CX0 k f fd ps sp)
    (hr : Room k X.A) (hg : Gl X x) (hm : X.mg x = some (.ref f)) (hk : PySem.W.keepIn X.K (.ref f) = true) (hb : Binds X.K fd ps [])
    (ha : PA X (e :: es) t) (hdb : (x == ("__debug__" : Str)) = false := by decide) (he : starEach (e :: es) X.env = (false, eval e X.env) :: starEach es X.env := by rfl) (hpl : (backTo pos (starEach es X.env)).any (·.1) = false := by rfl) :
    PE X (.Call (.Name x p) (e :: es) [] pos) (tCallG σ0 sp t) := by
  intro pins s σ H Q I h
  obtain ⟨rfl, h⟩ := h
  refine wpAny_Call_Name_kw (ld_glob I hg hm ?_ hdb)
  refine PySem.W.callWith_K (h₀ := X.base) I.ok.mod.kin hk (thn (ha pos pins s σ H _ I h) fun us s1 ⟨vs, H1, I1, r, q⟩ => ⟨I1.kIn, ?_⟩) he hpl
  have G := F pins H1 s1 I1
  have hl : us.length = ps.length := by rw [← r.length]; exact G.len _ _ _ _ q
  have bd := hb s1 us I1.kIn (by rw [List.append_nil]; exact hl)
  rw [List.append_nil] at bd
  refine wpAny_call (codeAny_mono (G.run X.A X.stack s1 H1 ⟨us, []⟩ us vs Q E0 hr I1.env1 bd r q) fun r s' hq => ?_)
  cases r with
  | error e => exact False.elim hq
  | ok fl =>
    cases fl with
    | ret u => exact I1.after hq
    | next => exact False.elim hq
    | brk => exact False.elim hq
    | cont => exact False.elim hq
/-- a call of a name that holds a def made around it: it stands in the base -/
theorem pe_callL {X : Cx} {i : Nat} {x : Str} {k : Nat} {f : Addr} {fo : Obj} {fd : FuncData} {ps : List Str} {sp : Sp} {p pos : Pos} {e : Expr} {es : List Expr} {t : TA} (F : FnOk X.prog X.w X.K X.mg X.base CX0 k f fd ps sp) (ho : X.base.get? f = some fo) (hd : fo.data = .func fd)
    (hr : Room k X.A) (hN : X.N[i]? = some x) (hv : Vis X.env.scope x) (hb : ∀ (s : Shared) (us : List Value), us.length = ps.length → BindsTo s fd ⟨us, []⟩ (ps.zip us))
    (ha : PA X (e :: es) t) (hdb : (x == ("__debug__" : Str)) = false := by decide) (hcd : (x == ("__classdict__" : Str)) = false := by decide) (he : starEach (e :: es) X.env = (false, eval e X.env) :: starEach es X.env := by rfl) (hpl : (backTo pos (starEach es X.env)).any (·.1) = false := by rfl) :
    PE X (.Call (.Name x p) (e :: es) [] pos) (fun σ H Q => σ[i]? = some (some (.ref f)) ∧ t σ H fun vs H1 => sp vs H1 Q E0) := by
  intro pins s σ H Q I h
  obtain ⟨hσ, h⟩ := h
  have nm : PE X (.Name x p) (tVar i) := pe_var hN hv hdb hcd
  refine wpAny_Call_Name_kw (thn (nm pins s σ H (fun v H' => v = .ref f ∧ H' = H) I ⟨_, hσ, rfl, rfl⟩) fun u s1 ⟨v, H1, I1, rv, e1, e2⟩ => ?_)
  subst e1 e2
  obtain rfl : u = Value.ref f := rv
  have fn : ∀ {s : Shared} {σ : St} {H : Hp}, Inv X pins σ H s → PySem.W.FnAt f s.heap := fun J => by
    have z := J.bk f fo ho
    obtain ⟨oc, od, dd, sl⟩ := fo
    have hd' : dd = .func fd := hd
    subst hd'
    exact ⟨oc, od, fd, sl, z⟩
  refine PySem.W.callWith_F (first := []) (fn I1) (thn (ha pos pins s1 σ _ _ I1 h) fun us s2 ⟨vs, H2, I2, r, q⟩ => ⟨fn I2, ?_⟩) he hpl
  have hl : us.length = ps.length := by rw [← r.length]; exact F.len _ _ _ _ q
  refine wpAny_call (codeAny_mono (F.run X.A X.stack s2 H2 ⟨us, []⟩ us vs Q E0 hr I2.env0 (hb s2 us hl) r q) fun r s' hq => ?_)
  cases r with
  | error e => exact False.elim hq
  | ok fl =>
    cases fl with
    | ret u => exact I2.after hq
    | next => exact False.elim hq
    | brk => exact False.elim hq
    | cont => exact False.elim hq
end L2
end
section
set_option Elab.async false
set_option linter.all false
set_option maxRecDepth 100000
namespace BK
open PySem L2
open Kp113 (Make Pr falls fallsLeast within iLow iHigh point isMake goodMake)
theorem bt_min : bootBuiltins "min" = some (.builtin "min") := by decide +kernel
theorem bt_max : bootBuiltins "max" = some (.builtin "max") := by decide +kernel
theorem bt_abs : bootBuiltins "abs" = some (.builtin "abs") := by decide +kernel
theorem bt_len : bootBuiltins "len" = some (.builtin "len") := by decide +kernel
theorem bt_sum : bootBuiltins "sum" = some (.builtin "sum") := by decide +kernel
theorem bt_all : bootBuiltins "all" = some (.builtin "all") := by decide +kernel
theorem bt_list : bootBuiltins "list" = some (.type "list") := by decide +kernel
def mkKeys : List Str := ["cells", "wait", "fill", "none", "weak", "strong", "least", "most", "leak", "bleed_low", "bleed_high", "off", "fuse", "none2", "near", "like", "low", "high", "curve"]
def kpKeys : List Str := ["make", "pairs", "bled", "asked", "switch", "filling_ticks", "open_ticks"]
theorem mkNd : mkKeys.Nodup := by decide +kernel
theorem kpNd : kpKeys.Nodup := by decide +kernel
def mkVals (M : Make) (l : Addr) : List V := [.int M.cells, .int M.wait, .int M.fill, .int M.none_, .int M.weak, .int M.strong, .int M.least, .int M.most, .int M.leak, .int M.bleedLow, .int M.bleedHigh, .int M.off, .int M.fuse, .int M.none2, .int M.near, .int M.like, .int M.low, .int M.high, .ref l]
def mkF (M : Make) (l : Addr) : List (Str × V) := mkKeys.zip (mkVals M l)
section
variable (M : Make) (l : Addr)
theorem k_cells : mkKeys[0]? = some ("cells" : Str) := rfl
theorem f_cells : (mkF M l).lookup ("cells" : Str) = some (.int M.cells) := zf_look (i := 0) mkNd rfl rfl
theorem f_wait : (mkF M l).lookup ("wait" : Str) = some (.int M.wait) := zf_look (i := 1) mkNd rfl rfl
theorem f_fill : (mkF M l).lookup ("fill" : Str) = some (.int M.fill) := zf_look (i := 2) mkNd rfl rfl
theorem f_none : (mkF M l).lookup ("none" : Str) = some (.int M.none_) := zf_look (i := 3) mkNd rfl rfl
theorem f_weak : (mkF M l).lookup ("weak" : Str) = some (.int M.weak) := zf_look (i := 4) mkNd rfl rfl
theorem f_strong : (mkF M l).lookup ("strong" : Str) = some (.int M.strong) := zf_look (i := 5) mkNd rfl rfl
theorem f_least : (mkF M l).lookup ("least" : Str) = some (.int M.least) := zf_look (i := 6) mkNd rfl rfl
theorem f_most : (mkF M l).lookup ("most" : Str) = some (.int M.most) := zf_look (i := 7) mkNd rfl rfl
theorem f_leak : (mkF M l).lookup ("leak" : Str) = some (.int M.leak) := zf_look (i := 8) mkNd rfl rfl
theorem f_bleed_low : (mkF M l).lookup ("bleed_low" : Str) = some (.int M.bleedLow) := zf_look (i := 9) mkNd rfl rfl
theorem f_bleed_high : (mkF M l).lookup ("bleed_high" : Str) = some (.int M.bleedHigh) := zf_look (i := 10) mkNd rfl rfl
theorem f_off : (mkF M l).lookup ("off" : Str) = some (.int M.off) := zf_look (i := 11) mkNd rfl rfl
theorem f_fuse : (mkF M l).lookup ("fuse" : Str) = some (.int M.fuse) := zf_look (i := 12) mkNd rfl rfl
theorem f_none2 : (mkF M l).lookup ("none2" : Str) = some (.int M.none2) := zf_look (i := 13) mkNd rfl rfl
theorem f_near : (mkF M l).lookup ("near" : Str) = some (.int M.near) := zf_look (i := 14) mkNd rfl rfl
theorem f_like : (mkF M l).lookup ("like" : Str) = some (.int M.like) := zf_look (i := 15) mkNd rfl rfl
theorem f_low : (mkF M l).lookup ("low" : Str) = some (.int M.low) := zf_look (i := 16) mkNd rfl rfl
theorem f_high : (mkF M l).lookup ("high" : Str) = some (.int M.high) := zf_look (i := 17) mkNd rfl rfl
theorem f_curve : (mkF M l).lookup ("curve" : Str) = some (.ref l) := zf_look (i := 18) mkNd rfl rfl
end
/-- a make stands at m, its curve's list at l -/
structure MkAt (CM : Addr) (H : Hp) (m l dx : Addr) (M : Make) : Prop where
  ob : H m = some (.ins CM dx (mkF M l))
  cu : H l = some (.lst (M.curve.map V.int))
def MakeAt (CM : Addr) (H : Hp) (m : Addr) (M : Make) : Prop := ∃ l dx, MkAt CM H m l dx M
def TupAt (H : Hp) (a : Addr) (p : Pr) : Prop := H a = some (.tup [.int p.lo, .int p.hi])
theorem MkAt.same {CM : Addr} {H H' : Hp} {m l dx : Addr} {M : Make} (h : MkAt CM H m l dx M) (s : Same H H') : MkAt CM H' m l dx M := ⟨s _ _ h.ob, s _ _ h.cu⟩
theorem MakeAt.same {CM : Addr} {H H' : Hp} {m : Addr} {M : Make} (h : MakeAt CM H m M) (s : Same H H') : MakeAt CM H' m M := let ⟨l, dx, h⟩ := h; ⟨l, dx, h.same s⟩
theorem same_upd {H : Hp} {p : Addr} {o : HO} (h : H p = none) : Same H (upd H p o) := fun b u e => by rw [upd_ne (ne_of_none e h)]; exact e
/-- a pair, or None -/
def PrV (H : Hp) (v : V) : Option Pr → Prop
  | none => v = .non
  | some p => ∃ a, v = .ref a ∧ TupAt H a p
def RetPr (H : Hp) (Q : VK) (o : Option Pr) : Prop := ∀ v H', Same H H' → PrV H' v o → Q v H'
def top (i : Nat) : Stmt := PySem.Challenge.pw_batterykeeper_s01_answers.main.body.getD i (.Pass ⟨0, 0, 0, 0⟩)
abbrev s_down : Stmt := top 3
abbrev s_up : Stmt := top 4
abbrev s_greatest_loss : Stmt := top 5
abbrev s_least_loss : Stmt := top 6
abbrev s_is_beyond_fuse : Stmt := top 7
abbrev s_least_current : Stmt := top 8
abbrev s_greatest_current : Stmt := top 9
abbrev s_right_pair : Stmt := top 10
abbrev s_step : Stmt := top 11
abbrev s_seen : Stmt := top 12
abbrev s_charge_down : Stmt := top 13
abbrev s_charge_up : Stmt := top 14
abbrev s_greatest_fall : Stmt := top 17
abbrev s_greatest_rise : Stmt := top 18
abbrev s_curve_times_part : Stmt := top 19
abbrev s_is_safe_below : Stmt := top 20
abbrev s_is_safe_above : Stmt := top 21
abbrev s_is_safe : Stmt := top 22
abbrev s_most_currents : Stmt := top 23
abbrev s_greatest_that : Stmt := top 24
abbrev s_Keeper : Stmt := inClass (top 31) 0
abbrev s_tick : Stmt := top 32
abbrev s_go_on : Stmt := top 33
abbrev s_flows_though_long_open : Stmt := top 34
abbrev s_pairs_behind : Stmt := top 35
abbrev s_turn_switch : Stmt := top 36
abbrev s_is_good : Stmt := top 37
abbrev s_fill : Stmt := top 38
abbrev s_cells_to_bleed : Stmt := top 39
abbrev s_bled_bits : Stmt := top 40
abbrev s_currents_for_next : Stmt := top 41
abbrev s_least_of : Stmt := top 42
abbrev s_Make : Stmt := inClass (top 45) 0
abbrev s_is_right : Stmt := top 46
abbrev s_counts_are_right : Stmt := top 47
abbrev s_cells_are_right : Stmt := top 48
abbrev s_currents_are_right : Stmt := top 49
abbrev s_voltages_are_right : Stmt := top 50
abbrev s_curve_is_right : Stmt := top 51
abbrev s_Line : Stmt := inClass (top 61) 0
abbrev s_answers : Stmt := top 62
abbrev s_answer_call : Stmt := top 63
abbrev s_number_alone : Stmt := top 64
abbrev s_number_and_four : Stmt := top 65
abbrev s_answer_start : Stmt := top 66
abbrev s_answer_ask : Stmt := top 67
abbrev s_answer_tick : Stmt := top 68
abbrev s_answer_cell : Stmt := top 69
abbrev s_answer_state : Stmt := top 70
theorem sc_down : FnScope ["number", "divisor"] ["number", "divisor"] (defScope s_down) := ⟨rfl, rfl, rfl, by decide +kernel, rfl, by decide +kernel, by decide +kernel⟩
theorem sc_up : FnScope ["number", "divisor"] ["number", "divisor"] (defScope s_up) := ⟨rfl, rfl, rfl, by decide +kernel, rfl, by decide +kernel, by decide +kernel⟩
theorem sc_greatest_loss : FnScope ["make", "drain"] ["make", "drain"] (defScope s_greatest_loss) := ⟨rfl, rfl, rfl, by decide +kernel, rfl, by decide +kernel, by decide +kernel⟩
theorem sc_least_loss : FnScope ["make", "drain"] ["make", "drain"] (defScope s_least_loss) := ⟨rfl, rfl, rfl, by decide +kernel, rfl, by decide +kernel, by decide +kernel⟩
theorem sc_is_beyond_fuse : FnScope ["make", "measured"] ["make", "measured"] (defScope s_is_beyond_fuse) := ⟨rfl, rfl, rfl, by decide +kernel, rfl, by decide +kernel, by decide +kernel⟩
theorem sc_least_current : FnScope ["make", "measured"] ["make", "measured"] (defScope s_least_current) := ⟨rfl, rfl, rfl, by decide +kernel, rfl, by decide +kernel, by decide +kernel⟩
theorem sc_greatest_current : FnScope ["make", "measured"] ["make", "measured"] (defScope s_greatest_current) := ⟨rfl, rfl, rfl, by decide +kernel, rfl, by decide +kernel, by decide +kernel⟩
theorem sc_right_pair : FnScope ["first", "second"] ["first", "second"] (defScope s_right_pair) := ⟨rfl, rfl, rfl, by decide +kernel, rfl, by decide +kernel, by decide +kernel⟩
theorem sc_step : FnScope ["make", "pair", "measured", "bled", "drain_most", "drain_least", "first", "second"] ["make", "pair", "measured", "bled"] (defScope s_step) := ⟨rfl, rfl, rfl, by decide +kernel, rfl, by decide +kernel, by decide +kernel⟩
theorem sc_seen : FnScope ["make", "pair", "measured", "voltage", "least", "greatest", "drops", "lowest", "highest", "first", "second"] ["make", "pair", "measured", "voltage"] (defScope s_seen) := ⟨rfl, rfl, rfl, by decide +kernel, rfl, by decide +kernel, by decide +kernel⟩
theorem sc_charge_down : FnScope ["curve", "voltage", "k"] ["curve", "voltage"] (defScope s_charge_down) := ⟨rfl, rfl, rfl, by decide +kernel, rfl, by decide +kernel, by decide +kernel⟩
theorem sc_charge_up : FnScope ["curve", "voltage", "k"] ["curve", "voltage"] (defScope s_charge_up) := ⟨rfl, rfl, rfl, by decide +kernel, rfl, by decide +kernel, by decide +kernel⟩
theorem sc_greatest_fall : FnScope ["make"] ["make"] (defScope s_greatest_fall) := ⟨rfl, rfl, rfl, by decide +kernel, rfl, by decide +kernel, by decide +kernel⟩
theorem sc_greatest_rise : FnScope ["make"] ["make"] (defScope s_greatest_rise) := ⟨rfl, rfl, rfl, by decide +kernel, rfl, by decide +kernel, by decide +kernel⟩
theorem sc_curve_times_part : FnScope ["curve", "charge", "k"] ["curve", "charge"] (defScope s_curve_times_part) := ⟨rfl, rfl, rfl, by decide +kernel, rfl, by decide +kernel, by decide +kernel⟩
theorem sc_is_safe_below : FnScope ["make", "charge", "ticks", "fall", "bound"] ["make", "charge", "ticks"] (defScope s_is_safe_below) := ⟨rfl, rfl, rfl, by decide +kernel, rfl, by decide +kernel, by decide +kernel⟩
theorem sc_is_safe_above : FnScope ["make", "charge", "ticks", "rise", "bound"] ["make", "charge", "ticks"] (defScope s_is_safe_above) := ⟨rfl, rfl, rfl, by decide +kernel, rfl, by decide +kernel, by decide +kernel⟩
theorem sc_is_safe : FnScope ["make", "pair", "ticks"] ["make", "pair", "ticks"] (defScope s_is_safe) := ⟨rfl, rfl, rfl, by decide +kernel, rfl, by decide +kernel, by decide +kernel⟩
theorem sc_most_currents : FnScope ["make", "pair", "may_be_asked", "may_be_put"] ["make", "pair"] (defScope s_most_currents) := ⟨rfl, rfl, rfl, by decide +kernel, rfl, by decide +kernel, by decide +kernel⟩
theorem sc_greatest_that : FnScope ["top", "holds", "known", "failing", "middle"] ["top", "holds"] (defScope s_greatest_that) := ⟨rfl, rfl, rfl, by decide +kernel, rfl, by decide +kernel, by decide +kernel⟩
theorem sc_Keeper : FnScope ["self", "make"] ["self", "make"] (defScope s_Keeper) := ⟨rfl, rfl, rfl, by decide +kernel, rfl, by decide +kernel, by decide +kernel⟩
theorem sc_tick : FnScope ["keeper", "measured", "link", "voltages"] ["keeper", "measured", "link", "voltages"] (defScope s_tick) := ⟨rfl, rfl, rfl, by decide +kernel, rfl, by decide +kernel, by decide +kernel⟩
theorem sc_go_on : FnScope ["keeper", "measured", "link", "voltages", "pairs"] ["keeper", "measured", "link", "voltages"] (defScope s_go_on) := ⟨rfl, rfl, rfl, by decide +kernel, rfl, by decide +kernel, by decide +kernel⟩
theorem sc_flows_though_long_open : FnScope ["keeper", "measured"] ["keeper", "measured"] (defScope s_flows_though_long_open) := ⟨rfl, rfl, rfl, by decide +kernel, rfl, by decide +kernel, by decide +kernel⟩
theorem sc_pairs_behind : FnScope ["keeper", "measured", "voltages", "pairs", "k", "pair"] ["keeper", "measured", "voltages"] (defScope s_pairs_behind) := ⟨rfl, rfl, rfl, by decide +kernel, rfl, by decide +kernel, by decide +kernel⟩
theorem sc_turn_switch : FnScope ["keeper", "link", "voltage", "may_be_on"] ["keeper", "link", "voltage"] (defScope s_turn_switch) := ⟨rfl, rfl, rfl, by decide +kernel, rfl, by decide +kernel, by decide +kernel⟩
theorem sc_is_good : FnScope ["keeper", "pair"] ["keeper"] (defScope s_is_good) := ⟨rfl, rfl, rfl, by decide +kernel, rfl, by decide +kernel, by decide +kernel⟩
theorem sc_fill : FnScope ["keeper", "link", "voltage"] ["keeper", "link", "voltage"] (defScope s_fill) := ⟨rfl, rfl, rfl, by decide +kernel, rfl, by decide +kernel, by decide +kernel⟩
theorem sc_cells_to_bleed : FnScope ["keeper", "least_second", "pair", "fall"] ["keeper"] (defScope s_cells_to_bleed) := ⟨rfl, rfl, rfl, by decide +kernel, rfl, by decide +kernel, by decide +kernel⟩
theorem sc_bled_bits : FnScope ["keeper", "k"] ["keeper"] (defScope s_bled_bits) := ⟨rfl, rfl, rfl, by decide +kernel, rfl, by decide +kernel, by decide +kernel⟩
theorem sc_currents_for_next : FnScope ["keeper", "told", "pair", "both"] ["keeper"] (defScope s_currents_for_next) := ⟨rfl, rfl, rfl, by decide +kernel, rfl, by decide +kernel, by decide +kernel⟩
theorem sc_least_of : FnScope ["currents"] ["currents"] (defScope s_least_of) := ⟨rfl, rfl, rfl, by decide +kernel, rfl, by decide +kernel, by decide +kernel⟩
theorem sc_Make : FnScope ["self", "numbers", "curve"] ["self", "numbers", "curve"] (defScope s_Make) := ⟨rfl, rfl, rfl, by decide +kernel, rfl, by decide +kernel, by decide +kernel⟩
theorem sc_is_right : FnScope ["make"] ["make"] (defScope s_is_right) := ⟨rfl, rfl, rfl, by decide +kernel, rfl, by decide +kernel, by decide +kernel⟩
theorem sc_counts_are_right : FnScope ["make"] ["make"] (defScope s_counts_are_right) := ⟨rfl, rfl, rfl, by decide +kernel, rfl, by decide +kernel, by decide +kernel⟩
theorem sc_cells_are_right : FnScope ["make"] ["make"] (defScope s_cells_are_right) := ⟨rfl, rfl, rfl, by decide +kernel, rfl, by decide +kernel, by decide +kernel⟩
theorem sc_currents_are_right : FnScope ["make"] ["make"] (defScope s_currents_are_right) := ⟨rfl, rfl, rfl, by decide +kernel, rfl, by decide +kernel, by decide +kernel⟩
theorem sc_voltages_are_right : FnScope ["make"] ["make"] (defScope s_voltages_are_right) := ⟨rfl, rfl, rfl, by decide +kernel, rfl, by decide +kernel, by decide +kernel⟩
theorem sc_curve_is_right : FnScope ["curve", "k"] ["curve"] (defScope s_curve_is_right) := ⟨rfl, rfl, rfl, by decide +kernel, rfl, by decide +kernel, by decide +kernel⟩
theorem sc_Line : FnScope ["self"] ["self"] (defScope s_Line) := ⟨rfl, rfl, rfl, by decide +kernel, rfl, by decide +kernel, by decide +kernel⟩
theorem sc_answers : FnScope ["calls", "line", "told", "begin", "call", "end", "numbers", "row", "row_begin", "answer"] ["calls"] (defScope s_answers) := ⟨rfl, rfl, rfl, by decide +kernel, rfl, by decide +kernel, by decide +kernel⟩
theorem sc_answer_call : FnScope ["line", "call", "numbers", "row"] ["line", "call", "numbers", "row"] (defScope s_answer_call) := ⟨rfl, rfl, rfl, by decide +kernel, rfl, by decide +kernel, by decide +kernel⟩
theorem sc_number_alone : FnScope ["number"] ["number"] (defScope s_number_alone) := ⟨rfl, rfl, rfl, by decide +kernel, rfl, by decide +kernel, by decide +kernel⟩
theorem sc_number_and_four : FnScope ["number", "four"] ["number", "four"] (defScope s_number_and_four) := ⟨rfl, rfl, rfl, by decide +kernel, rfl, by decide +kernel, by decide +kernel⟩
theorem sc_answer_start : FnScope ["line", "make"] ["line", "make"] (defScope s_answer_start) := ⟨rfl, rfl, rfl, by decide +kernel, rfl, by decide +kernel, by decide +kernel⟩
theorem sc_answer_ask : FnScope ["keeper", "on"] ["keeper", "on"] (defScope s_answer_ask) := ⟨rfl, rfl, rfl, by decide +kernel, rfl, by decide +kernel, by decide +kernel⟩
theorem sc_answer_tick : FnScope ["keeper", "measured", "link", "row", "currents"] ["keeper", "measured", "link", "row"] (defScope s_answer_tick) := ⟨rfl, rfl, rfl, by decide +kernel, rfl, by decide +kernel, by decide +kernel⟩
theorem sc_answer_cell : FnScope ["keeper", "k", "pair"] ["keeper", "k"] (defScope s_answer_cell) := ⟨rfl, rfl, rfl, by decide +kernel, rfl, by decide +kernel, by decide +kernel⟩
theorem sc_answer_state : FnScope ["keeper", "asked", "filling_ticks"] ["keeper"] (defScope s_answer_state) := ⟨rfl, rfl, rfl, by decide +kernel, rfl, by decide +kernel, by decide +kernel⟩
structure Txt (K : PySem.W.Frag) (mg : Str → Option Value) (CM CK CL aN aR : Addr) : Prop where
  g_FULL : GI mg "FULL" (4294967296)
  g_PART : GI mg "PART" (134217728)
  g_NO_CURRENT : GI mg "NO_CURRENT" (4294967295)
  g_OPEN : GI mg "OPEN" (0)
  g_FILLING : GI mg "FILLING" (1)
  g_CLOSED : GI mg "CLOSED" (2)
  g_BROKEN : GI mg "BROKEN" (3)
  g_MOST_OPEN_TICKS : GI mg "MOST_OPEN_TICKS" (65535)
  g_POINTS : GI mg "POINTS" (33)
  g_START : GI mg "START" (0)
  g_ASK : GI mg "ASK" (1)
  g_TICK : GI mg "TICK" (2)
  g_CELL : GI mg "CELL" (3)
  g_WRONG_MAKE : GI mg "WRONG_MAKE" (-22)
  g_NO_CELL : GI mg "NO_CELL" (-2)
  g_NUMBERS : mg "NUMBERS" = some (.ref aN)
  q_NUMBERS : ∀ H : Hp, SqT K H aN (BK.numsB.map V.int)
  g_HAS_ROW : mg "HAS_ROW" = some (.ref aR)
  q_HAS_ROW : ∀ H : Hp, SqT K H aR (BK.rowB.map V.bl)
  n_min : mg "min" = none
  n_max : mg "max" = none
  n_abs : mg "abs" = none
  n_len : mg "len" = none
  n_sum : mg "sum" = none
  n_all : mg "all" = none
  n_list : mg "list" = none
  n_range : mg "range" = none
  cl_Make : Cls K CM
  cl_Keeper : Cls K CK
  cl_Line : Cls K CL
  no_Make : ∀ x ∈ mkKeys, NoAttr K CM x
  no_Keeper : ∀ x ∈ kpKeys, NoAttr K CK x
  no_Line : NoAttr K CL "keeper"
  d_down : DefAt K mg "down" s_down ["number", "divisor"]
  d_up : DefAt K mg "up" s_up ["number", "divisor"]
  d_greatest_loss : DefAt K mg "greatest_loss" s_greatest_loss ["make", "drain"]
  d_least_loss : DefAt K mg "least_loss" s_least_loss ["make", "drain"]
  d_is_beyond_fuse : DefAt K mg "is_beyond_fuse" s_is_beyond_fuse ["make", "measured"]
  d_least_current : DefAt K mg "least_current" s_least_current ["make", "measured"]
  d_greatest_current : DefAt K mg "greatest_current" s_greatest_current ["make", "measured"]
  d_right_pair : DefAt K mg "right_pair" s_right_pair ["first", "second"]
  d_step : DefAt K mg "step" s_step ["make", "pair", "measured", "bled"]
  d_seen : DefAt K mg "seen" s_seen ["make", "pair", "measured", "voltage"]
  d_charge_down : DefAt K mg "charge_down" s_charge_down ["curve", "voltage"]
  d_charge_up : DefAt K mg "charge_up" s_charge_up ["curve", "voltage"]
  d_greatest_fall : DefAt K mg "greatest_fall" s_greatest_fall ["make"]
  d_greatest_rise : DefAt K mg "greatest_rise" s_greatest_rise ["make"]
  d_curve_times_part : DefAt K mg "curve_times_part" s_curve_times_part ["curve", "charge"]
  d_is_safe_below : DefAt K mg "is_safe_below" s_is_safe_below ["make", "charge", "ticks"]
  d_is_safe_above : DefAt K mg "is_safe_above" s_is_safe_above ["make", "charge", "ticks"]
  d_is_safe : DefAt K mg "is_safe" s_is_safe ["make", "pair", "ticks"]
  d_greatest_that : DefAt K mg "greatest_that" s_greatest_that ["top", "holds"]
  i_Keeper : InitAt K mg "Keeper" "Keeper.__init__" CK s_Keeper ["self", "make"]
  d_tick : DefAt K mg "tick" s_tick ["keeper", "measured", "link", "voltages"]
  d_go_on : DefAt K mg "go_on" s_go_on ["keeper", "measured", "link", "voltages"]
  d_flows_though_long_open : DefAt K mg "flows_though_long_open" s_flows_though_long_open ["keeper", "measured"]
  d_pairs_behind : DefAt K mg "pairs_behind" s_pairs_behind ["keeper", "measured", "voltages"]
  d_turn_switch : DefAt K mg "turn_switch" s_turn_switch ["keeper", "link", "voltage"]
  d_is_good : DefAt K mg "is_good" s_is_good ["keeper"]
  d_fill : DefAt K mg "fill" s_fill ["keeper", "link", "voltage"]
  d_cells_to_bleed : DefAt K mg "cells_to_bleed" s_cells_to_bleed ["keeper"]
  d_bled_bits : DefAt K mg "bled_bits" s_bled_bits ["keeper"]
  d_currents_for_next : DefAt K mg "currents_for_next" s_currents_for_next ["keeper"]
  d_least_of : DefAt K mg "least_of" s_least_of ["currents"]
  i_Make : InitAt K mg "Make" "Make.__init__" CM s_Make ["self", "numbers", "curve"]
  d_is_right : DefAt K mg "is_right" s_is_right ["make"]
  d_counts_are_right : DefAt K mg "counts_are_right" s_counts_are_right ["make"]
  d_cells_are_right : DefAt K mg "cells_are_right" s_cells_are_right ["make"]
  d_currents_are_right : DefAt K mg "currents_are_right" s_currents_are_right ["make"]
  d_voltages_are_right : DefAt K mg "voltages_are_right" s_voltages_are_right ["make"]
  d_curve_is_right : DefAt K mg "curve_is_right" s_curve_is_right ["curve"]
  i_Line : InitAt K mg "Line" "Line.__init__" CL s_Line ["self"]
  d_answers : DefAt K mg "answers" s_answers ["calls"]
  d_answer_call : DefAt K mg "answer_call" s_answer_call ["line", "call", "numbers", "row"]
  d_number_alone : DefAt K mg "number_alone" s_number_alone ["number"]
  d_number_and_four : DefAt K mg "number_and_four" s_number_and_four ["number", "four"]
  d_answer_start : DefAt K mg "answer_start" s_answer_start ["line", "make"]
  d_answer_ask : DefAt K mg "answer_ask" s_answer_ask ["keeper", "on"]
  d_answer_tick : DefAt K mg "answer_tick" s_answer_tick ["keeper", "measured", "link", "row"]
  d_answer_cell : DefAt K mg "answer_cell" s_answer_cell ["keeper", "k"]
  d_answer_state : DefAt K mg "answer_state" s_answer_state ["keeper"]
section
variable {P : Program} {w : World} {K : PySem.W.Frag} {mg : Str → Option Value} {base : Heap} {CM CK CL aN aR : Addr}
/-- an attribute of a make is read -/
theorem fldM (T : Txt K mg CM CK CL aN aR) {H : Hp} {m l dx : Addr} {M : Make} (h : MkAt CM H m l dx M) (i : Nat) {x : Str} {v : V} (hx : mkKeys[i]? = some x) (hv : (mkVals M l)[i]? = some v) {R : V → Prop} (q : R v) :
    ∃ a C dx fs w, V.ref m = V.ref a ∧ H a = some (.ins C dx fs) ∧ Cls K C ∧ NoAttr K C x ∧ fs.lookup x = some w ∧ R w :=
  ⟨m, CM, dx, _, v, rfl, h.ob, T.cl_Make, T.no_Make x (List.mem_of_getElem? hx), zf_look mkNd hx hv, q⟩

def sp_down : Sp := fun vs H Q _ => ∃ n d : Int, vs = [.int n, .int d] ∧ CDivB n d ∧ Q (.int (Kp82.down n d)) H
theorem d_down (T : Txt K mg CM CK CL aN aR) : Df P w K mg base "down" 1 ["number", "divisor"] sp_down := T.d_down.df fun f fd F => by
  refine F.ok sc_down (fun vs H Q E h => ?_) (fun cdv A outer s H vs Q E hr h => ?_)
  · obtain ⟨n, d, rfl, _⟩ := h; rfl
  · obtain ⟨n, d, rfl, hc, k⟩ := h
    refine ⟨_, (pss_one (ps_ret (pe_op op_fdivB (pv 0) (pv 1)))), ?_⟩
    exact ⟨_, rfl, _, rfl, n, d, rfl, rfl, hc, k⟩
def sp_up : Sp := fun vs H Q _ => ∃ n d : Int, vs = [.int n, .int d] ∧ CDivB n d ∧ Q (.int (Kp82.up n d)) H
theorem d_up (T : Txt K mg CM CK CL aN aR) : Df P w K mg base "up" 1 ["number", "divisor"] sp_up := T.d_up.df fun f fd F => by
  refine F.ok sc_up (fun vs H Q E h => ?_) (fun cdv A outer s H vs Q E hr h => ?_)
  · obtain ⟨n, d, rfl, _⟩ := h; rfl
  · obtain ⟨n, d, rfl, hc, k⟩ := h
    refine ⟨_, (pss_one (ps_ret (pe_un un_neg (pe_op op_fdivB (pe_un un_neg (pv 0)) (pv 1))))), ?_⟩
    exact ⟨_, rfl, n, rfl, _, rfl, -n, d, rfl, rfl, hc, _, rfl, k⟩
theorem divW {M : Make} (G : GM M) (n : Int) : CDivB n M.weak := ⟨G.wp, by have := G.k2; have := G.k3; omega⟩
theorem divS {M : Make} (G : GM M) (n : Int) : CDivB n M.strong := ⟨G.sp, by have := G.k3; omega⟩
def sp_loss (CM : Addr) (g : Make → Int → Int) : Sp := fun vs H Q _ => ∃ (m : Addr) (M : Make) (d : Int), vs = [.ref m, .int d] ∧ MakeAt CM H m M ∧ GM M ∧ Q (.int (g M d)) H
theorem d_greatest_loss (T : Txt K mg CM CK CL aN aR) : Df P w K mg base "greatest_loss" 2 ["make", "drain"] (sp_loss CM falls) := T.d_greatest_loss.df fun f fd F => by
  have D_up : Df P w K mg base "up" 1 _ _ := d_up T
  refine F.ok sc_greatest_loss (fun vs H Q E h => ?_) (fun cdv A outer s H vs Q E hr h => ?_)
  · obtain ⟨m, M, d, rfl, _⟩ := h; rfl
  · obtain ⟨m, M, d, rfl, ⟨l, dx, hM⟩, G, k⟩ := h
    refine ⟨_, (pss_one (ps_ret (pe_def D_up (hr.mono (by decide)) rfl (pa_cons (pe_op op_mul (pv 1) (pe_gint rfl T.g_FULL)) (pa_cons (pe_ifExp (pt_cmpR op_ge (pv 1) pe_int (nomark _)) (pe_fld (pv 0) rfl) (pe_fld (pv 0) rfl)) pa_nil))))), ?_⟩
    refine ⟨_, rfl, _, _, rfl, rfl, .inr ⟨by decide, by decide⟩, _, rfl, _, _, rfl, rfl, _, rfl, ?_⟩
    refine ite2 (fun c => ?_) fun c => ?_
    · refine ⟨_, rfl, fldM T hM 4 rfl rfl ⟨_, _, rfl, divW G _, ?_⟩⟩
      have c := of_decide_eq_true c
      have e : falls M d = Kp82.up (d * 4294967296) M.weak := by
        unfold falls; rw [if_neg (by omega)]; rfl
      rw [← e]; exact k
    · refine ⟨_, rfl, fldM T hM 5 rfl rfl ⟨_, _, rfl, divS G _, ?_⟩⟩
      have c : ¬ 0 ≤ d := fun q => c (decide_eq_true q)
      have e : falls M d = Kp82.up (d * 4294967296) M.strong := by
        unfold falls; rw [if_pos (by omega)]; rfl
      rw [← e]; exact k
theorem d_least_loss (T : Txt K mg CM CK CL aN aR) : Df P w K mg base "least_loss" 2 ["make", "drain"] (sp_loss CM fallsLeast) := T.d_least_loss.df fun f fd F => by
  have D_down : Df P w K mg base "down" 1 _ _ := d_down T
  refine F.ok sc_least_loss (fun vs H Q E h => ?_) (fun cdv A outer s H vs Q E hr h => ?_)
  · obtain ⟨m, M, d, rfl, _⟩ := h; rfl
  · obtain ⟨m, M, d, rfl, ⟨l, dx, hM⟩, G, k⟩ := h
    refine ⟨_, (pss_one (ps_ret (pe_def D_down (hr.mono (by decide)) rfl (pa_cons (pe_op op_mul (pv 1) (pe_gint rfl T.g_FULL)) (pa_cons (pe_ifExp (pt_cmpR op_ge (pv 1) pe_int (nomark _)) (pe_fld (pv 0) rfl) (pe_fld (pv 0) rfl)) pa_nil))))), ?_⟩
    refine ⟨_, rfl, _, _, rfl, rfl, .inr ⟨by decide, by decide⟩, _, rfl, _, _, rfl, rfl, _, rfl, ?_⟩
    refine ite2 (fun c => ?_) fun c => ?_
    · refine ⟨_, rfl, fldM T hM 5 rfl rfl ⟨_, _, rfl, divS G _, ?_⟩⟩
      have c := of_decide_eq_true c
      have e : fallsLeast M d = Kp82.down (d * 4294967296) M.strong := by
        unfold fallsLeast; rw [if_neg (by omega)]; rfl
      rw [← e]; exact k
    · refine ⟨_, rfl, fldM T hM 4 rfl rfl ⟨_, _, rfl, divW G _, ?_⟩⟩
      have c : ¬ 0 ≤ d := fun q => c (decide_eq_true q)
      have e : fallsLeast M d = Kp82.down (d * 4294967296) M.weak := by
        unfold fallsLeast; rw [if_pos (by omega)]; rfl
      rw [← e]; exact k
def sp_look (CM : Addr) (g : Make → Int → V) : Sp := fun vs H Q _ => ∃ (m : Addr) (M : Make) (i : Int), vs = [.ref m, .int i] ∧ MakeAt CM H m M ∧ Q (g M i) H
theorem d_is_beyond_fuse (T : Txt K mg CM CK CL aN aR) : Df P w K mg base "is_beyond_fuse" 1 ["make", "measured"] (sp_look CM fun M i => .bl (!within M i)) := T.d_is_beyond_fuse.df fun f fd F => by
  refine F.ok sc_is_beyond_fuse (fun vs H Q E h => ?_) (fun cdv A outer s H vs Q E hr h => ?_)
  · obtain ⟨m, M, d, rfl, _⟩ := h; rfl
  · obtain ⟨m, M, i, rfl, ⟨l, dx, hM⟩, k⟩ := h
    refine ⟨_, (pss_one (ps_ret (pe_cmpR op_gt (pe_callB call_abs (by rfl) T.n_abs bt_abs (pa_cons (pv 1) pa_nil)) (pe_op op_add (pe_fld (pv 0) rfl) (pe_fld (pv 0) rfl)) (nomark _)))), ?_⟩
    refine ⟨_, rfl, _, rfl, _, rfl, fldM T hM 12 rfl rfl ⟨_, rfl, fldM T hM 11 rfl rfl ⟨_, _, rfl, rfl, _, _, rfl, rfl, ?_⟩⟩⟩
    have e : (!within M i) = decide (M.fuse + M.off < if i < 0 then -i else i) := by
      unfold within
      rw [Bool.eq_iff_iff]
      simp only [Bool.not_eq_true', Bool.and_eq_false_iff, decide_eq_false_iff_not, decide_eq_true_eq]
      split <;> omega
    have k2 : Q (.bl (!within M i)) H := k
    rw [e] at k2
    exact k2
theorem d_least_current (T : Txt K mg CM CK CL aN aR) : Df P w K mg base "least_current" 1 ["make", "measured"] (sp_look CM fun M i => .int (iLow M i)) := T.d_least_current.df fun f fd F => by
  refine F.ok sc_least_current (fun vs H Q E h => ?_) (fun cdv A outer s H vs Q E hr h => ?_)
  · obtain ⟨m, M, d, rfl, _⟩ := h; rfl
  · obtain ⟨m, M, i, rfl, ⟨l, dx, hM⟩, k⟩ := h
    refine ⟨_, (pss_one (ps_ret (pe_callB (call_max2 rfl) (by rfl) T.n_max bt_max (pa_cons (pe_op op_sub (pv 1) (pe_fld (pv 0) rfl)) (pa_cons (pe_un un_neg (pe_fld (pv 0) rfl)) pa_nil))))), ?_⟩
    refine ⟨_, rfl, _, rfl, fldM T hM 11 rfl rfl ⟨_, _, rfl, rfl, _, rfl, fldM T hM 12 rfl rfl ⟨_, rfl, _, _, rfl, ?_⟩⟩⟩
    have e : iLow M i = if -M.fuse > i - M.off then -M.fuse else i - M.off := by
      unfold iLow
      split <;> omega
    rw [← e]; exact k
theorem d_greatest_current (T : Txt K mg CM CK CL aN aR) : Df P w K mg base "greatest_current" 1 ["make", "measured"] (sp_look CM fun M i => .int (iHigh M i)) := T.d_greatest_current.df fun f fd F => by
  refine F.ok sc_greatest_current (fun vs H Q E h => ?_) (fun cdv A outer s H vs Q E hr h => ?_)
  · obtain ⟨m, M, d, rfl, _⟩ := h; rfl
  · obtain ⟨m, M, i, rfl, ⟨l, dx, hM⟩, k⟩ := h
    refine ⟨_, (pss_one (ps_ret (pe_callB (call_min2 rfl) (by rfl) T.n_min bt_min (pa_cons (pe_op op_add (pv 1) (pe_fld (pv 0) rfl)) (pa_cons (pe_fld (pv 0) rfl) pa_nil))))), ?_⟩
    refine ⟨_, rfl, _, rfl, fldM T hM 11 rfl rfl ⟨_, _, rfl, rfl, _, rfl, fldM T hM 12 rfl rfl ⟨_, _, rfl, ?_⟩⟩⟩
    have e : iHigh M i = if M.fuse < i + M.off then M.fuse else i + M.off := by
      unfold iHigh
      split <;> omega
    rw [← e]; exact k
def sp_right_pair : Sp := fun vs H Q _ => ∃ a b : Int, vs = [.int a, .int b] ∧ RetPr H Q (Kp113.pair a b)
theorem d_right_pair (T : Txt K mg CM CK CL aN aR) : Df P w K mg base "right_pair" 1 ["first", "second"] sp_right_pair := T.d_right_pair.df fun f fd F => by
  refine F.ok sc_right_pair (fun vs H Q E h => ?_) (fun cdv A outer s H vs Q E hr h => ?_)
  · obtain ⟨a, b, rfl, _⟩ := h; rfl
  · obtain ⟨a, b, rfl, k⟩ := h
    refine ⟨_, (pss_one (ps_ret (pe_ifExp (pt_cmpR op_le (pv 0) (pv 1) (nomark _)) (pe_tup (pa_cons (pv 0) (pa_cons (pv 1) pa_nil))) pe_non))), ?_⟩
    refine ⟨_, rfl, _, rfl, _, _, rfl, rfl, _, rfl, ?_⟩
    unfold RetPr Kp113.pair at k
    refine ite2 (fun c => ?_) fun c => ?_
    · have c := of_decide_eq_true c
      rw [if_pos c] at k
      refine ⟨_, rfl, _, rfl, (by show 2 ≤ sizeLine; decide), fun p hp => ?_⟩
      exact k _ _ (same_upd hp) ⟨p, rfl, upd_same⟩
    · have c : ¬ a ≤ b := fun q => c (decide_eq_true q)
      rw [if_neg c] at k
      exact k _ _ (Same.refl H) rfl
end
end BK
end
section
set_option Elab.async false
set_option linter.all false
set_option maxRecDepth 100000
set_option maxHeartbeats 4000000
namespace BK
open PySem L2
open Kp113 (Make Pr falls fallsLeast within iLow iHigh point isMake goodMake)
section
variable {P : Program} {w : World} {K : PySem.W.Frag} {mg : Str → Option Value} {base : Heap} {CM CK CL aN aR : Addr}
def sp_step (CM : Addr) : Sp := fun vs H Q _ => ∃ (m a : Addr) (M : Make) (p : Pr) (i : Int) (b : Bool), vs = [.ref m, .ref a, .int i, .bl b] ∧ MakeAt CM H m M ∧ GM M ∧ TupAt H a p ∧ RetPr H Q (Kp113.step M p i b)
theorem d_step (T : Txt K mg CM CK CL aN aR) : Df P w K mg base "step" 3 ["make", "pair", "measured", "bled"] (sp_step CM) := T.d_step.df fun f fd F => by
  have D_is_beyond_fuse : Df P w K mg base "is_beyond_fuse" 1 _ _ := d_is_beyond_fuse T
  have D_greatest_current : Df P w K mg base "greatest_current" 1 _ _ := d_greatest_current T
  have D_least_current : Df P w K mg base "least_current" 1 _ _ := d_least_current T
  have D_greatest_loss : Df P w K mg base "greatest_loss" 2 _ _ := d_greatest_loss T
  have D_least_loss : Df P w K mg base "least_loss" 2 _ _ := d_least_loss T
  have D_right_pair : Df P w K mg base "right_pair" 1 _ _ := d_right_pair T
  refine F.ok sc_step (fun vs H Q E h => ?_) (fun cdv A outer s H vs Q E hr h => ?_)
  · obtain ⟨m, a, M, p, i, b, rfl, _⟩ := h; rfl
  · obtain ⟨m, a, M, p, i, b, rfl, hM', G, hp, k⟩ := h
    obtain ⟨l, dx, hM⟩ := id hM'
    have S := sc_step
    refine ⟨_, (pss_cons (ps_if (pt_val (pe_def D_is_beyond_fuse (hr.mono (by decide)) rfl (pa_cons (pv 0) (pa_cons (pv 2) pa_nil)))) (pss_one (ps_ret pe_non)) pss_nil) (pss_cons (ps_set (i := 4) S.nd rfl (Or.inl rfl) (pe_op op_add (pe_op op_add (pe_def D_greatest_current (hr.mono (by decide)) rfl (pa_cons (pv 0) (pa_cons (pv 2) pa_nil))) (pe_fld (pv 0) rfl)) (pe_ifExp (pt_val (pv 3)) (pe_fld (pv 0) rfl) pe_int))) (pss_cons (ps_set (i := 5) S.nd rfl (Or.inl rfl) (pe_op op_add (pe_def D_least_current (hr.mono (by decide)) rfl (pa_cons (pv 0) (pa_cons (pv 2) pa_nil))) (pe_ifExp (pt_val (pv 3)) (pe_fld (pv 0) rfl) pe_int))) (pss_cons (ps_set (i := 6) S.nd rfl (Or.inl rfl) (pe_callB (call_max2 rfl) (by rfl) T.n_max bt_max (pa_cons (pe_op op_sub (pe_ix ix_tup (pv 1) pe_int (fun _ _ => rfl)) (pe_def D_greatest_loss (hr.mono (by decide)) rfl (pa_cons (pv 0) (pa_cons (pv 4) pa_nil)))) (pa_cons pe_int pa_nil)))) (pss_cons (ps_set (i := 7) S.nd rfl (Or.inl rfl) (pe_callB (call_min2 rfl) (by rfl) T.n_min bt_min (pa_cons (pe_op op_sub (pe_ix ix_tup (pv 1) pe_int (fun _ _ => rfl)) (pe_def D_least_loss (hr.mono (by decide)) rfl (pa_cons (pv 0) (pa_cons (pv 5) pa_nil)))) (pa_cons (pe_gint rfl T.g_FULL) pa_nil)))) (pss_one (ps_ret (pe_def D_right_pair (hr.mono (by decide)) rfl (pa_cons (pv 6) (pa_cons (pv 7) pa_nil)))))))))), ?_⟩
    refine ⟨_, rfl, _, rfl, m, M, i, rfl, hM', _, rfl, ?_⟩
    refine ite2 (fun c => ?_) fun c => ?_
    · have e : Kp113.step M p i b = none := by
        unfold Kp113.step; rw [if_pos (by simpa using c)]
      rw [e] at k
      exact k _ _ (Same.refl H) rfl
    · have c : within M i = true := by simpa using c
      have e : Kp113.step M p i b = Kp113.pair (if 0 > p.lo - falls M (Kp113.most_ M i b) then 0 else p.lo - falls M (Kp113.most_ M i b)) (if 4294967296 < p.hi - fallsLeast M (Kp113.least_ M i b) then 4294967296 else p.hi - fallsLeast M (Kp113.least_ M i b)) := by
        unfold Kp113.step
        rw [if_neg (by rw [c]; decide)]
        congr 1
        · split <;> omega
        · have : Kp113.FULL = 4294967296 := rfl
          split <;> omega
      rw [e] at k
      cases b with
      | true =>
        refine ⟨_, rfl, _, rfl, m, M, i, rfl, hM', _, rfl, fldM T hM 8 rfl rfl ⟨_, _, rfl, rfl, _, rfl, _, rfl, iteT ⟨_, rfl, fldM T hM 10 rfl rfl ⟨_, _, rfl, rfl, ?_⟩⟩⟩⟩
        refine ⟨_, rfl, _, rfl, m, M, i, rfl, hM', _, rfl, _, rfl, iteT ⟨_, rfl, fldM T hM 9 rfl rfl ⟨_, _, rfl, rfl, ?_⟩⟩⟩
        refine ⟨_, rfl, _, _, _, _, rfl, rfl, SqT.of hp, rfl, _, rfl, _, rfl, m, M, _, rfl, hM', G, _, _, rfl, rfl, _, _, rfl, ?_⟩
        refine ⟨_, rfl, _, _, _, _, rfl, rfl, SqT.of hp, rfl, _, rfl, _, rfl, m, M, _, rfl, hM', G, _, _, rfl, rfl, _, _, rfl, ?_⟩
        exact ⟨_, rfl, _, rfl, _, _, rfl, k⟩
      | false =>
        refine ⟨_, rfl, _, rfl, m, M, i, rfl, hM', _, rfl, fldM T hM 8 rfl rfl ⟨_, _, rfl, rfl, _, rfl, _, rfl, iteF ⟨_, _, rfl, rfl, ?_⟩⟩⟩
        refine ⟨_, rfl, _, rfl, m, M, i, rfl, hM', _, rfl, _, rfl, iteF ⟨_, _, rfl, rfl, ?_⟩⟩
        refine ⟨_, rfl, _, _, _, _, rfl, rfl, SqT.of hp, rfl, _, rfl, _, rfl, m, M, _, rfl, hM', G, _, _, rfl, rfl, _, _, rfl, ?_⟩
        refine ⟨_, rfl, _, _, _, _, rfl, rfl, SqT.of hp, rfl, _, rfl, _, rfl, m, M, _, rfl, hM', G, _, _, rfl, rfl, _, _, rfl, ?_⟩
        exact ⟨_, rfl, _, rfl, _, _, rfl, k⟩
theorem GM.pt {M : Make} (G : GM M) {j : Nat} (hj : j ≤ 32) : M.curve[j]? = some (point M j) := by
  have hl := G.len
  unfold Kp113.point
  rw [List.getD_eq_getElem?_getD]
  rw [List.getElem?_eq_getElem (by omega)]
  rfl
theorem GM.p0' {M : Make} (G : GM M) {j : Nat} (hj : j ≤ 32) : 0 ≤ point M j ∧ point M j ≤ 8589934592 := by
  have h1 := G.mono (i := 0) (j := j) (by omega) hj
  have h2 := G.mono (i := j) (j := 32) hj (Nat.le_refl _)
  have := G.p0
  have := G.p32
  omega
theorem cuIx {M : Make} (G : GM M) {z : Int} {j : Nat} (hz : z = (j : Int)) (hj : j ≤ 32) : atI (M.curve.map V.int) z = some (.int (point M j)) := by
  rw [hz]
  refine atI_nat ?_
  rw [List.getElem?_map, G.pt hj]
  rfl
theorem cuLast {M : Make} (G : GM M) : atI (M.curve.map V.int) (-1) = some (.int (point M 32)) := by
  unfold atI
  have e : ixN (M.curve.map V.int).length (-1) = some 32 := by
    rw [List.length_map, G.len]; decide
  rw [e]
  show (M.curve.map V.int)[32]? = _
  rw [List.getElem?_map, G.pt (Nat.le_refl _)]
  rfl
def sp_charge_down : Sp := fun vs H Q _ => ∃ (l : Addr) (M : Make) (x : Int), vs = [.ref l, .int x] ∧ H l = some (.lst (M.curve.map V.int)) ∧ GM M ∧ x ≤ point M 32 ∧ Q (.int (if x ≤ point M 0 then 0 else Kp113.atDown M x)) H
def mu3 (n : Int) (σ : St) (_ : Hp) : Nat := match σ with
  | [_, _, some (.int k)] => (n - k).toNat
  | _ => 0
theorem d_charge_down (T : Txt K mg CM CK CL aN aR) : Df P w K mg base "charge_down" 2 ["curve", "voltage"] sp_charge_down := T.d_charge_down.df fun f fd F => by
  have D_down : Df P w K mg base "down" 1 _ _ := d_down T
  refine F.ok sc_charge_down (fun vs H Q E h => ?_) (fun cdv A outer s H vs Q E hr h => ?_)
  · obtain ⟨l, M, x, rfl, _⟩ := h; rfl
  · obtain ⟨l, M, x, rfl, hl, G, hx, k⟩ := h
    have S := sc_charge_down
    refine ⟨_, (pss_cons (ps_if (pt_cmpR op_le (pv 1) (pe_ix ix_list (pv 0) pe_int (fun _ _ => rfl)) (nomark _)) (pss_one (ps_ret pe_int)) pss_nil) (pss_cons (ps_set (i := 2) S.nd rfl (Or.inl rfl) pe_int) (pss_cons (ps_while PassesOwn.never (pt_cmpR op_lt (pe_ix ix_list (pv 0) (pe_op op_add (pv 2) pe_int) (fun _ _ => rfl)) (pv 1) (nomark _)) (pss_one (ps_aug (i := 2) S.nd rfl (Or.inl rfl) pe_int ip_add))) (pss_one (ps_ret (pe_op op_add (pe_op op_mul (pv 2) (pe_gint rfl T.g_PART)) (pe_def D_down (hr.mono (by decide)) rfl (pa_cons (pe_op op_mul (pe_op op_sub (pv 1) (pe_ix ix_list (pv 0) (pv 2) (fun _ _ => rfl))) (pe_gint rfl T.g_PART)) (pa_cons (pe_op op_sub (pe_ix ix_list (pv 0) (pe_op op_add (pv 2) pe_int) (fun _ _ => rfl)) (pe_ix ix_list (pv 0) (pv 2) (fun _ _ => rfl))) pa_nil))))))))), ?_⟩
    refine ⟨_, rfl, _, rfl, _, _, _, _, rfl, rfl, SqL.of hl, cuIx G (j := 0) rfl (by omega), _, _, rfl, rfl, _, rfl, ?_⟩
    refine ite2 (fun c => ?_) fun c => ?_
    · have c := of_decide_eq_true c
      rw [if_pos c] at k
      exact k
    · have c : ¬ x ≤ point M 0 := fun q => c (decide_eq_true q)
      rw [if_neg c] at k
      refine while_by (fun σ H' => ∃ j : Nat, j < 32 ∧ point M j < x ∧ σ = [some (.ref l), some (.int x), some (.int j)] ∧ H' = H) (mu3 32) ⟨0, by decide, by omega, rfl, rfl⟩ ?_ ?_
      · rintro σ H' ⟨j, hj, hjx, rfl, rfl⟩
        refine ⟨_, rfl, _, rfl, _, _, rfl, rfl, _, _, _, _, rfl, rfl, SqL.of hl, cuIx G (j := j + 1) rfl (by omega), _, rfl, _, _, rfl, rfl, _, rfl, ?_⟩
        refine ite2 (fun c2 => ?_) fun c2 => ?_
        · have c2 := of_decide_eq_true c2
          have hj1 : j + 1 < 32 := by
            by_cases z : j + 1 = 32
            · rw [z] at c2; omega
            · omega
          refine ⟨_, rfl, _, _, rfl, rfl, ⟨j + 1, hj1, c2, rfl, rfl⟩, ?_⟩
          show (32 - ((j : Int) + 1)).toNat < (32 - (j : Int)).toNat
          omega
        · have c2 : ¬ point M (j + 1) < x := fun q => c2 (decide_eq_true q)
          have r := G.ris j hj
          have b1 := G.p0' (j := j) (by omega)
          have b2 := G.p0' (j := j + 1) (by omega)
          refine ⟨_, rfl, _, _, rfl, rfl, .inr ⟨by decide, by decide⟩, _, rfl, _, rfl, _, rfl, _, _, _, _, rfl, rfl, SqL.of hl, cuIx G (j := j) rfl (by omega), _, _, rfl, rfl, _, _, rfl, rfl, .inr ⟨by decide, by decide⟩,
            _, rfl, _, rfl, _, _, rfl, rfl, _, _, _, _, rfl, rfl, SqL.of hl, cuIx G (j := j + 1) rfl (by omega), _, rfl, _, rfl, _, _, _, _, rfl, rfl, SqL.of hl, cuIx G (j := j) rfl (by omega), _, _, rfl, rfl, _, _, rfl, ⟨by omega, by omega⟩, _, _, rfl, rfl, ?_⟩
          rw [atDown_eq G hj hjx (by omega)] at k
          exact k
      · rintro σ H' Q1 Q2 hq ⟨v0, e0, v2, e2, i, j, ei, ej, p, xs, i', v, ep, ei', sq, at_, v1, e1, i2, j2, ei2, ej2, k2, ek, q⟩
        exact ⟨v0, e0, v2, e2, i, j, ei, ej, p, xs, i', v, ep, ei', sq, at_, v1, e1, i2, j2, ei2, ej2, k2, ek, hq _ _ q⟩
def sp_charge_up : Sp := fun vs H Q _ => ∃ (l : Addr) (M : Make) (y : Int), vs = [.ref l, .int y] ∧ H l = some (.lst (M.curve.map V.int)) ∧ GM M ∧ point M 0 ≤ y ∧ Q (.int (if point M 32 ≤ y then 4294967296 else Kp113.atUp M y)) H
theorem d_charge_up (T : Txt K mg CM CK CL aN aR) : Df P w K mg base "charge_up" 2 ["curve", "voltage"] sp_charge_up := T.d_charge_up.df fun f fd F => by
  have D_up : Df P w K mg base "up" 1 _ _ := d_up T
  refine F.ok sc_charge_up (fun vs H Q E h => ?_) (fun cdv A outer s H vs Q E hr h => ?_)
  · obtain ⟨l, M, x, rfl, _⟩ := h; rfl
  · obtain ⟨l, M, x, rfl, hl, G, hx, k⟩ := h
    have S := sc_charge_up
    refine ⟨_, (pss_cons (ps_if (pt_cmpR op_ge (pv 1) (pe_ix ix_list (pv 0) (pe_un un_neg pe_int) (fun _ _ => rfl)) (nomark _)) (pss_one (ps_ret (pe_gint rfl T.g_FULL))) pss_nil) (pss_cons (ps_set (i := 2) S.nd rfl (Or.inl rfl) pe_int) (pss_cons (ps_while PassesOwn.never (pt_cmpR op_le (pe_ix ix_list (pv 0) (pe_op op_add (pv 2) pe_int) (fun _ _ => rfl)) (pv 1) (nomark _)) (pss_one (ps_aug (i := 2) S.nd rfl (Or.inl rfl) pe_int ip_add))) (pss_one (ps_ret (pe_op op_add (pe_op op_mul (pv 2) (pe_gint rfl T.g_PART)) (pe_def D_up (hr.mono (by decide)) rfl (pa_cons (pe_op op_mul (pe_op op_sub (pv 1) (pe_ix ix_list (pv 0) (pv 2) (fun _ _ => rfl))) (pe_gint rfl T.g_PART)) (pa_cons (pe_op op_sub (pe_ix ix_list (pv 0) (pe_op op_add (pv 2) pe_int) (fun _ _ => rfl)) (pe_ix ix_list (pv 0) (pv 2) (fun _ _ => rfl))) pa_nil))))))))), ?_⟩
    refine ⟨_, rfl, _, rfl, _, rfl, _, _, _, _, rfl, rfl, SqL.of hl, cuLast G, _, _, rfl, rfl, _, rfl, ?_⟩
    refine ite2 (fun c => ?_) fun c => ?_
    · have c := of_decide_eq_true c
      rw [if_pos c] at k
      exact k
    · have c : ¬ point M 32 ≤ x := fun q => c (decide_eq_true q)
      rw [if_neg c] at k
      refine while_by (fun σ H' => ∃ j : Nat, j < 32 ∧ point M j ≤ x ∧ σ = [some (.ref l), some (.int x), some (.int j)] ∧ H' = H) (mu3 32) ⟨0, by decide, by omega, rfl, rfl⟩ ?_ ?_
      · rintro σ H' ⟨j, hj, hjx, rfl, rfl⟩
        refine ⟨_, rfl, _, rfl, _, _, rfl, rfl, _, _, _, _, rfl, rfl, SqL.of hl, cuIx G (j := j + 1) rfl (by omega), _, rfl, _, _, rfl, rfl, _, rfl, ?_⟩
        refine ite2 (fun c2 => ?_) fun c2 => ?_
        · have c2 := of_decide_eq_true c2
          have hj1 : j + 1 < 32 := by
            by_cases z : j + 1 = 32
            · rw [z] at c2; omega
            · omega
          refine ⟨_, rfl, _, _, rfl, rfl, ⟨j + 1, hj1, c2, rfl, rfl⟩, ?_⟩
          show (32 - ((j : Int) + 1)).toNat < (32 - (j : Int)).toNat
          omega
        · have c2 : ¬ point M (j + 1) ≤ x := fun q => c2 (decide_eq_true q)
          have r := G.ris j hj
          have b1 := G.p0' (j := j) (by omega)
          have b2 := G.p0' (j := j + 1) (by omega)
          refine ⟨_, rfl, _, _, rfl, rfl, .inr ⟨by decide, by decide⟩, _, rfl, _, rfl, _, rfl, _, _, _, _, rfl, rfl, SqL.of hl, cuIx G (j := j) rfl (by omega), _, _, rfl, rfl, _, _, rfl, rfl, .inr ⟨by decide, by decide⟩,
            _, rfl, _, rfl, _, _, rfl, rfl, _, _, _, _, rfl, rfl, SqL.of hl, cuIx G (j := j + 1) rfl (by omega), _, rfl, _, rfl, _, _, _, _, rfl, rfl, SqL.of hl, cuIx G (j := j) rfl (by omega), _, _, rfl, rfl, _, _, rfl, ⟨by omega, by omega⟩, _, _, rfl, rfl, ?_⟩
          rw [atUp_eq G hj hjx (by omega)] at k
          exact k
      · rintro σ H' Q1 Q2 hq ⟨v0, e0, v2, e2, i, j, ei, ej, p, xs, i', v, ep, ei', sq, at_, v1, e1, i2, j2, ei2, ej2, k2, ek, q⟩
        exact ⟨v0, e0, v2, e2, i, j, ei, ej, p, xs, i', v, ep, ei', sq, at_, v1, e1, i2, j2, ei2, ej2, k2, ek, hq _ _ q⟩
def sp_m1 (CM : Addr) (g : Make → Int) : Sp := fun vs H Q _ => ∃ (m : Addr) (M : Make), vs = [.ref m] ∧ MakeAt CM H m M ∧ GM M ∧ Q (.int (g M)) H
theorem d_greatest_fall (T : Txt K mg CM CK CL aN aR) : Df P w K mg base "greatest_fall" 3 ["make"] (sp_m1 CM Kp114.fall) := T.d_greatest_fall.df fun f fd F => by
  have D_greatest_loss : Df P w K mg base "greatest_loss" 2 _ _ := d_greatest_loss T
  refine F.ok sc_greatest_fall (fun vs H Q E h => ?_) (fun cdv A outer s H vs Q E hr h => ?_)
  · obtain ⟨m, M, rfl, _⟩ := h; rfl
  · obtain ⟨m, M, rfl, hM', G, k⟩ := h
    obtain ⟨l, dx, hM⟩ := id hM'
    refine ⟨_, (pss_one (ps_ret (pe_def D_greatest_loss (hr.mono (by decide)) rfl (pa_cons (pv 0) (pa_cons (pe_op op_add (pe_op op_add (pe_fld (pv 0) rfl) (pe_fld (pv 0) rfl)) (pe_fld (pv 0) rfl)) pa_nil))))), ?_⟩
    refine ⟨_, rfl, _, rfl, fldM T hM 12 rfl rfl ⟨_, rfl, fldM T hM 8 rfl rfl ⟨_, _, rfl, rfl, _, rfl, fldM T hM 10 rfl rfl ⟨_, _, rfl, rfl, m, M, _, rfl, hM', G, ?_⟩⟩⟩⟩
    have e : falls M (M.fuse + M.leak + M.bleedHigh) = Kp114.fall M := by
      unfold falls Kp114.fall
      have := G.u0; have := G.e0; have := G.b0; have := G.b1
      rw [if_neg (by omega)]
    rw [e]; exact k
theorem d_greatest_rise (T : Txt K mg CM CK CL aN aR) : Df P w K mg base "greatest_rise" 3 ["make"] (sp_m1 CM Kp114.rise) := T.d_greatest_rise.df fun f fd F => by
  have D_greatest_loss : Df P w K mg base "greatest_loss" 2 _ _ := d_greatest_loss T
  refine F.ok sc_greatest_rise (fun vs H Q E h => ?_) (fun cdv A outer s H vs Q E hr h => ?_)
  · obtain ⟨m, M, rfl, _⟩ := h; rfl
  · obtain ⟨m, M, rfl, hM', G, k⟩ := h
    obtain ⟨l, dx, hM⟩ := id hM'
    refine ⟨_, (pss_one (ps_ret (pe_def D_greatest_loss (hr.mono (by decide)) rfl (pa_cons (pv 0) (pa_cons (pe_fld (pv 0) rfl) pa_nil))))), ?_⟩
    refine ⟨_, rfl, _, rfl, fldM T hM 12 rfl rfl ⟨m, M, _, rfl, hM', G, ?_⟩⟩
    have e : falls M M.fuse = Kp114.rise M := by
      unfold falls Kp114.rise
      have := G.u0
      rw [if_neg (by omega)]
    rw [e]; exact k
def sp_ctp : Sp := fun vs H Q _ => ∃ (l : Addr) (M : Make) (z : Int), vs = [.ref l, .int z] ∧ H l = some (.lst (M.curve.map V.int)) ∧ GM M ∧ 0 ≤ z ∧ z ≤ 4294967296 ∧ Q (.int (tt M z)) H
theorem d_curve_times_part (T : Txt K mg CM CK CL aN aR) : Df P w K mg base "curve_times_part" 1 ["curve", "charge"] sp_ctp := T.d_curve_times_part.df fun f fd F => by
  refine F.ok sc_curve_times_part (fun vs H Q E h => ?_) (fun cdv A outer s H vs Q E hr h => ?_)
  · obtain ⟨l, M, z, rfl, _⟩ := h; rfl
  · obtain ⟨l, M, z, rfl, hl, G, h0, h1, k⟩ := h
    have S := sc_curve_times_part
    refine ⟨_, (pss_cons (ps_if (pt_cmpR op_eq (pv 1) (pe_gint rfl T.g_FULL) (nomark _)) (pss_one (ps_ret (pe_op op_mul (pe_ix ix_list (pv 0) (pe_un un_neg pe_int) (fun _ _ => rfl)) (pe_gint rfl T.g_PART)))) pss_nil) (pss_cons (ps_set (i := 2) S.nd rfl (Or.inl rfl) (pe_op op_fdivB (pv 1) (pe_gint rfl T.g_PART))) (pss_one (ps_ret (pe_op op_add (pe_op op_mul (pe_ix ix_list (pv 0) (pv 2) (fun _ _ => rfl)) (pe_gint rfl T.g_PART)) (pe_op op_mul (pe_op op_sub (pe_ix ix_list (pv 0) (pe_op op_add (pv 2) pe_int) (fun _ _ => rfl)) (pe_ix ix_list (pv 0) (pv 2) (fun _ _ => rfl))) (pe_op op_mod (pv 1) (pe_gint rfl T.g_PART)))))))), ?_⟩
    refine ⟨_, rfl, rfl, _, rfl, ?_⟩
    unfold tt at k
    refine ite2 (fun c => ?_) fun c => ?_
    · have c : z = 4294967296 := V.int.inj (of_decide_eq_true c)
      rw [if_pos c] at k
      exact ⟨_, rfl, _, rfl, _, _, _, _, rfl, rfl, SqL.of hl, cuLast G, _, _, rfl, rfl, .inr ⟨by decide, by decide⟩, k⟩
    · have c : ¬ z = 4294967296 := fun q => c (decide_eq_true (by rw [q]))
      rw [if_neg c] at k
      have e1 : z.fdiv 134217728 = (((z / 134217728).toNat : Nat) : Int) := by
        rw [Int.fdiv_eq_ediv_of_nonneg _ (by decide)]; omega
      refine ⟨_, rfl, _, _, rfl, rfl, ⟨by decide, by decide⟩, ?_⟩
      refine ⟨_, rfl, _, rfl, _, _, _, _, rfl, rfl, SqL.of hl, cuIx G e1 (by omega), _, _, rfl, rfl, .inr ⟨by decide, by decide⟩, _, rfl, _, rfl, _, _, rfl, rfl, _, _, _, _, rfl, rfl, SqL.of hl, cuIx G (j := (z / 134217728).toNat + 1) (by rw [e1]; rfl) (by omega),
        _, rfl, _, rfl, _, _, _, _, rfl, rfl, SqL.of hl, cuIx G e1 (by omega), _, _, rfl, rfl, _, rfl, _, _, rfl, rfl, (show (0 : Int) < 134217728 by decide), _, _, rfl, rfl, .inr ⟨by omega, by omega⟩, _, _, rfl, rfl, k⟩
def sp_below (CM : Addr) : Sp := fun vs H Q _ => ∃ (m : Addr) (M : Make) (z t : Int), vs = [.ref m, .int z, .int t] ∧ MakeAt CM H m M ∧ GM M ∧ 1 ≤ t ∧ t ≤ 16 ∧ z ≤ 4294967296 ∧ Q (.bl (Kp114.safeBelow M z t)) H
theorem d_is_safe_below (T : Txt K mg CM CK CL aN aR) : Df P w K mg base "is_safe_below" 4 ["make", "charge", "ticks"] (sp_below CM) := T.d_is_safe_below.df fun f fd F => by
  have D_greatest_fall : Df P w K mg base "greatest_fall" 3 _ _ := d_greatest_fall T
  have D_curve_times_part : Df P w K mg base "curve_times_part" 1 _ _ := d_curve_times_part T
  refine F.ok sc_is_safe_below (fun vs H Q E h => ?_) (fun cdv A outer s H vs Q E hr h => ?_)
  · obtain ⟨m, M, z, t, rfl, _⟩ := h; rfl
  · obtain ⟨m, M, z, t, rfl, hM', G, t1, t2, hz, k⟩ := h
    obtain ⟨l, dx, hM⟩ := id hM'
    have S := sc_is_safe_below
    refine ⟨_, (pss_cons (ps_set (i := 3) S.nd rfl (Or.inl rfl) (pe_def D_greatest_fall (hr.mono (by decide)) rfl (pa_cons (pv 0) pa_nil))) (pss_cons (ps_if (pt_cmpR op_lt (pe_op op_sub (pv 1) (pe_op op_mul (pv 2) (pv 3))) pe_int (nomark _)) (pss_one (ps_ret pe_bl)) pss_nil) (pss_cons (ps_set (i := 4) S.nd rfl (Or.inl rfl) (pe_op op_add (pe_op op_add (pe_fld (pv 0) rfl) (pe_fld (pv 0) rfl)) (pe_op op_mul (pe_fld (pv 0) rfl) (pe_fld (pv 0) rfl)))) (pss_one (ps_ret (pe_cmpR op_ge (pe_def D_curve_times_part (hr.mono (by decide)) rfl (pa_cons (pe_fld (pv 0) rfl) (pa_cons (pe_op op_sub (pv 1) (pe_op op_mul (pe_op op_sub (pv 2) pe_int) (pv 3))) pa_nil))) (pe_op op_mul (pv 4) (pe_gint rfl T.g_PART)) (nomark _))))))), ?_⟩
    refine ⟨_, rfl, m, M, rfl, hM', G, ?_⟩
    refine ⟨_, rfl, _, rfl, _, rfl, _, _, rfl, rfl, .inl ⟨by omega, by omega⟩, _, _, rfl, rfl, _, _, rfl, rfl, _, rfl, ?_⟩
    have f0 := G.fall0
    have m1 : (t - 1) * Kp114.fall M = t * Kp114.fall M - Kp114.fall M := by rw [Int.sub_mul]; omega
    have m2 : 0 ≤ (t - 1) * Kp114.fall M := Int.mul_nonneg (by omega) f0
    unfold Kp114.safeBelow at k
    refine ite2 (fun c => ?_) fun c => ?_
    · have c := of_decide_eq_true c
      rw [decide_eq_false (by omega), Bool.false_and] at k
      exact k
    · have c : ¬ z - t * Kp114.fall M < 0 := fun q => c (decide_eq_true q)
      rw [decide_eq_true (by omega), Bool.true_and, atLeast_eq (by omega) (by omega)] at k
      have := G.l0; have := G.l1; have := G.l2
      refine ⟨_, rfl, fldM T hM 16 rfl rfl ⟨_, rfl, fldM T hM 15 rfl rfl ⟨_, _, rfl, rfl, _, rfl, fldM T hM 7 rfl rfl ⟨_, rfl, fldM T hM 12 rfl rfl ⟨_, _, rfl, rfl, .inl ⟨by omega, by omega⟩, _, _, rfl, rfl, ?_⟩⟩⟩⟩⟩
      refine ⟨_, rfl, fldM T hM 18 rfl rfl ⟨_, rfl, _, rfl, _, _, rfl, rfl, _, rfl, _, _, rfl, rfl, .inl ⟨by omega, by omega⟩, _, _, rfl, rfl, l, M, _, rfl, hM.cu, G, by omega, by omega, _, rfl, _, _, rfl, rfl, .inr ⟨by decide, by decide⟩, _, _, rfl, rfl, k⟩⟩
def sp_above (CM : Addr) : Sp := fun vs H Q _ => ∃ (m : Addr) (M : Make) (z t : Int), vs = [.ref m, .int z, .int t] ∧ MakeAt CM H m M ∧ GM M ∧ 1 ≤ t ∧ t ≤ 16 ∧ 0 ≤ z ∧ Q (.bl (Kp114.safeAbove M z t)) H
theorem d_is_safe_above (T : Txt K mg CM CK CL aN aR) : Df P w K mg base "is_safe_above" 4 ["make", "charge", "ticks"] (sp_above CM) := T.d_is_safe_above.df fun f fd F => by
  have D_greatest_rise : Df P w K mg base "greatest_rise" 3 _ _ := d_greatest_rise T
  have D_curve_times_part : Df P w K mg base "curve_times_part" 1 _ _ := d_curve_times_part T
  refine F.ok sc_is_safe_above (fun vs H Q E h => ?_) (fun cdv A outer s H vs Q E hr h => ?_)
  · obtain ⟨m, M, z, t, rfl, _⟩ := h; rfl
  · obtain ⟨m, M, z, t, rfl, hM', G, t1, t2, hz, k⟩ := h
    obtain ⟨l, dx, hM⟩ := id hM'
    have S := sc_is_safe_above
    refine ⟨_, (pss_cons (ps_set (i := 3) S.nd rfl (Or.inl rfl) (pe_def D_greatest_rise (hr.mono (by decide)) rfl (pa_cons (pv 0) pa_nil))) (pss_cons (ps_if (pt_cmpR op_gt (pe_op op_add (pv 1) (pe_op op_mul (pv 2) (pv 3))) (pe_gint rfl T.g_FULL) (nomark _)) (pss_one (ps_ret pe_bl)) pss_nil) (pss_cons (ps_set (i := 4) S.nd rfl (Or.inl rfl) (pe_op op_sub (pe_op op_sub (pe_fld (pv 0) rfl) (pe_fld (pv 0) rfl)) (pe_op op_mul (pe_fld (pv 0) rfl) (pe_fld (pv 0) rfl)))) (pss_one (ps_ret (pe_cmpR op_le (pe_def D_curve_times_part (hr.mono (by decide)) rfl (pa_cons (pe_fld (pv 0) rfl) (pa_cons (pe_op op_add (pv 1) (pe_op op_mul (pe_op op_sub (pv 2) pe_int) (pv 3))) pa_nil))) (pe_op op_mul (pv 4) (pe_gint rfl T.g_PART)) (nomark _))))))), ?_⟩
    refine ⟨_, rfl, m, M, rfl, hM', G, ?_⟩
    refine ⟨_, rfl, _, rfl, _, rfl, _, _, rfl, rfl, .inl ⟨by omega, by omega⟩, _, _, rfl, rfl, _, _, rfl, rfl, _, rfl, ?_⟩
    have f0 := G.rise0
    have m1 : (t - 1) * Kp114.rise M = t * Kp114.rise M - Kp114.rise M := by rw [Int.sub_mul]; omega
    have m2 : 0 ≤ (t - 1) * Kp114.rise M := Int.mul_nonneg (by omega) f0
    have hF : Kp113.FULL = 4294967296 := rfl
    unfold Kp114.safeAbove at k
    rw [hF] at k
    refine ite2 (fun c => ?_) fun c => ?_
    · have c := of_decide_eq_true c
      rw [decide_eq_false (by omega), Bool.false_and] at k
      exact k
    · have c : ¬ 4294967296 < z + t * Kp114.rise M := fun q => c (decide_eq_true q)
      rw [decide_eq_true (by omega), Bool.true_and, atMost_eq (by omega) (by omega)] at k
      have := G.l0; have := G.l1; have := G.l2
      refine ⟨_, rfl, fldM T hM 17 rfl rfl ⟨_, rfl, fldM T hM 15 rfl rfl ⟨_, _, rfl, rfl, _, rfl, fldM T hM 7 rfl rfl ⟨_, rfl, fldM T hM 12 rfl rfl ⟨_, _, rfl, rfl, .inl ⟨by omega, by omega⟩, _, _, rfl, rfl, ?_⟩⟩⟩⟩⟩
      refine ⟨_, rfl, fldM T hM 18 rfl rfl ⟨_, rfl, _, rfl, _, _, rfl, rfl, _, rfl, _, _, rfl, rfl, .inl ⟨by omega, by omega⟩, _, _, rfl, rfl, l, M, _, rfl, hM.cu, G, by omega, by omega, _, rfl, _, _, rfl, rfl, .inr ⟨by decide, by decide⟩, _, _, rfl, rfl, k⟩⟩
def sp_safe (CM : Addr) : Sp := fun vs H Q _ => ∃ (m a : Addr) (M : Make) (p : Pr) (t : Int), vs = [.ref m, .ref a, .int t] ∧ MakeAt CM H m M ∧ GM M ∧ TupAt H a p ∧ PrOk p ∧ 1 ≤ t ∧ t ≤ 16 ∧ Q (.bl (Kp114.safe M p t)) H
theorem d_is_safe (T : Txt K mg CM CK CL aN aR) : Df P w K mg base "is_safe" 5 ["make", "pair", "ticks"] (sp_safe CM) := T.d_is_safe.df fun f fd F => by
  have D_is_safe_below : Df P w K mg base "is_safe_below" 4 _ _ := d_is_safe_below T
  have D_is_safe_above : Df P w K mg base "is_safe_above" 4 _ _ := d_is_safe_above T
  refine F.ok sc_is_safe (fun vs H Q E h => ?_) (fun cdv A outer s H vs Q E hr h => ?_)
  · obtain ⟨m, a, M, p, t, rfl, _⟩ := h; rfl
  · obtain ⟨m, a, M, p, t, rfl, hM', G, hp, ⟨o1, o2, o3⟩, t1, t2, k⟩ := h
    refine ⟨_, (pss_one (ps_ret (pe_and (pe_def D_is_safe_below (hr.mono (by decide)) rfl (pa_cons (pv 0) (pa_cons (pe_ix ix_tup (pv 1) pe_int (fun _ _ => rfl)) (pa_cons (pv 2) pa_nil)))) (pe_one (pe_def D_is_safe_above (hr.mono (by decide)) rfl (pa_cons (pv 0) (pa_cons (pe_ix ix_tup (pv 1) pe_int (fun _ _ => rfl)) (pa_cons (pv 2) pa_nil)))))))), ?_⟩
    refine ⟨_, rfl, _, rfl, _, _, _, _, rfl, rfl, SqT.of hp, rfl, _, rfl, m, M, _, _, rfl, hM', G, t1, t2, by omega, _, rfl, ?_⟩
    unfold Kp114.safe at k
    refine ite2 (fun c => ?_) fun c => ?_
    · rw [c, Bool.true_and] at k
      exact ⟨_, rfl, _, rfl, _, _, _, _, rfl, rfl, SqT.of hp, rfl, _, rfl, m, M, _, _, rfl, hM', G, t1, t2, by omega, k⟩
    · rw [Bool.eq_false_iff.mpr c, Bool.false_and] at k
      exact k
end
end BK
end
section
set_option Elab.async false
set_option linter.all false
set_option maxRecDepth 100000
set_option maxHeartbeats 4000000
namespace BK
open PySem L2
open Kp113 (Make Pr falls fallsLeast within iLow iHigh point isMake goodMake)
section
variable {P : Program} {w : World} {K : PySem.W.Frag} {mg : Str → Option Value} {base : Heap} {CM CK CL aN aR : Addr}
theorem RetPr.same {H H' : Hp} {Q : VK} {o : Option Pr} (k : RetPr H Q o) (s : Same H H') : RetPr H' Q o := fun v H2 s2 h => k v H2 (s.trans s2) h
def sp_seen (CM : Addr) : Sp := fun vs H Q _ => ∃ (m a : Addr) (M : Make) (p : Pr) (i v : Int), vs = [.ref m, .ref a, .int i, .int v] ∧ MakeAt CM H m M ∧ GM M ∧ TupAt H a p ∧ RetPr H Q (Kp113.seen M p i v)
theorem d_seen (T : Txt K mg CM CK CL aN aR) : Df P w K mg base "seen" 3 ["make", "pair", "measured", "voltage"] (sp_seen CM) := T.d_seen.df fun f fd F => by
  have D_is_beyond_fuse : Df P w K mg base "is_beyond_fuse" 1 _ _ := d_is_beyond_fuse T
  have D_greatest_current : Df P w K mg base "greatest_current" 1 _ _ := d_greatest_current T
  have D_least_current : Df P w K mg base "least_current" 1 _ _ := d_least_current T
  have D_charge_down : Df P w K mg base "charge_down" 2 _ _ := d_charge_down T
  have D_charge_up : Df P w K mg base "charge_up" 2 _ _ := d_charge_up T
  have D_right_pair : Df P w K mg base "right_pair" 1 _ _ := d_right_pair T
  refine F.ok sc_seen (fun vs H Q E h => ?_) (fun cdv A outer s H vs Q E hr h => ?_)
  · obtain ⟨m, a, M, p, i, v, rfl, _⟩ := h; rfl
  · obtain ⟨m, a, M, p, i, v, rfl, hM', G, hp, k⟩ := h
    obtain ⟨l, dx, hM⟩ := id hM'
    have S := sc_seen
    refine ⟨_, (pss_cons (ps_if (PW.pt (pw_or (pt_val (pe_def D_is_beyond_fuse (hr.mono (by decide)) rfl (pa_cons (pv 0) (pa_cons (pv 2) pa_nil)))) (pw_or1 (pt_cmpR op_gt (pe_callB call_abs (by rfl) T.n_abs bt_abs (pa_cons (pv 3) pa_nil)) (pe_op op_pow pe_int pe_int) (nomark _))))) (pss_one (ps_ret pe_non)) pss_nil) (pss_cons (ps_set (i := 4) S.nd rfl (Or.inl rfl) (pe_def D_least_current (hr.mono (by decide)) rfl (pa_cons (pv 0) (pa_cons (pv 2) pa_nil)))) (pss_cons (ps_set (i := 5) S.nd rfl (Or.inl rfl) (pe_def D_greatest_current (hr.mono (by decide)) rfl (pa_cons (pv 0) (pa_cons (pv 2) pa_nil)))) (pss_cons (ps_set (i := 6) S.nd rfl (Or.inl rfl) (pe_lst (pa_cons (pe_op op_mul (pe_fld (pv 0) rfl) (pv 4)) (pa_cons (pe_op op_mul (pe_fld (pv 0) rfl) (pv 5)) (pa_cons (pe_op op_mul (pe_fld (pv 0) rfl) (pv 4)) (pa_cons (pe_op op_mul (pe_fld (pv 0) rfl) (pv 5)) pa_nil)))))) (pss_cons (ps_set (i := 7) S.nd rfl (Or.inl rfl) (pe_op op_sub (pe_op op_add (pe_op op_sub (pv 3) (pe_fld (pv 0) rfl)) (pe_callB (cr_min rfl) (by rfl) T.n_min bt_min (pa_cons (pv 6) pa_nil))) (pe_fld (pv 0) rfl))) (pss_cons (ps_set (i := 8) S.nd rfl (Or.inl rfl) (pe_op op_add (pe_op op_add (pe_op op_add (pv 3) (pe_fld (pv 0) rfl)) (pe_callB (cr_max rfl) (by rfl) T.n_max bt_max (pa_cons (pv 6) pa_nil))) (pe_fld (pv 0) rfl))) (pss_cons (ps_if (PW.pt (pw_or (pt_cmpR op_gt (pv 7) (pe_ix ix_list (pe_fld (pv 0) rfl) (pe_un un_neg pe_int) (fun _ _ => rfl)) (nomark _)) (pw_or1 (pt_cmpR op_lt (pv 8) (pe_ix ix_list (pe_fld (pv 0) rfl) pe_int (fun _ _ => rfl)) (nomark _))))) (pss_one (ps_ret pe_non)) pss_nil) (pss_cons (ps_set (i := 9) S.nd rfl (Or.inl rfl) (pe_callB (call_max2 rfl) (by rfl) T.n_max bt_max (pa_cons (pe_ix ix_tup (pv 1) pe_int (fun _ _ => rfl)) (pa_cons (pe_def D_charge_down (hr.mono (by decide)) rfl (pa_cons (pe_fld (pv 0) rfl) (pa_cons (pv 7) pa_nil))) pa_nil)))) (pss_cons (ps_set (i := 10) S.nd rfl (Or.inl rfl) (pe_callB (call_min2 rfl) (by rfl) T.n_min bt_min (pa_cons (pe_ix ix_tup (pv 1) pe_int (fun _ _ => rfl)) (pa_cons (pe_def D_charge_up (hr.mono (by decide)) rfl (pa_cons (pe_fld (pv 0) rfl) (pa_cons (pv 8) pa_nil))) pa_nil)))) (pss_one (ps_ret (pe_def D_right_pair (hr.mono (by decide)) rfl (pa_cons (pv 9) (pa_cons (pv 10) pa_nil)))))))))))))), ?_⟩
    refine ⟨_, rfl, _, rfl, m, M, i, rfl, hM', _, rfl, ?_⟩
    refine ite2 (fun c => ?_) fun c => ?_
    · have e : Kp113.seen M p i v = none := by
        unfold Kp113.seen; rw [if_pos (Or.inl (by simpa using c))]
      rw [e] at k
      exact iteT (k _ _ (Same.refl H) rfl)
    · have c : within M i = true := by simpa using c
      refine ⟨_, rfl, _, rfl, _, _, rfl, rfl, ⟨by decide, by decide, by decide⟩, _, _, rfl, rfl, _, rfl, ?_⟩
      refine ite2 (fun c2 => ?_) fun c2 => ?_
      · have c2 := of_decide_eq_true c2
        have e : Kp113.seen M p i v = none := by
          unfold Kp113.seen
          rw [if_pos (Or.inr ?_)]
          have e2 : (2 : Int) ^ (35 : Int).toNat = 34359738368 := by decide
          rw [e2] at c2
          split at c2 <;> omega
        rw [e] at k
        exact k _ _ (Same.refl H) rfl
      · have c2 : ¬ (2 : Int) ^ (35 : Int).toNat < (if v < 0 then -v else v) := fun q => c2 (decide_eq_true q)
        have e2 : (2 : Int) ^ (35 : Int).toNat = 34359738368 := by decide
        rw [e2] at c2
        have hv : ¬ (within M i = false ∨ 2 ^ 35 < v ∨ v < -(2 ^ 35)) := by
          rw [c]
          split at c2 <;> (rintro (q | q | q) <;> first | omega | cases q)
        have := G.l0; have := G.l1; have := G.l2
        refine ⟨_, rfl, _, rfl, m, M, i, rfl, hM', _, rfl, _, rfl, m, M, i, rfl, hM', ?_⟩
        refine ⟨_, rfl, fldM T hM 6 rfl rfl ⟨_, rfl, _, _, rfl, rfl, .inl ⟨by omega, by omega⟩, _, rfl, fldM T hM 6 rfl rfl ⟨_, rfl, _, _, rfl, rfl, .inl ⟨by omega, by omega⟩, _, rfl, fldM T hM 7 rfl rfl ⟨_, rfl, _, _, rfl, rfl, .inl ⟨by omega, by omega⟩,
          _, rfl, fldM T hM 7 rfl rfl ⟨_, rfl, _, _, rfl, rfl, .inl ⟨by omega, by omega⟩, (by show 4 ≤ sizeLine; decide), fun d hd => ?_⟩⟩⟩⟩⟩
        have s1 : Same H _ := same_upd (o := .lst ((Kp113.products M i).map V.int)) hd
        have hM1 := hM.same s1
        have hL : SqL K _ d ((Kp113.products M i).map V.int) := SqL.of (upd_same (H := H))
        have hp1 : TupAt _ a p := s1 _ _ hp
        have k := k.same s1
        refine ⟨_, rfl, _, rfl, fldM T hM1 14 rfl rfl ⟨_, _, rfl, rfl, _, rfl, d, Kp113.products M i, rfl, hL, (by show 0 < 4; decide), fun mn q1 q2 => ?_⟩⟩
        have eP := leastOf_eq q1 q2
        refine ⟨_, _, rfl, rfl, _, rfl, fldM T hM1 15 rfl rfl ⟨_, _, rfl, rfl, ?_⟩⟩
        refine ⟨_, rfl, _, rfl, fldM T hM1 14 rfl rfl ⟨_, _, rfl, rfl, _, rfl, d, Kp113.products M i, rfl, hL, (by show 0 < 4; decide), fun mx q3 q4 => ?_⟩⟩
        have eQ := mostOf_eq q3 q4
        refine ⟨_, _, rfl, rfl, _, rfl, fldM T hM1 15 rfl rfl ⟨_, _, rfl, rfl, ?_⟩⟩
        have eS : Kp113.seen M p i v = if point M 32 < v - M.near + mn - M.like ∨ v + M.near + mx + M.like < point M 0 then none else
            Kp113.pair (max p.lo (if v - M.near + mn - M.like ≤ point M 0 then 0 else Kp113.atDown M (v - M.near + mn - M.like))) (min p.hi (if point M 32 ≤ v + M.near + mx + M.like then Kp113.FULL else Kp113.atUp M (v + M.near + mx + M.like))) := by
          unfold Kp113.seen
          rw [if_neg hv]
          have e1 : Kp113.leastOf (Kp113.products M i) = mn := eP
          have e2 : Kp113.mostOf (Kp113.products M i) = mx := eQ
          rw [e1, e2]
        rw [eS] at k
        refine ⟨_, rfl, _, rfl, fldM T hM1 18 rfl rfl ⟨_, rfl, _, _, _, _, rfl, rfl, SqL.of hM1.cu, cuLast G, _, _, rfl, rfl, _, rfl, ?_⟩⟩
        refine ite2 (fun c3 => ?_) fun c3 => ?_
        · have c3 := of_decide_eq_true c3
          rw [if_pos (Or.inl c3)] at k
          exact iteT (k _ _ (Same.refl _) rfl)
        · have c3 : ¬ point M 32 < v - M.near + mn - M.like := fun q => c3 (decide_eq_true q)
          refine ⟨_, rfl, _, rfl, fldM T hM1 18 rfl rfl ⟨_, _, _, _, rfl, rfl, SqL.of hM1.cu, cuIx G (j := 0) rfl (by omega), _, _, rfl, rfl, _, rfl, ?_⟩⟩
          refine ite2 (fun c4 => ?_) fun c4 => ?_
          · have c4 := of_decide_eq_true c4
            rw [if_pos (Or.inr c4)] at k
            exact k _ _ (Same.refl _) rfl
          · have c4 : ¬ v + M.near + mx + M.like < point M 0 := fun q => c4 (decide_eq_true q)
            rw [if_neg (by rintro (q | q) <;> omega)] at k
            refine ⟨_, rfl, _, _, _, _, rfl, rfl, SqT.of hp1, rfl, _, rfl, fldM T hM1 18 rfl rfl ⟨_, rfl, l, M, _, rfl, hM1.cu, G, by omega, _, _, rfl, ?_⟩⟩
            refine ⟨_, rfl, _, _, _, _, rfl, rfl, SqT.of hp1, rfl, _, rfl, fldM T hM1 18 rfl rfl ⟨_, rfl, l, M, _, rfl, hM1.cu, G, by omega, _, _, rfl, ?_⟩⟩
            refine ⟨_, rfl, _, rfl, _, _, rfl, ?_⟩
            have eM : ∀ a b : Int, max a b = if b > a then b else a := fun a b => by split <;> omega
            have eN : ∀ a b : Int, min a b = if b < a then b else a := fun a b => by split <;> omega
            rw [eM, eN] at k
            exact k
end
end BK
end
section
set_option Elab.async false
set_option linter.all false
set_option maxRecDepth 100000
set_option maxHeartbeats 4000000
namespace BK
open PySem L2
open Kp113 (Make Pr falls fallsLeast within iLow iHigh point isMake goodMake)
section
variable {P : Program} {w : World} {K : PySem.W.Frag} {mg : Str → Option Value} {base : Heap} {CM CK CL aN aR : Addr}
def sp_holds (R : Hp → Prop) (g : Int → Bool) : Sp := fun vs H Q _ => ∃ i : Int, vs = [.int i] ∧ 0 ≤ i ∧ R H ∧ Q (.bl (g i)) H
def sp_greatest (fh : Addr) (R : Hp → Prop) (g : Int → Bool) : Sp := fun vs H Q _ => ∃ top : Int, vs = [.int top, .ref fh] ∧ 0 ≤ top ∧ top ≤ 4194304 ∧ R H ∧ Q (.int (Kp114.greatest g top)) H
def mu5 (σ : St) (_ : Hp) : Nat := match σ with
  | [_, _, some (.int k), some (.int f), _] => (f - k).toNat
  | _ => 0
theorem ok_greatest_that (T : Txt K mg CM CK CL aN aR) {f fh : Addr} {fd fdh : FuncData} {fo : Obj} {R : Hp → Prop} {g : Int → Bool} (F : Fun K "greatest_that" "greatest_that" s_greatest_that f fd) (anti : ∀ i j, 0 ≤ i → i ≤ j → g j = true → g i = true)
    (Fh : FnOk P w K mg base CX0 5 fh fdh ["current"] (sp_holds R g)) (ho : base.get? fh = some fo) (hd : fo.data = .func fdh) (hb : ∀ (s : Shared) (us : List Value), us.length = 1 → BindsTo s fdh ⟨us, []⟩ ((["current"] : List Str).zip us)) :
    FnOk P w K mg base CX0 6 f fd ["top", "holds"] (sp_greatest fh R g) := by
  refine F.ok sc_greatest_that (fun vs H Q E h => ?_) (fun cdv A outer s H vs Q E hr h => ?_)
  · obtain ⟨top, rfl, _⟩ := h; rfl
  · obtain ⟨top, rfl, h0, h1, hR, k⟩ := h
    have S := sc_greatest_that
    refine ⟨_, (pss_cons (ps_if (pt_not (pt_val (pe_callL (i := 1) Fh ho hd (hr.mono (by decide)) rfl (Or.inl rfl) hb (pa_cons pe_int pa_nil)))) (pss_one (ps_ret (pe_gint rfl T.g_NO_CURRENT))) pss_nil)
      (pss_cons (ps_if (pt_val (pe_callL (i := 1) Fh ho hd (hr.mono (by decide)) rfl (Or.inl rfl) hb (pa_cons (pv 0) pa_nil))) (pss_one (ps_ret (pv 0))) pss_nil)
      (pss_cons (ps_set (i := 2) S.nd rfl (Or.inl rfl) pe_int) (pss_cons (ps_set (i := 3) S.nd rfl (Or.inl rfl) (pv 0))
      (pss_cons (ps_while PassesOwn.never (pt_cmpR op_gt (pe_op op_sub (pv 3) (pv 2)) pe_int (nomark _))
        (pss_cons (ps_set (i := 4) S.nd rfl (Or.inl rfl) (pe_op op_fdivB (pe_op op_add (pv 2) (pv 3)) pe_int))
        (pss_one (ps_if (pt_val (pe_callL (i := 1) Fh ho hd (hr.mono (by decide)) rfl (Or.inl rfl) hb (pa_cons (pv 4) pa_nil))) (pss_one (ps_set (i := 2) S.nd rfl (Or.inl rfl) (pv 4))) (pss_one (ps_set (i := 3) S.nd rfl (Or.inl rfl) (pv 4)))))))
      (pss_one (ps_ret (pv 2)))))))), ?_⟩
    refine ⟨rfl, 0, rfl, by decide, hR, _, rfl, ?_⟩
    cases g0 : g 0 with
    | false =>
      rw [greatest_none g0] at k
      exact iteT k
    | true =>
      refine iteF ⟨rfl, _, rfl, top, rfl, h0, hR, _, rfl, ?_⟩
      cases gt : g top with
      | true =>
        rw [greatest_eq h1 h0 (Int.le_refl _) anti gt (.inl rfl)] at k
        exact iteT ⟨_, rfl, k⟩
      | false =>
        have hpos : 0 < top := by
          by_cases z : top = 0
          · rw [z, g0] at gt; cases gt
          · omega
        refine iteF ⟨_, rfl, ?_⟩
        refine while_by (fun σ H' => ∃ (kn fl : Int) (v : Option V), 0 ≤ kn ∧ kn < fl ∧ fl ≤ top ∧ g kn = true ∧ g fl = false ∧ σ = [some (.int top), some (.ref fh), some (.int kn), some (.int fl), v] ∧ H' = H) mu5 ⟨0, top, none, Int.le_refl _, hpos, Int.le_refl _, g0, gt, rfl, rfl⟩ ?_ ?_
        · rintro σ H' ⟨kn, fl, v, a1, a2, a3, a4, a5, rfl, rfl⟩
          refine ⟨_, rfl, _, rfl, _, _, rfl, rfl, _, _, rfl, rfl, _, rfl, ?_⟩
          refine ite2 (fun c => ?_) fun c => ?_
          · have c := of_decide_eq_true c
            have e2 : (kn + fl).fdiv 2 = (kn + fl) / 2 := Int.fdiv_eq_ediv_of_nonneg _ (by decide)
            refine ⟨_, rfl, _, rfl, _, _, rfl, rfl, _, _, rfl, rfl, ⟨by decide, by decide⟩, ?_⟩
            refine ⟨rfl, _, rfl, (kn + fl).fdiv 2, rfl, by rw [e2]; omega, hR, _, rfl, ?_⟩
            cases gm : g ((kn + fl).fdiv 2) with
            | true =>
              refine iteT ⟨_, rfl, ⟨(kn + fl).fdiv 2, fl, _, by rw [e2]; omega, by rw [e2]; omega, a3, gm, a5, rfl, rfl⟩, ?_⟩
              show (fl - (kn + fl).fdiv 2).toNat < (fl - kn).toNat
              rw [e2]; omega
            | false =>
              refine iteF ⟨_, rfl, ⟨kn, (kn + fl).fdiv 2, _, a1, by rw [e2]; omega, by rw [e2]; omega, a4, gm, rfl, rfl⟩, ?_⟩
              show ((kn + fl).fdiv 2 - kn).toNat < (fl - kn).toNat
              rw [e2]; omega
          · have c : ¬ 1 < fl - kn := fun q => c (decide_eq_true q)
            have e : fl = kn + 1 := by omega
            rw [greatest_eq h1 a1 (by omega) anti a4 (.inr (by rw [← e]; exact a5))] at k
            exact ⟨_, rfl, k⟩
        · rintro σ H' Q1 Q2 hq ⟨v0, e0, v2, e2, i, j, ei, ej, i2, j2, ei2, ej2, k2, ek, q⟩
          exact ⟨v0, e0, v2, e2, i, j, ei, ej, i2, j2, ei2, ej2, k2, ek, hq _ _ q⟩

/-! ### when a make is right -/
def sp_five (CM : Addr) (R : Make → Prop) : Sp := fun vs H Q _ => ∃ (m : Addr) (M : Make), vs = [.ref m] ∧ MakeAt CM H m M ∧ ∀ b : Bool, (b = true ↔ R M) → Q (.bl b) H
end
end BK
end
section
set_option Elab.async false
set_option linter.all false
set_option maxRecDepth 100000
set_option maxHeartbeats 4000000
namespace L2
open PySem PySem.Spec PyProof.Rows
section
variable (K : PySem.W.Frag) {X : Cx}
theorem yesT {σ : St} {H : Hp} {A B : Hp → Prop} (h : A H) : tYes σ H fun b H3 => if b = true then A H3 else B H3 := by
  show if true = true then A H else B H
  exact iteT h
theorem ix_listK (hK : X.K = K := by rfl) : IxR X (rIxL K) := hK ▸ ix_list
theorem ix_tupK (hK : X.K = K := by rfl) : IxR X (rIxT K) := hK ▸ ix_tup
theorem pe_fldK {e : Expr} {ta : TE} {f : Str} {pos : Pos} (he : PE X e ta) (hb : attributeBase e f X.env (eval e X.env) = eval e X.env) (hK : X.K = K := by rfl) : PE X (.Attribute e f pos) (tFld K ta f) := hK ▸ pe_fld he hb
end
end L2
namespace BK
open PySem L2
open Kp113 (Make Pr falls fallsLeast within iLow iHigh point isMake goodMake)
section
variable {P : Program} {w : World} {K : PySem.W.Frag} {mg : Str → Option Value} {base : Heap} {CM CK CL aN aR : Addr}
theorem chk {c : Prop} [Decidable c] {A B : Prop} (h1 : c → A) (h2 : ¬ c → B) : if decide c = true then A else B := by
  by_cases h : c
  · rw [decide_eq_true h]; exact iteT (h1 h)
  · rw [decide_eq_false h]; exact iteF (h2 h)
theorem p16 : (2 : Int) ^ (16 : Int).toNat = 65536 := by decide
theorem p20 : (2 : Int) ^ (20 : Int).toNat = 1048576 := by decide
theorem p22 : (2 : Int) ^ (22 : Int).toNat = 4194304 := by decide
theorem p24 : (2 : Int) ^ (24 : Int).toNat = 16777216 := by decide
theorem p30 : (2 : Int) ^ (30 : Int).toNat = 1073741824 := by decide
theorem p33 : (2 : Int) ^ (33 : Int).toNat = 8589934592 := by decide
theorem p34 : (2 : Int) ^ (34 : Int).toNat = 17179869184 := by decide
theorem p40 : (2 : Int) ^ (40 : Int).toNat = 1099511627776 := by decide
def R1 (M : Make) : Prop := 1 ≤ M.cells ∧ M.cells ≤ 16 ∧ 1 ≤ M.wait ∧ M.wait ≤ 16 ∧ 1 ≤ M.fill ∧ M.fill ≤ 65536 ∧ M.none_ = 0 ∧ M.none2 = 0
def R2' (M : Make) : Prop := 65536 ≤ M.weak ∧ M.weak ≤ M.strong ∧ M.strong ≤ 1099511627776 ∧ 0 ≤ M.least ∧ M.least ≤ M.most ∧ M.most ≤ 16777216
def R3 (M : Make) : Prop := 0 ≤ M.leak ∧ M.leak ≤ 1048576 ∧ 0 ≤ M.bleedLow ∧ M.bleedLow ≤ M.bleedHigh ∧ M.bleedHigh ≤ 1048576 ∧ 0 ≤ M.off ∧ M.off ≤ 1048576 ∧ 0 ≤ M.fuse ∧ M.fuse ≤ 4194304 ∧ M.most * M.fuse ≤ 8589934592
def R4 (M : Make) : Prop := 0 ≤ M.near ∧ M.near ≤ 1073741824 ∧ 0 ≤ M.like ∧ M.like ≤ 1073741824 ∧ -17179869184 ≤ M.low ∧ M.low ≤ M.high ∧ M.high ≤ 17179869184
def R5 (c : List Int) : Prop := c.length = 33 ∧ 0 ≤ c.getD 0 0 ∧ c.getD 32 0 ≤ 8589934592 ∧ ∀ k, k < 32 → c.getD k 0 < c.getD (k + 1) 0
theorem noB {R : Prop} (h : ¬ R) : false = true ↔ R := ⟨fun z => Bool.noConfusion z, fun r => absurd r h⟩
theorem d_counts_are_right (T : Txt K mg CM CK CL aN aR) : Df P w K mg base "counts_are_right" 1 ["make"] (sp_five CM R1) := T.d_counts_are_right.df fun f fd F => by
  refine F.ok sc_counts_are_right (fun vs H Q E h => ?_) (fun cdv A outer s H vs Q E hr h => ?_)
  · obtain ⟨m, M, rfl, _⟩ := h; rfl
  · obtain ⟨m, M, rfl, ⟨l, dx, hM⟩, k⟩ := h
    refine ⟨_, (pss_one (ps_ret (pe_and (pe_chain op_le op_le pe_int (pe_fld (pv 0) rfl) pe_int) (pe_and (pe_chain op_le op_le pe_int (pe_fld (pv 0) rfl) pe_int) (pe_and (pe_chain op_le op_le pe_int (pe_fld (pv 0) rfl) pe_int) (pe_and (pe_cmpR op_eq (pe_fld (pv 0) rfl) pe_int (nomark _)) (pe_one (pe_cmpR op_eq (pe_fld (pv 0) rfl) pe_int (nomark _))))))))), ?_⟩
    have no : ¬ R1 M → Q (.bl false) H := fun h => k false (noB h)
    refine ⟨_, rfl, fldM T hM 0 rfl rfl ⟨_, _, rfl, rfl, _, rfl, chk (fun c1 => ?_) fun c1 => ⟨_, rfl, iteF (no fun r => c1 r.1)⟩⟩⟩
    refine ⟨_, _, rfl, rfl, _, rfl, chk (fun c2 => ?_) fun c2 => no fun r => c2 r.2.1⟩
    refine ⟨_, rfl, fldM T hM 1 rfl rfl ⟨_, _, rfl, rfl, _, rfl, chk (fun c3 => ?_) fun c3 => ⟨_, rfl, iteF (no fun r => c3 r.2.2.1)⟩⟩⟩
    refine ⟨_, _, rfl, rfl, _, rfl, chk (fun c4 => ?_) fun c4 => no fun r => c4 r.2.2.2.1⟩
    refine ⟨_, rfl, fldM T hM 2 rfl rfl ⟨_, _, rfl, rfl, _, rfl, chk (fun c5 => ?_) fun c5 => ⟨_, rfl, iteF (no fun r => c5 r.2.2.2.2.1)⟩⟩⟩
    refine ⟨_, _, rfl, rfl, _, rfl, chk (fun c6 => ?_) fun c6 => no fun r => c6 r.2.2.2.2.2.1⟩
    refine ⟨_, rfl, fldM T hM 3 rfl rfl ⟨rfl, _, rfl, chk (fun c7 => ?_) fun c7 => no fun r => c7 (by rw [r.2.2.2.2.2.2.1])⟩⟩
    refine ⟨_, rfl, fldM T hM 13 rfl rfl ⟨rfl, k _ ⟨fun z => ?_, fun r => decide_eq_true (by rw [r.2.2.2.2.2.2.2])⟩⟩⟩
    have z := V.int.inj (of_decide_eq_true z)
    exact ⟨c1, c2, c3, c4, c5, c6, V.int.inj c7, z⟩
theorem d_cells_are_right (T : Txt K mg CM CK CL aN aR) : Df P w K mg base "cells_are_right" 1 ["make"] (sp_five CM R2') := T.d_cells_are_right.df fun f fd F => by
  refine F.ok sc_cells_are_right (fun vs H Q E h => ?_) (fun cdv A outer s H vs Q E hr h => ?_)
  · obtain ⟨m, M, rfl, _⟩ := h; rfl
  · obtain ⟨m, M, rfl, ⟨l, dx, hM⟩, k⟩ := h
    refine ⟨_, (pss_one (ps_ret (pe_and (pe_chain3 op_le op_le op_le (pe_op op_pow pe_int pe_int) (pe_fld (pv 0) rfl) (pe_fld (pv 0) rfl) (pe_op op_pow pe_int pe_int)) (pe_one (pe_chain3 op_le op_le op_le pe_int (pe_fld (pv 0) rfl) (pe_fld (pv 0) rfl) (pe_op op_pow pe_int pe_int)))))), ?_⟩
    have no : ¬ R2' M → Q (.bl false) H := fun h => k false (noB h)
    refine ⟨_, _, rfl, rfl, ⟨by decide, by decide, by decide⟩, _, rfl, fldM T hM 4 rfl rfl ⟨_, _, rfl, rfl, _, rfl, chk (fun c1 => ?_) fun c1 => ⟨_, rfl, iteF (no fun r => c1 (by rw [p16]; exact r.1))⟩⟩⟩
    refine ⟨_, rfl, fldM T hM 5 rfl rfl ⟨_, _, rfl, rfl, _, rfl, chk (fun c2 => ?_) fun c2 => ⟨_, rfl, iteF (no fun r => c2 r.2.1)⟩⟩⟩
    refine ⟨_, _, rfl, rfl, ⟨by decide, by decide, by decide⟩, _, _, rfl, rfl, _, rfl, chk (fun c3 => ?_) fun c3 => no fun r => c3 (by rw [p40]; exact r.2.2.1)⟩
    refine ⟨_, rfl, fldM T hM 6 rfl rfl ⟨_, _, rfl, rfl, _, rfl, chk (fun c4 => ?_) fun c4 => no fun r => c4 r.2.2.2.1⟩⟩
    refine ⟨_, rfl, fldM T hM 7 rfl rfl ⟨_, _, rfl, rfl, _, rfl, chk (fun c5 => ?_) fun c5 => no fun r => c5 r.2.2.2.2.1⟩⟩
    refine ⟨_, _, rfl, rfl, ⟨by decide, by decide, by decide⟩, _, _, rfl, rfl, k _ ⟨fun z => ?_, fun r => decide_eq_true (by rw [p24]; exact r.2.2.2.2.2)⟩⟩
    have z := of_decide_eq_true z
    rw [p16] at c1
    rw [p40] at c3
    rw [p24] at z
    exact ⟨c1, c2, c3, c4, c5, z⟩
theorem d_currents_are_right (T : Txt K mg CM CK CL aN aR) : Df P w K mg base "currents_are_right" 1 ["make"] (sp_five CM R3) := T.d_currents_are_right.df fun f fd F => by
  refine F.ok sc_currents_are_right (fun vs H Q E h => ?_) (fun cdv A outer s H vs Q E hr h => ?_)
  · obtain ⟨m, M, rfl, _⟩ := h; rfl
  · obtain ⟨m, M, rfl, ⟨l, dx, hM⟩, k⟩ := h
    refine ⟨_, (pss_one (ps_ret (pe_and (pe_chain op_le op_le pe_int (pe_fld (pv 0) rfl) (pe_op op_pow pe_int pe_int)) (pe_and (pe_chain3 op_le op_le op_le pe_int (pe_fld (pv 0) rfl) (pe_fld (pv 0) rfl) (pe_op op_pow pe_int pe_int)) (pe_and (pe_chain op_le op_le pe_int (pe_fld (pv 0) rfl) (pe_op op_pow pe_int pe_int)) (pe_and (pe_chain op_le op_le pe_int (pe_fld (pv 0) rfl) (pe_op op_pow pe_int pe_int)) (pe_one (pe_cmpR op_le (pe_op op_mul (pe_fld (pv 0) rfl) (pe_fld (pv 0) rfl)) (pe_op op_pow pe_int pe_int) (nomark _))))))))), ?_⟩
    have no : ¬ R3 M → Q (.bl false) H := fun h => k false (noB h)
    refine ⟨_, rfl, fldM T hM 8 rfl rfl ⟨_, _, rfl, rfl, _, rfl, chk (fun c1 => ?_) fun c1 => ⟨_, rfl, iteF (no fun r => c1 r.1)⟩⟩⟩
    refine ⟨_, _, rfl, rfl, ⟨by decide, by decide, by decide⟩, _, _, rfl, rfl, _, rfl, chk (fun c2 => ?_) fun c2 => no fun r => c2 (by rw [p20]; exact r.2.1)⟩
    refine ⟨_, rfl, fldM T hM 9 rfl rfl ⟨_, _, rfl, rfl, _, rfl, chk (fun c3 => ?_) fun c3 => ⟨_, rfl, iteF (no fun r => c3 r.2.2.1)⟩⟩⟩
    refine ⟨_, rfl, fldM T hM 10 rfl rfl ⟨_, _, rfl, rfl, _, rfl, chk (fun c4 => ?_) fun c4 => ⟨_, rfl, iteF (no fun r => c4 r.2.2.2.1)⟩⟩⟩
    refine ⟨_, _, rfl, rfl, ⟨by decide, by decide, by decide⟩, _, _, rfl, rfl, _, rfl, chk (fun c5 => ?_) fun c5 => no fun r => c5 (by rw [p20]; exact r.2.2.2.2.1)⟩
    refine ⟨_, rfl, fldM T hM 11 rfl rfl ⟨_, _, rfl, rfl, _, rfl, chk (fun c6 => ?_) fun c6 => ⟨_, rfl, iteF (no fun r => c6 r.2.2.2.2.2.1)⟩⟩⟩
    refine ⟨_, _, rfl, rfl, ⟨by decide, by decide, by decide⟩, _, _, rfl, rfl, _, rfl, chk (fun c7 => ?_) fun c7 => no fun r => c7 (by rw [p20]; exact r.2.2.2.2.2.2.1)⟩
    refine ⟨_, rfl, fldM T hM 12 rfl rfl ⟨_, _, rfl, rfl, _, rfl, chk (fun c8 => ?_) fun c8 => ⟨_, rfl, iteF (no fun r => c8 r.2.2.2.2.2.2.2.1)⟩⟩⟩
    refine ⟨_, _, rfl, rfl, ⟨by decide, by decide, by decide⟩, _, _, rfl, rfl, _, rfl, chk (fun c9 => ?_) fun c9 => no fun r => c9 (by rw [p22]; exact r.2.2.2.2.2.2.2.2.1)⟩
    rw [p20] at c2 c5 c7
    rw [p22] at c9
    refine ⟨_, rfl, fldM T hM 7 rfl rfl ⟨_, rfl, fldM T hM 12 rfl rfl ⟨_, _, rfl, rfl, .inr ⟨by omega, by omega⟩, _, _, rfl, rfl, ⟨by decide, by decide, by decide⟩, _, _, rfl, rfl, k _ ⟨fun z => ?_, fun r => decide_eq_true (by rw [p33]; exact r.2.2.2.2.2.2.2.2.2)⟩⟩⟩⟩
    have z := of_decide_eq_true z
    rw [p33] at z
    exact ⟨c1, c2, c3, c4, c5, c6, c7, c8, c9, z⟩
theorem d_voltages_are_right (T : Txt K mg CM CK CL aN aR) : Df P w K mg base "voltages_are_right" 1 ["make"] (sp_five CM R4) := T.d_voltages_are_right.df fun f fd F => by
  refine F.ok sc_voltages_are_right (fun vs H Q E h => ?_) (fun cdv A outer s H vs Q E hr h => ?_)
  · obtain ⟨m, M, rfl, _⟩ := h; rfl
  · obtain ⟨m, M, rfl, ⟨l, dx, hM⟩, k⟩ := h
    refine ⟨_, (pss_one (ps_ret (pe_and (pe_chain op_le op_le pe_int (pe_fld (pv 0) rfl) (pe_op op_pow pe_int pe_int)) (pe_and (pe_chain op_le op_le pe_int (pe_fld (pv 0) rfl) (pe_op op_pow pe_int pe_int)) (pe_one (pe_chain3 op_le op_le op_le (pe_un un_neg (pe_op op_pow pe_int pe_int)) (pe_fld (pv 0) rfl) (pe_fld (pv 0) rfl) (pe_op op_pow pe_int pe_int))))))), ?_⟩
    have no : ¬ R4 M → Q (.bl false) H := fun h => k false (noB h)
    refine ⟨_, rfl, fldM T hM 14 rfl rfl ⟨_, _, rfl, rfl, _, rfl, chk (fun c1 => ?_) fun c1 => ⟨_, rfl, iteF (no fun r => c1 r.1)⟩⟩⟩
    refine ⟨_, _, rfl, rfl, ⟨by decide, by decide, by decide⟩, _, _, rfl, rfl, _, rfl, chk (fun c2 => ?_) fun c2 => no fun r => c2 (by rw [p30]; exact r.2.1)⟩
    refine ⟨_, rfl, fldM T hM 15 rfl rfl ⟨_, _, rfl, rfl, _, rfl, chk (fun c3 => ?_) fun c3 => ⟨_, rfl, iteF (no fun r => c3 r.2.2.1)⟩⟩⟩
    refine ⟨_, _, rfl, rfl, ⟨by decide, by decide, by decide⟩, _, _, rfl, rfl, _, rfl, chk (fun c4 => ?_) fun c4 => no fun r => c4 (by rw [p30]; exact r.2.2.2.1)⟩
    refine ⟨_, _, rfl, rfl, ⟨by decide, by decide, by decide⟩, _, rfl, _, rfl, fldM T hM 16 rfl rfl ⟨_, _, rfl, rfl, _, rfl, chk (fun c5 => ?_) fun c5 => no fun r => c5 (by rw [p34]; exact r.2.2.2.2.1)⟩⟩
    refine ⟨_, rfl, fldM T hM 17 rfl rfl ⟨_, _, rfl, rfl, _, rfl, chk (fun c6 => ?_) fun c6 => no fun r => c6 r.2.2.2.2.2.1⟩⟩
    refine ⟨_, _, rfl, rfl, ⟨by decide, by decide, by decide⟩, _, _, rfl, rfl, k _ ⟨fun z => ?_, fun r => decide_eq_true (by rw [p34]; exact r.2.2.2.2.2.2)⟩⟩
    have z := of_decide_eq_true z
    rw [p30] at c2 c4
    rw [p34] at c5 z
    exact ⟨c1, c2, c3, c4, c5, c6, z⟩
def sp_curve_right : Sp := fun vs H Q _ => ∃ (l : Addr) (c : List Int), vs = [.ref l] ∧ H l = some (.lst (c.map V.int)) ∧ ∀ (b : Bool) (H' : Hp), Same H H' → (b = true ↔ R5 c) → Q (.bl b) H'
theorem ixC {c : List Int} {z : Int} {j : Nat} (hz : z = (j : Int)) (hj : j < c.length) : atI (c.map V.int) z = some (.int (c.getD j 0)) := by
  rw [hz]
  refine atI_nat ?_
  rw [List.getElem?_map, List.getElem?_eq_getElem hj, List.getD_eq_getElem?_getD, List.getElem?_eq_getElem hj]
  rfl
theorem d_curve_is_right (T : Txt K mg CM CK CL aN aR) : Df P w K mg base "curve_is_right" 1 ["curve"] sp_curve_right := T.d_curve_is_right.df fun f fd F => by
  refine F.ok sc_curve_is_right (fun vs H Q E h => ?_) (fun cdv A outer s H vs Q E hr h => ?_)
  · obtain ⟨l, c, rfl, _⟩ := h; rfl
  · obtain ⟨l, c, rfl, hl, k⟩ := h
    have S := sc_curve_is_right
    refine ⟨_, (pss_cons (ps_if (PW.pt (pw_or (pt_cmpR op_ne (pe_callB call_len_seq (by rfl) T.n_len bt_len (pa_cons (pv 0) pa_nil)) (pe_gint rfl T.g_POINTS) (nomark _)) (pw_or (pt_cmpR op_lt (pe_ix ix_list (pv 0) pe_int (fun _ _ => rfl)) pe_int (nomark _)) (pw_or1 (pt_cmpR op_gt (pe_ix ix_list (pv 0) (pe_op op_sub (pe_gint rfl T.g_POINTS) pe_int) (fun _ _ => rfl)) (pe_op op_pow pe_int pe_int) (nomark _)))))) (pss_one (ps_ret pe_bl)) pss_nil) (pss_one (ps_ret (pe_callB (cr_all rfl) (by rfl) T.n_all bt_all (pa_cons (pe_lc (own := [("k", 1)]) rfl S.nd (pi_range1 rfl T.n_range (pa_cons (pe_op op_sub (pe_gint rfl T.g_POINTS) pe_int) pa_nil)) (blkOk_by (by show blkC ["curve", "k"] (defScope s_curve_is_right) _ _ = true; decide +kernel)) (fun _ _ _ _ _ => pg_name (i := 1) S.nd rfl (Or.inl rfl)) (fun _ _ _ _ _ => pts_nil) (fun _ _ _ _ _ => (pe_cmpR op_lt (pe_ix (ix_listK K) (pv 0) (pv 1) (fun _ _ => rfl)) (pe_ix (ix_listK K) (pv 0) (pe_op op_add (pv 1) pe_int) (fun _ _ => rfl)) (nomark _)))) pa_nil))))), ?_⟩
    have no : ¬ R5 c → Q (.bl false) H := fun h => k false H (Same.refl H) (noB h)
    refine ⟨_, rfl, l, _, rfl, .inl (SqL.of hl), rfl, _, rfl, ?_⟩
    by_cases h33 : c.length = 33
    · have e : (!decide (V.int ((c.map V.int).length : Nat) = V.int 33)) = false := by
        rw [List.length_map, h33]; rfl
      rw [e]
      refine iteF ⟨_, rfl, _, _, _, _, rfl, rfl, SqL.of hl, ixC (j := 0) rfl (by omega), _, _, rfl, rfl, _, rfl, chk (fun c1 => ?_) fun c1 => ?_⟩
      · exact iteT (no fun r => by have := r.2.1; omega)
      · refine ⟨_, rfl, _, _, rfl, rfl, _, _, _, _, rfl, rfl, SqL.of hl, ixC (j := 32) rfl (by omega), _, _, rfl, rfl, ⟨by decide, by decide, by decide⟩, _, _, rfl, rfl, _, rfl, chk (fun c2 => ?_) fun c2 => ?_⟩
        · exact no fun r => by have := r.2.2.1; rw [p33] at c2; omega
        · rw [p33] at c2
          refine ⟨_, _, rfl, rfl, 32, rfl, by decide, by decide, fun D hD => ?_⟩
          have nl : l ≠ D := ne_of_none hl hD
          refine lc_range (lo := 0) (n := 32) (fun i H' => H' = upd H D (.lst (((List.range i).map fun k => decide (c.getD k 0 < c.getD (k + 1) 0)).map V.bl))) rfl ?_ ?_
          · rintro i H' hi rfl
            have hl' : SqL K (upd H D (.lst (((List.range i).map fun k => decide (c.getD k 0 < c.getD (k + 1) 0)).map V.bl))) l (c.map V.int) := SqL.of (by rw [upd_ne nl]; exact hl)
            refine ⟨rfl, yesT ⟨_, rfl, _, rfl, _, _, _, _, rfl, rfl, hl', ixC (j := i) (by omega) (by omega), _, rfl, _, rfl, _, _, rfl, rfl, _, _, _, _, rfl, rfl, hl', ixC (j := i + 1) (by omega) (by omega), _, _, rfl, rfl, _, upd_same, ?_, ?_⟩⟩
            · rw [List.length_map, List.length_map, List.length_range]
              exact Nat.lt_of_lt_of_le hi (by decide)
            · rw [upd_upd, List.range_succ, List.map_append, List.map_append]
              rfl
          · rintro H' rfl
            refine ⟨D, _, rfl, SqL.of upd_same, k _ _ (same_upd hD) ?_⟩
            rw [List.all_eq_true]
            constructor
            · intro h
              refine ⟨h33, by omega, by omega, fun j hj => ?_⟩
              exact of_decide_eq_true (h _ (List.mem_map_of_mem (List.mem_range.mpr hj)))
            · intro r x hx
              obtain ⟨j, hj, rfl⟩ := List.mem_map.mp hx
              exact decide_eq_true (r.2.2.2 j (List.mem_range.mp hj))
    · have e : (!decide (V.int ((c.map V.int).length : Nat) = V.int 33)) = true := by
        rw [List.length_map, decide_eq_false (fun q => h33 (by have := V.int.inj q; omega))]; rfl
      rw [e]
      exact iteT (iteT (no fun r => h33 r.1))
def sp_is_right (CM : Addr) : Sp := fun vs H Q _ => ∃ (m : Addr) (M : Make), vs = [.ref m] ∧ MakeAt CM H m M ∧ isMake M ∧ ∀ H', Same H H' → Q (.bl (goodMake M)) H'
theorem d_is_right (T : Txt K mg CM CK CL aN aR) : Df P w K mg base "is_right" 2 ["make"] (sp_is_right CM) := T.d_is_right.df fun f fd F => by
  have D_counts_are_right : Df P w K mg base "counts_are_right" 1 _ _ := d_counts_are_right T
  have D_cells_are_right : Df P w K mg base "cells_are_right" 1 _ _ := d_cells_are_right T
  have D_currents_are_right : Df P w K mg base "currents_are_right" 1 _ _ := d_currents_are_right T
  have D_voltages_are_right : Df P w K mg base "voltages_are_right" 1 _ _ := d_voltages_are_right T
  have D_curve_is_right : Df P w K mg base "curve_is_right" 1 _ _ := d_curve_is_right T
  refine F.ok sc_is_right (fun vs H Q E h => ?_) (fun cdv A outer s H vs Q E hr h => ?_)
  · obtain ⟨m, M, rfl, _⟩ := h; rfl
  · obtain ⟨m, M, rfl, hM', im, k⟩ := h
    obtain ⟨l, dx, hM⟩ := id hM'
    refine ⟨_, (pss_one (ps_ret (pe_and (pe_def D_counts_are_right (hr.mono (by decide)) rfl (pa_cons (pv 0) pa_nil)) (pe_and (pe_def D_cells_are_right (hr.mono (by decide)) rfl (pa_cons (pv 0) pa_nil)) (pe_and (pe_def D_currents_are_right (hr.mono (by decide)) rfl (pa_cons (pv 0) pa_nil)) (pe_and (pe_def D_voltages_are_right (hr.mono (by decide)) rfl (pa_cons (pv 0) pa_nil)) (pe_one (pe_def D_curve_is_right (hr.mono (by decide)) rfl (pa_cons (pe_fld (pv 0) rfl) pa_nil))))))))), ?_⟩
    have gi := good_iff im
    have no : ∀ {b : Bool} {R : Prop}, (b = true ↔ R) → ¬ b = true → (goodMake M = true → R) → Q (.bl false) H := fun {b R} h1 h2 h3 => by
      have e : goodMake M = false := Bool.eq_false_iff.mpr fun g => h2 (h1.mpr (h3 g))
      have := k H (Same.refl H)
      rw [e] at this
      exact this
    refine ⟨_, rfl, m, M, rfl, hM', fun b1 i1 => ⟨_, rfl, ite2 (fun c1 => ?_) fun c1 => no i1 c1 fun g => (gi.mp g).1⟩⟩
    refine ⟨_, rfl, m, M, rfl, hM', fun b2 i2 => ⟨_, rfl, ite2 (fun c2 => ?_) fun c2 => no i2 c2 fun g => (gi.mp g).2.1⟩⟩
    refine ⟨_, rfl, m, M, rfl, hM', fun b3 i3 => ⟨_, rfl, ite2 (fun c3 => ?_) fun c3 => no i3 c3 fun g => (gi.mp g).2.2.1⟩⟩
    refine ⟨_, rfl, m, M, rfl, hM', fun b4 i4 => ⟨_, rfl, ite2 (fun c4 => ?_) fun c4 => no i4 c4 fun g => (gi.mp g).2.2.2.1⟩⟩
    refine ⟨_, rfl, fldM T hM 18 rfl rfl ⟨l, _, rfl, hM.cu, fun b5 H' s5 i5 => ?_⟩⟩
    have e : b5 = goodMake M := by
      rw [Bool.eq_iff_iff]
      exact ⟨fun h => gi.mpr ⟨i1.mp c1, i2.mp c2, i3.mp c3, i4.mp c4, i5.mp h⟩, fun g => i5.mpr (gi.mp g).2.2.2.2⟩
    rw [e]
    exact k H' s5
end
end BK
end
section
set_option Elab.async false
set_option linter.all false
set_option maxRecDepth 100000
set_option maxHeartbeats 4000000
namespace L2
open PySem PySem.Spec PyProof.Rows
abbrev Cx.pinned (X : Cx) (l : List (Addr × Obj)) : Cx := { X with pn := X.pn ++ l }
theorem Cx.Ok.pinned {X : Cx} {l : List (Addr × Obj)} (ok : X.Ok) : (X.pinned l).Ok := ⟨ok.mod, ok.kind, ok.glob, ok.blt, ok.above, ok.inj, ok.has, ok.cab, ok.hd, ok.frames, ok.stk, ok.exf, ok.bs, ok.bsz, ok.noex, ok.exfs, ok.funs, ok.frf⟩
theorem Cx.Ok.unpinned {X : Cx} {l : List (Addr × Obj)} (ok : (X.pinned l).Ok) : X.Ok := ⟨ok.mod, ok.kind, ok.glob, ok.blt, ok.above, ok.inj, ok.has, ok.cab, ok.hd, ok.frames, ok.stk, ok.exf, ok.bs, ok.bsz, ok.noex, ok.exfs, ok.funs, ok.frf⟩
section
variable {X : Cx} {pins l : List (Addr × Obj)} {σ : St} {H : Hp} {s : Shared}
theorem Inv.toPn (I : Inv X (pins ++ l) σ H s) : Inv (X.pinned l) pins σ H s :=
  ⟨I.ok.pinned, I.os, I.bare, I.base, I.loc, I.cell, I.free, I.freeC, fun p hp => I.pin p (by
    rcases List.mem_append.mp hp with hp | hp
    · rcases List.mem_append.mp hp with hp | hp
      · exact List.mem_append_left _ hp
      · exact List.mem_append_right _ (List.mem_append_right _ hp)
    · exact List.mem_append_right _ (List.mem_append_left _ hp)), I.hok, I.len⟩
theorem Inv.ofPn (I : Inv (X.pinned l) pins σ H s) : Inv X pins σ H s :=
  ⟨I.ok.unpinned, I.os, I.bare, I.base, I.loc, I.cell, I.free, I.freeC, fun p hp => I.pin p (by
    rcases List.mem_append.mp hp with hp | hp
    · exact List.mem_append_left _ (List.mem_append_left _ hp)
    · exact List.mem_append_right _ hp), I.hok, I.len⟩
theorem SP.ofPn {D : Ends} {f : Flow} {s' : Shared} (h : SP (X.pinned l) pins D f s') : SP X pins D f s' := by
  cases f with
  | next => obtain ⟨σ', H', I, q⟩ := h; exact ⟨σ', H', I.ofPn, q⟩
  | brk => obtain ⟨σ', H', I, q⟩ := h; exact ⟨σ', H', I.ofPn, q⟩
  | cont => obtain ⟨σ', H', I, q⟩ := h; exact ⟨σ', H', I.ofPn, q⟩
  | ret u => obtain ⟨v, σ', H', I, r, q⟩ := h; exact ⟨v, σ', H', I.ofPn, r, q⟩
theorem cell_at (I : Inv X pins σ H s) {i : Nat} {x : Str} {v : V} {c : Addr} (hN : X.N[i]? = some x) (hσ : σ[i]? = some (some v)) (hk : X.env.scope.names.lookup x = some .cell) (hfn : X.fn x = true) (hc : X.env.cells.lookup x = some c) :
    ∃ u, RelV v u ∧ (hidF s.heap H (X.env.locals :: X.fs)).IsCell c (some u) := by
  obtain ⟨m, hn, hl⟩ := I.loc
  obtain ⟨u, r, k⟩ := hl i x v hN hσ (.inr (.inl hk))
  rcases k with ⟨k, _⟩ | ⟨_, c', hc', o, ho, hd⟩
  · have e := k.symm.trans (show X.env.kindOf x = some .cell from hk)
    cases e
  · rw [hc] at hc'
    cases hc'
    refine ⟨u, r, o, hidF_get ho (I.freeC x c hc) fun hm => ?_, hd⟩
    rcases List.mem_cons.mp hm with z | z
    · exact I.cne x c hc z
    · obtain ⟨_, o', ho', _⟩ := I.ok.funs.mem z
      exact absurd (Heap.lt_size ho') (Nat.not_lt.mpr (I.ok.cab x c hfn hc))
theorem pin_at (I : Inv X pins σ H s) {f : Addr} {o : Obj} (hp : (f, o) ∈ X.pn) : (hidF s.heap H (X.env.locals :: X.fs)).get? f = some o := by
  obtain ⟨h1, h2, h3, h4, _⟩ := I.pin (f, o) (List.mem_append_left _ hp)
  refine hidF_get h1 h2 fun hm => ?_
  rcases List.mem_cons.mp hm with z | z
  · exact h3 z
  · exact h4 z
end
theorem triples_snoc {a b : Int} {c : Value} (l : List Value) (h : TriplesOk l) : TriplesOk (l ++ [rawInt a, rawInt b, c]) := by
  fun_induction TriplesOk l with
  | case1 => exact trivial
  | case2 x1 t1 x2 t2 v rest ih => exact ih h
  | case3 => exact h.elim
theorem among_other {pos pos' : Pos} {c : Value} (hne : pos.line ≠ pos'.line) (l : List Value) (h : TriplesOk l) : codeAmong pos' (l ++ [rawInt pos.line, rawInt pos.col, c]) = codeAmong pos' l := by
  fun_induction TriplesOk l with
  | case1 =>
    have e : ((pos.line : Int) == (pos'.line : Int)) = false := beq_eq_false_iff_ne.mpr fun q => hne (by omega)
    simp only [List.nil_append, codeAmong, rawInt, e, Bool.false_and]
    rfl
  | case2 x1 t1 x2 t2 v rest ih =>
    show (if (x1 == (pos'.line : Int) && x2 == (pos'.col : Int)) = true then some v else codeAmong pos' (rest ++ _)) = (if (x1 == (pos'.line : Int) && x2 == (pos'.col : Int)) = true then some v else codeAmong pos' rest)
    rw [ih h]
  | case3 => exact h.elim
end L2
namespace BK
open PySem L2
open Kp113 (Make Pr falls fallsLeast within iLow iHigh point isMake goodMake)
abbrev s_ask : Stmt := (defBody s_most_currents).getD 0 (.Pass ⟨0, 0, 0, 0⟩)
abbrev s_put : Stmt := (defBody s_most_currents).getD 1 (.Pass ⟨0, 0, 0, 0⟩)
def defPos (s : Stmt) : Pos := match s with
  | .FunctionDef _ _ _ _ _ _ _ _ _ p => p
  | _ => ⟨0, 0, 0, 0⟩
theorem in_ask : InScope ["current", "drain", "make", "pair"] "current" (defScope s_ask) := ⟨rfl, rfl, rfl, by decide +kernel, rfl, rfl, by decide +kernel⟩
theorem in_put : InScope ["current", "gain", "make", "pair"] "current" (defScope s_put) := ⟨rfl, rfl, rfl, by decide +kernel, rfl, rfl, by decide +kernel⟩
section
variable {P : Program} {w : World} {K : PySem.W.Frag} {mg : Str → Option Value} {base : Heap} {CM CK CL aN aR : Addr}
def RR (CM m a c : Addr) (qual : Str) (M : Make) (p : Pr) (H : Hp) : Prop := MakeAt CM H m M ∧ TupAt H a p ∧ H c = some (CodeO c qual)
def fvAB (m a : Addr) (x : Str) : Option V := if x = "make" then some (.ref m) else if x = "pair" then some (.ref a) else none
theorem fvA (m a : Addr) : fvAB m a "make" = some (.ref m) := by unfold fvAB; rw [if_pos rfl]
theorem fvB (m a : Addr) : fvAB m a "pair" = some (.ref a) := by unfold fvAB; rw [if_neg (by decide +kernel), if_pos rfl]
def clAB (ca cb : Addr) : List (Str × Addr) := [("pair", cb), ("make", ca)]
theorem cl_look {ca cb : Addr} {x : Str} {c : Addr} (h : (clAB ca cb).lookup x = some c) : (x = "pair" ∧ c = cb) ∨ (x = "make" ∧ c = ca) := by
  unfold clAB at h
  rw [List.lookup_cons] at h
  cases e : x == ("pair" : Str) with
  | true =>
    rw [e] at h
    exact .inl ⟨eq_of_beq e, (Option.some.inj h).symm⟩
  | false =>
    rw [e] at h
    have h : ([("make", ca)] : List (Str × Addr)).lookup x = some c := h
    rw [List.lookup_cons] at h
    cases e2 : x == ("make" : Str) with
    | true =>
      rw [e2] at h
      exact .inr ⟨eq_of_beq e2, (Option.some.inj h).symm⟩
    | false =>
      rw [e2] at h
      cases h
theorem cl_inj {ca cb : Addr} (hne : ca ≠ cb) : ∀ x y a, (clAB ca cb).lookup x = some a → (clAB ca cb).lookup y = some a → x = y := fun x y a h1 h2 => by
  rcases cl_look h1 with ⟨rfl, rfl⟩ | ⟨rfl, rfl⟩ <;> rcases cl_look h2 with ⟨rfl, e⟩ | ⟨rfl, e⟩ <;> first | rfl | exact absurd e hne | exact absurd e.symm hne
theorem cl_cells {ca cb m a : Addr} (hA : base.IsCell ca (some (.ref m))) (hB : base.IsCell cb (some (.ref a))) : ∀ x c, (clAB ca cb).lookup x = some c → ∃ v u, fvAB m a x = some v ∧ RelV v u ∧ base.IsCell c (some u) := fun x c h => by
  rcases cl_look h with ⟨rfl, rfl⟩ | ⟨rfl, rfl⟩
  · exact ⟨_, _, fvB m a, rfl, hB⟩
  · exact ⟨_, _, fvA m a, rfl, hA⟩
theorem cl_has {ca cb : Addr} {sc : Scope} (h : ∀ y ∈ sc.names, y.2 = .free → y.1 = "make" ∨ y.1 = "pair") : ∀ x, sc.names.lookup x = some .free → ∃ a, (clAB ca cb).lookup x = some a := fun x hx => by
  rcases h _ (PySem.mem_of_lookup hx) rfl with e | e
  · have e : x = "make" := e
    subst e; exact ⟨ca, rfl⟩
  · have e : x = "pair" := e
    subst e; exact ⟨cb, rfl⟩
theorem s0_ok {sc : Scope} {y : Str} {m a : Addr} (h1 : sc.names.lookup ("make" : Str) = some .free) (h2 : sc.names.lookup ("pair" : Str) = some .free) : ∀ (v : V) (i : Nat) (x : Str) (v' : V), (["current", y, "make", "pair"] : List Str)[i]? = some x → ([some v, none, some (.ref m), some (.ref a)] : St)[i]? = some (some v') → (i = 0 ∧ v' = v) ∨ (sc.names.lookup x = some .free ∧ fvAB m a x = some v') := by
  intro v i x v' e1 e2
  match i, e1, e2 with
  | 0, _, e2 => exact .inl ⟨rfl, (Option.some.inj (Option.some.inj e2)).symm⟩
  | 1, _, e2 => cases Option.some.inj e2
  | 2, e1, e2 =>
    have q1 := Option.some.inj e1
    have q2 := Option.some.inj (Option.some.inj e2)
    subst q1 q2
    exact .inr ⟨h1, fvA m a⟩
  | 3, e1, e2 =>
    have q1 := Option.some.inj e1
    have q2 := Option.some.inj (Option.some.inj e2)
    subst q1 q2
    exact .inr ⟨h2, fvB m a⟩
  | j + 4, e1, e2 => simp at e1
theorem ok_ask (T : Txt K mg CM CK CL aN aR) {f c ca cb m a : Addr} {fo : Obj} {qual : Str} {doc pm ctv : Value} {M : Make} {p : Pr} (G : GM M) (hp : PrOk p) (ho : base.get? f = some fo) (hne : ca ≠ cb)
    (hd : fo.data = .func (PySem.W.fnX "may_be_asked" qual (defArgs s_ask) (defBody s_ask) (defScope s_ask) (clAB ca cb) .none .none doc pm none (.ref c) ctv)) (hA : base.IsCell ca (some (.ref m))) (hB : base.IsCell cb (some (.ref a))) :
    FnOk P w K mg base CX0 5 f (PySem.W.fnX "may_be_asked" qual (defArgs s_ask) (defBody s_ask) (defScope s_ask) (clAB ca cb) .none .none doc pm none (.ref c) ctv) ["current"] (sp_holds (RR CM m a c qual M p) (Kp114.mayGive M p)) := by
  have D_is_safe_below : Df P w K mg base "is_safe_below" 4 _ _ := d_is_safe_below T
  have D_greatest_loss : Df P w K mg base "greatest_loss" 2 _ _ := d_greatest_loss T
  refine fn_in (k := 4) (fv := fvAB m a) ho hd in_ask (cl_inj hne) (cl_has (by decide +kernel)) (cl_cells hA hB) (fun vs H Q E h => ?_) (fun vs H Q E h => ?_) (fun v => [some v, none, some (.ref m), some (.ref a)]) (fun _ => rfl) (s0_ok rfl rfl) (fun A outer s H v Q E hr h => ?_)
  · obtain ⟨i, _, _, hR, _⟩ := h; exact hR.2.2
  · obtain ⟨i, rfl, _⟩ := h; rfl
  · obtain ⟨i, e, i0, ⟨hM', ht, _⟩, k⟩ := h
    cases e
    obtain ⟨l, dx, hM⟩ := id hM'
    have S := in_ask
    refine ⟨_, (pss_cons (ps_set (i := 1) S.nd rfl (Or.inl rfl) (pe_op op_add (pe_op op_add (pe_callB (call_min2 rfl) (by rfl) T.n_min bt_min (pa_cons (pe_op op_add (pv 0) (pe_fld (pv 2) rfl)) (pa_cons (pe_fld (pv 2) rfl) pa_nil))) (pe_fld (pv 2) rfl)) (pe_fld (pv 2) rfl))) (pss_one (ps_ret (pe_def D_is_safe_below (hr.mono (by decide)) rfl (pa_cons (pv 2) (pa_cons (pe_op op_sub (pe_ix ix_tup (pv 3) pe_int (fun _ _ => rfl)) (pe_def D_greatest_loss (hr.mono (by decide)) rfl (pa_cons (pv 2) (pa_cons (pv 1) pa_nil)))) (pa_cons (pe_fld (pv 2) rfl) pa_nil))))))), ?_⟩
    refine ⟨_, rfl, _, rfl, fldM T hM 11 rfl rfl ⟨_, _, rfl, rfl, _, rfl, fldM T hM 12 rfl rfl ⟨_, _, rfl, _, rfl, fldM T hM 8 rfl rfl ⟨_, _, rfl, rfl, _, rfl, fldM T hM 10 rfl rfl ⟨_, _, rfl, rfl, ?_⟩⟩⟩⟩⟩
    have := G.o0; have := G.u0; have := G.e0; have := G.b0; have := G.b1; have := G.w1; have := G.w2
    have em : (if M.fuse < i + M.off then M.fuse else i + M.off) = min (i + M.off) M.fuse := by split <;> omega
    have e : falls M ((if M.fuse < i + M.off then M.fuse else i + M.off) + M.leak + M.bleedHigh) = Kp82.up ((min (i + M.off) M.fuse + M.leak + M.bleedHigh) * Kp113.FULL) M.weak := by
      rw [em]
      unfold falls
      rw [if_neg (by omega)]
    have z : 0 ≤ Kp82.up ((min (i + M.off) M.fuse + M.leak + M.bleedHigh) * Kp113.FULL) M.weak := up_nonneg G.wp (Int.mul_nonneg (by omega) (by decide))
    obtain ⟨o1, o2, o3⟩ := hp
    refine ⟨_, rfl, _, rfl, _, _, _, _, rfl, rfl, SqT.of ht, rfl, _, rfl, _, rfl, m, M, _, rfl, hM', G, _, _, rfl, rfl, _, rfl, fldM T hM 1 rfl rfl ⟨m, M, _, _, rfl, hM', G, by omega, by omega, ?_, ?_⟩⟩
    · rw [e]; omega
    · rw [e]; exact k
theorem ok_put (T : Txt K mg CM CK CL aN aR) {f c ca cb m a : Addr} {fo : Obj} {qual : Str} {doc pm ctv : Value} {M : Make} {p : Pr} (G : GM M) (hp : PrOk p) (ho : base.get? f = some fo) (hne : ca ≠ cb)
    (hd : fo.data = .func (PySem.W.fnX "may_be_put" qual (defArgs s_put) (defBody s_put) (defScope s_put) (clAB ca cb) .none .none doc pm none (.ref c) ctv)) (hA : base.IsCell ca (some (.ref m))) (hB : base.IsCell cb (some (.ref a))) :
    FnOk P w K mg base CX0 5 f (PySem.W.fnX "may_be_put" qual (defArgs s_put) (defBody s_put) (defScope s_put) (clAB ca cb) .none .none doc pm none (.ref c) ctv) ["current"] (sp_holds (RR CM m a c qual M p) (Kp114.mayTake M p)) := by
  have D_is_safe_above : Df P w K mg base "is_safe_above" 4 _ _ := d_is_safe_above T
  have D_greatest_loss : Df P w K mg base "greatest_loss" 2 _ _ := d_greatest_loss T
  refine fn_in (k := 4) (fv := fvAB m a) ho hd in_put (cl_inj hne) (cl_has (by decide +kernel)) (cl_cells hA hB) (fun vs H Q E h => ?_) (fun vs H Q E h => ?_) (fun v => [some v, none, some (.ref m), some (.ref a)]) (fun _ => rfl) (s0_ok rfl rfl) (fun A outer s H v Q E hr h => ?_)
  · obtain ⟨i, _, _, hR, _⟩ := h; exact hR.2.2
  · obtain ⟨i, rfl, _⟩ := h; rfl
  · obtain ⟨i, e, i0, ⟨hM', ht, _⟩, k⟩ := h
    cases e
    obtain ⟨l, dx, hM⟩ := id hM'
    have S := in_put
    refine ⟨_, (pss_cons (ps_set (i := 1) S.nd rfl (Or.inl rfl) (pe_callB (call_min2 rfl) (by rfl) T.n_min bt_min (pa_cons (pe_op op_add (pv 0) (pe_fld (pv 2) rfl)) (pa_cons (pe_fld (pv 2) rfl) pa_nil)))) (pss_one (ps_ret (pe_def D_is_safe_above (hr.mono (by decide)) rfl (pa_cons (pv 2) (pa_cons (pe_op op_add (pe_ix ix_tup (pv 3) pe_int (fun _ _ => rfl)) (pe_def D_greatest_loss (hr.mono (by decide)) rfl (pa_cons (pv 2) (pa_cons (pv 1) pa_nil)))) (pa_cons (pe_fld (pv 2) rfl) pa_nil))))))), ?_⟩
    refine ⟨_, rfl, _, rfl, fldM T hM 11 rfl rfl ⟨_, _, rfl, rfl, _, rfl, fldM T hM 12 rfl rfl ⟨_, _, rfl, ?_⟩⟩⟩
    have := G.o0; have := G.u0; have := G.w1; have := G.w2
    have em : (if M.fuse < i + M.off then M.fuse else i + M.off) = min (i + M.off) M.fuse := by split <;> omega
    have e : falls M (if M.fuse < i + M.off then M.fuse else i + M.off) = Kp82.up (min (i + M.off) M.fuse * Kp113.FULL) M.weak := by
      rw [em]
      unfold falls
      rw [if_neg (by omega)]
    have z : 0 ≤ Kp82.up (min (i + M.off) M.fuse * Kp113.FULL) M.weak := up_nonneg G.wp (Int.mul_nonneg (by omega) (by decide))
    obtain ⟨o1, o2, o3⟩ := hp
    refine ⟨_, rfl, _, rfl, _, _, _, _, rfl, rfl, SqT.of ht, rfl, _, rfl, _, rfl, m, M, _, rfl, hM', G, _, _, rfl, rfl, _, rfl, fldM T hM 1 rfl rfl ⟨m, M, _, _, rfl, hM', G, by omega, by omega, ?_, ?_⟩⟩
    · rw [e]; omega
    · rw [e]; exact k
end
end BK
end
section
set_option Elab.async false
set_option linter.all false
set_option maxRecDepth 100000
set_option maxHeartbeats 4000000
namespace BK
open PySem L2
open Kp113 (Make Pr falls fallsLeast within iLow iHigh point isMake goodMake)
abbrev q_ask : Str := (("most_currents" : Str) ++ (".<locals>." : Str)) ++ ("may_be_asked" : Str)
abbrev q_put : Str := (("most_currents" : Str) ++ (".<locals>." : Str)) ++ ("may_be_put" : Str)
/-- the table of most_currents' code: the codes of its two defs, as far as they were made -/
def TabOk (Pt : Addr) (H : Hp) : Prop := ∃ ps : Array Value, H Pt = some (.tbl ps) ∧ TriplesOk ps.toList ∧ (∀ v, codeAmong (defPos s_ask) ps.toList = some v → ∃ c, v = .ref c ∧ H c = some (CodeO c q_ask)) ∧ (∀ v, codeAmong (defPos s_put) ps.toList = some v → ∃ c, v = .ref c ∧ H c = some (CodeO c q_put))
theorem TabOk.but {Pt : Addr} {H H' : Hp} (h : TabOk Pt H) (s : ∀ b o, H b = some o → ((∃ ps, o = .tbl ps) ∨ ∃ φ, o = .ext φ) → H' b = some o) : TabOk Pt H' := by
  obtain ⟨ps, h1, h2, h3, h4⟩ := h
  refine ⟨ps, s _ _ h1 (.inl ⟨_, rfl⟩), h2, fun v e => ?_, fun v e => ?_⟩
  · obtain ⟨c, e1, e2⟩ := h3 v e
    exact ⟨c, e1, s _ _ e2 (.inr ⟨_, rfl⟩)⟩
  · obtain ⟨c, e1, e2⟩ := h4 v e
    exact ⟨c, e1, s _ _ e2 (.inr ⟨_, rfl⟩)⟩
theorem TabOk.same {Pt : Addr} {H H' : Hp} (h : TabOk Pt H) (s : Same H H') : TabOk Pt H' := h.but fun b o e _ => s b o e
/-- all but the table stays -/
def SameT (Pt : Addr) (H H' : Hp) : Prop := ∀ b o, H b = some o → b ≠ Pt → H' b = some o
theorem SameT.trans {Pt : Addr} {H H1 H2 : Hp} (a : SameT Pt H H1) (b : SameT Pt H1 H2) : SameT Pt H H2 := fun c o e hc => b c o (a c o e hc) hc
theorem SameT.of {Pt : Addr} {H H' : Hp} (s : Same H H') : SameT Pt H H' := fun b o e _ => s b o e
theorem lines : (defPos s_ask).line ≠ (defPos s_put).line := by decide +kernel
section
variable {P : Program} {w : World} {K : PySem.W.Frag} {mg : Str → Option Value} {base : Heap} {CM CK CL aN aR : Addr}
def sp_most (CM Pt : Addr) : Sp := fun vs H Q _ => ∃ (m a : Addr) (M : Make) (p : Pr), vs = [.ref m, .ref a] ∧ MakeAt CM H m M ∧ GM M ∧ TupAt H a p ∧ PrOk p ∧ TabOk Pt H ∧
  ∀ (t : Addr) (H' : Hp), H t = none → SameT Pt H H' → TabOk Pt H' → H' t = some (.tup [.int (Kp114.most M p).1, .int (Kp114.most M p).2]) → Q (.ref t) H'
theorem ok_most (T : Txt K mg CM CK CL aN aR) {f c0 Pt : Addr} {oc kV doc pm ct : Value} {od an : Option Addr} {osl : Array (Option Value)}
    (lk : K.lookup f = some ⟨oc, od, .func (PySem.W.fnOf "most_currents" "most_currents" (defArgs s_most_currents) (defBody s_most_currents) (defScope s_most_currents) .none kV doc pm an (.ref c0) ct), osl⟩) (hcd : PySem.W.codeIn K (.ref c0) "most_currents" = true)
    (C : PySem.W.CodeHd base c0 Pt) (B : base.BuiltinsAt mg Pt) :
    FnOk P w K mg base CX0 7 f (PySem.W.fnOf "most_currents" "most_currents" (defArgs s_most_currents) (defBody s_most_currents) (defScope s_most_currents) .none kV doc pm an (.ref c0) ct) ["make", "pair"] (sp_most CM Pt) := by
  obtain ⟨fG, fdG, FG, mgG, bG⟩ := T.d_greatest_that
  refine fn_of lk hcd sc_most_currents (fun vs H Q E h => ?_) (fun A outer s H vs Q E hr h => ?_)
  · obtain ⟨m, a, M, p, rfl, _⟩ := h; rfl
  · obtain ⟨m, a, M, p, rfl, hM', G, ht, hp, hT, k⟩ := h
    refine ⟨fun D σ H' => σ = [some (.ref m), some (.ref a), none, none] ∧ H' = H ∧ D.rt = Q, PSs.nox ?_, rfl, rfl, rfl⟩
    rintro pins s1 σ H' D I ⟨rfl, rfl, hD⟩
    obtain ⟨ps, hP, htr, hi1, hi2⟩ := hT
    have hcl1 : closureFor (defScope s_ask) (cxOf CX0 P w K mg base ["make", "pair", "may_be_asked", "may_be_put"] "most_currents" (defScope s_most_currents) f (.ref c0) A outer s H' E).nox.env = pure (clAB (s.heap.objs.size + 1) (s.heap.objs.size + 1 + 1)) :=
      (closure_ok (by
        intro y hy e
        have hz : ∀ y ∈ (defScope s_ask).names, y.2 = .free → y.1 = "make" ∨ y.1 = "pair" := by decide +kernel
        rcases hz y hy e with z | z
        · exact ⟨s.heap.objs.size + 1, by rw [z]; rfl⟩
        · exact ⟨s.heap.objs.size + 1 + 1, by rw [z]; rfl⟩)).trans rfl
    have hcl2 : closureFor (defScope s_put) (cxOf CX0 P w K mg base ["make", "pair", "may_be_asked", "may_be_put"] "most_currents" (defScope s_most_currents) f (.ref c0) A outer s H' E).nox.env = pure (clAB (s.heap.objs.size + 1) (s.heap.objs.size + 1 + 1)) :=
      (closure_ok (by
        intro y hy e
        have hz : ∀ y ∈ (defScope s_put).names, y.2 = .free → y.1 = "make" ∨ y.1 = "pair" := by decide +kernel
        rcases hz y hy e with z | z
        · exact ⟨s.heap.objs.size + 1, by rw [z]; rfl⟩
        · exact ⟨s.heap.objs.size + 1 + 1, by rw [z]; rfl⟩)).trans rfl
    -- def may_be_asked
    refine wpAny_execs_cons (def_ok (i := 2) (name := "may_be_asked") (qual := q_ask) (params := defArgs s_ask) (body := defBody s_ask) (scope := defScope s_ask) (pos := defPos s_ask) I sc_most_currents.nd rfl rfl rfl rfl rfl hcl1 rfl C B rfl hP htr hi1 fun s2 f1 o1 H1 c1 ctv1 doc1 ps1 I1 d1 M1 => ?_)
    have htr1 : TriplesOk ps1.toList := by
      rcases M1.is with ⟨e, _⟩ | ⟨_, e, _⟩
      · rw [e]; exact htr
      · rw [e, Array.toList_append]; exact triples_snoc _ htr
    have am1 : codeAmong (defPos s_ask) ps1.toList = some (.ref c1) := by
      rcases M1.is with ⟨e, _, e2⟩ | ⟨e2, e, _⟩
      · rw [e]; exact e2
      · rw [e, Array.toList_append]; exact codeAmong_snoc _ htr e2
    have hi2' : ∀ v, codeAmong (defPos s_put) ps1.toList = some v → ∃ c, v = .ref c ∧ H1 c = some (CodeO c q_put) := by
      intro v e
      have e' : codeAmong (defPos s_put) ps.toList = some v := by
        rcases M1.is with ⟨z, _⟩ | ⟨_, z, _⟩
        · rw [← z]; exact e
        · rw [z, Array.toList_append] at e
          exact (among_other lines _ htr).symm.trans e
      obtain ⟨c, z1, z2⟩ := hi2 v e'
      exact ⟨c, z1, M1.kept c _ z2 fun q => by rw [q, hP] at z2; cases z2⟩
    -- def may_be_put
    refine wpAny_execs_cons (def_ok (i := 3) (name := "may_be_put") (qual := q_put) (params := defArgs s_put) (body := defBody s_put) (scope := defScope s_put) (pos := defPos s_put) I1 sc_most_currents.nd rfl rfl rfl rfl rfl hcl2 rfl C B rfl M1.tab htr1 hi2' fun s3 f2 o2 H2 c2 ctv2 doc2 ps2 I2 d2 M2 => ?_)
    have htr2 : TriplesOk ps2.toList := by
      rcases M2.is with ⟨e, _⟩ | ⟨_, e, _⟩
      · rw [e]; exact htr1
      · rw [e, Array.toList_append]; exact triples_snoc _ htr1
    have am2 : codeAmong (defPos s_put) ps2.toList = some (.ref c2) := by
      rcases M2.is with ⟨e, _, e2⟩ | ⟨e2, e, _⟩
      · rw [e]; exact e2
      · rw [e, Array.toList_append]; exact codeAmong_snoc _ htr1 e2
    have am1' : codeAmong (defPos s_ask) ps2.toList = some (.ref c1) := by
      rcases M2.is with ⟨e, _⟩ | ⟨_, e, _⟩
      · rw [e]; exact am1
      · rw [e, Array.toList_append]
        exact (among_other (Ne.symm lines) _ htr1).trans am1
    have co1 : H2 c1 = some (CodeO c1 q_ask) := M2.kept c1 _ M1.code fun q => by
      have z := M1.code
      rw [q, M1.tab] at z
      cases z
    have sT : SameT Pt H' H2 := fun b o e hb => M2.kept b o (M1.kept b o e hb) hb
    have nP : ∀ {b : Addr} {o : HO}, H' b = some o → (∀ qs, o ≠ .tbl qs) → b ≠ Pt := fun {b o} e hne q => by
      rw [q, hP] at e
      exact hne _ (Option.some.inj e).symm
    have hM2' : MakeAt CM H2 m M := by
      obtain ⟨l, dx, hM⟩ := hM'
      exact ⟨l, dx, sT _ _ hM.ob (nP hM.ob fun _ => nofun), sT _ _ hM.cu (nP hM.cu fun _ => nofun)⟩
    have ht2 : TupAt H2 a p := sT _ _ ht (nP ht fun _ => nofun)
    obtain ⟨l, dx, hM2⟩ := id hM2'
    -- return (greatest_that(..), greatest_that(..))
    have I3 := I2
    rw [List.append_assoc] at I3
    have I4 := I3.toPn
    have cel : ∀ (pins : List (Addr × Obj)) (H : Hp) (s4 : Shared), Inv _ pins [some (.ref m), some (.ref a), some (.ref f1), some (.ref f2)] H s4 → _ := fun pins H s4 (J : Inv ((cxOf CX0 P w K mg base ["make", "pair", "may_be_asked", "may_be_put"] "most_currents" (defScope s_most_currents) f (.ref c0) A outer s H' E).nox.pinned ([(f1, o1)] ++ [(f2, o2)])) pins [some (.ref m), some (.ref a), some (.ref f1), some (.ref f2)] H s4) =>
      And.intro (cell_at J (i := 0) (x := "make") (v := .ref m) (c := s.heap.objs.size + 1) rfl rfl rfl rfl rfl) (cell_at J (i := 1) (x := "pair") (v := .ref a) (c := s.heap.objs.size + 1 + 1) rfl rfl rfl rfl rfl)
    have hne : (s.heap.objs.size + 1 : Addr) ≠ s.heap.objs.size + 1 + 1 := Nat.ne_of_lt (Nat.lt_succ_self _)
    have bd : ∀ {fd : FuncData} , (∀ u : Value, bindArgs fd ⟨[u], []⟩ = pure [(("current" : Str), u)]) → ∀ (s : Shared) (us : List Value), us.length = 1 → BindsTo s fd ⟨us, []⟩ ((["current"] : List Str).zip us) := fun {fd} h s us hl => by
      match us, hl with
      | [u], _ => exact .of_eq (h u)
    obtain ⟨p1, p2, p3⟩ := id hp
    have RT : PSs ((cxOf CX0 P w K mg base ["make", "pair", "may_be_asked", "may_be_put"] "most_currents" (defScope s_most_currents) f (.ref c0) A outer s H' E).nox.pinned ([(f1, o1)] ++ [(f2, o2)])) ((defBody s_most_currents).drop 2) _ := (pss_one (ps_ret (pe_tup (pa_cons
        (pe_callG (fd := fdG) (sp := sp_greatest f1 (RR CM m a c1 q_ask M p) (Kp114.mayGive M p)) (σ0 := [some (.ref m), some (.ref a), some (.ref f1), some (.ref f2)]) (fun pins H s4 J => by
          obtain ⟨⟨u1, r1, z1⟩, ⟨u2, r2, z2⟩⟩ := cel pins H s4 J
          cases r1; cases r2
          exact ok_greatest_that T FG (fun i j hi hj => give_anti G (by omega) hi hj) (ok_ask T G hp (pin_at J (List.mem_append_right _ (.head _))) hne d1 z1 z2) (pin_at J (List.mem_append_right _ (.head _))) d1 (bd fun u => rfl))
          (hr.mono (by decide)) rfl mgG FG.kp bG (pa_cons (pe_fld (pv 0) rfl) (pa_cons (pv 2) pa_nil)))
        (pa_cons
        (pe_callG (fd := fdG) (sp := sp_greatest f2 (RR CM m a c2 q_put M p) (Kp114.mayTake M p)) (σ0 := [some (.ref m), some (.ref a), some (.ref f1), some (.ref f2)]) (fun pins H s4 J => by
          obtain ⟨⟨u1, r1, z1⟩, ⟨u2, r2, z2⟩⟩ := cel pins H s4 J
          cases r1; cases r2
          exact ok_greatest_that T FG (fun i j hi hj => take_anti G (by omega) hi hj) (ok_put T G hp (pin_at J (List.mem_append_right _ (.tail _ (.head _)))) hne d2 z1 z2) (pin_at J (List.mem_append_right _ (.tail _ (.head _)))) d2 (bd fun u => rfl))
          (hr.mono (by decide)) rfl mgG FG.kp bG (pa_cons (pe_fld (pv 0) rfl) (pa_cons (pv 3) pa_nil)))
        pa_nil)))))
    refine thn (RT pins s3 [some (.ref m), some (.ref a), some (.ref f1), some (.ref f2)] H2 D I4 ?_) fun fl s5 hs => SP.ofPn hs
    have := G.u0; have := G.u1
    refine ⟨rfl, _, rfl, fldM T hM2 12 rfl rfl ⟨_, rfl, M.fuse, rfl, by omega, by omega, ⟨hM2', ht2, co1⟩, rfl, _, rfl, fldM T hM2 12 rfl rfl ⟨_, rfl, M.fuse, rfl, by omega, by omega, ⟨hM2', ht2, M2.code⟩, (by show 2 ≤ sizeLine; decide), fun t htn => ?_⟩⟩⟩
    rw [hD]
    have s3' : Same H2 _ := same_upd (o := .tup [.int (Kp114.greatest (Kp114.mayGive M p) M.fuse), .int (Kp114.greatest (Kp114.mayTake M p) M.fuse)]) htn
    have tab2 : TabOk Pt H2 := ⟨ps2, M2.tab, htr2, fun v e => ⟨c1, (Option.some.inj (am1'.symm.trans e)).symm, co1⟩, fun v e => ⟨c2, (Option.some.inj (am2.symm.trans e)).symm, M2.code⟩⟩
    refine k t _ ?_ (sT.trans (SameT.of s3')) (tab2.same s3') upd_same
    cases q : H' t with
    | none => rfl
    | some o =>
      by_cases hb : t = Pt
      · rw [hb, M2.tab] at htn; cases htn
      · rw [sT t o q hb] at htn; cases htn
end
end BK
end
section
set_option Elab.async false
set_option linter.all false
set_option maxRecDepth 100000
set_option maxHeartbeats 4000000
namespace BK
open PySem L2
open Kp113 (Make Pr falls fallsLeast within iLow iHigh point isMake goodMake)
def kpVals (m pl bl : Addr) (S : KS) : List V := [.ref m, .ref pl, .ref bl, .bl S.asked, .int S.sw, .int S.f, .int S.o]
def kpF (m pl bl : Addr) (S : KS) : List (Str × V) := kpKeys.zip (kpVals m pl bl S)
def TupsAt (H : Hp) (as : List Addr) (ps : List Pr) : Prop := as.length = ps.length ∧ ∀ (j : Nat) (a : Addr) (p : Pr), as[j]? = some a → ps[j]? = some p → TupAt H a p
theorem TupsAt.but {H H' : Hp} {as : List Addr} {ps : List Pr} (h : TupsAt H as ps) (s : ∀ b xs, H b = some (.tup xs) → H' b = some (.tup xs)) : TupsAt H' as ps := ⟨h.1, fun j a p e1 e2 => s _ _ (h.2 j a p e1 e2)⟩
/-- a keeper stands at k -/
structure KpAt (CM CK : Addr) (W : Addr → Prop) (H : Hp) (k dx m l mdx ql rl : Addr) (as : List Addr) (S : KS) : Prop where
  ob : H k = some (.ins CK dx (kpF m ql rl S))
  mak : MkAt CM H m l mdx S.m
  pl : H ql = some (.lst (as.map V.ref))
  tup : TupsAt H as S.cells
  bl : H rl = some (.lst (S.bled.map V.bl))
  ww : W l ∧ W ql ∧ W rl
def KAt (CM CK : Addr) (W : Addr → Prop) (H : Hp) (k : Addr) (S : KS) : Prop := ∃ dx m l mdx pl bl as, KpAt CM CK W H k dx m l mdx pl bl as S
structure KOk (S : KS) : Prop where
  gm : GM S.m
  cl : S.cells.length = S.m.cells.toNat
  bl : S.bled.length = S.m.cells.toNat
  prs : ∀ p ∈ S.cells, PrOk p
/-- all but k stays -/
def SameB (k : Addr) (H H' : Hp) : Prop := ∀ b o, H b = some o → b ≠ k → H' b = some o
theorem SameB.trans {k : Addr} {H H1 H2 : Hp} (a : SameB k H H1) (b : SameB k H1 H2) : SameB k H H2 := fun c o e hc => b c o (a c o e hc) hc
theorem SameB.of {k : Addr} {H H' : Hp} (s : Same H H') : SameB k H H' := fun b o e _ => s b o e
theorem sameB_upd {k : Addr} {H : Hp} {o : HO} : SameB k H (upd H k o) := fun b u e hb => by rw [upd_ne hb]; exact e
theorem KpAt.same {CM CK : Addr} {W : Addr → Prop} {H H' : Hp} {k dx m l mdx pl bl : Addr} {as : List Addr} {S : KS} (h : KpAt CM CK W H k dx m l mdx pl bl as S) (s : Same H H') : KpAt CM CK W H' k dx m l mdx pl bl as S :=
  ⟨s _ _ h.ob, h.mak.same s, s _ _ h.pl, h.tup.but fun b xs e => s _ _ e, s _ _ h.bl, h.ww⟩
theorem KAt.same {CM CK : Addr} {W : Addr → Prop} {H H' : Hp} {k : Addr} {S : KS} (h : KAt CM CK W H k S) (s : Same H H') : KAt CM CK W H' k S := let ⟨dx, m, l, mdx, pl, bl, as, h⟩ := h; ⟨dx, m, l, mdx, pl, bl, as, h.same s⟩
theorem mk_ne_kp {CM CK mdx dx m pl bl l : Addr} {M : Make} {S : KS} : (HO.ins CM mdx (mkF M l)) ≠ HO.ins CK dx (kpF m pl bl S) := fun e => by
  injection e with _ _ e
  have := congrArg List.length e
  have h1 : (mkF M l).length = 19 := rfl
  have h2 : (kpF m pl bl S).length = 7 := rfl
  rw [h1, h2] at this
  cases this
/-- a keeper's attributes are changed -/
theorem KpAt.turn {CM CK : Addr} {W : Addr → Prop} {H : Hp} {k dx m l mdx pl bl pl' bl' : Addr} {as as' : List Addr} {S S' : KS} {fs : List (Str × V)} (h : KpAt CM CK W H k dx m l mdx pl bl as S) (e : fs = kpF m pl' bl' S') (em : S'.m = S.m) (hpl : H pl' = some (.lst (as'.map V.ref)))
    (ht : TupsAt H as' S'.cells) (hbl : H bl' = some (.lst (S'.bled.map V.bl))) (w1 : W pl') (w2 : W bl') : KpAt CM CK W (upd H k (.ins CK dx fs)) k dx m l mdx pl' bl' as' S' := by
  subst e
  refine ⟨upd_same, ⟨?_, ?_⟩, ?_, ?_, ?_, h.ww.1, w1, w2⟩
  · rw [upd_ne (ne_of h.mak.ob h.ob mk_ne_kp), em]; exact h.mak.ob
  · rw [upd_ne (ne_of h.mak.cu h.ob nofun), em]; exact h.mak.cu
  · rw [upd_ne (ne_of hpl h.ob nofun)]; exact hpl
  · exact ht.but fun b xs e => by rw [upd_ne (ne_of e h.ob nofun)]; exact e
  · rw [upd_ne (ne_of hbl h.ob nofun)]; exact hbl
theorem put3 (m pl bl : Addr) (S : KS) (b : Bool) : putF "asked" (.bl b) (kpF m pl bl S) = kpF m pl bl { S with asked := b } := zf_put (i := 3) kpNd rfl (show 3 < 7 by decide)
theorem put4 (m pl bl : Addr) (S : KS) (z : Int) : putF "switch" (.int z) (kpF m pl bl S) = kpF m pl bl { S with sw := z } := zf_put (i := 4) kpNd rfl (show 4 < 7 by decide)
theorem put5 (m pl bl : Addr) (S : KS) (z : Int) : putF "filling_ticks" (.int z) (kpF m pl bl S) = kpF m pl bl { S with f := z } := zf_put (i := 5) kpNd rfl (show 5 < 7 by decide)
theorem put6 (m pl bl : Addr) (S : KS) (z : Int) : putF "open_ticks" (.int z) (kpF m pl bl S) = kpF m pl bl { S with o := z } := zf_put (i := 6) kpNd rfl (show 6 < 7 by decide)
theorem put1 (m pl bl pl' : Addr) (S : KS) (c : List Pr) : putF "pairs" (.ref pl') (kpF m pl bl S) = kpF m pl' bl { S with cells := c } := zf_put (i := 1) kpNd rfl (show 1 < 7 by decide)
theorem put2 (m pl bl bl' : Addr) (S : KS) (c : List Bool) : putF "bled" (.ref bl') (kpF m pl bl S) = kpF m pl bl' { S with bled := c } := zf_put (i := 2) kpNd rfl (show 2 < 7 by decide)
theorem kpLen (m pl bl : Addr) (S : KS) : (kpF m pl bl S).length < 1000 := by show 7 < 1000; decide
/-- what was there is there -/
def There (H H' : Hp) : Prop := ∀ b o, H b = some o → ∃ o', H' b = some o'
theorem There.free {H H' : Hp} (h : There H H') {a : Addr} (e : H' a = none) : H a = none := by
  cases q : H a with
  | none => rfl
  | some o =>
    obtain ⟨o', z⟩ := h a o q
    rw [z] at e; cases e
theorem There.of {H H' : Hp} (s : Same H H') : There H H' := fun b o e => ⟨o, s b o e⟩
theorem There.trans {H H1 H2 : Hp} (a : There H H1) (b : There H1 H2) : There H H2 := fun c o e => let ⟨o', e'⟩ := a c o e; b c o' e'
theorem There.upd {H : Hp} {p : Addr} {o : HO} : There H (upd H p o) := fun b u e => by
  by_cases hb : b = p
  · exact ⟨o, by rw [hb]; exact upd_same⟩
  · exact ⟨u, by rw [upd_ne hb]; exact e⟩
theorem There.b {k : Addr} {H H' : Hp} {o : HO} (s : SameB k H H') (hk : H' k = some o) : There H H' := fun b u e => by
  by_cases hb : b = k
  · exact ⟨o, by rw [hb]; exact hk⟩
  · exact ⟨u, s b u e hb⟩
section
variable {W : Addr → Prop} {P : Program} {w : World} {K : PySem.W.Frag} {mg : Str → Option Value} {base : Heap} {CM CK CL aN aR : Addr}
/-- an attribute of a keeper is read -/
theorem fldK (T : Txt K mg CM CK CL aN aR) {H : Hp} {k dx m l mdx pl bl : Addr} {as : List Addr} {S : KS} (h : KpAt CM CK W H k dx m l mdx pl bl as S) (i : Nat) {x : Str} {v : V} (hx : kpKeys[i]? = some x) (hv : (kpVals m pl bl S)[i]? = some v) {R : V → Prop} (q : R v) :
    ∃ a C dx fs w, V.ref k = V.ref a ∧ H a = some (.ins C dx fs) ∧ Cls K C ∧ NoAttr K C x ∧ fs.lookup x = some w ∧ R w :=
  ⟨k, CK, dx, _, v, rfl, h.ob, T.cl_Keeper, T.no_Keeper x (List.mem_of_getElem? hx), zf_look kpNd hx hv, q⟩
/-- an attribute of a keeper is set -/
theorem setK (T : Txt K mg CM CK CL aN aR) {H : Hp} {k dx m l mdx pl bl : Addr} {as : List Addr} {S : KS} (h : KpAt CM CK W H k dx m l mdx pl bl as S) (i : Nat) {x : Str} (hx : kpKeys[i]? = some x) {y : V} {R : Hp → Prop} (q : R (upd H k (.ins CK dx (putF x y (kpF m pl bl S))))) :
    ∃ a C dx fs, V.ref k = V.ref a ∧ H a = some (.ins C dx fs) ∧ Cls K C ∧ NoAttr K C x ∧ fs.length < 1000 ∧ R (upd H a (.ins C dx (putF x y fs))) :=
  ⟨k, CK, dx, _, rfl, h.ob, T.cl_Keeper, T.no_Keeper x (List.mem_of_getElem? hx), kpLen _ _ _ _, q⟩
def sp_flows (CM CK : Addr) (W : Addr → Prop) : Sp := fun vs H Q _ => ∃ (k : Addr) (S : KS) (i : Int), vs = [.ref k, .int i] ∧ KAt CM CK W H k S ∧ Q (.bl (longK S i)) H
theorem d_flows (T : Txt K mg CM CK CL aN aR) : Df P w K mg base "flows_though_long_open" 1 ["keeper", "measured"] (sp_flows CM CK W) := T.d_flows_though_long_open.df fun f fd F => by
  refine F.ok sc_flows_though_long_open (fun vs H Q E h => ?_) (fun cdv A outer s H vs Q E hr h => ?_)
  · obtain ⟨k, S, i, rfl, _⟩ := h; rfl
  · obtain ⟨k, S, i, rfl, ⟨dx, m, l, mdx, pl, bl, as, h⟩, q⟩ := h
    refine ⟨_, (pss_one (ps_ret (pe_and (pe_cmpR op_gt (pe_fld (pv 0) rfl) (pe_fld (pe_fld (pv 0) rfl) rfl) (nomark _)) (pe_one (pe_cmpR op_gt (pe_callB call_abs (by rfl) T.n_abs bt_abs (pa_cons (pv 1) pa_nil)) (pe_fld (pe_fld (pv 0) rfl) rfl) (nomark _)))))), ?_⟩
    refine ⟨_, rfl, fldK T h 6 rfl rfl ⟨_, rfl, fldK T h 0 rfl rfl (fldM T h.mak 1 rfl rfl ⟨_, _, rfl, rfl, _, rfl, ?_⟩)⟩⟩
    unfold longK at q
    refine chk (fun c => ?_) fun c => ?_
    · rw [decide_eq_true c, Bool.true_and] at q
      exact ⟨_, rfl, _, rfl, _, rfl, fldK T h 0 rfl rfl (fldM T h.mak 11 rfl rfl ⟨_, _, rfl, rfl, q⟩)⟩
    · rw [decide_eq_false c, Bool.false_and] at q
      exact q
def sp_fill (CM CK : Addr) (W : Addr → Prop) : Sp := fun vs H Q _ => ∃ (k : Addr) (S : KS) (link volt : Int), vs = [.ref k, .int link, .int volt] ∧ KAt CM CK W H k S ∧ ∀ H', KAt CM CK W H' k (fillK S link volt) → SameB k H H' → Q .non H'
theorem d_fill (T : Txt K mg CM CK CL aN aR) : Df P w K mg base "fill" 1 ["keeper", "link", "voltage"] (sp_fill CM CK W) := T.d_fill.df fun f fd F => by
  refine F.ok sc_fill (fun vs H Q E h => ?_) (fun cdv A outer s H vs Q E hr h => ?_)
  · obtain ⟨k, S, link, volt, rfl, _⟩ := h; rfl
  · obtain ⟨k, S, link, volt, rfl, ⟨dx, m, l, mdx, pl, bl, as, h⟩, q⟩ := h
    refine ⟨_, (pss_cons (ps_if (pt_cmpR op_ge (pe_op op_mul pe_int (pv 1)) (pe_op op_mul pe_int (pv 2)) (nomark _)) (pss_cons (ps_fld (pv 0) (pe_gint rfl T.g_CLOSED) rfl) (pss_one ps_retN)) pss_nil) (pss_cons (ps_fldaug (pv 0) pe_int in_add) (pss_one (ps_if (pt_cmpR op_eq (pe_fld (pv 0) rfl) (pe_fld (pe_fld (pv 0) rfl) rfl) (nomark _)) (pss_one (ps_fld (pv 0) (pe_gint rfl T.g_BROKEN) rfl)) pss_nil)))), ?_⟩
    refine ⟨_, rfl, _, _, rfl, rfl, .inl ⟨by decide, by decide⟩, _, rfl, _, _, rfl, rfl, .inl ⟨by decide, by decide⟩, _, _, rfl, rfl, _, rfl, chk (fun c => ?_) fun c => ?_⟩
    · have e : fillK S link volt = { S with sw := 2 } := if_pos c
      rw [e] at q
      refine ⟨_, rfl, setK T h 4 rfl (q _ ?_ sameB_upd)⟩
      exact ⟨dx, m, l, mdx, pl, bl, as, h.turn (put4 _ _ _ _ _) rfl h.pl h.tup h.bl h.ww.2.1 h.ww.2.2⟩
    · have h1 : KpAt CM CK W (upd H k (.ins CK dx (putF "filling_ticks" (.int (S.f + 1)) (kpF m pl bl S)))) k dx m l mdx pl bl as { S with f := S.f + 1 } := h.turn (put5 _ _ _ _ _) rfl h.pl h.tup h.bl h.ww.2.1 h.ww.2.2
      refine ⟨_, rfl, k, CK, dx, _, _, rfl, h.ob, T.cl_Keeper, T.no_Keeper _ (List.mem_of_getElem? (i := 5) rfl), zf_look (i := 5) kpNd rfl rfl, _, _, rfl, rfl, dx, _, h.ob, kpLen _ _ _ _, ?_⟩
      refine ⟨_, rfl, fldK T h1 5 rfl rfl ⟨_, rfl, fldK T h1 0 rfl rfl (fldM T h1.mak 2 rfl rfl ⟨rfl, _, rfl, chk (fun c2 => ?_) fun c2 => ?_⟩)⟩⟩
      · have c2 := V.int.inj c2
        have e : fillK S link volt = { S with sw := 3, f := S.f + 1 } := by
          unfold fillK; rw [if_neg c, if_pos c2]
        rw [e] at q
        refine ⟨_, rfl, setK T h1 4 rfl (q _ ?_ (sameB_upd.trans sameB_upd))⟩
        exact ⟨dx, m, l, mdx, pl, bl, as, h1.turn (put4 _ _ _ _ _) rfl h1.pl h1.tup h1.bl h1.ww.2.1 h1.ww.2.2⟩
      · have c2 : ¬ S.f + 1 = S.m.fill := fun z => c2 (by rw [z])
        have e : fillK S link volt = { S with f := S.f + 1 } := by
          unfold fillK; rw [if_neg c, if_neg c2]
        rw [e] at q
        exact q _ ⟨dx, m, l, mdx, pl, bl, as, h1⟩ sameB_upd
def sp_good (CM CK : Addr) (W : Addr → Prop) : Sp := fun vs H Q _ => ∃ (k : Addr) (S : KS), vs = [.ref k] ∧ KAt CM CK W H k S ∧ KOk S ∧ ∀ H', Same H H' → Q (.bl (Kp115.good S.m S.cells)) H'
theorem tups_at {H : Hp} {as : List Addr} {ps : List Pr} (h : TupsAt H as ps) {i : Nat} {x : V} (hx : (as.map V.ref)[i]? = some x) : ∃ a p, x = .ref a ∧ as[i]? = some a ∧ ps[i]? = some p ∧ TupAt H a p := by
  rw [List.getElem?_map] at hx
  cases e : as[i]? with
  | none => rw [e] at hx; cases hx
  | some a =>
    rw [e] at hx
    have hi : i < as.length := (List.getElem?_eq_some_iff.mp e).1
    have hi' : i < ps.length := by rw [← h.1]; exact hi
    have hp : ps[i]? = some ps[i] := List.getElem?_eq_getElem hi'
    exact ⟨a, _, (Option.some.inj hx).symm, rfl, hp, h.2 i a _ e hp⟩
theorem take_snoc {α : Type} {l : List α} {i : Nat} {x : α} (h : l[i]? = some x) : l.take (i + 1) = l.take i ++ [x] := by
  rw [List.take_succ, h]; rfl
theorem d_is_good (T : Txt K mg CM CK CL aN aR) : Df P w K mg base "is_good" 6 ["keeper"] (sp_good CM CK W) := T.d_is_good.df fun f fd F => by
  have D_is_safe : Df P w K mg base "is_safe" 5 _ _ := d_is_safe T
  refine F.ok sc_is_good (fun vs H Q E h => ?_) (fun cdv A outer s H vs Q E hr h => ?_)
  · obtain ⟨k, S, rfl, _⟩ := h; rfl
  · obtain ⟨k, S', rfl, ⟨dx, m, l, mdx, pl, bl, as, h⟩, ok, q⟩ := h
    have S := sc_is_good
    refine ⟨_, (pss_one (ps_ret (pe_callB (cr_all rfl) (by rfl) T.n_all bt_all (pa_cons (pe_lc (own := [("pair", 1)]) rfl S.nd (pi_list (pe_fld (pv 0) rfl)) (blkOk_by (by show blkC ["keeper", "pair"] (defScope s_is_good) _ _ = true; decide +kernel)) (fun _ _ _ _ _ => pg_name (i := 1) S.nd rfl (Or.inl rfl)) (fun _ _ _ _ _ => pts_nil) (fun _ _ _ _ _ => (pe_def D_is_safe (hr.mono (by decide)) rfl (pa_cons (pe_fldK K (pv 0) rfl) (pa_cons (pv 1) (pa_cons (pe_fldK K (pe_fldK K (pv 0) rfl) rfl) pa_nil)))))) pa_nil)))), ?_⟩
    refine ⟨_, rfl, fldK T h 1 rfl rfl ⟨pl, rfl, ⟨_, SqL.of h.pl⟩, fun D hD => lc_list (K := K) (a := pl) (xs := as.map V.ref) (fun i H' => H' = upd H D (.lst (((S'.cells.take i).map fun p => Kp114.safe S'.m p S'.m.wait).map V.bl))) rfl ?_ ?_ ?_⟩⟩
    · rintro i H' hi rfl
      exact SqL.of (by rw [upd_ne (ne_of_none h.pl hD)]; exact h.pl)
    · rintro i x H' hx rfl
      obtain ⟨a, p, rfl, e1, e2, ht⟩ := tups_at h.tup hx
      have sm : Same H (upd H D (.lst (((S'.cells.take i).map fun p => Kp114.safe S'.m p S'.m.wait).map V.bl))) := same_upd hD
      have h' := h.same sm
      have := ok.gm.w1; have := ok.gm.w2
      refine ⟨rfl, yesT ⟨_, rfl, fldK T h' 0 rfl rfl ⟨_, rfl, _, rfl, fldK T h' 0 rfl rfl (fldM T h'.mak 1 rfl rfl ⟨m, a, S'.m, p, _, rfl, ⟨l, mdx, h'.mak⟩, ok.gm, sm _ _ ht, ok.prs p (List.mem_of_getElem? e2), by omega, by omega, _, upd_same, ?_, ?_⟩)⟩⟩⟩
      · rw [List.length_map, List.length_map]
        have h1 : (S'.cells.take i).length ≤ S'.cells.length := by rw [List.length_take]; omega
        have h2 := ok.cl
        have h3 := ok.gm.c2
        exact Nat.lt_of_le_of_lt (by omega : _ ≤ 16) (by decide)
      · rw [upd_upd, take_snoc e2, List.map_append, List.map_append]
        rfl
    · rintro H' rfl
      refine ⟨D, _, rfl, SqL.of upd_same, ?_⟩
      have e : (((S'.cells.take (as.map V.ref).length).map fun p => Kp114.safe S'.m p S'.m.wait).all id) = Kp115.good S'.m S'.cells := by
        rw [List.length_map, List.take_of_length_le (by rw [h.tup.1]; exact Nat.le_refl _)]
        unfold Kp115.good
        rw [List.all_map]
        rfl
      rw [e]
      exact q _ (same_upd hD)
def sp_turn (CM CK : Addr) (W : Addr → Prop) : Sp := fun vs H Q _ => ∃ (k : Addr) (S : KS) (link volt : Int), vs = [.ref k, .int link, .int volt] ∧ KAt CM CK W H k S ∧ KOk S ∧ ∀ H', KAt CM CK W H' k (turnK S link volt) → SameB k H H' → Q .non H'
theorem d_turn_switch (T : Txt K mg CM CK CL aN aR) : Df P w K mg base "turn_switch" 7 ["keeper", "link", "voltage"] (sp_turn CM CK W) := T.d_turn_switch.df fun f fd F => by
  have D_is_good : Df P w K mg base "is_good" 6 _ _ := d_is_good T (W := W)
  have D_fill : Df P w K mg base "fill" 1 _ _ := d_fill T (W := W)
  refine F.ok sc_turn_switch (fun vs H Q E h => ?_) (fun cdv A outer s H vs Q E hr h => ?_)
  · obtain ⟨k, S, link, volt, rfl, _⟩ := h; rfl
  · obtain ⟨k, S', link, volt, rfl, ⟨dx, m, l, mdx, pl, bl, as, h⟩, ok, q⟩ := h
    have S := sc_turn_switch
    refine ⟨_, (pss_cons (ps_set (i := 3) S.nd rfl (Or.inl rfl) (pe_and (pe_fld (pv 0) rfl) (pe_one (pe_def D_is_good (hr.mono (by decide)) rfl (pa_cons (pv 0) pa_nil))))) (pss_one (ps_if (pt_cmpR op_eq (pe_fld (pv 0) rfl) (pe_gint rfl T.g_OPEN) (nomark _)) (pss_one (ps_if (pt_val (pv 3)) (pss_cons (ps_fld (pv 0) (pe_gint rfl T.g_FILLING) rfl) (pss_one (ps_fld (pv 0) pe_int rfl))) pss_nil)) (pss_one (ps_if (pt_not (pt_val (pv 3))) (pss_one (ps_fld (pv 0) (pe_gint rfl T.g_OPEN) rfl)) (pss_one (ps_if (pt_cmpR op_eq (pe_fld (pv 0) rfl) (pe_gint rfl T.g_FILLING) (nomark _)) (pss_one (ps_expr (pe_def D_fill (hr.mono (by decide)) rfl (pa_cons (pv 0) (pa_cons (pv 1) (pa_cons (pv 2) pa_nil)))))) pss_nil))))))), ?_⟩
    have q0 : ∀ H1, Same H H1 → turnK S' link volt = S' → Q .non H1 := fun H1 sm e => q H1 (by rw [e]; exact ⟨dx, m, l, mdx, pl, bl, as, h.same sm⟩) (SameB.of sm)
    refine ⟨_, rfl, fldK T h 3 rfl rfl ⟨_, rfl, ite2 (fun cA => ?_) fun cA => ?_⟩⟩
    · refine ⟨_, rfl, k, S', rfl, ⟨dx, m, l, mdx, pl, bl, as, h⟩, ok, fun H1 sm => ?_⟩
      have h' := h.same sm
      refine ⟨_, rfl, fldK T h' 4 rfl rfl ⟨rfl, _, rfl, chk (fun c => ?_) fun c => ?_⟩⟩
      · have c := V.int.inj c
        refine ⟨_, rfl, _, rfl, ite2 (fun cG => ?_) fun cG => ?_⟩
        · have e : turnK S' link volt = { S' with sw := 1, f := 0 } := by
            unfold turnK; rw [if_pos c, if_pos (by rw [cA, cG]; rfl)]
          rw [e] at q
          refine ⟨_, rfl, setK T h' 4 rfl ?_⟩
          have h2 : KpAt CM CK W (upd H1 k (.ins CK dx (putF "switch" (.int 1) (kpF m pl bl S')))) k dx m l mdx pl bl as { S' with sw := 1 } := h'.turn (put4 _ _ _ _ _) rfl h'.pl h'.tup h'.bl h'.ww.2.1 h'.ww.2.2
          refine ⟨_, rfl, setK T h2 5 rfl (q _ ⟨dx, m, l, mdx, pl, bl, as, h2.turn (put5 _ _ _ _ _) rfl h2.pl h2.tup h2.bl h2.ww.2.1 h2.ww.2.2⟩ ((SameB.of sm).trans (sameB_upd.trans sameB_upd)))⟩
        · exact q0 H1 sm (by unfold turnK; rw [if_pos c, if_neg (by rw [cA, Bool.true_and]; exact cG)])
      · have c : ¬ S'.sw = 0 := fun z => c (by rw [z])
        refine ⟨_, rfl, _, rfl, ite2 (fun cG => ?_) fun cG => ?_⟩
        · have cG : ¬ Kp115.good S'.m S'.cells = true := by simpa using cG
          have e : turnK S' link volt = { S' with sw := 0 } := by
            unfold turnK; rw [if_neg c, if_neg (by rw [cA, Bool.true_and]; exact cG)]
          rw [e] at q
          exact ⟨_, rfl, setK T h' 4 rfl (q _ ⟨dx, m, l, mdx, pl, bl, as, h'.turn (put4 _ _ _ _ _) rfl h'.pl h'.tup h'.bl h'.ww.2.1 h'.ww.2.2⟩ ((SameB.of sm).trans sameB_upd))⟩
        · have cG : Kp115.good S'.m S'.cells = true := by simpa using cG
          refine ⟨_, rfl, fldK T h' 4 rfl rfl ⟨rfl, _, rfl, chk (fun c2 => ?_) fun c2 => ?_⟩⟩
          · have c2 := V.int.inj c2
            have e : turnK S' link volt = fillK S' link volt := by
              unfold turnK; rw [if_neg c, if_pos (by rw [cA, cG]; rfl), if_pos c2]
            rw [e] at q
            exact ⟨_, rfl, _, rfl, _, rfl, k, S', link, volt, rfl, ⟨dx, m, l, mdx, pl, bl, as, h'⟩, fun H2 h2 s2 => q H2 h2 ((SameB.of sm).trans s2)⟩
          · have c2 : ¬ S'.sw = 1 := fun z => c2 (by rw [z])
            exact q0 H1 sm (by unfold turnK; rw [if_neg c, if_pos (by rw [cA, cG]; rfl), if_neg c2])
    · have cF : ¬ (S'.asked && Kp115.good S'.m S'.cells) = true := by rw [Bool.eq_false_iff.mpr cA, Bool.false_and]; decide
      refine ⟨_, rfl, fldK T h 4 rfl rfl ⟨rfl, _, rfl, chk (fun c => ?_) fun c => ?_⟩⟩
      · have c := V.int.inj c
        exact ⟨_, rfl, _, rfl, iteF (q0 H (Same.refl H) (by unfold turnK; rw [if_pos c, if_neg cF]))⟩
      · have c : ¬ S'.sw = 0 := fun z => c (by rw [z])
        have e : turnK S' link volt = { S' with sw := 0 } := by
          unfold turnK; rw [if_neg c, if_neg cF]
        rw [e] at q
        exact ⟨_, rfl, _, rfl, iteT ⟨_, rfl, setK T h 4 rfl (q _ ⟨dx, m, l, mdx, pl, bl, as, h.turn (put4 _ _ _ _ _) rfl h.pl h.tup h.bl h.ww.2.1 h.ww.2.2⟩ sameB_upd)⟩⟩
def sp_bleed (CM CK : Addr) (W : Addr → Prop) : Sp := fun vs H Q _ => ∃ (k : Addr) (S : KS), vs = [.ref k] ∧ KAt CM CK W H k S ∧ KOk S ∧ ∀ (b : Addr) (H' : Hp), H b = none → Same H H' → H' b = some (.lst ((Kp115.bleeds S.m S.cells).map V.bl)) → Q (.ref b) H'
theorem d_cells_to_bleed (T : Txt K mg CM CK CL aN aR) : Df P w K mg base "cells_to_bleed" 4 ["keeper"] (sp_bleed CM CK W) := T.d_cells_to_bleed.df fun f fd F => by
  have D_greatest_fall : Df P w K mg base "greatest_fall" 3 _ _ := d_greatest_fall T
  refine F.ok sc_cells_to_bleed (fun vs H Q E h => ?_) (fun cdv A outer s H vs Q E hr h => ?_)
  · obtain ⟨k, S, rfl, _⟩ := h; rfl
  · obtain ⟨k, S', rfl, ⟨dx, m, l, mdx, pl, bl, as, h⟩, ok, q⟩ := h
    have S := sc_cells_to_bleed
    have h16 : S'.cells.length ≤ 16 := by have h2 := ok.cl; have h3 := ok.gm.c2; omega
    have h1c : 0 < S'.cells.length := by have h2 := ok.cl; have h3 := ok.gm.c1; omega
    refine ⟨_, (pss_cons (ps_set (i := 1) S.nd rfl (Or.inr rfl) (pe_callB (cr_min rfl) (by rfl) T.n_min bt_min (pa_cons (pe_lc (own := [("pair", 2)]) rfl S.nd (pi_list (pe_fld (pv 0) rfl)) (blkOk_by (by show blkC ["keeper", "least_second", "pair", "fall"] (defScope s_cells_to_bleed) _ _ = true; decide +kernel)) (fun _ _ _ _ _ => pg_name (i := 2) S.nd rfl (Or.inl rfl)) (fun _ _ _ _ _ => pts_nil) (fun _ _ _ _ _ => (pe_ix (ix_tupK K) (pv 2) pe_int (fun _ _ => rfl)))) pa_nil))) (pss_cons (ps_set (i := 3) S.nd rfl (Or.inr rfl) (pe_def D_greatest_fall (hr.mono (by decide)) rfl (pa_cons (pe_fld (pv 0) rfl) pa_nil))) (pss_one (ps_ret (pe_lc (own := [("pair", 2)]) rfl S.nd (pi_list (pe_fld (pv 0) rfl)) (blkOk_by (by show blkC ["keeper", "least_second", "pair", "fall"] (defScope s_cells_to_bleed) _ _ = true; decide +kernel)) (fun _ _ _ _ _ => pg_name (i := 2) S.nd rfl (Or.inl rfl)) (fun _ _ _ _ _ => pts_nil) (fun _ _ _ _ _ => (pe_and (pe_cmpR op_gt (pe_ix (ix_tupK K) (pv 2) pe_int (fun _ _ => rfl)) (pv 1) (nomark _)) (pe_one (pe_cmpR op_ge (pe_ix (ix_tupK K) (pv 2) pe_int (fun _ _ => rfl)) (pv 3) (nomark _)))))))))), ?_⟩
    refine ⟨_, rfl, fldK T h 1 rfl rfl ⟨pl, rfl, ⟨_, SqL.of h.pl⟩, fun D hD => lc_list (K := K) (a := pl) (xs := as.map V.ref) (fun i H' => H' = upd H D (.lst (((S'.cells.take i).map fun p => p.hi).map V.int))) rfl ?_ ?_ ?_⟩⟩
    · rintro i H' hi rfl
      exact SqL.of (by rw [upd_ne (ne_of_none h.pl hD)]; exact h.pl)
    · rintro i x H' hx rfl
      obtain ⟨a, p, rfl, e1, e2, ht⟩ := tups_at h.tup hx
      have sm : Same H (upd H D (.lst (((S'.cells.take i).map fun p => p.hi).map V.int))) := same_upd hD
      refine ⟨rfl, yesT ⟨_, rfl, _, _, _, _, rfl, rfl, SqT.of (sm _ _ ht), rfl, _, upd_same, ?_, ?_⟩⟩
      · rw [List.length_map, List.length_map]
        have h1 : (S'.cells.take i).length ≤ S'.cells.length := by rw [List.length_take]; omega
        exact Nat.lt_of_le_of_lt (by omega : _ ≤ 16) (by decide)
      · rw [upd_upd, take_snoc e2, List.map_append, List.map_append]
        rfl
    · rintro H' rfl
      have sm : Same H (upd H D (.lst (((S'.cells.take (as.map V.ref).length).map fun p => p.hi).map V.int))) := same_upd hD
      have eT : S'.cells.take (as.map V.ref).length = S'.cells := by
        rw [List.length_map, List.take_of_length_le (by rw [h.tup.1]; exact Nat.le_refl _)]
      refine ⟨D, _, rfl, SqL.of upd_same, by rw [eT, List.length_map]; exact h1c, fun mn q1 q2 => ?_⟩
      rw [eT] at q1 q2
      have h' := h.same sm
      refine ⟨_, rfl, fldK T h' 0 rfl rfl ⟨m, S'.m, rfl, ⟨l, mdx, h'.mak⟩, ok.gm, ?_⟩⟩
      refine ⟨_, rfl, fldK T h' 1 rfl rfl ⟨pl, rfl, ⟨_, SqL.of h'.pl⟩, fun D2 hD2 => ?_⟩⟩
      generalize upd H D (.lst (((S'.cells.take (as.map V.ref).length).map fun p => p.hi).map V.int)) = H1 at sm h' hD2
      have gb : ∀ p : Pr, (decide (mn < p.lo) && decide (Kp114.fall S'.m ≤ p.lo)) = (decide (Kp114.fall S'.m ≤ p.lo) && S'.cells.any fun q => decide (q.hi < p.lo)) := bleed_eq q1 q2
      refine lc_list (K := K) (a := pl) (xs := as.map V.ref) (fun i H' => H' = upd H1 D2 (.lst (((S'.cells.take i).map fun p => (decide (mn < p.lo) && decide (Kp114.fall S'.m ≤ p.lo))).map V.bl))) rfl ?_ ?_ ?_
      · rintro i H' hi rfl
        exact SqL.of (by rw [upd_ne (ne_of_none h'.pl hD2)]; exact h'.pl)
      · rintro i x H' hx rfl
        obtain ⟨a, p, rfl, e1, e2, ht⟩ := tups_at h'.tup hx
        have sm2 : Same H1 (upd H1 D2 (.lst (((S'.cells.take i).map fun p => (decide (mn < p.lo) && decide (Kp114.fall S'.m ≤ p.lo))).map V.bl))) := same_upd hD2
        have fin : ∀ b : Bool, b = (decide (mn < p.lo) && decide (Kp114.fall S'.m ≤ p.lo)) → ∃ acc, upd H1 D2 (.lst (((S'.cells.take i).map fun p => (decide (mn < p.lo) && decide (Kp114.fall S'.m ≤ p.lo))).map V.bl)) D2 = some (.lst acc) ∧ acc.length < sizeLine ∧
            upd (upd H1 D2 (.lst (((S'.cells.take i).map fun p => (decide (mn < p.lo) && decide (Kp114.fall S'.m ≤ p.lo))).map V.bl))) D2 (.lst (acc ++ [.bl b])) = upd H1 D2 (.lst (((S'.cells.take (i + 1)).map fun p => (decide (mn < p.lo) && decide (Kp114.fall S'.m ≤ p.lo))).map V.bl)) := by
          intro b eb
          refine ⟨_, upd_same, ?_, ?_⟩
          · rw [List.length_map, List.length_map]
            have h1 : (S'.cells.take i).length ≤ S'.cells.length := by rw [List.length_take]; omega
            exact Nat.lt_of_le_of_lt (by omega : _ ≤ 16) (by decide)
          · rw [upd_upd, take_snoc e2, List.map_append, List.map_append, eb]
            rfl
        refine ⟨rfl, yesT ⟨_, rfl, _, _, _, _, rfl, rfl, SqT.of (sm2 _ _ ht), rfl, _, rfl, _, _, rfl, rfl, _, rfl, chk (fun c => ?_) fun c => ?_⟩⟩
        · exact ⟨_, rfl, _, _, _, _, rfl, rfl, SqT.of (sm2 _ _ ht), rfl, _, rfl, _, _, rfl, rfl, fin _ (by rw [decide_eq_true c, Bool.true_and])⟩
        · exact fin _ (by rw [decide_eq_false c, Bool.false_and])
      · rintro H' rfl
        refine q D2 _ (sm.free hD2) (sm.trans (same_upd hD2)) ?_
        rw [upd_same, eT]
        unfold Kp115.bleeds
        rw [List.map_congr_left (fun p _ => gb p)]
def sp_bits (CM CK : Addr) (W : Addr → Prop) : Sp := fun vs H Q _ => ∃ (k : Addr) (S : KS), vs = [.ref k] ∧ KAt CM CK W H k S ∧ KOk S ∧ ∀ H' : Hp, Same H H' → Q (.int (Kp115.mask S.bled)) H'
theorem d_bled_bits (T : Txt K mg CM CK CL aN aR) : Df P w K mg base "bled_bits" 1 ["keeper"] (sp_bits CM CK W) := T.d_bled_bits.df fun f fd F => by
  refine F.ok sc_bled_bits (fun vs H Q E h => ?_) (fun cdv A outer s H vs Q E hr h => ?_)
  · obtain ⟨k, S, rfl, _⟩ := h; rfl
  · obtain ⟨k, S', rfl, ⟨dx, m, l, mdx, pl, bl, as, h⟩, ok, q⟩ := h
    have S := sc_bled_bits
    have c1 := ok.gm.c1
    have c2 := ok.gm.c2
    have hb := ok.bl
    refine ⟨_, (pss_one (ps_ret (pe_callB (cr_sum rfl) (by rfl) T.n_sum bt_sum (pa_cons (pe_lc (own := [("k", 1)]) rfl S.nd (pi_range1 rfl T.n_range (pa_cons (pe_fld (pe_fld (pv 0) rfl) rfl) pa_nil)) (blkOk_by (by show blkC ["keeper", "k"] (defScope s_bled_bits) _ _ = true; decide +kernel)) (fun _ _ _ _ _ => pg_name (i := 1) S.nd rfl (Or.inl rfl)) (fun _ _ _ _ _ => (pts_one (pt_val (pe_ix (ix_listK K) (pe_fldK K (pv 0) rfl) (pv 1) (fun _ _ => rfl))))) (fun _ _ _ _ _ => (pe_op op_shl pe_int (pv 1)))) pa_nil)))), ?_⟩
    refine ⟨_, rfl, fldK T h 0 rfl rfl (fldM T h.mak 0 rfl rfl ⟨S'.m.cells, rfl, by omega, by omega, fun D hD => lc_range (lo := 0) (n := S'.m.cells.toNat) (fun i H' => H' = upd H D (.lst ((bitsTo S'.bled i).map V.int))) rfl ?_ ?_⟩)⟩
    · rintro i H' hi rfl
      have sm : Same H (upd H D (.lst ((bitsTo S'.bled i).map V.int))) := same_upd hD
      have h' := h.same sm
      have hbi : S'.bled[i]? = some (S'.bled.getD i false) := by
        rw [List.getD_eq_getElem?_getD, List.getElem?_eq_getElem (by omega)]; rfl
      refine ⟨rfl, _, rfl, fldK T h' 2 rfl rfl ⟨_, rfl, _, _, _, _, rfl, rfl, SqL.of h'.bl, at_of (j := i) (v := .bl (S'.bled.getD i false)) (by omega) (by rw [List.getElem?_map, hbi]; rfl), _, rfl, ite2 (fun c => ?_) fun c => ?_⟩⟩
      · refine ⟨_, rfl, _, _, rfl, rfl, ⟨by omega, by omega, by decide⟩, _, upd_same, ?_, ?_⟩
        · rw [List.length_map]
          have := bitsTo_len S'.bled i
          exact Nat.lt_of_le_of_lt (by omega : _ ≤ 16) (by decide)
        · rw [upd_upd, bitsTo_succ, if_pos c, List.map_append]
          have e : (1 : Int) * 2 ^ (0 + (i : Int)).toNat = 2 ^ i := by
            rw [Int.one_mul, Int.zero_add]; rfl
          dsimp only
          rw [e]
          rfl
      · show upd H D _ = upd H D _
        rw [bitsTo_succ, if_neg c]
    · rintro H' rfl
      refine ⟨D, _, rfl, SqL.of upd_same, ?_⟩
      have e : (bitsTo S'.bled S'.m.cells.toNat).sum = Kp115.mask S'.bled := by rw [← hb]; exact mask_eq _
      rw [e]
      exact q _ (same_upd hD)
end
end BK
end
section
set_option Elab.async false
set_option linter.all false
set_option maxRecDepth 100000
set_option maxHeartbeats 4000000
namespace BK
open PySem L2
open Kp113 (Make Pr falls fallsLeast within iLow iHigh point isMake goodMake)
theorem There.t {Pt : Addr} {H H' : Hp} (s : SameT Pt H H') (ht : TabOk Pt H') : There H H' := fun b u e => by
  by_cases hb : b = Pt
  · obtain ⟨ps, h, _⟩ := ht
    exact ⟨_, by rw [hb]; exact h⟩
  · exact ⟨u, s b u e hb⟩
section
variable {W : Addr → Prop} {P : Program} {w : World} {K : PySem.W.Frag} {mg : Str → Option Value} {base : Heap} {CM CK CL aN aR : Addr}
def PrsV (H0 H : Hp) (x : V) : Option (List Pr) → Prop
  | none => x = .non
  | some l => ∃ b as, x = .ref b ∧ H0 b = none ∧ H b = some (.lst (as.map V.ref)) ∧ TupsAt H as l
def sp_pairs (CM CK : Addr) (W : Addr → Prop) : Sp := fun vs H Q _ => ∃ (k vl : Addr) (S : KS) (i : Int) (v : List Int), vs = [.ref k, .int i, .ref vl] ∧ KAt CM CK W H k S ∧ KOk S ∧ H vl = some (.lst (v.map V.int)) ∧ v.length = S.cells.length ∧ ∀ x H', Same H H' → PrsV H H' x (cellsK S i v) → Q x H'
theorem TupsAt.snoc {H : Hp} {as : List Addr} {ps : List Pr} {a : Addr} {p : Pr} (h : TupsAt H as ps) (ha : TupAt H a p) : TupsAt H (as ++ [a]) (ps ++ [p]) := by
  refine ⟨by rw [List.length_append, List.length_append, h.1]; rfl, fun j b q e1 e2 => ?_⟩
  by_cases hj : j < as.length
  · rw [List.getElem?_append_left hj] at e1
    rw [List.getElem?_append_left (by rw [← h.1]; exact hj)] at e2
    exact h.2 j b q e1 e2
  · rw [List.getElem?_append_right (by omega)] at e1
    rw [List.getElem?_append_right (by rw [← h.1]; omega)] at e2
    have hl := h.1
    cases hz : j - as.length with
    | zero =>
      rw [hz] at e1
      rw [← hl, hz] at e2
      cases e1; cases e2
      exact ha
    | succ n =>
      rw [hz] at e1
      simp at e1
theorem d_pairs_behind (T : Txt K mg CM CK CL aN aR) : Df P w K mg base "pairs_behind" 4 ["keeper", "measured", "voltages"] (sp_pairs CM CK W) := T.d_pairs_behind.df fun f fd F => by
  have D_seen : Df P w K mg base "seen" 3 _ _ := d_seen T
  have D_step : Df P w K mg base "step" 3 _ _ := d_step T
  refine F.ok sc_pairs_behind (fun vs H Q E h => ?_) (fun cdv A outer s H vs Q E hr h => ?_)
  · obtain ⟨k, vl, S, i, v, rfl, _⟩ := h; rfl
  · obtain ⟨k, vl, S', i, v, rfl, ⟨dx, m, l, mdx, pl, bl, as, h⟩, ok, hv, hvl, q⟩ := h
    have S := sc_pairs_behind
    have c1 := ok.gm.c1
    have c2 := ok.gm.c2
    have hcl := ok.cl
    have hbl := ok.bl
    refine ⟨_, (pss_cons (ps_set (i := 3) S.nd rfl (Or.inl rfl) (pe_lst pa_nil)) (pss_cons (ps_for PassesOwn.never rfl (pi_range1 rfl T.n_range (pa_cons (pe_fld (pe_fld (pv 0) rfl) rfl) pa_nil)) (pg_name (i := 4) S.nd rfl (Or.inl rfl)) (pss_cons (ps_set (i := 5) S.nd rfl (Or.inl rfl) (pe_def D_seen (hr.mono (by decide)) rfl (pa_cons (pe_fld (pv 0) rfl) (pa_cons (pe_ix ix_list (pe_fld (pv 0) rfl) (pv 4) (fun _ _ => rfl)) (pa_cons (pv 1) (pa_cons (pe_ix ix_list (pv 2) (pv 4) (fun _ _ => rfl)) pa_nil)))))) (pss_cons (ps_if (pt_cmpR op_isN (pv 5) pe_non (nomark _)) (pss_one (ps_ret pe_non)) pss_nil) (pss_cons (ps_set (i := 5) S.nd rfl (Or.inl rfl) (pe_def D_step (hr.mono (by decide)) rfl (pa_cons (pe_fld (pv 0) rfl) (pa_cons (pv 5) (pa_cons (pv 1) (pa_cons (pe_ix ix_list (pe_fld (pv 0) rfl) (pv 4) (fun _ _ => rfl)) pa_nil)))))) (pss_cons (ps_if (pt_cmpR op_isN (pv 5) pe_non (nomark _)) (pss_one (ps_ret pe_non)) pss_nil) (pss_one (ps_expr (pe_bm PySem.F.plainAttrs_list PySem.F.slot_list_append PySem.F.type_list_append mt_append (pv 3) (pa_cons (pv 5) pa_nil))))))))) (pss_one (ps_ret (pv 3))))), ?_⟩
    refine ⟨(by show 0 ≤ sizeLine; decide), fun D hD => ?_⟩
    have sm0 : Same H (upd H D (.lst [])) := same_upd hD
    have h0 := h.same sm0
    refine ⟨_, rfl, fldK T h0 0 rfl rfl (fldM T h0.mak 0 rfl rfl ⟨S'.m.cells, rfl, by omega, by omega, ?_⟩)⟩
    refine for_range (lo := 0) (n := S'.m.cells.toNat) (fun j σ H' => ∃ (cs : List Pr) (bs : List Addr) (v4 v5 : Option V), Kp115.every ((List.range j).map (cellK S' i v)) = some cs ∧ TupsAt H' bs cs ∧ H' D = some (.lst (bs.map V.ref)) ∧ Same H H' ∧ σ = [some (.ref k), some (.int i), some (.ref vl), some (.ref D), v4, v5])
      ⟨[], [], none, none, rfl, ⟨rfl, fun j a p e _ => by simp at e⟩, upd_same, sm0, rfl⟩ ?_ ?_
    · rintro j σ H1 hj ⟨cs, bs, v4, v5, he, ht, hD1, sm, rfl⟩
      have h1 := h.same sm
      have hjc : j < S'.cells.length := by omega
      have hja : j < as.length := by rw [h.tup.1]; exact hjc
      have ea : as[j]? = some as[j] := List.getElem?_eq_getElem hja
      have ep : S'.cells[j]? = some S'.cells[j] := List.getElem?_eq_getElem hjc
      have ev : v[j]? = some v[j] := List.getElem?_eq_getElem (by omega)
      have eb : S'.bled[j]? = some S'.bled[j] := List.getElem?_eq_getElem (by omega)
      have tp := h1.tup.2 j _ _ ea ep
      have eK : cellK S' i v j = (Kp113.seen S'.m S'.cells[j] i v[j]).bind fun p => Kp113.step S'.m p i S'.bled[j] := by
        unfold cellK Kp115.cellTick
        rw [List.getD_eq_getElem?_getD, List.getD_eq_getElem?_getD, List.getD_eq_getElem?_getD, ep, ev, eb]
        rfl
      refine ⟨_, rfl, fldK T h1 0 rfl rfl ⟨_, rfl, fldK T h1 1 rfl rfl ⟨_, rfl, _, _, _, _, rfl, rfl, SqL.of h1.pl, at_of (j := j) (v := .ref as[j]) (by omega) (by rw [List.getElem?_map, ea]; rfl), _, rfl, _, rfl, _, rfl, _, _, _, _, rfl, rfl, SqL.of (sm _ _ hv), at_of (j := j) (v := .int v[j]) (by omega) (by rw [List.getElem?_map, ev]; rfl),
        m, as[j], S'.m, S'.cells[j], i, v[j], rfl, ⟨l, mdx, h1.mak⟩, ok.gm, tp, fun x H2 sm2 hx => ?_⟩⟩⟩
      refine ⟨_, rfl, rfl, _, rfl, ?_⟩
      cases es : Kp113.seen S'.m S'.cells[j] i v[j] with
      | none =>
        rw [es] at hx
        have hx : x = .non := hx
        subst hx
        refine iteT (q _ _ (sm.trans sm2) ?_)
        rw [cells_none hjc (by rw [eK, es]; rfl)]
        exact rfl
      | some p1 =>
        rw [es] at hx
        obtain ⟨a1, rfl, ht1⟩ := hx
        have h2 := h1.same sm2
        refine iteF ?_
        refine ⟨_, rfl, fldK T h2 0 rfl rfl ⟨_, rfl, _, rfl, _, rfl, fldK T h2 2 rfl rfl ⟨_, rfl, _, _, _, _, rfl, rfl, SqL.of h2.bl, at_of (j := j) (v := .bl S'.bled[j]) (by omega) (by rw [List.getElem?_map, eb]; rfl),
          m, a1, S'.m, p1, i, S'.bled[j], rfl, ⟨l, mdx, h2.mak⟩, ok.gm, ht1, fun x H3 sm3 hx3 => ?_⟩⟩⟩
        refine ⟨_, rfl, rfl, _, rfl, ?_⟩
        cases es2 : Kp113.step S'.m p1 i S'.bled[j] with
        | none =>
          rw [es2] at hx3
          have hx3 : x = .non := hx3
          subst hx3
          refine iteT (q _ _ ((sm.trans sm2).trans sm3) ?_)
          rw [cells_none hjc (by rw [eK, es]; exact es2)]
          exact rfl
        | some p2 =>
          rw [es2] at hx3
          obtain ⟨a2, rfl, ht2⟩ := hx3
          refine iteF ?_
          have hD3 := sm3 _ _ (sm2 _ _ hD1)
          have lb : bs.length ≤ 16 := by
            rw [ht.1, every_len he, List.length_map, List.length_range]; omega
          refine ⟨_, rfl, .inl ⟨rfl, _, SqL.of hD3⟩, _, rfl, D, _, _, rfl, rfl, hD3, ?_, ?_⟩
          · rw [List.length_map]
            exact Nat.lt_of_le_of_lt lb (by decide)
          · have nT : ∀ b xs, H3 b = some (.tup xs) → upd H3 D (.lst (bs.map V.ref ++ [V.ref a2])) b = some (.tup xs) := fun b xs e => by
              rw [upd_ne (ne_of e hD3 nofun)]; exact e
            refine ⟨cs ++ [p2], bs ++ [a2], _, _, ?_, ?_, ?_, ?_, rfl⟩
            · rw [List.range_succ, List.map_append]
              show Kp115.every (_ ++ [cellK S' i v j]) = _
              rw [eK, es]
              show Kp115.every (_ ++ [Kp113.step S'.m p1 i S'.bled[j]]) = _
              rw [es2]
              exact every_snoc he
            · exact TupsAt.snoc (ht.but fun b xs e => nT _ _ (sm3 _ _ (sm2 _ _ e))) (nT _ _ ht2)
            · rw [upd_same, List.map_append]; rfl
            · intro b o e
              rw [upd_ne (ne_of_none e hD)]
              exact sm3 _ _ (sm2 _ _ (sm _ _ e))
    · rintro σ H1 ⟨cs, bs, v4, v5, he, ht, hD1, sm, rfl⟩
      refine ⟨_, rfl, q _ _ sm ?_⟩
      have e : cellsK S' i v = some cs := by
        unfold cellsK; rw [hcl]; exact he
      rw [e]
      exact ⟨D, bs, rfl, hD, hD1, ht⟩
theorem turnK_same (S : KS) (link volt : Int) : (turnK S link volt).m = S.m ∧ (turnK S link volt).cells = S.cells ∧ (turnK S link volt).bled = S.bled := by
  unfold turnK fillK
  repeat' split
  all_goals exact ⟨rfl, rfl, rfl⟩
theorem goK_m (S : KS) (i link : Int) (v : List Int) : (goK S i link v).m = S.m := by
  unfold goK afterK
  split
  · rfl
  · split
    · rfl
    · split
      · exact (turnK_same _ _ _).1
      · exact (turnK_same _ _ _).1
def sp_go (CM CK : Addr) (W : Addr → Prop) (g : KS → Int → Int → List Int → KS) : Sp := fun vs H Q _ => ∃ (k vl : Addr) (S : KS) (i link : Int) (v : List Int), vs = [.ref k, .int i, .int link, .ref vl] ∧ KAt CM CK W H k S ∧ KOk S ∧ H vl = some (.lst (v.map V.int)) ∧ v.length = S.cells.length ∧ (∀ b, H b = none → W b) ∧
  ∀ H', KAt CM CK W H' k (g S i link v) → SameB k H H' → Q .non H'
theorem d_go_on (T : Txt K mg CM CK CL aN aR) : Df P w K mg base "go_on" 8 ["keeper", "measured", "link", "voltages"] (sp_go CM CK W goK) := T.d_go_on.df fun f fd F => by
  have D_flows_though_long_open : Df P w K mg base "flows_though_long_open" 1 _ _ := d_flows T (W := W)
  have D_pairs_behind : Df P w K mg base "pairs_behind" 4 _ _ := d_pairs_behind T (W := W)
  have D_turn_switch : Df P w K mg base "turn_switch" 7 _ _ := d_turn_switch T (W := W)
  have D_cells_to_bleed : Df P w K mg base "cells_to_bleed" 4 _ _ := d_cells_to_bleed T (W := W)
  refine F.ok sc_go_on (fun vs H Q E h => ?_) (fun cdv A outer s H vs Q E hr h => ?_)
  · obtain ⟨k, vl, S, i, link, v, rfl, _⟩ := h; rfl
  · obtain ⟨k, vl, S', i, link, v, rfl, ⟨dx, m, l, mdx, pl, bl, as, h⟩, ok, hv, hvl, fr, q⟩ := h
    have S := sc_go_on
    refine ⟨_, (pss_cons (ps_if (pt_val (pe_def D_flows_though_long_open (hr.mono (by decide)) rfl (pa_cons (pv 0) (pa_cons (pv 1) pa_nil)))) (pss_cons (ps_fld (pv 0) (pe_gint rfl T.g_BROKEN) rfl) (pss_one ps_retN)) pss_nil) (pss_cons (ps_set (i := 4) S.nd rfl (Or.inl rfl) (pe_def D_pairs_behind (hr.mono (by decide)) rfl (pa_cons (pv 0) (pa_cons (pv 1) (pa_cons (pv 3) pa_nil))))) (pss_cons (ps_if (pt_cmpR op_isN (pv 4) pe_non (nomark _)) (pss_cons (ps_fld (pv 0) (pe_gint rfl T.g_BROKEN) rfl) (pss_one ps_retN)) pss_nil) (pss_cons (ps_fld (pv 0) (pv 4) rfl) (pss_cons (ps_expr (pe_def D_turn_switch (hr.mono (by decide)) rfl (pa_cons (pv 0) (pa_cons (pv 2) (pa_cons (pe_callB (cr_sum rfl) (by rfl) T.n_sum bt_sum (pa_cons (pv 3) pa_nil)) pa_nil))))) (pss_cons (ps_if (pt_cmpR op_eq (pe_fld (pv 0) rfl) (pe_gint rfl T.g_BROKEN) (nomark _)) (pss_one ps_retN) pss_nil) (pss_cons (ps_fld (pv 0) (pe_def D_cells_to_bleed (hr.mono (by decide)) rfl (pa_cons (pv 0) pa_nil)) rfl) (pss_one (ps_fld (pv 0) (pe_ifExp (pt_cmpR op_eq (pe_fld (pv 0) rfl) (pe_gint rfl T.g_OPEN) (nomark _)) (pe_callB (call_min2 rfl) (by rfl) T.n_min bt_min (pa_cons (pe_op op_add (pe_fld (pv 0) rfl) pe_int) (pa_cons (pe_gint rfl T.g_MOST_OPEN_TICKS) pa_nil))) pe_int) rfl))))))))), ?_⟩
    refine ⟨_, rfl, _, rfl, k, S', i, rfl, ⟨dx, m, l, mdx, pl, bl, as, h⟩, _, rfl, ite2 (fun c => ?_) fun c => ?_⟩
    · have e : goK S' i link v = { S' with sw := 3 } := if_pos c
      rw [e] at q
      exact ⟨_, rfl, setK T h 4 rfl (q _ ⟨dx, m, l, mdx, pl, bl, as, h.turn (put4 _ _ _ _ _) rfl h.pl h.tup h.bl h.ww.2.1 h.ww.2.2⟩ sameB_upd)⟩
    · refine ⟨_, rfl, _, rfl, _, rfl, k, vl, S', i, v, rfl, ⟨dx, m, l, mdx, pl, bl, as, h⟩, ok, hv, hvl, fun x H1 sm hx => ?_⟩
      have h1 := h.same sm
      refine ⟨_, rfl, rfl, _, rfl, ?_⟩
      cases ec : cellsK S' i v with
      | none =>
        rw [ec] at hx
        have hx : x = .non := hx
        subst hx
        have e : goK S' i link v = { S' with sw := 3 } := by
          unfold goK; rw [if_neg c, ec]
        rw [e] at q
        exact iteT ⟨_, rfl, setK T h1 4 rfl (q _ ⟨dx, m, l, mdx, pl, bl, as, h1.turn (put4 _ _ _ _ _) rfl h1.pl h1.tup h1.bl h1.ww.2.1 h1.ww.2.2⟩ ((SameB.of sm).trans sameB_upd))⟩
      | some cs =>
        rw [ec] at hx
        obtain ⟨b, bs, rfl, fb, hb, htb⟩ := hx
        have e : goK S' i link v = afterK (turnK { S' with cells := cs } link v.sum) := by
          unfold goK; rw [if_neg c, ec]
        rw [e] at q
        obtain ⟨lc, pc⟩ := cells_ok ec
        refine iteF ⟨_, rfl, _, rfl, setK T h1 1 rfl ?_⟩
        have h2 : KpAt CM CK W (upd H1 k (.ins CK dx (putF "pairs" (.ref b) (kpF m pl bl S')))) k dx m l mdx b bl bs { S' with cells := cs } := h1.turn (put1 _ _ _ _ _ _) rfl hb htb h1.bl (fr b fb) h1.ww.2.2
        have ok2 : KOk { S' with cells := cs } := ⟨ok.gm, lc.trans ok.cl, ok.bl, pc⟩
        have nk : vl ≠ k := ne_of (sm _ _ hv) h1.ob nofun
        refine ⟨_, rfl, _, rfl, _, rfl, vl, v, rfl, SqL.of (by rw [upd_ne nk]; exact sm _ _ hv), k, { S' with cells := cs }, link, v.sum, rfl, ⟨dx, m, l, mdx, b, bl, bs, h2⟩, ok2, fun H3 hk3 s3 => ?_⟩
        have sB : SameB k H H3 := ((SameB.of sm).trans sameB_upd).trans s3
        obtain ⟨dx3, m3, l3, mdx3, pl3, bl3, as3, h3⟩ := hk3
        obtain ⟨tm, tc, tb⟩ := turnK_same { S' with cells := cs } link v.sum
        generalize turnK { S' with cells := cs } link v.sum = R at q h3 tm tc tb
        refine ⟨_, rfl, fldK T h3 4 rfl rfl ⟨rfl, _, rfl, chk (fun c3 => ?_) fun c3 => ?_⟩⟩
        · have c3 := V.int.inj c3
          have e3 : afterK R = R := if_pos c3
          rw [e3] at q
          exact q H3 ⟨dx3, m3, l3, mdx3, pl3, bl3, as3, h3⟩ sB
        · have c3 : ¬ R.sw = 3 := fun z => c3 (by rw [z])
          have e3 : afterK R = { R with bled := Kp115.bleeds R.m R.cells, o := if R.sw = 0 then (if 65535 < R.o + 1 then 65535 else R.o + 1) else 0 } := if_neg c3
          rw [e3] at q
          have ok3' : R.m = S'.m := tm
          have okc : R.cells = cs := tc
          have okR : KOk R := ⟨by rw [ok3']; exact ok.gm, by rw [okc, ok3', lc]; exact ok.cl, by rw [tb, ok3']; exact ok.bl, by rw [okc]; exact pc⟩
          refine ⟨_, rfl, k, R, rfl, ⟨dx3, m3, l3, mdx3, pl3, bl3, as3, h3⟩, okR, fun b4 H4 fb4 sm4 hb4 => ?_⟩
          have h4 := h3.same sm4
          refine ⟨_, rfl, setK T h4 2 rfl ?_⟩
          have h5 : KpAt CM CK W (upd H4 k (.ins CK dx3 (putF "bled" (.ref b4) (kpF m3 pl3 bl3 R)))) k dx3 m3 l3 mdx3 pl3 b4 as3 { R with bled := Kp115.bleeds R.m R.cells } := h4.turn (put2 _ _ _ _ _ _) rfl h4.pl h4.tup hb4 h4.ww.2.1 (fr b4 ((There.b sB h3.ob).free fb4))
          have sB5 : SameB k H (upd H4 k (.ins CK dx3 (putF "bled" (.ref b4) (kpF m3 pl3 bl3 R)))) := (sB.trans (SameB.of sm4)).trans sameB_upd
          refine ⟨_, rfl, fldK T h5 4 rfl rfl ⟨rfl, _, rfl, chk (fun c4 => ?_) fun c4 => ?_⟩⟩
          · have c4 : R.sw = 0 := V.int.inj c4
            rw [if_pos c4] at q
            exact ⟨_, rfl, fldK T h5 6 rfl rfl ⟨_, _, rfl, rfl, _, _, rfl, _, rfl, setK T h5 6 rfl (q _ ⟨dx3, m3, l3, mdx3, pl3, b4, as3, h5.turn (put6 _ _ _ _ _) rfl h5.pl h5.tup h5.bl h5.ww.2.1 h5.ww.2.2⟩ (sB5.trans sameB_upd))⟩⟩
          · have c4 : ¬ R.sw = 0 := fun z => c4 (by show V.int R.sw = _; rw [z])
            rw [if_neg c4] at q
            exact ⟨_, rfl, setK T h5 6 rfl (q _ ⟨dx3, m3, l3, mdx3, pl3, b4, as3, h5.turn (put6 _ _ _ _ _) rfl h5.pl h5.tup h5.bl h5.ww.2.1 h5.ww.2.2⟩ (sB5.trans sameB_upd))⟩
theorem repB (n : Nat) : (List.replicate n [V.bl false]).flatten = (List.replicate n false).map V.bl := by
  induction n with
  | zero => rfl
  | succ n ih => rw [List.replicate_succ, List.flatten_cons, ih, List.replicate_succ, List.map_cons]; rfl
theorem repR (n : Nat) (a : Addr) : (List.replicate n [V.ref a]).flatten = (List.replicate n a).map V.ref := by
  induction n with
  | zero => rfl
  | succ n ih => rw [List.replicate_succ, List.flatten_cons, ih, List.replicate_succ, List.map_cons]; rfl
theorem d_tick (T : Txt K mg CM CK CL aN aR) : Df P w K mg base "tick" 9 ["keeper", "measured", "link", "voltages"] (sp_go CM CK W tickK) := T.d_tick.df fun f fd F => by
  have D_go_on : Df P w K mg base "go_on" 8 _ _ := d_go_on T (W := W)
  refine F.ok sc_tick (fun vs H Q E h => ?_) (fun cdv A outer s H vs Q E hr h => ?_)
  · obtain ⟨k, vl, S, i, link, v, rfl, _⟩ := h; rfl
  · obtain ⟨k, vl, S', i, link, v, rfl, ⟨dx, m, l, mdx, pl, bl, as, h⟩, ok, hv, hvl, fr, q⟩ := h
    have S := sc_tick
    refine ⟨_, (pss_cons (ps_if (pt_cmpR op_eq (pe_fld (pv 0) rfl) (pe_gint rfl T.g_BROKEN) (nomark _)) (pss_one ps_retN) pss_nil) (pss_cons (ps_expr (pe_def D_go_on (hr.mono (by decide)) rfl (pa_cons (pv 0) (pa_cons (pv 1) (pa_cons (pv 2) (pa_cons (pv 3) pa_nil)))))) (pss_one (ps_if (pt_cmpR op_eq (pe_fld (pv 0) rfl) (pe_gint rfl T.g_BROKEN) (nomark _)) (pss_one (ps_fld (pv 0) (pe_op op_rep (pe_lst (pa_cons pe_bl pa_nil)) (pe_fld (pe_fld (pv 0) rfl) rfl)) rfl)) pss_nil)))), ?_⟩
    refine ⟨_, rfl, fldK T h 4 rfl rfl ⟨rfl, _, rfl, chk (fun c => ?_) fun c => ?_⟩⟩
    · have c := V.int.inj c
      have e : tickK S' i link v = S' := if_pos c
      rw [e] at q
      exact q H ⟨dx, m, l, mdx, pl, bl, as, h⟩ (SameB.of (Same.refl H))
    · have c : ¬ S'.sw = 3 := fun z => c (by rw [z])
      have e : tickK S' i link v = clearK (goK S' i link v) := if_neg c
      rw [e] at q
      refine ⟨_, rfl, _, rfl, _, rfl, _, rfl, k, vl, S', i, link, v, rfl, ⟨dx, m, l, mdx, pl, bl, as, h⟩, ok, hv, hvl, fr, fun H1 hk1 s1 => ?_⟩
      obtain ⟨dx1, m1, l1, mdx1, pl1, bl1, as1, h1⟩ := hk1
      have gm := goK_m S' i link v
      generalize goK S' i link v = R at q h1 gm
      refine ⟨_, rfl, fldK T h1 4 rfl rfl ⟨rfl, _, rfl, chk (fun c1 => ?_) fun c1 => ?_⟩⟩
      · have c1 := V.int.inj c1
        have e1 : clearK R = { R with bled := List.replicate R.m.cells.toNat false } := if_pos c1
        rw [e1] at q
        have g1 : R.m.cells ≤ 16 := by rw [gm]; exact ok.gm.c2
        have g2 : 1 ≤ R.m.cells := by rw [gm]; exact ok.gm.c1
        refine ⟨(by show 1 ≤ sizeLine; decide), fun b hb => ?_⟩
        have sm1 : Same H1 (upd H1 b (.lst [V.bl false])) := same_upd hb
        have h2 := h1.same sm1
        refine ⟨_, rfl, fldK T h2 0 rfl rfl (fldM T h2.mak 0 rfl rfl ⟨b, _, [V.bl false], rfl, rfl, upd_same, by omega, by omega, ?_, fun b2 hb2 => ?_⟩)⟩
        · show 1 * R.m.cells.toNat ≤ sizeLine
          exact Nat.le_trans (by omega : _ ≤ 16) (by decide)
        · have sm2 : Same _ (upd (upd H1 b (.lst [V.bl false])) b2 (.lst (List.replicate R.m.cells.toNat [V.bl false]).flatten)) := same_upd hb2
          have h3 := h2.same sm2
          refine ⟨_, rfl, setK T h3 2 rfl (q _ ⟨dx1, m1, l1, mdx1, pl1, b2, as1, h3.turn (put2 _ _ _ _ _ _) rfl h3.pl h3.tup (by rw [upd_same, repB]) h3.ww.2.1 (fr b2 (((There.b s1 h1.ob).trans (There.of sm1)).free hb2))⟩ ((s1.trans (SameB.of (sm1.trans sm2))).trans sameB_upd))⟩
      · have c1 : ¬ R.sw = 3 := fun z => c1 (by rw [z])
        have e1 : clearK R = R := if_neg c1
        rw [e1] at q
        exact q H1 ⟨dx1, m1, l1, mdx1, pl1, bl1, as1, h1⟩ s1
def sp_least (K : PySem.W.Frag) : Sp := fun vs H Q _ => ∃ (a : Addr) (xs : List Int), vs = [.ref a] ∧ SqL K H a (xs.map V.int) ∧ 0 < xs.length ∧ Q (.int (oneOf xs)) H
theorem inV_int (n : Int) (l : List Int) : inV (.int n) (l.map V.int) = true ↔ n ∈ l := by
  unfold inV
  rw [List.any_eq_true]
  constructor
  · rintro ⟨x, hx, e⟩
    obtain ⟨z, hz, rfl⟩ := List.mem_map.mp hx
    have e : (z == n) = true := e
    rw [← eq_of_beq e]; exact hz
  · intro h
    exact ⟨.int n, List.mem_map_of_mem h, show (n == n) = true from beq_self_eq_true n⟩
theorem flat_ints (l : List Int) : (l.map V.int).all flatV = true := by
  rw [List.all_eq_true]
  rintro x hx
  obtain ⟨z, _, rfl⟩ := List.mem_map.mp hx
  rfl
theorem d_least_of (T : Txt K mg CM CK CL aN aR) : Df P w K mg base "least_of" 1 ["currents"] (sp_least K) := T.d_least_of.df fun f fd F => by
  refine F.ok sc_least_of (fun vs H Q E h => ?_) (fun cdv A outer s H vs Q E hr h => ?_)
  · obtain ⟨a, xs, rfl, _⟩ := h; rfl
  · obtain ⟨a, xs, rfl, hs, h0, q⟩ := h
    refine ⟨_, (pss_one (ps_ret (pe_ifExp (pt_cmpR op_in_seq (pe_gint rfl T.g_NO_CURRENT) (pv 0) rfl) (pe_gint rfl T.g_NO_CURRENT) (pe_callB (cr_min rfl) (by rfl) T.n_min bt_min (pa_cons (pv 0) pa_nil))))), ?_⟩
    refine ⟨_, rfl, a, _, rfl, .inl hs, rfl, flat_ints xs, _, rfl, ite2 (fun c => ?_) fun c => ?_⟩
    · have c : (4294967295 : Int) ∈ xs := (inV_int _ _).mp c
      rw [one_in c] at q
      exact q
    · have c : ¬ (4294967295 : Int) ∈ xs := fun z => c ((inV_int _ _).mpr z)
      refine ⟨_, rfl, a, xs, rfl, hs, h0, fun mn q1 q2 => ?_⟩
      rw [one_min c q1 q2] at q
      exact q
def mostK (S : KS) : Int × Int := if S.sw = 2 then (oneOf (S.cells.map fun p => (Kp114.most S.m p).1), oneOf (S.cells.map fun p => (Kp114.most S.m p).2)) else (0, 0)
def sp_currents (CM CK Pt : Addr) (W : Addr → Prop) : Sp := fun vs H Q _ => ∃ (k : Addr) (S : KS), vs = [.ref k] ∧ KAt CM CK W H k S ∧ KOk S ∧ TabOk Pt H ∧ ∀ (t : Addr) (H' : Hp), SameT Pt H H' → TabOk Pt H' → H' t = some (.tup [.int (mostK S).1, .int (mostK S).2]) → Q (.ref t) H'
theorem TabOk.ne {Pt : Addr} {H : Hp} (h : TabOk Pt H) {b : Addr} {o : HO} (e : H b = some o) (hne : ∀ qs, o ≠ .tbl qs) : b ≠ Pt := fun q => by
  obtain ⟨ps, hP, _⟩ := h
  rw [q, hP] at e
  exact hne _ (Option.some.inj e).symm
theorem KpAt.sameT {CM CK Pt : Addr} {W : Addr → Prop} {H H' : Hp} {k dx m l mdx pl bl : Addr} {as : List Addr} {S : KS} (h : KpAt CM CK W H k dx m l mdx pl bl as S) (ht : TabOk Pt H) (s : SameT Pt H H') : KpAt CM CK W H' k dx m l mdx pl bl as S :=
  ⟨s _ _ h.ob (ht.ne h.ob fun _ => nofun), ⟨s _ _ h.mak.ob (ht.ne h.mak.ob fun _ => nofun), s _ _ h.mak.cu (ht.ne h.mak.cu fun _ => nofun)⟩, s _ _ h.pl (ht.ne h.pl fun _ => nofun), h.tup.but fun b xs e => s _ _ e (ht.ne e fun _ => nofun), s _ _ h.bl (ht.ne h.bl fun _ => nofun), h.ww⟩
theorem d_currents_for_next (T : Txt K mg CM CK CL aN aR) {Pt : Addr} (D_most_currents : Df P w K mg base "most_currents" 7 ["make", "pair"] (sp_most CM Pt)) : Df P w K mg base "currents_for_next" 8 ["keeper"] (sp_currents CM CK Pt W) := T.d_currents_for_next.df fun f fd F => by
  have D_least_of : Df P w K mg base "least_of" 1 _ _ := d_least_of T
  refine F.ok sc_currents_for_next (fun vs H Q E h => ?_) (fun cdv A outer s H vs Q E hr h => ?_)
  · obtain ⟨k, S, rfl, _⟩ := h; rfl
  · obtain ⟨k, S', rfl, ⟨dx, m, l, mdx, pl, bl, as, h⟩, ok, tab, q⟩ := h
    have S := sc_currents_for_next
    have h16 : S'.cells.length ≤ 16 := by have h2 := ok.cl; have h3 := ok.gm.c2; omega
    have h1c : 0 < S'.cells.length := by have h2 := ok.cl; have h3 := ok.gm.c1; omega
    refine ⟨_, (pss_cons (ps_if (pt_cmpR op_ne (pe_fld (pv 0) rfl) (pe_gint rfl T.g_CLOSED) (nomark _)) (pss_one (ps_ret (pe_tup (pa_cons pe_int (pa_cons pe_int pa_nil))))) pss_nil) (pss_cons (ps_setLc (i := 1) (own := [("pair", 2)]) rfl S.nd rfl rfl (sw_true rfl rfl rfl rfl) (pi_list (pe_fld (pv 0) rfl)) (blkOk_by (by show blkC ["keeper", "told", "pair", "both"] (defScope s_currents_for_next) _ _ = true; decide +kernel)) (fun _ _ _ _ _ => pg_name (i := 2) S.nd rfl (Or.inl rfl)) (fun _ _ _ _ _ => pts_nil) (fun _ _ _ _ _ => (pe_def D_most_currents (hr.mono (by decide)) rfl (pa_cons (pe_fldK K (pv 0) rfl) (pa_cons (pv 2) pa_nil))))) (pss_one (ps_ret (pe_tup (pa_cons (pe_def D_least_of (hr.mono (by decide)) rfl (pa_cons (pe_lc (own := [("both", 3)]) rfl S.nd (pi_list (pv 1)) (blkOk_by (by show blkC ["keeper", "told", "pair", "both"] (defScope s_currents_for_next) _ _ = true; decide +kernel)) (fun _ _ _ _ _ => pg_name (i := 3) S.nd rfl (Or.inl rfl)) (fun _ _ _ _ _ => pts_nil) (fun _ _ _ _ _ => (pe_ix (ix_tupK K) (pv 3) pe_int (fun _ _ => rfl)))) pa_nil)) (pa_cons (pe_def D_least_of (hr.mono (by decide)) rfl (pa_cons (pe_lc (own := [("both", 3)]) rfl S.nd (pi_list (pv 1)) (blkOk_by (by show blkC ["keeper", "told", "pair", "both"] (defScope s_currents_for_next) _ _ = true; decide +kernel)) (fun _ _ _ _ _ => pg_name (i := 3) S.nd rfl (Or.inl rfl)) (fun _ _ _ _ _ => pts_nil) (fun _ _ _ _ _ => (pe_ix (ix_tupK K) (pv 3) pe_int (fun _ _ => rfl)))) pa_nil)) pa_nil))))))), ?_⟩
    refine ⟨_, rfl, fldK T h 4 rfl rfl ⟨rfl, _, rfl, ?_⟩⟩
    by_cases c : S'.sw = 2
    · have e : (!decide (V.int S'.sw = V.int 2)) = false := by rw [c]; rfl
      have e2 : mostK S' = (oneOf (S'.cells.map fun p => (Kp114.most S'.m p).1), oneOf (S'.cells.map fun p => (Kp114.most S'.m p).2)) := if_pos c
      rw [e2] at q
      show if (!decide (V.int S'.sw = V.int 2)) = true then _ else _
      rw [e]
      refine iteF ⟨_, rfl, fldK T h 1 rfl rfl ⟨pl, rfl, ⟨_, SqL.of h.pl⟩, fun D hD => ?_⟩⟩
      refine lc_list (K := K) (a := pl) (xs := as.map V.ref) (fun i H' => ∃ bs : List Addr, bs.length = i ∧ H' D = some (.lst (bs.map V.ref)) ∧ SameT Pt H H' ∧ TabOk Pt H' ∧ ∀ (j : Nat) (b : Addr) (p : Pr), bs[j]? = some b → S'.cells[j]? = some p → H' b = some (.tup [.int (Kp114.most S'.m p).1, .int (Kp114.most S'.m p).2]))
        ⟨[], rfl, upd_same, SameT.of (same_upd hD), tab.same (same_upd hD), fun j b p e _ => by simp at e⟩ ?_ ?_ ?_
      · rintro i H1 hi ⟨bs, _, _, sT, _, _⟩
        exact SqL.of (h.sameT tab sT).pl
      · rintro i x H1 hx ⟨bs, hbl, hD1, sT, tab1, hb⟩
        have h1 := h.sameT tab sT
        obtain ⟨a, p, rfl, e1, e2, ht⟩ := tups_at h1.tup hx
        refine ⟨rfl, yesT ⟨_, rfl, fldK T h1 0 rfl rfl ⟨_, rfl, m, a, S'.m, p, rfl, ⟨l, mdx, h1.mak⟩, ok.gm, ht, ok.prs p (List.mem_of_getElem? e2), tab1, fun t H2 htn sT2 tab2 ht2 => ?_⟩⟩⟩
        have nD : D ≠ Pt := tab1.ne hD1 fun _ => nofun
        have hD2 := sT2 _ _ hD1 nD
        have hi : i < S'.cells.length := (List.getElem?_eq_some_iff.mp e2).1
        refine ⟨_, hD2, ?_, bs ++ [t], ?_, ?_, ?_, ?_, ?_⟩
        · rw [List.length_map, hbl]
          exact Nat.lt_of_le_of_lt (by omega : _ ≤ 16) (by decide)
        · rw [List.length_append, hbl]; rfl
        · rw [upd_same, List.map_append]; rfl
        · intro b o e hbP
          rw [upd_ne (ne_of_none e hD)]
          exact sT2 _ _ (sT _ _ e hbP) hbP
        · exact tab2.but fun b o e ho => by
            rw [upd_ne (fun z => by
              rw [z, hD2] at e
              rcases ho with ⟨ps, ho⟩ | ⟨φ, ho⟩
              · rw [ho] at e; cases e
              · rw [ho] at e; cases e)]
            exact e
        · intro j b p' ej ep
          have up : ∀ b' xs, H2 b' = some (.tup xs) → upd H2 D (.lst (bs.map V.ref ++ [V.ref t])) b' = some (.tup xs) := fun b' xs e => by rw [upd_ne (ne_of e hD2 nofun)]; exact e
          by_cases hj : j < bs.length
          · rw [List.getElem?_append_left hj] at ej
            have z := hb j b p' ej ep
            exact up _ _ (sT2 _ _ z (tab1.ne z fun _ => nofun))
          · rw [List.getElem?_append_right (by omega)] at ej
            cases hz : j - bs.length with
            | zero =>
              rw [hz] at ej
              have ej : t = b := Option.some.inj ej
              subst ej
              have : j = i := by omega
              subst this
              have : p = p' := Option.some.inj (e2.symm.trans ep)
              subst this
              exact up _ _ ht2
            | succ n =>
              rw [hz] at ej
              simp at ej
      · rintro H1 ⟨bs, hbl, hD1, sT, tab1, hb⟩
        rw [List.length_map, h.tup.1] at hbl
        have atB : ∀ {i : Nat} {x : V}, (bs.map V.ref)[i]? = some x → ∃ b p, x = .ref b ∧ S'.cells[i]? = some p ∧ H1 b = some (.tup [.int (Kp114.most S'.m p).1, .int (Kp114.most S'.m p).2]) := fun {i x} hx => by
          rw [List.getElem?_map] at hx
          cases e : bs[i]? with
          | none => rw [e] at hx; cases hx
          | some b =>
            rw [e] at hx
            have hi : i < bs.length := (List.getElem?_eq_some_iff.mp e).1
            have hp : S'.cells[i]? = some S'.cells[i] := List.getElem?_eq_getElem (by omega)
            exact ⟨b, _, (Option.some.inj hx).symm, hp, hb i b _ e hp⟩
        have eT : S'.cells.take (bs.map V.ref).length = S'.cells := by
          rw [List.length_map, List.take_of_length_le (by omega)]
        refine ⟨_, rfl, D, rfl, ⟨_, SqL.of hD1⟩, fun D2 hD2 => lc_list (K := K) (a := D) (xs := bs.map V.ref) (fun i H' => H' = upd H1 D2 (.lst (((S'.cells.take i).map fun p => (Kp114.most S'.m p).1).map V.int))) rfl ?_ ?_ ?_⟩
        · rintro i H' hi rfl
          exact SqL.of (by rw [upd_ne (ne_of_none hD1 hD2)]; exact hD1)
        · rintro i x H' hx rfl
          obtain ⟨b, p, rfl, e2, ht⟩ := atB hx
          refine ⟨rfl, yesT ⟨_, rfl, _, _, _, _, rfl, rfl, SqT.of (same_upd hD2 _ _ ht), rfl, _, upd_same, ?_, ?_⟩⟩
          · rw [List.length_map, List.length_map]
            have h1 : (S'.cells.take i).length ≤ S'.cells.length := by rw [List.length_take]; omega
            exact Nat.lt_of_le_of_lt (by omega : _ ≤ 16) (by decide)
          · rw [upd_upd, take_snoc e2, List.map_append, List.map_append]
            rfl
        · rintro H' rfl
          refine ⟨D2, _, rfl, SqL.of upd_same, by rw [eT, List.length_map]; exact h1c, ?_⟩
          rw [eT]
          have sm2 : Same H1 (upd H1 D2 (.lst ((S'.cells.map fun p => (Kp114.most S'.m p).1).map V.int))) := same_upd hD2
          refine ⟨_, rfl, D, rfl, ⟨_, SqL.of (sm2 _ _ hD1)⟩, fun D3 hD3 => ?_⟩
          refine lc_list (K := K) (a := D) (xs := bs.map V.ref) (fun i H' => H' = upd (upd H1 D2 (.lst ((S'.cells.map fun p => (Kp114.most S'.m p).1).map V.int))) D3 (.lst (((S'.cells.take i).map fun p => (Kp114.most S'.m p).2).map V.int))) rfl ?_ ?_ ?_
          · rintro i H' hi rfl
            exact SqL.of (same_upd hD3 _ _ (sm2 _ _ hD1))
          · rintro i x H' hx rfl
            obtain ⟨b, p, rfl, e2, ht⟩ := atB hx
            refine ⟨rfl, yesT ⟨_, rfl, _, _, _, _, rfl, rfl, SqT.of (same_upd hD3 _ _ (sm2 _ _ ht)), rfl, _, upd_same, ?_, ?_⟩⟩
            · rw [List.length_map, List.length_map]
              have h1 : (S'.cells.take i).length ≤ S'.cells.length := by rw [List.length_take]; omega
              exact Nat.lt_of_le_of_lt (by omega : _ ≤ 16) (by decide)
            · rw [upd_upd, take_snoc e2, List.map_append, List.map_append]
              rfl
          · rintro H' rfl
            refine ⟨D3, _, rfl, SqL.of upd_same, by rw [eT, List.length_map]; exact h1c, ?_⟩
            rw [eT]
            refine ⟨(by show 2 ≤ sizeLine; decide), fun t htn => ?_⟩
            have sm3 := (sm2.trans (same_upd hD3)).trans (same_upd (o := .tup [.int (oneOf (S'.cells.map fun p => (Kp114.most S'.m p).1)), .int (oneOf (S'.cells.map fun p => (Kp114.most S'.m p).2))]) htn)
            exact q t _ (sT.trans (SameT.of sm3)) (tab1.same sm3) upd_same
    · have e : (!decide (V.int S'.sw = V.int 2)) = true := by
        rw [decide_eq_false fun z => c (V.int.inj z)]; rfl
      have e2 : mostK S' = (0, 0) := if_neg c
      rw [e2] at q
      show if (!decide (V.int S'.sw = V.int 2)) = true then _ else _
      rw [e]
      exact iteT ⟨(by show 2 ≤ sizeLine; decide), fun t htn => q t _ (SameT.of (same_upd htn)) (tab.same (same_upd htn)) upd_same⟩
end
end BK
end
section
set_option Elab.async false
set_option linter.all false
set_option maxRecDepth 100000
set_option maxHeartbeats 4000000
namespace BK
open PySem L2
open Kp113 (Make Pr falls fallsLeast within iLow iHigh point isMake goodMake)
section
variable {W : Addr → Prop} {P : Program} {w : World} {K : PySem.W.Frag} {mg : Str → Option Value} {base : Heap} {CM CK CL aN aR : Addr}
theorem setM (T : Txt K mg CM CK CL aN aR) {H : Hp} {x dx : Addr} {fs : List (Str × V)} (h : H x = some (.ins CM dx fs)) (hl : fs.length < 1000) {f : Str} (hf : f ∈ mkKeys) {y : V} {R : Hp → Prop} (q : R (upd H x (.ins CM dx (putF f y fs)))) :
    ∃ a C dx fs, V.ref x = V.ref a ∧ H a = some (.ins C dx fs) ∧ Cls K C ∧ NoAttr K C f ∧ fs.length < 1000 ∧ R (upd H a (.ins C dx (putF f y fs))) := ⟨x, CM, dx, fs, rfl, h, T.cl_Make, T.no_Make f hf, hl, q⟩
theorem sq_upd {H : Hp} {a x : Addr} {o : HO} {xs : List V} {C dx : Addr} {fs : List (Str × V)} (h : SqL K H a xs) (hx : H x = some (.ins C dx fs)) : SqL K (upd H x o) a xs := by
  rcases h with (h | ⟨ob, h⟩) | h
  · exact .inl (.inl (by rw [upd_ne (ne_of h hx nofun)]; exact h))
  · exact .inl (.inr ⟨ob, by rw [upd_ne (ne_of h hx nofun)]; exact h⟩)
  · exact .inr h
theorem ixN18 {ns : List Int} (hn : ns.length = 18) (j : Nat) (hj : j < 18) {z : Int} (hz : z = (j : Int) := by rfl) : atI (ns.map V.int) z = some (.int (ns.getD j 0)) := ixC hz (by omega)
def sp_mkinit (K : PySem.W.Frag) (CM : Addr) : Sp := fun vs H Q _ => ∃ (x dx nl rl : Addr) (ns row : List Int), vs = [.ref x, .ref nl, .ref rl] ∧ H x = some (.ins CM dx []) ∧ SqL K H nl (ns.map V.int) ∧ ns.length = 18 ∧ SqL K H rl (row.map V.int) ∧
  ∀ (l : Addr) (H' : Hp), H l = none → MkAt CM H' x l dx (mkOf ns row) → SameB x H H' → Q .non H'
theorem i_Make (T : Txt K mg CM CK CL aN aR) : Dc P w K mg base "Make" CM 1 ["self", "numbers", "curve"] (sp_mkinit K CM) := T.i_Make.dc fun f fd F => by
  refine F.ok sc_Make (fun vs H Q E h => ?_) (fun cdv A outer s H vs Q E hr h => ?_)
  · obtain ⟨x, dx, nl, rl, ns, row, rfl, _⟩ := h; rfl
  · obtain ⟨x, dx, nl, rl, ns, row, rfl, hx, hq0, hn, hrow, q⟩ := h
    have hq : ∀ o, SqL K (upd H x o) nl (ns.map V.int) := fun o => sq_upd hq0 hx
    refine ⟨_, (pss_cons (ps_fld (pv 0) (pe_ix ix_list (pv 1) pe_int (fun _ _ => rfl)) rfl) (pss_cons (ps_fld (pv 0) (pe_ix ix_list (pv 1) pe_int (fun _ _ => rfl)) rfl) (pss_cons (ps_fld (pv 0) (pe_ix ix_list (pv 1) pe_int (fun _ _ => rfl)) rfl) (pss_cons (ps_fld (pv 0) (pe_ix ix_list (pv 1) pe_int (fun _ _ => rfl)) rfl) (pss_cons (ps_fld (pv 0) (pe_ix ix_list (pv 1) pe_int (fun _ _ => rfl)) rfl) (pss_cons (ps_fld (pv 0) (pe_ix ix_list (pv 1) pe_int (fun _ _ => rfl)) rfl) (pss_cons (ps_fld (pv 0) (pe_ix ix_list (pv 1) pe_int (fun _ _ => rfl)) rfl) (pss_cons (ps_fld (pv 0) (pe_ix ix_list (pv 1) pe_int (fun _ _ => rfl)) rfl) (pss_cons (ps_fld (pv 0) (pe_ix ix_list (pv 1) pe_int (fun _ _ => rfl)) rfl) (pss_cons (ps_fld (pv 0) (pe_ix ix_list (pv 1) pe_int (fun _ _ => rfl)) rfl) (pss_cons (ps_fld (pv 0) (pe_ix ix_list (pv 1) pe_int (fun _ _ => rfl)) rfl) (pss_cons (ps_fld (pv 0) (pe_ix ix_list (pv 1) pe_int (fun _ _ => rfl)) rfl) (pss_cons (ps_fld (pv 0) (pe_ix ix_list (pv 1) pe_int (fun _ _ => rfl)) rfl) (pss_cons (ps_fld (pv 0) (pe_ix ix_list (pv 1) pe_int (fun _ _ => rfl)) rfl) (pss_cons (ps_fld (pv 0) (pe_ix ix_list (pv 1) pe_int (fun _ _ => rfl)) rfl) (pss_cons (ps_fld (pv 0) (pe_ix ix_list (pv 1) pe_int (fun _ _ => rfl)) rfl) (pss_cons (ps_fld (pv 0) (pe_ix ix_list (pv 1) pe_int (fun _ _ => rfl)) rfl) (pss_cons (ps_fld (pv 0) (pe_ix ix_list (pv 1) pe_int (fun _ _ => rfl)) rfl) (pss_one (ps_fld (pv 0) (pe_callTy call_list_of (by rfl) T.n_list bt_list (pa_cons (pv 2) pa_nil)) rfl)))))))))))))))))))), ?_⟩
    refine ⟨_, rfl, _, _, _, _, rfl, rfl, hq0, ixN18 hn 0 (by decide), _, rfl, setM T (hx) (by show 0 < 1000; decide) (List.mem_of_getElem? (i := 0) rfl) ?_⟩
    rw [show putF "cells" (V.int (ns.getD 0 0)) [] = (["cells"] : List Str).zip [V.int (ns.getD 0 0)] from rfl]
    refine ⟨_, rfl, _, _, _, _, rfl, rfl, hq _, ixN18 hn 1 (by decide), _, rfl, setM T (upd_same) (by show 1 < 1000; decide) (List.mem_of_getElem? (i := 1) rfl) ?_⟩
    rw [upd_upd, zf_new (x := "wait") (by decide +kernel) rfl]
    dsimp only [List.cons_append, List.nil_append]
    refine ⟨_, rfl, _, _, _, _, rfl, rfl, hq _, ixN18 hn 2 (by decide), _, rfl, setM T (upd_same) (by show 2 < 1000; decide) (List.mem_of_getElem? (i := 2) rfl) ?_⟩
    rw [upd_upd, zf_new (x := "fill") (by decide +kernel) rfl]
    dsimp only [List.cons_append, List.nil_append]
    refine ⟨_, rfl, _, _, _, _, rfl, rfl, hq _, ixN18 hn 3 (by decide), _, rfl, setM T (upd_same) (by show 3 < 1000; decide) (List.mem_of_getElem? (i := 3) rfl) ?_⟩
    rw [upd_upd, zf_new (x := "none") (by decide +kernel) rfl]
    dsimp only [List.cons_append, List.nil_append]
    refine ⟨_, rfl, _, _, _, _, rfl, rfl, hq _, ixN18 hn 4 (by decide), _, rfl, setM T (upd_same) (by show 4 < 1000; decide) (List.mem_of_getElem? (i := 4) rfl) ?_⟩
    rw [upd_upd, zf_new (x := "weak") (by decide +kernel) rfl]
    dsimp only [List.cons_append, List.nil_append]
    refine ⟨_, rfl, _, _, _, _, rfl, rfl, hq _, ixN18 hn 5 (by decide), _, rfl, setM T (upd_same) (by show 5 < 1000; decide) (List.mem_of_getElem? (i := 5) rfl) ?_⟩
    rw [upd_upd, zf_new (x := "strong") (by decide +kernel) rfl]
    dsimp only [List.cons_append, List.nil_append]
    refine ⟨_, rfl, _, _, _, _, rfl, rfl, hq _, ixN18 hn 6 (by decide), _, rfl, setM T (upd_same) (by show 6 < 1000; decide) (List.mem_of_getElem? (i := 6) rfl) ?_⟩
    rw [upd_upd, zf_new (x := "least") (by decide +kernel) rfl]
    dsimp only [List.cons_append, List.nil_append]
    refine ⟨_, rfl, _, _, _, _, rfl, rfl, hq _, ixN18 hn 7 (by decide), _, rfl, setM T (upd_same) (by show 7 < 1000; decide) (List.mem_of_getElem? (i := 7) rfl) ?_⟩
    rw [upd_upd, zf_new (x := "most") (by decide +kernel) rfl]
    dsimp only [List.cons_append, List.nil_append]
    refine ⟨_, rfl, _, _, _, _, rfl, rfl, hq _, ixN18 hn 8 (by decide), _, rfl, setM T (upd_same) (by show 8 < 1000; decide) (List.mem_of_getElem? (i := 8) rfl) ?_⟩
    rw [upd_upd, zf_new (x := "leak") (by decide +kernel) rfl]
    dsimp only [List.cons_append, List.nil_append]
    refine ⟨_, rfl, _, _, _, _, rfl, rfl, hq _, ixN18 hn 9 (by decide), _, rfl, setM T (upd_same) (by show 9 < 1000; decide) (List.mem_of_getElem? (i := 9) rfl) ?_⟩
    rw [upd_upd, zf_new (x := "bleed_low") (by decide +kernel) rfl]
    dsimp only [List.cons_append, List.nil_append]
    refine ⟨_, rfl, _, _, _, _, rfl, rfl, hq _, ixN18 hn 10 (by decide), _, rfl, setM T (upd_same) (by show 10 < 1000; decide) (List.mem_of_getElem? (i := 10) rfl) ?_⟩
    rw [upd_upd, zf_new (x := "bleed_high") (by decide +kernel) rfl]
    dsimp only [List.cons_append, List.nil_append]
    refine ⟨_, rfl, _, _, _, _, rfl, rfl, hq _, ixN18 hn 11 (by decide), _, rfl, setM T (upd_same) (by show 11 < 1000; decide) (List.mem_of_getElem? (i := 11) rfl) ?_⟩
    rw [upd_upd, zf_new (x := "off") (by decide +kernel) rfl]
    dsimp only [List.cons_append, List.nil_append]
    refine ⟨_, rfl, _, _, _, _, rfl, rfl, hq _, ixN18 hn 12 (by decide), _, rfl, setM T (upd_same) (by show 12 < 1000; decide) (List.mem_of_getElem? (i := 12) rfl) ?_⟩
    rw [upd_upd, zf_new (x := "fuse") (by decide +kernel) rfl]
    dsimp only [List.cons_append, List.nil_append]
    refine ⟨_, rfl, _, _, _, _, rfl, rfl, hq _, ixN18 hn 13 (by decide), _, rfl, setM T (upd_same) (by show 13 < 1000; decide) (List.mem_of_getElem? (i := 13) rfl) ?_⟩
    rw [upd_upd, zf_new (x := "none2") (by decide +kernel) rfl]
    dsimp only [List.cons_append, List.nil_append]
    refine ⟨_, rfl, _, _, _, _, rfl, rfl, hq _, ixN18 hn 14 (by decide), _, rfl, setM T (upd_same) (by show 14 < 1000; decide) (List.mem_of_getElem? (i := 14) rfl) ?_⟩
    rw [upd_upd, zf_new (x := "near") (by decide +kernel) rfl]
    dsimp only [List.cons_append, List.nil_append]
    refine ⟨_, rfl, _, _, _, _, rfl, rfl, hq _, ixN18 hn 15 (by decide), _, rfl, setM T (upd_same) (by show 15 < 1000; decide) (List.mem_of_getElem? (i := 15) rfl) ?_⟩
    rw [upd_upd, zf_new (x := "like") (by decide +kernel) rfl]
    dsimp only [List.cons_append, List.nil_append]
    refine ⟨_, rfl, _, _, _, _, rfl, rfl, hq _, ixN18 hn 16 (by decide), _, rfl, setM T (upd_same) (by show 16 < 1000; decide) (List.mem_of_getElem? (i := 16) rfl) ?_⟩
    rw [upd_upd, zf_new (x := "low") (by decide +kernel) rfl]
    dsimp only [List.cons_append, List.nil_append]
    refine ⟨_, rfl, _, _, _, _, rfl, rfl, hq _, ixN18 hn 17 (by decide), _, rfl, setM T (upd_same) (by show 17 < 1000; decide) (List.mem_of_getElem? (i := 17) rfl) ?_⟩
    rw [upd_upd, zf_new (x := "high") (by decide +kernel) rfl]
    dsimp only [List.cons_append, List.nil_append]
    refine ⟨_, rfl, rl, _, rfl, .inl (sq_upd hrow hx), fun l hl => ⟨_, rfl, setM T (by rw [upd_ne (ne_of_none upd_same hl)]; exact upd_same) (by show 18 < 1000; decide) (List.mem_of_getElem? (i := 18) rfl) ?_⟩⟩
    have nlx : l ≠ x := (ne_of_none upd_same hl).symm
    refine q l _ (There.upd.free hl) ⟨?_, ?_⟩ fun b o e hb => ?_
    · rw [upd_same, zf_new (x := "curve") (by decide +kernel) rfl]
      rfl
    · rw [upd_ne nlx, upd_same]
      rfl
    · rw [upd_ne hb, upd_ne (fun z => by rw [upd_ne nlx] at hl; rw [z, hl] at e; cases e), upd_ne hb]
      exact e
def sp_kpinit (CM CK : Addr) (W : Addr → Prop) : Sp := fun vs H Q _ => ∃ (x dx m l mdx : Addr) (M : Make), vs = [.ref x, .ref m] ∧ H x = some (.ins CK dx []) ∧ MkAt CM H m l mdx M ∧ W l ∧ (∀ b, H b = none → W b) ∧ GM M ∧ ∀ H', KAt CM CK W H' x (startK M) → SameB x H H' → Q .non H'
theorem setKp (T : Txt K mg CM CK CL aN aR) {H : Hp} {x dx : Addr} {fs : List (Str × V)} (h : H x = some (.ins CK dx fs)) (hl : fs.length < 1000) {f : Str} (hf : f ∈ kpKeys) {y : V} {R : Hp → Prop} (q : R (upd H x (.ins CK dx (putF f y fs)))) :
    ∃ a C dx fs, V.ref x = V.ref a ∧ H a = some (.ins C dx fs) ∧ Cls K C ∧ NoAttr K C f ∧ fs.length < 1000 ∧ R (upd H a (.ins C dx (putF f y fs))) := ⟨x, CK, dx, fs, rfl, h, T.cl_Keeper, T.no_Keeper f hf, hl, q⟩
theorem MkAt.updI {H : Hp} {m l mdx x dx C : Addr} {M : Make} {o : HO} {fs : List (Str × V)} (h : MkAt CM H m l mdx M) (hx : H x = some (.ins C dx fs)) (hne : fs.length ≠ 19) : MkAt CM (upd H x o) m l mdx M := by
  refine ⟨?_, ?_⟩
  · rw [upd_ne (ne_of h.ob hx fun e => by
      injection e with _ _ e
      exact hne (by rw [← e]; rfl))]
    exact h.ob
  · rw [upd_ne (ne_of h.cu hx nofun)]; exact h.cu
theorem i_Keeper (T : Txt K mg CM CK CL aN aR) : Dc P w K mg base "Keeper" CK 1 ["self", "make"] (sp_kpinit CM CK W) := T.i_Keeper.dc fun f fd F => by
  refine F.ok sc_Keeper (fun vs H Q E h => ?_) (fun cdv A outer s H vs Q E hr h => ?_)
  · obtain ⟨x, dx, m, l, mdx, M, rfl, _⟩ := h; rfl
  · obtain ⟨x, dx, m, l, mdx, M, rfl, hx, hM, wl, fr, G, q⟩ := h
    have g1 := G.c1
    have g2 := G.c2
    refine ⟨_, (pss_cons (ps_fld (pv 0) (pv 1) rfl) (pss_cons (ps_fld (pv 0) (pe_op op_rep (pe_lst (pa_cons (pe_tup (pa_cons pe_int (pa_cons (pe_gint rfl T.g_FULL) pa_nil))) pa_nil)) (pe_fld (pv 1) rfl)) rfl) (pss_cons (ps_fld (pv 0) (pe_op op_rep (pe_lst (pa_cons pe_bl pa_nil)) (pe_fld (pv 1) rfl)) rfl) (pss_cons (ps_fld (pv 0) pe_bl rfl) (pss_cons (ps_fld (pv 0) (pe_gint rfl T.g_OPEN) rfl) (pss_cons (ps_fld (pv 0) pe_int rfl) (pss_one (ps_fld (pv 0) (pe_gint rfl T.g_MOST_OPEN_TICKS) rfl)))))))), ?_⟩
    -- self.make = make
    refine ⟨_, rfl, _, rfl, setKp T hx (by show 0 < 1000; decide) (List.mem_of_getElem? (i := 0) rfl) ?_⟩
    rw [show putF "make" (V.ref m) [] = (["make"] : List Str).zip [V.ref m] from rfl]
    have hM1 : MkAt CM (upd H x (.ins CK dx ((["make"] : List Str).zip [V.ref m]))) m l mdx M := hM.updI hx (show 0 ≠ 19 by decide)
    have sB1 : SameB x H (upd H x (.ins CK dx ((["make"] : List Str).zip [V.ref m]))) := sameB_upd
    generalize hH1 : upd H x (.ins CK dx ((["make"] : List Str).zip [V.ref m])) = H1 at hM1 sB1
    have th1 : There H H1 := by rw [← hH1]; exact There.upd
    have hx1 : H1 x = some (.ins CK dx ((["make"] : List Str).zip [V.ref m])) := by rw [← hH1]; exact upd_same
    -- self.pairs
    refine ⟨(by show 2 ≤ sizeLine; decide), fun t ht => ⟨(by show 1 ≤ sizeLine; decide), fun b hb => ?_⟩⟩
    have sm1 := (same_upd (o := .tup [V.int 0, V.int 4294967296]) ht).trans (same_upd (o := .lst [V.ref t]) hb)
    have hM2 := hM1.same sm1
    refine ⟨_, rfl, fldM T hM2 0 rfl rfl ⟨b, _, [V.ref t], rfl, rfl, upd_same, by omega, by omega, ?_, fun pl hpl => ?_⟩⟩
    · show 1 * M.cells.toNat ≤ sizeLine
      exact Nat.le_trans (by omega : _ ≤ 16) (by decide)
    have wpl : W pl := fr pl ((th1.trans (There.of sm1)).free hpl)
    rw [repR]
    have sm2 := sm1.trans (same_upd (o := .lst ((List.replicate M.cells.toNat t).map V.ref)) hpl)
    have tt2 : upd (upd (upd H1 t (.tup [V.int 0, V.int 4294967296])) b (.lst [V.ref t])) pl (.lst ((List.replicate M.cells.toNat t).map V.ref)) t = some (.tup [V.int 0, V.int 4294967296]) := same_upd hpl _ _ (same_upd hb _ _ upd_same)
    have pl2 : upd (upd (upd H1 t (.tup [V.int 0, V.int 4294967296])) b (.lst [V.ref t])) pl (.lst ((List.replicate M.cells.toNat t).map V.ref)) pl = some (.lst ((List.replicate M.cells.toNat t).map V.ref)) := upd_same
    generalize upd (upd (upd H1 t (.tup [V.int 0, V.int 4294967296])) b (.lst [V.ref t])) pl (.lst ((List.replicate M.cells.toNat t).map V.ref)) = H2 at sm2 tt2 pl2
    have hx2 := sm2 _ _ hx1
    refine ⟨_, rfl, setKp T hx2 (by show 1 < 1000; decide) (List.mem_of_getElem? (i := 1) rfl) ?_⟩
    rw [zf_new (x := "pairs") (by decide +kernel) rfl]
    dsimp only [List.cons_append, List.nil_append]
    have hM3 : MkAt CM (upd H2 x (.ins CK dx ((["make", "pairs"] : List Str).zip [V.ref m, V.ref pl]))) m l mdx M := (hM1.same sm2).updI hx2 (show 1 ≠ 19 by decide)
    have sB3 : SameB x H (upd H2 x (.ins CK dx ((["make", "pairs"] : List Str).zip [V.ref m, V.ref pl]))) := (sB1.trans (SameB.of sm2)).trans sameB_upd
    have tt3 : upd H2 x (.ins CK dx ((["make", "pairs"] : List Str).zip [V.ref m, V.ref pl])) t = some (.tup [V.int 0, V.int 4294967296]) := by rw [upd_ne (ne_of tt2 hx2 nofun)]; exact tt2
    have pl3 : upd H2 x (.ins CK dx ((["make", "pairs"] : List Str).zip [V.ref m, V.ref pl])) pl = some (.lst ((List.replicate M.cells.toNat t).map V.ref)) := by rw [upd_ne (ne_of pl2 hx2 nofun)]; exact pl2
    have hx3 : upd H2 x (.ins CK dx ((["make", "pairs"] : List Str).zip [V.ref m, V.ref pl])) x = some (.ins CK dx ((["make", "pairs"] : List Str).zip [V.ref m, V.ref pl])) := upd_same
    have th3 : There H (upd H2 x (.ins CK dx ((["make", "pairs"] : List Str).zip [V.ref m, V.ref pl]))) := (th1.trans (There.of sm2)).trans There.upd
    generalize upd H2 x (.ins CK dx ((["make", "pairs"] : List Str).zip [V.ref m, V.ref pl])) = H3 at hM3 sB3 tt3 pl3 hx3 th3
    -- self.bled
    refine ⟨(by show 1 ≤ sizeLine; decide), fun b2 hb2 => ?_⟩
    have sm4 := same_upd (o := .lst [V.bl false]) hb2
    have hM4 := hM3.same sm4
    refine ⟨_, rfl, fldM T hM4 0 rfl rfl ⟨b2, _, [V.bl false], rfl, rfl, upd_same, by omega, by omega, ?_, fun bl hbl => ?_⟩⟩
    · show 1 * M.cells.toNat ≤ sizeLine
      exact Nat.le_trans (by omega : _ ≤ 16) (by decide)
    have wbl : W bl := fr bl ((th3.trans (There.of sm4)).free hbl)
    rw [repB]
    have sm5 := sm4.trans (same_upd (o := .lst ((List.replicate M.cells.toNat false).map V.bl)) hbl)
    have bl5 : upd (upd H3 b2 (.lst [V.bl false])) bl (.lst ((List.replicate M.cells.toNat false).map V.bl)) bl = some (.lst ((List.replicate M.cells.toNat false).map V.bl)) := upd_same
    generalize upd (upd H3 b2 (.lst [V.bl false])) bl (.lst ((List.replicate M.cells.toNat false).map V.bl)) = H5 at sm5 bl5
    have hx5 := sm5 _ _ hx3
    have hM5 := hM3.same sm5
    refine ⟨_, rfl, setKp T hx5 (by show 2 < 1000; decide) (List.mem_of_getElem? (i := 2) rfl) ?_⟩
    rw [zf_new (x := "bled") (by decide +kernel) rfl]
    dsimp only [List.cons_append, List.nil_append]
    refine ⟨_, rfl, setKp T upd_same (by show 3 < 1000; decide) (List.mem_of_getElem? (i := 3) rfl) ?_⟩
    rw [upd_upd, zf_new (x := "asked") (by decide +kernel) rfl]
    dsimp only [List.cons_append, List.nil_append]
    refine ⟨_, rfl, setKp T upd_same (by show 4 < 1000; decide) (List.mem_of_getElem? (i := 4) rfl) ?_⟩
    rw [upd_upd, zf_new (x := "switch") (by decide +kernel) rfl]
    dsimp only [List.cons_append, List.nil_append]
    refine ⟨_, rfl, setKp T upd_same (by show 5 < 1000; decide) (List.mem_of_getElem? (i := 5) rfl) ?_⟩
    rw [upd_upd, zf_new (x := "filling_ticks") (by decide +kernel) rfl]
    dsimp only [List.cons_append, List.nil_append]
    refine ⟨_, rfl, setKp T upd_same (by show 6 < 1000; decide) (List.mem_of_getElem? (i := 6) rfl) ?_⟩
    rw [upd_upd, zf_new (x := "open_ticks") (by decide +kernel) rfl]
    dsimp only [List.cons_append, List.nil_append]
    refine q _ ⟨dx, m, l, mdx, pl, bl, List.replicate M.cells.toNat t, ⟨upd_same, hM5.updI hx5 (show 2 ≠ 19 by decide), ?_, ⟨?_, fun j a p e1 e2 => ?_⟩, ?_, wl, wpl, wbl⟩⟩ ((sB3.trans (SameB.of sm5)).trans sameB_upd)
    · rw [upd_ne (ne_of (sm5 _ _ pl3) hx5 nofun)]; exact sm5 _ _ pl3
    · show (List.replicate M.cells.toNat t).length = (List.replicate M.cells.toNat (⟨0, 4294967296⟩ : Pr)).length
      rw [List.length_replicate, List.length_replicate]
    · have e1 := List.eq_of_mem_replicate (List.mem_of_getElem? e1)
      have e2 : p ∈ List.replicate M.cells.toNat (⟨0, 4294967296⟩ : Pr) := List.mem_of_getElem? e2
      have e2 := List.eq_of_mem_replicate e2
      subst e1 e2
      show upd H5 x _ a = _
      rw [upd_ne (ne_of (sm5 _ _ tt3) hx5 nofun)]
      exact sm5 _ _ tt3
    · rw [upd_ne (ne_of bl5 hx5 nofun)]; exact bl5
def lnF (v : V) : List (Str × V) := (["keeper"] : List Str).zip [v]
def sp_lninit (CL : Addr) : Sp := fun vs H Q _ => ∃ (x dx : Addr), vs = [.ref x] ∧ H x = some (.ins CL dx []) ∧ ∀ H', H' x = some (.ins CL dx (lnF .non)) → SameB x H H' → Q .non H'
theorem i_Line (T : Txt K mg CM CK CL aN aR) : Dc P w K mg base "Line" CL 1 ["self"] (sp_lninit CL) := T.i_Line.dc fun f fd F => by
  refine F.ok sc_Line (fun vs H Q E h => ?_) (fun cdv A outer s H vs Q E hr h => ?_)
  · obtain ⟨x, dx, rfl, _⟩ := h; rfl
  · obtain ⟨x, dx, rfl, hx, q⟩ := h
    refine ⟨_, (pss_one (ps_fld (pv 0) pe_non rfl)), ?_⟩
    exact ⟨_, rfl, x, CL, dx, [], rfl, hx, T.cl_Line, T.no_Line, (by show 0 < 1000; decide), q _ upd_same sameB_upd⟩
end
end BK
end
section
set_option Elab.async false
set_option linter.all false
set_option maxRecDepth 100000
set_option maxHeartbeats 4000000
namespace BK
open PySem L2
open Kp113 (Make Pr falls fallsLeast within iLow iHigh point isMake goodMake)
open Kp115Neutral (does wrKp115_Ans)
/-- all but k and the table stays -/
def SameK (k Pt : Addr) (H H' : Hp) : Prop := ∀ b o, H b = some o → b ≠ k → b ≠ Pt → H' b = some o
theorem SameK.ofB {k Pt : Addr} {H H' : Hp} (s : SameB k H H') : SameK k Pt H H' := fun b o e h _ => s b o e h
theorem SameK.ofT {k Pt : Addr} {H H' : Hp} (s : SameT Pt H H') : SameK k Pt H H' := fun b o e _ h => s b o e h
theorem SameK.of {k Pt : Addr} {H H' : Hp} (s : Same H H') : SameK k Pt H H' := fun b o e _ _ => s b o e
theorem SameK.trans {k Pt : Addr} {H H1 H2 : Hp} (a : SameK k Pt H H1) (b : SameK k Pt H1 H2) : SameK k Pt H H2 := fun c o e h1 h2 => b c o (a c o e h1 h2) h1 h2
theorem TabOk.ofB {Pt k : Addr} {H H' : Hp} (h : TabOk Pt H) {C dx : Addr} {fs : List (Str × V)} (hk : H k = some (.ins C dx fs)) (s : SameB k H H') : TabOk Pt H' := h.but fun b o e ho => s b o e fun z => by
  rw [z, hk] at e
  rcases ho with ⟨ps, ho⟩ | ⟨φ, ho⟩
  · rw [ho] at e; cases e
  · rw [ho] at e; cases e
theorem KOk.of {S : KS} {A : Kp115.Abs} (R : Rel S A) : KOk S := ⟨by rw [R.m]; exact R.gm, by rw [R.cells, R.m]; exact R.clen, by rw [R.bled, R.m]; exact R.blen, by rw [R.cells]; exact R.prs⟩
section
variable {W : Addr → Prop} {P : Program} {w : World} {K : PySem.W.Frag} {mg : Str → Option Value} {base : Heap} {CM CK CL aN aR : Addr}
def sp_alone : Sp := fun vs H Q _ => ∃ n : Int, vs = [.int n] ∧ ∀ (a : Addr) (H' : Hp), H a = none → Same H H' → H' a = some (.lst (([0, n] : List Int).map V.int)) → Q (.ref a) H'
theorem d_number_alone (T : Txt K mg CM CK CL aN aR) : Df P w K mg base "number_alone" 1 ["number"] sp_alone := T.d_number_alone.df fun f fd F => by
  refine F.ok sc_number_alone (fun vs H Q E h => ?_) (fun cdv A outer s H vs Q E hr h => ?_)
  · obtain ⟨n, rfl, _⟩ := h; rfl
  · obtain ⟨n, rfl, q⟩ := h
    refine ⟨_, (pss_one (ps_ret (pe_lst (pa_cons pe_int (pa_cons (pv 0) pa_nil))))), ?_⟩
    exact ⟨_, rfl, (by show 2 ≤ sizeLine; decide), fun a ha => q a _ ha (same_upd ha) upd_same⟩
def sp_four : Sp := fun vs H Q _ => ∃ (n a b c d : Int) (l : Addr), vs = [.int n, .ref l] ∧ H l = some (.lst (([a, b, c, d] : List Int).map V.int)) ∧ ∀ (t : Addr) (H' : Hp), H t = none → Same H H' → H' t = some (.lst (([2, n, 4, a, b, c, d] : List Int).map V.int)) → Q (.ref t) H'
theorem d_number_and_four (T : Txt K mg CM CK CL aN aR) : Df P w K mg base "number_and_four" 1 ["number", "four"] sp_four := T.d_number_and_four.df fun f fd F => by
  refine F.ok sc_number_and_four (fun vs H Q E h => ?_) (fun cdv A outer s H vs Q E hr h => ?_)
  · obtain ⟨n, a, b, c, d, l, rfl, _⟩ := h; rfl
  · obtain ⟨n, a, b, c, d, l, rfl, hl, q⟩ := h
    refine ⟨_, (pss_one (ps_ret (pe_op op_cat (pe_lst (pa_cons pe_int (pa_cons (pv 0) (pa_cons pe_int pa_nil)))) (pv 1)))), ?_⟩
    refine ⟨_, rfl, (by show 3 ≤ sizeLine; decide), fun t ht => ⟨_, rfl, t, l, _, _, rfl, rfl, upd_same, same_upd ht _ _ hl, (by show 7 ≤ sizeLine; decide), fun u hu => ?_⟩⟩
    exact q u _ ((same_upd ht).free hu) ((same_upd ht).trans (same_upd hu)) upd_same
def LnV (CM CK : Addr) (W : Addr → Prop) (H : Hp) (v : V) : Kp115Neutral.S → Prop
  | none => v = .non
  | some A => ∃ k S, v = .ref k ∧ KAt CM CK W H k S ∧ Rel S A
def LineAt (CM CK CL : Addr) (W : Addr → Prop) (H : Hp) (p : Addr) (s : Kp115Neutral.S) : Prop := ∃ dx v, H p = some (.ins CL dx (lnF v)) ∧ LnV CM CK W H v s
theorem ln_ne {CK CL dx dx' : Addr} {v : V} {m pl bl : Addr} {S : KS} : HO.ins CL dx (lnF v) ≠ HO.ins CK dx' (kpF m pl bl S) := fun e => by
  injection e with _ _ e
  have := congrArg List.length e
  cases (show 1 = 7 from this)
theorem ln_ne_mk {CM CL dx dx' : Addr} {v : V} {M : Make} {l : Addr} : HO.ins CM dx' (mkF M l) ≠ HO.ins CL dx (lnF v) := fun e => by
  injection e with _ _ e
  have := congrArg List.length e
  cases (show 19 = 1 from this)
theorem fldL (T : Txt K mg CM CK CL aN aR) {H : Hp} {p dx : Addr} {v : V} (h : H p = some (.ins CL dx (lnF v))) {R : V → Prop} (q : R v) :
    ∃ a C dx fs w, V.ref p = V.ref a ∧ H a = some (.ins C dx fs) ∧ Cls K C ∧ NoAttr K C "keeper" ∧ fs.lookup ("keeper" : Str) = some w ∧ R w := ⟨p, CL, dx, _, v, rfl, h, T.cl_Line, T.no_Line, zf_look (i := 0) (by decide +kernel) rfl rfl, q⟩
/-- lists, tuples and what else is no instance stays -/
def SameN (H H' : Hp) : Prop := ∀ b o, H b = some o → (∀ C dx fs, o ≠ .ins C dx fs) → (∀ ps, o ≠ .tbl ps) → H' b = some o
theorem SameN.of {H H' : Hp} (s : Same H H') : SameN H H' := fun b o e _ _ => s b o e
theorem SameN.trans {H H1 H2 : Hp} (a : SameN H H1) (b : SameN H1 H2) : SameN H H2 := fun c o e h1 h2 => b c o (a c o e h1 h2) h1 h2
theorem SameN.ofK {Pt k : Addr} {H H' : Hp} (h : TabOk Pt H) {C dx : Addr} {fs : List (Str × V)} (hk : H k = some (.ins C dx fs)) (s : SameK k Pt H H') : SameN H H' := fun b o e h1 h2 => s b o e (fun z => by rw [z, hk] at e; exact h1 _ _ _ (Option.some.inj e).symm) (h.ne e h2)
/-- what a call of the line's promises -/
def Told (CM CK CL Pt : Addr) (W : Addr → Prop) (H : Hp) (p : Addr) (r : Kp115Neutral.S × Kp115.Ans) (Q : VK) : Prop := ∀ (a : Addr) (H' : Hp), H a = none → LineAt CM CK CL W H' p r.1 → TabOk Pt H' → SameN H H' → H' a = some (.lst ((wrKp115_Ans r.2).map V.int)) → Q (.ref a) H'
def sp_start (CM CK CL Pt : Addr) (W : Addr → Prop) : Sp := fun vs H Q _ => ∃ (p m l mdx : Addr) (s : Kp115Neutral.S) (M : Make), vs = [.ref p, .ref m] ∧ LineAt CM CK CL W H p s ∧ MkAt CM H m l mdx M ∧ W l ∧ (∀ b, H b = none → W b) ∧ isMake M ∧ TabOk Pt H ∧ Told CM CK CL Pt W H p (does s (.start M)) Q
theorem LnV.same {H H' : Hp} {v : V} {s : Kp115Neutral.S} (h : LnV CM CK W H v s) (sm : Same H H') : LnV CM CK W H' v s := by
  cases s with
  | none => exact h
  | some A => obtain ⟨k, S, e, hk, R⟩ := h; exact ⟨k, S, e, hk.same sm, R⟩
theorem LineAt.same {H H' : Hp} {p : Addr} {s : Kp115Neutral.S} (h : LineAt CM CK CL W H p s) (sm : Same H H') : LineAt CM CK CL W H' p s := let ⟨dx, v, h1, h2⟩ := h; ⟨dx, v, sm _ _ h1, h2.same sm⟩
theorem KpAt.but {H H' : Hp} {k dx m l mdx pl bl x : Addr} {as : List Addr} {S : KS} (h : KpAt CM CK W H k dx m l mdx pl bl as S) (hk : k ≠ x) (hm : m ≠ x) (s : SameB x H H') {C dx' : Addr} {fs : List (Str × V)} (hx : H x = some (.ins C dx' fs)) : KpAt CM CK W H' k dx m l mdx pl bl as S :=
  ⟨s _ _ h.ob hk, ⟨s _ _ h.mak.ob hm, s _ _ h.mak.cu (ne_of h.mak.cu hx nofun)⟩, s _ _ h.pl (ne_of h.pl hx nofun), h.tup.but fun b xs e => s _ _ e (ne_of e hx nofun), s _ _ h.bl (ne_of h.bl hx nofun), h.ww⟩
theorem d_answer_start (T : Txt K mg CM CK CL aN aR) {Pt : Addr} : Df P w K mg base "answer_start" 3 ["line", "make"] (sp_start CM CK CL Pt W) := T.d_answer_start.df fun f fd F => by
  have D_is_right : Df P w K mg base "is_right" 2 _ _ := d_is_right T
  have D_number_alone : Df P w K mg base "number_alone" 1 _ _ := d_number_alone T
  have D_Keeper : Dc P w K mg base "Keeper" CK 1 _ _ := i_Keeper T (W := W)
  refine F.ok sc_answer_start (fun vs H Q E h => ?_) (fun cdv A outer s H vs Q E hr h => ?_)
  · obtain ⟨p, m, l, mdx, st, M, rfl, _⟩ := h; rfl
  · obtain ⟨p, m, l, mdx, st, M, rfl, hL, hM, wl, fr, im, tab, q⟩ := h
    refine ⟨_, (pss_cons (ps_if (pt_not (pt_val (pe_def D_is_right (hr.mono (by decide)) rfl (pa_cons (pv 1) pa_nil)))) (pss_one (ps_ret (pe_def D_number_alone (hr.mono (by decide)) rfl (pa_cons (pe_gint rfl T.g_WRONG_MAKE) pa_nil)))) pss_nil) (pss_cons (ps_fld (pv 0) (pe_cls D_Keeper (hr.mono (by decide)) rfl (pa_cons (pv 1) pa_nil)) rfl) (pss_one (ps_ret (pe_def D_number_alone (hr.mono (by decide)) rfl (pa_cons pe_int pa_nil)))))), ?_⟩
    refine ⟨_, rfl, m, M, rfl, ⟨l, mdx, hM⟩, im, fun H1 sm1 => ⟨_, rfl, ?_⟩⟩
    rw [does_start] at q
    by_cases g : goodMake M = true
    · rw [if_pos g] at q
      rw [g]
      have G := GM.of im g
      have hM1 := hM.same sm1
      refine iteF ⟨_, rfl, fun x dx hx hdx hne => ?_⟩
      have sm2 : Same H1 (upd (upd H1 dx (.own x)) x (.ins CK dx [])) := Same.made hx hdx fun b o e _ => e
      refine ⟨x, dx, m, l, mdx, M, rfl, upd_same, hM1.same sm2, wl, fun b hb => fr b ((sm1.trans sm2).free hb), G, fun H3 hk3 s3 => ⟨rfl, ?_⟩⟩
      have sm3 : Same H1 H3 := Same.made hx hdx s3
      obtain ⟨ldx, v, hp, _⟩ := hL
      have hp3 := sm3 _ _ (sm1 _ _ hp)
      have eP : putF "keeper" (.ref x) (lnF v) = lnF (.ref x) := zf_put (i := 0) (by decide +kernel) rfl (show 0 < 1 by decide)
      refine ⟨_, rfl, p, CL, ldx, _, rfl, hp3, T.cl_Line, T.no_Line, (by show 1 < 1000; decide), ?_⟩
      rw [eP]
      refine ⟨0, rfl, fun a H5 fa sm5 ha => ?_⟩
      obtain ⟨kdx, km, kl, kmdx, kpl, kbl, kas, hk⟩ := hk3
      have sB : SameB p H3 (upd H3 p (.ins CL ldx (lnF (.ref x)))) := sameB_upd
      have hk4 := hk.but (fun z => by
        have e := hk.ob
        rw [z, hp3] at e
        exact ln_ne (Option.some.inj e)) (fun z => by
        have e := hk.mak.ob
        rw [z, hp3] at e
        exact ln_ne_mk (Option.some.inj e).symm) sB hp3
      refine q a H5 (((There.of (sm1.trans sm3)).trans There.upd).free fa) ⟨ldx, .ref x, sm5 _ _ upd_same, x, startK M, rfl, ⟨kdx, km, kl, kmdx, kpl, kbl, kas, hk4.same sm5⟩, start_rel G⟩ ?_ ?_ ha
      · exact ((tab.same (sm1.trans sm3)).ofB hp3 sB).same sm5
      · intro b o e h1 h2
        exact sm5 _ _ (sB _ _ (sm3 _ _ (sm1 _ _ e)) fun z => by rw [z, hp] at e; exact h1 _ _ _ (Option.some.inj e).symm)
    · rw [if_neg g] at q
      rw [Bool.eq_false_iff.mpr g]
      refine iteT ⟨-22, rfl, fun a H2 fa sm2 ha => ?_⟩
      have sm := sm1.trans sm2
      exact q a H2 (sm1.free fa) (hL.same sm) (tab.same sm) (SameN.of sm) ha
/-- what a call of the keeper's promises -/
def ToldK (CM CK Pt : Addr) (W : Addr → Prop) (H : Hp) (k : Addr) (S' : KS) (ans : List Int) (Q : VK) : Prop := ∀ (a : Addr) (H' : Hp), H a = none → KAt CM CK W H' k S' → SameK k Pt H H' → TabOk Pt H' → H' a = some (.lst (ans.map V.int)) → Q (.ref a) H'
def sp_ask (CM CK Pt : Addr) (W : Addr → Prop) : Sp := fun vs H Q _ => ∃ (k : Addr) (S : KS) (on : Int), vs = [.ref k, .int on] ∧ KAt CM CK W H k S ∧ TabOk Pt H ∧ ToldK CM CK Pt W H k { S with asked := !decide (on = 0) } [0, 0] Q
theorem d_answer_ask (T : Txt K mg CM CK CL aN aR) {Pt : Addr} : Df P w K mg base "answer_ask" 2 ["keeper", "on"] (sp_ask CM CK Pt W) := T.d_answer_ask.df fun f fd F => by
  have D_number_alone : Df P w K mg base "number_alone" 1 _ _ := d_number_alone T
  refine F.ok sc_answer_ask (fun vs H Q E h => ?_) (fun cdv A outer s H vs Q E hr h => ?_)
  · obtain ⟨k, S, on, rfl, _⟩ := h; rfl
  · obtain ⟨k, S', on, rfl, ⟨dx, m, l, mdx, pl, bl, as, h⟩, tab, q⟩ := h
    refine ⟨_, (pss_cons (ps_fld (pv 0) (pe_cmpR op_ne (pv 1) pe_int (nomark _)) rfl) (pss_one (ps_ret (pe_def D_number_alone (hr.mono (by decide)) rfl (pa_cons pe_int pa_nil))))), ?_⟩
    refine ⟨_, rfl, rfl, _, rfl, setK T h 3 rfl ?_⟩
    have e0 : (!decide (V.int on = V.int 0)) = !decide (on = 0) := by
      by_cases z : on = 0
      · rw [z]; rfl
      · rw [decide_eq_false z, decide_eq_false fun z' => z (V.int.inj z')]
    rw [e0]
    have h2 : KpAt CM CK W (upd H k (.ins CK dx (putF "asked" (.bl (!decide (on = 0))) (kpF m pl bl S')))) k dx m l mdx pl bl as { S' with asked := !decide (on = 0) } := h.turn (put3 _ _ _ _ _) rfl h.pl h.tup h.bl h.ww.2.1 h.ww.2.2
    exact ⟨0, rfl, fun a H5 fa sm5 ha => q a H5 (There.upd.free fa) ⟨dx, m, l, mdx, pl, bl, as, h2.same sm5⟩ (SameK.ofB (sameB_upd.trans (SameB.of sm5))) ((tab.ofB h.ob sameB_upd).same sm5) ha⟩
def cellAns (S : KS) (n : Nat) : List Int := match S.cells[n]? with
  | none => [0, -2]
  | some p => [1, p.lo, p.hi]
def sp_cell (CM CK Pt : Addr) (W : Addr → Prop) : Sp := fun vs H Q _ => ∃ (k : Addr) (S : KS) (n : Int), vs = [.ref k, .int n] ∧ KAt CM CK W H k S ∧ KOk S ∧ 0 ≤ n ∧ TabOk Pt H ∧ ToldK CM CK Pt W H k S (cellAns S n.toNat) Q
theorem d_answer_cell (T : Txt K mg CM CK CL aN aR) {Pt : Addr} : Df P w K mg base "answer_cell" 2 ["keeper", "k"] (sp_cell CM CK Pt W) := T.d_answer_cell.df fun f fd F => by
  have D_number_alone : Df P w K mg base "number_alone" 1 _ _ := d_number_alone T
  refine F.ok sc_answer_cell (fun vs H Q E h => ?_) (fun cdv A outer s H vs Q E hr h => ?_)
  · obtain ⟨k, S, n, rfl, _⟩ := h; rfl
  · obtain ⟨k, S', n, rfl, ⟨dx, m, l, mdx, pl, bl, as, h⟩, ok, n0, tab, q⟩ := h
    have S := sc_answer_cell
    have hcl := ok.cl
    have c1 := ok.gm.c1
    refine ⟨_, (pss_cons (ps_if (pt_cmpR op_ge (pv 1) (pe_fld (pe_fld (pv 0) rfl) rfl) (nomark _)) (pss_one (ps_ret (pe_def D_number_alone (hr.mono (by decide)) rfl (pa_cons (pe_gint rfl T.g_NO_CELL) pa_nil)))) pss_nil) (pss_cons (ps_set (i := 2) S.nd rfl (Or.inl rfl) (pe_ix ix_list (pe_fld (pv 0) rfl) (pv 1) (fun _ _ => rfl))) (pss_one (ps_ret (pe_lst (pa_cons pe_int (pa_cons (pe_ix ix_tup (pv 2) pe_int (fun _ _ => rfl)) (pa_cons (pe_ix ix_tup (pv 2) pe_int (fun _ _ => rfl)) pa_nil)))))))), ?_⟩
    refine ⟨_, rfl, _, rfl, fldK T h 0 rfl rfl (fldM T h.mak 0 rfl rfl ⟨_, _, rfl, rfl, _, rfl, chk (fun c => ?_) fun c => ?_⟩)⟩
    · have e : cellAns S' n.toNat = [0, -2] := by
        unfold cellAns; rw [List.getElem?_eq_none (by omega)]
      rw [e] at q
      exact ⟨-2, rfl, fun a H2 fa sm ha => q a H2 fa ⟨dx, m, l, mdx, pl, bl, as, h.same sm⟩ (SameK.of sm) (tab.same sm) ha⟩
    · have hn : n.toNat < S'.cells.length := by omega
      have ep : S'.cells[n.toNat]? = some S'.cells[n.toNat] := List.getElem?_eq_getElem hn
      have hna : n.toNat < as.length := by rw [h.tup.1]; exact hn
      have ea : as[n.toNat]? = some as[n.toNat] := List.getElem?_eq_getElem hna
      have tp := h.tup.2 _ _ _ ea ep
      have e : cellAns S' n.toNat = [1, S'.cells[n.toNat].lo, S'.cells[n.toNat].hi] := by
        unfold cellAns; rw [ep]
      rw [e] at q
      refine ⟨_, rfl, fldK T h 1 rfl rfl ⟨_, rfl, _, _, _, _, rfl, rfl, SqL.of h.pl, at_of (j := n.toNat) (v := .ref as[n.toNat]) (by omega) (by rw [List.getElem?_map, ea]; rfl), ?_⟩⟩
      exact ⟨_, rfl, _, _, _, _, rfl, rfl, SqT.of tp, rfl, _, rfl, _, _, _, _, rfl, rfl, SqT.of tp, rfl, (by show 3 ≤ sizeLine; decide), fun a ha => q a _ ha ⟨dx, m, l, mdx, pl, bl, as, h.same (same_upd ha)⟩ (SameK.of (same_upd ha)) (tab.same (same_upd ha)) upd_same⟩
def sp_state (CM CK Pt : Addr) (W : Addr → Prop) : Sp := fun vs H Q _ => ∃ (k : Addr) (S : KS), vs = [.ref k] ∧ KAt CM CK W H k S ∧ KOk S ∧ TabOk Pt H ∧ ToldK CM CK Pt W H k S [2, 0, 4, S.sw, if S.asked = true then 1 else 0, Kp115.mask S.bled, if S.sw = 1 then S.f else 0] Q
theorem d_answer_state (T : Txt K mg CM CK CL aN aR) {Pt : Addr} : Df P w K mg base "answer_state" 2 ["keeper"] (sp_state CM CK Pt W) := T.d_answer_state.df fun f fd F => by
  have D_number_and_four : Df P w K mg base "number_and_four" 1 _ _ := d_number_and_four T
  have D_bled_bits : Df P w K mg base "bled_bits" 1 _ _ := d_bled_bits T (W := W)
  refine F.ok sc_answer_state (fun vs H Q E h => ?_) (fun cdv A outer s H vs Q E hr h => ?_)
  · obtain ⟨k, S, rfl, _⟩ := h; rfl
  · obtain ⟨k, S', rfl, ⟨dx, m, l, mdx, pl, bl, as, h⟩, ok, tab, q⟩ := h
    have S := sc_answer_state
    refine ⟨_, (pss_cons (ps_set (i := 1) S.nd rfl (Or.inl rfl) (pe_ifExp (pt_val (pe_fld (pv 0) rfl)) pe_int pe_int)) (pss_cons (ps_set (i := 2) S.nd rfl (Or.inl rfl) (pe_ifExp (pt_cmpR op_eq (pe_fld (pv 0) rfl) (pe_gint rfl T.g_FILLING) (nomark _)) (pe_fld (pv 0) rfl) pe_int)) (pss_one (ps_ret (pe_def D_number_and_four (hr.mono (by decide)) rfl (pa_cons pe_int (pa_cons (pe_lst (pa_cons (pe_fld (pv 0) rfl) (pa_cons (pv 1) (pa_cons (pe_def D_bled_bits (hr.mono (by decide)) rfl (pa_cons (pv 0) pa_nil)) (pa_cons (pv 2) pa_nil))))) pa_nil))))))), ?_⟩
    refine ⟨_, rfl, fldK T h 3 rfl rfl ⟨_, rfl, ite2 (fun cA => ?_) fun cA => ?_⟩⟩
    all_goals (first | rw [if_pos cA] at q | rw [if_neg cA] at q)
    all_goals refine ⟨_, rfl, fldK T h 4 rfl rfl ⟨rfl, _, rfl, chk (fun c => ?_) fun c => ?_⟩⟩
    all_goals first
      | (have c : S'.sw = 1 := V.int.inj c
         rw [if_pos c] at q
         refine ⟨_, rfl, fldK T h 5 rfl rfl ?_⟩
         refine ⟨_, rfl, fldK T h 4 rfl rfl ⟨_, rfl, _, rfl, k, S', rfl, ⟨dx, m, l, mdx, pl, bl, as, h⟩, ok, fun H1 sm1 => ⟨_, rfl, (by show 4 ≤ sizeLine; decide), fun t ht => ?_⟩⟩⟩
         exact ⟨_, _, _, _, _, t, rfl, upd_same, fun a H2 fa sm2 ha => q a H2 ((sm1.trans (same_upd ht)).free fa) ⟨dx, m, l, mdx, pl, bl, as, h.same ((sm1.trans (same_upd ht)).trans sm2)⟩ (SameK.of ((sm1.trans (same_upd ht)).trans sm2)) (tab.same ((sm1.trans (same_upd ht)).trans sm2)) ha⟩)
      | (have c : ¬ S'.sw = 1 := fun z => c (by rw [z])
         rw [if_neg c] at q
         refine ⟨_, rfl, fldK T h 4 rfl rfl ⟨_, rfl, _, rfl, k, S', rfl, ⟨dx, m, l, mdx, pl, bl, as, h⟩, ok, fun H1 sm1 => ⟨_, rfl, (by show 4 ≤ sizeLine; decide), fun t ht => ?_⟩⟩⟩
         exact ⟨_, _, _, _, _, t, rfl, upd_same, fun a H2 fa sm2 ha => q a H2 ((sm1.trans (same_upd ht)).free fa) ⟨dx, m, l, mdx, pl, bl, as, h.same ((sm1.trans (same_upd ht)).trans sm2)⟩ (SameK.of ((sm1.trans (same_upd ht)).trans sm2)) (tab.same ((sm1.trans (same_upd ht)).trans sm2)) ha⟩)
theorem clearK_m (S : KS) : (clearK S).m = S.m := by unfold clearK; split <;> rfl
theorem tickK_m (S : KS) (i link : Int) (v : List Int) : (tickK S i link v).m = S.m := by
  unfold tickK
  split
  · rfl
  · rw [clearK_m]; exact goK_m _ _ _ _
theorem cut_row {row : List Int} {n : Int} (h0 : 0 ≤ n) (h1 : n.toNat ≤ row.length) : cutV (row.map V.int) none (some n) = (row.take n.toNat).map V.int := by
  obtain ⟨k, rfl⟩ : ∃ k : Nat, n = (k : Int) := ⟨n.toNat, by omega⟩
  have h1 : k ≤ row.length := by simpa using h1
  unfold cutV
  rw [HT.sIx_none, HT.sIx_nat, List.drop_zero, List.map_take, List.length_map]
  congr 1
  show min k row.length - 0 = k
  omega
def sp_tk (K : PySem.W.Frag) (CM CK Pt : Addr) (W : Addr → Prop) : Sp := fun vs H Q _ => ∃ (k rl : Addr) (S : KS) (i link : Int) (row : List Int), vs = [.ref k, .int i, .int link, .ref rl] ∧ KAt CM CK W H k S ∧ KOk S ∧ SqL K H rl (row.map V.int) ∧ row.length = 16 ∧ TabOk Pt H ∧ (∀ b, H b = none → W b) ∧
  KOk (tickK S i link (row.take S.cells.length)) ∧ ToldK CM CK Pt W H k (tickK S i link (row.take S.cells.length)) (let R := tickK S i link (row.take S.cells.length); [2, R.sw, 4, R.sw, Kp115.mask R.bled, (mostK R).1, (mostK R).2]) Q
theorem d_answer_tick (T : Txt K mg CM CK CL aN aR) {Pt : Addr} (D_most_currents : Df P w K mg base "most_currents" 7 ["make", "pair"] (sp_most CM Pt)) : Df P w K mg base "answer_tick" 10 ["keeper", "measured", "link", "row"] (sp_tk K CM CK Pt W) := T.d_answer_tick.df fun f fd F => by
  have D_tick : Df P w K mg base "tick" 9 _ _ := d_tick T (W := W)
  have D_currents_for_next : Df P w K mg base "currents_for_next" 8 _ _ := d_currents_for_next T (W := W) D_most_currents
  have D_number_and_four : Df P w K mg base "number_and_four" 1 _ _ := d_number_and_four T
  have D_bled_bits : Df P w K mg base "bled_bits" 1 _ _ := d_bled_bits T (W := W)
  refine F.ok sc_answer_tick (fun vs H Q E h => ?_) (fun cdv A outer s H vs Q E hr h => ?_)
  · obtain ⟨k, rl, S, i, link, row, rfl, _⟩ := h; rfl
  · obtain ⟨k, rl, S', i, link, row, rfl, ⟨dx, m, l, mdx, pl, bl, as, h⟩, ok, hrow, h16, tab, fr, okR, q⟩ := h
    have S := sc_answer_tick
    have hcl := ok.cl
    have c1 := ok.gm.c1
    have c2 := ok.gm.c2
    refine ⟨_, (pss_cons (ps_expr (pe_def D_tick (hr.mono (by decide)) rfl (pa_cons (pv 0) (pa_cons (pv 1) (pa_cons (pv 2) (pa_cons (pe_slice sl_list (pv 3) po_none (po_some (pe_fld (pe_fld (pv 0) rfl) rfl))) pa_nil)))))) (pss_cons (ps_set (i := 4) S.nd rfl (Or.inl rfl) (pe_def D_currents_for_next (hr.mono (by decide)) rfl (pa_cons (pv 0) pa_nil))) (pss_one (ps_ret (pe_def D_number_and_four (hr.mono (by decide)) rfl (pa_cons (pe_fld (pv 0) rfl) (pa_cons (pe_lst (pa_cons (pe_fld (pv 0) rfl) (pa_cons (pe_def D_bled_bits (hr.mono (by decide)) rfl (pa_cons (pv 0) pa_nil)) (pa_cons (pe_ix ix_tup (pv 4) pe_int (fun _ _ => rfl)) (pa_cons (pe_ix ix_tup (pv 4) pe_int (fun _ _ => rfl)) pa_nil))))) pa_nil))))))), ?_⟩
    refine ⟨_, rfl, _, rfl, _, rfl, _, rfl, _, rfl, fldK T h 0 rfl rfl (fldM T h.mak 0 rfl rfl ⟨_, rfl, rl, _, rfl, hrow, fun v hv => ?_⟩)⟩
    rw [cut_row (by omega) (by omega), ← hcl]
    have sm0 : Same H (upd H v (.lst ((row.take S'.cells.length).map V.int))) := same_upd hv
    refine ⟨k, v, S', i, link, row.take S'.cells.length, rfl, ⟨dx, m, l, mdx, pl, bl, as, h.same sm0⟩, ok, upd_same, ?_, (fun b hb => fr b (sm0.free hb)), fun H1 hk1 s1 => ?_⟩
    · rw [List.length_take]; omega
    · generalize tickK S' i link (row.take S'.cells.length) = R at q hk1 okR
      have sK : SameB k H H1 := (SameB.of sm0).trans s1
      have tab1 : TabOk Pt H1 := tab.ofB h.ob sK
      refine ⟨_, rfl, k, R, rfl, hk1, okR, tab1, fun t H2 sT tab2 ht => ?_⟩
      obtain ⟨dx1, m1, l1, mdx1, pl1, bl1, as1, h1⟩ := hk1
      have h2 := h1.sameT tab1 sT
      refine ⟨_, rfl, fldK T h2 4 rfl rfl ⟨_, rfl, fldK T h2 4 rfl rfl ⟨_, rfl, k, R, rfl, ⟨dx1, m1, l1, mdx1, pl1, bl1, as1, h2⟩, okR, fun H3 sm3 => ?_⟩⟩⟩
      refine ⟨_, rfl, _, _, _, _, rfl, rfl, SqT.of (sm3 _ _ ht), rfl, _, rfl, _, _, _, _, rfl, rfl, SqT.of (sm3 _ _ ht), rfl, (by show 4 ≤ sizeLine; decide), fun u hu => ?_⟩
      refine ⟨_, _, _, _, _, u, rfl, upd_same, fun a H4 fa sm4 ha => ?_⟩
      have sm := (sm3.trans (same_upd hu)).trans sm4
      exact q a H4 ((((There.b sK h1.ob).trans (There.t sT tab2)).trans (There.of (sm3.trans (same_upd hu)))).free fa) ⟨dx1, m1, l1, mdx1, pl1, bl1, as1, h2.same sm⟩ (((SameK.ofB sK).trans (SameK.ofT sT)).trans (SameK.of sm)) (tab2.same sm) ha
end
end BK
end
section
set_option Elab.async false
set_option linter.all false
set_option maxRecDepth 100000
set_option maxHeartbeats 4000000
namespace BK
open PySem L2
open Kp113 (Make Pr falls fallsLeast within iLow iHigh point isMake goodMake)
open Kp115Neutral (does wrKp115_Ans may)
theorem mostK_eq {S : KS} {A : Kp115.Abs} (R : Rel S A) : mostK S = Kp115.most A := by
  unfold mostK
  by_cases h : A.sw = 2
  · rw [if_pos (by rw [R.sw, h]; rfl), most_closed h, R.cells, R.m]
  · rw [if_neg (by rw [R.sw]; omega), most_open h]
theorem may_some {s : Kp115Neutral.S} {x : Kp115.Call} (h : may s x = true) (hx : Kp115Neutral.starts x = false) : ∃ A, s = some A := by
  unfold may at h
  rw [hx, Bool.or_false, Bool.and_eq_true] at h
  cases s with
  | none => exact absurd h.1 (by decide)
  | some A => exact ⟨A, rfl⟩
section
variable {W : Addr → Prop} {P : Program} {w : World} {K : PySem.W.Frag} {mg : Str → Option Value} {base : Heap} {CM CK CL aN aR : Addr}
def sp_call (K : PySem.W.Frag) (CM CK CL Pt : Addr) : Sp := fun vs H Q _ => ∃ (W : Addr → Prop) (p nl rl : Addr) (s : Kp115Neutral.S) (j : Int) (nums row : List Int) (x : Kp115.Call), vs = [.ref p, .int j, .ref nl, .ref rl] ∧ LineAt CM CK CL W H p s ∧ Is j nums row x ∧ may s x = true ∧
  SqL K H nl (nums.map V.int) ∧ SqL K H rl (row.map V.int) ∧ TabOk Pt H ∧ (∀ b, H b = none → W b) ∧ Told CM CK CL Pt W H p (does s x) Q
theorem Told.same {H H' : Hp} {p Pt : Addr} {r : Kp115Neutral.S × Kp115.Ans} {Q : VK} (h : Told CM CK CL Pt W H p r Q) (s : Same H H') : Told CM CK CL Pt W H' p r Q := fun a H2 h0 h1 h2 h3 h4 => h a H2 (s.free h0) h1 h2 ((SameN.of s).trans h3) h4
/-- a keeper's call, as the line's -/
theorem told_k {H : Hp} {p Pt k ldx dx m l mdx pl bl : Addr} {as : List Addr} {S S' : KS} {A' : Kp115.Abs} {an : Kp115.Ans} {ans : List Int} {Q : VK} (hp : H p = some (.ins CL ldx (lnF (.ref k)))) (h : KpAt CM CK W H k dx m l mdx pl bl as S) (tab : TabOk Pt H) (R : Rel S' A') (ha : wrKp115_Ans an = ans)
    (q : Told CM CK CL Pt W H p (some A', an) Q) : ToldK CM CK Pt W H k S' ans Q := fun a H' fa hk sK tab' e => by
  refine q a H' fa ⟨ldx, .ref k, sK _ _ hp (ne_of hp h.ob ln_ne) (tab.ne hp fun _ => nofun), k, S', rfl, hk, R⟩ tab' (SameN.ofK tab h.ob sK) ?_
  rw [ha]; exact e
theorem d_answer_call (T : Txt K mg CM CK CL aN aR) {Pt : Addr} (D_most_currents : Df P w K mg base "most_currents" 7 ["make", "pair"] (sp_most CM Pt)) : Df P w K mg base "answer_call" 11 ["line", "call", "numbers", "row"] (sp_call K CM CK CL Pt) := T.d_answer_call.df fun f fd F => by
  refine F.ok sc_answer_call (fun vs H Q E h => ?_) (fun cdv A outer s H vs Q E hr h => ?_)
  · obtain ⟨W, p, nl, rl, st, j, nums, row, x, rfl, _⟩ := h; rfl
  · obtain ⟨W, p, nl, rl, st, j, nums, row, x, rfl, hL, is, hm, hn, hrw, tab, fr, q⟩ := h
    have D_answer_start : Df P w K mg base "answer_start" 3 _ (sp_start CM CK CL Pt W) := d_answer_start T
    have D_answer_ask : Df P w K mg base "answer_ask" 2 _ (sp_ask CM CK Pt W) := d_answer_ask T
    have D_answer_tick : Df P w K mg base "answer_tick" 10 _ _ := d_answer_tick T (W := W) D_most_currents
    have D_answer_cell : Df P w K mg base "answer_cell" 2 _ (sp_cell CM CK Pt W) := d_answer_cell T
    have D_answer_state : Df P w K mg base "answer_state" 2 _ (sp_state CM CK Pt W) := d_answer_state T
    have D_Make : Dc P w K mg base "Make" CM 1 _ _ := i_Make T
    refine ⟨_, (pss_cons (ps_if (pt_cmpR op_eq (pv 1) (pe_gint rfl T.g_START) (nomark _)) (pss_one (ps_ret (pe_def D_answer_start (hr.mono (by decide)) rfl (pa_cons (pv 0) (pa_cons (pe_cls D_Make (hr.mono (by decide)) rfl (pa_cons (pv 2) (pa_cons (pv 3) pa_nil))) pa_nil))))) pss_nil) (pss_cons (ps_if (pt_cmpR op_eq (pv 1) (pe_gint rfl T.g_ASK) (nomark _)) (pss_one (ps_ret (pe_def D_answer_ask (hr.mono (by decide)) rfl (pa_cons (pe_fld (pv 0) rfl) (pa_cons (pe_ix ix_list (pv 2) pe_int (fun _ _ => rfl)) pa_nil))))) pss_nil) (pss_cons (ps_if (pt_cmpR op_eq (pv 1) (pe_gint rfl T.g_TICK) (nomark _)) (pss_one (ps_ret (pe_def D_answer_tick (hr.mono (by decide)) rfl (pa_cons (pe_fld (pv 0) rfl) (pa_cons (pe_ix ix_list (pv 2) pe_int (fun _ _ => rfl)) (pa_cons (pe_ix ix_list (pv 2) pe_int (fun _ _ => rfl)) (pa_cons (pv 3) pa_nil))))))) pss_nil) (pss_cons (ps_if (pt_cmpR op_eq (pv 1) (pe_gint rfl T.g_CELL) (nomark _)) (pss_one (ps_ret (pe_def D_answer_cell (hr.mono (by decide)) rfl (pa_cons (pe_fld (pv 0) rfl) (pa_cons (pe_ix ix_list (pv 2) pe_int (fun _ _ => rfl)) pa_nil))))) pss_nil) (pss_one (ps_ret (pe_def D_answer_state (hr.mono (by decide)) rfl (pa_cons (pe_fld (pv 0) rfl) pa_nil)))))))), ?_⟩
    refine ⟨_, rfl, rfl, _, rfl, ?_⟩
    cases is with
    | start _ _ hl im =>
      refine iteT ⟨_, rfl, _, rfl, _, rfl, fun x dx hx hdx hne => ?_⟩
      have sm2 : Same H (upd (upd H dx (.own x)) x (.ins CM dx [])) := Same.made hx hdx fun b o e _ => e
      refine ⟨x, dx, nl, rl, nums, row, rfl, upd_same, sm2.seq hn, hl, sm2.seq hrw, fun l H2 fl hM s2 => ⟨rfl, ?_⟩⟩
      have sm : Same H H2 := Same.made hx hdx s2
      exact ⟨p, x, l, dx, st, _, rfl, hL.same sm, hM, fr l (sm2.free fl), fun b hb => fr b (sm.free hb), im, tab.same sm, q.same sm⟩
    | ask on h0 =>
      obtain ⟨B, rfl⟩ := may_some hm rfl
      obtain ⟨ldx, v, hp, k, S', rfl, ⟨dx, m, l, mdx, pl, bl, as, h⟩, R⟩ := hL
      refine iteF ⟨_, rfl, rfl, _, rfl, iteT ⟨_, rfl, fldL T hp ⟨_, rfl, _, _, _, _, rfl, rfl, hn, rfl, k, S', on, rfl, ⟨dx, m, l, mdx, pl, bl, as, h⟩, tab, ?_⟩⟩⟩
      rw [does_ask] at q
      have e : (!decide (on = 0)) = (on.toNat != 0) := by
        by_cases z : on = 0
        · rw [z]; rfl
        · have z2 : on.toNat ≠ 0 := by omega
          rw [decide_eq_false z, bne_iff_ne.mpr z2]; rfl
      rw [e]
      exact told_k hp h tab (ask_rel R _) rfl q
    | tick i link _ h16 =>
      obtain ⟨B, rfl⟩ := may_some hm rfl
      obtain ⟨ldx, v, hp, k, S', rfl, ⟨dx, m, l, mdx, pl, bl, as, h⟩, R⟩ := hL
      have R2 := tick_rel R i link (row.take B.cells.length)
      rw [does_tick] at q
      rw [← R.cells] at R2 q
      refine iteF ⟨_, rfl, rfl, _, rfl, iteF ⟨_, rfl, rfl, _, rfl, iteT ⟨_, rfl, fldL T hp ⟨_, rfl, _, _, _, _, rfl, rfl, hn, rfl, _, rfl, _, _, _, _, rfl, rfl, hn, rfl, _, rfl, k, rl, S', i, link, row, rfl, ⟨dx, m, l, mdx, pl, bl, as, h⟩, KOk.of R, hrw, h16, tab, fr, KOk.of R2, ?_⟩⟩⟩⟩
      refine told_k hp h tab R2 ?_ q
      rw [wr_out]
      dsimp only
      rw [R2.sw, R2.bled, mostK_eq R2]
    | cell n h0 h1 =>
      obtain ⟨B, rfl⟩ := may_some hm rfl
      obtain ⟨ldx, v, hp, k, S', rfl, ⟨dx, m, l, mdx, pl, bl, as, h⟩, R⟩ := hL
      rw [does_cell] at q
      refine iteF ⟨_, rfl, rfl, _, rfl, iteF ⟨_, rfl, rfl, _, rfl, iteF ⟨_, rfl, rfl, _, rfl, iteT ⟨_, rfl, fldL T hp ⟨_, rfl, _, _, _, _, rfl, rfl, hn, rfl, k, S', n, rfl, ⟨dx, m, l, mdx, pl, bl, as, h⟩, KOk.of R, h0, tab, ?_⟩⟩⟩⟩⟩
      refine told_k hp h tab R ?_ q
      unfold cellAns
      rw [R.cells]
      cases B.cells[n.toNat]? with
      | none => rfl
      | some p => rfl
    | state =>
      obtain ⟨B, rfl⟩ := may_some hm rfl
      obtain ⟨ldx, v, hp, k, S', rfl, ⟨dx, m, l, mdx, pl, bl, as, h⟩, R⟩ := hL
      rw [does_state] at q
      refine iteF ⟨_, rfl, rfl, _, rfl, iteF ⟨_, rfl, rfl, _, rfl, iteF ⟨_, rfl, rfl, _, rfl, iteF ⟨_, rfl, fldL T hp ⟨k, S', rfl, ⟨dx, m, l, mdx, pl, bl, as, h⟩, KOk.of R, tab, ?_⟩⟩⟩⟩⟩
      refine told_k hp h tab R ?_ q
      rw [wr_out, R.sw, R.bled, R.asked]
      have e : (if (B.sw : Int) = 1 then S'.f else 0) = B.n := by
        by_cases z : B.sw = 1
        · rw [if_pos (by rw [z]; rfl)]; exact (R.n1 z).1
        · rw [if_neg (by omega)]; exact (R.n0 z).symm
      rw [e]
theorem sqN {H H' : Hp} {a : Addr} {xs : List V} (h : SqL K H a xs) (s : SameN H H') : SqL K H' a xs := by
  rcases h with (h | ⟨ob, h⟩) | h
  · exact .inl (.inl (s _ _ h (fun _ _ _ => nofun) fun _ => nofun))
  · exact .inl (.inr ⟨ob, s _ _ h (fun _ _ _ => nofun) fun _ => nofun⟩)
  · exact .inr h
theorem sq_upT {H : Hp} {a t : Addr} {o : HO} {xs : List V} (h : SqL K H a xs) (g : a ≠ t ∨ ∀ H' : Hp, SqL K H' a xs) : SqL K (upd H t o) a xs := by
  rcases g with g | g
  · rcases h with (h | ⟨ob, h⟩) | h
    · exact .inl (.inl (by rw [upd_ne g]; exact h))
    · exact .inl (.inr ⟨ob, by rw [upd_ne g]; exact h⟩)
    · exact .inr h
  · exact g _
/-- the list of what's told is none of the keeper's -/
theorem LnV.upT {H : Hp} {t : Addr} {o : HO} {xs : List V} {v : V} {s : Kp115Neutral.S} (ht : H t = some (.lst xs)) (h : LnV CM CK (fun b => b ≠ t) H v s) : LnV CM CK (fun b => b ≠ t) (upd H t o) v s := by
  cases s with
  | none => exact h
  | some A =>
    obtain ⟨k, S, e, ⟨dx, m, l, mdx, pl, bl, as, h⟩, R⟩ := h
    refine ⟨k, S, e, ⟨dx, m, l, mdx, pl, bl, as, ⟨?_, ⟨?_, ?_⟩, ?_, ?_, ?_, h.ww⟩⟩, R⟩
    · rw [upd_ne (ne_of h.ob ht nofun)]; exact h.ob
    · rw [upd_ne (ne_of h.mak.ob ht nofun)]; exact h.mak.ob
    · rw [upd_ne h.ww.1]; exact h.mak.cu
    · rw [upd_ne h.ww.2.1]; exact h.pl
    · exact h.tup.but fun b xs' e' => by rw [upd_ne (ne_of e' ht nofun)]; exact e'
    · rw [upd_ne h.ww.2.2]; exact h.bl
theorem cut_mid {ns : List Int} {lo hi : Int} {b n : Nat} (e1 : lo = (b : Int)) (e2 : hi = ((b + n : Nat) : Int)) (h : b + n ≤ ns.length) : cutV (ns.map V.int) (some lo) (some hi) = ((ns.drop b).take n).map V.int := by
  subst e1 e2
  unfold cutV
  rw [HT.sIx_nat, HT.sIx_nat, List.map_take, List.map_drop, List.length_map]
  congr 1
  · omega
  · congr 1
    omega
def sp_answers (K : PySem.W.Frag) (Pt : Addr) : Sp := fun vs H Q _ => ∃ (a : Addr) (ns : List Int), vs = [.ref a] ∧ SqL K H a (ns.map V.int) ∧ ns.length ≤ 16000 ∧ PyKp115.answers_asked ns = true ∧ TabOk Pt H ∧ ∀ (t : Addr) (H' : Hp), H' t = some (.lst ((PyKp115.answers ns).map V.int)) → TabOk Pt H' → Q (.ref t) H'
def mu10 (n : Nat) (σ : St) (_ : Hp) : Nat := match σ with
  | [_, _, _, some (.int b), _, _, _, _, _, _] => (n - b).toNat
  | _ => 0
theorem ans_len {s : Kp115Neutral.S} {x : Kp115.Call} : (wrKp115_Ans (does s x).2).length ≤ 7 := by
  have key : ∀ (A : Kp115.Abs) (x : Kp115.Call), (wrKp115_Ans (Kp115.act A x).2).length ≤ 7 := by
    intro A x
    cases x with
    | start m =>
      rw [act_start]
      split <;> exact (by decide : 2 ≤ 7)
    | ask on => exact (by decide : 2 ≤ 7)
    | tick i v link => exact (by decide : 7 ≤ 7)
    | cell k =>
      show (wrKp115_Ans (match A.cells[k]? with | none => .num (-2) | some p => .pair p)).length ≤ 7
      cases A.cells[k]? with
      | none => exact (by decide : 2 ≤ 7)
      | some p => exact (by decide : 3 ≤ 7)
    | state => exact (by decide : 7 ≤ 7)
  cases s with
  | none =>
    unfold does
    dsimp only
    split
    · exact key _ _
    · exact (by decide : 2 ≤ 7)
  | some A => exact key A x
theorem d_answers (T : Txt K mg CM CK CL aN aR) {Pt : Addr} (D_most_currents : Df P w K mg base "most_currents" 7 ["make", "pair"] (sp_most CM Pt)) : Df P w K mg base "answers" 12 ["calls"] (sp_answers K Pt) := T.d_answers.df fun f fd F => by
  have D_answer_call : Df P w K mg base "answer_call" 11 _ _ := d_answer_call T D_most_currents
  have D_Line : Dc P w K mg base "Line" CL 1 _ _ := i_Line T
  refine F.ok sc_answers (fun vs H Q E h => ?_) (fun cdv A outer s H vs Q E hr h => ?_)
  · obtain ⟨a, ns, rfl, _⟩ := h; rfl
  · obtain ⟨a, ns, rfl, hs, hlen, hask, tab, q⟩ := h
    have S := sc_answers
    refine ⟨_, (pss_cons (ps_set (i := 1) S.nd rfl (Or.inl rfl) (pe_cls0 D_Line (hr.mono (by decide)) rfl)) (pss_cons (ps_set (i := 2) S.nd rfl (Or.inl rfl) (pe_lst pa_nil)) (pss_cons (ps_set (i := 3) S.nd rfl (Or.inl rfl) pe_int) (pss_cons (ps_while PassesOwn.never (pt_cmpR op_lt (pv 3) (pe_callB call_len_seq (by rfl) T.n_len bt_len (pa_cons (pv 0) pa_nil)) (nomark _)) (pss_cons (ps_set (i := 4) S.nd rfl (Or.inl rfl) (pe_ix ix_list (pv 0) (pv 3) (fun _ _ => rfl))) (pss_cons (ps_set (i := 5) S.nd rfl (Or.inl rfl) (pe_op op_add (pe_op op_add (pv 3) pe_int) (pe_ix ix_tup (pe_gref rfl T.g_NUMBERS) (pv 4) (fun _ _ => rfl)))) (pss_cons (ps_set (i := 6) S.nd rfl (Or.inl rfl) (pe_slice sl_list (pv 0) (po_some (pe_op op_add (pv 3) pe_int)) (po_some (pv 5)))) (pss_cons (ps_set (i := 7) S.nd rfl (Or.inl rfl) (pe_lst pa_nil)) (pss_cons (ps_if (pt_val (pe_ix ix_tup (pe_gref rfl T.g_HAS_ROW) (pv 4) (fun _ _ => rfl))) (pss_cons (ps_set (i := 8) S.nd rfl (Or.inl rfl) (pe_op op_add (pv 5) pe_int)) (pss_cons (ps_set (i := 5) S.nd rfl (Or.inl rfl) (pe_op op_add (pv 8) (pe_ix ix_list (pv 0) (pv 5) (fun _ _ => rfl)))) (pss_one (ps_set (i := 7) S.nd rfl (Or.inl rfl) (pe_slice sl_list (pv 0) (po_some (pv 8)) (po_some (pv 5))))))) pss_nil) (pss_cons (ps_set (i := 9) S.nd rfl (Or.inl rfl) (pe_def D_answer_call (hr.mono (by decide)) rfl (pa_cons (pv 1) (pa_cons (pv 4) (pa_cons (pv 6) (pa_cons (pv 7) pa_nil)))))) (pss_cons (ps_expr (pe_bm PySem.F.plainAttrs_list PySem.F.slot_list_append PySem.F.type_list_append mt_append (pv 2) (pa_cons (pe_callB call_len_seq (by rfl) T.n_len bt_len (pa_cons (pv 9) pa_nil)) pa_nil))) (pss_cons (ps_expr (pe_bm PySem.F.plainAttrs_list PySem.F.slot_list_extend PySem.F.type_list_extend mt_extend (pv 2) (pa_cons (pv 9) pa_nil))) (pss_one (ps_set (i := 3) S.nd rfl (Or.inl rfl) (pv 5)))))))))))) (pss_one (ps_ret (pv 2))))))), ?_⟩
    refine fun p dx hp hdx hne => ⟨p, dx, rfl, upd_same, fun H1 hp1 s1 => ⟨rfl, ?_⟩⟩
    have sm1 : Same H H1 := Same.made hp hdx s1
    refine ⟨(by show 0 ≤ sizeLine; decide), fun t ht => ?_⟩
    have sm2 := sm1.trans (same_upd (o := .lst []) ht)
    have g : a ≠ t ∨ ∀ H' : Hp, SqL K H' a (ns.map V.int) := by
      rcases hs with (h | ⟨ob, h⟩) | h
      · exact .inl (ne_of_none (sm1 _ _ h) ht)
      · exact .inl (ne_of_none (sm1 _ _ h) ht)
      · exact .inr fun _ => .inr h
    refine while_by (fun σ H' => ∃ (b : Nat) (st : Kp115Neutral.S) (out : List Int) (v4 v5 v6 v7 v8 v9 : Option V), Lp ns b st out ∧ σ = [some (.ref a), some (.ref p), some (.ref t), some (.int b), v4, v5, v6, v7, v8, v9] ∧ H' t = some (.lst (out.map V.int)) ∧ LineAt CM CK CL (fun b => b ≠ t) H' p st ∧ TabOk Pt H' ∧ SqL K H' a (ns.map V.int))
      (mu10 ns.length) ⟨0, none, [], none, none, none, none, none, none, Lp.start hask, rfl, upd_same, ⟨dx, .non, same_upd ht _ _ hp1, rfl⟩, tab.same sm2, sm2.seq hs⟩ ?_ ?_
    · rintro σ H2 ⟨b, st, out, v4, v5, v6, v7, v8, v9, L, rfl, hT, hL, tab2, hsq⟩
      refine ⟨_, rfl, _, rfl, a, _, rfl, .inl hsq, _, _, rfl, rfl, _, rfl, chk (fun c => ?_) fun c => ?_⟩
      · have c : b < ns.length := by rw [List.length_map] at c; omega
        obtain ⟨j, n, hrow, nums, row, e, x, X⟩ := L.next c
        have lLen := L.len
        have bLe := L.le
        have eIn := X.in2
        have aLen := ans_len (s := st) (x := x)
        -- call = calls[begin]
        refine ⟨_, rfl, _, rfl, _, _, _, _, rfl, rfl, hsq, at_of (j := b) (v := .int j) rfl (by rw [List.getElem?_map, X.at_]; rfl), ?_⟩
        -- end = begin + 1 + NUMBERS[call]
        refine ⟨_, rfl, _, _, rfl, rfl, _, rfl, _, _, _, _, rfl, rfl, T.q_NUMBERS _, at_of (j := j) (v := .int n) rfl (by rw [List.getElem?_map, X.num]; rfl), _, _, rfl, rfl, ?_⟩
        -- numbers = calls[begin + 1:end]
        refine ⟨_, rfl, _, rfl, _, _, rfl, rfl, _, rfl, _, rfl, _, rfl, a, _, rfl, hsq, fun nl hnl => ?_⟩
        rw [cut_mid (b := b + 1) (n := n) (by omega) (by omega) X.in1, ← X.nms]
        -- row = []
        refine ⟨(by show 0 ≤ sizeLine; decide), fun rl0 hrl0 => ?_⟩
        have sm3 := (same_upd (o := .lst (nums.map V.int)) hnl).trans (same_upd (o := .lst []) hrl0)
        have nl3 : upd (upd H2 nl (.lst (nums.map V.int))) rl0 (.lst []) nl = some (.lst (nums.map V.int)) := same_upd hrl0 _ _ upd_same
        have rl3 : upd (upd H2 nl (.lst (nums.map V.int))) rl0 (.lst []) rl0 = some (.lst []) := upd_same
        generalize upd (upd H2 nl (.lst (nums.map V.int))) rl0 (.lst []) = H3 at sm3 nl3 rl3
        refine ⟨_, rfl, _, _, _, _, rfl, rfl, T.q_HAS_ROW _, at_of (j := j) (v := .bl hrow) rfl (by rw [List.getElem?_map, X.has]; rfl), _, rfl, ite2 (fun ch => ?_) fun ch => ?_⟩
        · obtain ⟨m, hm, er, hrl, ee⟩ := X.yes ch
          -- row_begin = end + 1; end = row_begin + calls[end]; row = calls[row_begin:end]
          refine ⟨_, rfl, _, _, rfl, rfl, ?_⟩
          refine ⟨_, rfl, _, rfl, _, rfl, _, _, _, _, rfl, rfl, sm3.seq hsq, at_of (j := b + 1 + n) (v := .int m) (by omega) (by rw [List.getElem?_map, hm]; rfl), _, _, rfl, rfl, ?_⟩
          refine ⟨_, rfl, _, rfl, _, rfl, _, rfl, _, rfl, a, _, rfl, sm3.seq hsq, fun rl hrl4 => ?_⟩
          rw [cut_mid (b := b + 1 + n + 1) (n := m) (by omega) (by omega) (by omega), ← er]
          have eE : (b : Int) + 1 + (n : Int) + 1 + (m : Int) = (e : Int) := by omega
          dsimp only
          rw [eE]
          have sm4 := sm3.trans (same_upd (o := .lst (row.map V.int)) hrl4)
          have hN := same_upd (o := .lst (row.map V.int)) hrl4 _ _ nl3
          have hR : SqL K (upd H3 rl (.lst (row.map V.int))) rl (row.map V.int) := SqL.of upd_same
          generalize upd H3 rl (.lst (row.map V.int)) = H4 at sm4 hN hR
          -- answer = answer_call(line, call, numbers, row)
          refine ⟨_, rfl, _, rfl, _, rfl, _, rfl, (fun b => b ≠ t), p, nl, rl, st, j, nums, row, x, rfl, hL.same sm4, X.is, X.may, SqL.of hN, hR, tab2.same sm4, (fun b' hb' z => by rw [z, sm4 _ _ hT] at hb'; cases hb'), fun an H5 fan hL5 tab5 sN5 han => ?_⟩
          have hT5 : H5 t = some (.lst (out.map V.int)) := sN5 _ _ (sm4 _ _ hT) (fun _ _ _ => nofun) fun _ => nofun
          have hne2 : an ≠ t := fun z => by rw [z, sm4 _ _ hT] at fan; cases fan
          -- told.append(len(answer))
          refine ⟨_, rfl, .inl ⟨rfl, _, SqL.of hT5⟩, _, rfl, an, _, rfl, .inl (SqL.of han), t, _, _, rfl, rfl, hT5, ?_, ?_⟩
          · rw [List.length_map]
            exact Nat.lt_of_le_of_lt (by omega : _ ≤ 128000) (by decide)
          -- told.extend(answer)
          refine ⟨_, rfl, .inl ⟨rfl, _, SqL.of upd_same⟩, _, rfl, t, an, _, _, rfl, rfl, upd_same, by rw [upd_ne hne2]; exact han, ?_, ?_⟩
          · rw [List.length_append, List.length_map, List.length_map]
            exact Nat.le_trans (by show _ + 1 + _ ≤ 128016; omega) (by decide)
          -- begin = end
          refine ⟨_, rfl, ⟨e, (does st x).1, _, _, _, _, _, _, _, X.next aLen, rfl, ?_, ?_, ?_, ?_⟩, ?_⟩
          · rw [upd_same, List.map_append, List.map_cons, List.length_map, List.append_assoc]
            rfl
          · obtain ⟨ldx, v, hp5, hv5⟩ := hL5
            exact ⟨ldx, v, by rw [upd_ne (ne_of hp5 hT5 nofun), upd_ne (ne_of hp5 hT5 nofun)]; exact hp5, LnV.upT upd_same (LnV.upT hT5 hv5)⟩
          · refine tab5.but fun b' o e' ho => ?_
            have nb : b' ≠ t := fun z => by
              rw [z, hT5] at e'
              rcases ho with ⟨ps, ho⟩ | ⟨φ, ho⟩
              · rw [ho] at e'; cases e'
              · rw [ho] at e'; cases e'
            rw [upd_ne nb, upd_ne nb]; exact e'
          · exact sq_upT (sq_upT (sqN (sm4.seq hsq) sN5) g) g
          · show ((ns.length : Int) - (e : Int)).toNat < ((ns.length : Int) - (b : Int)).toNat
            have := X.lt
            omega
        · have ch := Bool.eq_false_iff.mpr ch
          obtain ⟨er, ee⟩ := X.no ch
          have eE : (b : Int) + 1 + (n : Int) = (e : Int) := by omega
          dsimp only
          rw [eE]
          have sm4 := sm3
          have hN := nl3
          have hR : SqL K H3 rl0 (row.map V.int) := by rw [er]; exact SqL.of rl3
          generalize H3 = H4 at sm4 hN hR
          generalize rl0 = rl at hR
          -- answer = answer_call(line, call, numbers, row)
          refine ⟨_, rfl, _, rfl, _, rfl, _, rfl, (fun b => b ≠ t), p, nl, rl, st, j, nums, row, x, rfl, hL.same sm4, X.is, X.may, SqL.of hN, hR, tab2.same sm4, (fun b' hb' z => by rw [z, sm4 _ _ hT] at hb'; cases hb'), fun an H5 fan hL5 tab5 sN5 han => ?_⟩
          have hT5 : H5 t = some (.lst (out.map V.int)) := sN5 _ _ (sm4 _ _ hT) (fun _ _ _ => nofun) fun _ => nofun
          have hne2 : an ≠ t := fun z => by rw [z, sm4 _ _ hT] at fan; cases fan
          -- told.append(len(answer))
          refine ⟨_, rfl, .inl ⟨rfl, _, SqL.of hT5⟩, _, rfl, an, _, rfl, .inl (SqL.of han), t, _, _, rfl, rfl, hT5, ?_, ?_⟩
          · rw [List.length_map]
            exact Nat.lt_of_le_of_lt (by omega : _ ≤ 128000) (by decide)
          -- told.extend(answer)
          refine ⟨_, rfl, .inl ⟨rfl, _, SqL.of upd_same⟩, _, rfl, t, an, _, _, rfl, rfl, upd_same, by rw [upd_ne hne2]; exact han, ?_, ?_⟩
          · rw [List.length_append, List.length_map, List.length_map]
            exact Nat.le_trans (by show _ + 1 + _ ≤ 128016; omega) (by decide)
          -- begin = end
          refine ⟨_, rfl, ⟨e, (does st x).1, _, _, _, _, _, _, _, X.next aLen, rfl, ?_, ?_, ?_, ?_⟩, ?_⟩
          · rw [upd_same, List.map_append, List.map_cons, List.length_map, List.append_assoc]
            rfl
          · obtain ⟨ldx, v, hp5, hv5⟩ := hL5
            exact ⟨ldx, v, by rw [upd_ne (ne_of hp5 hT5 nofun), upd_ne (ne_of hp5 hT5 nofun)]; exact hp5, LnV.upT upd_same (LnV.upT hT5 hv5)⟩
          · refine tab5.but fun b' o e' ho => ?_
            have nb : b' ≠ t := fun z => by
              rw [z, hT5] at e'
              rcases ho with ⟨ps, ho⟩ | ⟨φ, ho⟩
              · rw [ho] at e'; cases e'
              · rw [ho] at e'; cases e'
            rw [upd_ne nb, upd_ne nb]; exact e'
          · exact sq_upT (sq_upT (sqN (sm4.seq hsq) sN5) g) g
          · show ((ns.length : Int) - (e : Int)).toNat < ((ns.length : Int) - (b : Int)).toNat
            have := X.lt
            omega
      · have c : ¬ b < ns.length := by rw [List.length_map] at c; omega
        rw [L.done c] at q
        exact ⟨_, rfl, q t H2 hT tab2⟩
    · rintro σ H' Q1 Q2 hq ⟨v3, e3, v0, e0, p', ys, e, sq, i, j, ei, ej, k, ek, q⟩
      exact ⟨v3, e3, v0, e0, p', ys, e, sq, i, j, ei, ej, k, ek, hq _ _ q⟩
end
end BK
end
section
set_option Elab.async false
set_option linter.all false
set_option maxRecDepth 100000
set_option maxHeartbeats 4000000
namespace BK
open PySem L2 PyProof.Rows PySem.W
theorem ints_of_well {P : Params} {h : Heap} : ∀ (ns : List Int) (vs : List Value), WellAll P h vs (ns.map WData.int) → IntsAre vs ns := by
  intro ns
  induction ns with
  | nil =>
    intro vs w
    rw [List.map_nil] at w
    cases w
    exact .nil
  | cons n ns ih =>
    intro vs w
    rw [List.map_cons] at w
    cases w with
    | cons a b =>
      cases a
      exact .cons _ _ (ih _ b)
theorem reads_ints {R : WRecords} {cl : Str → Option Addr} {h : Heap} : ∀ {vs : List Value} {ns : List Int}, IntsAre vs ns → ReadsAllW R cl h vs (ns.map WData.int) []
  | _, _, .nil => .nil
  | _, _, .cons _ _ r => ReadsAllW.cons (as := []) (bs := []) (.int _ _) (reads_ints r)
/-- the call, from a heap in which the table of most_currents' code is tracked, and the list that is handed in is known -/
theorem spec_call {P : Program} {w : World} {K : Frag} {mg mb : Str → Option Value} {k : Nat} {fa a Pt c0 : Addr} {sp : Sp} {s1 : Shared} {vs : List Value} {ns ans : List Int} (KX : K.In s1.heap) (hns : s1.heap.Ns mainGlobals mg) (hb : s1.heap.Ns builtinsNs mb)
    (hbb : ∀ x : Str, x ≠ "__name__" → mb x = bootBuiltins x) (hlim : s1.heap.NoLimit) (hg : s1.gens = #[]) (ha : s1.heap.get? a = some { cls := .type "list", data := .seq vs.toArray }) (hi : IntsAre vs ns) (hl : ns.length ≤ sizeLine) (hr : Room k callerA)
    (hPt : s1.heap.get? Pt = some (tabObj #[])) (hKP : noTabs K = true) (C : CodeHd s1.heap c0 Pt) (B : s1.heap.BuiltinsAt mg Pt) (hmg : mg "answers" = some (.ref fa))
    (F : ∀ base : Heap, K.In base → base.Ns mainGlobals mg → CodeHd base c0 Pt → base.BuiltinsAt mg Pt → Df P w K mg base "answers" k ["calls"] sp)
    (hsp : ∀ H : Hp, SqL K H a (ns.map V.int) → TabOk Pt H → sp [.ref a] H (fun v H' => ∃ t, v = .ref t ∧ H' t = some (.lst (ans.map V.int))) E0) :
    codeAny (model P w) callerA (.call (.ref fa) ⟨[.ref a], []⟩) (fun r s' => ∃ (t : Addr) (its : List Value) (n : Nat), r = .ok (.ret (.ref t)) ∧ s'.heap.get? t = some { cls := .type "list", data := .seq its.toArray n } ∧ IntsAre its ans ∧ OldK s1.heap s'.heap ∧ s'.os = s1.os ∧ AllBare s'.gens) s1 := by
  have rv := vals_ints hi
  have lenV := hi.length
  have hPa : Pt ≠ a := fun z => by
    rw [z, ha] at hPt
    cases hPt
  have core : ∀ H : Hp, H Pt = some (.tbl #[]) → (∀ b, H b = none ∨ b = Pt ∨ (b = a ∧ ∃ o xs, H b = some (.frz o (.lst xs)))) → SqL K H a (ns.map V.int) → HOk P w H s1.heap → (H a ≠ none → K.lookup a = none) →
      codeAny (model P w) callerA (.call (.ref fa) ⟨[.ref a], []⟩) (fun r s' => ∃ (t : Addr) (its : List Value) (n : Nat), r = .ok (.ret (.ref t)) ∧ s'.heap.get? t = some { cls := .type "list", data := .seq its.toArray n } ∧ IntsAre its ans ∧ OldK s1.heap s'.heap ∧ s'.os = s1.os ∧ AllBare s'.gens) s1 := by
    intro H hP hO hS hok hK
    have base_of : ∀ {b : Addr} {o : Obj}, s1.heap.get? b = some o → H b = none → (hidT s1.heap H).get? b = some o := fun e n => hidT_get e n
    have free : ∀ {b : Addr} {o : Obj}, s1.heap.get? b = some o → o ≠ tabObj #[] → o.cls ≠ .type "list" → H b = none := fun {b o} e h1 h2 => by
      rcases hO b with z | z | ⟨z, _⟩
      · exact z
      · rw [z, hPt] at e
        exact absurd (Option.some.inj e).symm h1
      · rw [z, ha] at e
        cases e
        exact absurd rfl h2
    have nsK : ∀ {b : Addr} {m : Str → Option Value}, s1.heap.Ns b m → (hidT s1.heap H).Ns b m := fun {b m} ⟨o, es, ep, e, d, r⟩ => by
      refine ⟨o, es, ep, base_of e ?_, d, r⟩
      rcases hO b with z | z | ⟨z, _⟩
      · exact z
      · rw [z, hPt] at e
        cases e
        cases d
      · rw [z, ha] at e
        cases e
        cases d
    have hKb : K.In (hidT s1.heap H) := fun b o e => base_of (KX b o e) (by
      rcases hO b with z | z | ⟨z, ob, xs, q⟩
      · exact z
      · have e2 := KX b o e
        rw [z, hPt] at e2
        have h2 := List.all_eq_true.mp hKP (b, o) (mem_of_lookupK e)
        rw [← Option.some.inj e2] at h2
        exact absurd (show false = true from h2) Bool.false_ne_true
      · rw [z] at e q
        rw [hK (by rw [q]; simp)] at e
        cases e)
    have hM : Mod K mg (hidT s1.heap H) := ⟨hKb, nsK hns, ⟨mb, nsK hb, hbb⟩, let ⟨mc, h1, h2⟩ := hlim; ⟨mc, nsK h1, h2⟩⟩
    have e0 : Env0 P w K mg (hidT s1.heap H) callerA [] s1 H := ⟨rfl, hM, fun b o e => of_hidT e, Nat.le_of_eq (hidT_size _ _), trivial, fun b hb => absurd (show b ∈ ([] : List Addr) from hb) (by simp), hok, .of_eq hg⟩
    have C1 : CodeHd (hidT s1.heap H) c0 Pt := by
      obtain ⟨o, vs', file, tf, flags, tg, inF, text, tt', e1, r1, r2⟩ := C
      exact ⟨o, vs', file, tf, flags, tg, inF, text, tt', base_of e1 (free e1 (fun q => by rw [q] at r1; cases r1) (by rw [r1]; decide)), r1, r2⟩
    have B1 : (hidT s1.heap H).BuiltinsAt mg Pt := by
      obtain ⟨bm, o, b1, b2, b3, b4, b5, b6, b7, b8⟩ := B
      exact ⟨bm, o, b1, b2, b3, b4, base_of b5 (free b5 (fun q => by rw [q] at b6; cases b6) (by rw [b6]; decide)), b6, b7, b8⟩
    have tab : TabOk Pt H := ⟨#[], hP, trivial, (fun v e => by cases e), (fun v e => by cases e)⟩
    obtain ⟨f, fd, F1, hm, _, hbd⟩ := F _ hKb (nsK hns) C1 B1
    obtain rfl : fa = f := by
      rw [hmg] at hm
      cases hm
      rfl
    refine codeAny_mono (F1.run callerA [] s1 H ⟨[.ref a], []⟩ [.ref a] [.ref a] _ _ hr e0 (hbd s1 [.ref a] KX rfl) (.cons rfl .nil) (hsp H hS tab)) fun r s' h => ?_
    cases r with
    | error e => exact False.elim h
    | ok fl =>
      cases fl with
      | next => exact False.elim h
      | brk => exact False.elim h
      | cont => exact False.elim h
      | ret u =>
        obtain ⟨v, H', os, bare, un, hok', r', t, rfl, ht⟩ := h
        obtain rfl : u = Value.ref t := r'
        obtain ⟨_, its, n, hv, hget⟩ := hok' t _ ht
        have kept : ∀ b o, s1.heap.get? b = some o → b ≠ Pt → s'.heap.get? b = some o := fun b o e hb' => by
          rcases hO b with z | z | ⟨z, ob, xs, q⟩
          · exact un.keep b o e z (by intro z'; exact absurd (show b ∈ ([] : List Addr) from z') (by simp)) (by simp)
          · exact absurd z hb'
          · obtain ⟨e1, _⟩ := hok b _ q
            obtain ⟨e2, _⟩ := hok' b _ (un.frzs b ob _ q)
            rw [e] at e1; cases e1
            exact e2
        obtain ⟨more, hP'⟩ := un.tbls Pt #[] hP
        have hPg : s'.heap.get? Pt = some (tabObj (#[] ++ more)) := hok' Pt _ hP'
        refine ⟨t, its, n, rfl, hget, Vals.ints hv, ⟨fun b o e => ?_, fun b o e => ?_⟩, os, bare⟩
        · by_cases hb' : b = Pt
          · subst hb'
            rw [hPt] at e
            cases e
            exact .inr (.inl ⟨(C.tab hPt).isCodeTable, rfl, #[], more, rfl, hPg⟩)
          · exact .inl (kept b o e hb')
        · by_cases hb' : b = Pt
          · subst hb'; exact ⟨_, hPg⟩
          · exact ⟨o, kept b o e hb'⟩
  cases hk : K.lookup a with
  | some o =>
    have e := KX a o hk
    rw [ha] at e
    cases e
    refine core (fun b => if b = Pt then some (.tbl #[]) else none) (if_pos rfl) (fun b => ?_) (.inr ⟨_, vs.toArray, _, hk, rfl, rfl, rfl, by rw [List.size_toArray, lenV]; exact hl, by simpa using rv⟩) (fun b u z => ?_) (fun z => absurd (if_neg (Ne.symm hPa)) z)
    · by_cases hb' : b = Pt
      · exact .inr (.inl hb')
      · exact .inl (if_neg hb')
    · by_cases hb' : b = Pt
      · have z' := (if_pos hb').symm.trans z
        cases z'
        subst hb'
        exact hPt
      · have z' := (if_neg hb').symm.trans z
        cases z'
  | none =>
    refine core (fun b => if b = Pt then some (.tbl #[]) else if b = a then some (.frz { cls := .type "list", data := .seq vs.toArray } (.lst (ns.map V.int))) else none) (if_pos rfl) (fun b => ?_)
      (.inl (.inr ⟨{ cls := .type "list", data := .seq vs.toArray }, (if_neg (Ne.symm hPa)).trans (if_pos rfl)⟩)) (fun b u z => ?_) fun _ => hk
    · by_cases hb' : b = Pt
      · exact .inr (.inl hb')
      · by_cases hb2 : b = a
        · exact .inr (.inr ⟨hb2, _, _, (if_neg hb').trans (if_pos hb2)⟩)
        · exact .inl ((if_neg hb').trans (if_neg hb2))
    · by_cases hb' : b = Pt
      · have z' := (if_pos hb').symm.trans z
        cases z'
        subst hb'
        exact hPt
      · by_cases hb2 : b = a
        · have z' := ((if_neg hb').trans (if_pos hb2)).symm.trans z
          cases z'
          subst hb2
          exact ⟨ha, by rw [List.length_map]; exact hl, vs, _, rv, ha⟩
        · have z' := ((if_neg hb').trans (if_neg hb2)).symm.trans z
          cases z'
end BK
end
section
set_option Elab.async false
set_option linter.all false
set_option maxRecDepth 100000
set_option maxHeartbeats 4000000
namespace BK
open PySem L2 PyProof.Rows PySem.W
abbrev KF {K : Frag} {h : Heap} (_ : K.In h) : Frag := K
/-- how a def's parameters take what is handed -/
def BindsP (x qual : Str) (st : Stmt) (ps : List Str) : Prop := ∀ (kV doc pm : Value) (an : Option Addr) (cdv ct : Value) (us : List Value), us.length = ps.length →
  bindArgs (fnOf x qual (defArgs st) (defBody st) (defScope st) .none kV doc pm an cdv ct) ⟨us, []⟩ = pure (ps.zip us)
theorem def_at {K : Frag} {h : Heap} {mg : Str → Option Value} {x : Str} {st : Stmt} {ps : List Str} {f : Addr} {oc kV doc pm cdv ct : Value} {od an : Option Addr} {osl : Array (Option Value)} (X : K.In h) (G : h.Ns mainGlobals mg) (b : BindsP x x st ps)
    (a : nsIn K mainGlobals x = some (some (.ref f))) (l : K.lookup f = some ⟨oc, od, .func (fnOf x x (defArgs st) (defBody st) (defScope st) .none kV doc pm an cdv ct), osl⟩) (c : codeIn K cdv x = true) (k : keepIn K (.ref f) = true) : DefAt K mg x st ps :=
  ⟨f, _, fun_mk l c k, mg_of X G a, (fun_mk l c k).binds b⟩
theorem no_nil {K : Frag} {C : Addr} : ∀ y ∈ ([] : List Str), NoAttr K C y := fun _ h => absurd h List.not_mem_nil
theorem no_cons {K : Frag} {C : Addr} {x : Str} {ks : List Str} (n : findIn K (.ref C) x = some none) (r : ∀ y ∈ ks, NoAttr K C y) : ∀ y ∈ x :: ks, NoAttr K C y := List.forall_mem_cons.mpr ⟨n, r⟩
theorem cls_at {K : Frag} {h : Heap} {mg : Str → Option Value} {x qual : Str} {C : Addr} {st : Stmt} {ps ks : List Str} {f : Addr} {oc kV doc pm cdv ct : Value} {od an : Option Addr} {osl : Array (Option Value)} (X : K.In h) (G : h.Ns mainGlobals mg) (b : BindsP "__init__" qual st ps)
    (a : nsIn K mainGlobals x = some (some (.ref C))) (i : findIn K (.ref C) "__init__" = some (some (.ref f))) (l : K.lookup f = some ⟨oc, od, .func (fnOf "__init__" qual (defArgs st) (defBody st) (defScope st) .none kV doc pm an cdv ct), osl⟩) (c : codeIn K cdv qual = true) (k : keepIn K (.ref f) = true)
    (m : makesIn K C = true) (n : isFn K (.ref f) = true) (kC : keepIn K (.ref C) = true) (pg : plainGet K C Str.empty = true) (hd : hasDictIn K C = true) (po : plainOver K C = true) (sa : findIn K (.ref C) "__setattr__" = some (some (.builtin "object.__setattr__")))
    (no : ∀ y ∈ ks, NoAttr K C y) : ∃ C, InitAt K mg x qual C st ps ∧ Cls K C ∧ ∀ y ∈ ks, NoAttr K C y :=
  ⟨C, ⟨f, _, fun_mk l c k, mg_of X G a, ⟨m, i, n, kC⟩, (fun_mk l c k).binds b⟩, ⟨pg, hd, po, sa⟩, no⟩
theorem gi_at {K : Frag} {h : Heap} {mg : Str → Option Value} {x : Str} {i : Int} {t : Tok} (X : K.In h) (G : h.Ns mainGlobals mg) (a : nsIn K mainGlobals x = some (some (.int i t))) : GI mg x i := ⟨t, mg_of X G a⟩
/-- most_currents as it stands behind the top; its code at c0 -/
def MostAt (K : Frag) (f c0 : Addr) : Prop := ∃ (oc : Value) (od : Option Addr) (kV doc pm : Value) (an : Option Addr) (ct : Value) (osl : Array (Option Value)),
  K.lookup f = some ⟨oc, od, .func (fnOf "most_currents" "most_currents" (defArgs s_most_currents) (defBody s_most_currents) (defScope s_most_currents) .none kV doc pm an (.ref c0) ct), osl⟩ ∧ codeIn K (.ref c0) "most_currents" = true ∧ keepIn K (.ref f) = true
theorem most_at {K : Frag} {h : Heap} {mg : Str → Option Value} {f c0 : Addr} {oc kV doc pm ct : Value} {od an : Option Addr} {osl : Array (Option Value)} (X : K.In h) (G : h.Ns mainGlobals mg) (a : nsIn K mainGlobals "most_currents" = some (some (.ref f)))
    (l : K.lookup f = some ⟨oc, od, .func (fnOf "most_currents" "most_currents" (defArgs s_most_currents) (defBody s_most_currents) (defScope s_most_currents) .none kV doc pm an (.ref c0) ct), osl⟩) (c : codeIn K (.ref c0) "most_currents" = true) (k : keepIn K (.ref f) = true) :
    ∃ f c0 : Addr, mg "most_currents" = some (.ref f) ∧ MostAt K f c0 := ⟨f, c0, mg_of X G a, oc, od, kV, doc, pm, an, ct, osl, l, c, k⟩
theorem b_down : BindsP "down" "down" s_down ["number", "divisor"] := fun _ _ _ _ _ _ us hl => match us, hl with | [_, _], _ => rfl
theorem b_up : BindsP "up" "up" s_up ["number", "divisor"] := fun _ _ _ _ _ _ us hl => match us, hl with | [_, _], _ => rfl
theorem b_greatest_loss : BindsP "greatest_loss" "greatest_loss" s_greatest_loss ["make", "drain"] := fun _ _ _ _ _ _ us hl => match us, hl with | [_, _], _ => rfl
theorem b_least_loss : BindsP "least_loss" "least_loss" s_least_loss ["make", "drain"] := fun _ _ _ _ _ _ us hl => match us, hl with | [_, _], _ => rfl
theorem b_is_beyond_fuse : BindsP "is_beyond_fuse" "is_beyond_fuse" s_is_beyond_fuse ["make", "measured"] := fun _ _ _ _ _ _ us hl => match us, hl with | [_, _], _ => rfl
theorem b_least_current : BindsP "least_current" "least_current" s_least_current ["make", "measured"] := fun _ _ _ _ _ _ us hl => match us, hl with | [_, _], _ => rfl
theorem b_greatest_current : BindsP "greatest_current" "greatest_current" s_greatest_current ["make", "measured"] := fun _ _ _ _ _ _ us hl => match us, hl with | [_, _], _ => rfl
theorem b_right_pair : BindsP "right_pair" "right_pair" s_right_pair ["first", "second"] := fun _ _ _ _ _ _ us hl => match us, hl with | [_, _], _ => rfl
theorem b_step : BindsP "step" "step" s_step ["make", "pair", "measured", "bled"] := fun _ _ _ _ _ _ us hl => match us, hl with | [_, _, _, _], _ => rfl
theorem b_seen : BindsP "seen" "seen" s_seen ["make", "pair", "measured", "voltage"] := fun _ _ _ _ _ _ us hl => match us, hl with | [_, _, _, _], _ => rfl
theorem b_charge_down : BindsP "charge_down" "charge_down" s_charge_down ["curve", "voltage"] := fun _ _ _ _ _ _ us hl => match us, hl with | [_, _], _ => rfl
theorem b_charge_up : BindsP "charge_up" "charge_up" s_charge_up ["curve", "voltage"] := fun _ _ _ _ _ _ us hl => match us, hl with | [_, _], _ => rfl
theorem b_greatest_fall : BindsP "greatest_fall" "greatest_fall" s_greatest_fall ["make"] := fun _ _ _ _ _ _ us hl => match us, hl with | [_], _ => rfl
theorem b_greatest_rise : BindsP "greatest_rise" "greatest_rise" s_greatest_rise ["make"] := fun _ _ _ _ _ _ us hl => match us, hl with | [_], _ => rfl
theorem b_curve_times_part : BindsP "curve_times_part" "curve_times_part" s_curve_times_part ["curve", "charge"] := fun _ _ _ _ _ _ us hl => match us, hl with | [_, _], _ => rfl
theorem b_is_safe_below : BindsP "is_safe_below" "is_safe_below" s_is_safe_below ["make", "charge", "ticks"] := fun _ _ _ _ _ _ us hl => match us, hl with | [_, _, _], _ => rfl
theorem b_is_safe_above : BindsP "is_safe_above" "is_safe_above" s_is_safe_above ["make", "charge", "ticks"] := fun _ _ _ _ _ _ us hl => match us, hl with | [_, _, _], _ => rfl
theorem b_is_safe : BindsP "is_safe" "is_safe" s_is_safe ["make", "pair", "ticks"] := fun _ _ _ _ _ _ us hl => match us, hl with | [_, _, _], _ => rfl
theorem b_greatest_that : BindsP "greatest_that" "greatest_that" s_greatest_that ["top", "holds"] := fun _ _ _ _ _ _ us hl => match us, hl with | [_, _], _ => rfl
theorem b_tick : BindsP "tick" "tick" s_tick ["keeper", "measured", "link", "voltages"] := fun _ _ _ _ _ _ us hl => match us, hl with | [_, _, _, _], _ => rfl
theorem b_go_on : BindsP "go_on" "go_on" s_go_on ["keeper", "measured", "link", "voltages"] := fun _ _ _ _ _ _ us hl => match us, hl with | [_, _, _, _], _ => rfl
theorem b_flows_though_long_open : BindsP "flows_though_long_open" "flows_though_long_open" s_flows_though_long_open ["keeper", "measured"] := fun _ _ _ _ _ _ us hl => match us, hl with | [_, _], _ => rfl
theorem b_pairs_behind : BindsP "pairs_behind" "pairs_behind" s_pairs_behind ["keeper", "measured", "voltages"] := fun _ _ _ _ _ _ us hl => match us, hl with | [_, _, _], _ => rfl
theorem b_turn_switch : BindsP "turn_switch" "turn_switch" s_turn_switch ["keeper", "link", "voltage"] := fun _ _ _ _ _ _ us hl => match us, hl with | [_, _, _], _ => rfl
theorem b_is_good : BindsP "is_good" "is_good" s_is_good ["keeper"] := fun _ _ _ _ _ _ us hl => match us, hl with | [_], _ => rfl
theorem b_fill : BindsP "fill" "fill" s_fill ["keeper", "link", "voltage"] := fun _ _ _ _ _ _ us hl => match us, hl with | [_, _, _], _ => rfl
theorem b_cells_to_bleed : BindsP "cells_to_bleed" "cells_to_bleed" s_cells_to_bleed ["keeper"] := fun _ _ _ _ _ _ us hl => match us, hl with | [_], _ => rfl
theorem b_bled_bits : BindsP "bled_bits" "bled_bits" s_bled_bits ["keeper"] := fun _ _ _ _ _ _ us hl => match us, hl with | [_], _ => rfl
theorem b_currents_for_next : BindsP "currents_for_next" "currents_for_next" s_currents_for_next ["keeper"] := fun _ _ _ _ _ _ us hl => match us, hl with | [_], _ => rfl
theorem b_least_of : BindsP "least_of" "least_of" s_least_of ["currents"] := fun _ _ _ _ _ _ us hl => match us, hl with | [_], _ => rfl
theorem b_is_right : BindsP "is_right" "is_right" s_is_right ["make"] := fun _ _ _ _ _ _ us hl => match us, hl with | [_], _ => rfl
theorem b_counts_are_right : BindsP "counts_are_right" "counts_are_right" s_counts_are_right ["make"] := fun _ _ _ _ _ _ us hl => match us, hl with | [_], _ => rfl
theorem b_cells_are_right : BindsP "cells_are_right" "cells_are_right" s_cells_are_right ["make"] := fun _ _ _ _ _ _ us hl => match us, hl with | [_], _ => rfl
theorem b_currents_are_right : BindsP "currents_are_right" "currents_are_right" s_currents_are_right ["make"] := fun _ _ _ _ _ _ us hl => match us, hl with | [_], _ => rfl
theorem b_voltages_are_right : BindsP "voltages_are_right" "voltages_are_right" s_voltages_are_right ["make"] := fun _ _ _ _ _ _ us hl => match us, hl with | [_], _ => rfl
theorem b_curve_is_right : BindsP "curve_is_right" "curve_is_right" s_curve_is_right ["curve"] := fun _ _ _ _ _ _ us hl => match us, hl with | [_], _ => rfl
theorem b_answers : BindsP "answers" "answers" s_answers ["calls"] := fun _ _ _ _ _ _ us hl => match us, hl with | [_], _ => rfl
theorem b_answer_call : BindsP "answer_call" "answer_call" s_answer_call ["line", "call", "numbers", "row"] := fun _ _ _ _ _ _ us hl => match us, hl with | [_, _, _, _], _ => rfl
theorem b_number_alone : BindsP "number_alone" "number_alone" s_number_alone ["number"] := fun _ _ _ _ _ _ us hl => match us, hl with | [_], _ => rfl
theorem b_number_and_four : BindsP "number_and_four" "number_and_four" s_number_and_four ["number", "four"] := fun _ _ _ _ _ _ us hl => match us, hl with | [_, _], _ => rfl
theorem b_answer_start : BindsP "answer_start" "answer_start" s_answer_start ["line", "make"] := fun _ _ _ _ _ _ us hl => match us, hl with | [_, _], _ => rfl
theorem b_answer_ask : BindsP "answer_ask" "answer_ask" s_answer_ask ["keeper", "on"] := fun _ _ _ _ _ _ us hl => match us, hl with | [_, _], _ => rfl
theorem b_answer_tick : BindsP "answer_tick" "answer_tick" s_answer_tick ["keeper", "measured", "link", "row"] := fun _ _ _ _ _ _ us hl => match us, hl with | [_, _, _, _], _ => rfl
theorem b_answer_cell : BindsP "answer_cell" "answer_cell" s_answer_cell ["keeper", "k"] := fun _ _ _ _ _ _ us hl => match us, hl with | [_, _], _ => rfl
theorem b_answer_state : BindsP "answer_state" "answer_state" s_answer_state ["keeper"] := fun _ _ _ _ _ _ us hl => match us, hl with | [_], _ => rfl
theorem b_most_currents : BindsP "most_currents" "most_currents" s_most_currents ["make", "pair"] := fun _ _ _ _ _ _ us hl => match us, hl with | [_, _], _ => rfl
theorem b_Keeper : BindsP "__init__" "Keeper.__init__" s_Keeper ["self", "make"] := fun _ _ _ _ _ _ us hl => match us, hl with | [_, _], _ => rfl
theorem b_Make : BindsP "__init__" "Make.__init__" s_Make ["self", "numbers", "curve"] := fun _ _ _ _ _ _ us hl => match us, hl with | [_, _, _], _ => rfl
theorem b_Line : BindsP "__init__" "Line.__init__" s_Line ["self"] := fun _ _ _ _ _ _ us hl => match us, hl with | [_], _ => rfl
theorem nums_at {K : Frag} {a : Addr} {od : Option Addr} {n : Nat} {osl : Array (Option Value)} {t0 t1 t2 t3 t4 : Tok} (l : K.lookup a = some ⟨.type "tuple", od, .seq #[.int 18 t0, .int 1 t1, .int 2 t2, .int 1 t3, .int 0 t4] n, osl⟩) : ∀ H : Hp, SqT K H a (numsB.map V.int) :=
  fun _ => .inr ⟨_, _, _, l, rfl, rfl, by show 5 ≤ sizeLine; decide, .cons ⟨t0, rfl⟩ (.cons ⟨t1, rfl⟩ (.cons ⟨t2, rfl⟩ (.cons ⟨t3, rfl⟩ (.cons ⟨t4, rfl⟩ .nil))))⟩
theorem rows_at {K : Frag} {a : Addr} {od : Option Addr} {n : Nat} {osl : Array (Option Value)} (l : K.lookup a = some ⟨.type "tuple", od, .seq #[.bool true, .bool false, .bool true, .bool false, .bool false] n, osl⟩) : ∀ H : Hp, SqT K H a (rowB.map V.bl) :=
  fun _ => .inr ⟨_, _, _, l, rfl, rfl, by show 5 ≤ sizeLine; decide, .cons rfl (.cons rfl (.cons rfl (.cons rfl (.cons rfl .nil))))⟩
theorem bmod_at {q : Program} {loose : List Str} {mean : ExcName → Option Value} {mg mb : Str → Option Value} {h : Heap} {Pt : Addr} (T : Top q loose mean mg mb h) (hP : h.get? Pt = some (tabObj #[])) : h.BuiltinsAt mg Pt := by
  obtain ⟨bm, ob, h1, h2, h3, h4, h5, h6⟩ := T.bmain
  refine ⟨bm, ob, h1, h2, fun z => ?_, fun z => ?_, h3, h4, h5, h6⟩
  · obtain ⟨o, es, ep, e, d, _⟩ := T.g
    rw [← z, h3] at e
    cases e
    rw [h6] at d
    cases d
  · rw [← z, h3] at hP
    cases hP
    cases h4
/-- the table of most_currents' code, where the top left it empty -/
theorem tab_at {q : Program} {loose : List Str} {mean : ExcName → Option Value} {mg mb : Str → Option Value} {h : Heap} {K : Frag} {d : DefRec} {f c0 : Addr} (T : Top q loose mean mg mb h) (X : K.In h) (hr : (recsOf q).find? (fun e => e.name == ("most_currents" : Str)) = some d)
    (hm : mg "most_currents" = some (.ref f)) (M : MostAt K f c0) : ∃ Pt, CodeHd h c0 Pt ∧ h.get? Pt = some (tabObj #[]) := by
  have hn : d.name = "most_currents" := beq_iff_eq.mp (List.find?_some (p := fun e : DefRec => e.name == ("most_currents" : Str)) hr)
  obtain ⟨a, o, fd, c, Pt, h1, h2, h3, h4, h5, h6⟩ := T.tab d (List.mem_of_find?_eq_some hr)
  obtain ⟨oc, od, kV, doc, pm, an, ct, osl, l, _, _⟩ := M
  rw [hn, hm] at h1
  cases h1
  have e := X _ _ l
  rw [h2] at e
  cases e
  cases h3
  cases h4
  exact ⟨Pt, CodeHd.of h5 h6, h6.2⟩
theorem most_df {P : Program} {w : World} {K : Frag} {mg : Str → Option Value} {base : Heap} {CM CK CL aN aR f c0 Pt : Addr} (T : Txt K mg CM CK CL aN aR) (hm : mg "most_currents" = some (.ref f)) (M : MostAt K f c0) (C : CodeHd base c0 Pt) (B : base.BuiltinsAt mg Pt) :
    Df P w K mg base "most_currents" 7 ["make", "pair"] (sp_most CM Pt) := by
  obtain ⟨oc, od, kV, doc, pm, an, ct, osl, l, c, k⟩ := M
  exact ⟨f, _, ok_most T l c C B, hm, k, Binds.all (b_most_currents kV doc pm an (.ref c0) ct)⟩
/-- a request that may be asked -/
def wit : List Int := 0 :: List.replicate 18 0 ++ 33 :: List.replicate 33 0
theorem walk_s {q : Program} {loose : List Str} {XP : (Str → Option Value) → Heap → Prop} {YP : World → Heap → Prop} {d : DefRec} {kwd : List (Str × Expr)} {K : Params → Frag}
    (hY : ∀ (w : World) (h : Heap), YP w h → (K w.params).In h) (hn : d.name = "answers") (hnt : ∀ P : Params, noTabs (K P) = true) (hrec : ((recsOf q).find? fun e => e.name == ("most_currents" : Str)).isSome = true)
    (F : ∀ (w : World) (mg : Str → Option Value) (h : Heap), (K w.params).In h → h.Ns mainGlobals mg → ∃ CM CK CL aN aR f c0 : Addr, Txt (K w.params) mg CM CK CL aN aR ∧ mg "most_currents" = some (.ref f) ∧ MostAt (K w.params) f c0) :
    WalkOS q loose XP YP PySem.Challenge.rw_batterykeeper_s01_answers d kwd fun f vs => PySem.call f vs := by
  have said : PySem.Challenge.rw_batterykeeper_s01_answers.wellSaid = true := by decide +kernel
  intro w s0 s1 mg mb G Y fa o pm cd doc dV kV ho hd hcd hD hmg hg args vals as hpre hlay hrd hwl hlo
  have KX := hY w _ Y
  obtain ⟨d', hrec⟩ := Option.isSome_iff_exists.mp hrec
  rw [hn] at hmg
  obtain ⟨⟨ns, u⟩, hin, hask, e⟩ := os_pre said hpre
  have hin0 := hin
  have hask : PyKp115.answers_asked ns = true := hask
  have e2 : args = [WData.list (ns.map WData.int)] := e
  have hin : (Codec.inList 0 16000 (Codec.inInt (-9223372036854775808) 9223372036854775807) ns && true) = true := hin
  have hlen : ns.length ≤ 16000 := by
    rw [Bool.and_true] at hin
    unfold Codec.inList Codec.inLen Codec.inNat at hin
    rw [Bool.and_eq_true, Bool.and_eq_true] at hin
    exact of_decide_eq_true hin.1.2
  rw [e2] at hwl
  cases hwl with
  | cons w1 w2 =>
    cases w2
    cases w1 with
    | list hobj hall =>
      rename_i a vs
      have hints := ints_of_well ns vs hall
      obtain ⟨CM, CK, CL, aN, aR, f, c0, T, hm, M⟩ := F w mg _ KX G.T.g
      obtain ⟨Pt, C, hPt⟩ := tab_at G.T KX hrec hm M
      refine enter_call (codeAny_mono (spec_call (k := 12) (sp := sp_answers (K w.params) Pt) (ans := PyKp115.answers ns) KX G.T.g G.T.b G.T.builtins G.T.nolimit hg hobj hints (Nat.le_trans hlen (by decide)) ⟨rfl, by decide, by decide⟩ hPt (hnt _) C (bmod_at G.T hPt) hmg
        (fun base kb nb C' B' => d_answers T (most_df T hm M C' B')) (fun H hS tab => ⟨a, ns, rfl, hS, hlen, hask, tab, fun t H' ht _ => ⟨t, rfl, ht⟩⟩)) fun r s' hq => ?_)
      obtain ⟨t, its, n, rfl, hget, hia, hold, hos, hbare⟩ := hq
      refine ⟨.inl ⟨.ref t, .list ((PyKp115.answers ns).map WData.int), [t], rfl, fun _ => rfl, .list hget rfl rfl (reads_ints (vs := its) hia), ?_, fun z => absurd z Bool.false_ne_true⟩, hold, hos, hbare⟩
      rw [e]
      exact os_shut said hin0 rfl
end BK
end
section
set_option Elab.async false
set_option linter.all false
set_option maxRecDepth 100000
set_option maxHeartbeats 0
namespace BK
open PySem L2 PyProof.Rows PySem.W
/-! the objects that the top leaves, behind it and on the way -/
noncomputable def o3 (P : Params) : Obj := ⟨.type "dict", none, (.dict #[⟨PyData.keyHash P "__name__", .str "__name__" 165, .str "batterykeeper.keeper" 618⟩, ⟨PyData.keyHash P "__doc__", .str "__doc__" 166, .none⟩, ⟨PyData.keyHash P "__package__", .str "__package__" 167, .none⟩, ⟨PyData.keyHash P "__loader__", .str "__loader__" 168, .builtin "__main__.__loader__#opaque"⟩, ⟨PyData.keyHash P "__spec__", .str "__spec__" 169, .none⟩, ⟨PyData.keyHash P "__annotations__", .str "__annotations__" 170, .ref 6⟩, ⟨PyData.keyHash P "__builtins__", .str "__builtins__" 171, .ref 4⟩, ⟨PyData.keyHash P "__file__", .str "__file__" 173, .str "/claim/cut.py" 172⟩, ⟨PyData.keyHash P "__cached__", .str "__cached__" 174, .none⟩, ⟨PyData.keyHash P "FULL", .str "FULL" 190, .int 4294967296 189⟩, ⟨PyData.keyHash P "PART", .str "PART" 192, .int 134217728 191⟩, ⟨PyData.keyHash P "down", .str "down" 200, .ref 21⟩, ⟨PyData.keyHash P "up", .str "up" 208, .ref 28⟩, ⟨PyData.keyHash P "greatest_loss", .str "greatest_loss" 216, .ref 35⟩, ⟨PyData.keyHash P "least_loss", .str "least_loss" 224, .ref 42⟩, ⟨PyData.keyHash P "is_beyond_fuse", .str "is_beyond_fuse" 232, .ref 49⟩, ⟨PyData.keyHash P "least_current", .str "least_current" 240, .ref 56⟩, ⟨PyData.keyHash P "greatest_current", .str "greatest_current" 248, .ref 63⟩, ⟨PyData.keyHash P "right_pair", .str "right_pair" 256, .ref 70⟩, ⟨PyData.keyHash P "step", .str "step" 270, .ref 77⟩, ⟨PyData.keyHash P "seen", .str "seen" 287, .ref 84⟩, ⟨PyData.keyHash P "charge_down", .str "charge_down" 296, .ref 91⟩, ⟨PyData.keyHash P "charge_up", .str "charge_up" 305, .ref 98⟩, ⟨PyData.keyHash P "NO_CURRENT", .str "NO_CURRENT" 309, .int 4294967295 308⟩, ⟨PyData.keyHash P "greatest_fall", .str "greatest_fall" 316, .ref 105⟩, ⟨PyData.keyHash P "greatest_rise", .str "greatest_rise" 323, .ref 112⟩, ⟨PyData.keyHash P "curve_times_part", .str "curve_times_part" 332, .ref 119⟩, ⟨PyData.keyHash P "is_safe_below", .str "is_safe_below" 343, .ref 126⟩, ⟨PyData.keyHash P "is_safe_above", .str "is_safe_above" 354, .ref 133⟩, ⟨PyData.keyHash P "is_safe", .str "is_safe" 363, .ref 140⟩, ⟨PyData.keyHash P "most_currents", .str "most_currents" 375, .ref 147⟩, ⟨PyData.keyHash P "greatest_that", .str "greatest_that" 386, .ref 154⟩, ⟨PyData.keyHash P "OPEN", .str "OPEN" 390, .int 0 389⟩, ⟨PyData.keyHash P "FILLING", .str "FILLING" 392, .int 1 391⟩, ⟨PyData.keyHash P "CLOSED", .str "CLOSED" 394, .int 2 393⟩, ⟨PyData.keyHash P "BROKEN", .str "BROKEN" 396, .int 3 395⟩, ⟨PyData.keyHash P "MOST_OPEN_TICKS", .str "MOST_OPEN_TICKS" 398, .int 65535 397⟩, ⟨PyData.keyHash P "Keeper", .str "Keeper" 433, .ref 171⟩, ⟨PyData.keyHash P "tick", .str "tick" 443, .ref 182⟩, ⟨PyData.keyHash P "go_on", .str "go_on" 454, .ref 189⟩, ⟨PyData.keyHash P "flows_though_long_open", .str "flows_though_long_open" 462, .ref 196⟩, ⟨PyData.keyHash P "pairs_behind", .str "pairs_behind" 474, .ref 203⟩, ⟨PyData.keyHash P "turn_switch", .str "turn_switch" 484, .ref 210⟩, ⟨PyData.keyHash P "is_good", .str "is_good" 490, .ref 215⟩, ⟨PyData.keyHash P "fill", .str "fill" 499, .ref 222⟩, ⟨PyData.keyHash P "cells_to_bleed", .str "cells_to_bleed" 505, .ref 227⟩, ⟨PyData.keyHash P "bled_bits", .str "bled_bits" 511, .ref 232⟩, ⟨PyData.keyHash P "currents_for_next", .str "currents_for_next" 517, .ref 237⟩, ⟨PyData.keyHash P "least_of", .str "least_of" 524, .ref 244⟩, ⟨PyData.keyHash P "POINTS", .str "POINTS" 528, .int 33 527⟩, ⟨PyData.keyHash P "Make", .str "Make" 576, .ref 261⟩, ⟨PyData.keyHash P "is_right", .str "is_right" 583, .ref 272⟩, ⟨PyData.keyHash P "counts_are_right", .str "counts_are_right" 590, .ref 279⟩, ⟨PyData.keyHash P "cells_are_right", .str "cells_are_right" 597, .ref 286⟩, ⟨PyData.keyHash P "currents_are_right", .str "currents_are_right" 604, .ref 293⟩, ⟨PyData.keyHash P "voltages_are_right", .str "voltages_are_right" 611, .ref 300⟩, ⟨PyData.keyHash P "curve_is_right", .str "curve_is_right" 617, .ref 305⟩, ⟨PyData.keyHash P "START", .str "START" 621, .int 0 620⟩, ⟨PyData.keyHash P "ASK", .str "ASK" 623, .int 1 622⟩, ⟨PyData.keyHash P "TICK", .str "TICK" 625, .int 2 624⟩, ⟨PyData.keyHash P "CELL", .str "CELL" 627, .int 3 626⟩, ⟨PyData.keyHash P "NUMBERS", .str "NUMBERS" 633, .ref 306⟩, ⟨PyData.keyHash P "HAS_ROW", .str "HAS_ROW" 634, .ref 307⟩, ⟨PyData.keyHash P "WRONG_MAKE", .str "WRONG_MAKE" 637, .int (-22) 636⟩, ⟨PyData.keyHash P "NO_CELL", .str "NO_CELL" 640, .int (-2) 639⟩, ⟨PyData.keyHash P "Line", .str "Line" 668, .ref 324⟩, ⟨PyData.keyHash P "answers", .str "answers" 684, .ref 335⟩, ⟨PyData.keyHash P "answer_call", .str "answer_call" 694, .ref 342⟩, ⟨PyData.keyHash P "number_alone", .str "number_alone" 701, .ref 349⟩, ⟨PyData.keyHash P "number_and_four", .str "number_and_four" 709, .ref 356⟩, ⟨PyData.keyHash P "answer_start", .str "answer_start" 717, .ref 363⟩, ⟨PyData.keyHash P "answer_ask", .str "answer_ask" 725, .ref 370⟩, ⟨PyData.keyHash P "answer_tick", .str "answer_tick" 736, .ref 377⟩, ⟨PyData.keyHash P "answer_cell", .str "answer_cell" 745, .ref 384⟩, ⟨PyData.keyHash P "answer_state", .str "answer_state" 754, .ref 391⟩] 75), #[]⟩
noncomputable def o11 (P : Params) : Obj := ⟨.type "tuple", none, (.seq #[] 0), #[]⟩
noncomputable def o12 (P : Params) : Obj := ⟨.none, none, (.fields #[.int 4 0, .int 0 0, .ref 20, .int 6 0, .int 0 0, .ref 27, .int 8 0, .int 0 0, .ref 34, .int 10 0, .int 0 0, .ref 41, .int 12 0, .int 0 0, .ref 48, .int 14 0, .int 0 0, .ref 55, .int 16 0, .int 0 0, .ref 62, .int 18 0, .int 0 0, .ref 69, .int 20 0, .int 0 0, .ref 76, .int 28 0, .int 0 0, .ref 83, .int 41 0, .int 0 0, .ref 90, .int 48 0, .int 0 0, .ref 97, .int 57 0, .int 0 0, .ref 104, .int 59 0, .int 0 0, .ref 111, .int 61 0, .int 0 0, .ref 118, .int 66 0, .int 0 0, .ref 125, .int 72 0, .int 0 0, .ref 132, .int 78 0, .int 0 0, .ref 139, .int 80 0, .int 0 0, .ref 146, .int 90 0, .int 0 0, .ref 153, .int 110 0, .int 0 0, .ref 160, .int 120 0, .int 0 0, .ref 181, .int 126 0, .int 0 0, .ref 188, .int 140 0, .int 0 0, .ref 195, .int 142 0, .int 0 0, .ref 202, .int 153 0, .int 0 0, .ref 209, .int 163 0, .int 0 0, .ref 214, .int 165 0, .int 0 0, .ref 221, .int 172 0, .int 0 0, .ref 226, .int 176 0, .int 0 0, .ref 231, .int 178 0, .int 0 0, .ref 236, .int 183 0, .int 0 0, .ref 243, .int 187 0, .int 0 0, .ref 250, .int 209 0, .int 0 0, .ref 271, .int 211 0, .int 0 0, .ref 278, .int 213 0, .int 0 0, .ref 285, .int 215 0, .int 0 0, .ref 292, .int 217 0, .int 0 0, .ref 299, .int 219 0, .int 0 0, .ref 304, .int 232 0, .int 0 0, .ref 313, .int 236 0, .int 0 0, .ref 334, .int 254 0, .int 0 0, .ref 341, .int 264 0, .int 0 0, .ref 348, .int 266 0, .int 0 0, .ref 355, .int 268 0, .int 0 0, .ref 362, .int 273 0, .int 0 0, .ref 369, .int 276 0, .int 0 0, .ref 376, .int 280 0, .int 0 0, .ref 383, .int 285 0, .int 0 0, .ref 390]), #[]⟩
noncomputable def o13 (P : Params) : Obj := ⟨.type "code", none, (.fields #[.str "<module>" 182, .str "<module>" 183, .str "/claim/cut.py" 184, .int 1 0, .int 0 0, .int 0 0, .int 0 0, .int 0 0, .ref 11, .bool false, .int 181 0, .ref 12, .none, .none, .none, .none, .int 185 0, .int 1 0, .str "/claim/cut.py" 186]), #[]⟩
noncomputable def o14 (P : Params) : Obj := ⟨.type "frame", none, .plain, #[some (.ref 13), some (.ref 3), some (.ref 3), none, some (.str "__main__" 164), none, some (.ref 0)]⟩
noncomputable def o16 (P : Params) : Obj := ⟨.none, none, (.fields #[]), #[]⟩
noncomputable def o17 (P : Params) : Obj := ⟨.type "tuple", none, (.seq #[.str "number" 196, .str "divisor" 197] 0), #[]⟩
noncomputable def o19 (P : Params) : Obj := ⟨.none, none, (.func { fnOf "down" "down" (defArgs s_down) (defBody s_down) (defScope s_down) .none .none .none .none none .none .none with globals := 0, closure := [], builtins := 0 }), #[]⟩
noncomputable def o20 (P : Params) : Obj := ⟨.type "code", none, (.fields #[.str "down" 193, .str "down" 194, .str "/claim/cut.py" 195, .int 4 0, .int 2 0, .int 0 0, .int 0 0, .int 3 0, .ref 15, .bool true, .int 181 0, .ref 16, .none, .ref 17, .ref 18, .ref 19, .int 198 0, .int 4 0, .str "/claim/cut.py" 199]), #[]⟩
noncomputable def o21 (P : Params) : Obj := ⟨.type "function", none, (.func (fnOf "down" "down" (defArgs s_down) (defBody s_down) (defScope s_down) .none .none .none (.str "batterykeeper.charge" 187) none (.ref 20) .none)), #[]⟩
noncomputable def o24 (P : Params) : Obj := ⟨.type "tuple", none, (.seq #[.str "number" 204, .str "divisor" 205] 0), #[]⟩
noncomputable def o26 (P : Params) : Obj := ⟨.none, none, (.func { fnOf "up" "up" (defArgs s_up) (defBody s_up) (defScope s_up) .none .none .none .none none .none .none with globals := 0, closure := [], builtins := 0 }), #[]⟩
noncomputable def o27 (P : Params) : Obj := ⟨.type "code", none, (.fields #[.str "up" 201, .str "up" 202, .str "/claim/cut.py" 203, .int 6 0, .int 2 0, .int 0 0, .int 0 0, .int 3 0, .ref 22, .bool true, .int 181 0, .ref 23, .none, .ref 24, .ref 25, .ref 26, .int 206 0, .int 6 0, .str "/claim/cut.py" 207]), #[]⟩
noncomputable def o28 (P : Params) : Obj := ⟨.type "function", none, (.func (fnOf "up" "up" (defArgs s_up) (defBody s_up) (defScope s_up) .none .none .none (.str "batterykeeper.charge" 187) none (.ref 27) .none)), #[]⟩
noncomputable def o31 (P : Params) : Obj := ⟨.type "tuple", none, (.seq #[.str "make" 212, .str "drain" 213] 0), #[]⟩
noncomputable def o33 (P : Params) : Obj := ⟨.none, none, (.func { fnOf "greatest_loss" "greatest_loss" (defArgs s_greatest_loss) (defBody s_greatest_loss) (defScope s_greatest_loss) .none .none .none .none none .none .none with globals := 0, closure := [], builtins := 0 }), #[]⟩
noncomputable def o34 (P : Params) : Obj := ⟨.type "code", none, (.fields #[.str "greatest_loss" 209, .str "greatest_loss" 210, .str "/claim/cut.py" 211, .int 8 0, .int 2 0, .int 0 0, .int 0 0, .int 3 0, .ref 29, .bool true, .int 181 0, .ref 30, .none, .ref 31, .ref 32, .ref 33, .int 214 0, .int 8 0, .str "/claim/cut.py" 215]), #[]⟩
noncomputable def o35 (P : Params) : Obj := ⟨.type "function", none, (.func (fnOf "greatest_loss" "greatest_loss" (defArgs s_greatest_loss) (defBody s_greatest_loss) (defScope s_greatest_loss) .none .none .none (.str "batterykeeper.charge" 187) none (.ref 34) .none)), #[]⟩
noncomputable def o38 (P : Params) : Obj := ⟨.type "tuple", none, (.seq #[.str "make" 220, .str "drain" 221] 0), #[]⟩
noncomputable def o40 (P : Params) : Obj := ⟨.none, none, (.func { fnOf "least_loss" "least_loss" (defArgs s_least_loss) (defBody s_least_loss) (defScope s_least_loss) .none .none .none .none none .none .none with globals := 0, closure := [], builtins := 0 }), #[]⟩
noncomputable def o41 (P : Params) : Obj := ⟨.type "code", none, (.fields #[.str "least_loss" 217, .str "least_loss" 218, .str "/claim/cut.py" 219, .int 10 0, .int 2 0, .int 0 0, .int 0 0, .int 3 0, .ref 36, .bool true, .int 181 0, .ref 37, .none, .ref 38, .ref 39, .ref 40, .int 222 0, .int 10 0, .str "/claim/cut.py" 223]), #[]⟩
noncomputable def o42 (P : Params) : Obj := ⟨.type "function", none, (.func (fnOf "least_loss" "least_loss" (defArgs s_least_loss) (defBody s_least_loss) (defScope s_least_loss) .none .none .none (.str "batterykeeper.charge" 187) none (.ref 41) .none)), #[]⟩
noncomputable def o45 (P : Params) : Obj := ⟨.type "tuple", none, (.seq #[.str "make" 228, .str "measured" 229] 0), #[]⟩
noncomputable def o47 (P : Params) : Obj := ⟨.none, none, (.func { fnOf "is_beyond_fuse" "is_beyond_fuse" (defArgs s_is_beyond_fuse) (defBody s_is_beyond_fuse) (defScope s_is_beyond_fuse) .none .none .none .none none .none .none with globals := 0, closure := [], builtins := 0 }), #[]⟩
noncomputable def o48 (P : Params) : Obj := ⟨.type "code", none, (.fields #[.str "is_beyond_fuse" 225, .str "is_beyond_fuse" 226, .str "/claim/cut.py" 227, .int 12 0, .int 2 0, .int 0 0, .int 0 0, .int 3 0, .ref 43, .bool true, .int 181 0, .ref 44, .none, .ref 45, .ref 46, .ref 47, .int 230 0, .int 12 0, .str "/claim/cut.py" 231]), #[]⟩
noncomputable def o49 (P : Params) : Obj := ⟨.type "function", none, (.func (fnOf "is_beyond_fuse" "is_beyond_fuse" (defArgs s_is_beyond_fuse) (defBody s_is_beyond_fuse) (defScope s_is_beyond_fuse) .none .none .none (.str "batterykeeper.charge" 187) none (.ref 48) .none)), #[]⟩
noncomputable def o52 (P : Params) : Obj := ⟨.type "tuple", none, (.seq #[.str "make" 236, .str "measured" 237] 0), #[]⟩
noncomputable def o54 (P : Params) : Obj := ⟨.none, none, (.func { fnOf "least_current" "least_current" (defArgs s_least_current) (defBody s_least_current) (defScope s_least_current) .none .none .none .none none .none .none with globals := 0, closure := [], builtins := 0 }), #[]⟩
noncomputable def o55 (P : Params) : Obj := ⟨.type "code", none, (.fields #[.str "least_current" 233, .str "least_current" 234, .str "/claim/cut.py" 235, .int 14 0, .int 2 0, .int 0 0, .int 0 0, .int 3 0, .ref 50, .bool true, .int 181 0, .ref 51, .none, .ref 52, .ref 53, .ref 54, .int 238 0, .int 14 0, .str "/claim/cut.py" 239]), #[]⟩
noncomputable def o56 (P : Params) : Obj := ⟨.type "function", none, (.func (fnOf "least_current" "least_current" (defArgs s_least_current) (defBody s_least_current) (defScope s_least_current) .none .none .none (.str "batterykeeper.charge" 187) none (.ref 55) .none)), #[]⟩
noncomputable def o59 (P : Params) : Obj := ⟨.type "tuple", none, (.seq #[.str "make" 244, .str "measured" 245] 0), #[]⟩
noncomputable def o61 (P : Params) : Obj := ⟨.none, none, (.func { fnOf "greatest_current" "greatest_current" (defArgs s_greatest_current) (defBody s_greatest_current) (defScope s_greatest_current) .none .none .none .none none .none .none with globals := 0, closure := [], builtins := 0 }), #[]⟩
noncomputable def o62 (P : Params) : Obj := ⟨.type "code", none, (.fields #[.str "greatest_current" 241, .str "greatest_current" 242, .str "/claim/cut.py" 243, .int 16 0, .int 2 0, .int 0 0, .int 0 0, .int 3 0, .ref 57, .bool true, .int 181 0, .ref 58, .none, .ref 59, .ref 60, .ref 61, .int 246 0, .int 16 0, .str "/claim/cut.py" 247]), #[]⟩
noncomputable def o63 (P : Params) : Obj := ⟨.type "function", none, (.func (fnOf "greatest_current" "greatest_current" (defArgs s_greatest_current) (defBody s_greatest_current) (defScope s_greatest_current) .none .none .none (.str "batterykeeper.charge" 187) none (.ref 62) .none)), #[]⟩
noncomputable def o66 (P : Params) : Obj := ⟨.type "tuple", none, (.seq #[.str "first" 252, .str "second" 253] 0), #[]⟩
noncomputable def o68 (P : Params) : Obj := ⟨.none, none, (.func { fnOf "right_pair" "right_pair" (defArgs s_right_pair) (defBody s_right_pair) (defScope s_right_pair) .none .none .none .none none .none .none with globals := 0, closure := [], builtins := 0 }), #[]⟩
noncomputable def o69 (P : Params) : Obj := ⟨.type "code", none, (.fields #[.str "right_pair" 249, .str "right_pair" 250, .str "/claim/cut.py" 251, .int 18 0, .int 2 0, .int 0 0, .int 0 0, .int 3 0, .ref 64, .bool true, .int 181 0, .ref 65, .none, .ref 66, .ref 67, .ref 68, .int 254 0, .int 18 0, .str "/claim/cut.py" 255]), #[]⟩
noncomputable def o70 (P : Params) : Obj := ⟨.type "function", none, (.func (fnOf "right_pair" "right_pair" (defArgs s_right_pair) (defBody s_right_pair) (defScope s_right_pair) .none .none .none (.str "batterykeeper.charge" 187) none (.ref 69) .none)), #[]⟩
noncomputable def o73 (P : Params) : Obj := ⟨.type "tuple", none, (.seq #[.str "make" 260, .str "pair" 261, .str "measured" 262, .str "bled" 263, .str "drain_most" 264, .str "drain_least" 265, .str "first" 266, .str "second" 267] 0), #[]⟩
noncomputable def o75 (P : Params) : Obj := ⟨.none, none, (.func { fnOf "step" "step" (defArgs s_step) (defBody s_step) (defScope s_step) .none .none .none .none none .none .none with globals := 0, closure := [], builtins := 0 }), #[]⟩
noncomputable def o76 (P : Params) : Obj := ⟨.type "code", none, (.fields #[.str "step" 257, .str "step" 258, .str "/claim/cut.py" 259, .int 20 0, .int 4 0, .int 0 0, .int 0 0, .int 3 0, .ref 71, .bool true, .int 181 0, .ref 72, .none, .ref 73, .ref 74, .ref 75, .int 268 0, .int 20 0, .str "/claim/cut.py" 269]), #[]⟩
noncomputable def o77 (P : Params) : Obj := ⟨.type "function", none, (.func (fnOf "step" "step" (defArgs s_step) (defBody s_step) (defScope s_step) .none .none .none (.str "batterykeeper.charge" 187) none (.ref 76) .none)), #[]⟩
noncomputable def o80 (P : Params) : Obj := ⟨.type "tuple", none, (.seq #[.str "make" 274, .str "pair" 275, .str "measured" 276, .str "voltage" 277, .str "least" 278, .str "greatest" 279, .str "drops" 280, .str "lowest" 281, .str "highest" 282, .str "first" 283, .str "second" 284] 0), #[]⟩
noncomputable def o82 (P : Params) : Obj := ⟨.none, none, (.func { fnOf "seen" "seen" (defArgs s_seen) (defBody s_seen) (defScope s_seen) .none .none .none .none none .none .none with globals := 0, closure := [], builtins := 0 }), #[]⟩
noncomputable def o83 (P : Params) : Obj := ⟨.type "code", none, (.fields #[.str "seen" 271, .str "seen" 272, .str "/claim/cut.py" 273, .int 28 0, .int 4 0, .int 0 0, .int 0 0, .int 3 0, .ref 78, .bool true, .int 181 0, .ref 79, .none, .ref 80, .ref 81, .ref 82, .int 285 0, .int 28 0, .str "/claim/cut.py" 286]), #[]⟩
noncomputable def o84 (P : Params) : Obj := ⟨.type "function", none, (.func (fnOf "seen" "seen" (defArgs s_seen) (defBody s_seen) (defScope s_seen) .none .none .none (.str "batterykeeper.charge" 187) none (.ref 83) .none)), #[]⟩
noncomputable def o87 (P : Params) : Obj := ⟨.type "tuple", none, (.seq #[.str "curve" 291, .str "voltage" 292, .str "k" 293] 0), #[]⟩
noncomputable def o89 (P : Params) : Obj := ⟨.none, none, (.func { fnOf "charge_down" "charge_down" (defArgs s_charge_down) (defBody s_charge_down) (defScope s_charge_down) .none .none .none .none none .none .none with globals := 0, closure := [], builtins := 0 }), #[]⟩
noncomputable def o90 (P : Params) : Obj := ⟨.type "code", none, (.fields #[.str "charge_down" 288, .str "charge_down" 289, .str "/claim/cut.py" 290, .int 41 0, .int 2 0, .int 0 0, .int 0 0, .int 3 0, .ref 85, .bool true, .int 181 0, .ref 86, .none, .ref 87, .ref 88, .ref 89, .int 294 0, .int 41 0, .str "/claim/cut.py" 295]), #[]⟩
noncomputable def o91 (P : Params) : Obj := ⟨.type "function", none, (.func (fnOf "charge_down" "charge_down" (defArgs s_charge_down) (defBody s_charge_down) (defScope s_charge_down) .none .none .none (.str "batterykeeper.charge" 187) none (.ref 90) .none)), #[]⟩
noncomputable def o94 (P : Params) : Obj := ⟨.type "tuple", none, (.seq #[.str "curve" 300, .str "voltage" 301, .str "k" 302] 0), #[]⟩
noncomputable def o96 (P : Params) : Obj := ⟨.none, none, (.func { fnOf "charge_up" "charge_up" (defArgs s_charge_up) (defBody s_charge_up) (defScope s_charge_up) .none .none .none .none none .none .none with globals := 0, closure := [], builtins := 0 }), #[]⟩
noncomputable def o97 (P : Params) : Obj := ⟨.type "code", none, (.fields #[.str "charge_up" 297, .str "charge_up" 298, .str "/claim/cut.py" 299, .int 48 0, .int 2 0, .int 0 0, .int 0 0, .int 3 0, .ref 92, .bool true, .int 181 0, .ref 93, .none, .ref 94, .ref 95, .ref 96, .int 303 0, .int 48 0, .str "/claim/cut.py" 304]), #[]⟩
noncomputable def o98 (P : Params) : Obj := ⟨.type "function", none, (.func (fnOf "charge_up" "charge_up" (defArgs s_charge_up) (defBody s_charge_up) (defScope s_charge_up) .none .none .none (.str "batterykeeper.charge" 187) none (.ref 97) .none)), #[]⟩
noncomputable def o101 (P : Params) : Obj := ⟨.type "tuple", none, (.seq #[.str "make" 313] 0), #[]⟩
noncomputable def o103 (P : Params) : Obj := ⟨.none, none, (.func { fnOf "greatest_fall" "greatest_fall" (defArgs s_greatest_fall) (defBody s_greatest_fall) (defScope s_greatest_fall) .none .none .none .none none .none .none with globals := 0, closure := [], builtins := 0 }), #[]⟩
noncomputable def o104 (P : Params) : Obj := ⟨.type "code", none, (.fields #[.str "greatest_fall" 310, .str "greatest_fall" 311, .str "/claim/cut.py" 312, .int 57 0, .int 1 0, .int 0 0, .int 0 0, .int 3 0, .ref 99, .bool true, .int 181 0, .ref 100, .none, .ref 101, .ref 102, .ref 103, .int 314 0, .int 57 0, .str "/claim/cut.py" 315]), #[]⟩
noncomputable def o105 (P : Params) : Obj := ⟨.type "function", none, (.func (fnOf "greatest_fall" "greatest_fall" (defArgs s_greatest_fall) (defBody s_greatest_fall) (defScope s_greatest_fall) .none .none .none (.str "batterykeeper.safety" 306) none (.ref 104) .none)), #[]⟩
noncomputable def o108 (P : Params) : Obj := ⟨.type "tuple", none, (.seq #[.str "make" 320] 0), #[]⟩
noncomputable def o110 (P : Params) : Obj := ⟨.none, none, (.func { fnOf "greatest_rise" "greatest_rise" (defArgs s_greatest_rise) (defBody s_greatest_rise) (defScope s_greatest_rise) .none .none .none .none none .none .none with globals := 0, closure := [], builtins := 0 }), #[]⟩
noncomputable def o111 (P : Params) : Obj := ⟨.type "code", none, (.fields #[.str "greatest_rise" 317, .str "greatest_rise" 318, .str "/claim/cut.py" 319, .int 59 0, .int 1 0, .int 0 0, .int 0 0, .int 3 0, .ref 106, .bool true, .int 181 0, .ref 107, .none, .ref 108, .ref 109, .ref 110, .int 321 0, .int 59 0, .str "/claim/cut.py" 322]), #[]⟩
noncomputable def o112 (P : Params) : Obj := ⟨.type "function", none, (.func (fnOf "greatest_rise" "greatest_rise" (defArgs s_greatest_rise) (defBody s_greatest_rise) (defScope s_greatest_rise) .none .none .none (.str "batterykeeper.safety" 306) none (.ref 111) .none)), #[]⟩
noncomputable def o115 (P : Params) : Obj := ⟨.type "tuple", none, (.seq #[.str "curve" 327, .str "charge" 328, .str "k" 329] 0), #[]⟩
noncomputable def o117 (P : Params) : Obj := ⟨.none, none, (.func { fnOf "curve_times_part" "curve_times_part" (defArgs s_curve_times_part) (defBody s_curve_times_part) (defScope s_curve_times_part) .none .none .none .none none .none .none with globals := 0, closure := [], builtins := 0 }), #[]⟩
noncomputable def o118 (P : Params) : Obj := ⟨.type "code", none, (.fields #[.str "curve_times_part" 324, .str "curve_times_part" 325, .str "/claim/cut.py" 326, .int 61 0, .int 2 0, .int 0 0, .int 0 0, .int 3 0, .ref 113, .bool true, .int 181 0, .ref 114, .none, .ref 115, .ref 116, .ref 117, .int 330 0, .int 61 0, .str "/claim/cut.py" 331]), #[]⟩
noncomputable def o119 (P : Params) : Obj := ⟨.type "function", none, (.func (fnOf "curve_times_part" "curve_times_part" (defArgs s_curve_times_part) (defBody s_curve_times_part) (defScope s_curve_times_part) .none .none .none (.str "batterykeeper.safety" 306) none (.ref 118) .none)), #[]⟩
noncomputable def o122 (P : Params) : Obj := ⟨.type "tuple", none, (.seq #[.str "make" 336, .str "charge" 337, .str "ticks" 338, .str "fall" 339, .str "bound" 340] 0), #[]⟩
noncomputable def o124 (P : Params) : Obj := ⟨.none, none, (.func { fnOf "is_safe_below" "is_safe_below" (defArgs s_is_safe_below) (defBody s_is_safe_below) (defScope s_is_safe_below) .none .none .none .none none .none .none with globals := 0, closure := [], builtins := 0 }), #[]⟩
noncomputable def o125 (P : Params) : Obj := ⟨.type "code", none, (.fields #[.str "is_safe_below" 333, .str "is_safe_below" 334, .str "/claim/cut.py" 335, .int 66 0, .int 3 0, .int 0 0, .int 0 0, .int 3 0, .ref 120, .bool true, .int 181 0, .ref 121, .none, .ref 122, .ref 123, .ref 124, .int 341 0, .int 66 0, .str "/claim/cut.py" 342]), #[]⟩
noncomputable def o126 (P : Params) : Obj := ⟨.type "function", none, (.func (fnOf "is_safe_below" "is_safe_below" (defArgs s_is_safe_below) (defBody s_is_safe_below) (defScope s_is_safe_below) .none .none .none (.str "batterykeeper.safety" 306) none (.ref 125) .none)), #[]⟩
noncomputable def o129 (P : Params) : Obj := ⟨.type "tuple", none, (.seq #[.str "make" 347, .str "charge" 348, .str "ticks" 349, .str "rise" 350, .str "bound" 351] 0), #[]⟩
noncomputable def o131 (P : Params) : Obj := ⟨.none, none, (.func { fnOf "is_safe_above" "is_safe_above" (defArgs s_is_safe_above) (defBody s_is_safe_above) (defScope s_is_safe_above) .none .none .none .none none .none .none with globals := 0, closure := [], builtins := 0 }), #[]⟩
noncomputable def o132 (P : Params) : Obj := ⟨.type "code", none, (.fields #[.str "is_safe_above" 344, .str "is_safe_above" 345, .str "/claim/cut.py" 346, .int 72 0, .int 3 0, .int 0 0, .int 0 0, .int 3 0, .ref 127, .bool true, .int 181 0, .ref 128, .none, .ref 129, .ref 130, .ref 131, .int 352 0, .int 72 0, .str "/claim/cut.py" 353]), #[]⟩
noncomputable def o133 (P : Params) : Obj := ⟨.type "function", none, (.func (fnOf "is_safe_above" "is_safe_above" (defArgs s_is_safe_above) (defBody s_is_safe_above) (defScope s_is_safe_above) .none .none .none (.str "batterykeeper.safety" 306) none (.ref 132) .none)), #[]⟩
noncomputable def o136 (P : Params) : Obj := ⟨.type "tuple", none, (.seq #[.str "make" 358, .str "pair" 359, .str "ticks" 360] 0), #[]⟩
noncomputable def o138 (P : Params) : Obj := ⟨.none, none, (.func { fnOf "is_safe" "is_safe" (defArgs s_is_safe) (defBody s_is_safe) (defScope s_is_safe) .none .none .none .none none .none .none with globals := 0, closure := [], builtins := 0 }), #[]⟩
noncomputable def o139 (P : Params) : Obj := ⟨.type "code", none, (.fields #[.str "is_safe" 355, .str "is_safe" 356, .str "/claim/cut.py" 357, .int 78 0, .int 3 0, .int 0 0, .int 0 0, .int 3 0, .ref 134, .bool true, .int 181 0, .ref 135, .none, .ref 136, .ref 137, .ref 138, .int 361 0, .int 78 0, .str "/claim/cut.py" 362]), #[]⟩
noncomputable def o140 (P : Params) : Obj := ⟨.type "function", none, (.func (fnOf "is_safe" "is_safe" (defArgs s_is_safe) (defBody s_is_safe) (defScope s_is_safe) .none .none .none (.str "batterykeeper.safety" 306) none (.ref 139) .none)), #[]⟩
noncomputable def o143 (P : Params) : Obj := ⟨.type "tuple", none, (.seq #[.str "make" 367, .str "pair" 368, .str "may_be_asked" 369, .str "may_be_put" 370] 0), #[]⟩
noncomputable def o144 (P : Params) : Obj := ⟨.type "tuple", none, (.seq #[.str "make" 371, .str "pair" 372] 0), #[]⟩
noncomputable def o145 (P : Params) : Obj := ⟨.none, none, (.func { fnOf "most_currents" "most_currents" (defArgs s_most_currents) (defBody s_most_currents) (defScope s_most_currents) .none .none .none .none none .none .none with globals := 0, closure := [], builtins := 0 }), #[]⟩
noncomputable def o146 (P : Params) : Obj := ⟨.type "code", none, (.fields #[.str "most_currents" 364, .str "most_currents" 365, .str "/claim/cut.py" 366, .int 80 0, .int 2 0, .int 0 0, .int 0 0, .int 3 0, .ref 141, .bool true, .int 181 0, .ref 142, .none, .ref 143, .ref 144, .ref 145, .int 373 0, .int 80 0, .str "/claim/cut.py" 374]), #[]⟩
noncomputable def o147 (P : Params) : Obj := ⟨.type "function", none, (.func (fnOf "most_currents" "most_currents" (defArgs s_most_currents) (defBody s_most_currents) (defScope s_most_currents) .none .none .none (.str "batterykeeper.safety" 306) none (.ref 146) .none)), #[]⟩
noncomputable def o150 (P : Params) : Obj := ⟨.type "tuple", none, (.seq #[.str "top" 379, .str "holds" 380, .str "known" 381, .str "failing" 382, .str "middle" 383] 0), #[]⟩
noncomputable def o152 (P : Params) : Obj := ⟨.none, none, (.func { fnOf "greatest_that" "greatest_that" (defArgs s_greatest_that) (defBody s_greatest_that) (defScope s_greatest_that) .none .none .none .none none .none .none with globals := 0, closure := [], builtins := 0 }), #[]⟩
noncomputable def o153 (P : Params) : Obj := ⟨.type "code", none, (.fields #[.str "greatest_that" 376, .str "greatest_that" 377, .str "/claim/cut.py" 378, .int 90 0, .int 2 0, .int 0 0, .int 0 0, .int 3 0, .ref 148, .bool true, .int 181 0, .ref 149, .none, .ref 150, .ref 151, .ref 152, .int 384 0, .int 90 0, .str "/claim/cut.py" 385]), #[]⟩
noncomputable def o154 (P : Params) : Obj := ⟨.type "function", none, (.func (fnOf "greatest_that" "greatest_that" (defArgs s_greatest_that) (defBody s_greatest_that) (defScope s_greatest_that) .none .none .none (.str "batterykeeper.safety" 306) none (.ref 153) .none)), #[]⟩
noncomputable def o156 (P : Params) : Obj := ⟨.type "builtin_function_or_method", none, (.fields #[.builtin "type.__prepare__", .type "type"]), #[]⟩
noncomputable def o157 (P : Params) : Obj := ⟨.type "dict", none, (.dict #[⟨PyData.keyHash P "__module__", .str "__module__" 406, .str "batterykeeper.battery" 387⟩, ⟨PyData.keyHash P "__qualname__", .str "__qualname__" 408, .str "Keeper" 407⟩, ⟨PyData.keyHash P "__firstlineno__", .str "__firstlineno__" 410, .int 110 409⟩, ⟨PyData.keyHash P "__init__", .str "__init__" 418, .ref 168⟩, ⟨PyData.keyHash P "__static_attributes__", .str "__static_attributes__" 426, .ref 169⟩] 5), #[]⟩
noncomputable def o159 (P : Params) : Obj := ⟨.none, none, (.fields #[.int 112 0, .int 4 0, .ref 167]), #[]⟩
noncomputable def o160 (P : Params) : Obj := ⟨.type "code", none, (.fields #[.str "Keeper" 401, .str "Keeper" 402, .str "/claim/cut.py" 403, .int 110 0, .int 0 0, .int 0 0, .int 0 0, .int 0 0, .ref 158, .bool false, .int 181 0, .ref 159, .none, .none, .none, .none, .int 404 0, .int 110 0, .str "/claim/cut.py" 405]), #[]⟩
noncomputable def o161 (P : Params) : Obj := ⟨.type "frame", none, .plain, #[some (.ref 160), some (.ref 3), some (.ref 157), none, some (.str "batterykeeper.battery" 387), none, some (.ref 0)]⟩
noncomputable def o164 (P : Params) : Obj := ⟨.type "tuple", none, (.seq #[.str "self" 414, .str "make" 415] 0), #[]⟩
noncomputable def o166 (P : Params) : Obj := ⟨.none, none, (.func { fnOf "__init__" "Keeper.__init__" (defArgs s_Keeper) (defBody s_Keeper) (defScope s_Keeper) .none .none .none .none none .none .none with globals := 0, closure := [], builtins := 0 }), #[]⟩
noncomputable def o167 (P : Params) : Obj := ⟨.type "code", none, (.fields #[.str "__init__" 411, .str "Keeper.__init__" 412, .str "/claim/cut.py" 413, .int 112 0, .int 2 0, .int 0 0, .int 0 0, .int 3 0, .ref 162, .bool true, .int 181 0, .ref 163, .none, .ref 164, .ref 165, .ref 166, .int 416 0, .int 112 0, .str "/claim/cut.py" 417]), #[]⟩
noncomputable def o168 (P : Params) : Obj := ⟨.type "function", none, (.func (fnOf "__init__" "Keeper.__init__" (defArgs s_Keeper) (defBody s_Keeper) (defScope s_Keeper) .none .none .none (.str "batterykeeper.battery" 387) none (.ref 167) .none)), #[]⟩
noncomputable def o169 (P : Params) : Obj := ⟨.type "tuple", none, (.seq #[.str "asked" 419, .str "bled" 420, .str "filling_ticks" 421, .str "make" 422, .str "open_ticks" 423, .str "pairs" 424, .str "switch" 425] 0), #[]⟩
noncomputable def o170 (P : Params) : Obj := ⟨.type "dict", none, (.dict #[⟨PyData.keyHash P "__module__", .str "__module__" 406, .str "batterykeeper.battery" 387⟩, ⟨PyData.keyHash P "__firstlineno__", .str "__firstlineno__" 410, .int 110 409⟩, ⟨PyData.keyHash P "__init__", .str "__init__" 418, .ref 168⟩, ⟨PyData.keyHash P "__static_attributes__", .str "__static_attributes__" 426, .ref 169⟩, ⟨PyData.keyHash P "__dict__", .str "__dict__" 428, .ref 172⟩, ⟨PyData.keyHash P "__weakref__", .str "__weakref__" 430, .ref 173⟩, ⟨PyData.keyHash P "__doc__", .str "__doc__" 431, .none⟩] 4), #[]⟩
noncomputable def o171 (P : Params) : Obj := ⟨.type "type", none, (.cls { name := "Keeper", bases := [.type "object"], mro := [.ref 171, .type "object"], ns := 170, qualname := "Keeper", hasDict := true, slotNames := [], subclasses := [], abstract := false, collection := none, hasDel := false }), #[none, none, some (.str "Keeper" 399), some (.str "Keeper" 407), some (.builtin "object.__new__"), some (.bool true)]⟩
noncomputable def o172 (P : Params) : Obj := ⟨.type "getset_descriptor", none, (.fields #[.str "__dict__" 427, .ref 171, .builtin "function.__dict__", .builtin "function.__dict__#set"]), #[]⟩
noncomputable def o173 (P : Params) : Obj := ⟨.type "getset_descriptor", none, (.fields #[.str "__weakref__" 429, .ref 171, .builtin "ExceptionGroup.__weakref__", .none]), #[]⟩
noncomputable def o174 (P : Params) : Obj := ⟨.type "super", none, (.fields #[.ref 171, .ref 171, .ref 171]), #[]⟩
noncomputable def o175 (P : Params) : Obj := ⟨.type "builtin_function_or_method", none, (.fields #[.builtin "object.__init_subclass__", .ref 171]), #[]⟩
noncomputable def o178 (P : Params) : Obj := ⟨.type "tuple", none, (.seq #[.str "keeper" 437, .str "measured" 438, .str "link" 439, .str "voltages" 440] 0), #[]⟩
noncomputable def o180 (P : Params) : Obj := ⟨.none, none, (.func { fnOf "tick" "tick" (defArgs s_tick) (defBody s_tick) (defScope s_tick) .none .none .none .none none .none .none with globals := 0, closure := [], builtins := 0 }), #[]⟩
noncomputable def o181 (P : Params) : Obj := ⟨.type "code", none, (.fields #[.str "tick" 434, .str "tick" 435, .str "/claim/cut.py" 436, .int 120 0, .int 4 0, .int 0 0, .int 0 0, .int 3 0, .ref 176, .bool true, .int 181 0, .ref 177, .none, .ref 178, .ref 179, .ref 180, .int 441 0, .int 120 0, .str "/claim/cut.py" 442]), #[]⟩
noncomputable def o182 (P : Params) : Obj := ⟨.type "function", none, (.func (fnOf "tick" "tick" (defArgs s_tick) (defBody s_tick) (defScope s_tick) .none .none .none (.str "batterykeeper.battery" 387) none (.ref 181) .none)), #[]⟩
noncomputable def o185 (P : Params) : Obj := ⟨.type "tuple", none, (.seq #[.str "keeper" 447, .str "measured" 448, .str "link" 449, .str "voltages" 450, .str "pairs" 451] 0), #[]⟩
noncomputable def o187 (P : Params) : Obj := ⟨.none, none, (.func { fnOf "go_on" "go_on" (defArgs s_go_on) (defBody s_go_on) (defScope s_go_on) .none .none .none .none none .none .none with globals := 0, closure := [], builtins := 0 }), #[]⟩
noncomputable def o188 (P : Params) : Obj := ⟨.type "code", none, (.fields #[.str "go_on" 444, .str "go_on" 445, .str "/claim/cut.py" 446, .int 126 0, .int 4 0, .int 0 0, .int 0 0, .int 3 0, .ref 183, .bool true, .int 181 0, .ref 184, .none, .ref 185, .ref 186, .ref 187, .int 452 0, .int 126 0, .str "/claim/cut.py" 453]), #[]⟩
noncomputable def o189 (P : Params) : Obj := ⟨.type "function", none, (.func (fnOf "go_on" "go_on" (defArgs s_go_on) (defBody s_go_on) (defScope s_go_on) .none .none .none (.str "batterykeeper.battery" 387) none (.ref 188) .none)), #[]⟩
noncomputable def o192 (P : Params) : Obj := ⟨.type "tuple", none, (.seq #[.str "keeper" 458, .str "measured" 459] 0), #[]⟩
noncomputable def o194 (P : Params) : Obj := ⟨.none, none, (.func { fnOf "flows_though_long_open" "flows_though_long_open" (defArgs s_flows_though_long_open) (defBody s_flows_though_long_open) (defScope s_flows_though_long_open) .none .none .none .none none .none .none with globals := 0, closure := [], builtins := 0 }), #[]⟩
noncomputable def o195 (P : Params) : Obj := ⟨.type "code", none, (.fields #[.str "flows_though_long_open" 455, .str "flows_though_long_open" 456, .str "/claim/cut.py" 457, .int 140 0, .int 2 0, .int 0 0, .int 0 0, .int 3 0, .ref 190, .bool true, .int 181 0, .ref 191, .none, .ref 192, .ref 193, .ref 194, .int 460 0, .int 140 0, .str "/claim/cut.py" 461]), #[]⟩
noncomputable def o196 (P : Params) : Obj := ⟨.type "function", none, (.func (fnOf "flows_though_long_open" "flows_though_long_open" (defArgs s_flows_though_long_open) (defBody s_flows_though_long_open) (defScope s_flows_though_long_open) .none .none .none (.str "batterykeeper.battery" 387) none (.ref 195) .none)), #[]⟩
noncomputable def o199 (P : Params) : Obj := ⟨.type "tuple", none, (.seq #[.str "keeper" 466, .str "measured" 467, .str "voltages" 468, .str "pairs" 469, .str "k" 470, .str "pair" 471] 0), #[]⟩
noncomputable def o201 (P : Params) : Obj := ⟨.none, none, (.func { fnOf "pairs_behind" "pairs_behind" (defArgs s_pairs_behind) (defBody s_pairs_behind) (defScope s_pairs_behind) .none .none .none .none none .none .none with globals := 0, closure := [], builtins := 0 }), #[]⟩
noncomputable def o202 (P : Params) : Obj := ⟨.type "code", none, (.fields #[.str "pairs_behind" 463, .str "pairs_behind" 464, .str "/claim/cut.py" 465, .int 142 0, .int 3 0, .int 0 0, .int 0 0, .int 3 0, .ref 197, .bool true, .int 181 0, .ref 198, .none, .ref 199, .ref 200, .ref 201, .int 472 0, .int 142 0, .str "/claim/cut.py" 473]), #[]⟩
noncomputable def o203 (P : Params) : Obj := ⟨.type "function", none, (.func (fnOf "pairs_behind" "pairs_behind" (defArgs s_pairs_behind) (defBody s_pairs_behind) (defScope s_pairs_behind) .none .none .none (.str "batterykeeper.battery" 387) none (.ref 202) .none)), #[]⟩
noncomputable def o206 (P : Params) : Obj := ⟨.type "tuple", none, (.seq #[.str "keeper" 478, .str "link" 479, .str "voltage" 480, .str "may_be_on" 481] 0), #[]⟩
noncomputable def o208 (P : Params) : Obj := ⟨.none, none, (.func { fnOf "turn_switch" "turn_switch" (defArgs s_turn_switch) (defBody s_turn_switch) (defScope s_turn_switch) .none .none .none .none none .none .none with globals := 0, closure := [], builtins := 0 }), #[]⟩
noncomputable def o209 (P : Params) : Obj := ⟨.type "code", none, (.fields #[.str "turn_switch" 475, .str "turn_switch" 476, .str "/claim/cut.py" 477, .int 153 0, .int 3 0, .int 0 0, .int 0 0, .int 3 0, .ref 204, .bool true, .int 181 0, .ref 205, .none, .ref 206, .ref 207, .ref 208, .int 482 0, .int 153 0, .str "/claim/cut.py" 483]), #[]⟩
noncomputable def o210 (P : Params) : Obj := ⟨.type "function", none, (.func (fnOf "turn_switch" "turn_switch" (defArgs s_turn_switch) (defBody s_turn_switch) (defScope s_turn_switch) .none .none .none (.str "batterykeeper.battery" 387) none (.ref 209) .none)), #[]⟩
noncomputable def o213 (P : Params) : Obj := ⟨.none, none, (.func { fnOf "is_good" "is_good" (defArgs s_is_good) (defBody s_is_good) (defScope s_is_good) .none .none .none .none none .none .none with globals := 0, closure := [], builtins := 0 }), #[]⟩
noncomputable def o214 (P : Params) : Obj := ⟨.type "code", none, (.fields #[.str "is_good" 485, .str "is_good" 486, .str "/claim/cut.py" 487, .int 163 0, .int 1 0, .int 0 0, .int 0 0, .int 3 0, .ref 211, .bool true, .int 181 0, .ref 212, .none, .none, .none, .ref 213, .int 488 0, .int 163 0, .str "/claim/cut.py" 489]), #[]⟩
noncomputable def o215 (P : Params) : Obj := ⟨.type "function", none, (.func (fnOf "is_good" "is_good" (defArgs s_is_good) (defBody s_is_good) (defScope s_is_good) .none .none .none (.str "batterykeeper.battery" 387) none (.ref 214) .none)), #[]⟩
noncomputable def o218 (P : Params) : Obj := ⟨.type "tuple", none, (.seq #[.str "keeper" 494, .str "link" 495, .str "voltage" 496] 0), #[]⟩
noncomputable def o220 (P : Params) : Obj := ⟨.none, none, (.func { fnOf "fill" "fill" (defArgs s_fill) (defBody s_fill) (defScope s_fill) .none .none .none .none none .none .none with globals := 0, closure := [], builtins := 0 }), #[]⟩
noncomputable def o221 (P : Params) : Obj := ⟨.type "code", none, (.fields #[.str "fill" 491, .str "fill" 492, .str "/claim/cut.py" 493, .int 165 0, .int 3 0, .int 0 0, .int 0 0, .int 3 0, .ref 216, .bool true, .int 181 0, .ref 217, .none, .ref 218, .ref 219, .ref 220, .int 497 0, .int 165 0, .str "/claim/cut.py" 498]), #[]⟩
noncomputable def o222 (P : Params) : Obj := ⟨.type "function", none, (.func (fnOf "fill" "fill" (defArgs s_fill) (defBody s_fill) (defScope s_fill) .none .none .none (.str "batterykeeper.battery" 387) none (.ref 221) .none)), #[]⟩
noncomputable def o225 (P : Params) : Obj := ⟨.none, none, (.func { fnOf "cells_to_bleed" "cells_to_bleed" (defArgs s_cells_to_bleed) (defBody s_cells_to_bleed) (defScope s_cells_to_bleed) .none .none .none .none none .none .none with globals := 0, closure := [], builtins := 0 }), #[]⟩
noncomputable def o226 (P : Params) : Obj := ⟨.type "code", none, (.fields #[.str "cells_to_bleed" 500, .str "cells_to_bleed" 501, .str "/claim/cut.py" 502, .int 172 0, .int 1 0, .int 0 0, .int 0 0, .int 3 0, .ref 223, .bool true, .int 181 0, .ref 224, .none, .none, .none, .ref 225, .int 503 0, .int 172 0, .str "/claim/cut.py" 504]), #[]⟩
noncomputable def o227 (P : Params) : Obj := ⟨.type "function", none, (.func (fnOf "cells_to_bleed" "cells_to_bleed" (defArgs s_cells_to_bleed) (defBody s_cells_to_bleed) (defScope s_cells_to_bleed) .none .none .none (.str "batterykeeper.battery" 387) none (.ref 226) .none)), #[]⟩
noncomputable def o230 (P : Params) : Obj := ⟨.none, none, (.func { fnOf "bled_bits" "bled_bits" (defArgs s_bled_bits) (defBody s_bled_bits) (defScope s_bled_bits) .none .none .none .none none .none .none with globals := 0, closure := [], builtins := 0 }), #[]⟩
noncomputable def o231 (P : Params) : Obj := ⟨.type "code", none, (.fields #[.str "bled_bits" 506, .str "bled_bits" 507, .str "/claim/cut.py" 508, .int 176 0, .int 1 0, .int 0 0, .int 0 0, .int 3 0, .ref 228, .bool true, .int 181 0, .ref 229, .none, .none, .none, .ref 230, .int 509 0, .int 176 0, .str "/claim/cut.py" 510]), #[]⟩
noncomputable def o232 (P : Params) : Obj := ⟨.type "function", none, (.func (fnOf "bled_bits" "bled_bits" (defArgs s_bled_bits) (defBody s_bled_bits) (defScope s_bled_bits) .none .none .none (.str "batterykeeper.battery" 387) none (.ref 231) .none)), #[]⟩
noncomputable def o235 (P : Params) : Obj := ⟨.none, none, (.func { fnOf "currents_for_next" "currents_for_next" (defArgs s_currents_for_next) (defBody s_currents_for_next) (defScope s_currents_for_next) .none .none .none .none none .none .none with globals := 0, closure := [], builtins := 0 }), #[]⟩
noncomputable def o236 (P : Params) : Obj := ⟨.type "code", none, (.fields #[.str "currents_for_next" 512, .str "currents_for_next" 513, .str "/claim/cut.py" 514, .int 178 0, .int 1 0, .int 0 0, .int 0 0, .int 3 0, .ref 233, .bool true, .int 181 0, .ref 234, .none, .none, .none, .ref 235, .int 515 0, .int 178 0, .str "/claim/cut.py" 516]), #[]⟩
noncomputable def o237 (P : Params) : Obj := ⟨.type "function", none, (.func (fnOf "currents_for_next" "currents_for_next" (defArgs s_currents_for_next) (defBody s_currents_for_next) (defScope s_currents_for_next) .none .none .none (.str "batterykeeper.battery" 387) none (.ref 236) .none)), #[]⟩
noncomputable def o240 (P : Params) : Obj := ⟨.type "tuple", none, (.seq #[.str "currents" 521] 0), #[]⟩
noncomputable def o242 (P : Params) : Obj := ⟨.none, none, (.func { fnOf "least_of" "least_of" (defArgs s_least_of) (defBody s_least_of) (defScope s_least_of) .none .none .none .none none .none .none with globals := 0, closure := [], builtins := 0 }), #[]⟩
noncomputable def o243 (P : Params) : Obj := ⟨.type "code", none, (.fields #[.str "least_of" 518, .str "least_of" 519, .str "/claim/cut.py" 520, .int 183 0, .int 1 0, .int 0 0, .int 0 0, .int 3 0, .ref 238, .bool true, .int 181 0, .ref 239, .none, .ref 240, .ref 241, .ref 242, .int 522 0, .int 183 0, .str "/claim/cut.py" 523]), #[]⟩
noncomputable def o244 (P : Params) : Obj := ⟨.type "function", none, (.func (fnOf "least_of" "least_of" (defArgs s_least_of) (defBody s_least_of) (defScope s_least_of) .none .none .none (.str "batterykeeper.battery" 387) none (.ref 243) .none)), #[]⟩
noncomputable def o247 (P : Params) : Obj := ⟨.type "dict", none, (.dict #[⟨PyData.keyHash P "__module__", .str "__module__" 536, .str "batterykeeper.make" 525⟩, ⟨PyData.keyHash P "__qualname__", .str "__qualname__" 538, .str "Make" 537⟩, ⟨PyData.keyHash P "__firstlineno__", .str "__firstlineno__" 540, .int 187 539⟩, ⟨PyData.keyHash P "__init__", .str "__init__" 549, .ref 258⟩, ⟨PyData.keyHash P "__static_attributes__", .str "__static_attributes__" 569, .ref 259⟩] 5), #[]⟩
noncomputable def o249 (P : Params) : Obj := ⟨.none, none, (.fields #[.int 189 0, .int 4 0, .ref 257]), #[]⟩
noncomputable def o250 (P : Params) : Obj := ⟨.type "code", none, (.fields #[.str "Make" 531, .str "Make" 532, .str "/claim/cut.py" 533, .int 187 0, .int 0 0, .int 0 0, .int 0 0, .int 0 0, .ref 248, .bool false, .int 181 0, .ref 249, .none, .none, .none, .none, .int 534 0, .int 187 0, .str "/claim/cut.py" 535]), #[]⟩
noncomputable def o251 (P : Params) : Obj := ⟨.type "frame", none, .plain, #[some (.ref 250), some (.ref 3), some (.ref 247), none, some (.str "batterykeeper.make" 525), none, some (.ref 0)]⟩
noncomputable def o254 (P : Params) : Obj := ⟨.type "tuple", none, (.seq #[.str "self" 544, .str "numbers" 545, .str "curve" 546] 0), #[]⟩
noncomputable def o256 (P : Params) : Obj := ⟨.none, none, (.func { fnOf "__init__" "Make.__init__" (defArgs s_Make) (defBody s_Make) (defScope s_Make) .none .none .none .none none .none .none with globals := 0, closure := [], builtins := 0 }), #[]⟩
noncomputable def o257 (P : Params) : Obj := ⟨.type "code", none, (.fields #[.str "__init__" 541, .str "Make.__init__" 542, .str "/claim/cut.py" 543, .int 189 0, .int 3 0, .int 0 0, .int 0 0, .int 3 0, .ref 252, .bool true, .int 181 0, .ref 253, .none, .ref 254, .ref 255, .ref 256, .int 547 0, .int 189 0, .str "/claim/cut.py" 548]), #[]⟩
noncomputable def o258 (P : Params) : Obj := ⟨.type "function", none, (.func (fnOf "__init__" "Make.__init__" (defArgs s_Make) (defBody s_Make) (defScope s_Make) .none .none .none (.str "batterykeeper.make" 525) none (.ref 257) .none)), #[]⟩
noncomputable def o259 (P : Params) : Obj := ⟨.type "tuple", none, (.seq #[.str "bleed_high" 550, .str "bleed_low" 551, .str "cells" 552, .str "curve" 553, .str "fill" 554, .str "fuse" 555, .str "high" 556, .str "leak" 557, .str "least" 558, .str "like" 559, .str "low" 560, .str "most" 561, .str "near" 562, .str "none" 563, .str "none2" 564, .str "off" 565, .str "strong" 566, .str "wait" 567, .str "weak" 568] 0), #[]⟩
noncomputable def o260 (P : Params) : Obj := ⟨.type "dict", none, (.dict #[⟨PyData.keyHash P "__module__", .str "__module__" 536, .str "batterykeeper.make" 525⟩, ⟨PyData.keyHash P "__firstlineno__", .str "__firstlineno__" 540, .int 187 539⟩, ⟨PyData.keyHash P "__init__", .str "__init__" 549, .ref 258⟩, ⟨PyData.keyHash P "__static_attributes__", .str "__static_attributes__" 569, .ref 259⟩, ⟨PyData.keyHash P "__dict__", .str "__dict__" 571, .ref 262⟩, ⟨PyData.keyHash P "__weakref__", .str "__weakref__" 573, .ref 263⟩, ⟨PyData.keyHash P "__doc__", .str "__doc__" 574, .none⟩] 4), #[]⟩
noncomputable def o261 (P : Params) : Obj := ⟨.type "type", none, (.cls { name := "Make", bases := [.type "object"], mro := [.ref 261, .type "object"], ns := 260, qualname := "Make", hasDict := true, slotNames := [], subclasses := [], abstract := false, collection := none, hasDel := false }), #[none, none, some (.str "Make" 529), some (.str "Make" 537), some (.builtin "object.__new__"), some (.bool true)]⟩
noncomputable def o262 (P : Params) : Obj := ⟨.type "getset_descriptor", none, (.fields #[.str "__dict__" 570, .ref 261, .builtin "function.__dict__", .builtin "function.__dict__#set"]), #[]⟩
noncomputable def o263 (P : Params) : Obj := ⟨.type "getset_descriptor", none, (.fields #[.str "__weakref__" 572, .ref 261, .builtin "ExceptionGroup.__weakref__", .none]), #[]⟩
noncomputable def o264 (P : Params) : Obj := ⟨.type "super", none, (.fields #[.ref 261, .ref 261, .ref 261]), #[]⟩
noncomputable def o265 (P : Params) : Obj := ⟨.type "builtin_function_or_method", none, (.fields #[.builtin "object.__init_subclass__", .ref 261]), #[]⟩
noncomputable def o268 (P : Params) : Obj := ⟨.type "tuple", none, (.seq #[.str "make" 580] 0), #[]⟩
noncomputable def o270 (P : Params) : Obj := ⟨.none, none, (.func { fnOf "is_right" "is_right" (defArgs s_is_right) (defBody s_is_right) (defScope s_is_right) .none .none .none .none none .none .none with globals := 0, closure := [], builtins := 0 }), #[]⟩
noncomputable def o271 (P : Params) : Obj := ⟨.type "code", none, (.fields #[.str "is_right" 577, .str "is_right" 578, .str "/claim/cut.py" 579, .int 209 0, .int 1 0, .int 0 0, .int 0 0, .int 3 0, .ref 266, .bool true, .int 181 0, .ref 267, .none, .ref 268, .ref 269, .ref 270, .int 581 0, .int 209 0, .str "/claim/cut.py" 582]), #[]⟩
noncomputable def o272 (P : Params) : Obj := ⟨.type "function", none, (.func (fnOf "is_right" "is_right" (defArgs s_is_right) (defBody s_is_right) (defScope s_is_right) .none .none .none (.str "batterykeeper.make" 525) none (.ref 271) .none)), #[]⟩
noncomputable def o275 (P : Params) : Obj := ⟨.type "tuple", none, (.seq #[.str "make" 587] 0), #[]⟩
noncomputable def o277 (P : Params) : Obj := ⟨.none, none, (.func { fnOf "counts_are_right" "counts_are_right" (defArgs s_counts_are_right) (defBody s_counts_are_right) (defScope s_counts_are_right) .none .none .none .none none .none .none with globals := 0, closure := [], builtins := 0 }), #[]⟩
noncomputable def o278 (P : Params) : Obj := ⟨.type "code", none, (.fields #[.str "counts_are_right" 584, .str "counts_are_right" 585, .str "/claim/cut.py" 586, .int 211 0, .int 1 0, .int 0 0, .int 0 0, .int 3 0, .ref 273, .bool true, .int 181 0, .ref 274, .none, .ref 275, .ref 276, .ref 277, .int 588 0, .int 211 0, .str "/claim/cut.py" 589]), #[]⟩
noncomputable def o279 (P : Params) : Obj := ⟨.type "function", none, (.func (fnOf "counts_are_right" "counts_are_right" (defArgs s_counts_are_right) (defBody s_counts_are_right) (defScope s_counts_are_right) .none .none .none (.str "batterykeeper.make" 525) none (.ref 278) .none)), #[]⟩
noncomputable def o282 (P : Params) : Obj := ⟨.type "tuple", none, (.seq #[.str "make" 594] 0), #[]⟩
noncomputable def o284 (P : Params) : Obj := ⟨.none, none, (.func { fnOf "cells_are_right" "cells_are_right" (defArgs s_cells_are_right) (defBody s_cells_are_right) (defScope s_cells_are_right) .none .none .none .none none .none .none with globals := 0, closure := [], builtins := 0 }), #[]⟩
noncomputable def o285 (P : Params) : Obj := ⟨.type "code", none, (.fields #[.str "cells_are_right" 591, .str "cells_are_right" 592, .str "/claim/cut.py" 593, .int 213 0, .int 1 0, .int 0 0, .int 0 0, .int 3 0, .ref 280, .bool true, .int 181 0, .ref 281, .none, .ref 282, .ref 283, .ref 284, .int 595 0, .int 213 0, .str "/claim/cut.py" 596]), #[]⟩
noncomputable def o286 (P : Params) : Obj := ⟨.type "function", none, (.func (fnOf "cells_are_right" "cells_are_right" (defArgs s_cells_are_right) (defBody s_cells_are_right) (defScope s_cells_are_right) .none .none .none (.str "batterykeeper.make" 525) none (.ref 285) .none)), #[]⟩
noncomputable def o289 (P : Params) : Obj := ⟨.type "tuple", none, (.seq #[.str "make" 601] 0), #[]⟩
noncomputable def o291 (P : Params) : Obj := ⟨.none, none, (.func { fnOf "currents_are_right" "currents_are_right" (defArgs s_currents_are_right) (defBody s_currents_are_right) (defScope s_currents_are_right) .none .none .none .none none .none .none with globals := 0, closure := [], builtins := 0 }), #[]⟩
noncomputable def o292 (P : Params) : Obj := ⟨.type "code", none, (.fields #[.str "currents_are_right" 598, .str "currents_are_right" 599, .str "/claim/cut.py" 600, .int 215 0, .int 1 0, .int 0 0, .int 0 0, .int 3 0, .ref 287, .bool true, .int 181 0, .ref 288, .none, .ref 289, .ref 290, .ref 291, .int 602 0, .int 215 0, .str "/claim/cut.py" 603]), #[]⟩
noncomputable def o293 (P : Params) : Obj := ⟨.type "function", none, (.func (fnOf "currents_are_right" "currents_are_right" (defArgs s_currents_are_right) (defBody s_currents_are_right) (defScope s_currents_are_right) .none .none .none (.str "batterykeeper.make" 525) none (.ref 292) .none)), #[]⟩
noncomputable def o296 (P : Params) : Obj := ⟨.type "tuple", none, (.seq #[.str "make" 608] 0), #[]⟩
noncomputable def o298 (P : Params) : Obj := ⟨.none, none, (.func { fnOf "voltages_are_right" "voltages_are_right" (defArgs s_voltages_are_right) (defBody s_voltages_are_right) (defScope s_voltages_are_right) .none .none .none .none none .none .none with globals := 0, closure := [], builtins := 0 }), #[]⟩
noncomputable def o299 (P : Params) : Obj := ⟨.type "code", none, (.fields #[.str "voltages_are_right" 605, .str "voltages_are_right" 606, .str "/claim/cut.py" 607, .int 217 0, .int 1 0, .int 0 0, .int 0 0, .int 3 0, .ref 294, .bool true, .int 181 0, .ref 295, .none, .ref 296, .ref 297, .ref 298, .int 609 0, .int 217 0, .str "/claim/cut.py" 610]), #[]⟩
noncomputable def o300 (P : Params) : Obj := ⟨.type "function", none, (.func (fnOf "voltages_are_right" "voltages_are_right" (defArgs s_voltages_are_right) (defBody s_voltages_are_right) (defScope s_voltages_are_right) .none .none .none (.str "batterykeeper.make" 525) none (.ref 299) .none)), #[]⟩
noncomputable def o303 (P : Params) : Obj := ⟨.none, none, (.func { fnOf "curve_is_right" "curve_is_right" (defArgs s_curve_is_right) (defBody s_curve_is_right) (defScope s_curve_is_right) .none .none .none .none none .none .none with globals := 0, closure := [], builtins := 0 }), #[]⟩
noncomputable def o304 (P : Params) : Obj := ⟨.type "code", none, (.fields #[.str "curve_is_right" 612, .str "curve_is_right" 613, .str "/claim/cut.py" 614, .int 219 0, .int 1 0, .int 0 0, .int 0 0, .int 3 0, .ref 301, .bool true, .int 181 0, .ref 302, .none, .none, .none, .ref 303, .int 615 0, .int 219 0, .str "/claim/cut.py" 616]), #[]⟩
noncomputable def o305 (P : Params) : Obj := ⟨.type "function", none, (.func (fnOf "curve_is_right" "curve_is_right" (defArgs s_curve_is_right) (defBody s_curve_is_right) (defScope s_curve_is_right) .none .none .none (.str "batterykeeper.make" 525) none (.ref 304) .none)), #[]⟩
noncomputable def o306 (P : Params) : Obj := ⟨.type "tuple", none, (.seq #[.int 18 628, .int 1 629, .int 2 630, .int 1 631, .int 0 632] 0), #[]⟩
noncomputable def o307 (P : Params) : Obj := ⟨.type "tuple", none, (.seq #[.bool true, .bool false, .bool true, .bool false, .bool false] 0), #[]⟩
noncomputable def o310 (P : Params) : Obj := ⟨.type "dict", none, (.dict #[⟨PyData.keyHash P "__module__", .str "__module__" 648, .str "batterykeeper.keeper" 618⟩, ⟨PyData.keyHash P "__qualname__", .str "__qualname__" 650, .str "Line" 649⟩, ⟨PyData.keyHash P "__firstlineno__", .str "__firstlineno__" 652, .int 232 651⟩, ⟨PyData.keyHash P "__init__", .str "__init__" 659, .ref 321⟩, ⟨PyData.keyHash P "__static_attributes__", .str "__static_attributes__" 661, .ref 322⟩] 5), #[]⟩
noncomputable def o312 (P : Params) : Obj := ⟨.none, none, (.fields #[.int 234 0, .int 4 0, .ref 320]), #[]⟩
noncomputable def o313 (P : Params) : Obj := ⟨.type "code", none, (.fields #[.str "Line" 643, .str "Line" 644, .str "/claim/cut.py" 645, .int 232 0, .int 0 0, .int 0 0, .int 0 0, .int 0 0, .ref 311, .bool false, .int 181 0, .ref 312, .none, .none, .none, .none, .int 646 0, .int 232 0, .str "/claim/cut.py" 647]), #[]⟩
noncomputable def o314 (P : Params) : Obj := ⟨.type "frame", none, .plain, #[some (.ref 313), some (.ref 3), some (.ref 310), none, some (.str "batterykeeper.keeper" 618), none, some (.ref 0)]⟩
noncomputable def o317 (P : Params) : Obj := ⟨.type "tuple", none, (.seq #[.str "self" 656] 0), #[]⟩
noncomputable def o319 (P : Params) : Obj := ⟨.none, none, (.func { fnOf "__init__" "Line.__init__" (defArgs s_Line) (defBody s_Line) (defScope s_Line) .none .none .none .none none .none .none with globals := 0, closure := [], builtins := 0 }), #[]⟩
noncomputable def o320 (P : Params) : Obj := ⟨.type "code", none, (.fields #[.str "__init__" 653, .str "Line.__init__" 654, .str "/claim/cut.py" 655, .int 234 0, .int 1 0, .int 0 0, .int 0 0, .int 3 0, .ref 315, .bool true, .int 181 0, .ref 316, .none, .ref 317, .ref 318, .ref 319, .int 657 0, .int 234 0, .str "/claim/cut.py" 658]), #[]⟩
noncomputable def o321 (P : Params) : Obj := ⟨.type "function", none, (.func (fnOf "__init__" "Line.__init__" (defArgs s_Line) (defBody s_Line) (defScope s_Line) .none .none .none (.str "batterykeeper.keeper" 618) none (.ref 320) .none)), #[]⟩
noncomputable def o322 (P : Params) : Obj := ⟨.type "tuple", none, (.seq #[.str "keeper" 660] 0), #[]⟩
noncomputable def o323 (P : Params) : Obj := ⟨.type "dict", none, (.dict #[⟨PyData.keyHash P "__module__", .str "__module__" 648, .str "batterykeeper.keeper" 618⟩, ⟨PyData.keyHash P "__firstlineno__", .str "__firstlineno__" 652, .int 232 651⟩, ⟨PyData.keyHash P "__init__", .str "__init__" 659, .ref 321⟩, ⟨PyData.keyHash P "__static_attributes__", .str "__static_attributes__" 661, .ref 322⟩, ⟨PyData.keyHash P "__dict__", .str "__dict__" 663, .ref 325⟩, ⟨PyData.keyHash P "__weakref__", .str "__weakref__" 665, .ref 326⟩, ⟨PyData.keyHash P "__doc__", .str "__doc__" 666, .none⟩] 4), #[]⟩
noncomputable def o324 (P : Params) : Obj := ⟨.type "type", none, (.cls { name := "Line", bases := [.type "object"], mro := [.ref 324, .type "object"], ns := 323, qualname := "Line", hasDict := true, slotNames := [], subclasses := [], abstract := false, collection := none, hasDel := false }), #[none, none, some (.str "Line" 641), some (.str "Line" 649), some (.builtin "object.__new__"), some (.bool true)]⟩
noncomputable def o325 (P : Params) : Obj := ⟨.type "getset_descriptor", none, (.fields #[.str "__dict__" 662, .ref 324, .builtin "function.__dict__", .builtin "function.__dict__#set"]), #[]⟩
noncomputable def o326 (P : Params) : Obj := ⟨.type "getset_descriptor", none, (.fields #[.str "__weakref__" 664, .ref 324, .builtin "ExceptionGroup.__weakref__", .none]), #[]⟩
noncomputable def o327 (P : Params) : Obj := ⟨.type "super", none, (.fields #[.ref 324, .ref 324, .ref 324]), #[]⟩
noncomputable def o328 (P : Params) : Obj := ⟨.type "builtin_function_or_method", none, (.fields #[.builtin "object.__init_subclass__", .ref 324]), #[]⟩
noncomputable def o331 (P : Params) : Obj := ⟨.type "tuple", none, (.seq #[.str "calls" 672, .str "line" 673, .str "told" 674, .str "begin" 675, .str "call" 676, .str "end" 677, .str "numbers" 678, .str "row" 679, .str "row_begin" 680, .str "answer" 681] 0), #[]⟩
noncomputable def o333 (P : Params) : Obj := ⟨.none, none, (.func { fnOf "answers" "answers" (defArgs s_answers) (defBody s_answers) (defScope s_answers) .none .none .none .none none .none .none with globals := 0, closure := [], builtins := 0 }), #[]⟩
noncomputable def o334 (P : Params) : Obj := ⟨.type "code", none, (.fields #[.str "answers" 669, .str "answers" 670, .str "/claim/cut.py" 671, .int 236 0, .int 1 0, .int 0 0, .int 0 0, .int 3 0, .ref 329, .bool true, .int 181 0, .ref 330, .none, .ref 331, .ref 332, .ref 333, .int 682 0, .int 236 0, .str "/claim/cut.py" 683]), #[]⟩
noncomputable def o335 (P : Params) : Obj := ⟨.type "function", none, (.func (fnOf "answers" "answers" (defArgs s_answers) (defBody s_answers) (defScope s_answers) .none .none .none (.str "batterykeeper.keeper" 618) none (.ref 334) .none)), #[]⟩
noncomputable def o338 (P : Params) : Obj := ⟨.type "tuple", none, (.seq #[.str "line" 688, .str "call" 689, .str "numbers" 690, .str "row" 691] 0), #[]⟩
noncomputable def o340 (P : Params) : Obj := ⟨.none, none, (.func { fnOf "answer_call" "answer_call" (defArgs s_answer_call) (defBody s_answer_call) (defScope s_answer_call) .none .none .none .none none .none .none with globals := 0, closure := [], builtins := 0 }), #[]⟩
noncomputable def o341 (P : Params) : Obj := ⟨.type "code", none, (.fields #[.str "answer_call" 685, .str "answer_call" 686, .str "/claim/cut.py" 687, .int 254 0, .int 4 0, .int 0 0, .int 0 0, .int 3 0, .ref 336, .bool true, .int 181 0, .ref 337, .none, .ref 338, .ref 339, .ref 340, .int 692 0, .int 254 0, .str "/claim/cut.py" 693]), #[]⟩
noncomputable def o342 (P : Params) : Obj := ⟨.type "function", none, (.func (fnOf "answer_call" "answer_call" (defArgs s_answer_call) (defBody s_answer_call) (defScope s_answer_call) .none .none .none (.str "batterykeeper.keeper" 618) none (.ref 341) .none)), #[]⟩
noncomputable def o345 (P : Params) : Obj := ⟨.type "tuple", none, (.seq #[.str "number" 698] 0), #[]⟩
noncomputable def o347 (P : Params) : Obj := ⟨.none, none, (.func { fnOf "number_alone" "number_alone" (defArgs s_number_alone) (defBody s_number_alone) (defScope s_number_alone) .none .none .none .none none .none .none with globals := 0, closure := [], builtins := 0 }), #[]⟩
noncomputable def o348 (P : Params) : Obj := ⟨.type "code", none, (.fields #[.str "number_alone" 695, .str "number_alone" 696, .str "/claim/cut.py" 697, .int 264 0, .int 1 0, .int 0 0, .int 0 0, .int 3 0, .ref 343, .bool true, .int 181 0, .ref 344, .none, .ref 345, .ref 346, .ref 347, .int 699 0, .int 264 0, .str "/claim/cut.py" 700]), #[]⟩
noncomputable def o349 (P : Params) : Obj := ⟨.type "function", none, (.func (fnOf "number_alone" "number_alone" (defArgs s_number_alone) (defBody s_number_alone) (defScope s_number_alone) .none .none .none (.str "batterykeeper.keeper" 618) none (.ref 348) .none)), #[]⟩
noncomputable def o352 (P : Params) : Obj := ⟨.type "tuple", none, (.seq #[.str "number" 705, .str "four" 706] 0), #[]⟩
noncomputable def o354 (P : Params) : Obj := ⟨.none, none, (.func { fnOf "number_and_four" "number_and_four" (defArgs s_number_and_four) (defBody s_number_and_four) (defScope s_number_and_four) .none .none .none .none none .none .none with globals := 0, closure := [], builtins := 0 }), #[]⟩
noncomputable def o355 (P : Params) : Obj := ⟨.type "code", none, (.fields #[.str "number_and_four" 702, .str "number_and_four" 703, .str "/claim/cut.py" 704, .int 266 0, .int 2 0, .int 0 0, .int 0 0, .int 3 0, .ref 350, .bool true, .int 181 0, .ref 351, .none, .ref 352, .ref 353, .ref 354, .int 707 0, .int 266 0, .str "/claim/cut.py" 708]), #[]⟩
noncomputable def o356 (P : Params) : Obj := ⟨.type "function", none, (.func (fnOf "number_and_four" "number_and_four" (defArgs s_number_and_four) (defBody s_number_and_four) (defScope s_number_and_four) .none .none .none (.str "batterykeeper.keeper" 618) none (.ref 355) .none)), #[]⟩
noncomputable def o359 (P : Params) : Obj := ⟨.type "tuple", none, (.seq #[.str "line" 713, .str "make" 714] 0), #[]⟩
noncomputable def o361 (P : Params) : Obj := ⟨.none, none, (.func { fnOf "answer_start" "answer_start" (defArgs s_answer_start) (defBody s_answer_start) (defScope s_answer_start) .none .none .none .none none .none .none with globals := 0, closure := [], builtins := 0 }), #[]⟩
noncomputable def o362 (P : Params) : Obj := ⟨.type "code", none, (.fields #[.str "answer_start" 710, .str "answer_start" 711, .str "/claim/cut.py" 712, .int 268 0, .int 2 0, .int 0 0, .int 0 0, .int 3 0, .ref 357, .bool true, .int 181 0, .ref 358, .none, .ref 359, .ref 360, .ref 361, .int 715 0, .int 268 0, .str "/claim/cut.py" 716]), #[]⟩
noncomputable def o363 (P : Params) : Obj := ⟨.type "function", none, (.func (fnOf "answer_start" "answer_start" (defArgs s_answer_start) (defBody s_answer_start) (defScope s_answer_start) .none .none .none (.str "batterykeeper.keeper" 618) none (.ref 362) .none)), #[]⟩
noncomputable def o366 (P : Params) : Obj := ⟨.type "tuple", none, (.seq #[.str "keeper" 721, .str "on" 722] 0), #[]⟩
noncomputable def o368 (P : Params) : Obj := ⟨.none, none, (.func { fnOf "answer_ask" "answer_ask" (defArgs s_answer_ask) (defBody s_answer_ask) (defScope s_answer_ask) .none .none .none .none none .none .none with globals := 0, closure := [], builtins := 0 }), #[]⟩
noncomputable def o369 (P : Params) : Obj := ⟨.type "code", none, (.fields #[.str "answer_ask" 718, .str "answer_ask" 719, .str "/claim/cut.py" 720, .int 273 0, .int 2 0, .int 0 0, .int 0 0, .int 3 0, .ref 364, .bool true, .int 181 0, .ref 365, .none, .ref 366, .ref 367, .ref 368, .int 723 0, .int 273 0, .str "/claim/cut.py" 724]), #[]⟩
noncomputable def o370 (P : Params) : Obj := ⟨.type "function", none, (.func (fnOf "answer_ask" "answer_ask" (defArgs s_answer_ask) (defBody s_answer_ask) (defScope s_answer_ask) .none .none .none (.str "batterykeeper.keeper" 618) none (.ref 369) .none)), #[]⟩
noncomputable def o373 (P : Params) : Obj := ⟨.type "tuple", none, (.seq #[.str "keeper" 729, .str "measured" 730, .str "link" 731, .str "row" 732, .str "currents" 733] 0), #[]⟩
noncomputable def o375 (P : Params) : Obj := ⟨.none, none, (.func { fnOf "answer_tick" "answer_tick" (defArgs s_answer_tick) (defBody s_answer_tick) (defScope s_answer_tick) .none .none .none .none none .none .none with globals := 0, closure := [], builtins := 0 }), #[]⟩
noncomputable def o376 (P : Params) : Obj := ⟨.type "code", none, (.fields #[.str "answer_tick" 726, .str "answer_tick" 727, .str "/claim/cut.py" 728, .int 276 0, .int 4 0, .int 0 0, .int 0 0, .int 3 0, .ref 371, .bool true, .int 181 0, .ref 372, .none, .ref 373, .ref 374, .ref 375, .int 734 0, .int 276 0, .str "/claim/cut.py" 735]), #[]⟩
noncomputable def o377 (P : Params) : Obj := ⟨.type "function", none, (.func (fnOf "answer_tick" "answer_tick" (defArgs s_answer_tick) (defBody s_answer_tick) (defScope s_answer_tick) .none .none .none (.str "batterykeeper.keeper" 618) none (.ref 376) .none)), #[]⟩
noncomputable def o380 (P : Params) : Obj := ⟨.type "tuple", none, (.seq #[.str "keeper" 740, .str "k" 741, .str "pair" 742] 0), #[]⟩
noncomputable def o382 (P : Params) : Obj := ⟨.none, none, (.func { fnOf "answer_cell" "answer_cell" (defArgs s_answer_cell) (defBody s_answer_cell) (defScope s_answer_cell) .none .none .none .none none .none .none with globals := 0, closure := [], builtins := 0 }), #[]⟩
noncomputable def o383 (P : Params) : Obj := ⟨.type "code", none, (.fields #[.str "answer_cell" 737, .str "answer_cell" 738, .str "/claim/cut.py" 739, .int 280 0, .int 2 0, .int 0 0, .int 0 0, .int 3 0, .ref 378, .bool true, .int 181 0, .ref 379, .none, .ref 380, .ref 381, .ref 382, .int 743 0, .int 280 0, .str "/claim/cut.py" 744]), #[]⟩
noncomputable def o384 (P : Params) : Obj := ⟨.type "function", none, (.func (fnOf "answer_cell" "answer_cell" (defArgs s_answer_cell) (defBody s_answer_cell) (defScope s_answer_cell) .none .none .none (.str "batterykeeper.keeper" 618) none (.ref 383) .none)), #[]⟩
noncomputable def o387 (P : Params) : Obj := ⟨.type "tuple", none, (.seq #[.str "keeper" 749, .str "asked" 750, .str "filling_ticks" 751] 0), #[]⟩
noncomputable def o389 (P : Params) : Obj := ⟨.none, none, (.func { fnOf "answer_state" "answer_state" (defArgs s_answer_state) (defBody s_answer_state) (defScope s_answer_state) .none .none .none .none none .none .none with globals := 0, closure := [], builtins := 0 }), #[]⟩
noncomputable def o390 (P : Params) : Obj := ⟨.type "code", none, (.fields #[.str "answer_state" 746, .str "answer_state" 747, .str "/claim/cut.py" 748, .int 285 0, .int 1 0, .int 0 0, .int 0 0, .int 3 0, .ref 385, .bool true, .int 181 0, .ref 386, .none, .ref 387, .ref 388, .ref 389, .int 752 0, .int 285 0, .str "/claim/cut.py" 753]), #[]⟩
noncomputable def o391 (P : Params) : Obj := ⟨.type "function", none, (.func (fnOf "answer_state" "answer_state" (defArgs s_answer_state) (defBody s_answer_state) (defScope s_answer_state) .none .none .none (.str "batterykeeper.keeper" 618) none (.ref 390) .none)), #[]⟩
noncomputable def ob3 (P : Params) : Obj := ⟨.type "dict", none, (.dict #[⟨PyData.keyHash P "__name__", .str "__name__" 165, .str "batterykeeper.battery" 387⟩, ⟨PyData.keyHash P "__doc__", .str "__doc__" 166, .none⟩, ⟨PyData.keyHash P "__package__", .str "__package__" 167, .none⟩, ⟨PyData.keyHash P "__loader__", .str "__loader__" 168, .builtin "__main__.__loader__#opaque"⟩, ⟨PyData.keyHash P "__spec__", .str "__spec__" 169, .none⟩, ⟨PyData.keyHash P "__annotations__", .str "__annotations__" 170, .ref 6⟩, ⟨PyData.keyHash P "__builtins__", .str "__builtins__" 171, .ref 4⟩, ⟨PyData.keyHash P "__file__", .str "__file__" 173, .str "/claim/cut.py" 172⟩, ⟨PyData.keyHash P "__cached__", .str "__cached__" 174, .none⟩, ⟨PyData.keyHash P "FULL", .str "FULL" 190, .int 4294967296 189⟩, ⟨PyData.keyHash P "PART", .str "PART" 192, .int 134217728 191⟩, ⟨PyData.keyHash P "down", .str "down" 200, .ref 21⟩, ⟨PyData.keyHash P "up", .str "up" 208, .ref 28⟩, ⟨PyData.keyHash P "greatest_loss", .str "greatest_loss" 216, .ref 35⟩, ⟨PyData.keyHash P "least_loss", .str "least_loss" 224, .ref 42⟩, ⟨PyData.keyHash P "is_beyond_fuse", .str "is_beyond_fuse" 232, .ref 49⟩, ⟨PyData.keyHash P "least_current", .str "least_current" 240, .ref 56⟩, ⟨PyData.keyHash P "greatest_current", .str "greatest_current" 248, .ref 63⟩, ⟨PyData.keyHash P "right_pair", .str "right_pair" 256, .ref 70⟩, ⟨PyData.keyHash P "step", .str "step" 270, .ref 77⟩, ⟨PyData.keyHash P "seen", .str "seen" 287, .ref 84⟩, ⟨PyData.keyHash P "charge_down", .str "charge_down" 296, .ref 91⟩, ⟨PyData.keyHash P "charge_up", .str "charge_up" 305, .ref 98⟩, ⟨PyData.keyHash P "NO_CURRENT", .str "NO_CURRENT" 309, .int 4294967295 308⟩, ⟨PyData.keyHash P "greatest_fall", .str "greatest_fall" 316, .ref 105⟩, ⟨PyData.keyHash P "greatest_rise", .str "greatest_rise" 323, .ref 112⟩, ⟨PyData.keyHash P "curve_times_part", .str "curve_times_part" 332, .ref 119⟩, ⟨PyData.keyHash P "is_safe_below", .str "is_safe_below" 343, .ref 126⟩, ⟨PyData.keyHash P "is_safe_above", .str "is_safe_above" 354, .ref 133⟩, ⟨PyData.keyHash P "is_safe", .str "is_safe" 363, .ref 140⟩, ⟨PyData.keyHash P "most_currents", .str "most_currents" 375, .ref 147⟩, ⟨PyData.keyHash P "greatest_that", .str "greatest_that" 386, .ref 154⟩, ⟨PyData.keyHash P "OPEN", .str "OPEN" 390, .int 0 389⟩, ⟨PyData.keyHash P "FILLING", .str "FILLING" 392, .int 1 391⟩, ⟨PyData.keyHash P "CLOSED", .str "CLOSED" 394, .int 2 393⟩, ⟨PyData.keyHash P "BROKEN", .str "BROKEN" 396, .int 3 395⟩, ⟨PyData.keyHash P "MOST_OPEN_TICKS", .str "MOST_OPEN_TICKS" 398, .int 65535 397⟩, ⟨PyData.keyHash P "Keeper", .str "Keeper" 433, .ref 171⟩, ⟨PyData.keyHash P "tick", .str "tick" 443, .ref 182⟩, ⟨PyData.keyHash P "go_on", .str "go_on" 454, .ref 189⟩, ⟨PyData.keyHash P "flows_though_long_open", .str "flows_though_long_open" 462, .ref 196⟩] 41), #[]⟩
noncomputable def ob12 (P : Params) : Obj := ⟨.none, none, (.fields #[.int 4 0, .int 0 0, .ref 20, .int 6 0, .int 0 0, .ref 27, .int 8 0, .int 0 0, .ref 34, .int 10 0, .int 0 0, .ref 41, .int 12 0, .int 0 0, .ref 48, .int 14 0, .int 0 0, .ref 55, .int 16 0, .int 0 0, .ref 62, .int 18 0, .int 0 0, .ref 69, .int 20 0, .int 0 0, .ref 76, .int 28 0, .int 0 0, .ref 83, .int 41 0, .int 0 0, .ref 90, .int 48 0, .int 0 0, .ref 97, .int 57 0, .int 0 0, .ref 104, .int 59 0, .int 0 0, .ref 111, .int 61 0, .int 0 0, .ref 118, .int 66 0, .int 0 0, .ref 125, .int 72 0, .int 0 0, .ref 132, .int 78 0, .int 0 0, .ref 139, .int 80 0, .int 0 0, .ref 146, .int 90 0, .int 0 0, .ref 153, .int 110 0, .int 0 0, .ref 160, .int 120 0, .int 0 0, .ref 181, .int 126 0, .int 0 0, .ref 188, .int 140 0, .int 0 0, .ref 195]), #[]⟩
noncomputable def oc3 (P : Params) : Obj := ⟨.type "dict", none, (.dict #[⟨PyData.keyHash P "__name__", .str "__name__" 165, .str "batterykeeper.make" 525⟩, ⟨PyData.keyHash P "__doc__", .str "__doc__" 166, .none⟩, ⟨PyData.keyHash P "__package__", .str "__package__" 167, .none⟩, ⟨PyData.keyHash P "__loader__", .str "__loader__" 168, .builtin "__main__.__loader__#opaque"⟩, ⟨PyData.keyHash P "__spec__", .str "__spec__" 169, .none⟩, ⟨PyData.keyHash P "__annotations__", .str "__annotations__" 170, .ref 6⟩, ⟨PyData.keyHash P "__builtins__", .str "__builtins__" 171, .ref 4⟩, ⟨PyData.keyHash P "__file__", .str "__file__" 173, .str "/claim/cut.py" 172⟩, ⟨PyData.keyHash P "__cached__", .str "__cached__" 174, .none⟩, ⟨PyData.keyHash P "FULL", .str "FULL" 190, .int 4294967296 189⟩, ⟨PyData.keyHash P "PART", .str "PART" 192, .int 134217728 191⟩, ⟨PyData.keyHash P "down", .str "down" 200, .ref 21⟩, ⟨PyData.keyHash P "up", .str "up" 208, .ref 28⟩, ⟨PyData.keyHash P "greatest_loss", .str "greatest_loss" 216, .ref 35⟩, ⟨PyData.keyHash P "least_loss", .str "least_loss" 224, .ref 42⟩, ⟨PyData.keyHash P "is_beyond_fuse", .str "is_beyond_fuse" 232, .ref 49⟩, ⟨PyData.keyHash P "least_current", .str "least_current" 240, .ref 56⟩, ⟨PyData.keyHash P "greatest_current", .str "greatest_current" 248, .ref 63⟩, ⟨PyData.keyHash P "right_pair", .str "right_pair" 256, .ref 70⟩, ⟨PyData.keyHash P "step", .str "step" 270, .ref 77⟩, ⟨PyData.keyHash P "seen", .str "seen" 287, .ref 84⟩, ⟨PyData.keyHash P "charge_down", .str "charge_down" 296, .ref 91⟩, ⟨PyData.keyHash P "charge_up", .str "charge_up" 305, .ref 98⟩, ⟨PyData.keyHash P "NO_CURRENT", .str "NO_CURRENT" 309, .int 4294967295 308⟩, ⟨PyData.keyHash P "greatest_fall", .str "greatest_fall" 316, .ref 105⟩, ⟨PyData.keyHash P "greatest_rise", .str "greatest_rise" 323, .ref 112⟩, ⟨PyData.keyHash P "curve_times_part", .str "curve_times_part" 332, .ref 119⟩, ⟨PyData.keyHash P "is_safe_below", .str "is_safe_below" 343, .ref 126⟩, ⟨PyData.keyHash P "is_safe_above", .str "is_safe_above" 354, .ref 133⟩, ⟨PyData.keyHash P "is_safe", .str "is_safe" 363, .ref 140⟩, ⟨PyData.keyHash P "most_currents", .str "most_currents" 375, .ref 147⟩, ⟨PyData.keyHash P "greatest_that", .str "greatest_that" 386, .ref 154⟩, ⟨PyData.keyHash P "OPEN", .str "OPEN" 390, .int 0 389⟩, ⟨PyData.keyHash P "FILLING", .str "FILLING" 392, .int 1 391⟩, ⟨PyData.keyHash P "CLOSED", .str "CLOSED" 394, .int 2 393⟩, ⟨PyData.keyHash P "BROKEN", .str "BROKEN" 396, .int 3 395⟩, ⟨PyData.keyHash P "MOST_OPEN_TICKS", .str "MOST_OPEN_TICKS" 398, .int 65535 397⟩, ⟨PyData.keyHash P "Keeper", .str "Keeper" 433, .ref 171⟩, ⟨PyData.keyHash P "tick", .str "tick" 443, .ref 182⟩, ⟨PyData.keyHash P "go_on", .str "go_on" 454, .ref 189⟩, ⟨PyData.keyHash P "flows_though_long_open", .str "flows_though_long_open" 462, .ref 196⟩, ⟨PyData.keyHash P "pairs_behind", .str "pairs_behind" 474, .ref 203⟩, ⟨PyData.keyHash P "turn_switch", .str "turn_switch" 484, .ref 210⟩, ⟨PyData.keyHash P "is_good", .str "is_good" 490, .ref 215⟩, ⟨PyData.keyHash P "fill", .str "fill" 499, .ref 222⟩, ⟨PyData.keyHash P "cells_to_bleed", .str "cells_to_bleed" 505, .ref 227⟩, ⟨PyData.keyHash P "bled_bits", .str "bled_bits" 511, .ref 232⟩, ⟨PyData.keyHash P "currents_for_next", .str "currents_for_next" 517, .ref 237⟩, ⟨PyData.keyHash P "least_of", .str "least_of" 524, .ref 244⟩, ⟨PyData.keyHash P "POINTS", .str "POINTS" 528, .int 33 527⟩, ⟨PyData.keyHash P "Make", .str "Make" 576, .ref 261⟩, ⟨PyData.keyHash P "is_right", .str "is_right" 583, .ref 272⟩, ⟨PyData.keyHash P "counts_are_right", .str "counts_are_right" 590, .ref 279⟩, ⟨PyData.keyHash P "cells_are_right", .str "cells_are_right" 597, .ref 286⟩, ⟨PyData.keyHash P "currents_are_right", .str "currents_are_right" 604, .ref 293⟩, ⟨PyData.keyHash P "voltages_are_right", .str "voltages_are_right" 611, .ref 300⟩] 56), #[]⟩
noncomputable def oc12 (P : Params) : Obj := ⟨.none, none, (.fields #[.int 4 0, .int 0 0, .ref 20, .int 6 0, .int 0 0, .ref 27, .int 8 0, .int 0 0, .ref 34, .int 10 0, .int 0 0, .ref 41, .int 12 0, .int 0 0, .ref 48, .int 14 0, .int 0 0, .ref 55, .int 16 0, .int 0 0, .ref 62, .int 18 0, .int 0 0, .ref 69, .int 20 0, .int 0 0, .ref 76, .int 28 0, .int 0 0, .ref 83, .int 41 0, .int 0 0, .ref 90, .int 48 0, .int 0 0, .ref 97, .int 57 0, .int 0 0, .ref 104, .int 59 0, .int 0 0, .ref 111, .int 61 0, .int 0 0, .ref 118, .int 66 0, .int 0 0, .ref 125, .int 72 0, .int 0 0, .ref 132, .int 78 0, .int 0 0, .ref 139, .int 80 0, .int 0 0, .ref 146, .int 90 0, .int 0 0, .ref 153, .int 110 0, .int 0 0, .ref 160, .int 120 0, .int 0 0, .ref 181, .int 126 0, .int 0 0, .ref 188, .int 140 0, .int 0 0, .ref 195, .int 142 0, .int 0 0, .ref 202, .int 153 0, .int 0 0, .ref 209, .int 163 0, .int 0 0, .ref 214, .int 165 0, .int 0 0, .ref 221, .int 172 0, .int 0 0, .ref 226, .int 176 0, .int 0 0, .ref 231, .int 178 0, .int 0 0, .ref 236, .int 183 0, .int 0 0, .ref 243, .int 187 0, .int 0 0, .ref 250, .int 209 0, .int 0 0, .ref 271, .int 211 0, .int 0 0, .ref 278, .int 213 0, .int 0 0, .ref 285, .int 215 0, .int 0 0, .ref 292, .int 217 0, .int 0 0, .ref 299]), #[]⟩
noncomputable def HF (P : Params) : Heap := ⟨⟨[boot_o_0 P, boot_o_1 P, boot_o_2 P, o3 P, boot_o_4 P, boot_o_5 P, boot_o_6 P, boot_o_7 P, boot_o_8 P, boot_o_9 P, boot_o_10 P, o11 P, o12 P, o13 P, o14 P, o11 P, o16 P, o17 P, o11 P, o19 P, o20 P, o21 P, o11 P, o16 P, o24 P, o11 P, o26 P, o27 P, o28 P, o11 P, o16 P, o31 P, o11 P, o33 P, o34 P, o35 P, o11 P, o16 P, o38 P, o11 P, o40 P, o41 P, o42 P, o11 P, o16 P, o45 P, o11 P, o47 P, o48 P, o49 P, o11 P, o16 P, o52 P, o11 P, o54 P, o55 P, o56 P, o11 P, o16 P, o59 P, o11 P, o61 P, o62 P, o63 P, o11 P, o16 P, o66 P, o11 P, o68 P, o69 P, o70 P, o11 P, o16 P, o73 P, o11 P, o75 P, o76 P, o77 P, o11 P, o16 P, o80 P, o11 P, o82 P, o83 P, o84 P, o11 P, o16 P, o87 P, o11 P, o89 P, o90 P, o91 P, o11 P, o16 P, o94 P, o11 P, o96 P, o97 P, o98 P, o11 P, o16 P, o101 P, o11 P, o103 P, o104 P, o105 P, o11 P, o16 P, o108 P, o11 P, o110 P, o111 P, o112 P, o11 P, o16 P, o115 P, o11 P, o117 P, o118 P, o119 P, o11 P, o16 P, o122 P, o11 P, o124 P, o125 P, o126 P, o11 P, o16 P, o129 P, o11 P, o131 P, o132 P, o133 P, o11 P, o16 P, o136 P, o11 P, o138 P, o139 P, o140 P, o11 P, o16 P, o143 P, o144 P, o145 P, o146 P, o147 P, o11 P, o16 P, o150 P, o11 P, o152 P, o153 P, o154 P, o11 P, o156 P, o157 P, o11 P, o159 P, o160 P, o161 P, o11 P, o16 P, o164 P, o11 P, o166 P, o167 P, o168 P, o169 P, o170 P, o171 P, o172 P, o173 P, o174 P, o175 P, o11 P, o16 P, o178 P, o11 P, o180 P, o181 P, o182 P, o11 P, o16 P, o185 P, o11 P, o187 P, o188 P, o189 P, o11 P, o16 P, o192 P, o11 P, o194 P, o195 P, o196 P, o11 P, o16 P, o199 P, o11 P, o201 P, o202 P, o203 P, o11 P, o16 P, o206 P, o11 P, o208 P, o209 P, o210 P, o11 P, o16 P, o213 P, o214 P, o215 P, o11 P, o16 P, o218 P, o11 P, o220 P, o221 P, o222 P, o11 P, o16 P, o225 P, o226 P, o227 P, o11 P, o16 P, o230 P, o231 P, o232 P, o11 P, o16 P, o235 P, o236 P, o237 P, o11 P, o16 P, o240 P, o11 P, o242 P, o243 P, o244 P, o11 P, o156 P, o247 P, o11 P, o249 P, o250 P, o251 P, o11 P, o16 P, o254 P, o11 P, o256 P, o257 P, o258 P, o259 P, o260 P, o261 P, o262 P, o263 P, o264 P, o265 P, o11 P, o16 P, o268 P, o11 P, o270 P, o271 P, o272 P, o11 P, o16 P, o275 P, o11 P, o277 P, o278 P, o279 P, o11 P, o16 P, o282 P, o11 P, o284 P, o285 P, o286 P, o11 P, o16 P, o289 P, o11 P, o291 P, o292 P, o293 P, o11 P, o16 P, o296 P, o11 P, o298 P, o299 P, o300 P, o11 P, o16 P, o303 P, o304 P, o305 P, o306 P, o307 P, o11 P, o156 P, o310 P, o11 P, o312 P, o313 P, o314 P, o11 P, o16 P, o317 P, o11 P, o319 P, o320 P, o321 P, o322 P, o323 P, o324 P, o325 P, o326 P, o327 P, o328 P, o11 P, o16 P, o331 P, o11 P, o333 P, o334 P, o335 P, o11 P, o16 P, o338 P, o11 P, o340 P, o341 P, o342 P, o11 P, o16 P, o345 P, o11 P, o347 P, o348 P, o349 P, o11 P, o16 P, o352 P, o11 P, o354 P, o355 P, o356 P, o11 P, o16 P, o359 P, o11 P, o361 P, o362 P, o363 P, o11 P, o16 P, o366 P, o11 P, o368 P, o369 P, o370 P, o11 P, o16 P, o373 P, o11 P, o375 P, o376 P, o377 P, o11 P, o16 P, o380 P, o11 P, o382 P, o383 P, o384 P, o11 P, o16 P, o387 P, o11 P, o389 P, o390 P, o391 P]⟩, {}⟩
noncomputable def HA (P : Params) : Heap := ⟨⟨[boot_o_0 P, boot_o_1 P, boot_o_2 P, boot_o_3 P, boot_o_4 P, boot_o_5 P, boot_o_6 P, boot_o_7 P, boot_o_8 P, boot_o_9 P, boot_o_10 P, o11 P, o16 P, o13 P, o14 P]⟩, {}⟩
noncomputable def H1 (P : Params) : Heap := ⟨⟨[boot_o_0 P, boot_o_1 P, boot_o_2 P, ob3 P, boot_o_4 P, boot_o_5 P, boot_o_6 P, boot_o_7 P, boot_o_8 P, boot_o_9 P, boot_o_10 P, o11 P, ob12 P, o13 P, o14 P, o11 P, o16 P, o17 P, o11 P, o19 P, o20 P, o21 P, o11 P, o16 P, o24 P, o11 P, o26 P, o27 P, o28 P, o11 P, o16 P, o31 P, o11 P, o33 P, o34 P, o35 P, o11 P, o16 P, o38 P, o11 P, o40 P, o41 P, o42 P, o11 P, o16 P, o45 P, o11 P, o47 P, o48 P, o49 P, o11 P, o16 P, o52 P, o11 P, o54 P, o55 P, o56 P, o11 P, o16 P, o59 P, o11 P, o61 P, o62 P, o63 P, o11 P, o16 P, o66 P, o11 P, o68 P, o69 P, o70 P, o11 P, o16 P, o73 P, o11 P, o75 P, o76 P, o77 P, o11 P, o16 P, o80 P, o11 P, o82 P, o83 P, o84 P, o11 P, o16 P, o87 P, o11 P, o89 P, o90 P, o91 P, o11 P, o16 P, o94 P, o11 P, o96 P, o97 P, o98 P, o11 P, o16 P, o101 P, o11 P, o103 P, o104 P, o105 P, o11 P, o16 P, o108 P, o11 P, o110 P, o111 P, o112 P, o11 P, o16 P, o115 P, o11 P, o117 P, o118 P, o119 P, o11 P, o16 P, o122 P, o11 P, o124 P, o125 P, o126 P, o11 P, o16 P, o129 P, o11 P, o131 P, o132 P, o133 P, o11 P, o16 P, o136 P, o11 P, o138 P, o139 P, o140 P, o11 P, o16 P, o143 P, o144 P, o145 P, o146 P, o147 P, o11 P, o16 P, o150 P, o11 P, o152 P, o153 P, o154 P, o11 P, o156 P, o157 P, o11 P, o159 P, o160 P, o161 P, o11 P, o16 P, o164 P, o11 P, o166 P, o167 P, o168 P, o169 P, o170 P, o171 P, o172 P, o173 P, o174 P, o175 P, o11 P, o16 P, o178 P, o11 P, o180 P, o181 P, o182 P, o11 P, o16 P, o185 P, o11 P, o187 P, o188 P, o189 P, o11 P, o16 P, o192 P, o11 P, o194 P, o195 P, o196 P]⟩, {}⟩
noncomputable def H2 (P : Params) : Heap := ⟨⟨[boot_o_0 P, boot_o_1 P, boot_o_2 P, oc3 P, boot_o_4 P, boot_o_5 P, boot_o_6 P, boot_o_7 P, boot_o_8 P, boot_o_9 P, boot_o_10 P, o11 P, oc12 P, o13 P, o14 P, o11 P, o16 P, o17 P, o11 P, o19 P, o20 P, o21 P, o11 P, o16 P, o24 P, o11 P, o26 P, o27 P, o28 P, o11 P, o16 P, o31 P, o11 P, o33 P, o34 P, o35 P, o11 P, o16 P, o38 P, o11 P, o40 P, o41 P, o42 P, o11 P, o16 P, o45 P, o11 P, o47 P, o48 P, o49 P, o11 P, o16 P, o52 P, o11 P, o54 P, o55 P, o56 P, o11 P, o16 P, o59 P, o11 P, o61 P, o62 P, o63 P, o11 P, o16 P, o66 P, o11 P, o68 P, o69 P, o70 P, o11 P, o16 P, o73 P, o11 P, o75 P, o76 P, o77 P, o11 P, o16 P, o80 P, o11 P, o82 P, o83 P, o84 P, o11 P, o16 P, o87 P, o11 P, o89 P, o90 P, o91 P, o11 P, o16 P, o94 P, o11 P, o96 P, o97 P, o98 P, o11 P, o16 P, o101 P, o11 P, o103 P, o104 P, o105 P, o11 P, o16 P, o108 P, o11 P, o110 P, o111 P, o112 P, o11 P, o16 P, o115 P, o11 P, o117 P, o118 P, o119 P, o11 P, o16 P, o122 P, o11 P, o124 P, o125 P, o126 P, o11 P, o16 P, o129 P, o11 P, o131 P, o132 P, o133 P, o11 P, o16 P, o136 P, o11 P, o138 P, o139 P, o140 P, o11 P, o16 P, o143 P, o144 P, o145 P, o146 P, o147 P, o11 P, o16 P, o150 P, o11 P, o152 P, o153 P, o154 P, o11 P, o156 P, o157 P, o11 P, o159 P, o160 P, o161 P, o11 P, o16 P, o164 P, o11 P, o166 P, o167 P, o168 P, o169 P, o170 P, o171 P, o172 P, o173 P, o174 P, o175 P, o11 P, o16 P, o178 P, o11 P, o180 P, o181 P, o182 P, o11 P, o16 P, o185 P, o11 P, o187 P, o188 P, o189 P, o11 P, o16 P, o192 P, o11 P, o194 P, o195 P, o196 P, o11 P, o16 P, o199 P, o11 P, o201 P, o202 P, o203 P, o11 P, o16 P, o206 P, o11 P, o208 P, o209 P, o210 P, o11 P, o16 P, o213 P, o214 P, o215 P, o11 P, o16 P, o218 P, o11 P, o220 P, o221 P, o222 P, o11 P, o16 P, o225 P, o226 P, o227 P, o11 P, o16 P, o230 P, o231 P, o232 P, o11 P, o16 P, o235 P, o236 P, o237 P, o11 P, o16 P, o240 P, o11 P, o242 P, o243 P, o244 P, o11 P, o156 P, o247 P, o11 P, o249 P, o250 P, o251 P, o11 P, o16 P, o254 P, o11 P, o256 P, o257 P, o258 P, o259 P, o260 P, o261 P, o262 P, o263 P, o264 P, o265 P, o11 P, o16 P, o268 P, o11 P, o270 P, o271 P, o272 P, o11 P, o16 P, o275 P, o11 P, o277 P, o278 P, o279 P, o11 P, o16 P, o282 P, o11 P, o284 P, o285 P, o286 P, o11 P, o16 P, o289 P, o11 P, o291 P, o292 P, o293 P, o11 P, o16 P, o296 P, o11 P, o298 P, o299 P, o300 P]⟩, {}⟩
/-- what is looked at of them -/
noncomputable def KB (P : Params) : Frag := (nat_lit 2, boot_o_2 P) :: (nat_lit 3, o3 P) :: (nat_lit 13, o13 P) :: (nat_lit 20, o20 P) :: (nat_lit 21, o21 P) :: (nat_lit 27, o27 P) :: (nat_lit 28, o28 P) :: (nat_lit 34, o34 P) :: (nat_lit 35, o35 P) :: (nat_lit 41, o41 P) :: (nat_lit 42, o42 P) :: (nat_lit 48, o48 P) :: (nat_lit 49, o49 P) :: (nat_lit 55, o55 P) :: (nat_lit 56, o56 P) :: (nat_lit 62, o62 P) :: (nat_lit 63, o63 P) :: (nat_lit 69, o69 P) :: (nat_lit 70, o70 P) :: (nat_lit 76, o76 P) :: (nat_lit 77, o77 P) :: (nat_lit 83, o83 P) :: (nat_lit 84, o84 P) :: (nat_lit 90, o90 P) :: (nat_lit 91, o91 P) :: (nat_lit 97, o97 P) :: (nat_lit 98, o98 P) :: (nat_lit 104, o104 P) :: (nat_lit 105, o105 P) :: (nat_lit 111, o111 P) :: (nat_lit 112, o112 P) :: (nat_lit 118, o118 P) :: (nat_lit 119, o119 P) :: (nat_lit 125, o125 P) :: (nat_lit 126, o126 P) :: (nat_lit 132, o132 P) :: (nat_lit 133, o133 P) :: (nat_lit 139, o139 P) :: (nat_lit 140, o140 P) :: (nat_lit 146, o146 P) :: (nat_lit 147, o147 P) :: (nat_lit 153, o153 P) :: (nat_lit 154, o154 P) :: (nat_lit 160, o160 P) :: (nat_lit 167, o167 P) :: (nat_lit 168, o168 P) :: (nat_lit 170, o170 P) :: (nat_lit 171, o171 P) :: (nat_lit 181, o181 P) :: (nat_lit 182, o182 P) :: (nat_lit 188, o188 P) :: (nat_lit 189, o189 P) :: (nat_lit 195, o195 P) :: (nat_lit 196, o196 P) :: (nat_lit 202, o202 P) :: (nat_lit 203, o203 P) :: (nat_lit 209, o209 P) :: (nat_lit 210, o210 P) :: (nat_lit 214, o214 P) :: (nat_lit 215, o215 P) :: (nat_lit 221, o221 P) :: (nat_lit 222, o222 P) :: (nat_lit 226, o226 P) :: (nat_lit 227, o227 P) :: (nat_lit 231, o231 P) :: (nat_lit 232, o232 P) :: (nat_lit 236, o236 P) :: (nat_lit 237, o237 P) :: (nat_lit 243, o243 P) :: (nat_lit 244, o244 P) :: (nat_lit 250, o250 P) :: (nat_lit 257, o257 P) :: (nat_lit 258, o258 P) :: (nat_lit 260, o260 P) :: (nat_lit 261, o261 P) :: (nat_lit 271, o271 P) :: (nat_lit 272, o272 P) :: (nat_lit 278, o278 P) :: (nat_lit 279, o279 P) :: (nat_lit 285, o285 P) :: (nat_lit 286, o286 P) :: (nat_lit 292, o292 P) :: (nat_lit 293, o293 P) :: (nat_lit 299, o299 P) :: (nat_lit 300, o300 P) :: (nat_lit 304, o304 P) :: (nat_lit 305, o305 P) :: (nat_lit 306, o306 P) :: (nat_lit 307, o307 P) :: (nat_lit 313, o313 P) :: (nat_lit 320, o320 P) :: (nat_lit 321, o321 P) :: (nat_lit 323, o323 P) :: (nat_lit 324, o324 P) :: (nat_lit 334, o334 P) :: (nat_lit 335, o335 P) :: (nat_lit 341, o341 P) :: (nat_lit 342, o342 P) :: (nat_lit 348, o348 P) :: (nat_lit 349, o349 P) :: (nat_lit 355, o355 P) :: (nat_lit 356, o356 P) :: (nat_lit 362, o362 P) :: (nat_lit 363, o363 P) :: (nat_lit 369, o369 P) :: (nat_lit 370, o370 P) :: (nat_lit 376, o376 P) :: (nat_lit 377, o377 P) :: (nat_lit 383, o383 P) :: (nat_lit 384, o384 P) :: (nat_lit 390, o390 P) :: (nat_lit 391, o391 P) :: []
noncomputable def asB : List Addr := [nat_lit 2, nat_lit 3, nat_lit 13, nat_lit 20, nat_lit 21, nat_lit 27, nat_lit 28, nat_lit 34, nat_lit 35, nat_lit 41, nat_lit 42, nat_lit 48, nat_lit 49, nat_lit 55, nat_lit 56, nat_lit 62, nat_lit 63, nat_lit 69, nat_lit 70, nat_lit 76, nat_lit 77, nat_lit 83, nat_lit 84, nat_lit 90, nat_lit 91, nat_lit 97, nat_lit 98, nat_lit 104, nat_lit 105, nat_lit 111, nat_lit 112, nat_lit 118, nat_lit 119, nat_lit 125, nat_lit 126, nat_lit 132, nat_lit 133, nat_lit 139, nat_lit 140, nat_lit 146, nat_lit 147, nat_lit 153, nat_lit 154, nat_lit 160, nat_lit 167, nat_lit 168, nat_lit 170, nat_lit 171, nat_lit 181, nat_lit 182, nat_lit 188, nat_lit 189, nat_lit 195, nat_lit 196, nat_lit 202, nat_lit 203, nat_lit 209, nat_lit 210, nat_lit 214, nat_lit 215, nat_lit 221, nat_lit 222, nat_lit 226, nat_lit 227, nat_lit 231, nat_lit 232, nat_lit 236, nat_lit 237, nat_lit 243, nat_lit 244, nat_lit 250, nat_lit 257, nat_lit 258, nat_lit 260, nat_lit 261, nat_lit 271, nat_lit 272, nat_lit 278, nat_lit 279, nat_lit 285, nat_lit 286, nat_lit 292, nat_lit 293, nat_lit 299, nat_lit 300, nat_lit 304, nat_lit 305, nat_lit 306, nat_lit 307, nat_lit 313, nat_lit 320, nat_lit 321, nat_lit 323, nat_lit 324, nat_lit 334, nat_lit 335, nat_lit 341, nat_lit 342, nat_lit 348, nat_lit 349, nat_lit 355, nat_lit 356, nat_lit 362, nat_lit 363, nat_lit 369, nat_lit 370, nat_lit 376, nat_lit 377, nat_lit 383, nat_lit 384, nat_lit 390, nat_lit 391]
theorem asB_ok : ∀ P : Params, asB = (KB P).map (·.1) := fun _ => by kernel_rfl
/-- the text without the five rows that name its parts -/
noncomputable def qv : Program := view PySem.Challenge.pw_batterykeeper_s01_answers [1, 2, 3, 4, 5, 6, 7, 8, 9, 10, 11, 12, 13, 14, 16, 17, 18, 19, 20, 21, 22, 23, 24, 26, 27, 28, 29, 30, 31, 32, 33, 34, 35, 36, 37, 38, 39, 40, 41, 42, 44, 45, 46, 47, 48, 49, 50, 51, 53, 54, 55, 56, 57, 58, 59, 60, 61, 62, 63, 64, 65, 66, 67, 68, 69, 70]
noncomputable abbrev HB : Hook := kHook KB asB asB_ok
abbrev pw : Program := PySem.Challenge.pw_batterykeeper_s01_answers
noncomputable abbrev SA (w : World) (os : OsState) : Shared := ⟨HA w.params, Array.mk [], {}, 187, os⟩
noncomputable abbrev S1 (w : World) (os : OsState) : Shared := ⟨H1 w.params, Array.mk [], {}, 463, os⟩
noncomputable abbrev S2 (w : World) (os : OsState) : Shared := ⟨H2 w.params, Array.mk [], {}, 612, os⟩
noncomputable abbrev SF (w : World) (os : OsState) : Shared := ⟨HF w.params, Array.mk [], {}, 755, os⟩
noncomputable abbrev bB : List Stmt := behindTheImports pw
noncomputable abbrev envB : Env := { scope := pw.main.scope, locals := mainNs, globals := mainNs, cells := [], code := .ref 13, frame := some 14 }
noncomputable abbrev cB : Code := .body bB envB
noncomputable def l1 : List Stmt := bB.take 35
noncomputable def l2 : List Stmt := (bB.drop 35).take 16
noncomputable def l3 : List Stmt := (bB.drop 35).drop 16
abbrev qB : Pos := ⟨0, 0, 0, 0⟩
theorem run_pre : ∀ (w : World) (os : OsState), topGo treeTable pw w 11 (some (.ref 6)) 12 ⟨boot_heap w.params, Array.mk [], boot_drawn, boot_toks, os⟩ (topStub pw) = some (SA w os, ⟨denote treeTable cB, cB, ⟨0, 0, 0, 0⟩, [topFrame qB]⟩) := by
  intro w os
  kernel_rfl
theorem run_block : ∀ (w : World) (os : OsState), segRun treeTable pw w 11 (some (.ref 6)) 1 1 (SA w os) (blockOf bB envB cB ⟨0, 0, 0, 0⟩ [topFrame qB]) = some (.next, SA w os, cB, ⟨0, 0, 0, 0⟩) := by
  intro w os
  kernel_rfl
theorem run_1 : ∀ (w : World) (os : OsState), segRun treeTable pw w 11 (some (.ref 6)) 1 1053 (SA w os) (piecesOf l1 envB cB ⟨0, 0, 0, 0⟩ [topFrame qB]) = some (.next, S1 w os, cB, ⟨140, 0, 141, 83⟩) := by
  intro w os
  kernel_rfl
theorem run_2 : ∀ (w : World) (os : OsState), segRun treeTable pw w 11 (some (.ref 6)) 1 635 (S1 w os) (piecesOf l2 envB cB ⟨140, 0, 141, 83⟩ [topFrame qB]) = some (.next, S2 w os, cB, ⟨217, 0, 218, 117⟩) := by
  intro w os
  kernel_rfl
theorem run_3 : ∀ (w : World) (os : OsState), segRun treeTable pw w 11 (some (.ref 6)) 1 630 (S2 w os) (piecesOf l3 envB cB ⟨217, 0, 218, 117⟩ [topFrame qB]) = some (.next, SF w os, cB, ⟨285, 0, 288, 87⟩) := by
  intro w os
  kernel_rfl
theorem run_fin : ∀ (w : World) (os : OsState), topRun treeTable pw w 11 (some (.ref 6)) 2 (SF w os) ⟨doneF .next, cB, ⟨285, 0, 288, 87⟩, [topFrame qB]⟩ = some (SF w os) := by
  intro w os
  kernel_rfl
theorem parts : l1 ++ (l2 ++ (l3 ++ [])) = bB := by
  unfold l1 l2 l3
  rw [List.append_nil, List.take_append_drop, List.take_append_drop]
theorem run_rest (w : World) (os : OsState) : topRun treeTable pw w 11 (some (.ref 6)) (1053 + (635 + (630 + 2))) (SA w os) (restOf bB envB cB ⟨0, 0, 0, 0⟩ [topFrame qB]) = some (SF w os) := by
  have k : topRun treeTable pw w 11 (some (.ref 6)) (1053 + (635 + (630 + 2))) (SA w os) (restOf (l1 ++ (l2 ++ (l3 ++ []))) envB cB ⟨0, 0, 0, 0⟩ [topFrame qB]) = some (SF w os) :=
    piece_app (run_1 w os) (piece_app (run_2 w os) (piece_app (run_3 w os) (piece_nil (run_fin w os))))
  rw [parts] at k
  exact k
theorem run_top (w : World) (os : OsState) : topRun treeTable pw w 11 (some (.ref 6)) (12 + (1 + (1053 + (635 + (630 + 2))))) ⟨boot_heap w.params, Array.mk [], boot_drawn, boot_toks, os⟩ (topStub pw) = some (SF w os) :=
  go_top (run_pre w os) (piece_block (run_block w os) (run_rest w os))
noncomputable abbrev XB (s : Shared) : Bool := xlAt qv [] s && recOk [] s
/-- what is seen of the heap behind the top, part by part, is what the text promises -/
noncomputable abbrev seenF (w : World) (os : OsState) := openSeen qv [] (importedModules pw.main.body) XB true (SF w os)
noncomputable abbrev goodF := openGood qv []
theorem look1 : ∀ (w : World) (os : OsState), (seenF w os).1 = goodF.1 := by
  intro w os
  unfold seenF goodF openSeen openGood
  dsimp only
  kernel_rfl
theorem look2 : ∀ (w : World) (os : OsState), (seenF w os).2.1 = goodF.2.1 := by
  intro w os
  unfold seenF goodF openSeen openGood
  dsimp only
  kernel_rfl
theorem look3 : ∀ (w : World) (os : OsState), (seenF w os).2.2.1 = goodF.2.2.1 := by
  intro w os
  unfold seenF goodF openSeen openGood
  dsimp only
  kernel_rfl
theorem look4 : ∀ (w : World) (os : OsState), (seenF w os).2.2.2.1 = goodF.2.2.2.1 := by
  intro w os
  unfold seenF goodF openSeen openGood
  dsimp only
  kernel_rfl
theorem look5 : ∀ (w : World) (os : OsState), (seenF w os).2.2.2.2.1 = goodF.2.2.2.2.1 := by
  intro w os
  unfold seenF goodF openSeen openGood
  dsimp only
  kernel_rfl
theorem look6 : ∀ (w : World) (os : OsState), (seenF w os).2.2.2.2.2.1 = goodF.2.2.2.2.2.1 := by
  intro w os
  unfold seenF goodF openSeen openGood
  dsimp only
  kernel_rfl
theorem look7 : ∀ (w : World) (os : OsState), (seenF w os).2.2.2.2.2.2.1 = goodF.2.2.2.2.2.2.1 := by
  intro w os
  unfold seenF goodF openSeen openGood
  dsimp only
  kernel_rfl
theorem look8 : ∀ (w : World) (os : OsState), (seenF w os).2.2.2.2.2.2.2.1 = goodF.2.2.2.2.2.2.2.1 := by
  intro w os
  unfold seenF goodF openSeen openGood
  dsimp only
  kernel_rfl
theorem look9 : ∀ (w : World) (os : OsState), (seenF w os).2.2.2.2.2.2.2.2 = goodF.2.2.2.2.2.2.2.2 := by
  intro w os
  unfold seenF goodF openSeen openGood
  dsimp only
  kernel_rfl
theorem look_all (w : World) (os : OsState) : seenF w os = goodF :=
  Prod.ext (look1 w os) (Prod.ext (look2 w os) (Prod.ext (look3 w os) (Prod.ext (look4 w os) (Prod.ext (look5 w os) (Prod.ext (look6 w os) (Prod.ext (look7 w os) (Prod.ext (look8 w os) (look9 w os))))))))
theorem look10 : ∀ (w : World) (os : OsState), HB.obs (SF w os) = HB.val w := by
  intro w os
  kernel_rfl
theorem opening_pw : opening pw = plainProg pw.main.scope.names := by kernel_rfl
theorem fence_pw : ∀ s, fenceModules? pw s = some s := by
  intro s
  kernel_rfl
theorem left : LeftO pw qv [] XB HB.obs HB.val 4756 := by
  refine LeftO.of_pieces (boot_open opening_pw (by decide) fence_pw) ?size run_top (by decide) (fun w => funext fun os => Prod.ext ?stays (Prod.ext (look_all w os) (look10 w os)))
  case size =>
    intro w
    kernel_rfl
  case stays => kernel_rfl
noncomputable def dA : DefRec := ⟨"answers", defArgs s_answers, defBody s_answers, defScope s_answers, defPos s_answers⟩
end BK
end
open PySem PySem.W PyProof.Rows
set_option Elab.async false
set_option maxRecDepth 100000 in
set_option maxHeartbeats 0 in
theorem PySem.Challenge.cw_batterykeeper_s01_answers_holds : PySem.Challenge.rw_batterykeeper_s01_answers.Holds := by
  w_on
  refine holds_os (r := PySem.Challenge.rw_batterykeeper_s01_answers) (q := BK.qv) (loose := []) (Xt := BK.XB) (XP := XL BK.qv []) (Yf := BK.HB.obs) (Ya := BK.HB.val) (YP := (kHook BK.KB BK.asB BK.asB_ok).says) (d := BK.dA) (kwd := []) (N := 4756) BK.left (Hook.of BK.HB) (Hook.keeps BK.HB) (fun s e => xl_of s (Bool.and_eq_true_iff.mp e).1) XL.keeps (by kernel_rfl) (by kernel_rfl) (by kernel_rfl) (fun s e => recFacts_of (Bool.and_eq_true_iff.mp e).2) os_shapes (by decide +kernel) (by decide +kernel) ⟨rfl, rfl, rfl, rfl, rfl, by decide +kernel⟩ ?hw ?hc
  (case hw => exact ⟨[.list (BK.wit.map .int)], by decide +kernel, by decide +kernel⟩)
  k_fillS
  refine BK.walk_s (K := BK.KB) (fun w h Y => PySem.W.kIn_of Y) rfl ?nt ?rec ?F
  case nt => exact fun _ => by kernel_rfl
  case rec => kernel_rfl
  case F =>
    intro w mg h KX G
    have d_down : L2.DefAt (BK.KF KX) mg "down" BK.s_down ["number", "divisor"] := by
      dsimp only [BK.KF]
      refine' BK.def_at KX G BK.b_down ?a ?l ?c ?k
      (case a => k_is)
      (case l => k_is)
      (case c => k_is)
      (case k => k_is)
    have d_up : L2.DefAt (BK.KF KX) mg "up" BK.s_up ["number", "divisor"] := by
      dsimp only [BK.KF]
      refine' BK.def_at KX G BK.b_up ?a ?l ?c ?k
      (case a => k_is)
      (case l => k_is)
      (case c => k_is)
      (case k => k_is)
    have d_greatest_loss : L2.DefAt (BK.KF KX) mg "greatest_loss" BK.s_greatest_loss ["make", "drain"] := by
      dsimp only [BK.KF]
      refine' BK.def_at KX G BK.b_greatest_loss ?a ?l ?c ?k
      (case a => k_is)
      (case l => k_is)
      (case c => k_is)
      (case k => k_is)
    have d_least_loss : L2.DefAt (BK.KF KX) mg "least_loss" BK.s_least_loss ["make", "drain"] := by
      dsimp only [BK.KF]
      refine' BK.def_at KX G BK.b_least_loss ?a ?l ?c ?k
      (case a => k_is)
      (case l => k_is)
      (case c => k_is)
      (case k => k_is)
    have d_is_beyond_fuse : L2.DefAt (BK.KF KX) mg "is_beyond_fuse" BK.s_is_beyond_fuse ["make", "measured"] := by
      dsimp only [BK.KF]
      refine' BK.def_at KX G BK.b_is_beyond_fuse ?a ?l ?c ?k
      (case a => k_is)
      (case l => k_is)
      (case c => k_is)
      (case k => k_is)
    have d_least_current : L2.DefAt (BK.KF KX) mg "least_current" BK.s_least_current ["make", "measured"] := by
      dsimp only [BK.KF]
      refine' BK.def_at KX G BK.b_least_current ?a ?l ?c ?k
      (case a => k_is)
      (case l => k_is)
      (case c => k_is)
      (case k => k_is)
    have d_greatest_current : L2.DefAt (BK.KF KX) mg "greatest_current" BK.s_greatest_current ["make", "measured"] := by
      dsimp only [BK.KF]
      refine' BK.def_at KX G BK.b_greatest_current ?a ?l ?c ?k
      (case a => k_is)
      (case l => k_is)
      (case c => k_is)
      (case k => k_is)
    have d_right_pair : L2.DefAt (BK.KF KX) mg "right_pair" BK.s_right_pair ["first", "second"] := by
      dsimp only [BK.KF]
      refine' BK.def_at KX G BK.b_right_pair ?a ?l ?c ?k
      (case a => k_is)
      (case l => k_is)
      (case c => k_is)
      (case k => k_is)
    have d_step : L2.DefAt (BK.KF KX) mg "step" BK.s_step ["make", "pair", "measured", "bled"] := by
      dsimp only [BK.KF]
      refine' BK.def_at KX G BK.b_step ?a ?l ?c ?k
      (case a => k_is)
      (case l => k_is)
      (case c => k_is)
      (case k => k_is)
    have d_seen : L2.DefAt (BK.KF KX) mg "seen" BK.s_seen ["make", "pair", "measured", "voltage"] := by
      dsimp only [BK.KF]
      refine' BK.def_at KX G BK.b_seen ?a ?l ?c ?k
      (case a => k_is)
      (case l => k_is)
      (case c => k_is)
      (case k => k_is)
    have d_charge_down : L2.DefAt (BK.KF KX) mg "charge_down" BK.s_charge_down ["curve", "voltage"] := by
      dsimp only [BK.KF]
      refine' BK.def_at KX G BK.b_charge_down ?a ?l ?c ?k
      (case a => k_is)
      (case l => k_is)
      (case c => k_is)
      (case k => k_is)
    have d_charge_up : L2.DefAt (BK.KF KX) mg "charge_up" BK.s_charge_up ["curve", "voltage"] := by
      dsimp only [BK.KF]
      refine' BK.def_at KX G BK.b_charge_up ?a ?l ?c ?k
      (case a => k_is)
      (case l => k_is)
      (case c => k_is)
      (case k => k_is)
    have d_greatest_fall : L2.DefAt (BK.KF KX) mg "greatest_fall" BK.s_greatest_fall ["make"] := by
      dsimp only [BK.KF]
      refine' BK.def_at KX G BK.b_greatest_fall ?a ?l ?c ?k
      (case a => k_is)
      (case l => k_is)
      (case c => k_is)
      (case k => k_is)
    have d_greatest_rise : L2.DefAt (BK.KF KX) mg "greatest_rise" BK.s_greatest_rise ["make"] := by
      dsimp only [BK.KF]
      refine' BK.def_at KX G BK.b_greatest_rise ?a ?l ?c ?k
      (case a => k_is)
      (case l => k_is)
      (case c => k_is)
      (case k => k_is)
    have d_curve_times_part : L2.DefAt (BK.KF KX) mg "curve_times_part" BK.s_curve_times_part ["curve", "charge"] := by
      dsimp only [BK.KF]
      refine' BK.def_at KX G BK.b_curve_times_part ?a ?l ?c ?k
      (case a => k_is)
      (case l => k_is)
      (case c => k_is)
      (case k => k_is)
    have d_is_safe_below : L2.DefAt (BK.KF KX) mg "is_safe_below" BK.s_is_safe_below ["make", "charge", "ticks"] := by
      dsimp only [BK.KF]
      refine' BK.def_at KX G BK.b_is_safe_below ?a ?l ?c ?k
      (case a => k_is)
      (case l => k_is)
      (case c => k_is)
      (case k => k_is)
    have d_is_safe_above : L2.DefAt (BK.KF KX) mg "is_safe_above" BK.s_is_safe_above ["make", "charge", "ticks"] := by
      dsimp only [BK.KF]
      refine' BK.def_at KX G BK.b_is_safe_above ?a ?l ?c ?k
      (case a => k_is)
      (case l => k_is)
      (case c => k_is)
      (case k => k_is)
    have d_is_safe : L2.DefAt (BK.KF KX) mg "is_safe" BK.s_is_safe ["make", "pair", "ticks"] := by
      dsimp only [BK.KF]
      refine' BK.def_at KX G BK.b_is_safe ?a ?l ?c ?k
      (case a => k_is)
      (case l => k_is)
      (case c => k_is)
      (case k => k_is)
    have d_greatest_that : L2.DefAt (BK.KF KX) mg "greatest_that" BK.s_greatest_that ["top", "holds"] := by
      dsimp only [BK.KF]
      refine' BK.def_at KX G BK.b_greatest_that ?a ?l ?c ?k
      (case a => k_is)
      (case l => k_is)
      (case c => k_is)
      (case k => k_is)
    have d_tick : L2.DefAt (BK.KF KX) mg "tick" BK.s_tick ["keeper", "measured", "link", "voltages"] := by
      dsimp only [BK.KF]
      refine' BK.def_at KX G BK.b_tick ?a ?l ?c ?k
      (case a => k_is)
      (case l => k_is)
      (case c => k_is)
      (case k => k_is)
    have d_go_on : L2.DefAt (BK.KF KX) mg "go_on" BK.s_go_on ["keeper", "measured", "link", "voltages"] := by
      dsimp only [BK.KF]
      refine' BK.def_at KX G BK.b_go_on ?a ?l ?c ?k
      (case a => k_is)
      (case l => k_is)
      (case c => k_is)
      (case k => k_is)
    have d_flows_though_long_open : L2.DefAt (BK.KF KX) mg "flows_though_long_open" BK.s_flows_though_long_open ["keeper", "measured"] := by
      dsimp only [BK.KF]
      refine' BK.def_at KX G BK.b_flows_though_long_open ?a ?l ?c ?k
      (case a => k_is)
      (case l => k_is)
      (case c => k_is)
      (case k => k_is)
    have d_pairs_behind : L2.DefAt (BK.KF KX) mg "pairs_behind" BK.s_pairs_behind ["keeper", "measured", "voltages"] := by
      dsimp only [BK.KF]
      refine' BK.def_at KX G BK.b_pairs_behind ?a ?l ?c ?k
      (case a => k_is)
      (case l => k_is)
      (case c => k_is)
      (case k => k_is)
    have d_turn_switch : L2.DefAt (BK.KF KX) mg "turn_switch" BK.s_turn_switch ["keeper", "link", "voltage"] := by
      dsimp only [BK.KF]
      refine' BK.def_at KX G BK.b_turn_switch ?a ?l ?c ?k
      (case a => k_is)
      (case l => k_is)
      (case c => k_is)
      (case k => k_is)
    have d_is_good : L2.DefAt (BK.KF KX) mg "is_good" BK.s_is_good ["keeper"] := by
      dsimp only [BK.KF]
      refine' BK.def_at KX G BK.b_is_good ?a ?l ?c ?k
      (case a => k_is)
      (case l => k_is)
      (case c => k_is)
      (case k => k_is)
    have d_fill : L2.DefAt (BK.KF KX) mg "fill" BK.s_fill ["keeper", "link", "voltage"] := by
      dsimp only [BK.KF]
      refine' BK.def_at KX G BK.b_fill ?a ?l ?c ?k
      (case a => k_is)
      (case l => k_is)
      (case c => k_is)
      (case k => k_is)
    have d_cells_to_bleed : L2.DefAt (BK.KF KX) mg "cells_to_bleed" BK.s_cells_to_bleed ["keeper"] := by
      dsimp only [BK.KF]
      refine' BK.def_at KX G BK.b_cells_to_bleed ?a ?l ?c ?k
      (case a => k_is)
      (case l => k_is)
      (case c => k_is)
      (case k => k_is)
    have d_bled_bits : L2.DefAt (BK.KF KX) mg "bled_bits" BK.s_bled_bits ["keeper"] := by
      dsimp only [BK.KF]
      refine' BK.def_at KX G BK.b_bled_bits ?a ?l ?c ?k
      (case a => k_is)
      (case l => k_is)
      (case c => k_is)
      (case k => k_is)
    have d_currents_for_next : L2.DefAt (BK.KF KX) mg "currents_for_next" BK.s_currents_for_next ["keeper"] := by
      dsimp only [BK.KF]
      refine' BK.def_at KX G BK.b_currents_for_next ?a ?l ?c ?k
      (case a => k_is)
      (case l => k_is)
      (case c => k_is)
      (case k => k_is)
    have d_least_of : L2.DefAt (BK.KF KX) mg "least_of" BK.s_least_of ["currents"] := by
      dsimp only [BK.KF]
      refine' BK.def_at KX G BK.b_least_of ?a ?l ?c ?k
      (case a => k_is)
      (case l => k_is)
      (case c => k_is)
      (case k => k_is)
    have d_is_right : L2.DefAt (BK.KF KX) mg "is_right" BK.s_is_right ["make"] := by
      dsimp only [BK.KF]
      refine' BK.def_at KX G BK.b_is_right ?a ?l ?c ?k
      (case a => k_is)
      (case l => k_is)
      (case c => k_is)
      (case k => k_is)
    have d_counts_are_right : L2.DefAt (BK.KF KX) mg "counts_are_right" BK.s_counts_are_right ["make"] := by
      dsimp only [BK.KF]
      refine' BK.def_at KX G BK.b_counts_are_right ?a ?l ?c ?k
      (case a => k_is)
      (case l => k_is)
      (case c => k_is)
      (case k => k_is)
    have d_cells_are_right : L2.DefAt (BK.KF KX) mg "cells_are_right" BK.s_cells_are_right ["make"] := by
      dsimp only [BK.KF]
      refine' BK.def_at KX G BK.b_cells_are_right ?a ?l ?c ?k
      (case a => k_is)
      (case l => k_is)
      (case c => k_is)
      (case k => k_is)
    have d_currents_are_right : L2.DefAt (BK.KF KX) mg "currents_are_right" BK.s_currents_are_right ["make"] := by
      dsimp only [BK.KF]
      refine' BK.def_at KX G BK.b_currents_are_right ?a ?l ?c ?k
      (case a => k_is)
      (case l => k_is)
      (case c => k_is)
      (case k => k_is)
    have d_voltages_are_right : L2.DefAt (BK.KF KX) mg "voltages_are_right" BK.s_voltages_are_right ["make"] := by
      dsimp only [BK.KF]
      refine' BK.def_at KX G BK.b_voltages_are_right ?a ?l ?c ?k
      (case a => k_is)
      (case l => k_is)
      (case c => k_is)
      (case k => k_is)
    have d_curve_is_right : L2.DefAt (BK.KF KX) mg "curve_is_right" BK.s_curve_is_right ["curve"] := by
      dsimp only [BK.KF]
      refine' BK.def_at KX G BK.b_curve_is_right ?a ?l ?c ?k
      (case a => k_is)
      (case l => k_is)
      (case c => k_is)
      (case k => k_is)
    have d_answers : L2.DefAt (BK.KF KX) mg "answers" BK.s_answers ["calls"] := by
      dsimp only [BK.KF]
      refine' BK.def_at KX G BK.b_answers ?a ?l ?c ?k
      (case a => k_is)
      (case l => k_is)
      (case c => k_is)
      (case k => k_is)
    have d_answer_call : L2.DefAt (BK.KF KX) mg "answer_call" BK.s_answer_call ["line", "call", "numbers", "row"] := by
      dsimp only [BK.KF]
      refine' BK.def_at KX G BK.b_answer_call ?a ?l ?c ?k
      (case a => k_is)
      (case l => k_is)
      (case c => k_is)
      (case k => k_is)
    have d_number_alone : L2.DefAt (BK.KF KX) mg "number_alone" BK.s_number_alone ["number"] := by
      dsimp only [BK.KF]
      refine' BK.def_at KX G BK.b_number_alone ?a ?l ?c ?k
      (case a => k_is)
      (case l => k_is)
      (case c => k_is)
      (case k => k_is)
    have d_number_and_four : L2.DefAt (BK.KF KX) mg "number_and_four" BK.s_number_and_four ["number", "four"] := by
      dsimp only [BK.KF]
      refine' BK.def_at KX G BK.b_number_and_four ?a ?l ?c ?k
      (case a => k_is)
      (case l => k_is)
      (case c => k_is)
      (case k => k_is)
    have d_answer_start : L2.DefAt (BK.KF KX) mg "answer_start" BK.s_answer_start ["line", "make"] := by
      dsimp only [BK.KF]
      refine' BK.def_at KX G BK.b_answer_start ?a ?l ?c ?k
      (case a => k_is)
      (case l => k_is)
      (case c => k_is)
      (case k => k_is)
    have d_answer_ask : L2.DefAt (BK.KF KX) mg "answer_ask" BK.s_answer_ask ["keeper", "on"] := by
      dsimp only [BK.KF]
      refine' BK.def_at KX G BK.b_answer_ask ?a ?l ?c ?k
      (case a => k_is)
      (case l => k_is)
      (case c => k_is)
      (case k => k_is)
    have d_answer_tick : L2.DefAt (BK.KF KX) mg "answer_tick" BK.s_answer_tick ["keeper", "measured", "link", "row"] := by
      dsimp only [BK.KF]
      refine' BK.def_at KX G BK.b_answer_tick ?a ?l ?c ?k
      (case a => k_is)
      (case l => k_is)
      (case c => k_is)
      (case k => k_is)
    have d_answer_cell : L2.DefAt (BK.KF KX) mg "answer_cell" BK.s_answer_cell ["keeper", "k"] := by
      dsimp only [BK.KF]
      refine' BK.def_at KX G BK.b_answer_cell ?a ?l ?c ?k
      (case a => k_is)
      (case l => k_is)
      (case c => k_is)
      (case k => k_is)
    have d_answer_state : L2.DefAt (BK.KF KX) mg "answer_state" BK.s_answer_state ["keeper"] := by
      dsimp only [BK.KF]
      refine' BK.def_at KX G BK.b_answer_state ?a ?l ?c ?k
      (case a => k_is)
      (case l => k_is)
      (case c => k_is)
      (case k => k_is)
    have c_Keeper : ∃ C, L2.InitAt (BK.KF KX) mg "Keeper" "Keeper.__init__" C BK.s_Keeper ["self", "make"] ∧ L2.Cls (BK.KF KX) C ∧ ∀ y ∈ (["make", "pairs", "bled", "asked", "switch", "filling_ticks", "open_ticks"] : List Str), L2.NoAttr (BK.KF KX) C y := by
      dsimp only [BK.KF]
      refine' BK.cls_at KX G BK.b_Keeper ?a ?i ?l ?c ?k ?m ?n ?kC ?pg ?hd ?po ?sa (BK.no_cons ?n0 (BK.no_cons ?n1 (BK.no_cons ?n2 (BK.no_cons ?n3 (BK.no_cons ?n4 (BK.no_cons ?n5 (BK.no_cons ?n6 BK.no_nil)))))))
      (case a => k_is)
      (case i => k_is)
      (case l => k_is)
      (case c => k_is)
      (case k => k_is)
      (case m => k_is)
      (case n => k_is)
      (case kC => k_is)
      (case pg => k_is)
      (case hd => k_is)
      (case po => k_is)
      (case sa => k_is)
      (case n0 => k_is)
      (case n1 => k_is)
      (case n2 => k_is)
      (case n3 => k_is)
      (case n4 => k_is)
      (case n5 => k_is)
      (case n6 => k_is)
    have c_Make : ∃ C, L2.InitAt (BK.KF KX) mg "Make" "Make.__init__" C BK.s_Make ["self", "numbers", "curve"] ∧ L2.Cls (BK.KF KX) C ∧ ∀ y ∈ (["cells", "wait", "fill", "none", "weak", "strong", "least", "most", "leak", "bleed_low", "bleed_high", "off", "fuse", "none2", "near", "like", "low", "high", "curve"] : List Str), L2.NoAttr (BK.KF KX) C y := by
      dsimp only [BK.KF]
      refine' BK.cls_at KX G BK.b_Make ?a ?i ?l ?c ?k ?m ?n ?kC ?pg ?hd ?po ?sa (BK.no_cons ?n0 (BK.no_cons ?n1 (BK.no_cons ?n2 (BK.no_cons ?n3 (BK.no_cons ?n4 (BK.no_cons ?n5 (BK.no_cons ?n6 (BK.no_cons ?n7 (BK.no_cons ?n8 (BK.no_cons ?n9 (BK.no_cons ?n10 (BK.no_cons ?n11 (BK.no_cons ?n12 (BK.no_cons ?n13 (BK.no_cons ?n14 (BK.no_cons ?n15 (BK.no_cons ?n16 (BK.no_cons ?n17 (BK.no_cons ?n18 BK.no_nil)))))))))))))))))))
      (case a => k_is)
      (case i => k_is)
      (case l => k_is)
      (case c => k_is)
      (case k => k_is)
      (case m => k_is)
      (case n => k_is)
      (case kC => k_is)
      (case pg => k_is)
      (case hd => k_is)
      (case po => k_is)
      (case sa => k_is)
      (case n0 => k_is)
      (case n1 => k_is)
      (case n2 => k_is)
      (case n3 => k_is)
      (case n4 => k_is)
      (case n5 => k_is)
      (case n6 => k_is)
      (case n7 => k_is)
      (case n8 => k_is)
      (case n9 => k_is)
      (case n10 => k_is)
      (case n11 => k_is)
      (case n12 => k_is)
      (case n13 => k_is)
      (case n14 => k_is)
      (case n15 => k_is)
      (case n16 => k_is)
      (case n17 => k_is)
      (case n18 => k_is)
    have c_Line : ∃ C, L2.InitAt (BK.KF KX) mg "Line" "Line.__init__" C BK.s_Line ["self"] ∧ L2.Cls (BK.KF KX) C ∧ ∀ y ∈ (["keeper"] : List Str), L2.NoAttr (BK.KF KX) C y := by
      dsimp only [BK.KF]
      refine' BK.cls_at KX G BK.b_Line ?a ?i ?l ?c ?k ?m ?n ?kC ?pg ?hd ?po ?sa (BK.no_cons ?n0 BK.no_nil)
      (case a => k_is)
      (case i => k_is)
      (case l => k_is)
      (case c => k_is)
      (case k => k_is)
      (case m => k_is)
      (case n => k_is)
      (case kC => k_is)
      (case pg => k_is)
      (case hd => k_is)
      (case po => k_is)
      (case sa => k_is)
      (case n0 => k_is)
    have g_FULL : L2.GI mg "FULL" (4294967296) := by
      refine' BK.gi_at KX G ?a
      (case a => k_is)
    have g_PART : L2.GI mg "PART" (134217728) := by
      refine' BK.gi_at KX G ?a
      (case a => k_is)
    have g_NO_CURRENT : L2.GI mg "NO_CURRENT" (4294967295) := by
      refine' BK.gi_at KX G ?a
      (case a => k_is)
    have g_OPEN : L2.GI mg "OPEN" (0) := by
      refine' BK.gi_at KX G ?a
      (case a => k_is)
    have g_FILLING : L2.GI mg "FILLING" (1) := by
      refine' BK.gi_at KX G ?a
      (case a => k_is)
    have g_CLOSED : L2.GI mg "CLOSED" (2) := by
      refine' BK.gi_at KX G ?a
      (case a => k_is)
    have g_BROKEN : L2.GI mg "BROKEN" (3) := by
      refine' BK.gi_at KX G ?a
      (case a => k_is)
    have g_MOST_OPEN_TICKS : L2.GI mg "MOST_OPEN_TICKS" (65535) := by
      refine' BK.gi_at KX G ?a
      (case a => k_is)
    have g_POINTS : L2.GI mg "POINTS" (33) := by
      refine' BK.gi_at KX G ?a
      (case a => k_is)
    have g_START : L2.GI mg "START" (0) := by
      refine' BK.gi_at KX G ?a
      (case a => k_is)
    have g_ASK : L2.GI mg "ASK" (1) := by
      refine' BK.gi_at KX G ?a
      (case a => k_is)
    have g_TICK : L2.GI mg "TICK" (2) := by
      refine' BK.gi_at KX G ?a
      (case a => k_is)
    have g_CELL : L2.GI mg "CELL" (3) := by
      refine' BK.gi_at KX G ?a
      (case a => k_is)
    have g_WRONG_MAKE : L2.GI mg "WRONG_MAKE" (-22) := by
      refine' BK.gi_at KX G ?a
      (case a => k_is)
    have g_NO_CELL : L2.GI mg "NO_CELL" (-2) := by
      refine' BK.gi_at KX G ?a
      (case a => k_is)
    have n_min : mg "min" = none := by
      refine' PySem.W.mg_none_of KX G ?a
      (case a => k_is)
    have n_max : mg "max" = none := by
      refine' PySem.W.mg_none_of KX G ?a
      (case a => k_is)
    have n_abs : mg "abs" = none := by
      refine' PySem.W.mg_none_of KX G ?a
      (case a => k_is)
    have n_len : mg "len" = none := by
      refine' PySem.W.mg_none_of KX G ?a
      (case a => k_is)
    have n_sum : mg "sum" = none := by
      refine' PySem.W.mg_none_of KX G ?a
      (case a => k_is)
    have n_all : mg "all" = none := by
      refine' PySem.W.mg_none_of KX G ?a
      (case a => k_is)
    have n_list : mg "list" = none := by
      refine' PySem.W.mg_none_of KX G ?a
      (case a => k_is)
    have n_range : mg "range" = none := by
      refine' PySem.W.mg_none_of KX G ?a
      (case a => k_is)
    have q_N : ∃ a, mg "NUMBERS" = some (.ref a) ∧ ∀ H : L2.Hp, L2.SqT (BK.KF KX) H a (BK.numsB.map L2.V.int) := by
      dsimp only [BK.KF]
      refine' ⟨_, PySem.W.mg_of KX G ?a, BK.nums_at ?l⟩
      (case a => k_is)
      (case l => k_is)
    have q_R : ∃ a, mg "HAS_ROW" = some (.ref a) ∧ ∀ H : L2.Hp, L2.SqT (BK.KF KX) H a (BK.rowB.map L2.V.bl) := by
      dsimp only [BK.KF]
      refine' ⟨_, PySem.W.mg_of KX G ?a, BK.rows_at ?l⟩
      (case a => k_is)
      (case l => k_is)
    have q_M : ∃ f c0 : Addr, mg "most_currents" = some (.ref f) ∧ BK.MostAt (BK.KF KX) f c0 := by
      dsimp only [BK.KF]
      refine' BK.most_at KX G ?a ?l ?c ?k
      (case a => k_is)
      (case l => k_is)
      (case c => k_is)
      (case k => k_is)
    obtain ⟨CM, i_Make, cl_Make, no_Make⟩ := c_Make
    obtain ⟨CK, i_Keeper, cl_Keeper, no_Keeper⟩ := c_Keeper
    obtain ⟨CL, i_Line, cl_Line, no_Line⟩ := c_Line
    obtain ⟨aN, g_NUMBERS, q_NUMBERS⟩ := q_N
    obtain ⟨aR, g_HAS_ROW, q_HAS_ROW⟩ := q_R
    obtain ⟨f, c0, m1, m2⟩ := q_M
    exact ⟨CM, CK, CL, aN, aR, f, c0, BK.Txt.mk g_FULL g_PART g_NO_CURRENT g_OPEN g_FILLING g_CLOSED g_BROKEN g_MOST_OPEN_TICKS g_POINTS g_START g_ASK g_TICK g_CELL g_WRONG_MAKE g_NO_CELL g_NUMBERS q_NUMBERS g_HAS_ROW q_HAS_ROW n_min n_max n_abs n_len n_sum n_all n_list n_range cl_Make cl_Keeper cl_Line no_Make no_Keeper (no_Line _ (List.mem_singleton.mpr rfl)) d_down d_up d_greatest_loss d_least_loss d_is_beyond_fuse d_least_current d_greatest_current d_right_pair d_step d_seen d_charge_down d_charge_up d_greatest_fall d_greatest_rise d_curve_times_part d_is_safe_below d_is_safe_above d_is_safe d_greatest_that i_Keeper d_tick d_go_on d_flows_though_long_open d_pairs_behind d_turn_switch d_is_good d_fill d_cells_to_bleed d_bled_bits d_currents_for_next d_least_of i_Make d_is_right d_counts_are_right d_cells_are_right d_currents_are_right d_voltages_are_right d_curve_is_right i_Line d_answers d_answer_call d_number_alone d_number_and_four d_answer_start d_answer_ask d_answer_tick d_answer_cell d_answer_state, m1, m2⟩
#print axioms PySem.Challenge.cw_batterykeeper_s01_answers_holds

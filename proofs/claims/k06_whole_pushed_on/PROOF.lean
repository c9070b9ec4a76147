import PyProof.Rows.All
import Wide.All
import OpenK.AllK
import Wide.FinOn
import PyProof.EqAt
import PyProof.EqKinds
import PyProof.TupleCall
import KE.BitLaws
import PySem.Challenge.RW_stonesround_k06_whole_pushed_on
set_option Elab.async false
set_option linter.all false
set_option maxRecDepth 100000
/-! THE HAND LAYER, for ints, bools, texts, own classes, lists, tuples, dicts, comprehensions, walks over dicts, enumerate, zip, reversed, texts, calls, loops. Paste it whole ahead of your own text; what your proof does not reach may be deleted. -/
namespace L2
open PySem PySem.Spec PyProof.Rows

/-- a key: an int or a str -/
abbrev Key := Sum Int Str
def keyIs : Key → Value → Bool
  | .inl k, v => Value.isInt k v
  | .inr x, v => Value.isStrOf x v
def keyH (w : World) : Key → Int
  | .inl k => hashInt k
  | .inr x => hashStr w x
theorem keyIs_shape : ∀ {k : Key} {v : Value}, keyIs k v = true → (∃ i t, k = Sum.inl i ∧ v = Value.int i t) ∨ (∃ x t, k = Sum.inr x ∧ v = Value.str x t)
  | .inl i, v, h => by
    obtain ⟨t, e⟩ := Value.isInt_shape (k := i) (v := v) h
    exact .inl ⟨i, t, rfl, e⟩
  | .inr x, v, h => by
    obtain ⟨t, e⟩ := Value.isStrOf_shape (x := x) (v := v) h
    exact .inr ⟨x, t, rfl, e⟩
theorem keyIs_int (i : Int) (t : Tok) : keyIs (.inl i) (.int i t) = true := by simp [keyIs, Value.isInt]
theorem keyIs_str (x : Str) (t : Tok) : keyIs (.inr x) (.str x t) = true := by simp [keyIs, Value.isStrOf]
theorem key_ll (a b : Int) : decide ((Sum.inl a : Key) = Sum.inl b) = (a == b) := by
  by_cases e : a = b
  · subst e; simp
  · have h : ¬ (Sum.inl a : Key) = Sum.inl b := fun q => e (Sum.inl.inj q)
    rw [decide_eq_false h]
    exact (beq_eq_false_iff_ne.mpr e).symm
theorem key_rr (a b : Str) : decide ((Sum.inr a : Key) = Sum.inr b) = decide (a = b) := by
  by_cases e : a = b
  · subst e; simp
  · have h : ¬ (Sum.inr a : Key) = Sum.inr b := fun q => e (Sum.inr.inj q)
    rw [decide_eq_false h, decide_eq_false e]
theorem key_lr (a : Int) (b : Str) : decide ((Sum.inl a : Key) = Sum.inr b) = false := decide_eq_false (fun q => nomatch q)
theorem key_rl (a : Str) (b : Int) : decide ((Sum.inr a : Key) = Sum.inl b) = false := decide_eq_false (fun q => nomatch q)

def mixKind (prog : Program) (w : World) : PySem.KeyKind prog w Key where
  is := keyIs
  hash := keyH w
  inj := fun v a b ha hb => by
    rcases keyIs_shape ha with ⟨i, t, rfl, rfl⟩ | ⟨x, t, rfl, rfl⟩
    · rcases keyIs_shape hb with ⟨j, u, rfl, e⟩ | ⟨y, u, rfl, e⟩
      · injection e with e1 _; rw [e1]
      · exact nomatch e
    · rcases keyIs_shape hb with ⟨j, u, rfl, e⟩ | ⟨y, u, rfl, e⟩
      · exact nomatch e
      · injection e with e1 _; rw [e1]
  byValue := fun k v h => by
    rcases keyIs_shape h with ⟨i, t, rfl, rfl⟩ | ⟨x, t, rfl, rfl⟩ <;> rfl
  pyHash := fun hv h => by
    rcases keyIs_shape hv with ⟨i, t, rfl, rfl⟩ | ⟨x, t, rfl, rfl⟩
    · exact wpAny_pyHash_int h
    · exact wpAny_pyHash_str h
  eqBool := fun hu hv h => by
    rcases keyIs_shape hu with ⟨i, t, rfl, rfl⟩ | ⟨x, t, rfl, rfl⟩
    · rcases keyIs_shape hv with ⟨j, u, rfl, rfl⟩ | ⟨y, u, rfl, rfl⟩
      · rw [key_ll] at h; exact wpAny_eqBool_int h
      · rw [key_lr] at h; exact SeqAt.EqAt.int_str i t y u _ _ _ _ h
    · rcases keyIs_shape hv with ⟨j, u, rfl, rfl⟩ | ⟨y, u, rfl, rfl⟩
      · rw [key_rl] at h; exact SeqAt.EqAt.str_int x t j u _ _ _ _ h
      · rw [key_rr] at h; exact wpAny_eqBool_str h
  «strs» := fun k x t v h => by
    rcases keyIs_shape h with ⟨i, u, rfl, e⟩ | ⟨y, u, rfl, e⟩
    · exact nomatch e
    · injection e with e1 _
      subst e1
      cases v <;> rfl

theorem mixKind_is (prog : Program) (w : World) (k : Key) (v : Value) : (mixKind prog w).is k v = keyIs k v := rfl
theorem mixKind_int (prog : Program) (w : World) (i : Int) (t : Tok) : (mixKind prog w).is (.inl i) (.int i t) = true := keyIs_int i t
theorem mixKind_str (prog : Program) (w : World) (x : Str) (t : Tok) : (mixKind prog w).is (.inr x) (.str x t) = true := keyIs_str x t
end L2

namespace L2
open PySem PySem.Spec PyProof.Rows

/-- a value, without the heap -/
inductive V where
  | non | bl (b : Bool) | int (i : Int) | str (x : Str) | byt (b : Array UInt8) | flt (b : UInt64) | ref (a : Addr) | ty (n : String)
  deriving DecidableEq

def RelV : V → Value → Prop
  | .non, u => u = Value.none
  | .bl b, u => u = Value.bool b
  | .int i, u => ∃ t, u = Value.int i t
  | .str x, u => ∃ t, u = Value.str x t
  | .byt b, u => ∃ t, u = Value.bytes b t
  | .flt b, u => ∃ t, u = Value.float b t
  | .ref a, u => u = Value.ref a
  | .ty n, u => u = Value.type n

abbrev Vals : List V → List Value → Prop := Paired RelV
theorem Vals.length {xs : List V} {us : List Value} (r : Vals xs us) : xs.length = us.length := Paired.length r
theorem Vals.get : ∀ {xs : List V} {us : List Value} {i : Nat} {x : V}, Vals xs us → xs[i]? = some x → ∃ u, us[i]? = some u ∧ RelV x u
  | _, _, _, _, .nil, e => by simp at e
  | _, _, 0, _, .cons r _, e => by simp at e; subst e; exact ⟨_, rfl, r⟩
  | _, _, i + 1, x, .cons _ t, e => by
    obtain ⟨u, h1, h2⟩ := Vals.get (i := i) (x := x) t (by simpa using e)
    exact ⟨u, by simpa using h1, h2⟩
theorem Vals.set {x : V} {u : Value} (r : RelV x u) : ∀ {xs : List V} {us : List Value} (i : Nat), Vals xs us → Vals (xs.set i x) (us.set i u)
  | _, _, _, .nil => .nil
  | _, _, 0, .cons _ t => .cons r t
  | _, _, i + 1, .cons q t => .cons q (Vals.set r i t)
theorem Vals.append : ∀ {xs ys : List V} {us ws : List Value}, Vals xs us → Vals ys ws → Vals (xs ++ ys) (us ++ ws)
  | _, _, _, _, .nil, s => s
  | _, _, _, _, .cons r t, s => .cons r (Vals.append t s)
theorem Vals.take : ∀ {xs : List V} {us : List Value} (n : Nat), Vals xs us → Vals (xs.take n) (us.take n)
  | _, _, 0, _ => .nil
  | _, _, _ + 1, .nil => .nil
  | _, _, n + 1, .cons r t => .cons r (Vals.take n t)
theorem Vals.drop : ∀ {xs : List V} {us : List Value} (n : Nat), Vals xs us → Vals (xs.drop n) (us.drop n)
  | _, _, 0, r => r
  | _, _, _ + 1, .nil => .nil
  | _, _, n + 1, .cons _ t => Vals.drop n t
theorem Vals.none_of : ∀ {xs : List V} {us : List Value} {i : Nat}, Vals xs us → xs[i]? = none → us[i]? = none := fun {xs us i} r e => by
  have h1 := r.length
  have h2 : xs.length ≤ i := List.getElem?_eq_none_iff.mp e
  exact List.getElem?_eq_none_iff.mpr (by omega)

def RelO : Option V → Option Value → Prop
  | some v, some u => RelV v u
  | none, none => True
  | _, _ => False
def KV {κ : Type} : List (κ × V) → List (κ × Value) → Prop := Paired fun (p : κ × V) (q : κ × Value) => p.1 = q.1 ∧ RelV p.2 q.2

/-- a key of a dict (00_mix): an int or a text -/
def kV : Key → V
  | .inl i => .int i
  | .inr x => .str x

/-- what stands at a tracked address -/
inductive HO where
  /-- a list -/
  | lst (xs : List V)
  /-- a tuple (never changes) -/
  | tup (xs : List V)
  /-- a dict whose keys are ints and texts; one whose keys are tuples of ints and texts (the empty one is both) -/
  | dK (kvs : List (Key × V)) | dT (kvs : List (List Key × V))
  /-- a set of ints: its members, its size -/
  | set (S : Int → Bool) (n : Nat)
  /-- an instance of the class at C, its dict at dx, its attributes -/
  | ins (C dx : Addr) (fs : List (Str × V))
  /-- the dict of the instance at x -/
  | own (x : Addr)
  /-- the dict of an exception -/
  | xd (fs : List (Str × V))
  /-- a bound method, f of x -/
  | met (f x : Addr)
  /-- a range object lo, lo + 1, .. below hi -/
  | rng (lo hi : Int)
  /-- a thing that is known to the object (the script; a dict while a loop walks it): read, never written while it is so -/
  | frz (o : Obj) (u : HO)
  /-- a code object's table -/
  | tbl (ps : Array Value)
  /-- any other thing, by what is true of its one object (a def of one's own: SetO a S n := HO.ext fun h => ..) -/
  | ext (φ : Heap → Prop)

abbrev Hp := Addr → Option HO
def upd (H : Hp) (a : Addr) (o : HO) : Hp := fun b => if b = a then some o else H b
theorem upd_same {H : Hp} {a : Addr} {o : HO} : upd H a o a = some o := by unfold upd; rw [if_pos rfl]
theorem upd_ne {H : Hp} {a b : Addr} {o : HO} (h : b ≠ a) : upd H a o b = H b := by unfold upd; rw [if_neg h]
theorem upd_upd {H : Hp} {a : Addr} {o u : HO} : upd (upd H a o) a u = upd H a u := by
  funext b; unfold upd; split <;> rfl
/-- two objects of different content stand apart -/
theorem ne_of {H : Hp} {a b : Addr} {o u : HO} (h : H a = some o) (h' : H b = some u) (d : o ≠ u) : a ≠ b := by
  intro e; subst e; rw [h] at h'; exact d (Option.some.inj h')
theorem ne_of_none {H : Hp} {a b : Addr} {o : HO} (h : H a = some o) (h' : H b = none) : a ≠ b := by
  intro e; subst e; rw [h] at h'; cases h'

section
variable (P : Program) (w : World)
def ObjOk (H : Hp) (h : Heap) (a : Addr) : HO → Prop
  | .lst xs => xs.length ≤ sizeLine ∧ ∃ (its : List Value) (n : Nat), Vals xs its ∧ h.get? a = some { cls := .type "list", data := .seq its.toArray n }
  | .tup xs => xs.length ≤ sizeLine ∧ ∃ its : List Value, Vals xs its ∧ IsTup h a its.toArray
  | .dK kvs => kvs.length ≤ sizeLine ∧ (a == sysModules) = false ∧ ∃ vs, KV kvs vs ∧ h.DictOf (mixKind P w) a vs
  | .dT kvs => kvs.length ≤ sizeLine ∧ (a == sysModules) = false ∧ ∃ xs : List (List Key × Addr × Value),
      Paired (fun (p : List Key × V) (q : List Key × Addr × Value) => p.1 = q.1 ∧ H q.2.1 = some (.tup (p.1.map kV)) ∧ RelV p.2 q.2.2) kvs xs ∧
      ∃ o es ep, h.get? a = some o ∧ o.ExactDict ∧ o.data = .dict es ep ∧ es.toList = xs.map (entryOfKey (tupleKind (mixKind P w))) ∧ (xs.map (·.1)).Nodup
  | .set S n => h.SetOf (intKind P w) a S n
  | .ins C dx fs => H dx = some (.own a) ∧ fs.length ≤ 1000 ∧ dx ≠ a ∧ h.get? a = some (PySem.W.instObj C dx) ∧
      ∃ mA, h.Ns1 dx mA ∧ (∀ f, RelO (fs.lookup f) (mA f)) ∧ PySem.Within mA (fs.map (·.1))
  | .own _ => ∃ o, h.get? a = some o
  | .xd fs => ∃ mA, h.Ns1 a mA ∧ ∀ f, RelO (fs.lookup f) (mA f)
  | .rng lo hi => ∃ t u v, h.get? a = some { cls := .type "range", data := .fields #[.int lo t, .int hi u, .int 1 v] }
  | .frz o u => h.get? a = some o ∧ ObjOk H h a u
  | .tbl ps => h.get? a = some { cls := .none, data := .fields ps }
  | .met f x => h.get? a = some (PySem.W.methodObj (.ref f) (.ref x))
  | .ext φ => φ h ∧ (∃ o, h.get? a = some o) ∧ ∀ h1 h2 : Heap, φ h1 → (∀ o, h1.get? a = some o → h2.get? a = some o) → φ h2
/-- the abstract heap is held -/
def HOk (H : Hp) (h : Heap) : Prop := ∀ a o, H a = some o → ObjOk P w H h a o
end

section
variable {P : Program} {w : World} {H H' : Hp} {h h' : Heap} {a : Addr} {o : HO}
theorem ObjOk.lt (x : ObjOk P w H h a o) : a < h.objs.size := by
  cases o with
  | lst xs => obtain ⟨_, _, _, _, e⟩ := x; exact Heap.lt_size e
  | tup xs => obtain ⟨_, _, _, p⟩ := x; exact p.lt
  | dK kvs => obtain ⟨_, _, _, _, o, _, _, e, _⟩ := x; exact Heap.lt_size e
  | dT kvs => obtain ⟨_, _, _, _, o, _, _, e, _⟩ := x; exact Heap.lt_size e
  | set S n => obtain ⟨o, _, _, _, e, _⟩ := x; exact Heap.lt_size e
  | ins C dx fs => obtain ⟨_, _, _, e, _⟩ := x; exact Heap.lt_size e
  | own y => obtain ⟨_, e⟩ := x; exact Heap.lt_size e
  | xd fs => obtain ⟨_, ⟨_, _, _, e, _⟩, _⟩ := x; exact Heap.lt_size e
  | rng lo hi => obtain ⟨_, _, _, e⟩ := x; exact Heap.lt_size e
  | frz ob u => obtain ⟨e, _⟩ := x; exact Heap.lt_size e
  | tbl ps => exact Heap.lt_size (show h.get? a = some _ from x)
  | met f y => exact Heap.lt_size (show h.get? a = some _ from x)
  | ext φ => obtain ⟨_, ⟨_, e⟩, _⟩ := x; exact Heap.lt_size e
theorem Paired.mapP {α β : Type} {F G : α → β → Prop} : ∀ {l₁ : List α} {l₂ : List β}, Paired F l₁ l₂ → (∀ a b, F a b → G a b) → Paired G l₁ l₂
  | _, _, .nil, _ => .nil
  | _, _, .cons r t, f => .cons (f _ _ r) (Paired.mapP t f)
theorem Paired.imp' {α β : Type} {F G : α → β → Prop} (f : ∀ a b, F a b → G a b) {l₁ : List α} {l₂ : List β} (r : Paired F l₁ l₂) : Paired G l₁ l₂ := Paired.mapP r f
/-- what an object's description leans on: its own object, its own dict, the tuples -/
theorem ObjOk.stay (x : ObjOk P w H h a o) (k : ∀ b u, (b = a ∨ H b = some (.own a)) → h.get? b = some u → h'.get? b = some u)
    (ho : ∀ b, H b = some (.own a) → H' b = some (.own a)) (ht : ∀ b xs, H b = some (.tup xs) → H' b = some (.tup xs)) : ObjOk P w H' h' a o := by
  induction o with
  | lst xs => obtain ⟨z, its, n, r, e⟩ := x; exact ⟨z, its, n, r, k _ _ (.inl rfl) e⟩
  | tup xs => obtain ⟨z, its, r, ob, e, c⟩ := x; exact ⟨z, its, r, ob, k _ _ (.inl rfl) e, c⟩
  | dK kvs => obtain ⟨z, y, vs, r, ob, es, ep, e, c⟩ := x; exact ⟨z, y, vs, r, ob, es, ep, k _ _ (.inl rfl) e, c⟩
  | dT kvs =>
    obtain ⟨z, y, xs, r, ob, es, ep, e, c⟩ := x
    exact ⟨z, y, xs, Paired.mapP r fun p q z => ⟨z.1, ht _ _ z.2.1, z.2.2⟩, ob, es, ep, k _ _ (.inl rfl) e, c⟩
  | set S n => obtain ⟨ob, es, ep, t, e, c⟩ := x; exact ⟨ob, es, ep, t, k _ _ (.inl rfl) e, c⟩
  | ins C dx fs =>
    obtain ⟨d, z, ne, e, mA, ⟨od, es, ep, e2, c⟩, r⟩ := x
    exact ⟨ho _ d, z, ne, k _ _ (.inl rfl) e, mA, ⟨od, es, ep, k _ _ (.inr d) e2, c⟩, r⟩
  | own y => obtain ⟨ob, e⟩ := x; exact ⟨ob, k _ _ (.inl rfl) e⟩
  | xd fs => obtain ⟨mA, ⟨od, es, ep, e, c⟩, r⟩ := x; exact ⟨mA, ⟨od, es, ep, k _ _ (.inl rfl) e, c⟩, r⟩
  | rng lo hi => obtain ⟨t, u, v, e⟩ := x; exact ⟨t, u, v, k _ _ (.inl rfl) e⟩
  | frz ob u ih => obtain ⟨e, q⟩ := x; exact ⟨k _ _ (.inl rfl) e, ih q⟩
  | tbl ps =>
    have e : h.get? a = some { cls := .none, data := .fields ps } := x
    show h'.get? a = some { cls := .none, data := .fields ps }
    exact k a _ (.inl rfl) e
  | met f y =>
    have e : h.get? a = some (PySem.W.methodObj (.ref f) (.ref y)) := x
    show h'.get? a = some (PySem.W.methodObj (.ref f) (.ref y))
    exact k a _ (.inl rfl) e
  | ext φ => obtain ⟨p, ⟨o, e⟩, st⟩ := x; exact ⟨st _ _ p fun o q => k _ _ (.inl rfl) q, ⟨o, k _ _ (.inl rfl) e⟩, st⟩
theorem HOk.lt (x : HOk P w H h) (e : H a = some o) : a < h.objs.size := (x a o e).lt
theorem HOk.fresh (x : HOk P w H h) (e : h.objs.size ≤ a) : H a = none := by
  cases q : H a with
  | none => rfl
  | some u => exact absurd (Nat.lt_of_lt_of_le (x.lt q) e) (Nat.lt_irrefl _)
/-- every object of the heap is kept -/
theorem HOk.kept (x : HOk P w H h) (k : ∀ b u, h.get? b = some u → h'.get? b = some u) : HOk P w H h' := fun a o e =>
  (x a o e).stay (fun b u _ q => k b u q) (fun _ q => q) fun _ _ q => q
/-- a new object is laid and tracked -/
theorem HOk.laid (x : HOk P w H h) (k : ∀ b u, h.get? b = some u → h'.get? b = some u) (hp : h.objs.size ≤ a) (new : ObjOk P w (upd H a o) h' a o) : HOk P w (upd H a o) h' := fun b u e => by
  have hn := x.fresh hp
  by_cases hb : b = a
  · subst hb; rw [upd_same] at e; cases e; exact new
  · rw [upd_ne hb] at e
    exact (x b u e).stay (fun c v _ q => k c v q) (fun c q => by rw [upd_ne (ne_of_none q hn)]; exact q) fun c xs q => by rw [upd_ne (ne_of_none q hn)]; exact q
end

/-- what may be read as u: it is u, or a known u -/
def Rd (H : Hp) (a : Addr) (u : HO) : Prop := H a = some u ∨ ∃ o, H a = some (.frz o u)
theorem Rd.of {H : Hp} {a : Addr} {u : HO} (h : H a = some u) : Rd H a u := .inl h
theorem Rd.ok {P : Program} {w : World} {H : Hp} {h : Heap} {a : Addr} {u : HO} (r : Rd H a u) (x : HOk P w H h) : ObjOk P w H h a u := by
  rcases r with r | ⟨o, r⟩
  · exact x a u r
  · obtain ⟨_, q⟩ := x a _ r
    exact q
/-- what may be written -/
def Mut : Option HO → Prop
  | some (.lst _) => True
  | some (.dK _) => True
  | some (.dT _) => True
  | some (.set _ _) => True
  | some (.ins _ _ _) => True
  | some (.ext _) => True
  | _ => False
section
variable {P : Program} {w : World} {H : Hp} {h h' : Heap} {x e : Addr} {o' : HO}
/-- the object at e is changed: x itself, or the dict of the instance x -/
theorem HOk.write (ok : HOk P w H h) (mu : Mut (H x)) (he : e = x ∨ H e = some (.own x)) (k : ∀ b u, b ≠ e → h.get? b = some u → h'.get? b = some u) (heo : ∃ u, h'.get? e = some u)
    (new : ObjOk P w (upd H x o') h' x o') : HOk P w (upd H x o') h' := fun b u q => by
  have nown : ∀ c y, H c = some (.own y) → c ≠ x := fun c y r z => by subst z; rw [r] at mu; exact mu
  have ntup : ∀ c xs, H c = some (.tup xs) → c ≠ x := fun c xs r z => by subst z; rw [r] at mu; exact mu
  by_cases hb : b = x
  · subst hb; rw [upd_same] at q; cases q; exact new
  · rw [upd_ne hb] at q
    by_cases hbe : b = e
    · have q' : H b = some (.own x) := by
        rcases he with z | z
        · exact absurd (hbe.trans z) hb
        · rw [hbe]; exact z
      rw [q] at q'; cases q'
      obtain ⟨v, hv⟩ := heo
      exact ⟨v, by rw [hbe]; exact hv⟩
    · refine (ok b u q).stay (fun c v hc r => k c v ?_ r) (fun c r => by rw [upd_ne (nown c b r)]; exact r) fun c xs r => by rw [upd_ne (ntup c xs r)]; exact r
      rcases hc with rfl | hc
      · exact hbe
      · rintro rfl
        rcases he with z | z
        · exact nown c b hc z
        · rw [hc] at z; cases z; exact hb rfl
end

/-! ### kept unless tracked; of the frames at fs (the callers') the slots may change (an exception that passes writes there); of the records at ex (iterators) nothing is said -/
structure Un (fs ex : List Addr) (H H' : Hp) (h h' : Heap) : Prop where
  keep : ∀ b o, h.get? b = some o → H b = none → b ∉ fs → b ∉ ex → h'.get? b = some o
  slot : ∀ b o, h.get? b = some o → H b = none → b ∈ fs → b ∉ ex → ∃ sl, h'.get? b = some { o with slots := sl }
  free : ∀ b o, h.get? b = some o → H b = none → b ∉ ex → H' b = none
  there : ∀ b o, h.get? b = some o → b ∉ ex → ∃ o', h'.get? b = some o'
  tups : ∀ b xs, H b = some (.tup xs) → H' b = some (.tup xs)
  frzs : ∀ b o u, H b = some (.frz o u) → H' b = some (.frz o u)
  tbls : ∀ b ps, H b = some (.tbl ps) → ∃ more, H' b = some (.tbl (ps ++ more))
section
variable {fs fs' ex ex' : List Addr} {H H1 H2 : Hp} {h h1 h2 h' : Heap} {a x e : Addr} {o : HO}
theorem Un.any (u : Un fs ex H H1 h h1) {b : Addr} {ob : Obj} (q : h.get? b = some ob) (n : H b = none) (hx : b ∉ ex) : ∃ sl, h1.get? b = some { ob with slots := sl } := by
  by_cases hb : b ∈ fs
  · exact u.slot b ob q n hb hx
  · exact ⟨ob.slots, u.keep b ob q n hb hx⟩
theorem Un.trans (a : Un fs ex H H1 h h1) (b : Un fs ex H1 H2 h1 h2) : Un fs ex H H2 h h2 where
  keep := fun c ob q n hc hx => b.keep c ob (a.keep c ob q n hc hx) (a.free c ob q n hx) hc hx
  slot := fun c ob q n hc hx => by
    obtain ⟨sl, e1⟩ := a.slot c ob q n hc hx
    obtain ⟨sl', e2⟩ := b.slot c _ e1 (a.free c ob q n hx) hc hx
    exact ⟨sl', e2⟩
  free := fun c ob q n hx => by
    obtain ⟨o', e1⟩ := a.there c ob q hx
    exact b.free c o' e1 (a.free c ob q n hx) hx
  there := fun c ob q hx => by
    obtain ⟨o', e1⟩ := a.there c ob q hx
    exact b.there c o' e1 hx
  tups := fun c xs q => b.tups c xs (a.tups c xs q)
  frzs := fun c ob xs q => b.frzs c ob xs (a.frzs c ob xs q)
  tbls := fun c ps q => by
    obtain ⟨m1, e1⟩ := a.tbls c ps q
    obtain ⟨m2, e2⟩ := b.tbls c _ e1
    exact ⟨m1 ++ m2, by rw [e2, Array.append_assoc]⟩
theorem Un.kept (k : ∀ b u, h.get? b = some u → h'.get? b = some u) : Un fs ex H H h h' :=
  ⟨fun b ob q _ _ _ => k b ob q, fun b ob q _ _ _ => ⟨ob.slots, k b ob q⟩, fun _ _ _ n _ => n, fun b ob q _ => ⟨ob, k b ob q⟩, fun _ _ q => q, fun _ _ _ q => q, fun _ ps q => ⟨#[], by rw [q]; simp⟩⟩
theorem Un.refl : Un fs ex H H h h := Un.kept fun _ _ q => q
theorem Un.laid (k : ∀ b u, h.get? b = some u → h'.get? b = some u) (hp : h.objs.size ≤ a) (hn : H a = none) : Un fs ex H (upd H a o) h h' where
  keep := fun b u q _ _ _ => k b u q
  slot := fun b u q _ _ _ => ⟨u.slots, k b u q⟩
  free := fun b u q n _ => by rw [upd_ne (Nat.ne_of_lt (Nat.lt_of_lt_of_le (Heap.lt_size q) hp))]; exact n
  there := fun b u q _ => ⟨u, k b u q⟩
  tups := fun b xs q => by rw [upd_ne (ne_of_none q hn)]; exact q
  frzs := fun b u xs q => by rw [upd_ne (ne_of_none q hn)]; exact q
  tbls := fun b ps q => ⟨#[], by rw [upd_ne (ne_of_none q hn), q]; simp⟩
theorem Un.write (mu : Mut (H x)) (he : e = x ∨ H e = some (.own x)) (k : ∀ b u, b ≠ e → h.get? b = some u → h'.get? b = some u) (heo : ∃ u, h'.get? e = some u) : Un fs ex H (upd H x o) h h' := by
  have hx : ∀ b, H b = none → b ≠ x := fun b n z => by subst z; rw [n] at mu; exact mu
  have hb : ∀ b, H b = none → b ≠ e := fun b n z => by
    subst z
    rcases he with r | r
    · exact hx b n r
    · rw [n] at r; cases r
  have hm : ∀ b u, H b = some u → ¬ Mut (some u) → b ≠ x := fun b u q nm z => by subst z; rw [q] at mu; exact nm mu
  refine ⟨fun b u q n _ _ => k b u (hb b n) q, fun b u q n _ _ => ⟨u.slots, k b u (hb b n) q⟩, fun b u q n _ => by rw [upd_ne (hx b n)]; exact n, fun b u q _ => ?_,
    fun b xs q => by rw [upd_ne (hm b _ q fun z => z)]; exact q, fun b u xs q => by rw [upd_ne (hm b _ q fun z => z)]; exact q, fun b ps q => ⟨#[], by rw [upd_ne (hm b _ q fun z => z), q]; simp⟩⟩
  by_cases hbe : b = e
  · subst hbe; exact heo
  · exact ⟨u, k b u hbe q⟩
theorem Un.mono (u : Un fs ex H H1 h h1) (hs : ∀ b ∈ fs, b ∈ fs') (hx : ∀ b ∈ ex, b ∈ ex') : Un fs' ex' H H1 h h1 :=
  ⟨fun b ob q n hb he => u.keep b ob q n (fun z => hb (hs b z)) fun z => he (hx b z), fun _ _ q n _ he => u.any q n fun z => he (hx _ z), fun b ob q n he => u.free b ob q n fun z => he (hx b z), fun b ob q he => u.there b ob q fun z => he (hx b z), u.tups, u.frzs, u.tbls⟩
end

/-! ### the heap without what is tracked -/
def trk (h : Heap) (H : Hp) : List Addr := (List.range h.objs.size).filter fun a => (H a).isSome
def hidT (h : Heap) (H : Hp) : Heap := PySem.W.hideAll h (trk h H)
theorem hidT_size (h : Heap) (H : Hp) : (hidT h H).objs.size = h.objs.size := PySem.W.hideAll_size _ _
theorem hidT_get {h : Heap} {H : Hp} {b : Addr} {o : Obj} (e : h.get? b = some o) (n : H b = none) : (hidT h H).get? b = some o :=
  PySem.W.hideAll_get _ e fun hm => by
    have q : (H b).isSome = true := (List.mem_filter.mp hm).2
    rw [n] at q; simp at q
theorem of_hidT {h : Heap} {H : Hp} {b : Addr} {o : Obj} (e : (hidT h H).get? b = some o) : h.get? b = some o ∧ H b = none := by
  have e' : h.get? b = some o := PySem.W.of_hideAll (trk h H) e
  refine ⟨e', ?_⟩
  cases q : H b with
  | none => rfl
  | some x =>
    have hm : b ∈ trk h H := List.mem_filter.mpr ⟨List.mem_range.mpr (Heap.lt_size e'), by simp [q]⟩
    have z : (hidT h H).get? b = none := PySem.W.hideAll_none (trk h H) hm
    rw [z] at e; cases e

/-! ### OpenK's ledger, filled with every new object but one -/
def allNews (g h : Heap) (L : Addr) : List (Addr × Obj) := (List.range h.objs.size).filterMap fun a => if a = L ∨ (g.get? a).isSome = true then none else (h.get? a).map fun o => (a, o)
theorem mem_allNews {g h : Heap} {L a : Addr} {o : Obj} (h1 : a ≠ L) (h2 : g.get? a = none) (h3 : h.get? a = some o) : (a, o) ∈ allNews g h L :=
  List.mem_filterMap.mpr ⟨a, List.mem_range.mpr (Heap.lt_size h3), by simp [h1, h2, h3]⟩
theorem of_mem_allNews {g h : Heap} {L : Addr} {p : Addr × Obj} (hp : p ∈ allNews g h L) : p.1 ≠ L ∧ g.get? p.1 = none ∧ h.get? p.1 = some p.2 := by
  obtain ⟨b, _, e⟩ := List.mem_filterMap.mp hp
  split at e
  · cases e
  · rename_i hn
    cases q : h.get? b with
    | none => rw [q] at e; simp at e
    | some u =>
      rw [q] at e
      simp only [Option.map_some, Option.some.injEq] at e
      subst e
      refine ⟨fun z => hn (.inl z), ?_, q⟩
      show g.get? b = none
      cases r : g.get? b with
      | none => rfl
      | some v => exact (hn (.inr (by simp [r]))).elim
def rest (g h : Heap) (L d : Addr) : List (Addr × Obj) := (allNews g h L).filter fun p => decide (p.1 ≠ d)
theorem rest_ne {g h : Heap} {L d : Addr} : ∀ p ∈ rest g h L d, p.1 ≠ d := fun p hp => of_decide_eq_true (List.mem_filter.mp hp).2
theorem mem_rest {g h : Heap} {L d a : Addr} {o : Obj} (h1 : a ≠ L) (h2 : g.get? a = none) (h3 : h.get? a = some o) (h4 : a ≠ d) : (a, o) ∈ rest g h L d :=
  List.mem_filter.mpr ⟨mem_allNews h1 h2 h3, decide_eq_true h4⟩
theorem news_all {g h : Heap} {L : Addr} : News g L h (allNews g h L) := fun p hp => let ⟨a, b, c⟩ := of_mem_allNews hp; ⟨c, a, b⟩
theorem news_at {g h : Heap} {L d : Addr} {o : Obj} (h1 : d ≠ L) (h2 : g.get? d = none) (h3 : h.get? d = some o) : News g L h ((d, o) :: rest g h L d) := fun p hp => by
  rcases List.mem_cons.mp hp with rfl | hp
  · exact ⟨h3, h1, h2⟩
  · exact news_all p (List.mem_filter.mp hp).1
/-- behind a rule that changed d alone: all else but the frame is kept -/
theorem kept_of_news {g h h' : Heap} {L d : Addr} {m : Str → Option Value} (k : ∀ b o, g.get? b = some o → h.get? b = some o) (F : Fr g L h' m) (N : News g L h' (rest g h L d)) :
    ∀ b o, b ≠ L → b ≠ d → h.get? b = some o → h'.get? b = some o := fun b o h1 h2 e => by
  cases q : g.get? b with
  | some u =>
    have := k b u q
    rw [e] at this; cases this
    exact F.keep b _ q
  | none => exact (N (b, o) (mem_rest h1 q e h2)).1
end L2

namespace L2
open PySem PySem.Spec PyProof.Rows

/-- the module's facts, over the base: the heap at the law's entry without what is tracked there -/
structure Mod (K : PySem.W.Frag) (mg : Str → Option Value) (base : Heap) : Prop where
  kin : K.In base
  glob : base.Ns mainGlobals mg
  blt : ∃ mb, base.Ns builtinsNs mb ∧ ∀ x : Str, x ≠ "__name__" → mb x = bootBuiltins x
  nolimit : base.NoLimit

/-- the context: a def's body (or a comprehension's block) running. base: fixed through the whole law; s₀, H₀: the entry; outer: the frames whose slots others may change (a def's callers); stack: all frames that run;
   ex: iterators that were made ahead of the entry and are walked here (a comprehension's); fn: the names whose cells were made at the entry (a def: all; a comprehension's block: its own); calm: not within an except suite; pn: pins that every state bears; xe: what is wanted of an exception that leaves the code -/
structure Cx where
  prog : Program
  w : World
  K : PySem.W.Frag
  mg : Str → Option Value
  base : Heap
  A : Around
  N : List Str
  s_0 : Shared
  H_0 : Hp
  env : Env
  outer : List Env
  stack : List Env
  ex : List Addr
  fn : Str → Bool
  calm : Bool
  pn : List (Addr × Obj)
  xe : Value → Shared → Prop
/-- the callers' frames -/
def frs (l : List Env) : List Addr := l.filterMap (·.frame)
abbrev Cx.fs (X : Cx) : List Addr := frs X.outer

def Vis (sc : Scope) (x : Str) : Prop := sc.names.lookup x = some .local ∨ sc.names.lookup x = some .cell ∨ sc.names.lookup x = some .free
def Loc (sc : Scope) (x : Str) : Prop := sc.names.lookup x = some .local ∨ sc.names.lookup x = some .cell
def Look (env : Env) (h : Heap) (m : Str → Option Value) (x : Str) (u : Value) : Prop :=
  (env.kindOf x = some .local ∧ m x = some u) ∨ ((env.kindOf x = some .cell ∨ env.kindOf x = some .free) ∧ ∃ c, env.cells.lookup x = some c ∧ h.IsCell c (some u))

structure Cx.Ok (X : Cx) : Prop where
  mod : Mod X.K X.mg X.base
  kind : X.env.scope.kind = .function
  glob : X.env.globals = mainGlobals
  blt : X.env.builtins = builtinsNs
  above : X.s_0.heap.objs.size ≤ X.env.locals
  inj : ∀ x y c, X.env.cells.lookup x = some c → X.env.cells.lookup y = some c → x = y
  has : ∀ x, (X.env.kindOf x = some .cell ∨ X.env.kindOf x = some .free) → ∃ c, X.env.cells.lookup x = some c
  cab : ∀ x c, X.fn x = true → X.env.cells.lookup x = some c → X.s_0.heap.objs.size ≤ c
  hd : X.calm = true → X.A.handled = none
  frames : X.A.frames = some X.stack
  stk : X.stack = X.outer ∨ (X.stack = X.env :: X.outer ∧ X.env.frame = some X.env.locals)
  exf : ∀ b ∈ X.ex, b ≠ X.env.locals ∧ ∀ x c, X.env.cells.lookup x = some c → c ≠ b
  bs : ∀ b o, X.base.get? b = some o → X.s_0.heap.get? b = some o ∧ X.H_0 b = none
  bsz : X.base.objs.size ≤ X.s_0.heap.objs.size
  noex : ∀ b o, X.base.get? b = some o → b ∉ X.ex
  exfs : ∀ b ∈ X.ex, b ∉ X.fs
  funs : X.s_0.heap.FunFrames X.base X.outer
  frf : ∀ b ∈ X.fs, X.H_0 b = none

structure Inv (X : Cx) (pins : List (Addr × Obj)) (σ : List (Option V)) (H : Hp) (s : Shared) : Prop where
  ok : X.Ok
  os : s.os = X.s_0.os
  bare : AllBare s.gens
  base : Un X.fs X.ex X.H_0 H X.s_0.heap s.heap
  loc : ∃ m, s.heap.Ns X.env.locals m ∧ ∀ (i : Nat) (x : Str) (v : V), X.N[i]? = some x → σ[i]? = some (some v) → Vis X.env.scope x → ∃ u, RelV v u ∧ Look X.env s.heap m x u
  cell : ∀ x c, X.env.cells.lookup x = some c → ∃ v, s.heap.IsCell c v
  free : H X.env.locals = none
  freeC : ∀ x c, X.env.cells.lookup x = some c → H c = none
  pin : ∀ p ∈ X.pn ++ pins, s.heap.get? p.1 = some p.2 ∧ H p.1 = none ∧ p.1 ≠ X.env.locals ∧ p.1 ∉ X.fs ∧ ∀ v, p.2.data ≠ .cell v
  hok : HOk X.prog X.w H s.heap
  len : σ.length = X.N.length

section
variable {X : Cx} {pins : List (Addr × Obj)} {σ : List (Option V)} {H H' : Hp} {s : Shared} {h' : Heap}

theorem Cx.Ok.nofr (ok : X.Ok) {b : Addr} {o : Obj} (e : X.base.get? b = some o) : b ∉ X.fs := fun hb => by
  have := (ok.funs.mem hb).1
  rw [e] at this; cases this
theorem Inv.bs (I : Inv X pins σ H s) : ∀ b o, X.base.get? b = some o → s.heap.get? b = some o ∧ H b = none := fun b o e =>
  ⟨I.base.keep b o (I.ok.bs b o e).1 (I.ok.bs b o e).2 (I.ok.nofr e) (I.ok.noex b o e), I.base.free b o (I.ok.bs b o e).1 (I.ok.bs b o e).2 (I.ok.noex b o e)⟩
theorem Inv.bk (I : Inv X pins σ H s) : ∀ b o, X.base.get? b = some o → s.heap.get? b = some o := fun b o e => (I.bs b o e).1
theorem Inv.mod (I : Inv X pins σ H s) : Mod X.K X.mg X.base := I.ok.mod
theorem Inv.kIn (I : Inv X pins σ H s) : X.K.In s.heap := I.ok.mod.kin.keeps I.bk
theorem Inv.nolimit (I : Inv X pins σ H s) : s.heap.NoLimit := I.ok.mod.nolimit.keeps I.bk
/-- the frame over the base: for OpenK's rules (K.In X.base is I.mod.kin) -/
theorem Inv.fr (I : Inv X pins σ H s) : ∃ m, Fr X.base X.env.locals s.heap m :=
  let ⟨m, hn, _⟩ := I.loc
  ⟨m, hn, I.bk, Nat.le_trans I.ok.bsz I.ok.above⟩
theorem Inv.lt (I : Inv X pins σ H s) : X.env.locals < s.heap.objs.size := let ⟨_, hn, _⟩ := I.loc; hn.lt
theorem Inv.sz (I : Inv X pins σ H s) : X.s_0.heap.objs.size ≤ s.heap.objs.size := Nat.le_trans I.ok.above (Nat.le_of_lt I.lt)
theorem Inv.nofs (I : Inv X pins σ H s) {a : Addr} (h : s.heap.objs.size ≤ a) : a ∉ X.fs := fun hb => by
  obtain ⟨_, o, ho, _⟩ := I.ok.funs.mem hb
  exact absurd (Nat.lt_of_lt_of_le (Heap.lt_size ho) (Nat.le_trans I.sz h)) (Nat.lt_irrefl _)
theorem Inv.cne (I : Inv X pins σ H s) : ∀ x c, X.env.cells.lookup x = some c → c ≠ X.env.locals := fun x c e z => by
  obtain ⟨v, o, ho, hd⟩ := I.cell x c e
  obtain ⟨m, ⟨o', es, ep, ho', hd', _⟩, _⟩ := I.loc
  rw [z, ho'] at ho; cases ho; rw [hd'] at hd; cases hd
theorem Inv.funs (I : Inv X pins σ H s) : s.heap.FunFrames X.base X.outer := by
  have all : ∀ (l : List Env), (∀ b ∈ frs l, b ∈ X.fs) → X.s_0.heap.FunFrames X.base l → s.heap.FunFrames X.base l := by
    intro l
    induction l with
    | nil => intro _ _; trivial
    | cons env r ih =>
      intro hs hl
      obtain ⟨hk, ⟨L, o, hf, hn, ho, hd⟩, hr⟩ := hl
      have hL : L ∈ X.fs := hs L (by unfold frs; rw [List.filterMap_cons, hf]; exact List.mem_cons_self)
      obtain ⟨sl, e⟩ := I.base.slot L o ho (I.ok.frf L hL) hL fun z => I.ok.exfs L z hL
      exact ⟨hk, ⟨L, _, hf, hn, e, hd⟩, ih (fun b hb => hs b (by unfold frs; rw [List.filterMap_cons, hf]; exact List.mem_cons_of_mem _ hb)) hr⟩
  exact all X.outer (fun _ hb => hb) I.ok.funs

/-- the frames that run, for a call -/
theorem Inv.stack (I : Inv X pins σ H s) : s.heap.FunFrames X.base X.stack := by
  rcases I.ok.stk with e | ⟨e, hf⟩
  · rw [e]; exact I.funs
  · rw [e]
    obtain ⟨m, hn, _⟩ := I.loc
    refine .cons (by rw [I.ok.kind]; decide) hf hn ?_ I.funs
    exact Heap.get?_none_of_le (Nat.le_trans I.ok.bsz I.ok.above)
theorem Inv.stkSub (I : Inv X pins σ H s) : ∀ b ∈ frs X.stack, b ∈ X.env.locals :: X.fs := fun b hb => by
  rcases I.ok.stk with e | ⟨e, hf⟩
  · rw [e] at hb; exact List.mem_cons_of_mem _ hb
  · rw [e] at hb
    unfold frs at hb
    rw [List.filterMap_cons, hf] at hb
    exact hb
theorem Inv.stkFree (I : Inv X pins σ H s) : ∀ b ∈ frs X.stack, H b = none := fun b hb => by
  rcases List.mem_cons.mp (I.stkSub b hb) with e | hb
  · rw [e]; exact I.free
  · obtain ⟨_, o, ho, _⟩ := I.ok.funs.mem hb
    exact I.base.free b o ho (I.ok.frf b hb) fun z => I.ok.exfs b z hb

/-- THE STEP: the untracked objects but the frame and the records at ch are kept (the callers' frames up to slots), the frame's map is kept, the new abstract heap is held -/
theorem Inv.step {g' : Array GenState} {t' : Nat} {d' : Drawn} {ch : List Addr} (I : Inv X pins σ H s)
    (hch : ∀ b ∈ ch, (b ∈ X.ex ∨ X.s_0.heap.objs.size ≤ b) ∧ b ≠ X.env.locals ∧ (∀ x c, X.env.cells.lookup x = some c → c ≠ b) ∧ ∀ p ∈ X.pn ++ pins, p.1 ≠ b)
    (keep : ∀ b o, b ≠ X.env.locals → b ∉ X.fs → b ∉ ch → s.heap.get? b = some o → H b = none → h'.get? b = some o)
    (slot : ∀ b o, b ≠ X.env.locals → b ∈ X.fs → b ∉ ch → s.heap.get? b = some o → H b = none → ∃ sl, h'.get? b = some { o with slots := sl }) (free : ∀ b o, b ∉ ch → s.heap.get? b = some o → H b = none → H' b = none)
    (there : ∀ b o, b ∉ ch → s.heap.get? b = some o → ∃ o', h'.get? b = some o')
    (tups : ∀ b xs, H b = some (.tup xs) → H' b = some (.tup xs)) (frzs : ∀ b o u, H b = some (.frz o u) → H' b = some (.frz o u)) (tbls : ∀ b ps, H b = some (.tbl ps) → ∃ more, H' b = some (.tbl (ps ++ more)))
    (ns : ∀ m, s.heap.Ns X.env.locals m → h'.Ns X.env.locals m) (hok : HOk X.prog X.w H' h') (hg : AllBare g') :
    Inv X pins σ H' { s with heap := h', gens := g', drawn := d', toks := t' } := by
  have neL : ∀ b o, X.s_0.heap.get? b = some o → b ≠ X.env.locals := fun b o e => Nat.ne_of_lt (Nat.lt_of_lt_of_le (Heap.lt_size e) I.ok.above)
  have neC : ∀ b o, X.s_0.heap.get? b = some o → b ∉ X.ex → b ∉ ch := fun b o e hx hb => by
    rcases (hch b hb).1 with z | z
    · exact hx z
    · exact absurd (Nat.lt_of_lt_of_le (Heap.lt_size e) z) (Nat.lt_irrefl _)
  have cellK : ∀ x c, X.env.cells.lookup x = some c → ∀ v, s.heap.IsCell c v → h'.IsCell c v := fun x c e v ⟨o, ho, hd⟩ => by
    have nch : c ∉ ch := fun z => (hch c z).2.2.1 x c e rfl
    by_cases hc : c ∈ X.fs
    · obtain ⟨sl, q⟩ := slot c o (I.cne x c e) hc nch ho (I.freeC x c e)
      exact ⟨_, q, hd⟩
    · exact ⟨o, keep c o (I.cne x c e) hc nch ho (I.freeC x c e), hd⟩
  refine ⟨I.ok, I.os, hg, ⟨fun b o e n hb hx => ?_, fun b o e n hb hx => ?_, fun b o e n hx => ?_, fun b o e hx => ?_, fun b xs e => tups b xs (I.base.tups b xs e), fun b o xs e => frzs b o xs (I.base.frzs b o xs e), fun b ps e => ?_⟩, ?_, fun x c e => ?_, ?_, fun x c e => ?_, fun p hp => ?_, hok, I.len⟩
  · exact keep b o (neL b o e) hb (neC b o e hx) (I.base.keep b o e n hb hx) (I.base.free b o e n hx)
  · obtain ⟨sl, e1⟩ := I.base.slot b o e n hb hx
    obtain ⟨sl', e2⟩ := slot b _ (neL b o e) hb (neC b o e hx) e1 (I.base.free b o e n hx)
    exact ⟨sl', e2⟩
  · obtain ⟨o', e1⟩ := I.base.there b o e hx
    exact free b o' (neC b o e hx) e1 (I.base.free b o e n hx)
  · obtain ⟨o', e1⟩ := I.base.there b o e hx
    exact there b o' (neC b o e hx) e1
  · obtain ⟨m1, e1⟩ := I.base.tbls b ps e
    obtain ⟨m2, e2⟩ := tbls b _ e1
    exact ⟨m1 ++ m2, by rw [e2, Array.append_assoc]⟩
  · obtain ⟨m, hn, hl⟩ := I.loc
    refine ⟨m, ns m hn, fun i x v e1 e2 e3 => ?_⟩
    obtain ⟨u, r, l⟩ := hl i x v e1 e2 e3
    refine ⟨u, r, ?_⟩
    rcases l with l | ⟨k, c, e, z⟩
    · exact .inl l
    · exact .inr ⟨k, c, e, cellK x c e _ z⟩
  · obtain ⟨v, z⟩ := I.cell x c e
    exact ⟨v, cellK x c e v z⟩
  · obtain ⟨m, ⟨o, _, _, ho, _⟩, _⟩ := I.loc
    exact free _ o (fun z => (hch _ z).2.1 rfl) ho I.free
  · obtain ⟨v, o, ho, hd⟩ := I.cell x c e
    exact free c o (fun z => (hch c z).2.2.1 x c e rfl) ho (I.freeC x c e)
  · obtain ⟨e, n, ne, nf, d⟩ := I.pin p hp
    have nch : p.1 ∉ ch := fun z => (hch p.1 z).2.2.2 p hp rfl
    exact ⟨keep p.1 p.2 ne nf nch e n, free p.1 p.2 nch e n, ne, nf, d⟩
/-- .. where the frame's own object is kept too -/
theorem Inv.un {t' : Nat} (I : Inv X pins σ H s) (u : Un X.fs [] H H' s.heap h') (hok : HOk X.prog X.w H' h') : Inv X pins σ H' { s with heap := h', toks := t' } := by
  obtain ⟨m, ⟨o, es, ep, ho, r⟩, _⟩ := id I.loc
  obtain ⟨sl, hL⟩ := u.any ho I.free (by simp)
  exact I.step (g' := s.gens) (d' := s.drawn) (ch := []) (fun _ z => nomatch z) (fun b o _ hb _ e n => u.keep b o e n hb (by simp)) (fun b o _ hb _ e n => u.slot b o e n hb (by simp)) (fun b o _ e n => u.free b o e n (by simp)) (fun b o _ e => u.there b o e (by simp)) u.tups u.frzs u.tbls (fun m' hm => by
    obtain ⟨o', es', ep', ho', r'⟩ := hm
    rw [ho] at ho'; cases ho'
    exact ⟨_, es', ep', hL, r'⟩) hok I.bare
/-- behind a call (or a comprehension's block): the slots of this frame may have changed too, the records at ch may have turned -/
theorem Inv.call {g' : Array GenState} {t' : Nat} {d' : Drawn} {ch : List Addr} (I : Inv X pins σ H s) (u : Un (frs X.stack) ch H H' s.heap h') (hok : HOk X.prog X.w H' h') (hg : AllBare g')
    (hch : ∀ b ∈ ch, (b ∈ X.ex ∨ X.s_0.heap.objs.size ≤ b) ∧ b ≠ X.env.locals ∧ (∀ x c, X.env.cells.lookup x = some c → c ≠ b) ∧ ∀ p ∈ X.pn ++ pins, p.1 ≠ b) :
    Inv X pins σ H' { s with heap := h', gens := g', drawn := d', toks := t' } := by
  obtain ⟨m, ⟨o, es, ep, ho, r⟩, _⟩ := id I.loc
  obtain ⟨sl, hL⟩ := u.any ho I.free fun z => (hch _ z).2.1 rfl
  exact I.step (ch := ch) hch (fun b o hL hb hc e n => u.keep b o e n (fun z => (List.mem_cons.mp (I.stkSub b z)).elim hL hb) hc) (fun b o _ _ hc e n => u.any e n hc) (fun b o hc e n => u.free b o e n hc) (fun b o hc e => u.there b o e hc) u.tups u.frzs u.tbls (fun m' hm => by
    obtain ⟨o', es', ep', ho', r'⟩ := hm
    rw [ho] at ho'; cases ho'
    exact ⟨_, es', ep', hL, r'⟩) hok hg
/-- an untracked record of ours (an iterator) has turned -/
theorem Inv.turned {t' : Nat} {it : Addr} (I : Inv X pins σ H s) (k : ∀ b o, b ≠ it → s.heap.get? b = some o → h'.get? b = some o) (hn : H it = none) (hL : it ≠ X.env.locals)
    (h1 : it ∈ X.ex ∨ X.s_0.heap.objs.size ≤ it) (h2 : ∀ x c, X.env.cells.lookup x = some c → c ≠ it) (h3 : ∀ p ∈ X.pn ++ pins, p.1 ≠ it) : Inv X pins σ H { s with heap := h', toks := t' } := by
  have nit : ∀ b u, H b = some u → b ≠ it := fun b u e z => by rw [z, hn] at e; cases e
  refine I.step (g' := s.gens) (d' := s.drawn) (ch := [it]) (fun b hb => ?_) (fun b o _ _ hc e _ => k b o (fun z => hc (by simp [z])) e) (fun b o _ _ hc e _ => ⟨o.slots, k b o (fun z => hc (by simp [z])) e⟩) (fun _ _ _ _ n => n)
    (fun b o hc e => ⟨o, k b o (fun z => hc (by simp [z])) e⟩) (fun _ _ e => e) (fun _ _ _ e => e) (fun b ps e => ⟨#[], by rw [e]; simp⟩) (fun m hm => ?_) (fun b u e => ?_) I.bare
  · have e : b = it := by simpa using hb
    subst e
    exact ⟨h1, hL, h2, h3⟩
  · obtain ⟨o, es, ep, ho, r⟩ := hm
    exact ⟨o, es, ep, k _ o (Ne.symm hL) ho, r⟩
  · refine (I.hok b u e).stay (fun c v hc q => k c v ?_ q) (fun _ q => q) fun _ _ q => q
    rcases hc with z | z
    · rw [z]; exact nit b u e
    · exact nit c _ z
theorem Inv.tok (I : Inv X pins σ H s) (t : Nat) : Inv X pins σ H { s with toks := t } := I.un (h' := s.heap) (t' := t) Un.refl I.hok
/-- all objects kept -/
theorem Inv.kept {t' : Nat} (I : Inv X pins σ H s) (k : ∀ b u, s.heap.get? b = some u → h'.get? b = some u) : Inv X pins σ H { s with heap := h', toks := t' } := I.un (Un.kept k) (I.hok.kept k)
/-- a new object laid and tracked -/
theorem Inv.laid {a : Addr} {o : HO} {t' : Nat} (I : Inv X pins σ H s) (k : ∀ b u, s.heap.get? b = some u → h'.get? b = some u) (hp : s.heap.objs.size ≤ a) (new : ObjOk X.prog X.w (upd H a o) h' a o) :
    Inv X pins σ (upd H a o) { s with heap := h', toks := t' } := I.un (Un.laid k hp (I.hok.fresh hp)) (I.hok.laid k hp new)
/-- an object written -/
theorem Inv.write {x e : Addr} {o : HO} {t' : Nat} (I : Inv X pins σ H s) (mu : Mut (H x)) (he : e = x ∨ H e = some (.own x)) (k : ∀ b u, b ≠ e → s.heap.get? b = some u → h'.get? b = some u) (heo : ∃ u, h'.get? e = some u)
    (new : ObjOk X.prog X.w (upd H x o) h' x o) : Inv X pins σ (upd H x o) { s with heap := h', toks := t' } := I.un (Un.write mu he k heo) (I.hok.write mu he k heo new)
/-- forgetting slots, pins -/
theorem Inv.weak {σ' : List (Option V)} (I : Inv X pins σ H s) (hl : σ'.length = σ.length) (w : ∀ (i : Nat) v, σ'[i]? = some (some v) → σ[i]? = some (some v)) : Inv X pins σ' H s :=
  ⟨I.ok, I.os, I.bare, I.base, let ⟨m, hn, hl'⟩ := I.loc; ⟨m, hn, fun i x v e1 e2 e3 => hl' i x v e1 (w i v e2) e3⟩, I.cell, I.free, I.freeC, I.pin, I.hok, hl.trans I.len⟩
theorem Inv.pins_of {pins' : List (Addr × Obj)} (I : Inv X pins σ H s) (h : ∀ p ∈ pins', s.heap.get? p.1 = some p.2 ∧ H p.1 = none ∧ p.1 ≠ X.env.locals ∧ p.1 ∉ X.fs ∧ ∀ v, p.2.data ≠ .cell v) : Inv X pins' σ H s :=
  ⟨I.ok, I.os, I.bare, I.base, I.loc, I.cell, I.free, I.freeC, fun p hp => (List.mem_append.mp hp).elim (fun z => I.pin p (List.mem_append_left _ z)) (h p), I.hok, I.len⟩

theorem nodup_ix {N : List Str} (hN : N.Nodup) {i j : Nat} {x : Str} (a : N[i]? = some x) (b : N[j]? = some x) : i = j := by
  obtain ⟨h1, e1⟩ := List.getElem?_eq_some_iff.mp a
  obtain ⟨h2, e2⟩ := List.getElem?_eq_some_iff.mp b
  exact (List.getElem_inj hN).mp (e1.trans e2.symm)

/-- a name is stored; what changed -/
theorem store_ok2 {M : Model} {A : Around} {E : Value → Shared → Prop} {i : Nat} {x : Str} {v : V} {u : Value} {Q : Unit → Shared → Prop} (I : Inv X pins σ H s) (hN : X.N.Nodup) (hi : X.N[i]? = some x) (hx : Loc X.env.scope x) (r : RelV v u)
    (h : ∀ s', Inv X pins (σ.set i (some v)) H s' → (∃ a, Heap.SameBut a s.heap s'.heap ∧ (a = X.env.locals ∨ X.env.cells.lookup x = some a)) → Q () s') (hf : X.fn x = true ∨ X.env.scope.names.lookup x = some .local := by first | exact .inl rfl | exact .inr rfl | assumption) : wpAny M A (storeName X.env x u) Q E s := by
  obtain ⟨m, hn, hl⟩ := id I.loc
  have hcls : (X.env.scope.kind == .class || (X.env.scope.kind == .module && X.env.locals != X.env.globals)) = false := by rw [I.ok.kind]; rfl
  have hiσ : i < σ.length := by rw [I.len]; exact (List.getElem?_eq_some_iff.mp hi).1
  have cne := I.cne
  have tracked : ∀ {a : Addr} {h' : Heap}, (∃ o, s.heap.get? a = some o ∧ H a = none) → Heap.SameBut a s.heap h' → HOk X.prog X.w H h' := fun {a h'} ha hs b ob e => by
    obtain ⟨_, _, hfree⟩ := ha
    refine (I.hok b ob e).stay (fun c w' hc q => (hs.2 c ?_).trans q) (fun _ q => q) fun _ _ q => q
    rintro rfl
    rcases hc with rfl | hc
    · rw [hfree] at e; cases e
    · rw [hfree] at hc; cases hc
  rcases hx with hk | hk
  · refine wpAny_storeName_local hk hn (fun h' hn' hs => ?_) hcls
    obtain ⟨oL, _, _, hoL, _⟩ := id hn
    refine h _ ⟨I.ok, I.os, I.bare, ⟨fun b o e n hb hx => ?_, fun b o e n hb hx => ?_, I.base.free, fun b o e hx => ?_, I.base.tups, I.base.frzs, I.base.tbls⟩, ⟨_, hn', fun j y v' e1 e2 e3 => ?_⟩, fun y c e => ?_, I.free, I.freeC, fun p hp => ?_, tracked ⟨oL, hoL, I.free⟩ hs, by simpa using I.len⟩ ⟨_, hs, .inl rfl⟩
    · exact (hs.2 b (Nat.ne_of_lt (Nat.lt_of_lt_of_le (Heap.lt_size e) I.ok.above))).trans (I.base.keep b o e n hb hx)
    · obtain ⟨sl, e1⟩ := I.base.slot b o e n hb hx
      exact ⟨sl, (hs.2 b (Nat.ne_of_lt (Nat.lt_of_lt_of_le (Heap.lt_size e) I.ok.above))).trans e1⟩
    · obtain ⟨o', e1⟩ := I.base.there b o e hx
      exact ⟨o', (hs.2 b (Nat.ne_of_lt (Nat.lt_of_lt_of_le (Heap.lt_size e) I.ok.above))).trans e1⟩
    · by_cases hj : j = i
      · subst hj
        rw [hi] at e1; cases e1
        rw [List.getElem?_set_self hiσ] at e2
        cases e2
        exact ⟨u, r, .inl ⟨hk, by simp⟩⟩
      · rw [List.getElem?_set_ne (Ne.symm hj)] at e2
        obtain ⟨u', r', q⟩ := hl j y v' e1 e2 e3
        refine ⟨u', r', ?_⟩
        rcases q with ⟨k, e⟩ | ⟨k, c, e, z⟩
        · refine .inl ⟨k, ?_⟩
          have : y ≠ x := fun e => hj (nodup_ix hN e1 (e ▸ hi))
          simp [this, e]
        · exact .inr ⟨k, c, e, z.sameBut hs (cne y c e)⟩
    · obtain ⟨w', z⟩ := I.cell y c e
      exact ⟨w', z.sameBut hs (cne y c e)⟩
    · obtain ⟨e, n, ne, nf, d⟩ := I.pin p hp
      exact ⟨(hs.2 p.1 ne).trans e, n, ne, nf, d⟩
  · have hfn : X.fn x = true := by
      rcases hf with z | z
      · exact z
      · rw [z] at hk; cases hk
    obtain ⟨c, hc⟩ := I.ok.has x (.inl hk)
    obtain ⟨w', z⟩ := I.cell x c hc
    refine wpAny_storeName_cell I.ok.kind hk hc z (fun h' hc' hs => ?_)
    obtain ⟨oc, hoc, hocd⟩ := id z
    refine h { s with heap := h' } ⟨I.ok, I.os, I.bare, ⟨fun b o e n hb hx => ?_, fun b o e n hb hx => ?_, I.base.free, fun b o e hx => ?_, I.base.tups, I.base.frzs, I.base.tbls⟩, ⟨m, hn.sameBut hs (Ne.symm (cne x c hc)), fun j y v' e1 e2 e3 => ?_⟩, fun y c' e => ?_, I.free, I.freeC, fun p hp => ?_, tracked ⟨oc, hoc, I.freeC x c hc⟩ hs, by simpa using I.len⟩ ⟨c, hs, .inr hc⟩
    · exact (hs.2 b (Nat.ne_of_lt (Nat.lt_of_lt_of_le (Heap.lt_size e) (I.ok.cab x c hfn hc)))).trans (I.base.keep b o e n hb hx)
    · obtain ⟨sl, e1⟩ := I.base.slot b o e n hb hx
      exact ⟨sl, (hs.2 b (Nat.ne_of_lt (Nat.lt_of_lt_of_le (Heap.lt_size e) (I.ok.cab x c hfn hc)))).trans e1⟩
    · obtain ⟨o', e1⟩ := I.base.there b o e hx
      exact ⟨o', (hs.2 b (Nat.ne_of_lt (Nat.lt_of_lt_of_le (Heap.lt_size e) (I.ok.cab x c hfn hc)))).trans e1⟩
    · by_cases hj : j = i
      · subst hj
        rw [hi] at e1; cases e1
        rw [List.getElem?_set_self hiσ] at e2
        cases e2
        exact ⟨u, r, .inr ⟨.inl hk, c, hc, hc'⟩⟩
      · rw [List.getElem?_set_ne (Ne.symm hj)] at e2
        obtain ⟨u', r', q⟩ := hl j y v' e1 e2 e3
        refine ⟨u', r', ?_⟩
        rcases q with q | ⟨k, c', e, z'⟩
        · exact .inl q
        · refine .inr ⟨k, c', e, z'.sameBut hs ?_⟩
          rintro rfl
          exact hj (nodup_ix hN e1 (I.ok.inj _ _ _ e hc ▸ hi))
    · by_cases hcc : c' = c
      · subst hcc; exact ⟨_, hc'⟩
      · obtain ⟨w2, z2⟩ := I.cell y c' e
        exact ⟨w2, z2.sameBut hs hcc⟩
    · obtain ⟨e, n, ne, nf, d⟩ := I.pin p hp
      refine ⟨(hs.2 p.1 ?_).trans e, n, ne, nf, d⟩
      intro q
      rw [q, hoc] at e
      have q' : oc = p.2 := Option.some.inj e
      exact d w' (by rw [← q']; exact hocd)
theorem store_ok {M : Model} {A : Around} {E : Value → Shared → Prop} {i : Nat} {x : Str} {v : V} {u : Value} {Q : Unit → Shared → Prop} (I : Inv X pins σ H s) (hN : X.N.Nodup) (hi : X.N[i]? = some x) (hx : Loc X.env.scope x) (r : RelV v u)
    (h : ∀ s', Inv X pins (σ.set i (some v)) H s' → Q () s') (hf : X.fn x = true ∨ X.env.scope.names.lookup x = some .local := by first | exact .inl rfl | exact .inr rfl | assumption) : wpAny M A (storeName X.env x u) Q E s :=
  store_ok2 I hN hi hx r (fun s' I' _ => h s' I') hf
/-- behind a call or a block, the state as it is -/
theorem Inv.call' {s' : Shared} {ch : List Addr} (I : Inv X pins σ H s) (ho : s'.os = s.os) (u : Un (frs X.stack) ch H H' s.heap s'.heap) (hok : HOk X.prog X.w H' s'.heap) (hg : AllBare s'.gens)
    (hch : ∀ b ∈ ch, (b ∈ X.ex ∨ X.s_0.heap.objs.size ≤ b) ∧ b ≠ X.env.locals ∧ (∀ x c, X.env.cells.lookup x = some c → c ≠ b) ∧ ∀ p ∈ X.pn ++ pins, p.1 ≠ b) : Inv X pins σ H' s' := by
  obtain ⟨h', g', d', t', o'⟩ := s'
  have e : o' = s.os := ho
  subst e
  exact I.call (g' := g') (t' := t') (d' := d') u hok hg hch
end

/-! ### the judgements -/
/-- an exception: its class, its own dict's address (where it has one), the abstract heap behind it -/
abbrev XK := Value → Option Addr → Hp → Prop
abbrev St := List (Option V)
abbrev VK := V → Hp → Prop
/-- an expression's reading; a test's; an argument list's -/
abbrev TE := St → Hp → VK → Prop
abbrev TT := St → Hp → (Bool → Hp → Prop) → Prop
abbrev TA := St → Hp → (List V → Hp → Prop) → Prop
/-- what is wanted behind a statement -/
structure Ends where
  nx : St → Hp → Prop
  rt : VK
  bk : St → Hp → Prop := fun _ _ => False
  ct : St → Hp → Prop := fun _ _ => False
abbrev TS := Ends → St → Hp → Prop

def EP (X : Cx) (pins : List (Addr × Obj)) (σ : St) (Q : VK) (u : Value) (s' : Shared) : Prop := ∃ v H', Inv X pins σ H' s' ∧ RelV v u ∧ Q v H'
def TP (X : Cx) (pins : List (Addr × Obj)) (σ : St) (Q : Bool → Hp → Prop) (b : Bool) (s' : Shared) : Prop := ∃ H', Inv X pins σ H' s' ∧ Q b H'
def AP (X : Cx) (pins : List (Addr × Obj)) (σ : St) (Q : List V → Hp → Prop) (us : List Value) (s' : Shared) : Prop := ∃ vs H', Inv X pins σ H' s' ∧ Vals vs us ∧ Q vs H'
def SP (X : Cx) (pins : List (Addr × Obj)) (D : Ends) (f : Flow) (s' : Shared) : Prop :=
  match f with
  | .next => ∃ σ' H', Inv X pins σ' H' s' ∧ D.nx σ' H'
  | .brk => ∃ σ' H', Inv X pins σ' H' s' ∧ D.bk σ' H'
  | .cont => ∃ σ' H', Inv X pins σ' H' s' ∧ D.ct σ' H'
  | .ret u => ∃ v σ' H', Inv X pins σ' H' s' ∧ RelV v u ∧ D.rt v H'

def PE (X : Cx) (e : Expr) (t : TE) : Prop :=
  ∀ (pins : List (Addr × Obj)) (s : Shared) (σ : St) (H : Hp) (Q : VK), Inv X pins σ H s → t σ H Q → wpAny (model X.prog X.w) X.A (eval e X.env) (EP X pins σ Q) X.xe s
def PT (X : Cx) (e : Expr) (t : TT) : Prop :=
  ∀ (pins : List (Addr × Obj)) (s : Shared) (σ : St) (H : Hp) (Q : Bool → Hp → Prop), Inv X pins σ H s → t σ H Q → wpAny (model X.prog X.w) X.A (isTrue e X.env (eval e X.env)) (TP X pins σ Q) X.xe s
/-- a test whatever its 'whole' is (and, or) -/
def PW (X : Cx) (e : Expr) (t : TT) : Prop :=
  ∀ (whole : Sem Value) (pins : List (Addr × Obj)) (s : Shared) (σ : St) (H : Hp) (Q : Bool → Hp → Prop), Inv X pins σ H s → t σ H Q → wpAny (model X.prog X.w) X.A (isTrue e X.env whole) (TP X pins σ Q) X.xe s
theorem PW.pt {X : Cx} {e : Expr} {t : TT} (h : PW X e t) : PT X e t := h _
/-- an argument list (no star), from the left -/
def PA (X : Cx) (es : List Expr) (t : TA) : Prop :=
  ∀ (pos : Pos) (pins : List (Addr × Obj)) (s : Shared) (σ : St) (H : Hp) (Q : List V → Hp → Prop), Inv X pins σ H s → t σ H Q → wpAny (model X.prog X.w) X.A (spliced (backTo pos (starEach es X.env))) (AP X pins σ Q) X.xe s
def PS (X : Cx) (st : Stmt) (t : TS) : Prop :=
  ∀ (pins : List (Addr × Obj)) (s : Shared) (σ : St) (H : Hp) (D : Ends), Inv X pins σ H s → t D σ H → wpAny (model X.prog X.w) X.A (exec st X.env) (SP X pins D) X.xe s
def PSs (X : Cx) (st : List Stmt) (t : TS) : Prop :=
  ∀ (pins : List (Addr × Obj)) (s : Shared) (σ : St) (H : Hp) (D : Ends), Inv X pins σ H s → t D σ H → wpAny (model X.prog X.w) X.A (execs st X.env) (SP X pins D) X.xe s
/-- weaken the end -/
theorem thn {α : Type} {t : Sem α} {Q Q' : α → Shared → Prop} {M : Model} {A : Around} {E : Value → Shared → Prop} {s : Shared} (h : wpAny M A t Q E s) (hQ : ∀ a s, Q a s → Q' a s) : wpAny M A t Q' E s := wpAny_mono h hQ fun _ _ x => x
end L2

namespace L2
open PySem PySem.Spec PyProof.Rows
section
variable {X : Cx}

/-- two expressions in a row -/
theorem bin {a b : Expr} {ta tb : TE} (ha : PE X a ta) (hb : PE X b tb) {pins : List (Addr × Obj)} {s : Shared} {σ : St} {H : Hp} {R : V → V → Hp → Prop} (I : Inv X pins σ H s) (h : ta σ H fun x H1 => tb σ H1 fun y H2 => R x y H2)
    {α : Type} {Q : α → Shared → Prop} {f : Value → Value → Sem α}
    (hf : ∀ v u s2 x y H2, Inv X pins σ H2 s2 → RelV x v → RelV y u → R x y H2 → wpAny (model X.prog X.w) X.A (f v u) Q X.xe s2) :
    wpAny (model X.prog X.w) X.A (eval a X.env) (fun v s₁ => wpAny (model X.prog X.w) X.A (eval b X.env) (fun u s₂ => wpAny (model X.prog X.w) X.A (f v u) Q X.xe s₂) X.xe s₁) X.xe s := by
  refine thn (ha pins s σ H _ I h) fun v s1 ⟨x, H1, I1, r1, q1⟩ => ?_
  refine thn (hb pins s1 σ H1 _ I1 q1) fun u s2 ⟨y, H2, I2, r2, q2⟩ => ?_
  exact hf v u s2 x y H2 I2 r1 r2 q2

/-! ### names and constants -/
def tVar (i : Nat) : TE := fun σ H Q => ∃ v, σ[i]? = some (some v) ∧ Q v H
def tC (v : V) : TE := fun _ H Q => Q v H
theorem pe_var {i : Nat} {x : Str} {pos : Pos} (hN : X.N[i]? = some x) (hv : Vis X.env.scope x) (hd : (x == ("__debug__" : Str)) = false := by decide) (hcd : (x == ("__classdict__" : Str)) = false := by decide) : PE X (.Name x pos) (tVar i) := by
  intro pins s σ H Q I h
  obtain ⟨v, e, h⟩ := h
  obtain ⟨m, hn, hl⟩ := I.loc
  obtain ⟨u, r, l⟩ := hl i x v hN e hv
  have fin : EP X pins σ Q u s := ⟨v, H, I, r, h⟩
  rcases l with ⟨hk, hm⟩ | ⟨hk, c, hc, hcell⟩
  · exact wpAny_Name (wpAny_loadName_local I.ok.kind hk hn hm fin) hd
  · rcases hk with hk | hk
    · exact wpAny_Name (wpAny_loadName_cell I.ok.kind hk hc hcell fin) hd
    · exact wpAny_Name (wpAny_loadName_free I.ok.kind hk hc hcell fin hcd) hd
theorem pe_int {i j pos} : PE X (.Constant (.int i) j pos) (tC (.int i)) := fun _ _ _ H _ I h => wpAny_Constant_int ⟨.int i, H, I.tok _, ⟨_, rfl⟩, h⟩
theorem pe_bl {b j pos} : PE X (.Constant (.bool b) j pos) (tC (.bl b)) := fun _ _ _ H _ I h => Constant_bool ⟨.bl b, H, I, rfl, h⟩
theorem pe_non {j pos} : PE X (.Constant .none j pos) (tC .non) := fun _ _ _ H _ I h => Constant_none ⟨.non, H, I, rfl, h⟩
theorem pe_str {x j pos} : PE X (.Constant (.str x) j pos) (tC (.str x)) := fun _ _ _ H _ I h => Calls.Constant_str ⟨.str x, H, I.tok _, ⟨_, rfl⟩, h⟩

/-- a global name of the def -/
def Gl (X : Cx) (x : Str) : Prop := X.env.kindOf x = some .globalImplicit
theorem ld_glob {E : Value → Shared → Prop} {pins : List (Addr × Obj)} {s : Shared} {σ : St} {H : Hp} {x : Str} {u : Value} {pos : Pos} {Q : Value → Shared → Prop} (I : Inv X pins σ H s) (hg : Gl X x) (hm : X.mg x = some u) (h : Q u s)
    (hd : (x == ("__debug__" : Str)) = false := by decide) : wpAny (model X.prog X.w) X.A (eval (.Name x pos) X.env) Q E s :=
  Calls.Name_function_global I.ok.kind hg (Calls.loadGlobal_global (by rw [I.ok.glob]; exact I.mod.glob.keeps I.bk) hm h) hd
theorem ld_blt {E : Value → Shared → Prop} {pins : List (Addr × Obj)} {s : Shared} {σ : St} {H : Hp} {x : Str} {u : Value} {pos : Pos} {Q : Value → Shared → Prop} (I : Inv X pins σ H s) (hg : Gl X x) (hm : X.mg x = none) (hv : bootBuiltins x = some u) (h : Q u s)
    (hn : x ≠ "__name__" := by decide) (hd : (x == ("__debug__" : Str)) = false := by decide) : wpAny (model X.prog X.w) X.A (eval (.Name x pos) X.env) Q E s := by
  obtain ⟨mb, h1, h2⟩ := I.mod.blt
  exact Calls.Name_function_global I.ok.kind hg (Calls.loadGlobal_builtin (by rw [I.ok.glob]; exact I.mod.glob.keeps I.bk) hm (by rw [I.ok.blt]; exact h1.keeps I.bk) ((h2 x hn).trans hv) h) hd
/-- a module's constant, a class, a function, as a value -/
theorem pe_glob {x : Str} {v : V} {u : Value} {pos : Pos} (hg : Gl X x) (hm : X.mg x = some u) (r : RelV v u) (hd : (x == ("__debug__" : Str)) = false := by decide) : PE X (.Name x pos) (tC v) :=
  fun _ _ _ H _ I h => ld_glob I hg hm ⟨v, H, I, r, h⟩ hd
theorem pe_bltn {x : Str} {v : V} {u : Value} {pos : Pos} (hg : Gl X x) (hm : X.mg x = none) (hv : bootBuiltins x = some u) (r : RelV v u) (hn : x ≠ "__name__" := by decide) (hd : (x == ("__debug__" : Str)) = false := by decide) : PE X (.Name x pos) (tC v) :=
  fun _ _ _ H _ I h => ld_blt I hg hm hv ⟨v, H, I, r, h⟩ hn hd

/-! ### arithmetic -/
/-- two ints -/
def t2I (ta tb : TE) (k : Int → Int → Hp → Prop) : St → Hp → Prop := fun σ H => ta σ H fun x H1 => tb σ H1 fun y H2 => ∃ i j, x = .int i ∧ y = .int j ∧ k i j H2
def tAdd (ta tb : TE) : TE := fun σ H Q => t2I ta tb (fun i j H2 => Q (.int (i + j)) H2) σ H
def tSub (ta tb : TE) : TE := fun σ H Q => t2I ta tb (fun i j H2 => Q (.int (i - j)) H2) σ H
/-- the left factor below 2^64 -/
def tMul (ta tb : TE) : TE := fun σ H Q => t2I ta tb (fun i j H2 => (-(2 ^ 64) < i ∧ i < 2 ^ 64) ∧ Q (.int (i * j)) H2) σ H
variable {a b : Expr} {ta tb : TE} {pos : Pos}
theorem pe_add (ha : PE X a ta) (hb : PE X b tb) : PE X (.BinOp a .Add b pos) (tAdd ta tb) := by
  intro pins s σ H Q I h
  refine wpAny_BinOp (bin ha hb I h fun v u s2 x y H2 I2 rx ry q => ?_)
  obtain ⟨i, j, rfl, rfl, q⟩ := q
  obtain ⟨t, rfl⟩ := rx
  obtain ⟨t', rfl⟩ := ry
  exact add_int ⟨.int _, H2, I2.tok _, ⟨_, rfl⟩, q⟩
theorem pe_sub (ha : PE X a ta) (hb : PE X b tb) : PE X (.BinOp a .Sub b pos) (tSub ta tb) := by
  intro pins s σ H Q I h
  refine wpAny_BinOp (bin ha hb I h fun v u s2 x y H2 I2 rx ry q => ?_)
  obtain ⟨i, j, rfl, rfl, q⟩ := q
  obtain ⟨t, rfl⟩ := rx
  obtain ⟨t', rfl⟩ := ry
  exact sub_int ⟨.int _, H2, I2.tok _, ⟨_, rfl⟩, q⟩
theorem pe_mul (ha : PE X a ta) (hb : PE X b tb) : PE X (.BinOp a .Mult b pos) (tMul ta tb) := by
  intro pins s σ H Q I h
  refine wpAny_BinOp (bin ha hb I h fun v u s2 x y H2 I2 rx ry q => ?_)
  obtain ⟨i, j, rfl, rfl, ⟨q1, q2⟩, q⟩ := q
  obtain ⟨t, rfl⟩ := rx
  obtain ⟨t', rfl⟩ := ry
  exact mul_int ⟨.int _, H2, I2.tok _, ⟨_, rfl⟩, q⟩ (.of_left (intBits_le_64 q1 q2))

/-! ### comparisons -/
def PC (X : Cx) (op : CmpOp) (a b : Expr) (t : TE) : Prop :=
  ∀ (pins : List (Addr × Obj)) (s : Shared) (σ : St) (H : Hp) (Q : VK), Inv X pins σ H s → t σ H Q →
    wpAny (model X.prog X.w) X.A (eval a X.env) (fun v s₁ => wpAny (model X.prog X.w) X.A (eval b X.env) (fun u s₂ => wpAny (model X.prog X.w) X.A (compareOp op v u) (EP X pins σ Q) X.xe s₂) X.xe s₁) X.xe s
theorem nobehind (b : Expr) {op : CmpOp} (h : op ≠ .In) (h2 : op ≠ .NotIn) : behindInMarks op b = false := by
  have e1 : (op == CmpOp.In) = false := by cases op <;> first | rfl | exact absurd rfl h
  have e2 : (op == CmpOp.NotIn) = false := by cases op <;> first | rfl | exact absurd rfl h2
  cases b <;> simp [behindInMarks, e1, e2]
def tCmp (p : Int → Int → Bool) (ta tb : TE) : TE := fun σ H Q => t2I ta tb (fun i j H2 => Q (.bl (p i j)) H2) σ H
abbrev tLt : TE → TE → TE := tCmp fun i j => decide (i < j)
abbrev tLe : TE → TE → TE := tCmp fun i j => decide (i ≤ j)
abbrev tGt : TE → TE → TE := tCmp fun i j => decide (j < i)
abbrev tGe : TE → TE → TE := tCmp fun i j => decide (j ≤ i)
abbrev tEqI : TE → TE → TE := tCmp fun i j => decide (i = j)
abbrev tNeI : TE → TE → TE := tCmp fun i j => !decide (i = j)
/-- a comparison of two ints, by its rule -/
theorem pc_int {op : CmpOp} {p : Int → Int → Bool} (ha : PE X a ta) (hb : PE X b tb)
    (rule : ∀ (i j : Int) (t u : Tok) (Q : Value → Shared → Prop) (s : Shared), Q (.bool (p i j)) s → wpAny (model X.prog X.w) X.A (compareOp op (.int i t) (.int j u)) Q X.xe s) : PC X op a b (tCmp p ta tb) := by
  intro pins s σ H Q I h
  refine bin ha hb I h fun v u s2 x y H2 I2 rx ry q => ?_
  obtain ⟨i, j, rfl, rfl, q⟩ := q
  obtain ⟨t, rfl⟩ := rx
  obtain ⟨t', rfl⟩ := ry
  exact rule i j t t' _ s2 ⟨.bl _, H2, I2, rfl, q⟩
theorem pc_lt (ha : PE X a ta) (hb : PE X b tb) : PC X .Lt a b (tLt ta tb) := pc_int ha hb fun _ _ _ _ _ _ h => lt_int h
theorem pc_le (ha : PE X a ta) (hb : PE X b tb) : PC X .LtE a b (tLe ta tb) := pc_int ha hb fun _ _ _ _ _ _ h => le_int h
theorem pc_gt (ha : PE X a ta) (hb : PE X b tb) : PC X .Gt a b (tGt ta tb) := pc_int ha hb fun _ _ _ _ _ _ h => gt_int h
theorem pc_ge (ha : PE X a ta) (hb : PE X b tb) : PC X .GtE a b (tGe ta tb) := pc_int ha hb fun _ _ _ _ _ _ h => ge_int h
theorem pc_eqI (ha : PE X a ta) (hb : PE X b tb) : PC X .Eq a b (tEqI ta tb) := pc_int ha hb fun _ _ _ _ _ _ h => eq_int (by rw [Bool.beq_eq_decide_eq]; exact h)
theorem pc_neI (ha : PE X a ta) (hb : PE X b tb) : PC X .NotEq a b (tNeI ta tb) := pc_int ha hb fun _ _ _ _ _ _ h => ne_int (by rw [bne, Bool.beq_eq_decide_eq]; exact h)
/-- is None -/
def tIsN (ta : TE) : TE := fun σ H Q => ta σ H fun x H1 => Q (.bl (decide (x = .non))) H1
def tNotN (ta : TE) : TE := fun σ H Q => ta σ H fun x H1 => Q (.bl (!decide (x = .non))) H1
theorem RelV.none_iff {x : V} {v : Value} (r : RelV x v) : (v == Value.none) = decide (x = .non) := by
  cases x with
  | non => cases r; rfl
  | bl _ => cases r; rfl
  | int _ => obtain ⟨t, rfl⟩ := r; rfl
  | str _ => obtain ⟨t, rfl⟩ := r; rfl
  | byt _ => obtain ⟨t, rfl⟩ := r; rfl
  | flt _ => obtain ⟨t, rfl⟩ := r; rfl
  | ref _ => cases r; rfl
  | ty _ => cases r; rfl
theorem pc_isN {j pos'} (ha : PE X a ta) : PC X .Is a (.Constant .none j pos') (tIsN ta) := by
  intro pins s σ H Q I h
  refine thn (ha pins s σ H _ I h) fun v s1 ⟨x, H1, I1, r1, q1⟩ => ?_
  exact Constant_none (is_none_gen ⟨.bl _, H1, I1, by rw [r1.none_iff]; rfl, q1⟩)
theorem pc_notN {j pos'} (ha : PE X a ta) : PC X .IsNot a (.Constant .none j pos') (tNotN ta) := by
  intro pins s σ H Q I h
  refine thn (ha pins s σ H _ I h) fun v s1 ⟨x, H1, I1, r1, q1⟩ => ?_
  exact Constant_none (isnot_none_gen ⟨.bl _, H1, I1, by rw [r1.none_iff]; rfl, q1⟩)
/-- a comparison as a value, as a test -/
def tB (t : TE) : TT := fun σ H Q => t σ H fun x H1 => ∃ c, x = .bl c ∧ Q c H1
theorem pe_cmp {op : CmpOp} {t : TE} (h : PC X op a b t) (h1 : behindInMarks op b = false := by first | exact nobehind _ (by decide) (by decide) | rfl) : PE X (.Compare a [op] [b] pos) t := fun pins s σ H Q I hw => wpAny_Compare1 (h pins s σ H Q I hw) h1
theorem pt_cmp {op : CmpOp} {t : TE} (h : PC X op a b t) (h1 : behindInMarks op b = false := by first | exact nobehind _ (by decide) (by decide) | rfl) : PT X (.Compare a [op] [b] pos) (tB t) := by
  intro pins s σ H Q I hw
  refine wpAny_isTrue_Compare1 (thn (h pins s σ H _ I hw) fun v s1 h1 => thn h1 fun u s2 h2 => thn h2 fun c s3 ⟨x, H1, I1, r1, q1⟩ => ?_) h1
  obtain ⟨d, rfl, q⟩ := q1
  cases r1
  exact wpAny_truthy_bool ⟨H1, I1, q⟩
/-- an expression whose value is a bool, as a test -/
theorem pt_val {e : Expr} {t : TE} (h : PE X e t) (he : ∀ whole, isTrue e X.env whole = (do let v ← whole; standAt e.pos; holding [v] (truthy v)) := by intro _; rfl) : PT X e (tB t) := by
  intro pins s σ H Q I hw
  refine isTrue_plain (thn (h pins s σ H _ I hw) fun v s1 ⟨x, H1, I1, r1, q1⟩ => ?_) (he _)
  obtain ⟨d, rfl, q⟩ := q1
  cases r1
  exact wpAny_truthy_bool ⟨H1, I1, q⟩

/-! ### and, or, not -/
variable {tA tB' : TT} {rest : List Expr}
def tAnd (t u : TT) : TT := fun σ H Q => t σ H fun c H1 => if c = true then u σ H1 Q else Q false H1
def tOr (t u : TT) : TT := fun σ H Q => t σ H fun c H1 => if c = true then Q true H1 else u σ H1 Q
def tNot (t : TT) : TT := fun σ H Q => t σ H fun c H1 => Q (!c) H1
theorem pw_and1 (ha : PT X a tA) : PW X (.BoolOp .And [a] pos) tA := by
  intro wh pins s σ H Q I h
  refine isTrue_and (thn (ha pins s σ H Q I h) fun c s1 e => ?_)
  cases c with
  | true => exact isTrue_and_nil e
  | false => exact e
theorem pw_or1 (ha : PT X a tA) : PW X (.BoolOp .Or [a] pos) tA := by
  intro wh pins s σ H Q I h
  refine isTrue_or (thn (ha pins s σ H Q I h) fun c s1 e => ?_)
  cases c with
  | false => exact isTrue_or_nil e
  | true => exact e
theorem pw_and (ha : PT X a tA) (hb : PW X (.BoolOp .And (b :: rest) pos) tB') : PW X (.BoolOp .And (a :: b :: rest) pos) (tAnd tA tB') := by
  intro wh pins s σ H Q I h
  refine isTrue_and (thn (ha pins s σ H _ I h) fun c s1 ⟨H1, I1, q1⟩ => ?_)
  cases c with
  | true => exact hb wh pins s1 σ H1 Q I1 q1
  | false => exact ⟨H1, I1, q1⟩
theorem pw_or (ha : PT X a tA) (hb : PW X (.BoolOp .Or (b :: rest) pos) tB') : PW X (.BoolOp .Or (a :: b :: rest) pos) (tOr tA tB') := by
  intro wh pins s σ H Q I h
  refine isTrue_or (thn (ha pins s σ H _ I h) fun c s1 ⟨H1, I1, q1⟩ => ?_)
  cases c with
  | true => exact ⟨H1, I1, q1⟩
  | false => exact hb wh pins s1 σ H1 Q I1 q1
theorem pt_not (ha : PT X a tA) : PT X (.UnaryOp .Not a pos) (tNot tA) := by
  intro pins s σ H Q I h
  exact isTrue_not (ha pins s σ H (fun c H1 => Q (!c) H1) I h)
/-- .. as values (bools) -/
def tAndV (ta tb : TE) : TE := fun σ H Q => ta σ H fun x H1 => ∃ c, x = .bl c ∧ if c = true then tb σ H1 Q else Q (.bl false) H1
def tOrV (ta tb : TE) : TE := fun σ H Q => ta σ H fun x H1 => ∃ c, x = .bl c ∧ if c = true then Q (.bl true) H1 else tb σ H1 Q
def tNotV (ta : TE) : TE := fun σ H Q => ta σ H fun x H1 => ∃ c, x = .bl c ∧ Q (.bl (!c)) H1
theorem pe_one {op} {t : TE} (h : PE X a t) : PE X (.BoolOp op [a] pos) t := fun pins s σ H Q I hw => BoolOp_one (h pins s σ H Q I hw)
theorem pe_and (ha : PE X a ta) (hb : PE X (.BoolOp .And (b :: rest) pos) tb) : PE X (.BoolOp .And (a :: b :: rest) pos) (tAndV ta tb) := by
  intro pins s σ H Q I h
  refine BoolOp_and (thn (ha pins s σ H _ I h) fun v s1 ⟨x, H1, I1, r1, q1⟩ => ?_)
  obtain ⟨c, rfl, q1⟩ := q1
  cases r1
  refine wpAny_truthy_bool ?_
  cases c with
  | true => exact hb pins s1 σ H1 Q I1 q1
  | false => exact ⟨.bl false, H1, I1, rfl, q1⟩
theorem pe_or (ha : PE X a ta) (hb : PE X (.BoolOp .Or (b :: rest) pos) tb) : PE X (.BoolOp .Or (a :: b :: rest) pos) (tOrV ta tb) := by
  intro pins s σ H Q I h
  refine BoolOp_or (thn (ha pins s σ H _ I h) fun v s1 ⟨x, H1, I1, r1, q1⟩ => ?_)
  obtain ⟨c, rfl, q1⟩ := q1
  cases r1
  refine wpAny_truthy_bool ?_
  cases c with
  | false => exact hb pins s1 σ H1 Q I1 q1
  | true => exact ⟨.bl true, H1, I1, rfl, q1⟩
theorem pe_not (ha : PE X a ta) : PE X (.UnaryOp .Not a pos) (tNotV ta) := by
  intro pins s σ H Q I h
  refine UnaryOp_ (thn (ha pins s σ H _ I h) fun v s1 ⟨x, H1, I1, r1, q1⟩ => ?_)
  obtain ⟨c, rfl, q1⟩ := q1
  cases r1
  exact not_of (wpAny_truthy_bool ⟨.bl (!c), H1, I1, rfl, q1⟩)
/-- a if t else b -/
def tIf (t : TT) (ta tb : TE) : TE := fun σ H Q => t σ H fun c H1 => if c = true then ta σ H1 Q else tb σ H1 Q
theorem pe_ifExp {c : Expr} (hc : PT X c tA) (ha : PE X a ta) (hb : PE X b tb) : PE X (.IfExp c a b pos) (tIf tA ta tb) := by
  intro pins s σ H Q I h
  refine wpAny_IfExp (thn (hc pins s σ H _ I h) fun d s1 ⟨H1, I1, q1⟩ => ?_)
  cases d with
  | true => exact ha pins s1 σ H1 Q I1 q1
  | false => exact hb pins s1 σ H1 Q I1 q1
end
end L2

namespace L2
open PySem PySem.Spec PyProof.Rows

/-! ### a list, a tuple that is read: tracked, frozen, or an object of the module -/
def SqL (K : PySem.W.Frag) (H : Hp) (a : Addr) (xs : List V) : Prop :=
  Rd H a (.lst xs) ∨
    ∃ (o : Obj) (its : Array Value) (n : Nat), K.lookup a = some o ∧ o.cls = .type "list" ∧ o.dict = none ∧ o.data = .seq its n ∧ its.size ≤ sizeLine ∧ Vals xs its.toList
def SqT (K : PySem.W.Frag) (H : Hp) (a : Addr) (xs : List V) : Prop :=
  Rd H a (.tup xs) ∨
    ∃ (o : Obj) (its : Array Value) (n : Nat), K.lookup a = some o ∧ o.cls = .type "tuple" ∧ o.data = .seq its n ∧ its.size ≤ sizeLine ∧ Vals xs its.toList
def absV : Value → Option V
  | .none => some .non
  | .bool b => some (.bl b)
  | .int i _ => some (.int i)
  | .str x _ => some (.str x)
  | .bytes b _ => some (.byt b)
  | .float b _ => some (.flt b)
  | .ref a => some (.ref a)
  | .type n => some (.ty n)
  | _ => none
theorem RelV.abs {x : V} {u : Value} (r : RelV x u) : absV u = some x := by
  cases x with
  | non => cases r; rfl
  | bl _ => cases r; rfl
  | int _ => obtain ⟨t, rfl⟩ := r; rfl
  | str _ => obtain ⟨t, rfl⟩ := r; rfl
  | byt _ => obtain ⟨t, rfl⟩ := r; rfl
  | flt _ => obtain ⟨t, rfl⟩ := r; rfl
  | ref _ => cases r; rfl
  | ty _ => cases r; rfl
theorem RelV.inj {x y : V} {u : Value} (r : RelV x u) (q : RelV y u) : x = y := Option.some.inj (r.abs.symm.trans q.abs)
theorem Vals.inj : ∀ {xs ys : List V} {us : List Value}, Vals xs us → Vals ys us → xs = ys
  | _, _, _, .nil, .nil => rfl
  | _, _, _, .cons r t, .cons r' t' => by rw [r.inj r', Vals.inj t t']
section
variable {X : Cx} {pins : List (Addr × Obj)} {σ : St} {H : Hp} {s : Shared} {a : Addr} {xs ys : List V}
theorem SqL.of {K : PySem.W.Frag} (h : H a = some (.lst xs)) : SqL K H a xs := .inl (.inl h)
theorem SqT.of {K : PySem.W.Frag} (h : H a = some (.tup xs)) : SqT K H a xs := .inl (.inl h)
theorem Inv.list (I : Inv X pins σ H s) (h : SqL X.K H a xs) : ∃ its : List Value, Vals xs its ∧ PlainL s.heap a its.toArray ∧ xs.length ≤ sizeLine := by
  rcases h with h | ⟨o, its, n, hk, hc, hd, hs, hz, r⟩
  · obtain ⟨z, its, n, r, e⟩ := h.ok I.hok
    exact ⟨its, r, ⟨_, n, e, rfl, rfl, rfl⟩, z⟩
  · refine ⟨its.toList, r, ⟨o, n, I.kIn a o hk, hc, hd, by simpa using hs⟩, ?_⟩
    have e := r.length
    simp only [Array.length_toList] at e
    omega
theorem Inv.tuple (I : Inv X pins σ H s) (h : SqT X.K H a xs) : ∃ its : List Value, Vals xs its ∧ IsTup s.heap a its.toArray ∧ xs.length ≤ sizeLine := by
  rcases h with h | ⟨o, its, n, hk, hc, hs, hz, r⟩
  · obtain ⟨z, its, r, p⟩ := h.ok I.hok
    exact ⟨its, r, p, z⟩
  · refine ⟨its.toList, r, ⟨o, I.kIn a o hk, hc, n, by simpa using hs⟩, ?_⟩
    have e := r.length
    simp only [Array.length_toList] at e
    omega
theorem Inv.list_inj (I : Inv X pins σ H s) (h : SqL X.K H a xs) (h' : SqL X.K H a ys) : xs = ys := by
  obtain ⟨its, r, ⟨o, n, e, _, _, d⟩, _⟩ := I.list h
  obtain ⟨its', r', ⟨o', n', e', _, _, d'⟩, _⟩ := I.list h'
  rw [e] at e'; cases e'
  rw [d] at d'
  injection d' with d1 _
  have : its = its' := by simpa using congrArg Array.toList d1
  subst this
  exact r.inj r'
theorem Inv.tuple_inj (I : Inv X pins σ H s) (h : SqT X.K H a xs) (h' : SqT X.K H a ys) : xs = ys := by
  obtain ⟨its, r, ⟨o, e, _, n, d⟩, _⟩ := I.tuple h
  obtain ⟨its', r', ⟨o', e', _, n', d'⟩, _⟩ := I.tuple h'
  rw [e] at e'; cases e'
  rw [d] at d'
  injection d' with d1 _
  have : its = its' := by simpa using congrArg Array.toList d1
  subst this
  exact r.inj r'
end

/-! ### another wish about exceptions -/
abbrev Cx.wish (X : Cx) (E : Value → Shared → Prop) : Cx := { X with xe := E }
/-- no exception leaves -/
abbrev Cx.nox (X : Cx) : Cx := X.wish fun _ _ => False
theorem Cx.Ok.wish {X : Cx} (ok : X.Ok) (E : Value → Shared → Prop) : (X.wish E).Ok :=
  ⟨ok.mod, ok.kind, ok.glob, ok.blt, ok.above, ok.inj, ok.has, ok.cab, ok.hd, ok.frames, ok.stk, ok.exf, ok.bs, ok.bsz, ok.noex, ok.exfs, ok.funs, ok.frf⟩
theorem Cx.Ok.unwish {X : Cx} {E : Value → Shared → Prop} (ok : (X.wish E).Ok) : X.Ok :=
  ⟨ok.mod, ok.kind, ok.glob, ok.blt, ok.above, ok.inj, ok.has, ok.cab, ok.hd, ok.frames, ok.stk, ok.exf, ok.bs, ok.bsz, ok.noex, ok.exfs, ok.funs, ok.frf⟩
section
variable {X : Cx} {pins : List (Addr × Obj)} {σ : St} {H : Hp} {s : Shared} {E : Value → Shared → Prop}
theorem Inv.wish (I : Inv X pins σ H s) (E : Value → Shared → Prop) : Inv (X.wish E) pins σ H s := ⟨I.ok.wish E, I.os, I.bare, I.base, I.loc, I.cell, I.free, I.freeC, I.pin, I.hok, I.len⟩
theorem Inv.unwish (I : Inv (X.wish E) pins σ H s) : Inv X pins σ H s := ⟨I.ok.unwish, I.os, I.bare, I.base, I.loc, I.cell, I.free, I.freeC, I.pin, I.hok, I.len⟩
theorem SP.unwish {D : Ends} {f : Flow} {s' : Shared} (h : SP (X.wish E) pins D f s') : SP X pins D f s' := by
  cases f with
  | next => obtain ⟨σ', H', I, q⟩ := h; exact ⟨σ', H', I.unwish, q⟩
  | brk => obtain ⟨σ', H', I, q⟩ := h; exact ⟨σ', H', I.unwish, q⟩
  | cont => obtain ⟨σ', H', I, q⟩ := h; exact ⟨σ', H', I.unwish, q⟩
  | ret u => obtain ⟨v, σ', H', I, r, q⟩ := h; exact ⟨v, σ', H', I.unwish, r, q⟩
theorem PE.nox {e : Expr} {t : TE} (h : PE X.nox e t) : PE X e t := fun pins s σ H Q I hw =>
  wpAny_mono (h pins s σ H Q (I.wish _) hw) (fun _ _ ⟨v, H', I', r, q⟩ => ⟨v, H', I'.unwish, r, q⟩) fun _ _ z => False.elim z
theorem PT.nox {e : Expr} {t : TT} (h : PT X.nox e t) : PT X e t := fun pins s σ H Q I hw =>
  wpAny_mono (h pins s σ H Q (I.wish _) hw) (fun _ _ ⟨H', I', q⟩ => ⟨H', I'.unwish, q⟩) fun _ _ z => False.elim z
theorem PSs.nox {st : List Stmt} {t : TS} (h : PSs X.nox st t) : PSs X st t := fun pins s σ H D I hw =>
  wpAny_mono (h pins s σ H D (I.wish _) hw) (fun _ _ q => q.unwish) fun _ _ z => False.elim z
end

/-! ### blocks and small statements -/
section
variable {X : Cx} {st : Stmt} {rest : List Stmt} {t u : TS} {e : Expr} {te : TE} {pos : Pos}
def tNext : TS := fun D σ H => D.nx σ H
def tSeq (t u : TS) : TS := fun D σ H => t { D with nx := u D } σ H
theorem pss_nil : PSs X [] tNext := fun _ _ σ H _ I h => wpAny_execs_nil ⟨σ, H, I, h⟩
theorem pss_cons (h1 : PS X st t) (h2 : PSs X rest u) : PSs X (st :: rest) (tSeq t u) := by
  intro pins s σ H D I h
  refine wpAny_execs_cons (thn (h1 pins s σ H { D with nx := u D } I h) fun f s1 q => ?_)
  cases f with
  | next =>
    obtain ⟨σ', H', I', q⟩ := q
    exact h2 pins s1 σ' H' D I' q
  | ret v => exact q
  | brk => exact q
  | cont => exact q
theorem pss_one (h1 : PS X st t) : PSs X [st] t := by
  intro pins s σ H D I h
  refine wpAny_execs_cons (thn (h1 pins s σ H D I h) fun f s1 q => ?_)
  cases f with
  | next => exact wpAny_execs_nil q
  | ret v => exact q
  | brk => exact q
  | cont => exact q
def tBreak : TS := fun D σ H => D.bk σ H
def tCont : TS := fun D σ H => D.ct σ H
theorem ps_pass : PS X (.Pass pos) tNext := fun _ _ σ H _ I h => wpAny_Pass ⟨σ, H, I, h⟩
theorem ps_break : PS X (.Break pos) tBreak := fun _ _ σ H _ I h => wpAny_Break ⟨σ, H, I, h⟩
theorem ps_continue : PS X (.Continue pos) tCont := fun _ _ σ H _ I h => wpAny_Continue ⟨σ, H, I, h⟩
/-- in a def's body nothing is shown -/
theorem Inv.quiet {pins : List (Addr × Obj)} {σ : St} {H : Hp} {s : Shared} (I : Inv X pins σ H s) : interactive X.env = false := by simp [interactive, I.ok.kind]
/-- a docstring -/
theorem ps_doc {x j pos pos'} : PS X (.Expr (.Constant (.str x) j pos) pos') tNext := fun _ s σ H _ I h => wpAny_Expr (Calls.Constant_str (show SP X _ _ .next { s with toks := s.toks + 1 } from ⟨σ, H, I.tok _, h⟩)) I.quiet
/-- an expression whose value is dropped -/
def tDrop (te : TE) : TS := fun D σ H => te σ H fun _ H1 => D.nx σ H1
theorem ps_expr (he : PE X e te) (hs : swapsWith e none pos.line X.env = pure false := by rfl) : PS X (.Expr e pos) (tDrop te) := by
  intro pins s σ H D I h
  exact wpAny_Expr_any (thn (he pins s σ H _ I h) fun v s1 ⟨x, H1, I1, r1, q1⟩ => ⟨σ, H1, I1, q1⟩) I.quiet hs
def tRet (te : TE) : TS := fun D σ H => te σ H D.rt
theorem ps_ret (he : PE X e te) : PS X (.Return (some e) pos) (tRet te) := by
  intro pins s σ H D I h
  exact wpAny_Return_some (thn (he pins s σ H _ I h) fun v s1 ⟨x, H1, I1, r1, q1⟩ => ⟨x, σ, H1, I1, r1, q1⟩)
def tRetN : TS := fun D _ H => D.rt .non H
theorem ps_retN : PS X (.Return none pos) tRetN := fun _ _ σ H _ I h => wpAny_Return_none ⟨.non, σ, H, I, rfl, h⟩
def tIfS (c : TT) (t u : TS) : TS := fun D σ H => c σ H fun b H1 => if b = true then t D σ H1 else u D σ H1
theorem ps_if {c : Expr} {a b : List Stmt} {tc : TT} (hc : PT X c tc) (ha : PSs X a t) (hb : PSs X b u) : PS X (.If c a b pos) (tIfS tc t u) := by
  intro pins s σ H D I h
  refine wpAny_If (thn (hc pins s σ H _ I h) fun d s1 ⟨H1, I1, q1⟩ => ?_)
  cases d with
  | true => exact ha pins s1 σ H1 D I1 q1
  | false => exact hb pins s1 σ H1 D I1 q1
/-- code that the proof never comes to -/
def tNever : TS := fun _ _ _ => False
theorem ps_never : PS X st tNever := fun _ _ _ _ _ _ h => h.elim
theorem pss_never {sts : List Stmt} : PSs X sts tNever := fun _ _ _ _ _ _ h => h.elim
end

/-! ### targets -/
abbrev TG := V → St → Hp → (St → Hp → Prop) → Prop
abbrev TGs := List V → St → Hp → (St → Hp → Prop) → Prop
def PG (X : Cx) (target : Expr) (t : TG) : Prop :=
  ∀ (pins : List (Addr × Obj)) (s : Shared) (σ : St) (H : Hp) (v : V) (u : Value) (Q : St → Hp → Prop), Inv X pins σ H s → RelV v u → t v σ H Q →
    wpAny (model X.prog X.w) X.A (assign target X.env u) (fun _ s' => ∃ σ' H', Inv X pins σ' H' s' ∧ Q σ' H') X.xe s
/-- several targets, one after another -/
def PGs (X : Cx) (ts : List Expr) (t : TGs) : Prop :=
  ∀ (pins : List (Addr × Obj)) (s : Shared) (σ : St) (H : Hp) (vs : List V) (us : List Value) (Q : St → Hp → Prop), Inv X pins σ H s → Vals vs us → t vs σ H Q →
    wpAny (model X.prog X.w) X.A (assignInOrder ((assignEach ts X.env).map (·.2)) us) (fun _ s' => ∃ σ' H', Inv X pins σ' H' s' ∧ Q σ' H') X.xe s
/-- o[i] = v, by values -/
abbrev TSet := V → V → V → Hp → (Hp → Prop) → Prop
def PSet (X : Cx) (t : TSet) : Prop :=
  ∀ (pins : List (Addr × Obj)) (s : Shared) (σ : St) (H : Hp) (o i v : V) (ov iv u : Value) (Q : Hp → Prop), Inv X pins σ H s → RelV o ov → RelV i iv → RelV v u → t o i v H Q →
    wpAny (model X.prog X.w) X.A (setItem ov iv u) (fun _ s' => ∃ H', Inv X pins σ H' s' ∧ Q H') X.xe s
/-- a op= b, by values -/
abbrev TIp := V → V → Hp → VK → Prop
def PIp (X : Cx) (op : Operator) (t : TIp) : Prop :=
  ∀ (pins : List (Addr × Obj)) (s : Shared) (σ : St) (H : Hp) (x y : V) (v u : Value) (Q : VK), Inv X pins σ H s → RelV x v → RelV y u → t x y H Q →
    wpAny (model X.prog X.w) X.A (inplaceOp op v u) (EP X pins σ Q) X.xe s
section
variable {X : Cx} {pos : Pos}
def gName (i : Nat) : TG := fun v σ H Q => Q (σ.set i (some v)) H
theorem pg_name {i : Nat} {x : Str} (hN : X.N.Nodup) (hi : X.N[i]? = some x) (hx : Loc X.env.scope x) (hf : X.fn x = true ∨ X.env.scope.names.lookup x = some .local := by first | exact .inl rfl | exact .inr rfl | assumption) : PG X (.Name x pos) (gName i) := by
  intro pins s σ H v u Q I r h
  exact wpAny_assign_Name (store_ok I hN hi hx r (fun s' I' => ⟨_, H, I', h⟩) hf)
def gNil : TGs := fun vs σ H Q => vs = [] ∧ Q σ H
def gCons (t : TG) (u : TGs) : TGs := fun vs σ H Q => ∃ v r, vs = v :: r ∧ t v σ H fun σ' H' => u r σ' H' Q
theorem pgs_nil : PGs X [] gNil := by
  intro pins s σ H vs us Q I r h
  obtain ⟨e, h⟩ := h
  subst e
  cases r
  exact assignInOrder_nil ⟨σ, H, I, h⟩
theorem pgs_cons {e : Expr} {es : List Expr} {t : TG} {u : TGs} (h1 : PG X e t) (h2 : PGs X es u)
    (hs : (assignEach (e :: es) X.env).map (·.2) = assign e X.env :: (assignEach es X.env).map (·.2) := by rfl) : PGs X (e :: es) (gCons t u) := by
  intro pins s σ H vs us Q I r h
  obtain ⟨v, vr, e1, h⟩ := h
  subst e1
  cases r with
  | cons r rr =>
    rw [hs]
    refine assignInOrder_cons (thn (h1 pins s σ H _ _ _ I r h) fun _ s1 ⟨σ1, H1, I1, q1⟩ => ?_)
    exact h2 pins s1 σ1 H1 _ _ Q I1 rr q1
/-- (a, b, ..) = a tuple of that length -/
def gTup (K : PySem.W.Frag) (n : Nat) (t : TGs) : TG := fun v σ H Q => ∃ a xs, v = .ref a ∧ SqT K H a xs ∧ xs.length = n ∧ t xs σ H Q
theorem pg_tup {es : List Expr} {k : Nat} {t : TGs} {n : Nat} (hc : X.calm = true) (h : PGs X es t)
    (hn : (assignEach es X.env).length = n := by rfl) (hst : (assignEach es X.env).findIdx? (·.1) = none := by rfl) : PG X (.Tuple es k pos) (gTup X.K n t) := by
  intro pins s σ H v u Q I r hw
  obtain ⟨a, xs, e1, hq, hl, hw⟩ := hw
  subst e1
  cases r
  obtain ⟨its, rv, ht, hz⟩ := I.tuple hq
  refine assign_Tuple_tuple (I.ok.hd hc) ht (by simp [hn, ← hl, rv.length]) hst fun h' hx => ?_
  have I1 : Inv X pins σ H { s with heap := h' } := I.kept (t' := s.toks) fun b o e => hx b o (Nat.ne_of_lt (Heap.lt_size e)) e
  exact h pins _ σ H xs _ Q I1 (by simpa using rv) hw
/-- o[i] = .. -/
def gSub (to ti : TE) (t : TSet) : TG := fun v σ H Q => to σ H fun o H1 => ti σ H1 fun i H2 => t o i v H2 fun H3 => Q σ H3
theorem pg_sub {o i : Expr} {to ti : TE} {t : TSet} (ho : PE X o to) (hi : PE X i ti) (hs : PSet X t)
    (ha : ∀ v, assign (.Subscript o i pos) X.env v = (do
      let ov ← holding [v] (eval o X.env)
      let iv ← holding [v, ov] (eval i X.env)
      standAt pos
      holding [v, ov, iv] (setItem ov iv v)
      release [v, ov, iv] []) := by intro _; rfl) : PG X (.Subscript o i pos) (gSub to ti t) := by
  intro pins s σ H v u Q I r h
  rw [ha]
  refine wpAny_bind (wpAny_holding (thn (ho pins s σ H _ I h) fun ov s1 ⟨x, H1, I1, r1, q1⟩ => ?_))
  refine wpAny_bind (wpAny_holding (thn (hi pins s1 σ H1 _ I1 q1) fun iv s2 ⟨y, H2, I2, r2, q2⟩ => ?_))
  refine wpAny_bind (wpAny_standAt (wpAny_bind (wpAny_holding (thn (hs pins s2 σ H2 x y v ov iv u _ I2 r1 r2 r q2) fun _ s3 ⟨H3, I3, q3⟩ => ?_))))
  exact wpAny_release ⟨σ, H3, I3, q3⟩
/-- target = value -/
def tAsg (te : TE) (g : TG) : TS := fun D σ H => te σ H fun x H1 => g x σ H1 D.nx
theorem ps_asg {tg e : Expr} {te : TE} {g : TG} (he : PE X e te) (hg : PG X tg g) (hs : swapsWithSole [tg] e pos.line X.env = pure false := by rfl) (hw : swappedStores [tg] e X.env = pure none := by rfl)
    (h1 : (assignEach [tg] X.env).map (·.2) = [assign tg X.env] := by rfl) : PS X (.Assign [tg] e pos) (tAsg te g) := by
  intro pins s σ H D I h
  refine wpAny_Assign_stores (thn (he pins s σ H _ I h) fun v s1 ⟨x, H1, I1, r1, q1⟩ => ?_) hs hw
  rw [h1]
  exact thn (hg pins s1 σ H1 x v _ I1 r1 q1) fun _ s2 q => q
/-- name = value -/
theorem ps_set {i : Nat} {x : Str} {e : Expr} {te : TE} {pos' : Pos} (hN : X.N.Nodup) (hi : X.N[i]? = some x) (hx : Loc X.env.scope x) (he : PE X e te) (hs : swapsWith e (some (.Name x pos')) pos.line X.env = pure false := by rfl) (hf : X.fn x = true ∨ X.env.scope.names.lookup x = some .local := by first | exact .inl rfl | exact .inr rfl | assumption) :
    PS X (.Assign [.Name x pos'] e pos) (tAsg te (gName i)) := by
  intro pins s σ H D I h
  refine wpAny_Assign_Name (thn (he pins s σ H _ I h) fun v s1 ⟨y, H1, I1, r1, q1⟩ => ?_) hs
  exact store_ok I1 hN hi hx r1 (fun s2 I2 => ⟨_, H1, I2, q1⟩) hf
/-- a, b = x, y with plain local names: stored from the right; the pair itself is not tracked (the opening rows as in PyProof/Rows/TupAssign.lean:23) -/
def tPar (i j : Nat) (ta : TA) : TS := fun D σ H => ta σ H fun vs H1 => ∃ v w, vs = [v, w] ∧ D.nx ((σ.set i (some v)).set j (some w)) H1
theorem ps_par {i j : Nat} {x y : Str} {a b : Expr} {ta : TA} {px py pt : Pos} {kt k2 pt2} (hc : X.calm = true) (hN : X.N.Nodup) (hi : X.N[i]? = some x) (hj : X.N[j]? = some y) (hij : i ≠ j)
    (hx : X.env.scope.names.lookup x = some .local) (hy : X.env.scope.names.lookup y = some .local) (ha : PA X [a, b] ta)
    (hw : swappedStores [.Tuple [.Name x px, .Name y py] kt pt] (.Tuple [a, b] k2 pt2) X.env = pure (some [x, y]))
    (hs : swapsWithSole [.Tuple [.Name x px, .Name y py] kt pt] (.Tuple [a, b] k2 pt2) pos.line X.env = pure false := by rfl) :
    PS X (.Assign [.Tuple [.Name x px, .Name y py] kt pt] (.Tuple [a, b] k2 pt2) pos) (tPar i j ta) := by
  intro pins s σ H D I h
  rw [exec_Assign_arm]
  refine wpAny_bind (wpAny_standAt ?_)
  rw [hs]
  refine wpAny_bind (wpAny_pure ?_)
  rw [if_neg (by decide)]
  refine wpAny_bind (Tuple_ (thn (ha _ pins s σ H _ I h) fun us s1 ⟨vs, H1, I1, r1, q1⟩ => ?_))
  obtain ⟨v, w, e1, q1⟩ := q1
  subst e1
  obtain ⟨u1, u2, rfl, rv, rw'⟩ : ∃ u1 u2, us = [u1, u2] ∧ RelV v u1 ∧ RelV w u2 := by
    cases r1 with
    | cons p q =>
      cases q with
      | cons p' q' =>
        cases q'
        exact ⟨_, _, rfl, p, p'⟩
  refine wpAny_newObj_type ?_ (by show 2 ≤ sizeLine; decide)
  have I2 : Inv X pins σ H1 { s1 with heap := s1.heap.push { cls := .type "tuple", data := .seq [u1, u2].toArray } } := I1.kept (t' := s1.toks) fun b o e => Heap.get?_push_of_some _ e
  rw [hw]
  refine wpAny_bind (wpAny_pure ?_)
  show wpAny (model X.prog X.w) X.A (do rule "assign.swapped-stores"; let items ← unpackItems (.ref s1.heap.objs.size) 2 none; assignInOrder [fun v => bindName X.env y v, fun v => bindName X.env x v] items.reverse; pure Flow.next) _ _ _
  refine wpAny_bind (wpAny_rule (wpAny_bind (unpackItems_tuple (items := #[u1, u2]) (I.ok.hd hc) (IsTup.new s1.heap _) fun h' hx' => ?_)))
  have I3 := I2.kept (h' := h') (t' := s1.toks) fun b o e => hx' b o (Nat.ne_of_lt (Heap.lt_size e)) e
  show wpAny _ _ (assignInOrder [fun v => bindName X.env y v, fun v => bindName X.env x v] [u2, u1] >>= fun _ => pure Flow.next) _ _ _
  refine wpAny_bind (assignInOrder_cons (wpAny_bindName (store_ok I3 hN hj (.inl hy) rw' (fun s2 I4 => ?_) (.inr hy))))
  refine assignInOrder_cons (wpAny_bindName (store_ok I4 hN hi (.inl hx) rv (fun s3 I5 => assignInOrder_nil (wpAny_pure ?_)) (.inr hx)))
  rw [List.set_comm _ _ (Ne.symm hij)] at I5
  exact ⟨_, H1, I5, q1⟩
/-- name op= e -/
def tAug (i : Nat) (te : TE) (ti : TIp) : TS := fun D σ H => ∃ x, σ[i]? = some (some x) ∧ te σ H fun y H1 => ti x y H1 fun z H2 => D.nx (σ.set i (some z)) H2
theorem ps_aug {i : Nat} {x : Str} {e : Expr} {te : TE} {op : Operator} {ti : TIp} {pos' : Pos} (hN : X.N.Nodup) (hi : X.N[i]? = some x) (hx : Loc X.env.scope x) (he : PE X e te) (ho : PIp X op ti) (hf : X.fn x = true ∨ X.env.scope.names.lookup x = some .local := by first | exact .inl rfl | exact .inr rfl | assumption) :
    PS X (.AugAssign (.Name x pos') op e pos) (tAug i te ti) := by
  intro pins s σ H D I h
  obtain ⟨v, e1, h⟩ := h
  obtain ⟨m, hn, hl⟩ := I.loc
  have vis : Vis X.env.scope x := by rcases hx with k | k; exact .inl k; exact .inr (.inl k)
  obtain ⟨u, r, l⟩ := hl i x v hi e1 vis
  refine wpAny_AugAssign_Name ?_
  have go : wpAny (model X.prog X.w) X.A (eval e X.env) (fun w s₂ => wpAny (model X.prog X.w) X.A (inplaceOp op u w) (fun r s₃ => wpAny (model X.prog X.w) X.A (storeName X.env x r) (fun _ => SP X pins D .next) X.xe s₃) X.xe s₂) X.xe s := by
    refine thn (he pins s σ H _ I h) fun w s1 ⟨y, H1, I1, r1, q1⟩ => ?_
    refine thn (ho pins s1 σ H1 v y u w _ I1 r r1 q1) fun z s2 ⟨zv, H2, I2, r2, q2⟩ => ?_
    exact store_ok I2 hN hi hx r2 (fun s3 I3 => ⟨_, H2, I3, q2⟩) hf
  rcases l with ⟨hk, hm⟩ | ⟨hk, c, hc, hcell⟩
  · exact wpAny_loadName_local I.ok.kind hk hn hm go
  · rcases hk with hk | hk
    · exact wpAny_loadName_cell I.ok.kind hk hc hcell go
    · rcases hx with k | k
      · have : X.env.scope.names.lookup x = some .free := hk
        rw [k] at this; cases this
      · have : X.env.scope.names.lookup x = some .free := hk
        rw [k] at this; cases this
/-- o[i] op= e -/
def tAugS (to ti te : TE) (tget : V → V → Hp → VK → Prop) (tip : TIp) (tset : TSet) : TS := fun D σ H => to σ H fun o H1 => ti σ H1 fun i H2 => tget o i H2 fun x H3 => te σ H3 fun y H4 => tip x y H4 fun z H5 => tset o i z H5 fun H6 => D.nx σ H6
/-- o[i], by values -/
def PGet (X : Cx) (t : V → V → Hp → VK → Prop) : Prop :=
  ∀ (pins : List (Addr × Obj)) (s : Shared) (σ : St) (H : Hp) (o i : V) (ov iv : Value) (Q : VK), Inv X pins σ H s → RelV o ov → RelV i iv → t o i H Q →
    wpAny (model X.prog X.w) X.A (getItem ov iv) (EP X pins σ Q) X.xe s
theorem ps_augS {o i e : Expr} {to ti te : TE} {tget : V → V → Hp → VK → Prop} {tip : TIp} {tset : TSet} {op : Operator} {tpos : Pos} (ho : PE X o to) (hi : PE X i ti) (hg : PGet X tget) (he : PE X e te) (hp : PIp X op tip) (hs : PSet X tset)
    (ha : ∀ ov iv new, augStore i ov iv new = (do holding [new, ov, iv] (setItem ov iv new); release [new, ov, iv] []; pure .next) := by intros; rfl) : PS X (.AugAssign (.Subscript o i tpos) op e pos) (tAugS to ti te tget tip tset) := by
  intro pins s σ H D I h
  refine wpAny_AugAssign_SubscriptAny (thn (ho pins s σ H _ I h) fun ov s1 ⟨x1, H1, I1, r1, q1⟩ => ?_) ha
  refine thn (hi pins s1 σ H1 _ I1 q1) fun iv s2 ⟨x2, H2, I2, r2, q2⟩ => ?_
  refine thn (hg pins s2 σ H2 x1 x2 ov iv _ I2 r1 r2 q2) fun old s3 ⟨x3, H3, I3, r3, q3⟩ => ?_
  refine thn (he pins s3 σ H3 _ I3 q3) fun v s4 ⟨x4, H4, I4, r4, q4⟩ => ?_
  refine thn (hp pins s4 σ H4 x3 x4 old v _ I4 r3 r4 q4) fun new s5 ⟨x5, H5, I5, r5, q5⟩ => ?_
  exact thn (hs pins s5 σ H5 x1 x2 x5 ov iv new _ I5 r1 r2 r5 q5) fun _ s6 ⟨H6, I6, q6⟩ => ⟨σ, H6, I6, q6⟩
/-- ints -/
def ipI (f : Int → Int → Int) : TIp := fun x y H Q => ∃ i j, x = .int i ∧ y = .int j ∧ Q (.int (f i j)) H
theorem ip_add : PIp X .Add (ipI fun i j => i + j) := by
  intro pins s σ H x y v u Q I r1 r2 h
  obtain ⟨i, j, e1, e2, q⟩ := h
  subst e1; subst e2
  obtain ⟨t, rfl⟩ := r1
  obtain ⟨t', rfl⟩ := r2
  exact iadd_int ⟨.int _, H, I.tok _, ⟨_, rfl⟩, q⟩
theorem ip_sub : PIp X .Sub (ipI fun i j => i - j) := by
  intro pins s σ H x y v u Q I r1 r2 h
  obtain ⟨i, j, e1, e2, q⟩ := h
  subst e1; subst e2
  obtain ⟨t, rfl⟩ := r1
  obtain ⟨t', rfl⟩ := r2
  exact isub_int ⟨.int _, H, I.tok _, ⟨_, rfl⟩, q⟩
end

/-! ### while -/
section
variable {X : Cx} {pos : Pos}
/-- the invariant W with its measure -/
def tWhile (c : TT) (tb : TS) : TS := fun D σ H => ∃ W : Nat → St → Hp → Prop, (∃ m, W m σ H) ∧ ∀ m σ H, W m σ H →
  c σ H fun b H1 => if b = true then ∃ N : St → Hp → Prop, (∀ σ' H', N σ' H' → ∃ m', m' < m ∧ W m' σ' H') ∧ tb { D with nx := N, ct := N, bk := D.nx } σ H1 else D.nx σ H1
theorem ps_while {c : Expr} {body : List Stmt} {tc : TT} {tb : TS} (hp : PassesOwn (model X.prog X.w) X.A X.env X.xe) (hc : PT X c tc) (hb : PSs X body tb) : PS X (.While c body [] pos) (tWhile tc tb) := by
  intro pins s σ H D I h
  obtain ⟨W, ⟨m0, w0⟩, turn⟩ := h
  refine wpAny_While (codeAny_whileLoop (fun n s' => ∃ σ' H', Inv X pins σ' H' s' ∧ W n σ' H') ?_ m0 ⟨σ, H, I, w0⟩)
  rintro n s1 ⟨σ1, H1, I1, w1⟩
  refine wpAny_passesOwn hp (thn (hc pins s1 σ1 H1 _ I1 (turn n σ1 H1 w1)) fun b s2 ⟨H2, I2, q2⟩ => ?_)
  cases b with
  | true =>
    obtain ⟨N, hN, q2⟩ := q2
    rw [if_pos rfl]
    refine wpAny_passesOwn hp (thn (hb pins s2 σ1 H2 _ I2 q2) fun f s3 q3 => ?_)
    cases f with
    | next =>
      obtain ⟨σ3, H3, I3, n3⟩ := q3
      obtain ⟨m', hm, w3⟩ := hN σ3 H3 n3
      exact ⟨m', hm, σ3, H3, I3, w3⟩
    | cont =>
      obtain ⟨σ3, H3, I3, n3⟩ := q3
      obtain ⟨m', hm, w3⟩ := hN σ3 H3 n3
      exact ⟨m', hm, σ3, H3, I3, w3⟩
    | brk => exact q3
    | ret v => exact q3
  | false =>
    rw [if_neg Bool.false_ne_true]
    exact wpAny_execs_nil ⟨σ1, H2, I2, q2⟩
end

/-! ### what a loop or a comprehension walks -/
/-- at turn i: it yields x (the heap may grow), or it stops -/
structure It where
  go : Nat → Hp → Prop
  yld : Nat → Hp → V → Hp → Prop
  stop : Nat → Hp → Prop
/-- the iterator's own objects may turn: they are not the frame's, not pinned, younger than the entry (or a comprehension's own) -/
def FpOk (X : Cx) (pins : List (Addr × Obj)) (H : Hp) (b : Addr) : Prop :=
  H b = none ∧ b ≠ X.env.locals ∧ b ∉ X.fs ∧ (b ∈ X.ex ∨ X.s_0.heap.objs.size ≤ b) ∧ (∀ x c, X.env.cells.lookup x = some c → c ≠ b) ∧ ∀ p ∈ X.pn ++ pins, p.1 ≠ b
theorem Inv.fpOk {X : Cx} {pins : List (Addr × Obj)} {σ : St} {H H' : Hp} {s : Shared} {b : Addr} (I : Inv X pins σ H s) (hb : s.heap.objs.size ≤ b) (hn : H' b = none) : FpOk X pins H' b := by
  refine ⟨hn, Nat.ne_of_gt (Nat.lt_of_lt_of_le I.lt hb), I.nofs hb, .inr (Nat.le_trans I.sz hb), fun x c e z => ?_, fun p hp z => ?_⟩
  · obtain ⟨v, q⟩ := I.cell x c e
    exact absurd (Nat.lt_of_lt_of_le q.lt (by rw [z]; exact hb)) (Nat.lt_irrefl _)
  · exact absurd (Nat.lt_of_lt_of_le (Heap.lt_size (I.pin p hp).1) (by rw [z]; exact hb)) (Nat.lt_irrefl _)
structure Turn (P : Program) (w : World) (K : PySem.W.Frag) (tg : Expr) (J : It) (fp : List Addr) (it : Addr) (tn : Nat → Heap → Prop) : Prop where
  mem : it ∈ fp
  obj : ∀ i h, tn i h → ∀ b ∈ fp, ∃ o, h.get? b = some o ∧ ∀ v, o.data ≠ .cell v
  keep : ∀ i h h', tn i h → (∀ b ∈ fp, ∀ o, h.get? b = some o → h'.get? b = some o) → tn i h'
  item : ∀ (X : Cx), X.prog = P → X.w = w → X.K = K → X.calm = true → ∀ (i : Nat) (pins : List (Addr × Obj)) (s : Shared) (σ : St) (H : Hp) (E : Value → Shared → Prop), Inv X pins σ H s → (∀ b ∈ fp, FpOk X pins H b) → tn i s.heap → J.go i H →
    wpAny (model P w) X.A (pyNext (.ref it)) (fun r s1 => ∃ u, r = some u ∧
      wpAny (model P w) X.A (letOwnedTupleGo tg (.ref it) u) (fun _ s2 => ∃ x H', Inv X pins σ H' s2 ∧ RelV x u ∧ J.yld i H x H' ∧ tn (i + 1) s2.heap ∧ ∀ b ∈ fp, H' b = none) E s1) E s
  done : ∀ (X : Cx), X.prog = P → X.w = w → X.K = K → X.calm = true → ∀ (i : Nat) (pins : List (Addr × Obj)) (s : Shared) (σ : St) (H : Hp) (E : Value → Shared → Prop), Inv X pins σ H s → (∀ b ∈ fp, FpOk X pins H b) → tn i s.heap → J.stop i H →
    wpAny (model P w) X.A (pyNext (.ref it)) (fun r s1 => r = none ∧ Inv X pins σ H s1) E s
  self : ∀ (A : Around) (i : Nat) (s : Shared) (Q : Value → Shared → Prop) (E : Value → Shared → Prop), tn i s.heap → Q (.ref it) s → wpAny (model P w) A (pyIter (.ref it)) Q E s
abbrev TI := St → Hp → (It → Hp → Prop) → Prop
/-- an iterator has come -/
def PIE (X : Cx) (pins : List (Addr × Obj)) (σ : St) (tg : Expr) (R : It → Hp → Prop) (itv : Value) (s2 : Shared) : Prop :=
  ∃ (it : Addr) (fp : List Addr) (tn : Nat → Heap → Prop) (J : It) (H' : Hp), itv = .ref it ∧ Inv X pins σ H' s2 ∧ Turn X.prog X.w X.K tg J fp it tn ∧ tn 0 s2.heap ∧ (∀ b ∈ fp, FpOk X pins H' b) ∧ R J H'
def PI (X : Cx) (tg iter : Expr) (wi : TI) : Prop :=
  ∀ (pins : List (Addr × Obj)) (s : Shared) (σ : St) (H : Hp) (R : It → Hp → Prop), Inv X pins σ H s → wi σ H R →
    wpAny (model X.prog X.w) X.A (eval iter X.env) (fun v s1 => wpAny (model X.prog X.w) X.A (pyIter v) (PIE X pins σ tg R) X.xe s1) X.xe s

/-- the step ahead of the store is nothing for an iterator that keeps no tuple -/
theorem go_of {M : Model} {A : Around} {E : Value → Shared → Prop} {s : Shared} {tg : Expr} {it : Addr} {u : Value} {o : Obj} {n : String} {vs : Array Value} {Q : Unit → Shared → Prop} (ho : s.heap.get? it = some o) (hc : o.cls = .type n) (hd : o.data = .fields vs)
    (hn : ["enumerate", "zip", "dict_itemiterator", "dict_reverseitemiterator", "odict_iterator", "itertools.zip_longest", "itertools.pairwise"].contains n = false) (hQ : Q () s) : wpAny M A (letOwnedTupleGo tg (.ref it) u) Q E s := by
  unfold letOwnedTupleGo
  cases tg <;> first
    | exact wpAny_pure hQ
    | (cases u <;> first
        | exact wpAny_pure hQ
        | (refine wpAny_bind (wpAny_load ho ?_)
           rw [hc, hd]
           show wpAny M A (if (["enumerate", "zip", "dict_itemiterator", "dict_reverseitemiterator", "odict_iterator", "itertools.zip_longest", "itertools.pairwise"].contains n && vs[0]? == some (rawInt _)) = true then _ else _) Q E s
           rw [if_neg (by intro h; rw [hn, Bool.false_and] at h; cases h)]
           exact wpAny_pure hQ))

/-- the list at a, as it stands at each turn (a loop may append to it) -/
def Itl (K : PySem.W.Frag) (a : Addr) : It :=
  ⟨fun i H => ∃ xs x, SqL K H a xs ∧ xs[i]? = some x, fun i H x H' => H' = H ∧ ∀ xs, SqL K H a xs → xs[i]? = some x, fun i H => ∃ xs, SqL K H a xs ∧ xs.length ≤ i⟩
def Itt (K : PySem.W.Frag) (a : Addr) : It :=
  ⟨fun i H => ∃ xs x, SqT K H a xs ∧ xs[i]? = some x, fun i H x H' => H' = H ∧ ∀ xs, SqT K H a xs → xs[i]? = some x, fun i H => ∃ xs, SqT K H a xs ∧ xs.length ≤ i⟩
/-- lo, lo + 1, .. (n of them) -/
def Itr (lo : Int) (n : Nat) : It := ⟨fun i _ => i < n, fun i H x H' => H' = H ∧ x = .int (lo + i), fun i _ => n ≤ i⟩
theorem turn_list {P : Program} {w : World} {K : PySem.W.Frag} {tg : Expr} (a it : Addr) : Turn P w K tg (Itl K a) [it] it (fun i h => h.IsListIter it a i) where
  mem := by simp
  obj := fun i h st b hb => by
    have e : b = it := by simpa using hb
    subst e
    obtain ⟨o, e, c, d⟩ := st
    exact ⟨o, e, fun v z => by rw [d] at z; cases z⟩
  keep := fun i h h' st k => st.at fun o e => k it (by simp) o e
  item := by
    intro X hP hw hK hc i pins s σ H E I hf st hg
    subst hP hw hK
    obtain ⟨xs, x, hq, hx⟩ := hg
    obtain ⟨its, rv, p, hz⟩ := I.list hq
    obtain ⟨u, hu, ru⟩ := rv.get hx
    obtain ⟨f0, f1, f2, f3, f4, f5⟩ := hf it (by simp)
    refine wpAny_pyNext_list_item st p.isList (x := u) (by simpa using hu) fun h' st' sb => ?_
    have I1 : Inv X pins σ H { s with heap := h' } := I.turned (t' := s.toks) (fun b o hb e => (sb.2 b hb).trans e) f0 f1 f3 f4 f5
    obtain ⟨o, e, c, d⟩ := id st'
    exact ⟨u, rfl, go_of (s := { s with heap := h' }) e c d (by decide) ⟨x, H, I1, ru, ⟨rfl, fun ys hy => by rw [I.list_inj hy hq]; exact hx⟩, st', fun b hb => (hf b hb).1⟩⟩
  done := by
    intro X hP hw hK hc i pins s σ H E I hf st hg
    subst hP hw hK
    obtain ⟨xs, hq, hx⟩ := hg
    obtain ⟨its, rv, p, hz⟩ := I.list hq
    obtain ⟨f0, f1, f2, f3, f4, f5⟩ := hf it (by simp)
    have hl := rv.length
    exact wpAny_pyNext_list_end (I.ok.hd hc) st p.isList (by simp; omega) fun h' eb => ⟨rfl, I.turned (t' := s.toks) (fun b o hb e => eb b o hb e) f0 f1 f3 f4 f5⟩
  self := fun _ _ _ _ _ st h => wpAny_pyIter_listiter st h
theorem turn_tuple {P : Program} {w : World} {K : PySem.W.Frag} {tg : Expr} (a it : Addr) : Turn P w K tg (Itt K a) [it] it (fun i h => h.IsTupleIter it a i) where
  mem := by simp
  obj := fun i h st b hb => by
    have e : b = it := by simpa using hb
    subst e
    obtain ⟨o, e, c, d⟩ := st
    exact ⟨o, e, fun v z => by rw [d] at z; cases z⟩
  keep := fun i h h' st k => st.at fun o e => k it (by simp) o e
  item := by
    intro X hP hw hK hc i pins s σ H E I hf st hg
    subst hP hw hK
    obtain ⟨xs, x, hq, hx⟩ := hg
    obtain ⟨its, rv, p, hz⟩ := I.tuple hq
    obtain ⟨u, hu, ru⟩ := rv.get hx
    obtain ⟨f0, f1, f2, f3, f4, f5⟩ := hf it (by simp)
    refine wpAny_pyNext_tuple_item st (show s.heap.IsTuple a its.toArray from p) (x := u) (by simpa using hu) fun h' st' sb => ?_
    have I1 : Inv X pins σ H { s with heap := h' } := I.turned (t' := s.toks) (fun b o hb e => (sb.2 b hb).trans e) f0 f1 f3 f4 f5
    obtain ⟨o, e, c, d⟩ := id st'
    exact ⟨u, rfl, go_of (s := { s with heap := h' }) e c d (by decide) ⟨x, H, I1, ru, ⟨rfl, fun ys hy => by rw [I.tuple_inj hy hq]; exact hx⟩, st', fun b hb => (hf b hb).1⟩⟩
  done := by
    intro X hP hw hK hc i pins s σ H E I hf st hg
    subst hP hw hK
    obtain ⟨xs, hq, hx⟩ := hg
    obtain ⟨its, rv, p, hz⟩ := I.tuple hq
    obtain ⟨f0, f1, f2, f3, f4, f5⟩ := hf it (by simp)
    have hl := rv.length
    exact wpAny_pyNext_tuple_end (I.ok.hd hc) st (show s.heap.IsTuple a its.toArray from p) (by simp; omega) fun h' eb => ⟨rfl, I.turned (t' := s.toks) (fun b o hb e => eb b o hb e) f0 f1 f3 f4 f5⟩
  self := fun _ _ _ _ _ st h => wpAny_pyIter_tupleiter st h
theorem turn_range {P : Program} {w : World} {K : PySem.W.Frag} {tg : Expr} (it : Addr) (lo : Int) (n : Nat) : Turn P w K tg (Itr lo n) [it] it (fun i h => IsRangeIter h it (lo + (i : Nat) * 1) ((n : Int) - (i : Nat)) 1) where
  mem := by simp
  obj := fun i h st b hb => by
    have e : b = it := by simpa using hb
    subst e
    exact ⟨_, st, fun v z => by
      have z' : Data.fields _ = Data.cell v := z
      cases z'⟩
  keep := fun i h h' st k => k it (by simp) _ st
  item := by
    intro X hP hw hK hc i pins s σ H E I hf st hg
    subst hP hw hK
    obtain ⟨f0, f1, f2, f3, f4, f5⟩ := hf it (by simp)
    have W := Walks.range (prog := X.prog) (w := X.w) (I.ok.hd hc) it lo 1 n
    refine W.item i s _ _ hg st fun v h' tk hv st' kk => ?_
    obtain ⟨t, rfl⟩ := hv
    have I1 : Inv X pins σ H { s with heap := h', toks := tk } := I.turned (fun b o hb e => kk b o (by simpa using hb) e) f0 f1 f3 f4 f5
    refine ⟨_, rfl, go_of (s := { s with heap := h', toks := tk }) (n := "range_iterator") st' rfl rfl (by decide) ⟨.int (lo + i), H, I1, ⟨t, ?_⟩, ⟨rfl, rfl⟩, st', fun b hb => (hf b hb).1⟩⟩
    rw [Int.mul_one]
  done := by
    intro X hP hw hK hc i pins s σ H E I hf st hg
    subst hP hw hK
    obtain ⟨f0, f1, f2, f3, f4, f5⟩ := hf it (by simp)
    exact wpAny_pyNext_range_end (I.ok.hd hc) st (by have : n ≤ i := hg; omega) fun h' eb => ⟨rfl, I.turned (t' := s.toks) (fun b o hb e => eb b o hb e) f0 f1 f3 f4 f5⟩
  self := fun _ _ _ _ _ st h => wpAny_pyIter_rangeiter st h
end L2

namespace L2
open PySem PySem.Spec PyProof.Rows
section
variable {X : Cx} {tg : Expr}
def iList (K : PySem.W.Frag) (tl : TE) : TI := fun σ H R => tl σ H fun x H1 => ∃ a, x = .ref a ∧ (∃ xs, SqL K H1 a xs) ∧ R (Itl K a) H1
def iTup (K : PySem.W.Frag) (tl : TE) : TI := fun σ H R => tl σ H fun x H1 => ∃ a, x = .ref a ∧ (∃ xs, SqT K H1 a xs) ∧ R (Itt K a) H1
theorem pi_list {l : Expr} {tl : TE} (hl : PE X l tl) : PI X tg l (iList X.K tl) := by
  intro pins s σ H R I h
  refine thn (hl pins s σ H _ I h) fun v s1 ⟨x, H1, I1, r1, q1⟩ => ?_
  obtain ⟨a, e, ⟨xs, hq⟩, q⟩ := q1
  subst e
  cases r1
  obtain ⟨its, rv, p, hz⟩ := I1.list hq
  refine wpAny_pyIter_list p.isList ?_
  refine ⟨s1.heap.objs.size, [s1.heap.objs.size], _, _, H1, rfl, I1.kept (t' := s1.toks) fun b o e => Heap.get?_push_of_some _ e, turn_list a _, ⟨_, Heap.get?_push_size _ rfl, rfl, rfl⟩, fun b hb => ?_, q⟩
  have e : b = s1.heap.objs.size := by simpa using hb
  subst e
  exact I1.fpOk (Nat.le_refl _) (I1.hok.fresh (Nat.le_refl _))
theorem pi_tup {l : Expr} {tl : TE} (hl : PE X l tl) : PI X tg l (iTup X.K tl) := by
  intro pins s σ H R I h
  refine thn (hl pins s σ H _ I h) fun v s1 ⟨x, H1, I1, r1, q1⟩ => ?_
  obtain ⟨a, e, ⟨xs, hq⟩, q⟩ := q1
  subst e
  cases r1
  obtain ⟨its, rv, p, hz⟩ := I1.tuple hq
  refine wpAny_pyIter_tuple (show s1.heap.IsTuple a its.toArray from p) ?_
  refine ⟨s1.heap.objs.size, [s1.heap.objs.size], _, _, H1, rfl, I1.kept (t' := s1.toks) fun b o e => Heap.get?_push_of_some _ e, turn_tuple a _, ⟨_, Heap.get?_push_size _ rfl, rfl, rfl⟩, fun b hb => ?_, q⟩
  have e : b = s1.heap.objs.size := by simpa using hb
  subst e
  exact I1.fpOk (Nat.le_refl _) (I1.hok.fresh (Nat.le_refl _))
/-- a range object just made, walked -/
theorem range_it {pins : List (Addr × Obj)} {σ : St} {H : Hp} {s : Shared} {R : It → Hp → Prop} {E : Value → Shared → Prop} {lo hi : Int} {t u v : Tok} {tk : Nat} (I : Inv X pins σ H s) (h1 : -(2 ^ 62) ≤ lo) (h2 : lo < 2 ^ 62) (h3 : -(2 ^ 62) ≤ hi) (h4 : hi < 2 ^ 62)
    (q : R (Itr lo (hi - lo).toNat) H) : wpAny (model X.prog X.w) X.A (pyIter (.ref s.heap.objs.size)) (PIE X pins σ tg R) E { s with heap := s.heap.push { cls := .type "range", data := .fields #[.int lo t, .int hi u, .int 1 v] }, toks := tk } := by
  refine wpAny_pyIter_range (IsRange.new ..) (small_one h1 h2 h3 h4) ?_
  have I1 : Inv X pins σ H { s with heap := s.heap.push { cls := .type "range", data := .fields #[.int lo t, .int hi u, .int 1 v] }, toks := tk } := I.kept fun b o e => Heap.get?_push_of_some _ e
  refine ⟨(s.heap.push { cls := .type "range", data := .fields #[.int lo t, .int hi u, .int 1 v] }).objs.size, [(s.heap.push { cls := .type "range", data := .fields #[.int lo t, .int hi u, .int 1 v] }).objs.size], _, _, H, rfl,
    I1.kept (t' := tk) fun b o e => Heap.get?_push_of_some _ e, turn_range _ lo (hi - lo).toNat, ?_, fun b hb => ?_, q⟩
  · have e1 : lo + ((0 : Nat) : Int) * 1 = lo := by simp
    have e2 : (((hi - lo).toNat : Nat) : Int) - ((0 : Nat) : Int) = Builtin.Range.rangeSize lo hi 1 := by rw [rangeSize_one]; split <;> omega
    show IsRangeIter _ _ (lo + ((0 : Nat) : Int) * 1) ((((hi - lo).toNat : Nat) : Int) - ((0 : Nat) : Int)) 1
    rw [e1, e2]
    exact Heap.get?_push_size _ rfl
  · have e : b = (s.heap.push { cls := .type "range", data := .fields #[.int lo t, .int hi u, .int 1 v] }).objs.size := by simpa using hb
    subst e
    exact I1.fpOk (Nat.le_refl _) (I1.hok.fresh (Nat.le_refl _))
def iRng1 (ta : TA) : TI := fun σ H R => ta σ H fun vs H1 => ∃ j : Int, vs = [.int j] ∧ -(2 ^ 62) ≤ j ∧ j < 2 ^ 62 ∧ R (Itr 0 j.toNat) H1
def iRng2 (ta : TA) : TI := fun σ H R => ta σ H fun vs H1 => ∃ i j : Int, vs = [.int i, .int j] ∧ (-(2 ^ 62) ≤ i ∧ i < 2 ^ 62 ∧ -(2 ^ 62) ≤ j ∧ j < 2 ^ 62) ∧ R (Itr i (j - i).toNat) H1
theorem pi_range1 {a : Expr} {ta : TA} {p pos : Pos} (hg : Gl X "range") (hm : X.mg "range" = none) (ha : PA X [a] ta) (hs : starEach [a] X.env = [(false, eval a X.env)] := by rfl) : PI X tg (.Call (.Name "range" p) [a] [] pos) (iRng1 ta) := by
  intro pins s σ H R I h
  refine Call_ (ld_blt I hg hm boot_range (PyProof.Rows.callWith_type1 (thn (ha pos pins s σ H _ I h) fun us s1 ⟨vs, H1, I1, r1, q1⟩ => ?_) hs rfl))
  obtain ⟨j, e, q1, q2, q⟩ := q1
  subst e
  cases r1 with
  | cons r rr =>
    cases rr
    obtain ⟨t, rfl⟩ := r
    exact call_range_1 (range_it I1 (by omega) (by omega) q1 q2 (by simpa using q))
theorem pi_range2 {a b : Expr} {ta : TA} {p pos : Pos} (hg : Gl X "range") (hm : X.mg "range" = none) (ha : PA X [a, b] ta) (hs : starEach [a, b] X.env = [(false, eval a X.env), (false, eval b X.env)] := by rfl) (hs2 : starEach [b] X.env = [(false, eval b X.env)] := by rfl) :
    PI X tg (.Call (.Name "range" p) [a, b] [] pos) (iRng2 ta) := by
  intro pins s σ H R I h
  refine Call_ (ld_blt I hg hm boot_range (PyProof.Rows.callWith_type1 (thn (ha pos pins s σ H _ I h) fun us s1 ⟨vs, H1, I1, r1, q1⟩ => ?_) (by rw [hs, hs2]) (by rw [hs2]; rfl)))
  obtain ⟨i, j, e, ⟨q1, q2, q3, q4⟩, q⟩ := q1
  subst e
  cases r1 with
  | cons r rr =>
    cases rr with
    | cons r' rr =>
      cases rr
      obtain ⟨t, rfl⟩ := r
      obtain ⟨t', rfl⟩ := r'
      exact call_range_2 (range_it I1 q1 q2 q3 q4 q)

/-! ### for -/
/-- W: the invariant by the turn and a measure; N: what the body is to reach -/
def tFor (wi : TI) (g : TG) (tb : TS) : TS := fun D σ H => wi σ H fun J H1 => ∃ W : Nat → Nat → St → Hp → Prop, (∃ m, W 0 m σ H1) ∧ ∀ i m σ H, W i m σ H →
  (J.stop i H ∧ D.nx σ H) ∨ (J.go i H ∧ ∃ N : St → Hp → Prop, (∀ σ' H', N σ' H' → ∃ m', m' < m ∧ W (i + 1) m' σ' H') ∧ ∀ x H', J.yld i H x H' → g x σ H' fun σ2 H2 => tb { D with nx := N, ct := N, bk := D.nx } σ2 H2)
/-- the records at fp as they stand -/
def pinsAt (fp : List Addr) (h : Heap) : List (Addr × Obj) := fp.filterMap fun b => (h.get? b).map fun o => (b, o)
theorem mem_pinsAt {fp : List Addr} {h : Heap} {b : Addr} {o : Obj} (hb : b ∈ fp) (e : h.get? b = some o) : (b, o) ∈ pinsAt fp h := List.mem_filterMap.mpr ⟨b, hb, by rw [e]; rfl⟩
theorem of_pinsAt {fp : List Addr} {h : Heap} {p : Addr × Obj} (hp : p ∈ pinsAt fp h) : p.1 ∈ fp ∧ h.get? p.1 = some p.2 := by
  obtain ⟨b, hb, e⟩ := List.mem_filterMap.mp hp
  cases q : h.get? b with
  | none => rw [q] at e; cases e
  | some o =>
    rw [q] at e
    have e' : (b, o) = p := Option.some.inj e
    subst e'
    exact ⟨hb, q⟩
theorem Inv.pinned {pins : List (Addr × Obj)} {σ : St} {H : Hp} {s : Shared} {fp : List Addr} (I : Inv X pins σ H s) (hf : ∀ b ∈ fp, FpOk X pins H b) (ho : ∀ b ∈ fp, ∃ o, s.heap.get? b = some o ∧ ∀ v, o.data ≠ .cell v) : Inv X (pins ++ pinsAt fp s.heap) σ H s :=
  I.pins_of fun p hp => (List.mem_append.mp hp).elim (fun z => I.pin p (List.mem_append_right _ z)) fun z => by
    obtain ⟨hb, e⟩ := of_pinsAt z
    obtain ⟨f0, f1, f2, _⟩ := hf p.1 hb
    obtain ⟨o, e', d⟩ := ho p.1 hb
    rw [e] at e'; cases e'
    exact ⟨e, f0, f1, f2, d⟩
theorem Inv.unpinned {pins pl : List (Addr × Obj)} {σ : St} {H : Hp} {s : Shared} (I : Inv X (pins ++ pl) σ H s) : Inv X pins σ H s := I.pins_of fun p hp => I.pin p (List.mem_append_right _ (List.mem_append_left _ hp))
theorem ps_for {iter : Expr} {body : List Stmt} {wi : TI} {g : TG} {tb : TS} {pos : Pos} (hp : PassesOwn (model X.prog X.w) X.A X.env X.xe) (hc : X.calm = true) (hi : PI X tg iter wi) (hg : PG X tg g) (hb : PSs X body tb)
    (hs : ∀ x, foldedSetIterable iter X.env x = pure x := by intro _; rfl) : PS X (.For tg iter body [] pos) (tFor wi g tb) := by
  intro pins s σ H D I h
  refine wpAny_For (thn (hi pins s σ H _ I h) fun v s1 h1 => thn h1 fun itv s2 h2 => ?_) hs
  obtain ⟨it, fp, tn, J, H2, e, I2, T, st2, f2, W, ⟨m0, w0⟩, turn⟩ := h2
  subst e
  -- what stays true of the iterator's objects through the loop
  have stat : ∀ {H' : Hp}, (∀ b ∈ fp, H' b = none) → ∀ b ∈ fp, FpOk X pins H' b := fun hn b hb => ⟨hn b hb, (f2 b hb).2⟩
  refine codeAny_forLoop_any (fun n s' => ∃ i σ' H', Inv X pins σ' H' s' ∧ tn i s'.heap ∧ (∀ b ∈ fp, H' b = none) ∧ W i n σ' H') ?_ m0 ⟨0, σ, H2, I2, st2, fun b hb => (f2 b hb).1, w0⟩
  rintro n s3 ⟨i, σ3, H3, I3, st3, fr3, w3⟩
  rcases turn i n σ3 H3 w3 with ⟨stop, qn⟩ | ⟨go, N, hN, step⟩
  · refine wpAny_passesOwn hp (thn (T.done X rfl rfl rfl hc i pins s3 σ3 H3 X.xe I3 (stat fr3) st3 stop) fun r s4 ⟨hr, I4⟩ => ?_)
    subst hr
    exact wpAny_execs_nil ⟨σ3, H3, I4, qn⟩
  · refine wpAny_passesOwn hp (thn (T.item X rfl rfl rfl hc i pins s3 σ3 H3 X.xe I3 (stat fr3) st3 go) fun r s4 ⟨u, hr, h4⟩ => ?_)
    subst hr
    refine wpAny_passesOwn hp (thn h4 fun _ s5 ⟨x, H5, I5, r5, y5, st5, fr5⟩ => ?_)
    have I5' := I5.pinned (stat fr5) (T.obj _ _ st5)
    refine wpAny_passesOwn hp (thn (hg _ s5 σ3 H5 x u _ I5' r5 (step x H5 y5)) fun _ s6 ⟨σ6, H6, I6, q6⟩ => ?_)
    refine wpAny_passesOwn hp (thn (hb _ s6 σ6 H6 _ I6 q6) fun f s7 q7 => ?_)
    have again : ∀ {σ7 : St} {H7 : Hp}, Inv X (pins ++ pinsAt fp s5.heap) σ7 H7 s7 → N σ7 H7 → ∃ m, m < n ∧ ∃ i σ' H', Inv X pins σ' H' s7 ∧ tn i s7.heap ∧ (∀ b ∈ fp, H' b = none) ∧ W i m σ' H' := fun {σ7 H7} I7 n7 => by
      obtain ⟨m', hm, w7⟩ := hN σ7 H7 n7
      refine ⟨m', hm, i + 1, σ7, H7, I7.unpinned, T.keep _ _ _ st5 fun b hb o e => (I7.pin (b, o) (List.mem_append_right _ (List.mem_append_right _ (mem_pinsAt hb e)))).1, fun b hb => ?_, w7⟩
      obtain ⟨o, e, d⟩ := T.obj _ _ st5 b hb
      exact (I7.pin (b, o) (List.mem_append_right _ (List.mem_append_right _ (mem_pinsAt hb e)))).2.1
    cases f with
    | next => obtain ⟨σ7, H7, I7, n7⟩ := q7; exact again I7 n7
    | cont => obtain ⟨σ7, H7, I7, n7⟩ := q7; exact again I7 n7
    | brk => obtain ⟨σ7, H7, I7, q7⟩ := q7; exact ⟨σ7, H7, I7.unpinned, q7⟩
    | ret v => obtain ⟨x7, σ7, H7, I7, r7, q7⟩ := q7; exact ⟨x7, σ7, H7, I7.unpinned, r7, q7⟩
end

/-! ### the forms one uses -/
/-- over a list that the body leaves as it is -/
theorem for_list {K : PySem.W.Frag} {a : Addr} {xs : List V} {g : TG} {tb : TS} {D : Ends} {σ : St} {H : Hp} (Pv : Nat → St → Hp → Prop) (h0 : Pv 0 σ H) (hl : ∀ i σ H, i ≤ xs.length → Pv i σ H → SqL K H a xs)
    (hs : ∀ i x σ H, xs[i]? = some x → Pv i σ H → g x σ H fun σ2 H2 => tb { D with nx := Pv (i + 1), ct := Pv (i + 1), bk := D.nx } σ2 H2) (hd : ∀ σ H, Pv xs.length σ H → D.nx σ H) :
    ∃ W : Nat → Nat → St → Hp → Prop, (∃ m, W 0 m σ H) ∧ ∀ i m σ H, W i m σ H →
      ((Itl K a).stop i H ∧ D.nx σ H) ∨ ((Itl K a).go i H ∧ ∃ N : St → Hp → Prop, (∀ σ' H', N σ' H' → ∃ m', m' < m ∧ W (i + 1) m' σ' H') ∧ ∀ x H', (Itl K a).yld i H x H' → g x σ H' fun σ2 H2 => tb { D with nx := N, ct := N, bk := D.nx } σ2 H2) := by
  refine ⟨fun i m σ H => m = xs.length - i ∧ i ≤ xs.length ∧ Pv i σ H, ⟨xs.length, by simp, Nat.zero_le _, h0⟩, ?_⟩
  rintro i m σ H ⟨rfl, hi, p⟩
  have q := hl i σ H hi p
  by_cases hlt : i < xs.length
  · refine .inr ⟨⟨xs, xs[i], q, by simp [hlt]⟩, Pv (i + 1), fun σ' H' p' => ⟨xs.length - (i + 1), by omega, rfl, hlt, p'⟩, fun x H' y => ?_⟩
    obtain ⟨e, y⟩ := y
    subst e
    exact hs i x σ _ (y xs q) p
  · have e : i = xs.length := by omega
    subst e
    exact .inl ⟨⟨xs, q, Nat.le_refl _⟩, hd σ H p⟩
theorem for_tup {K : PySem.W.Frag} {a : Addr} {xs : List V} {g : TG} {tb : TS} {D : Ends} {σ : St} {H : Hp} (Pv : Nat → St → Hp → Prop) (h0 : Pv 0 σ H) (hl : ∀ i σ H, i ≤ xs.length → Pv i σ H → SqT K H a xs)
    (hs : ∀ i x σ H, xs[i]? = some x → Pv i σ H → g x σ H fun σ2 H2 => tb { D with nx := Pv (i + 1), ct := Pv (i + 1), bk := D.nx } σ2 H2) (hd : ∀ σ H, Pv xs.length σ H → D.nx σ H) :
    ∃ W : Nat → Nat → St → Hp → Prop, (∃ m, W 0 m σ H) ∧ ∀ i m σ H, W i m σ H →
      ((Itt K a).stop i H ∧ D.nx σ H) ∨ ((Itt K a).go i H ∧ ∃ N : St → Hp → Prop, (∀ σ' H', N σ' H' → ∃ m', m' < m ∧ W (i + 1) m' σ' H') ∧ ∀ x H', (Itt K a).yld i H x H' → g x σ H' fun σ2 H2 => tb { D with nx := N, ct := N, bk := D.nx } σ2 H2) := by
  refine ⟨fun i m σ H => m = xs.length - i ∧ i ≤ xs.length ∧ Pv i σ H, ⟨xs.length, by simp, Nat.zero_le _, h0⟩, ?_⟩
  rintro i m σ H ⟨rfl, hi, p⟩
  have q := hl i σ H hi p
  by_cases hlt : i < xs.length
  · refine .inr ⟨⟨xs, xs[i], q, by simp [hlt]⟩, Pv (i + 1), fun σ' H' p' => ⟨xs.length - (i + 1), by omega, rfl, hlt, p'⟩, fun x H' y => ?_⟩
    obtain ⟨e, y⟩ := y
    subst e
    exact hs i x σ _ (y xs q) p
  · have e : i = xs.length := by omega
    subst e
    exact .inl ⟨⟨xs, q, Nat.le_refl _⟩, hd σ H p⟩
theorem for_range {lo : Int} {n : Nat} {g : TG} {tb : TS} {D : Ends} {σ : St} {H : Hp} (Pv : Nat → St → Hp → Prop) (h0 : Pv 0 σ H)
    (hs : ∀ i σ H, i < n → Pv i σ H → g (.int (lo + i)) σ H fun σ2 H2 => tb { D with nx := Pv (i + 1), ct := Pv (i + 1), bk := D.nx } σ2 H2) (hd : ∀ σ H, Pv n σ H → D.nx σ H) :
    ∃ W : Nat → Nat → St → Hp → Prop, (∃ m, W 0 m σ H) ∧ ∀ i m σ H, W i m σ H →
      ((Itr lo n).stop i H ∧ D.nx σ H) ∨ ((Itr lo n).go i H ∧ ∃ N : St → Hp → Prop, (∀ σ' H', N σ' H' → ∃ m', m' < m ∧ W (i + 1) m' σ' H') ∧ ∀ x H', (Itr lo n).yld i H x H' → g x σ H' fun σ2 H2 => tb { D with nx := N, ct := N, bk := D.nx } σ2 H2) := by
  refine ⟨fun i m σ H => m = n - i ∧ i ≤ n ∧ Pv i σ H, ⟨n, by simp, Nat.zero_le _, h0⟩, ?_⟩
  rintro i m σ H ⟨rfl, hi, p⟩
  by_cases hlt : i < n
  · refine .inr ⟨hlt, Pv (i + 1), fun σ' H' p' => ⟨n - (i + 1), by omega, rfl, hlt, p'⟩, fun x H' y => ?_⟩
    obtain ⟨e, y⟩ := y
    subst e y
    exact hs i σ _ hlt p
  · have e : i = n := by omega
    subst e
    exact .inl ⟨Nat.le_refl _, hd σ H p⟩
/-- while, by a word and a measure of the state -/
theorem while_by {c : TT} {tb : TS} {D : Ends} {σ : St} {H : Hp} (Pv : St → Hp → Prop) (μ : St → Hp → Nat) (h0 : Pv σ H)
    (hs : ∀ σ H, Pv σ H → c σ H fun b H1 => if b = true then tb { D with nx := fun σ' H' => Pv σ' H' ∧ μ σ' H' < μ σ H, ct := fun σ' H' => Pv σ' H' ∧ μ σ' H' < μ σ H, bk := D.nx } σ H1 else D.nx σ H1)
    (mono : ∀ σ H Q Q', (∀ b H1, Q b H1 → Q' b H1) → c σ H Q → c σ H Q') : tWhile c tb D σ H := by
  refine ⟨fun m σ H => m = μ σ H ∧ Pv σ H, ⟨_, rfl, h0⟩, ?_⟩
  rintro m σ H ⟨rfl, p⟩
  refine mono σ H _ _ (fun b H1 q => ?_) (hs σ H p)
  cases b with
  | true => exact ⟨_, fun σ' H' ⟨p', l⟩ => ⟨_, l, rfl, p'⟩, q⟩
  | false => exact q
end L2

namespace L2
open PySem PySem.Spec PyProof.Rows

abbrev R2 := V → V → Hp → VK → Prop
/-- a two-place operation on values: f is binaryOp op, inplaceOp op or compareOp op -/
def OpR (X : Cx) (f : Value → Value → Sem Value) (r : R2) : Prop :=
  ∀ (pins : List (Addr × Obj)) (s : Shared) (σ : St) (H : Hp) (x y : V) (v u : Value) (Q : VK), Inv X pins σ H s → RelV x v → RelV y u → r x y H Q →
    wpAny (model X.prog X.w) X.A (f v u) (EP X pins σ Q) X.xe s
/-- a one-place operation -/
def UnR (X : Cx) (f : Value → Sem Value) (r : V → Hp → VK → Prop) : Prop :=
  ∀ (pins : List (Addr × Obj)) (s : Shared) (σ : St) (H : Hp) (x : V) (v : Value) (Q : VK), Inv X pins σ H s → RelV x v → r x H Q →
    wpAny (model X.prog X.w) X.A (f v) (EP X pins σ Q) X.xe s
/-- a call of a value that is known (a builtin, a type) with values -/
def CallR (X : Cx) (f : Value) (r : List V → Hp → VK → Prop) : Prop :=
  ∀ (pins : List (Addr × Obj)) (s : Shared) (σ : St) (H : Hp) (xs : List V) (us : List Value) (Q : VK), Inv X pins σ H s → Vals xs us → r xs H Q →
    wpAny (model X.prog X.w) X.A (call f us) (EP X pins σ Q) X.xe s
/-- a value's truth -/
def TruR (X : Cx) (r : V → Hp → (Bool → Hp → Prop) → Prop) : Prop :=
  ∀ (pins : List (Addr × Obj)) (s : Shared) (σ : St) (H : Hp) (x : V) (v : Value) (Q : Bool → Hp → Prop), Inv X pins σ H s → RelV x v → r x H Q →
    wpAny (model X.prog X.w) X.A (truthy v) (TP X pins σ Q) X.xe s

def tOp (r : R2) (ta tb : TE) : TE := fun σ H Q => ta σ H fun x H1 => tb σ H1 fun y H2 => r x y H2 Q
def tUn (r : V → Hp → VK → Prop) (ta : TE) : TE := fun σ H Q => ta σ H fun x H1 => r x H1 Q
/-- ints in, under C, and a value out -/
def rI (C : Int → Int → Prop) (g : Int → Int → V) : R2 := fun x y H Q => ∃ i j, x = .int i ∧ y = .int j ∧ C i j ∧ Q (g i j) H
def rI0 (g : Int → Int → V) : R2 := fun x y H Q => ∃ i j, x = .int i ∧ y = .int j ∧ Q (g i j) H
def rU (g : Int → V) : V → Hp → VK → Prop := fun x H Q => ∃ i, x = .int i ∧ Q (g i) H

section
variable {X : Cx} {a b c : Expr} {ta tb tc : TE} {pos : Pos}

theorem binT (ha : PE X a ta) (hb : PE X b tb) {pins : List (Addr × Obj)} {s : Shared} {σ : St} {H : Hp} {R : V → V → Hp → Prop} (I : Inv X pins σ H s)
    (h : ta σ H fun x H1 => tb σ H1 fun y H2 => R x y H2) {Q : Value → Shared → Prop} {f : Value → Value → Sem Value}
    (hf : ∀ v u s2 x y H2, Inv X pins σ H2 s2 → RelV x v → RelV y u → R x y H2 → wpAny (model X.prog X.w) X.A (f v u) Q X.xe s2) :
    wpAny (model X.prog X.w) X.A (eval a X.env) (fun v s₁ => wpAny (model X.prog X.w) X.A (eval b X.env) (fun u s₂ => wpAny (model X.prog X.w) X.A (f v u) Q X.xe s₂) X.xe s₁) X.xe s := by
  refine thn (ha pins s σ H _ I h) fun v s1 ⟨x, H1, I1, r1, q1⟩ => ?_
  refine thn (hb pins s1 σ H1 _ I1 q1) fun u s2 ⟨y, H2, I2, r2, q2⟩ => ?_
  exact hf v u s2 x y H2 I2 r1 r2 q2

theorem pe_op {op : Operator} {r : R2} (ho : OpR X (binaryOp op) r) (ha : PE X a ta) (hb : PE X b tb) : PE X (.BinOp a op b pos) (tOp r ta tb) := by
  intro pins s σ H Q I h
  exact wpAny_BinOp (binT ha hb I h fun v u s2 x y H2 I2 rx ry q => ho pins s2 σ H2 x y v u Q I2 rx ry q)
theorem pe_un {op : UnaryOp} {r : V → Hp → VK → Prop} (ho : UnR X (unaryOp op) r) (ha : PE X a ta) : PE X (.UnaryOp op a pos) (tUn r ta) := by
  intro pins s σ H Q I h
  exact UnaryOp_ (thn (ha pins s σ H _ I h) fun v s1 ⟨x, H1, I1, r1, q1⟩ => ho pins s1 σ H1 x v Q I1 r1 q1)
/-- a op= e at a name: the name's slot i -/
theorem augR {op : Operator} {r : R2} (ho : OpR X (inplaceOp op) r) {pins : List (Addr × Obj)} {s : Shared} {σ : St} {H : Hp} {x y : V} {v u : Value} {Q : VK} (I : Inv X pins σ H s)
    (rx : RelV x v) (ry : RelV y u) (q : r x y H Q) : wpAny (model X.prog X.w) X.A (inplaceOp op v u) (EP X pins σ Q) X.xe s := ho pins s σ H x y v u Q I rx ry q

/-! ### ints -/
theorem opI {f : Value → Value → Sem Value} {C : Int → Int → Prop} {g : Int → Int → Int}
    (rule : ∀ (i j : Int) (t u : Tok) (s : Shared) (Q : Value → Shared → Prop) (E : Value → Shared → Prop), C i j → Q (.int (g i j) s.toks) { s with toks := s.toks + 1 } → wpAny (model X.prog X.w) X.A (f (.int i t) (.int j u)) Q E s) :
    OpR X f (rI C fun i j => .int (g i j)) := by
  intro pins s σ H x y v u Q I rx ry h
  obtain ⟨i, j, rfl, rfl, hc, q⟩ := h
  obtain ⟨t, rfl⟩ := rx
  obtain ⟨t', rfl⟩ := ry
  exact rule i j t t' s _ _ hc ⟨.int (g i j), H, I.tok _, ⟨_, rfl⟩, q⟩
theorem opI0 {f : Value → Value → Sem Value} {g : Int → Int → Int}
    (rule : ∀ (i j : Int) (t u : Tok) (s : Shared) (Q : Value → Shared → Prop) (E : Value → Shared → Prop), Q (.int (g i j) s.toks) { s with toks := s.toks + 1 } → wpAny (model X.prog X.w) X.A (f (.int i t) (.int j u)) Q E s) :
    OpR X f (rI0 fun i j => .int (g i j)) := by
  intro pins s σ H x y v u Q I rx ry h
  obtain ⟨i, j, rfl, rfl, q⟩ := h
  obtain ⟨t, rfl⟩ := rx
  obtain ⟨t', rfl⟩ := ry
  exact rule i j t t' s _ _ ⟨.int (g i j), H, I.tok _, ⟨_, rfl⟩, q⟩
theorem opB0 {f : Value → Value → Sem Value} {g : Int → Int → Bool}
    (rule : ∀ (i j : Int) (t u : Tok) (s : Shared) (Q : Value → Shared → Prop) (E : Value → Shared → Prop), Q (.bool (g i j)) s → wpAny (model X.prog X.w) X.A (f (.int i t) (.int j u)) Q E s) :
    OpR X f (rI0 fun i j => .bl (g i j)) := by
  intro pins s σ H x y v u Q I rx ry h
  obtain ⟨i, j, rfl, rfl, q⟩ := h
  obtain ⟨t, rfl⟩ := rx
  obtain ⟨t', rfl⟩ := ry
  exact rule i j t t' s _ _ ⟨.bl (g i j), H, I, rfl, q⟩

def CDiv (i j : Int) : Prop := 0 < j ∧ j < 1073741824
def CDivN (i j : Int) : Prop := j ≠ 0 ∧ j.natAbs < 1073741824
def CPow (i j : Int) : Prop := 0 ≤ j ∧ j ≤ 1000000 ∧ i.natAbs < 2 ^ 64
def CMul (i j : Int) : Prop := (-(2 ^ 64) < i ∧ i < 2 ^ 64) ∨ (-(2 ^ 64) < j ∧ j < 2 ^ 64)
theorem CMul.ok {i j : Int} (h : CMul i j) : IntMulOk i j := by
  rcases h with ⟨h1, h2⟩ | ⟨h1, h2⟩
  · exact .of_left (intBits_le_64 h1 h2)
  · exact .of_right (intBits_le_64 h1 h2)
theorem two_pow_nn (k : Nat) : (0 : Int) ≤ 2 ^ k := by
  rw [two_pow_cast]
  exact Int.natCast_nonneg _

theorem op_add : OpR X (binaryOp .Add) (rI0 fun i j => .int (i + j)) := opI0 fun _ _ _ _ _ _ _ q => add_int q
theorem op_sub : OpR X (binaryOp .Sub) (rI0 fun i j => .int (i - j)) := opI0 fun _ _ _ _ _ _ _ q => sub_int q
theorem op_mul : OpR X (binaryOp .Mult) (rI CMul fun i j => .int (i * j)) := opI fun _ _ _ _ _ _ _ hc q => mul_int q hc.ok
/-- // by a positive divisor -/
theorem op_fdiv : OpR X (binaryOp .FloorDiv) (rI CDiv fun i j => .int (i / j)) := opI fun i j _ _ _ _ _ hc q => by
  have h1 : (0 : Int) < j := hc.1
  have h2 : j < 1073741824 := hc.2
  exact floordiv_int (by omega) (by rw [Int.fdiv_eq_ediv_of_nonneg i (by omega)]; exact q) (.inl (PyProof.noPylong_small (by omega)))
theorem op_fdivN : OpR X (binaryOp .FloorDiv) (rI CDivN fun i j => .int (i.fdiv j)) := opI fun _ _ _ _ _ _ _ hc q => floordiv_int hc.1 q (.inl (PyProof.noPylong_small hc.2))
/-- % by a positive divisor of any size -/
theorem op_mod : OpR X (binaryOp .Mod) (rI (fun _ j => 0 < j) fun i j => .int (i % j)) := opI fun i j _ _ _ _ _ hc q => by
  have h1 : (0 : Int) < j := hc
  exact mod_int' (by omega) (by rw [Int.fmod_eq_emod_of_nonneg i (by omega)]; exact q)
theorem op_modN : OpR X (binaryOp .Mod) (rI (fun _ j => j ≠ 0) fun i j => .int (i.fmod j)) := opI fun _ _ _ _ _ _ _ hc q => mod_int' hc q
theorem op_pow : OpR X (binaryOp .Pow) (rI CPow fun i j => .int (i ^ j.toNat)) := opI fun _ _ _ _ _ _ _ hc q => pow_int_small hc.1 hc.2.1 hc.2.2 q
theorem op_shl : OpR X (binaryOp .LShift) (rI CPow fun i j => .int (i * 2 ^ j.toNat)) := opI fun _ _ _ _ _ _ _ hc q => lshift_int_small hc.1 hc.2.1 hc.2.2 q
theorem op_shr : OpR X (binaryOp .RShift) (rI (fun _ j => 0 ≤ j) fun i j => .int (i / 2 ^ j.toNat)) := opI fun i j _ _ _ _ _ hc q =>
  rshift_int hc (by rw [Int.fdiv_eq_ediv_of_nonneg i (two_pow_nn _)]; exact q)
theorem op_and : OpR X (binaryOp .BitAnd) (rI0 fun i j => .int (Builtin.bitAnd i j)) := opI0 fun _ _ _ _ _ _ _ q => and_int q
theorem op_or : OpR X (binaryOp .BitOr) (rI0 fun i j => .int (Builtin.bitOr i j)) := opI0 fun _ _ _ _ _ _ _ q => or_int q
theorem op_xor : OpR X (binaryOp .BitXor) (rI0 fun i j => .int (Builtin.bitXor i j)) := opI0 fun _ _ _ _ _ _ _ q => xor_int q

theorem iop_add : OpR X (inplaceOp .Add) (rI0 fun i j => .int (i + j)) := opI0 fun _ _ _ _ _ _ _ q => iadd_int q
theorem iop_sub : OpR X (inplaceOp .Sub) (rI0 fun i j => .int (i - j)) := opI0 fun _ _ _ _ _ _ _ q => isub_int q
theorem iop_mul : OpR X (inplaceOp .Mult) (rI CMul fun i j => .int (i * j)) := opI fun _ _ _ _ _ _ _ hc q => imul_int q hc.ok
theorem iop_fdiv : OpR X (inplaceOp .FloorDiv) (rI CDiv fun i j => .int (i / j)) := opI fun i j _ _ _ _ _ hc q => by
  have h1 : (0 : Int) < j := hc.1
  have h2 : j < 1073741824 := hc.2
  exact ifloordiv_int (by omega) (by rw [Int.fdiv_eq_ediv_of_nonneg i (by omega)]; exact q) (.inl (PyProof.noPylong_small (by omega)))
theorem iop_mod : OpR X (inplaceOp .Mod) (rI (fun _ j => 0 < j) fun i j => .int (i % j)) := opI fun i j _ _ _ _ _ hc q => by
  have h1 : (0 : Int) < j := hc
  exact imod_int (by omega) (by rw [Int.fmod_eq_emod_of_nonneg i (by omega)]; exact q)
theorem iop_shl : OpR X (inplaceOp .LShift) (rI CPow fun i j => .int (i * 2 ^ j.toNat)) := opI fun _ _ _ _ _ _ _ hc q => ilshift_int_small hc.1 hc.2.1 hc.2.2 q
theorem iop_shr : OpR X (inplaceOp .RShift) (rI (fun _ j => 0 ≤ j) fun i j => .int (i / 2 ^ j.toNat)) := opI fun i j _ _ _ _ _ hc q =>
  irshift_int hc (by rw [Int.fdiv_eq_ediv_of_nonneg i (two_pow_nn _)]; exact q)
theorem iop_and : OpR X (inplaceOp .BitAnd) (rI0 fun i j => .int (Builtin.bitAnd i j)) := opI0 fun _ _ _ _ _ _ _ q => iand_int q
theorem iop_or : OpR X (inplaceOp .BitOr) (rI0 fun i j => .int (Builtin.bitOr i j)) := opI0 fun _ _ _ _ _ _ _ q => ior_int q
theorem iop_xor : OpR X (inplaceOp .BitXor) (rI0 fun i j => .int (Builtin.bitXor i j)) := opI0 fun _ _ _ _ _ _ _ q => ixor_int q

theorem unI {f : Value → Sem Value} {g : Int → Int}
    (rule : ∀ (i : Int) (t : Tok) (s : Shared) (Q : Value → Shared → Prop) (E : Value → Shared → Prop), Q (.int (g i) s.toks) { s with toks := s.toks + 1 } → wpAny (model X.prog X.w) X.A (f (.int i t)) Q E s) :
    UnR X f (rU fun i => .int (g i)) := by
  intro pins s σ H x v Q I rx h
  obtain ⟨i, rfl, q⟩ := h
  obtain ⟨t, rfl⟩ := rx
  exact rule i t s _ _ ⟨.int (g i), H, I.tok _, ⟨_, rfl⟩, q⟩
theorem un_neg : UnR X (unaryOp .USub) (rU fun i => .int (-i)) := unI fun _ _ _ _ _ q => neg_int q
theorem un_inv : UnR X (unaryOp .Invert) (rU fun i => .int (Builtin.bitNot i)) := unI fun _ _ _ _ _ q => invert_int q

/-! ### bools among ints: n += (a < b) -/
theorem op_add_ib : OpR X (binaryOp .Add) (fun x y H Q => ∃ i k, x = .int i ∧ y = .bl k ∧ Q (.int (i + b2i k)) H) := by
  intro pins s σ H x y v u Q I rx ry h
  obtain ⟨i, k, rfl, rfl, q⟩ := h
  obtain ⟨t, rfl⟩ := rx
  cases ry
  exact add_int_bool ⟨.int (i + b2i k), H, I.tok _, ⟨_, rfl⟩, q⟩
end

/-! ### comparisons -/
/-- the scalars that == tells apart as data does -/
def scal : V → V → Bool
  | .non, .non => true | .non, .int _ => true | .int _, .non => true | .non, .bl _ => true | .bl _, .non => true | .non, .str _ => true | .str _, .non => true
  | .int _, .int _ => true | .bl _, .bl _ => true | .str _, .str _ => true | .byt _, .byt _ => true
  | .int _, .str _ => true | .str _, .int _ => true | .bl _, .str _ => true | .str _, .bl _ => true
  | _, _ => false
def rEq : R2 := fun x y H Q => scal x y = true ∧ Q (.bl (decide (x = y))) H
def rNe : R2 := fun x y H Q => scal x y = true ∧ Q (.bl (!decide (x = y))) H

theorem dec_int {i j : Int} : decide (V.int i = V.int j) = (i == j) := by
  rw [Bool.eq_iff_iff]
  simp
theorem dec_bl {i j : Bool} : decide (V.bl i = V.bl j) = (i == j) := by
  rw [Bool.eq_iff_iff]
  simp
theorem dec_str {i j : Str} : decide (V.str i = V.str j) = (i == j) := by
  rw [Bool.eq_iff_iff]
  simp
theorem dec_byt {i j : Array UInt8} : decide (V.byt i = V.byt j) = (i.toList == j.toList) := by
  rw [Bool.eq_iff_iff]
  cases i
  cases j
  simp

section
variable {X : Cx} {a b c : Expr} {ta tb tc : TE} {pos : Pos}
theorem fin_bl {pins : List (Addr × Obj)} {σ : St} {H : Hp} {s : Shared} {Q : VK} {k k' : Bool} (I : Inv X pins σ H s) (q : Q (.bl k) H) (e : k = k') : EP X pins σ Q (.bool k') s := by
  subst e
  exact ⟨.bl k, H, I, rfl, q⟩
theorem op_eq : OpR X (compareOp .Eq) rEq := by
  intro pins s σ H x y v u Q I rx ry h
  obtain ⟨hs, q⟩ := h
  cases x with
  | non =>
    cases rx
    cases y with
    | non => cases ry; exact PySem.EqNone.eq_none_none (fin_bl I q (by simp))
    | bl j => cases ry; exact PySem.EqNone.eq_none_bool (fin_bl I q (by simp))
    | int j => obtain ⟨t', rfl⟩ := ry; exact PySem.EqNone.eq_none_int (fin_bl I q (by simp))
    | str j => obtain ⟨t', rfl⟩ := ry; exact PySem.EqNone.eq_none_str (fin_bl I q (by simp))
    | _ => exact absurd (show false = true from hs) Bool.false_ne_true
  | bl i =>
    cases rx
    cases y with
    | non => cases ry; exact PySem.EqNone.eq_bool_none (fin_bl I q (by simp))
    | bl j => cases ry; exact eq_bool (fin_bl I q dec_bl)
    | str j => obtain ⟨t', rfl⟩ := ry; exact PySem.EqMixed.eq_bool_str (fin_bl I q (by simp))
    | _ => exact absurd (show false = true from hs) Bool.false_ne_true
  | int i =>
    obtain ⟨t, rfl⟩ := rx
    cases y with
    | non => cases ry; exact PySem.EqNone.eq_int_none (fin_bl I q (by simp))
    | int j => obtain ⟨t', rfl⟩ := ry; exact eq_int (fin_bl I q dec_int)
    | str j => obtain ⟨t', rfl⟩ := ry; exact PySem.EqMixed.eq_int_str (fin_bl I q (by simp))
    | _ => exact absurd (show false = true from hs) Bool.false_ne_true
  | str i =>
    obtain ⟨t, rfl⟩ := rx
    cases y with
    | non => cases ry; exact PySem.EqNone.eq_str_none (fin_bl I q (by simp))
    | bl j => cases ry; exact PySem.EqMixed.eq_str_bool (fin_bl I q (by simp))
    | int j => obtain ⟨t', rfl⟩ := ry; exact PySem.EqMixed.eq_str_int (fin_bl I q (by simp))
    | str j => obtain ⟨t', rfl⟩ := ry; exact eq_str (fin_bl I q dec_str)
    | _ => exact absurd (show false = true from hs) Bool.false_ne_true
  | byt i =>
    obtain ⟨t, rfl⟩ := rx
    cases y with
    | byt j => obtain ⟨t', rfl⟩ := ry; exact PySem.W.eq_bytes (fin_bl I q dec_byt)
    | _ => exact absurd (show false = true from hs) Bool.false_ne_true
  | _ => cases y <;> exact absurd (show false = true from hs) Bool.false_ne_true
theorem op_ne : OpR X (compareOp .NotEq) rNe := by
  intro pins s σ H x y v u Q I rx ry h
  obtain ⟨hs, q⟩ := h
  cases x with
  | non =>
    cases rx
    cases y with
    | non => cases ry; exact PySem.EqNone.ne_none_none (fin_bl I q (by simp))
    | bl j => cases ry; exact PySem.EqNone.ne_none_bool (fin_bl I q (by simp))
    | int j => obtain ⟨t', rfl⟩ := ry; exact PySem.EqNone.ne_none_int (fin_bl I q (by simp))
    | str j => obtain ⟨t', rfl⟩ := ry; exact PySem.EqNone.ne_none_str (fin_bl I q (by simp))
    | _ => exact absurd (show false = true from hs) Bool.false_ne_true
  | bl i =>
    cases rx
    cases y with
    | non => cases ry; exact PySem.EqNone.ne_bool_none (fin_bl I q (by simp))
    | bl j => cases ry; exact ne_bool (fin_bl I q (congrArg not dec_bl))
    | str j => obtain ⟨t', rfl⟩ := ry; exact PySem.EqMixed.ne_bool_str (fin_bl I q (by simp))
    | _ => exact absurd (show false = true from hs) Bool.false_ne_true
  | int i =>
    obtain ⟨t, rfl⟩ := rx
    cases y with
    | non => cases ry; exact PySem.EqNone.ne_int_none (fin_bl I q (by simp))
    | int j => obtain ⟨t', rfl⟩ := ry; exact ne_int (fin_bl I q (congrArg not dec_int))
    | str j => obtain ⟨t', rfl⟩ := ry; exact PySem.EqMixed.ne_int_str (fin_bl I q (by simp))
    | _ => exact absurd (show false = true from hs) Bool.false_ne_true
  | str i =>
    obtain ⟨t, rfl⟩ := rx
    cases y with
    | non => cases ry; exact PySem.EqNone.ne_str_none (fin_bl I q (by simp))
    | bl j => cases ry; exact PySem.EqMixed.ne_str_bool (fin_bl I q (by simp))
    | int j => obtain ⟨t', rfl⟩ := ry; exact PySem.EqMixed.ne_str_int (fin_bl I q (by simp))
    | str j => obtain ⟨t', rfl⟩ := ry; exact ne_str (fin_bl I q (congrArg not dec_str))
    | _ => exact absurd (show false = true from hs) Bool.false_ne_true
  | byt i =>
    obtain ⟨t, rfl⟩ := rx
    cases y with
    | byt j => obtain ⟨t', rfl⟩ := ry; exact PySem.W.ne_bytes (fin_bl I q (congrArg not dec_byt))
    | _ => exact absurd (show false = true from hs) Bool.false_ne_true
  | _ => cases y <;> exact absurd (show false = true from hs) Bool.false_ne_true

theorem op_lt : OpR X (compareOp .Lt) (rI0 fun i j => .bl (decide (i < j))) := opB0 fun _ _ _ _ _ _ _ q => lt_int q
theorem op_le : OpR X (compareOp .LtE) (rI0 fun i j => .bl (decide (i ≤ j))) := opB0 fun _ _ _ _ _ _ _ q => le_int q
theorem op_gt : OpR X (compareOp .Gt) (rI0 fun i j => .bl (decide (j < i))) := opB0 fun _ _ _ _ _ _ _ q => gt_int q
theorem op_ge : OpR X (compareOp .GtE) (rI0 fun i j => .bl (decide (j ≤ i))) := opB0 fun _ _ _ _ _ _ _ q => ge_int q
theorem op_lt_str : OpR X (compareOp .Lt) (fun x y H Q => ∃ i j, x = .str i ∧ y = .str j ∧ Q (.bl (decide (i.cps.toList < j.cps.toList))) H) := by
  intro pins s σ H x y v u Q I rx ry h
  obtain ⟨i, j, rfl, rfl, q⟩ := h
  obtain ⟨t, rfl⟩ := rx
  obtain ⟨t', rfl⟩ := ry
  exact lt_str (fin_bl I q rfl)
/-- the one string within the other -/
theorem op_in_str : OpR X (compareOp .In) (fun x y H Q => ∃ i j, x = .str i ∧ y = .str j ∧ Q (.bl (!(Builtin.Str.occurrences j i 0 j.length 1).isEmpty)) H) := by
  intro pins s σ H x y v u Q I rx ry h
  obtain ⟨i, j, rfl, rfl, q⟩ := h
  obtain ⟨t, rfl⟩ := rx
  obtain ⟨t', rfl⟩ := ry
  exact in_str (fin_bl I q rfl)

/-- is None, is not None: the right side a value none -/
theorem op_isN : OpR X (compareOp .Is) (fun x y H Q => y = .non ∧ Q (.bl (decide (x = .non))) H) := by
  intro pins s σ H x y v u Q I rx ry h
  obtain ⟨rfl, q⟩ := h
  cases ry
  refine is_none_gen (fin_bl I q ?_)
  cases x <;> first
    | (cases rx; rfl)
    | (obtain ⟨t, rfl⟩ := rx; rfl)
theorem op_notN : OpR X (compareOp .IsNot) (fun x y H Q => y = .non ∧ Q (.bl (!decide (x = .non))) H) := by
  intro pins s σ H x y v u Q I rx ry h
  obtain ⟨rfl, q⟩ := h
  cases ry
  refine isnot_none_gen (fin_bl I q ?_)
  cases x <;> first
    | (cases rx; rfl)
    | (obtain ⟨t, rfl⟩ := rx; rfl)

theorem op_notin_str : OpR X (compareOp .NotIn) (fun x y H Q => ∃ i j, x = .str i ∧ y = .str j ∧ Q (.bl (!(!(Builtin.Str.occurrences j i 0 j.length 1).isEmpty))) H) := by
  intro pins s σ H x y v u Q I rx ry h
  obtain ⟨i, j, rfl, rfl, q⟩ := h
  obtain ⟨t, rfl⟩ := rx
  obtain ⟨t', rfl⟩ := ry
  exact notIn_str (fin_bl I q rfl)
/-- is, is not of two objects that are tracked lists or instances -/
def isObj : HO → Bool
  | .lst _ => true
  | .ins _ _ _ => true
  | _ => false
theorem obj_there {pins : List (Addr × Obj)} {s : Shared} {σ : St} {H : Hp} {a : Addr} {o : HO} (I : Inv X pins σ H s) (h : H a = some o) (p : isObj o = true) : ∃ ob, s.heap.get? a = some ob ∧ ob.cls ≠ .type "tuple" := by
  cases o with
  | lst xs =>
    obtain ⟨_, its, n, _, e⟩ : xs.length ≤ sizeLine ∧ ∃ (its : List Value) (n : Nat), Vals xs its ∧ s.heap.get? a = some { cls := .type "list", data := .seq its.toArray n } := I.hok a _ h
    exact ⟨_, e, (by show Value.type "list" ≠ .type "tuple"; decide +kernel)⟩
  | ins C dx fs =>
    have x := I.hok a _ h
    obtain ⟨_, _, _, e, _⟩ := x
    exact ⟨_, e, (by show Value.ref C ≠ .type "tuple"; exact fun z => by cases z)⟩
  | _ => exact absurd (show false = true from p) Bool.false_ne_true
theorem op_is_ref : OpR X (compareOp .Is) (fun x y H Q => ∃ a b oa ob, x = .ref a ∧ y = .ref b ∧ H a = some oa ∧ isObj oa = true ∧ H b = some ob ∧ isObj ob = true ∧ Q (.bl (decide (a = b))) H) := by
  intro pins s σ H x y v u Q I rx ry h
  obtain ⟨a, b, oa, ob, rfl, rfl, ha, pa, hb, pb, q⟩ := h
  cases rx
  cases ry
  obtain ⟨o1, e1, n1⟩ := obj_there I ha pa
  obtain ⟨o2, e2, _⟩ := obj_there I hb pb
  by_cases z : a = b
  · subst z
    exact wpAny_is_ref_self (fin_bl I q (by simp))
  · exact wpAny_is_ref_other z e1 e2 n1 (fin_bl I q (by simp [z]))
theorem op_isnot_ref : OpR X (compareOp .IsNot) (fun x y H Q => ∃ a b oa ob, x = .ref a ∧ y = .ref b ∧ H a = some oa ∧ isObj oa = true ∧ H b = some ob ∧ isObj ob = true ∧ Q (.bl (!decide (a = b))) H) := by
  intro pins s σ H x y v u Q I rx ry h
  obtain ⟨a, b, oa, ob, rfl, rfl, ha, pa, hb, pb, q⟩ := h
  cases rx
  cases ry
  obtain ⟨o1, e1, n1⟩ := obj_there I ha pa
  obtain ⟨o2, e2, _⟩ := obj_there I hb pb
  by_cases z : a = b
  · subst z
    exact wpAny_isNot_ref_self (fin_bl I q (by simp))
  · exact wpAny_isNot_ref_other z e1 e2 n1 (fin_bl I q (by simp [z]))

/-- two rules for one operation: by cases -/
theorem OpR.or {f : Value → Value → Sem Value} {r r' : R2} (h : OpR X f r) (h' : OpR X f r') : OpR X f (fun x y H Q => r x y H Q ∨ r' x y H Q) := by
  intro pins s σ H x y v u Q I rx ry q
  rcases q with q | q
  · exact h pins s σ H x y v u Q I rx ry q
  · exact h' pins s σ H x y v u Q I rx ry q

theorem nomark (b : Expr) {op : CmpOp} (h : op ≠ .In := by decide) (h2 : op ≠ .NotIn := by decide) : behindInMarks op b = false := by
  have e1 : (op == CmpOp.In) = false := by cases op <;> first | rfl | exact absurd rfl h
  have e2 : (op == CmpOp.NotIn) = false := by cases op <;> first | rfl | exact absurd rfl h2
  cases b <;> simp [behindInMarks, e1, e2]
/-- a comparison as a value; hm: nomark b, or (for in, not in) by with_unfolding_all rfl -/
theorem pe_cmpR {op : CmpOp} {r : R2} (ho : OpR X (compareOp op) r) (ha : PE X a ta) (hb : PE X b tb) (hm : behindInMarks op b = false) : PE X (.Compare a [op] [b] pos) (tOp r ta tb) := by
  intro pins s σ H Q I h
  exact wpAny_Compare1 (binT ha hb I h fun v u s2 x y H2 I2 rx ry q => ho pins s2 σ H2 x y v u Q I2 rx ry q) hm
/-- a reading of a value as a test -/
def tTest (t : TE) : TT := fun σ H Q => t σ H fun x H' => ∃ k, x = .bl k ∧ Q k H'
theorem pt_cmpR {op : CmpOp} {r : R2} (ho : OpR X (compareOp op) r) (ha : PE X a ta) (hb : PE X b tb) (hm : behindInMarks op b = false) : PT X (.Compare a [op] [b] pos) (tTest (tOp r ta tb)) := by
  intro pins s σ H Q I h
  refine wpAny_isTrue_Compare1 (thn (ha pins s σ H _ I h) fun v s1 ⟨x, H1, I1, r1, q1⟩ => thn (hb pins s1 σ H1 _ I1 q1) fun u s2 ⟨y, H2, I2, r2, q2⟩ =>
    thn (ho pins s2 σ H2 x y v u _ I2 r1 r2 q2) fun c s3 ⟨z, H3, I3, r3, k, e, q3⟩ => ?_) hm
  subst e
  cases r3
  exact wpAny_truthy_bool ⟨H3, I3, q3⟩
/-- a op1 b op2 c -/
def tChain (r r' : R2) (ta tb tc : TE) : TE := fun σ H Q => ta σ H fun x H1 => tb σ H1 fun y H2 => r x y H2 fun z H3 => ∃ k, z = .bl k ∧
  (if k = true then tc σ H3 fun w' H4 => r' y w' H4 Q else Q (.bl false) H3)
theorem pe_chain {op op' : CmpOp} {r r' : R2} (ho : OpR X (compareOp op) r) (ho' : OpR X (compareOp op') r') (ha : PE X a ta) (hb : PE X b tb) (hc : PE X c tc)
    (hm : lastMarks [op, op'] [b, c] = false := by with_unfolding_all rfl) : PE X (.Compare a [op, op'] [b, c] pos) (tChain r r' ta tb tc) := by
  intro pins s σ H Q I h
  refine Compare_chain (thn (ha pins s σ H _ I h) fun v s1 ⟨x, H1, I1, r1, q1⟩ => chain_link (thn (hb pins s1 σ H1 _ I1 q1) fun u s2 ⟨y, H2, I2, r2, q2⟩ =>
    thn (ho pins s2 σ H2 x y v u _ I2 r1 r2 q2) fun d s3 ⟨z, H3, I3, r3, k, e, q3⟩ => ?_)) hm
  subst e
  cases r3
  refine wpAny_truthy_bool ?_
  cases k with
  | false => exact ite_ff ⟨.bl false, H3, I3, rfl, q3⟩
  | true => exact ite_tt (chain_last (thn (hc pins s3 σ H3 _ I3 q3) fun w' s4 ⟨z', H4, I4, r4, q4⟩ => ho' pins s4 σ H4 y z' u w' Q I4 r2 r4 q4))
theorem pt_chain {op op' : CmpOp} {r r' : R2} (ho : OpR X (compareOp op) r) (ho' : OpR X (compareOp op') r') (ha : PE X a ta) (hb : PE X b tb) (hc : PE X c tc)
    (hm : lastMarks [op, op'] [b, c] = false := by with_unfolding_all rfl) : PT X (.Compare a [op, op'] [b, c] pos) (tTest (tChain r r' ta tb tc)) := by
  intro pins s σ H Q I h
  refine isTrue_chain (thn (ha pins s σ H _ I h) fun v s1 ⟨x, H1, I1, r1, q1⟩ => test_link (thn (hb pins s1 σ H1 _ I1 q1) fun u s2 ⟨y, H2, I2, r2, q2⟩ =>
    thn (ho pins s2 σ H2 x y v u _ I2 r1 r2 q2) fun d s3 ⟨z, H3, I3, r3, k, e, q3⟩ => ?_)) hm
  subst e
  cases r3
  refine wpAny_truthy_bool ?_
  cases k with
  | false =>
    obtain ⟨k', e', q'⟩ := q3
    cases e'
    exact ite_ff ⟨H3, I3, q'⟩
  | true =>
    refine ite_tt (test_last (thn (hc pins s3 σ H3 _ I3 q3) fun w' s4 ⟨z', H4, I4, r4, q4⟩ => thn (ho' pins s4 σ H4 y z' u w' _ I4 r2 r4 q4) fun d' s5 ⟨z2, H5, I5, r5, k2, e2, q5⟩ => ?_))
    subst e2
    cases r5
    exact wpAny_truthy_bool ⟨H5, I5, q5⟩

/-! ### truth -/
/-- a value's truth by the abstract heap -/
def TruV (K : PySem.W.Frag) (x : V) (H : Hp) (k : Bool) : Prop :=
  match x with
  | .non => k = false
  | .bl b => k = b
  | .int i => k = (i != 0)
  | .str y => y.length ≤ sizeLine ∧ k = ((y.length : Int) != 0)
  | .byt y => y.size ≤ sizeLine ∧ k = ((y.size : Int) != 0)
  | .ref p => (∃ xs, SqL K H p xs ∧ k = !xs.isEmpty) ∨ (∃ xs, SqT K H p xs ∧ k = !xs.isEmpty) ∨ ∃ kvs, H p = some (.dK kvs) ∧ k = !kvs.isEmpty
  | _ => False
theorem isEmpty_kv {κ : Type} {kvs : List (κ × V)} {vs : List (κ × Value)} (r : KV kvs vs) : (!vs.isEmpty) = !kvs.isEmpty := by
  cases r <;> rfl
theorem isEmpty_of {xs : List V} {its : List Value} (r : Vals xs its) : (!its.toArray.isEmpty) = !xs.isEmpty := by
  cases r <;> simp
theorem line63 : (sizeLine : Nat) < 2 ^ 63 := by rw [sizeLine_eq]; decide
theorem tru_ok : TruR X (fun x H Q => ∃ k, TruV X.K x H k ∧ Q k H) := by
  intro pins s σ H x v Q I rx h
  obtain ⟨k, e, q⟩ := h
  have hl := line63
  have hs : sizeLine = 16777216 := sizeLine_eq
  cases x with
  | non =>
    cases rx
    have e' : k = false := e
    subst e'
    exact truthy_none ⟨H, I, q⟩
  | bl b =>
    cases rx
    have e' : k = b := e
    subst e'
    exact wpAny_truthy_bool ⟨H, I, q⟩
  | int i =>
    obtain ⟨t, rfl⟩ := rx
    have e' : k = (i != 0) := e
    subst e'
    exact PySem.P.truthy_int ⟨H, I, q⟩
  | str y =>
    obtain ⟨t, rfl⟩ := rx
    obtain ⟨hy, e'⟩ : y.length ≤ sizeLine ∧ k = ((y.length : Int) != 0) := e
    subst e'
    exact PySem.P.truthy_str (by omega) ⟨H, I.tok _, q⟩
  | byt y =>
    obtain ⟨t, rfl⟩ := rx
    obtain ⟨hy, e'⟩ : y.size ≤ sizeLine ∧ k = ((y.size : Int) != 0) := e
    subst e'
    exact PySem.W.truthy_bytes (by omega) ⟨H, I.tok _, q⟩
  | ref p =>
    cases rx
    have e' : (∃ xs, SqL X.K H p xs ∧ k = !xs.isEmpty) ∨ (∃ xs, SqT X.K H p xs ∧ k = !xs.isEmpty) ∨ ∃ kvs, H p = some (.dK kvs) ∧ k = !kvs.isEmpty := e
    rcases e' with ⟨xs, hx, e'⟩ | ⟨xs, hx, e'⟩ | ⟨kvs, hx, e'⟩
    · subst e'
      obtain ⟨its, r, pl, hz⟩ := I.list hx
      have hlen := r.length
      exact wpAny_truthy_list pl.isList (by simp only [List.size_toArray]; omega) ⟨H, I.tok _, by rw [isEmpty_of r]; exact q⟩
    · subst e'
      obtain ⟨its, r, pl, hz⟩ := I.tuple hx
      have hlen := r.length
      exact truthy_tuple pl (by simp only [List.size_toArray]; omega) ⟨H, I.tok _, by rw [isEmpty_of r]; exact q⟩
    · subst e'
      obtain ⟨hz, hS, vs, r, m⟩ : kvs.length ≤ sizeLine ∧ (p == sysModules) = false ∧ ∃ vs, KV kvs vs ∧ s.heap.DictOf (mixKind X.prog X.w) p vs := I.hok p _ hx
      have hlen : kvs.length = vs.length := Paired.length r
      exact wpAny_truthy_dict hS m (by omega) ⟨H, I.tok _, by rw [isEmpty_kv r]; exact q⟩
  | _ => exact (show False from e).elim
/-- any expression whose test is its value's truth (a name, a call, a subscript, a field ..: he by fun _ => rfl) -/
theorem pt_truth (ha : PE X a ta) (he : ∀ whole, isTrue a X.env whole = (do let v ← whole; standAt a.pos; holding [v] (truthy v))) :
    PT X a (fun σ H Q => ta σ H fun x H' => ∃ k, TruV X.K x H' k ∧ Q k H') := by
  intro pins s σ H Q I h
  exact isTrue_plain (thn (ha pins s σ H _ I h) fun v s1 ⟨x, H1, I1, r1, q1⟩ => tru_ok pins s1 σ H1 x v Q I1 r1 q1) (he _)

/-! ### strs and bytes -/
theorem pe_byt {x : List UInt8} {k : Nat} : PE X (.Constant (.bytes x) k pos) (fun _ H Q => Q (.byt x.toArray) H) := fun _ _ _ H _ I h => PySem.W.Constant_bytes ⟨.byt x.toArray, H, I.tok _, ⟨_, rfl⟩, h⟩
theorem op_add_str : OpR X (binaryOp .Add) (fun x y H Q => ∃ i j, x = .str i ∧ y = .str j ∧ i.length + j.length ≤ sizeLine ∧ Q (.str (i ++ j)) H) := by
  intro pins s σ H x y v u Q I rx ry h
  obtain ⟨i, j, rfl, rfl, hz, q⟩ := h
  obtain ⟨t, rfl⟩ := rx
  obtain ⟨t', rfl⟩ := ry
  exact add_str (fun t' tk => ⟨.str (i ++ j), H, I.tok _, ⟨_, rfl⟩, q⟩) hz
theorem iop_add_str : OpR X (inplaceOp .Add) (fun x y H Q => ∃ i j, x = .str i ∧ y = .str j ∧ i.length + j.length ≤ sizeLine ∧ Q (.str (i ++ j)) H) := by
  intro pins s σ H x y v u Q I rx ry h
  obtain ⟨i, j, rfl, rfl, hz, q⟩ := h
  obtain ⟨t, rfl⟩ := rx
  obtain ⟨t', rfl⟩ := ry
  exact iadd_str (fun t' tk => ⟨.str (i ++ j), H, I.tok _, ⟨_, rfl⟩, q⟩) hz
theorem op_add_byt : OpR X (binaryOp .Add) (fun x y H Q => ∃ i j, x = .byt i ∧ y = .byt j ∧ i.size + j.size ≤ 16777216 ∧ Q (.byt (i ++ j)) H) := by
  intro pins s σ H x y v u Q I rx ry h
  obtain ⟨i, j, rfl, rfl, hz, q⟩ := h
  obtain ⟨t, rfl⟩ := rx
  obtain ⟨t', rfl⟩ := ry
  exact PySem.W.KBy.add_bytes hz (fun t' tk => ⟨.byt (i ++ j), H, I.tok _, ⟨_, rfl⟩, q⟩)

def PlainIxT (b : Expr) : Prop := ∀ o i, subscripted b false o i = operate [o, i] (getItem o i)
/-- s[i], 0 ≤ i < len -/
theorem pe_item_str (ha : PE X a ta) (hb : PE X b tb) (hs : PlainIxT b) :
    PE X (.Subscript a b pos) (tOp (fun x y H Q => ∃ z i c, x = .str z ∧ y = .int i ∧ 0 ≤ i ∧ i < 2 ^ 63 ∧ i < z.length ∧ z.cps[i.toNat]? = some c ∧ Q (.str ⟨#[c]⟩) H) ta tb) := by
  intro pins s σ H Q I h
  refine Subscript_ (binT ha hb I h fun v u s2 x y H2 I2 rx ry q => ?_)
  obtain ⟨z, i, c, rfl, rfl, h0, h63, h1, hc, q⟩ := q
  obtain ⟨t, rfl⟩ := rx
  obtain ⟨t', rfl⟩ := ry
  have e : seqIndex? i z.length = some i.toNat := PySem.StrLaws.seqIndex_nonneg h0 h1
  exact tail_any (typeIs_str s2 z t) slot_str_getitem.lookup (getItem_str (c := c) (by
    have e1 : decide (i < -(2 ^ 63 : Int)) = false := decide_eq_false (by omega)
    have e2 : decide (i ≥ 2 ^ 63) = false := decide_eq_false (by omega)
    rw [e1, e2] <;> rfl) (by rw [e]; exact hc) ⟨.str ⟨#[c]⟩, H2, I2.tok _, ⟨_, rfl⟩, q⟩) (hs _ _)
/-- b[i], 0 ≤ i < len -/
theorem pe_item_byt (ha : PE X a ta) (hb : PE X b tb) (hs : PlainIxT b) :
    PE X (.Subscript a b pos) (tOp (fun x y H Q => ∃ (z : List UInt8) (i : Int), x = .byt z.toArray ∧ y = .int i ∧ z.length ≤ sizeLine ∧ 0 ≤ i ∧ i < z.length ∧ Q (.int ((z.getD i.toNat 0).toNat : Nat)) H) ta tb) := by
  intro pins s σ H Q I h
  refine Subscript_ (binT ha hb I h fun v u s2 x y H2 I2 rx ry q => ?_)
  obtain ⟨z, i, rfl, rfl, hz, h0, h1, q⟩ := q
  obtain ⟨t, rfl⟩ := rx
  obtain ⟨t', rfl⟩ := ry
  have hl : sizeLine = 16777216 := sizeLine_eq
  exact tail_any (PySem.W.typeIs_bytes s2 z.toArray t) PySem.W.FB.slot_bytes_getitem.lookup (PySem.W.getItem_bytes (by omega) h0 h1 ⟨.int ((z.getD i.toNat 0).toNat : Nat), H2, I2.tok _, ⟨_, rfl⟩, q⟩) (hs _ _)

/-! ### scalar builtins, by CallR -/
theorem vals1 {x : V} {us : List Value} (r : Vals [x] us) : ∃ u, us = [u] ∧ RelV x u := by
  cases r with
  | cons r1 r2 => cases r2; exact ⟨_, rfl, r1⟩
theorem vals2 {x y : V} {us : List Value} (r : Vals [x, y] us) : ∃ u w', us = [u, w'] ∧ RelV x u ∧ RelV y w' := by
  cases r with
  | cons r1 r2 =>
    cases r2 with
    | cons r3 r4 => cases r4; exact ⟨_, _, rfl, r1, r3⟩
theorem call_abs : CallR X (.builtin "abs") (fun xs H Q => ∃ i, xs = [.int i] ∧ Q (.int (if i < 0 then -i else i)) H) := by
  intro pins s σ H xs us Q I r h
  obtain ⟨i, rfl, q⟩ := h
  obtain ⟨u, rfl, t, rfl⟩ := vals1 r
  exact call_abs_int fun u tk => ⟨.int (if i < 0 then -i else i), H, I.tok _, ⟨_, rfl⟩, q⟩
theorem call_max2 (hc : X.calm = true) : CallR X (.builtin "max") (fun xs H Q => ∃ i j, xs = [.int i, .int j] ∧ Q (.int (if j > i then j else i)) H) := by
  intro pins s σ H xs us Q I r h
  obtain ⟨i, j, rfl, q⟩ := h
  obtain ⟨u, w', rfl, ⟨t, rfl⟩, ⟨t', rfl⟩⟩ := vals2 r
  refine max_two_ints (I.ok.hd hc) fun h' tk k => ⟨_, H, I.kept k, ?_, q⟩
  by_cases hj : j > i
  · rw [if_pos hj, if_pos hj]; exact ⟨_, rfl⟩
  · rw [if_neg hj, if_neg hj]; exact ⟨_, rfl⟩
theorem call_min2 (hc : X.calm = true) : CallR X (.builtin "min") (fun xs H Q => ∃ i j, xs = [.int i, .int j] ∧ Q (.int (if j < i then j else i)) H) := by
  intro pins s σ H xs us Q I r h
  obtain ⟨i, j, rfl, q⟩ := h
  obtain ⟨u, w', rfl, ⟨t, rfl⟩, ⟨t', rfl⟩⟩ := vals2 r
  refine min_two_ints (I.ok.hd hc) fun h' tk k => ⟨_, H, I.kept k, ?_, q⟩
  by_cases hj : j < i
  · rw [if_pos hj, if_pos hj]; exact ⟨_, rfl⟩
  · rw [if_neg hj, if_neg hj]; exact ⟨_, rfl⟩
theorem call_int1 : CallR X (.type "int") (fun xs H Q => (∃ i, xs = [.int i] ∧ Q (.int i) H) ∨ ∃ k, xs = [.bl k] ∧ Q (.int (if k then 1 else 0)) H) := by
  intro pins s σ H xs us Q I r h
  rcases h with ⟨i, rfl, q⟩ | ⟨k, rfl, q⟩
  · obtain ⟨u, rfl, t, rfl⟩ := vals1 r
    exact call_int_int ⟨.int i, H, I, ⟨_, rfl⟩, q⟩
  · obtain ⟨u, rfl, r1⟩ := vals1 r
    cases r1
    exact call_int_bool ⟨.int (if k then 1 else 0), H, I.tok _, ⟨_, rfl⟩, q⟩
theorem call_bool1 : CallR X (.type "bool") (fun xs H Q => (∃ i, xs = [.int i] ∧ Q (.bl (i != 0)) H) ∨ ∃ k, xs = [.bl k] ∧ Q (.bl k) H) := by
  intro pins s σ H xs us Q I r h
  rcases h with ⟨i, rfl, q⟩ | ⟨k, rfl, q⟩
  · obtain ⟨u, rfl, t, rfl⟩ := vals1 r
    exact call_bool_int ⟨.bl (i != 0), H, I, rfl, q⟩
  · obtain ⟨u, rfl, r1⟩ := vals1 r
    cases r1
    exact call_bool_bool ⟨.bl k, H, I, rfl, q⟩
theorem call_str_int : CallR X (.type "str") (fun xs H Q => ∃ i, xs = [.int i] ∧ i.natAbs.log2 < 1920 ∧ Q (.str (toString i)) H) := by
  intro pins s σ H xs us Q I r h
  obtain ⟨i, rfl, hz, q⟩ := h
  obtain ⟨u, rfl, t, rfl⟩ := vals1 r
  exact PySem.P.str_of_int hz ⟨.str _, H, I.tok _, ⟨_, rfl⟩, q⟩
theorem call_ord : CallR X (.builtin "ord") (fun xs H Q => ∃ x, xs = [.str x] ∧ x.length = 1 ∧ Q (.int (x.cps.getD 0 0 : Nat)) H) := by
  intro pins s σ H xs us Q I r h
  obtain ⟨x, rfl, hz, q⟩ := h
  obtain ⟨u, rfl, t, rfl⟩ := vals1 r
  exact ord_of_one hz ⟨.int _, H, I.tok _, ⟨_, rfl⟩, q⟩
theorem call_chr : CallR X (.builtin "chr") (fun xs H Q => ∃ i, xs = [.int i] ∧ 0 ≤ i ∧ i ≤ 1114111 ∧ Q (.str ⟨#[i.toNat]⟩) H) := by
  intro pins s σ H xs us Q I r h
  obtain ⟨i, rfl, h0, h1, q⟩ := h
  obtain ⟨u, rfl, t, rfl⟩ := vals1 r
  exact chr_of_range h0 h1 ⟨.str _, H, I.tok _, ⟨_, rfl⟩, q⟩
/-- len of a str, a bytes, a list, a tuple -/
def LenV (K : PySem.W.Frag) (x : V) (H : Hp) (n : Nat) : Prop :=
  match x with
  | .str y => y.length ≤ sizeLine ∧ n = y.length
  | .byt y => y.size ≤ sizeLine ∧ n = y.size
  | .ref p => (∃ xs, SqL K H p xs ∧ n = xs.length) ∨ ∃ xs, SqT K H p xs ∧ n = xs.length
  | _ => False
theorem call_len : CallR X (.builtin "len") (fun xs H Q => ∃ x n, xs = [x] ∧ LenV X.K x H n ∧ Q (.int n) H) := by
  intro pins s σ H xs us Q I r h
  obtain ⟨x, n, rfl, e, q⟩ := h
  obtain ⟨u, rfl, rx⟩ := vals1 r
  have hl := line63
  have hs : sizeLine = 16777216 := sizeLine_eq
  cases x with
  | str y =>
    obtain ⟨t, rfl⟩ := rx
    obtain ⟨hy, e'⟩ : y.length ≤ sizeLine ∧ n = y.length := e
    subst e'
    exact len_str (by omega) ⟨.int _, H, I.tok _, ⟨_, rfl⟩, q⟩
  | byt y =>
    obtain ⟨t, rfl⟩ := rx
    obtain ⟨hy, e'⟩ : y.size ≤ sizeLine ∧ n = y.size := e
    subst e'
    exact PySem.W.len_bytes (by omega) ⟨.int _, H, I.tok _, ⟨_, rfl⟩, q⟩
  | ref p =>
    cases rx
    have e' : (∃ xs, SqL X.K H p xs ∧ n = xs.length) ∨ ∃ xs, SqT X.K H p xs ∧ n = xs.length := e
    rcases e' with ⟨xs, hx, e'⟩ | ⟨xs, hx, e'⟩
    · subst e'
      obtain ⟨its, r', pl, hz⟩ := I.list hx
      have hlen := r'.length
      exact Calls.call_len_list pl.isList (by simp only [List.size_toArray]; omega) ⟨.int xs.length, H, I.tok _, ⟨_, by simp only [List.size_toArray]; rw [hlen]⟩, q⟩
    · subst e'
      obtain ⟨its, r', pl, hz⟩ := I.tuple hx
      have hlen := r'.length
      exact len_tuple pl (by simp only [List.size_toArray]; omega) ⟨.int xs.length, H, I.tok _, ⟨_, by simp only [List.size_toArray]; rw [hlen]⟩, q⟩
  | _ => exact (show False from e).elim
/-- divmod: a new tuple -/
theorem call_divmod : CallR X (.builtin "divmod") (fun xs H Q => ∃ i j, xs = [.int i, .int j] ∧ CDiv i j ∧ ∀ p, H p = none → Q (.ref p) (upd H p (.tup [.int (i / j), .int (i % j)]))) := by
  intro pins s σ H xs us Q I r h
  obtain ⟨i, j, rfl, ⟨h1, h2⟩, q⟩ := h
  obtain ⟨u, w', rfl, ⟨t, rfl⟩, ⟨t', rfl⟩⟩ := vals2 r
  refine divmod_int (by omega) ?_ (.inl (PyProof.noPylong_small (by omega)))
  rw [Int.fdiv_eq_ediv_of_nonneg i (by omega), Int.fmod_eq_emod_of_nonneg i (by omega)]
  have hn : H s.heap.objs.size = none := I.hok.fresh (Nat.le_refl _)
  refine ⟨.ref s.heap.objs.size, _, ?_, rfl, q _ hn⟩
  refine I.laid (fun b o e => Heap.get?_push_of_some _ e) (Nat.le_refl _) ⟨by simp only [List.length_cons, List.length_nil]; rw [sizeLine_eq]; decide, [.int (i / j) s.toks, .int (i % j) (s.toks + 1)], .cons ⟨_, rfl⟩ (.cons ⟨_, rfl⟩ .nil), ?_⟩
  exact ⟨_, Heap.get?_push_size s.heap rfl, rfl, 0, rfl⟩
end
end L2

namespace L2
open PySem PySem.Spec PyProof.Rows

/-! ### an instance, its attributes a map -/
structure ObjM (h : Heap) (x dx C : Addr) (mA : Str → Option Value) : Prop where
  obj : h.get? x = some (PySem.W.instObj C dx)
  ns : h.Ns1 dx mA
  ne : dx ≠ x

theorem lookIn_ns {h : Heap} {dx : Addr} {mA : Str → Option Value} (n : h.Ns1 dx mA) : ∃ od, h.get? dx = some od ∧ ∀ name, PySem.W.lookIn name od = some (mA name) := by
  obtain ⟨o, es, ep, ho, hd, hk, _, hm⟩ := n
  refine ⟨o, ho, fun name => ?_⟩
  have e := hm name
  unfold nsFind findBy at e
  rw [← Array.find?_toList] at e
  unfold PySem.W.lookIn
  rw [hd]
  dsimp only
  split
  · rename_i y q
    rw [q] at e
    exact congrArg some e
  · rename_i q
    rw [q] at e
    have a : es.toList.any (·.refKey) = false := by
      rw [List.any_eq_false]
      intro y hy
      obtain ⟨z, t, hkey⟩ := hk y (Array.mem_toList_iff.mp hy)
      simp [DictEntry.refKey, hkey]
    have a' : ¬ es.toList.any (·.refKey) = true := by rw [a]; exact Bool.false_ne_true
    rw [if_neg a']
    exact congrArg some e

theorem ObjM.look {h : Heap} {x dx C : Addr} {mA : Str → Option Value} (I : ObjM h x dx C mA) : ∃ od, PySem.W.InstAt h x (PySem.W.instObj C dx) C (some od) ∧ ∀ name, PySem.W.lookIn name od = some (mA name) :=
  let ⟨od, ho, hl⟩ := lookIn_ns I.ns
  ⟨od, ⟨I.obj, rfl, rfl, ho⟩, hl⟩

section
variable {prog : Program} {w : World} {A : Around} {E : Value → Shared → Prop} {s : Shared} {K : PySem.W.Frag} {x dx C f : Addr} {mA : Str → Option Value} {name : Str} {v : Value}

theorem get_map {expr : Bool} {Q : Value → Shared → Prop} (X : K.In s.heap) (I : ObjM s.heap x dx C mA) (hg : PySem.W.plainGet K C name = true) (hh : PySem.W.hasDictIn K C = true)
    (ha : PySem.W.findIn K (.ref C) name = some none) (hv : mA name = some v) (hv' : PySem.W.handedIn v = true) (h : Q v { s with toks := s.toks + 1 }) :
    wpAny (model prog w) A (getAttr (.ref x) name expr) Q E s := by
  obtain ⟨od, J, hl⟩ := I.look
  exact PySem.W.get_value X J (PySem.W.plainGet_of hg).1 (PySem.W.findObj_own hh ha rfl (by rw [hl, hv])) hv' h

theorem get_const {expr : Bool} {a : Value} {Q : Value → Shared → Prop} (X : K.In s.heap) (I : ObjM s.heap x dx C mA) (hg : PySem.W.plainGet K C name = true) (hh : PySem.W.hasDictIn K C = true)
    (ha : PySem.W.findIn K (.ref C) name = some (some a)) (hn : PySem.W.specialIn K a "__get__" = some none) (hc : PySem.W.copiedNames.contains name = false) (hv : mA name = none) (hv' : PySem.W.handedIn a = true)
    (h : Q a { s with toks := s.toks + 1 }) : wpAny (model prog w) A (getAttr (.ref x) name expr) Q E s := by
  obtain ⟨od, J, hl⟩ := I.look
  exact PySem.W.get_value X J (PySem.W.plainGet_of hg).1 (PySem.W.findObj_cls hh ha hn hv' hc (by rw [hl, hv])) hv' h

theorem get_meth {pl : Sem Bool} {Q : Value × List Value → Shared → Prop} (X : K.In s.heap) (I : ObjM s.heap x dx C mA) (hg : PySem.W.plainGet K C name = true)
    (hf : PySem.W.findIn K (.ref C) name = some (some (.ref f))) (ht : PySem.W.isFn K (.ref f) = true) (hv : mA name = none) (h : Q (.ref f, [.ref x]) s) :
    wpAny (model prog w) A (getMethod (.ref x) name pl) Q E s := by
  obtain ⟨od, J, hl⟩ := I.look
  exact PySem.W.method_fn X J (PySem.W.plainGet_of hg).1 (PySem.W.plainGet_of hg).2 hf (beq_iff_eq.mp ht) (by show (PySem.W.lookIn name od).map (·.isSome) = some false; rw [hl, hv]; rfl) h

theorem set_map {ns : List Str} {Q : Unit → Shared → Prop} (X : K.In s.heap) (I : ObjM s.heap x dx C mA)
    (hs : PySem.W.findIn K (.ref C) "__setattr__" = some (some (.builtin "object.__setattr__"))) (hp : PySem.W.plainOver K C = true) (ht : PySem.W.takerIn K C name = some none) (hh : PySem.W.hasDictIn K C = true)
    (hw : PySem.Within mA ns) (hsz : ns.length ≤ sizeLine)
    (h : ∀ h', ObjM h' x dx C (fun y => if y = name then some v else mA y) → Heap.SameBut dx s.heap h' → Q () { s with heap := h', toks := s.toks + 2 }) :
    wpAny (model prog w) A (setAttr (.ref x) name v) Q E s := by
  obtain ⟨od, J, hl⟩ := I.look
  refine PySem.W.set_plain X J hs (PySem.W.osa_open (s := { s with toks := s.toks + 1 }) (r := none) X J hp ht fun b => ?_)
  obtain ⟨cd, hc, hd'⟩ := PySem.W.any_some hh
  have hx : s.heap.get? x = some ⟨.ref C, some dx, .plain, #[]⟩ := I.obj
  refine wpAny_bind (wpAny_pure (wpAny_bind (wpAny_bind (wpAny_loadPart hx (wpAny_bind (PySem.W.Looks.here (s := { s with toks := s.toks + 1 }) (PySem.W.looks_clsIn X hc) ?_))))))
  rw [hd']
  refine wpAny_pure (a := some dx) (wpAny_bind (wpAny_pure (wpAny_bind ?_)))
  refine wpAny_nsSet1 (s := { s with toks := s.toks + 1 }) I.ns fun h' hn2 hs2 => ?_
  obtain ⟨oD, esD, epD, hoD, hdD, hcD⟩ := hn2.count (PySem.Within.cons name v hw)
  refine wpAny_bind (wpAny_lookBehind hoD (by rw [hdD]; exact pastItsLine_dict (Nat.le_trans hcD (by rw [List.length_cons]; omega))) ?_)
  exact wpAny_pure (h _ ⟨(hs2.2 _ (Ne.symm I.ne)).trans I.obj, hn2, I.ne⟩ hs2)

/-- C(..): the dict at the heap's end, the instance behind it; then its __init__ -/
theorem make_map {R : Result → Shared → Prop} {vs : List Value} {kw : List (Str × Value)} (X : K.In s.heap) (hm : PySem.W.makesIn K C = true)
    (hi : PySem.W.findIn K (.ref C) "__init__" = some (some (.ref f))) (hf : PySem.W.typeIn K (.ref f) = some (.type "function"))
    (h : codeAny (model prog w) (A.under (.builtin "type.__call__" ⟨.ref C :: vs, kw⟩)) (.call (.ref f) ⟨.ref (s.heap.objs.size + 1) :: vs, kw⟩) (PySem.W.InitBack (s.heap.objs.size + 1) R)
      { s with heap := (s.heap.push PySem.W.emptyDict).push (PySem.W.instObj C s.heap.objs.size) }) :
    codeAny (model prog w) A (.call (.ref C) ⟨vs, kw⟩) R s := by
  obtain ⟨hh, g, d, t, os⟩ := s
  exact PySem.W.make_core (PySem.W.makes_of X hm) (PySem.W.looks_findIn X hi) (fun self => PySem.W.bind_fn X self hf) (.inl rfl) h
/-- C() where there is no __init__ but object's -/
theorem make_map0 {R : Result → Shared → Prop} (X : K.In s.heap) (hm : PySem.W.makesIn K C = true)
    (hi : PySem.W.findIn K (.ref C) "__init__" = some (some (.builtin "object.__init__")))
    (hb : ∀ self, PySem.W.Looks (model prog w) s.heap (bindSpecial (.builtin "object.__init__") self) (.builtin "object.__init__", [self]))
    (h : codeAny (model prog w) (A.under (.builtin "type.__call__" ⟨[.ref C], []⟩)) (.call (.builtin "object.__init__") ⟨[.ref (s.heap.objs.size + 1)], []⟩) (PySem.W.InitBack (s.heap.objs.size + 1) R)
      { s with heap := (s.heap.push PySem.W.emptyDict).push (PySem.W.instObj C s.heap.objs.size) }) :
    codeAny (model prog w) A (.call (.ref C) ⟨[], []⟩) R s := by
  obtain ⟨hh, g, d, t, os⟩ := s
  exact PySem.W.make_core (PySem.W.makes_of X hm) (PySem.W.looks_findIn X hi) hb (.inr ⟨rfl, rfl⟩) h
end

/-! ### the attributes as a list of pairs -/
def putF (f : Str) (v : V) : List (Str × V) → List (Str × V)
  | [] => [(f, v)]
  | (g, x) :: r => if g = f then (g, v) :: r else (g, x) :: putF f v r
theorem lookup_putF (f g : Str) (v : V) : ∀ fs : List (Str × V), (putF f v fs).lookup g = if g = f then some v else fs.lookup g
  | [] => by
    show List.lookup g [(f, v)] = _
    by_cases h : g = f
    · have hb : (g == f) = true := beq_iff_eq.mpr h
      simp only [List.lookup, hb, if_pos h]
    · have hb : (g == f) = false := beq_eq_false_iff_ne.mpr h
      simp only [List.lookup, hb, if_neg h]
  | (k, x) :: r => by
    have ih := lookup_putF f g v r
    rw [show putF f v ((k, x) :: r) = (if k = f then (k, v) :: r else (k, x) :: putF f v r) from rfl]
    by_cases hk : k = f
    · rw [if_pos hk]
      by_cases h : g = k
      · have hb : (g == k) = true := beq_iff_eq.mpr h
        simp only [List.lookup, hb, if_pos (h.trans hk)]
      · have hb : (g == k) = false := beq_eq_false_iff_ne.mpr h
        simp only [List.lookup, hb, if_neg (fun e : g = f => h (e.trans hk.symm))]
    · rw [if_neg hk]
      by_cases h : g = k
      · have hb : (g == k) = true := beq_iff_eq.mpr h
        simp only [List.lookup, hb, if_neg (fun e : g = f => hk (h.symm.trans e))]
      · have hb : (g == k) = false := beq_eq_false_iff_ne.mpr h
        simp only [List.lookup, hb]
        exact ih
theorem keys_putF (f : Str) (v : V) : ∀ fs : List (Str × V), f ∈ (putF f v fs).map (·.1) ∧ ∀ g, g ∈ fs.map (·.1) → g ∈ (putF f v fs).map (·.1)
  | [] => ⟨by simp [putF], fun g h => by simp at h⟩
  | (k, x) :: r => by
    obtain ⟨i1, i2⟩ := keys_putF f v r
    rw [show putF f v ((k, x) :: r) = (if k = f then (k, v) :: r else (k, x) :: putF f v r) from rfl]
    by_cases hk : k = f
    · rw [if_pos hk]
      subst hk
      exact ⟨by simp, fun g h => by simpa using h⟩
    · rw [if_neg hk]
      refine ⟨?_, fun g h => ?_⟩
      · rw [List.map_cons]
        exact List.mem_cons_of_mem _ i1
      · rw [List.map_cons] at h ⊢
        rcases List.mem_cons.mp h with e | e
        · exact List.mem_cons.mpr (.inl e)
        · exact List.mem_cons_of_mem _ (i2 g e)
theorem length_putF (f : Str) (v : V) : ∀ fs : List (Str × V), (putF f v fs).length ≤ fs.length + 1
  | [] => by simp [putF]
  | (k, x) :: r => by
    have ih := length_putF f v r
    rw [show putF f v ((k, x) :: r) = (if k = f then (k, v) :: r else (k, x) :: putF f v r) from rfl]
    by_cases hk : k = f
    · rw [if_pos hk, List.length_cons, List.length_cons]; omega
    · rw [if_neg hk, List.length_cons, List.length_cons]; omega

theorem RelO.some_of {v : V} {o : Option Value} (r : RelO (some v) o) : ∃ u, o = some u ∧ RelV v u := by
  cases o with
  | none => exact (show False from r).elim
  | some u => exact ⟨u, rfl, r⟩
theorem RelO.none_of {o : Option Value} (r : RelO none o) : o = none := by
  cases o with
  | none => rfl
  | some u => exact (show False from r).elim
theorem handed_of {v : V} {u : Value} (r : RelV v u) : PySem.W.handedIn u = true := by
  cases v with
  | non => cases (show u = Value.none from r); rfl
  | bl b => cases (show u = Value.bool b from r); rfl
  | int i => obtain ⟨t, e⟩ := (show ∃ t, u = Value.int i t from r); cases e; rfl
  | str x => obtain ⟨t, e⟩ := (show ∃ t, u = Value.str x t from r); cases e; rfl
  | byt b => obtain ⟨t, e⟩ := (show ∃ t, u = Value.bytes b t from r); cases e; rfl
  | flt b => obtain ⟨t, e⟩ := (show ∃ t, u = Value.float b t from r); cases e; rfl
  | ref a => cases (show u = Value.ref a from r); rfl
  | ty n => cases (show u = Value.type n from r); rfl

section
variable {P : Program} {w : World} {H H' : Hp} {h h' : Heap} {a C dx : Addr} {fs fs' : List (Str × V)}
theorem ins_get (hok : HOk P w H h) (e : H a = some (.ins C dx fs)) : ∃ mA, ObjM h a dx C mA ∧ (∀ f, RelO (fs.lookup f) (mA f)) ∧ PySem.Within mA (fs.map (·.1)) ∧ fs.length ≤ 1000 ∧ H dx = some (.own a) := by
  obtain ⟨d, z, ne, ob, mA, n, r, q⟩ := (show ObjOk P w H h a (.ins C dx fs) from hok a _ e)
  exact ⟨mA, ⟨ob, n, ne⟩, r, q, z, d⟩
end

/-! ### what of the text a class must have -/
structure Cls (K : PySem.W.Frag) (C : Addr) : Prop where
  pg : PySem.W.plainGet K C Str.empty = true
  hd : PySem.W.hasDictIn K C = true
  po : PySem.W.plainOver K C = true
  sa : PySem.W.findIn K (.ref C) "__setattr__" = some (some (.builtin "object.__setattr__"))
theorem Cls.get {K : PySem.W.Frag} {C : Addr} (c : Cls K C) (f : Str) : PySem.W.plainGet K C f = true := c.pg
/-- no class of it has the name -/
def NoAttr (K : PySem.W.Frag) (C : Addr) (f : Str) : Prop := PySem.W.findIn K (.ref C) f = some none
theorem NoAttr.taker {K : PySem.W.Frag} {C : Addr} {f : Str} (n : NoAttr K C f) : PySem.W.takerIn K C f = some none := by
  unfold PySem.W.takerIn
  rw [show PySem.W.findIn K (.ref C) f = some none from n]
  rfl
/-- a constant of the class -/
structure Con (K : PySem.W.Frag) (C : Addr) (f : Str) (v : V) (u : Value) : Prop where
  at_ : PySem.W.findIn K (.ref C) f = some (some u)
  rel : RelV v u
  get : PySem.W.specialIn K u "__get__" = some none
  cp : PySem.W.copiedNames.contains f = false
/-- a method: a plain def of the class or of one above it -/
structure Meth (K : PySem.W.Frag) (C : Addr) (m : Str) (f : Addr) : Prop where
  at_ : PySem.W.findIn K (.ref C) m = some (some (.ref f))
  fn : PySem.W.isFn K (.ref f) = true
  kp : PySem.W.keepIn K (.ref f) = true

section
variable {X : Cx} {pins : List (Addr × Obj)} {σ : St} {H : Hp} {s : Shared} {a C dx : Addr} {fs : List (Str × V)} {f : Str} {v : V} {A : Around} {E : Value → Shared → Prop}

theorem getattr_ok {b : Bool} {Q : Value → Shared → Prop} (I : Inv X pins σ H s) (e : H a = some (.ins C dx fs)) (c : Cls X.K C) (n : NoAttr X.K C f) (l : fs.lookup f = some v)
    (h : ∀ u s', Inv X pins σ H s' → RelV v u → Q u s') : wpAny (model X.prog X.w) A (getAttr (.ref a) f b) Q E s := by
  obtain ⟨mA, O, r, _, _, _⟩ := ins_get I.hok e
  obtain ⟨u, hu, ru⟩ := RelO.some_of (v := v) (o := mA f) (by rw [← l]; exact r f)
  exact get_map I.kIn O (c.get f) c.hd n hu (handed_of ru) (h u _ (I.tok _) ru)

theorem getcon_ok {b : Bool} {u : Value} {Q : Value → Shared → Prop} (I : Inv X pins σ H s) (e : H a = some (.ins C dx fs)) (c : Cls X.K C) (k : Con X.K C f v u) (l : fs.lookup f = none)
    (h : ∀ s', Inv X pins σ H s' → Q u s') : wpAny (model X.prog X.w) A (getAttr (.ref a) f b) Q E s := by
  obtain ⟨mA, O, r, _, _, _⟩ := ins_get I.hok e
  have hn : mA f = none := RelO.none_of (by rw [← l]; exact r f)
  exact get_const I.kIn O (c.get f) c.hd k.at_ k.get k.cp hn (handed_of k.rel) (h _ (I.tok _))

theorem getmeth_ok {m : Str} {g : Addr} {pl : Sem Bool} {Q : Value × List Value → Shared → Prop} (I : Inv X pins σ H s) (e : H a = some (.ins C dx fs)) (c : Cls X.K C) (k : Meth X.K C m g) (l : fs.lookup m = none)
    (h : Q (.ref g, [.ref a]) s) : wpAny (model X.prog X.w) A (getMethod (.ref a) m pl) Q E s := by
  obtain ⟨mA, O, r, _, _, _⟩ := ins_get I.hok e
  have hn : mA m = none := RelO.none_of (by rw [← l]; exact r m)
  exact get_meth I.kIn O (c.get m) k.at_ k.fn hn h

theorem setattr_ok {y : V} {u : Value} {Q : Unit → Shared → Prop} (I : Inv X pins σ H s) (e : H a = some (.ins C dx fs)) (c : Cls X.K C) (n : NoAttr X.K C f) (hl : fs.length < 1000) (ry : RelV y u)
    (h : ∀ s', Inv X pins σ (upd H a (.ins C dx (putF f y fs))) s' → Q () s') : wpAny (model X.prog X.w) A (setAttr (.ref a) f u) Q E s := by
  obtain ⟨mA, O, r, wi, _, ho⟩ := ins_get I.hok e
  have hz : (fs.map (·.1)).length ≤ sizeLine := by rw [List.length_map, sizeLine_eq]; omega
  refine set_map I.kIn O c.sa c.po n.taker c.hd wi hz fun h' O' sb => h _ ?_
  have hd : ∃ o, h'.get? dx = some o := let ⟨o, _, _, e', _⟩ := O'.ns; ⟨o, e'⟩
  refine I.write (x := a) (e := dx) (by rw [e]; exact True.intro) (.inr ho) (fun b q hb z => (sb.2 b hb).trans z) hd ?_
  refine ⟨by rw [upd_ne O.ne]; exact ho, ?_, O.ne, O'.obj, _, O'.ns, fun g => ?_, fun g hg => ?_⟩
  · have := length_putF f y fs; omega
  · show RelO ((putF f y fs).lookup g) (if g = f then some u else mA g)
    rw [lookup_putF]
    by_cases q : g = f
    · rw [if_pos q, if_pos q]; exact ry
    · rw [if_neg q, if_neg q]; exact r g
  · by_cases q : g = f
    · rw [q]; exact (keys_putF f y fs).1
    · refine (keys_putF f y fs).2 g (wi g fun z => hg ?_)
      show (if g = f then some u else mA g) = none
      rw [if_neg q]; exact z

/-- a new instance, tracked, without attributes -/
theorem Inv.made (I : Inv X pins σ H s) : Inv X pins σ (upd (upd H s.heap.objs.size (.own (s.heap.objs.size + 1))) (s.heap.objs.size + 1) (.ins C s.heap.objs.size []))
    { s with heap := (s.heap.push PySem.W.emptyDict).push (PySem.W.instObj C s.heap.objs.size) } := by
  have e1 : (s.heap.push PySem.W.emptyDict).get? s.heap.objs.size = some PySem.W.emptyDict := Heap.get?_push_size s.heap rfl
  have e2 : ((s.heap.push PySem.W.emptyDict).push (PySem.W.instObj C s.heap.objs.size)).get? (s.heap.objs.size + 1) = some (PySem.W.instObj C s.heap.objs.size) := by
    have := Heap.get?_push_size (s.heap.push PySem.W.emptyDict) (o := PySem.W.instObj C s.heap.objs.size) rfl
    rwa [Heap.size_push] at this
  have e3 : (s.heap.push PySem.W.emptyDict).Ns s.heap.objs.size (fun _ => none) := ⟨PySem.W.emptyDict, #[], _, e1, rfl, (fun e he => absurd he (by simp)), fun _ => rfl⟩
  have I1 := I.laid (a := s.heap.objs.size) (o := .own (s.heap.objs.size + 1)) (h' := s.heap.push PySem.W.emptyDict) (t' := s.toks) (fun b u q => Heap.get?_push_of_some _ q) (Nat.le_refl _) ⟨_, e1⟩
  refine I1.laid (a := s.heap.objs.size + 1) (o := .ins C s.heap.objs.size []) (t' := s.toks) (fun b u q => Heap.get?_push_of_some _ q) (Nat.le_of_eq (Heap.size_push _ _)) ?_
  have ne : s.heap.objs.size ≠ s.heap.objs.size + 1 := Nat.ne_of_lt (Nat.lt_succ_self _)
  refine ⟨by rw [upd_ne ne, upd_same], Nat.zero_le _, ne, e2, fun _ => none, (Heap.Ns1.of_empty e3).at fun o q => Heap.get?_push_of_some _ q, fun _ => True.intro, fun y hy => absurd rfl hy⟩

/-- e.f where nothing but the object is asked: through attributeBase (super) and the last hold -/
theorem attr_of {prog : Program} {w : World} {env : Env} {e : Expr} {f : Str} {pos : Pos} {s : Shared} {Q : Value → Shared → Prop} (hb : attributeBase e f env (eval e env) = eval e env)
    (h : wpAny (model prog w) A (eval e env) (fun o s₁ => wpAny (model prog w) A (getAttr o f true) Q E s₁) E s) : wpAny (model prog w) A (eval (.Attribute e f pos) env) Q E s :=
  Attribute_any_ h (by rw [arm_eval_Attribute, hb])
end

/-! ### readings and rules -/
/-- e.f, an attribute of the instance -/
def tFld (K : PySem.W.Frag) (ta : TE) (f : Str) : TE := fun σ H Q => ta σ H fun x H1 => ∃ a C dx fs v, x = .ref a ∧ H1 a = some (.ins C dx fs) ∧ Cls K C ∧ NoAttr K C f ∧ fs.lookup f = some v ∧ Q v H1
/-- e.f, a constant of the class -/
def tCon (K : PySem.W.Frag) (ta : TE) (f : Str) : TE := fun σ H Q => ta σ H fun x H1 => ∃ a C dx fs v u, x = .ref a ∧ H1 a = some (.ins C dx fs) ∧ Cls K C ∧ Con K C f v u ∧ fs.lookup f = none ∧ Q v H1
/-- e.f = value -/
def sFld (K : PySem.W.Frag) (ta tv : TE) (f : Str) : TS := fun D σ H => tv σ H fun y H1 => ta σ H1 fun x H2 => ∃ a C dx fs, x = .ref a ∧ H2 a = some (.ins C dx fs) ∧ Cls K C ∧ NoAttr K C f ∧ fs.length < 1000 ∧
  D.nx σ (upd H2 a (.ins C dx (putF f y fs)))
/-- an augmented operator on two values -/
def InOp (X : Cx) (op : Operator) (rd : V → V → Hp → VK → Prop) : Prop :=
  ∀ (pins : List (Addr × Obj)) (s : Shared) (σ : St) (H : Hp) (x y : V) (u v : Value) (Q : VK), Inv X pins σ H s → RelV x u → RelV y v → rd x y H Q → wpAny (model X.prog X.w) X.A (inplaceOp op u v) (EP X pins σ Q) X.xe s
/-- e.f op= value -/
def sFldAug (K : PySem.W.Frag) (ta tv : TE) (rd : V → V → Hp → VK → Prop) (f : Str) : TS := fun D σ H => ta σ H fun x H1 => ∃ a C dx fs v, x = .ref a ∧ H1 a = some (.ins C dx fs) ∧ Cls K C ∧ NoAttr K C f ∧ fs.lookup f = some v ∧
  tv σ H1 fun y H2 => rd v y H2 fun z H3 => ∃ dx' fs', H3 a = some (.ins C dx' fs') ∧ fs'.length < 1000 ∧ D.nx σ (upd H3 a (.ins C dx' (putF f z fs')))

section
variable {X : Cx} {o e value : Expr} {f : Str} {pos pos' tpos : Pos} {ta tv : TE}
theorem pe_fld (he : PE X e ta) (hb : attributeBase e f X.env (eval e X.env) = eval e X.env) : PE X (.Attribute e f pos) (tFld X.K ta f) := by
  intro pins s σ H Q I h
  refine attr_of hb (thn (he pins s σ H _ I h) fun u s1 ⟨x, H1, I1, rx, a, C, dx, fs, v, ex, ea, c, n, l, q⟩ => ?_)
  subst ex
  obtain rfl : u = Value.ref a := rx
  exact getattr_ok I1 ea c n l fun u' s2 I2 ru => ⟨v, H1, I2, ru, q⟩
theorem pe_con (he : PE X e ta) (hb : attributeBase e f X.env (eval e X.env) = eval e X.env) : PE X (.Attribute e f pos) (tCon X.K ta f) := by
  intro pins s σ H Q I h
  refine attr_of hb (thn (he pins s σ H _ I h) fun u s1 ⟨x, H1, I1, rx, a, C, dx, fs, v, u0, ex, ea, c, k, l, q⟩ => ?_)
  subst ex
  obtain rfl : u = Value.ref a := rx
  exact getcon_ok I1 ea c k l fun s2 I2 => ⟨v, H1, I2, k.rel, q⟩
theorem ps_fld (ha : PE X o ta) (hv : PE X value tv) (hs : swapsWith value (some (.Attribute o f pos')) pos.line X.env = pure false) : PS X (.Assign [.Attribute o f pos'] value pos) (sFld X.K ta tv f) := by
  intro pins s σ H D I h
  refine plainObj_wpAny_Assign_Attribute (thn (hv pins s σ H _ I h) fun u s1 ⟨y, H1, I1, ry, q⟩ => thn (ha pins s1 σ H1 _ I1 q) fun ov s2 ⟨x, H2, I2, rx, a, C, dx, fs, ex, ea, c, n, l, q2⟩ => ?_) hs
  subst ex
  obtain rfl : ov = Value.ref a := rx
  exact setattr_ok I2 ea c n l ry fun s3 I3 => ⟨σ, _, I3, q2⟩
theorem ps_fldaug {op : Operator} {rd : V → V → Hp → VK → Prop} (ha : PE X o ta) (hv : PE X value tv) (hop : InOp X op rd) : PS X (.AugAssign (.Attribute o f tpos) op value pos) (sFldAug X.K ta tv rd f) := by
  intro pins s σ H D I h
  refine wpAny_AugAssign_AttributeAny (thn (ha pins s σ H _ I h) fun ov s1 ⟨x, H1, I1, rx, a, C, dx, fs, v, ex, ea, c, n, l, q⟩ => ?_)
  subst ex
  obtain rfl : ov = Value.ref a := rx
  refine getattr_ok I1 ea c n l fun u s2 I2 ru => thn (hv pins s2 σ H1 _ I2 q) fun w3 s3 ⟨y, H2, I3, ry, q3⟩ => thn (hop pins s3 σ H2 v y u w3 _ I3 ru ry q3) fun w4 s4 ⟨z, H3, I4, rz, dx', fs', ea', l', q4⟩ => ?_
  exact setattr_ok I4 ea' c n l' rz fun s5 I5 => ⟨σ, _, I5, q4⟩
def rAdd : V → V → Hp → VK → Prop := fun x y H Q => ∃ i j, x = .int i ∧ y = .int j ∧ Q (.int (i + j)) H
def rSub : V → V → Hp → VK → Prop := fun x y H Q => ∃ i j, x = .int i ∧ y = .int j ∧ Q (.int (i - j)) H
theorem in_add : InOp X .Add rAdd := by
  rintro pins s σ H x y u v Q I rx ry ⟨i, j, rfl, rfl, q⟩
  obtain ⟨t, rfl⟩ := (show ∃ t, u = Value.int i t from rx)
  obtain ⟨t', rfl⟩ := (show ∃ t', v = Value.int j t' from ry)
  exact PyProof.Rows.iadd_int ⟨.int (i + j), H, I.tok _, ⟨_, rfl⟩, q⟩
theorem in_sub : InOp X .Sub rSub := by
  rintro pins s σ H x y u v Q I rx ry ⟨i, j, rfl, rfl, q⟩
  obtain ⟨t, rfl⟩ := (show ∃ t, u = Value.int i t from rx)
  obtain ⟨t', rfl⟩ := (show ∃ t', v = Value.int j t' from ry)
  exact PyProof.Rows.isub_int ⟨.int (i - j), H, I.tok _, ⟨_, rfl⟩, q⟩

/-- what is between an instance and its method: the tree of a method call -/
theorem methcall_of {pl : Sem Bool} {m : Str} {apos : Pos} {args : List Expr} {pins : List (Addr × Obj)} {s : Shared} {σ : St} {H : Hp} {Q : Value → Shared → Prop} {te : TE} (he : PE X e te) (I : Inv X pins σ H s)
    (h : te σ H fun x H1 => ∃ a C dx fs g, x = .ref a ∧ H1 a = some (.ins C dx fs) ∧ Cls X.K C ∧ Meth X.K C m g ∧ fs.lookup m = none ∧
      ∀ s1, Inv X pins σ H1 s1 → wpAny (model X.prog X.w) X.A (callWith pos (.ref g) [.ref a] (backTo pos (starEach args X.env)) (backToKw pos (keywordEach [] X.env))) Q X.xe s1)
    (ht : eval (.Call (.Attribute e m apos) args [] pos) X.env = (do
      let ov ← eval e X.env
      standAt apos.atName
      let (f, first) ← holding [ov] (getMethod ov m pl)
      callWith pos f first (backTo pos (starEach args X.env)) (backToKw pos (keywordEach [] X.env)))) :
    wpAny (model X.prog X.w) X.A (eval (.Call (.Attribute e m apos) args [] pos) X.env) Q X.xe s := by
  refine PySem.W.methodCall_KW (pl := pl) (thn (he pins s σ H _ I h) fun u s1 ⟨x, H1, I1, rx, a, C, dx, fs, g, ex, ea, c, k, l, q⟩ => ?_) ht
  subst ex
  obtain rfl : u = Value.ref a := rx
  exact getmeth_ok I1 ea c k l (q s1 I1)
end

/-! ### isinstance -/
section
variable {X : Cx} {pins : List (Addr × Obj)} {σ : St} {H : Hp} {s : Shared} {A : Around} {E : Value → Shared → Prop} {Q : Value → Shared → Prop} {c : Value} {b : Bool}
/-- the type of a value, as the fragment's deciders take it; for an instance its class -/
inductive TyOf (K : PySem.W.Frag) (H : Hp) : V → Value → Prop where
  | non : TyOf K H .non (.type "NoneType")
  | bl (x : Bool) : TyOf K H (.bl x) (.type "bool")
  | int (i : Int) : TyOf K H (.int i) (.type "int")
  | str (x : Str) : TyOf K H (.str x) (.type "str")
  | flt (x : UInt64) : TyOf K H (.flt x) (.type "float")
  | lst {a : Addr} {xs : List V} (e : H a = some (.lst xs)) : TyOf K H (.ref a) (.type "list")
  | frz {a : Addr} {o : Obj} {xs : List V} (e : H a = some (.frz o (.lst xs))) : TyOf K H (.ref a) (.type "list")
  | tup {a : Addr} {xs : List V} (e : H a = some (.tup xs)) : TyOf K H (.ref a) (.type "tuple")
  | dK {a : Addr} {kvs : List (Key × V)} (e : H a = some (.dK kvs)) : TyOf K H (.ref a) (.type "dict")
  | dT {a : Addr} {kvs : List (List Key × V)} (e : H a = some (.dT kvs)) : TyOf K H (.ref a) (.type "dict")
  | ins {a C dx : Addr} {fs : List (Str × V)} (e : H a = some (.ins C dx fs)) (cl : Cls K C) (ha : PySem.W.findIn K (.ref C) "__class__" = some (some (.builtin "object.__class__")))
      (hn : PySem.W.specialIn K (.builtin "object.__class__") "__get__" = some (some (.builtin "getset_descriptor.__get__"))) (htk : PySem.W.takesIn K (.builtin "object.__class__") = some true)
      (hm : PySem.W.mroIn K C (.type "object") = some true) : TyOf K H (.ref a) (.ref C)
/-- isinstance(x, c) for one class c, a built-in or an own one: kitOne's answer -/
theorem isinst_ok {x : V} {u t : Value} (I : Inv X pins σ H s) (rx : RelV x u) (ty : TyOf X.K H x t) (e : PySem.W.kitOne X.K t c = some b) (h : ∀ tk, Q (.bool b) { s with toks := tk }) :
    wpAny (model X.prog X.w) A (call (.builtin "isinstance") [u, c]) Q E s := by
  cases ty with
  | non => cases (show u = Value.none from rx); exact PySem.W.kia_one PySem.W.kitx_none I.kIn True.intro e (fun z => nomatch z) h
  | bl y => cases (show u = Value.bool y from rx); exact PySem.W.kia_one PySem.W.kitx_bool I.kIn True.intro e (fun z => nomatch z) h
  | int i => obtain ⟨t, q⟩ := (show ∃ t, u = Value.int i t from rx); cases q; exact PySem.W.kia_one PySem.W.kitx_int I.kIn True.intro e (fun z => nomatch z) h
  | str y => obtain ⟨t, q⟩ := (show ∃ t, u = Value.str y t from rx); cases q; exact PySem.W.kia_one PySem.W.kitx_str I.kIn True.intro e (fun z => nomatch z) h
  | flt y => obtain ⟨t, q⟩ := (show ∃ t, u = Value.float y t from rx); cases q; exact PySem.W.kia_one PySem.W.kitx_float I.kIn True.intro e (fun z => nomatch z) h
  | @lst a xs ea =>
    cases (show u = Value.ref a from rx)
    obtain ⟨_, _, n, _, h1⟩ := (show ObjOk X.prog X.w H s.heap a (.lst xs) from I.hok a _ ea)
    exact PySem.W.kia_one PySem.W.kitx_list I.kIn ⟨_, h1, rfl⟩ e (fun z => nomatch z) h
  | @frz a ob xs ea =>
    cases (show u = Value.ref a from rx)
    obtain ⟨_, _, _, n, _, h1⟩ := (show ObjOk X.prog X.w H s.heap a (.frz ob (.lst xs)) from I.hok a _ ea)
    exact PySem.W.kia_one PySem.W.kitx_list I.kIn ⟨_, h1, rfl⟩ e (fun z => nomatch z) h
  | @tup a xs ea =>
    cases (show u = Value.ref a from rx)
    obtain ⟨_, _, _, p⟩ := (show ObjOk X.prog X.w H s.heap a (.tup xs) from I.hok a _ ea)
    obtain ⟨o, h1, h2, _⟩ := p
    exact PySem.W.kia_one PySem.W.kitx_tuple I.kIn ⟨o, h1, h2⟩ e (fun z => nomatch z) h
  | @dK a kvs ea =>
    cases (show u = Value.ref a from rx)
    obtain ⟨_, _, vs, _, p⟩ := (show ObjOk X.prog X.w H s.heap a (.dK kvs) from I.hok a _ ea)
    obtain ⟨o, es, ep, h1, h2, _⟩ := p
    exact PySem.W.kia_one PySem.W.kitx_dict I.kIn ⟨o, h1, h2.1⟩ e (fun z => nomatch z) h
  | @dT a kvs ea =>
    cases (show u = Value.ref a from rx)
    obtain ⟨_, _, xs, _, o, es, ep, h1, h2, _⟩ := (show ObjOk X.prog X.w H s.heap a (.dT kvs) from I.hok a _ ea)
    exact PySem.W.kia_one PySem.W.kitx_dict I.kIn ⟨o, h1, h2.1⟩ e (fun z => nomatch z) h
  | @ins a C dx fs ea cl ha hn htk hm =>
    cases (show u = Value.ref a from rx)
    obtain ⟨mA, O, _⟩ := ins_get I.hok ea
    obtain ⟨od, J, _⟩ := O.look
    exact PySem.W.kia_one (PySem.W.kitx_own (cl.get _) cl.hd ha hn htk hm) I.kIn J e (fun z => nomatch z) h
end
end L2

namespace L2
open PySem PySem.Spec PyProof.Rows

/-! ### room -/
structure Room (k : Nat) (A : Around) : Prop where
  hd : A.handled = none
  dp : A.depth + 3 * k + 5 < recursionLimit
  un : A.units + 16 * k + 200 < cLine
  gd : A.guards = some []
theorem Room.mono {j k : Nat} {A : Around} (r : Room k A) (h : j ≤ k) : Room j A := ⟨r.hd, by have := r.dp; omega, by have := r.un; omega, r.gd⟩
theorem Room.deeper {k : Nat} {A : Around} (r : Room (k + 1) A) (env : Env) : Room k (A.deeper env) :=
  ⟨r.hd, by have := r.dp; show A.depth + 1 + 3 * k + 5 < _; omega, by have := r.un; show A.units + 3 + 16 * k + 200 < _; omega, r.gd⟩
theorem Room.in1 {k : Nat} {A : Around} (r : Room (k + 1) A) : Room k A.in1 :=
  ⟨r.hd, by have := r.dp; show A.depth + 3 * k + 5 < _; omega, by have := r.un; show A.units + 1 + 16 * k + 200 < _; omega, r.gd⟩
theorem make_depth {A : Around} {C : Addr} {us : List Value} {kw : List (Str × Value)} : (A.under (.builtin "type.__call__" ⟨.ref C :: us, kw⟩)).depth = A.depth + 1 := by
  first | rfl | simp [Around.under, Code.weight, Code.isCreation, Code.isGuard, Code.isCaller, Code.frames, Code.isFrame, guardIds]
theorem make_units {A : Around} {C : Addr} {us : List Value} {kw : List (Str × Value)} : (A.under (.builtin "type.__call__" ⟨.ref C :: us, kw⟩)).units = A.units + 1 := by
  first | rfl | simp [Around.under, Code.cUnits, Code.frames, Code.isFrame]
theorem Room.make {k : Nat} {A : Around} (r : Room (k + 1) A) (C : Addr) (us : List Value) (kw : List (Str × Value)) : Room k (A.under (.builtin "type.__call__" ⟨.ref C :: us, kw⟩)) :=
  ⟨r.hd, by have := r.dp; rw [make_depth]; omega, by have := r.un; rw [make_units]; omega, by first | exact r.gd | (simpa [Around.under, Code.guards, Code.isGuard, pushGuards, guardIds] using r.gd)⟩
theorem Room.depth {k : Nat} {A : Around} (r : Room k A) : A.depth < recursionLimit := by have := r.dp; omega
theorem Room.units {k : Nat} {A : Around} (r : Room k A) : A.units + 64 < cLine := by have := r.un; omega
theorem Room.units0 {k : Nat} {A : Around} (r : Room k A) : A.units < cLine := by have := r.un; omega

/-! ### argument lists and displays -/
def tNil : TA := fun _ H Q => Q [] H
def tCons (ta : TE) (tr : TA) : TA := fun σ H Q => ta σ H fun x H1 => tr σ H1 fun xs H2 => Q (x :: xs) H2
section
variable {X : Cx} {e : Expr} {es : List Expr} {te : TE} {t : TA} {pos : Pos}
theorem pa_nil : PA X [] tNil := fun _ _ _ _ H Q I h => Calls.spliced_nil ⟨[], H, I, .nil, h⟩
theorem pa_cons (ha : PE X e te) (hr : PA X es t) (hs : starEach (e :: es) X.env = (false, eval e X.env) :: starEach es X.env := by rfl) : PA X (e :: es) (tCons te t) := by
  intro pos pins s σ H Q I h
  rw [hs]
  show wpAny _ _ (spliced ((false, eval e X.env) :: backTo pos (starEach es X.env))) _ _ s
  refine Calls.spliced_cons (thn (ha pins s σ H _ I h) fun u s1 ⟨x, H1, I1, r1, q1⟩ => ?_)
  exact thn (hr pos pins s1 σ H1 _ I1 q1) fun us s2 ⟨xs, H2, I2, r2, q2⟩ => ⟨x :: xs, H2, I2, .cons r1 r2, q2⟩

/-- a tuple, a list of written items -/
def tTup (t : TA) : TE := fun σ H Q => t σ H fun xs H1 => xs.length ≤ sizeLine ∧ ∀ p, H1 p = none → Q (.ref p) (upd H1 p (.tup xs))
def tLst (t : TA) : TE := fun σ H Q => t σ H fun xs H1 => xs.length ≤ sizeLine ∧ ∀ p, H1 p = none → Q (.ref p) (upd H1 p (.lst xs))
theorem pe_tup {x1} (h : PA X es t) : PE X (.Tuple es x1 pos) (tTup t) := by
  intro pins s σ H Q I hq
  refine wpAny_Tuple_spliced (thn (h pos pins s σ H _ I hq) fun us s1 ⟨xs, H1, I1, r, z, q⟩ => ⟨by rw [← r.length]; exact z, ?_⟩)
  have hf : H1 s1.heap.objs.size = none := I1.hok.fresh (Nat.le_refl _)
  refine ⟨.ref s1.heap.objs.size, upd H1 s1.heap.objs.size (.tup xs), I1.laid (t' := s1.toks) (fun b u e => Heap.get?_push_of_some _ e) (Nat.le_refl _) ?_, rfl, q _ hf⟩
  exact ⟨z, us, r, ⟨_, Heap.get?_push_size _ rfl, rfl, _, rfl⟩⟩
theorem pe_lst (h : PA X es t) : PE X (.List es pos) (tLst t) := by
  intro pins s σ H Q I hq
  refine wpAny_List_spliced (thn (h pos pins s σ H _ I hq) fun us s1 ⟨xs, H1, I1, r, z, q⟩ => ⟨by rw [← r.length]; exact z, ?_⟩)
  have hf : H1 s1.heap.objs.size = none := I1.hok.fresh (Nat.le_refl _)
  refine ⟨.ref s1.heap.objs.size, upd H1 s1.heap.objs.size (.lst xs), I1.laid (t' := s1.toks) (fun b u e => Heap.get?_push_of_some _ e) (Nat.le_refl _) ?_, rfl, q _ hf⟩
  exact ⟨z, us, 0, r, Heap.get?_push_size _ rfl⟩
end

/-! ### what a def promises -/
/-- a def's promise: the bound arguments in the parameters' order, the heap, the wanted end, the wanted exception -/
abbrev Sp := List V → Hp → VK → XK → Prop
/-- how an exception lies behind a call (file 08 gives it): the callers' frames, abstract heap and state ahead of the call, the wish, the exception, the state -/
abbrev CXT := List Env → Hp → Shared → XK → Value → Shared → Prop

/-- the state at a call -/
structure Env0 (P : Program) (w : World) (K : PySem.W.Frag) (mg : Str → Option Value) (base : Heap) (A : Around) (outer : List Env) (s : Shared) (H : Hp) : Prop where
  frames : A.frames = some outer
  mod : Mod K mg base
  bs : ∀ b o, base.get? b = some o → s.heap.get? b = some o ∧ H b = none
  bsz : base.objs.size ≤ s.heap.objs.size
  funs : s.heap.FunFrames base outer
  frf : ∀ b ∈ frs outer, H b = none
  hok : HOk P w H s.heap
  bare : AllBare s.gens
/-- a call's end -/
def CE (outer : List Env) (P : Program) (w : World) (H : Hp) (s : Shared) (Q : VK) (u : Value) (s' : Shared) : Prop :=
  ∃ v H', s'.os = s.os ∧ AllBare s'.gens ∧ Un (frs outer) [] H H' s.heap s'.heap ∧ HOk P w H' s'.heap ∧ RelV v u ∧ Q v H'
def CR (CX : CXT) (outer : List Env) (P : Program) (w : World) (H : Hp) (s : Shared) (Q : VK) (E : XK) (r : Result) (s' : Shared) : Prop :=
  match r with
  | .ok (.ret u) => CE outer P w H s Q u s'
  | .ok _ => False
  | .error e => CX outer H s E e s'
structure FnOk (P : Program) (w : World) (K : PySem.W.Frag) (mg : Str → Option Value) (base : Heap) (CX : CXT) (k : Nat) (f : Addr) (fd : FuncData) (ps : List Str) (sp : Sp) : Prop where
  len : ∀ vs H Q E, sp vs H Q E → vs.length = ps.length
  run : ∀ (A : Around) (outer : List Env) (s : Shared) (H : Hp) (args : Args) (us : List Value) (vs : List V) (Q : VK) (E : XK), Room k A → Env0 P w K mg base A outer s H → BindsTo s fd args (ps.zip us) → Vals vs us → sp vs H Q E →
    codeAny (model P w) A (.call (.ref f) args) (CR CX outer P w H s Q E) s
theorem FnOk.mono {P : Program} {w : World} {K : PySem.W.Frag} {mg : Str → Option Value} {base : Heap} {CX : CXT} {j k : Nat} {f : Addr} {fd : FuncData} {ps : List Str} {sp : Sp} (F : FnOk P w K mg base CX j f fd ps sp) (h : j ≤ k) :
    FnOk P w K mg base CX k f fd ps sp := ⟨F.len, fun A outer s H args us vs Q E hr => F.run A outer s H args us vs Q E (hr.mono h)⟩
/-- a weaker promise -/
theorem FnOk.imp {P : Program} {w : World} {K : PySem.W.Frag} {mg : Str → Option Value} {base : Heap} {CX : CXT} {k : Nat} {f : Addr} {fd : FuncData} {ps : List Str} {sp sp' : Sp} (F : FnOk P w K mg base CX k f fd ps sp)
    (h : ∀ vs H Q E, sp' vs H Q E → sp vs H Q E) : FnOk P w K mg base CX k f fd ps sp' :=
  ⟨fun vs H Q E q => F.len vs H Q E (h _ _ _ _ q), fun A outer s H args us vs Q E hr he hb hv hs => F.run A outer s H args us vs Q E hr he hb hv (h _ _ _ _ hs)⟩

theorem Env0.make {P : Program} {w : World} {K : PySem.W.Frag} {mg : Str → Option Value} {base : Heap} {A : Around} {outer : List Env} {s : Shared} {H : Hp} (e : Env0 P w K mg base A outer s H) (C : Addr) (us : List Value) (kw : List (Str × Value)) :
    Env0 P w K mg base (A.under (.builtin "type.__call__" ⟨.ref C :: us, kw⟩)) outer s H := ⟨by first | exact e.frames | (simpa [Around.under, Code.envs, Code.isFrame, pushEnvs] using e.frames), e.mod, e.bs, e.bsz, e.funs, e.frf, e.hok, e.bare⟩
theorem Env0.in1 {P : Program} {w : World} {K : PySem.W.Frag} {mg : Str → Option Value} {base : Heap} {A : Around} {outer : List Env} {s : Shared} {H : Hp} (e : Env0 P w K mg base A outer s H) :
    Env0 P w K mg base A.in1 outer s H := ⟨e.frames, e.mod, e.bs, e.bsz, e.funs, e.frf, e.hok, e.bare⟩

section
variable {X : Cx} {pins : List (Addr × Obj)} {σ : St} {H : Hp} {s s' : Shared}
/-- from a body: what a callee wants -/
theorem Inv.env0 (I : Inv X pins σ H s) : Env0 X.prog X.w X.K X.mg X.base X.A X.stack s H :=
  ⟨I.ok.frames, I.ok.mod, I.bs, Nat.le_trans I.ok.bsz I.sz, I.stack, I.stkFree, I.hok, I.bare⟩
/-- behind a call -/
theorem Inv.after {Q : VK} {u : Value} (I : Inv X pins σ H s) (h : CE X.stack X.prog X.w H s Q u s') : EP X pins σ Q u s' := by
  obtain ⟨v, H', os, bare, un, hok, r, q⟩ := h
  obtain ⟨hh, g, d, t, os'⟩ := s'
  obtain rfl : os' = s.os := os
  exact ⟨v, H', I.call (h' := hh) (g' := g) (d' := d) (t' := t) (ch := []) un hok bare (fun b z => absurd z (by simp)), r, q⟩
end

/-! ### calls -/
/-- f(..): the written arguments, then the defaults dvs; E: what is wanted of an exception -/
def tCall (sp : Sp) (dvs : List V) (E : XK) (t : TA) : TE := fun σ H Q => t σ H fun vs H1 => sp (vs ++ dvs) H1 Q E
/-- o.m(..) of an instance of the class at C -/
def tMeth (C : Addr) (m : Str) (sp : Sp) (dvs : List V) (E : XK) (ta : TE) (t : TA) : TE := fun σ H Q => ta σ H fun x H1 => ∃ a dx fs, x = .ref a ∧ H1 a = some (.ins C dx fs) ∧ fs.lookup m = none ∧
  t σ H1 fun vs H2 => sp (x :: (vs ++ dvs)) H2 Q E
/-- C(..): a new instance and its dict, then __init__ -/
def tMake (C : Addr) (sp : Sp) (dvs : List V) (E : XK) (t : TA) : TE := fun σ H Q => t σ H fun vs H1 => ∀ x dx, H1 x = none → H1 dx = none → dx ≠ x →
  sp (.ref x :: (vs ++ dvs)) (upd (upd H1 dx (.own x)) x (.ins C dx [])) (fun v H2 => v = .non ∧ Q (.ref x) H2) E

/-- how the parameters are bound: us the positional arguments, kw the keywords' values by name, ds the defaults that fill up -/
def Binds (K : PySem.W.Frag) (fd : FuncData) (ps : List Str) (ds : List Value) : Prop :=
  ∀ (s : Shared) (us : List Value), K.In s.heap → (us ++ ds).length = ps.length → BindsTo s fd ⟨us, []⟩ (ps.zip (us ++ ds))
/-- every parameter is given -/
theorem Binds.all {K : PySem.W.Frag} {fd : FuncData} {ps : List Str} (h : ∀ us : List Value, us.length = ps.length → bindArgs fd ⟨us, []⟩ = pure (ps.zip us)) : Binds K fd ps [] := fun s us _ hl => by
  rw [List.append_nil] at hl ⊢
  exact .of_eq (h us hl)

/-- an exception of a callee reaches what this body wants of exceptions -/
def Passes (CX : CXT) (X : Cx) (E : XK) : Prop := ∀ (pins : List (Addr × Obj)) (σ : St) (H : Hp) (s : Shared) (e : Value) (s' : Shared), Inv X pins σ H s → CX X.stack H s E e s' → X.xe e s'

section
variable {X : Cx} {CX : CXT} {k : Nat} {f C : Addr} {fd : FuncData} {ps : List Str} {sp : Sp} {dvs : List V} {ds : List Value} {E : XK} {x m : Str} {p pos apos : Pos} {e o : Expr} {es : List Expr} {ta : TE} {t : TA}

/-- the callee runs -/
theorem run_fn {pins : List (Addr × Obj)} {σ : St} {H : Hp} {s : Shared} {Q : VK} {us : List Value} {vs : List V} (F : FnOk X.prog X.w X.K X.mg X.base CX k f fd ps sp) (hr : Room k X.A) (hb : Binds X.K fd ps ds) (hd : Vals dvs ds) (hx : Passes CX X E)
    (I : Inv X pins σ H s) (r : Vals vs us) (h : sp (vs ++ dvs) H Q E) : wpAny (model X.prog X.w) X.A (call (.ref f) us) (EP X pins σ Q) X.xe s := by
  have r2 : Vals (vs ++ dvs) (us ++ ds) := r.append hd
  have hl : (us ++ ds).length = ps.length := by rw [← r2.length]; exact F.len _ _ _ _ h
  refine wpAny_call (codeAny_mono (F.run X.A X.stack s H ⟨us, []⟩ (us ++ ds) (vs ++ dvs) Q E hr I.env0 (hb s us I.kIn hl) r2 h) fun r s' hq => ?_)
  cases r with
  | error e => exact hx pins σ H s e s' I hq
  | ok fl =>
    cases fl with
    | ret u => exact I.after hq
    | next => exact False.elim hq
    | brk => exact False.elim hq
    | cont => exact False.elim hq

theorem pe_call (F : FnOk X.prog X.w X.K X.mg X.base CX k f fd ps sp) (hr : Room k X.A) (hg : Gl X x) (hm : X.mg x = some (.ref f)) (hk : PySem.W.keepIn X.K (.ref f) = true) (hb : Binds X.K fd ps ds) (hd : Vals dvs ds) (hx : Passes CX X E)
    (ha : PA X (e :: es) t) (hdb : (x == ("__debug__" : Str)) = false := by decide) (he : starEach (e :: es) X.env = (false, eval e X.env) :: starEach es X.env := by rfl) (hpl : (backTo pos (starEach es X.env)).any (·.1) = false := by rfl) :
    PE X (.Call (.Name x p) (e :: es) [] pos) (tCall sp dvs E t) := by
  intro pins s σ H Q I h
  refine wpAny_Call_Name_kw (ld_glob I hg hm ?_ hdb)
  refine PySem.W.callWith_K (h₀ := X.base) I.ok.mod.kin hk (thn (ha pos pins s σ H _ I h) fun us s1 ⟨vs, H1, I1, r, q⟩ => ⟨I1.kIn, ?_⟩) he hpl
  exact run_fn F hr hb hd hx I1 r q
theorem pe_call0 (F : FnOk X.prog X.w X.K X.mg X.base CX k f fd ps sp) (hr : Room k X.A) (hg : Gl X x) (hm : X.mg x = some (.ref f)) (hk : PySem.W.keepIn X.K (.ref f) = true) (hb : Binds X.K fd ps ds) (hd : Vals dvs ds) (hx : Passes CX X E)
    (hdb : (x == ("__debug__" : Str)) = false := by decide) : PE X (.Call (.Name x p) [] [] pos) (tCall sp dvs E tNil) := by
  intro pins s σ H Q I h
  refine wpAny_Call_Name_kw (ld_glob I hg hm ?_ hdb)
  exact PySem.W.callWith_K0 I.kIn hk (run_fn (us := []) F hr hb hd hx I .nil h)

/-- o.m(e, ..) -/
theorem pe_meth {pl : Sem Bool} (he : PE X o ta) (c : Cls X.K C) (hm : Meth X.K C m f) (F : FnOk X.prog X.w X.K X.mg X.base CX k f fd ps sp) (hr : Room k X.A) (hb : Binds X.K fd ps ds) (hd : Vals dvs ds) (hx : Passes CX X E) (ha : PA X (e :: es) t)
    (hst : starEach (e :: es) X.env = (false, eval e X.env) :: starEach es X.env := by rfl) (hpl : (backTo pos (starEach es X.env)).any (·.1) = false := by rfl)
    (ht : eval (.Call (.Attribute o m apos) (e :: es) [] pos) X.env = (do
      let ov ← eval o X.env
      standAt apos.atName
      let (f, first) ← holding [ov] (getMethod ov m pl)
      callWith pos f first (backTo pos (starEach (e :: es) X.env)) (backToKw pos (keywordEach [] X.env))) := by rfl) :
    PE X (.Call (.Attribute o m apos) (e :: es) [] pos) (tMeth C m sp dvs E ta t) := by
  intro pins s σ H Q I h
  refine PySem.W.methodCall_KW (pl := pl) (thn (he pins s σ H _ I h) fun u s1 ⟨x, H1, I1, rx, a, dx, fs, ex, ea, l, q⟩ => ?_) ht
  subst ex
  obtain rfl : u = Value.ref a := rx
  refine getmeth_ok I1 ea c hm l ?_
  refine PySem.W.callWith_K (first := [.ref a]) (h₀ := X.base) I.ok.mod.kin hm.kp (thn (ha pos pins s1 σ H1 _ I1 q) fun us s2 ⟨vs, H2, I2, r, q2⟩ => ⟨I2.kIn, ?_⟩) hst hpl
  exact run_fn (us := .ref a :: us) (vs := .ref a :: vs) F hr hb hd hx I2 (.cons rfl r) q2
/-- o.m() -/
theorem pe_meth0 {pl : Sem Bool} (he : PE X o ta) (c : Cls X.K C) (hm : Meth X.K C m f) (F : FnOk X.prog X.w X.K X.mg X.base CX k f fd ps sp) (hr : Room k X.A) (hb : Binds X.K fd ps ds) (hd : Vals dvs ds) (hx : Passes CX X E)
    (ht : eval (.Call (.Attribute o m apos) [] [] pos) X.env = (do
      let ov ← eval o X.env
      standAt apos.atName
      let (f, first) ← holding [ov] (getMethod ov m pl)
      callWith pos f first (backTo pos (starEach [] X.env)) (backToKw pos (keywordEach [] X.env))) := by rfl) :
    PE X (.Call (.Attribute o m apos) [] [] pos) (tMeth C m sp dvs E ta tNil) := by
  intro pins s σ H Q I h
  refine PySem.W.methodCall_KW (pl := pl) (thn (he pins s σ H _ I h) fun u s1 ⟨x, H1, I1, rx, a, dx, fs, ex, ea, l, q⟩ => ?_) ht
  subst ex
  obtain rfl : u = Value.ref a := rx
  refine getmeth_ok I1 ea c hm l ?_
  exact PySem.W.callWith_K0 (first := [.ref a]) I1.kIn hm.kp (run_fn (us := [.ref a]) (vs := [.ref a]) F hr hb hd hx I1 (.cons rfl .nil) q)

/-- what a class must have to be made -/
structure Mk (K : PySem.W.Frag) (C f : Addr) : Prop where
  makes : PySem.W.makesIn K C = true
  init : PySem.W.findIn K (.ref C) "__init__" = some (some (.ref f))
  fn : PySem.W.isFn K (.ref f) = true
  kp : PySem.W.keepIn K (.ref C) = true

theorem run_make {pins : List (Addr × Obj)} {σ : St} {H : Hp} {s : Shared} {Q : VK} {us : List Value} {vs : List V} (M : Mk X.K C f) (F : FnOk X.prog X.w X.K X.mg X.base CX k f fd ps sp) (hr : Room (k + 1) X.A) (hb : Binds X.K fd ps ds) (hd : Vals dvs ds)
    (hx : Passes CX X E) (I : Inv X pins σ H s) (r : Vals vs us)
    (h : ∀ x dx, H x = none → H dx = none → dx ≠ x → sp (.ref x :: (vs ++ dvs)) (upd (upd H dx (.own x)) x (.ins C dx [])) (fun v H2 => v = .non ∧ Q (.ref x) H2) E) :
    wpAny (model X.prog X.w) X.A (call (.ref C) us) (EP X pins σ Q) X.xe s := by
  have hq := h (s.heap.objs.size + 1) s.heap.objs.size (I.hok.fresh (Nat.le_succ _)) (I.hok.fresh (Nat.le_refl _)) (Nat.ne_of_lt (Nat.lt_succ_self _))
  have I2 := Inv.made (C := C) I
  have r2 : Vals (V.ref (s.heap.objs.size + 1) :: (vs ++ dvs)) (Value.ref (s.heap.objs.size + 1) :: (us ++ ds)) := .cons rfl (r.append hd)
  have hl : (Value.ref (s.heap.objs.size + 1) :: us ++ ds).length = ps.length := by
    have e := r2.length
    rw [F.len _ _ _ _ hq] at e
    exact e.symm
  refine wpAny_call (make_map (f := f) I.kIn M.makes M.init (beq_iff_eq.mp M.fn) (codeAny_mono (F.run _ X.stack _ _ ⟨Value.ref (s.heap.objs.size + 1) :: us, []⟩ (Value.ref (s.heap.objs.size + 1) :: (us ++ ds)) _ _ E (hr.make C us [])
    (I2.env0.make C us []) (hb _ (Value.ref (s.heap.objs.size + 1) :: us) I2.kIn hl) r2 hq) fun r s' hq' => ?_))
  cases r with
  | error e => exact hx pins σ _ _ e s' I2 hq'
  | ok fl =>
    cases fl with
    | ret u =>
      obtain ⟨v, H', I3, rv, ev, q3⟩ := I2.after hq'
      subst ev
      exact ⟨rv, ⟨V.ref (s.heap.objs.size + 1), H', I3, rfl, q3⟩⟩
    | next => exact False.elim hq'
    | brk => exact False.elim hq'
    | cont => exact False.elim hq'
theorem pe_make (M : Mk X.K C f) (F : FnOk X.prog X.w X.K X.mg X.base CX k f fd ps sp) (hr : Room (k + 1) X.A) (hg : Gl X x) (hm : X.mg x = some (.ref C)) (hb : Binds X.K fd ps ds) (hd : Vals dvs ds) (hx : Passes CX X E)
    (ha : PA X (e :: es) t) (hdb : (x == ("__debug__" : Str)) = false := by decide) (he : starEach (e :: es) X.env = (false, eval e X.env) :: starEach es X.env := by rfl) (hpl : (backTo pos (starEach es X.env)).any (·.1) = false := by rfl) :
    PE X (.Call (.Name x p) (e :: es) [] pos) (tMake C sp dvs E t) := by
  intro pins s σ H Q I h
  refine wpAny_Call_Name_kw (ld_glob I hg hm ?_ hdb)
  refine PySem.W.callWith_K (h₀ := X.base) I.ok.mod.kin M.kp (thn (ha pos pins s σ H _ I h) fun us s1 ⟨vs, H1, I1, r, q⟩ => ⟨I1.kIn, ?_⟩) he hpl
  exact run_make M F hr hb hd hx I1 r q
theorem pe_make0 (M : Mk X.K C f) (F : FnOk X.prog X.w X.K X.mg X.base CX k f fd ps sp) (hr : Room (k + 1) X.A) (hg : Gl X x) (hm : X.mg x = some (.ref C)) (hb : Binds X.K fd ps ds) (hd : Vals dvs ds) (hx : Passes CX X E)
    (hdb : (x == ("__debug__" : Str)) = false := by decide) : PE X (.Call (.Name x p) [] [] pos) (tMake C sp dvs E tNil) := by
  intro pins s σ H Q I h
  refine wpAny_Call_Name_kw (ld_glob I hg hm ?_ hdb)
  exact PySem.W.callWith_K0 I.kIn M.kp (run_make (us := []) M F hr hb hd hx I .nil h)
end

/-! ### keywords -/
/-- the values of the keywords, from the left -/
def PK (X : Cx) (kws : List Keyword) (t : TA) : Prop :=
  ∀ (pos : Pos) (pins : List (Addr × Obj)) (s : Shared) (σ : St) (H : Hp) (Q : List V → Hp → Prop), Inv X pins σ H s → t σ H Q → wpAny (model X.prog X.w) X.A (evalAll ((backToKw pos (keywordEach kws X.env)).map (·.2))) (AP X pins σ Q) X.xe s
section
variable {X : Cx} {CX : CXT} {k : Nat} {f C : Addr} {fd : FuncData} {ps ks : List Str} {sp : Sp} {E : XK} {x m : Str} {p pos apos kpos : Pos} {e o : Expr} {es : List Expr} {kws : List Keyword} {te ta : TE} {t tk : TA} {nm : Option Str}
theorem pk_nil : PK X [] tNil := fun _ _ _ _ H Q I h => wpAny_evalAll_nil ⟨[], H, I, .nil, h⟩
theorem pk_cons (ha : PE X e te) (hr : PK X kws t) : PK X (⟨nm, e, kpos⟩ :: kws) (tCons te t) := by
  intro pos pins s σ H Q I h
  show wpAny _ _ (evalAll ((do let v ← eval e X.env; standAt pos; pure v) :: (backToKw pos (keywordEach kws X.env)).map (·.2))) _ _ s
  refine wpAny_evalAll_cons (wpAny_bind (thn (ha pins s σ H _ I h) fun u s1 ⟨x, H1, I1, r1, q1⟩ => wpAny_bind (wpAny_standAt (wpAny_pure ?_))))
  exact thn (hr pos pins s1 σ H1 _ I1 q1) fun us s2 ⟨xs, H2, I2, r2, q2⟩ => ⟨x :: xs, H2, I2, .cons r1 r2, q2⟩

/-- how a call with keywords binds: g puts the positional values us and the keywords' values ws (names ks) in the parameters' order, defaults among them -/
structure KBinds (K : PySem.W.Frag) (fd : FuncData) (ps ks : List Str) (g : List Value → List Value → List Value) (gV : List V → List V → List V) : Prop where
  to : ∀ (s : Shared) (us ws : List Value), K.In s.heap → (g us ws).length = ps.length → BindsTo s fd ⟨us, ks.zip ws⟩ (ps.zip (g us ws))
  rel : ∀ {vs : List V} {us : List Value} {zs : List V} {ws : List Value}, Vals vs us → Vals zs ws → Vals (gV vs zs) (g us ws)
def tCallK (sp : Sp) (gV : List V → List V → List V) (E : XK) (t tk : TA) : TE := fun σ H Q => t σ H fun vs H1 => tk σ H1 fun zs H2 => sp (gV vs zs) H2 Q E
variable {g : List Value → List Value → List Value} {gV : List V → List V → List V}
theorem run_fnk {pins : List (Addr × Obj)} {σ : St} {H : Hp} {s : Shared} {Q : VK} {us ws : List Value} {vs zs : List V} (F : FnOk X.prog X.w X.K X.mg X.base CX k f fd ps sp) (hr : Room k X.A) (hb : KBinds X.K fd ps ks g gV) (hx : Passes CX X E)
    (I : Inv X pins σ H s) (r : Vals vs us) (rz : Vals zs ws) (h : sp (gV vs zs) H Q E) : wpAny (model X.prog X.w) X.A (call (.ref f) us (ks.zip ws)) (EP X pins σ Q) X.xe s := by
  have r2 := hb.rel r rz
  have hl : (g us ws).length = ps.length := by rw [← r2.length]; exact F.len _ _ _ _ h
  refine wpAny_call (codeAny_mono (F.run X.A X.stack s H ⟨us, ks.zip ws⟩ (g us ws) (gV vs zs) Q E hr I.env0 (hb.to s us ws I.kIn hl) r2 h) fun r s' hq => ?_)
  cases r with
  | error e => exact hx pins σ H s e s' I hq
  | ok fl =>
    cases fl with
    | ret u => exact I.after hq
    | next => exact False.elim hq
    | brk => exact False.elim hq
    | cont => exact False.elim hq
/-- f(e, .., k = v, ..) -/
theorem pe_callK (F : FnOk X.prog X.w X.K X.mg X.base CX k f fd ps sp) (hr : Room k X.A) (hg : Gl X x) (hm : X.mg x = some (.ref f)) (hk : PySem.W.keepIn X.K (.ref f) = true) (hb : KBinds X.K fd ps ks g gV) (hx : Passes CX X E)
    (ha : PA X (e :: es) t) (hkw : PK X kws tk) (hall : (backToKw pos (keywordEach kws X.env)).all (·.1.isSome) = true := by rfl) (hks : (backToKw pos (keywordEach kws X.env)).filterMap (·.1) = ks := by rfl)
    (hdb : (x == ("__debug__" : Str)) = false := by decide) (he : starEach (e :: es) X.env = (false, eval e X.env) :: starEach es X.env := by rfl)
    (hpl : ((backTo pos (starEach (e :: es) X.env)).any (·.1) || (backToKw pos (keywordEach kws X.env)).any (·.1.isNone)) = false := by rfl) :
    PE X (.Call (.Name x p) (e :: es) kws pos) (tCallK sp gV E t tk) := by
  intro pins s σ H Q I h
  refine wpAny_Call_Name_kw (ld_glob I hg hm ?_ hdb)
  refine PySem.W.callWith_KW (h₀ := X.base) I.ok.mod.kin hk hall (thn (ha pos pins s σ H _ I h) fun us s1 ⟨vs, H1, I1, r, q⟩ => ?_) hpl he
  refine thn (hkw pos pins s1 σ H1 _ I1 q) fun ws s2 ⟨zs, H2, I2, rz, q2⟩ => ⟨I2.kIn, ?_⟩
  rw [hks]
  exact run_fnk F hr hb hx I2 r rz q2
end

/-! ### a def's body keeps its promise -/
/-- names: the parameters first -/
structure FnScope (N P : List Str) (sc : Scope) : Prop where
  kind : sc.kind = .function
  co : sc.isCoroutine = false
  gen : sc.isGenerator = false
  nd : N.Nodup
  pre : N.take P.length = P
  par : ∀ x ∈ P, sc.names.lookup x = some .local ∨ sc.names.lookup x = some .cell
  nofree : ∀ y ∈ sc.names, y.2 ≠ .free

theorem bindL_out {kindOf : Str → Option NameKind} {x : Str} : ∀ {binds : List (Str × Value)} {m : Str → Option Value}, (∀ v, (x, v) ∉ binds) → bindL kindOf binds m x = m x
  | [], _, _ => rfl
  | (n, v) :: r, m, h => by
    unfold bindL
    rw [bindL_out fun w hw => h w (List.mem_cons_of_mem _ hw)]
    split
    · have : x ≠ n := by rintro rfl; exact h v List.mem_cons_self
      simp [this]
    · rfl
theorem bindC_out {kindOf : Str → Option NameKind} {x : Str} : ∀ {binds : List (Str × Value)} {m : Str → Option Value}, (∀ v, (x, v) ∉ binds) → bindC kindOf binds m x = m x
  | [], _, _ => rfl
  | (n, v) :: r, m, h => by
    unfold bindC
    rw [bindC_out fun w hw => h w (List.mem_cons_of_mem _ hw)]
    split
    · rfl
    · have : x ≠ n := by rintro rfl; exact h v List.mem_cons_self
      simp [this]
theorem bindL_get {kindOf : Str → Option NameKind} {x : Str} {v : Value} : ∀ {P : List Str} {vs : List Value} {i : Nat} {m : Str → Option Value}, P.Nodup → P[i]? = some x → vs[i]? = some v → kindOf x = some .local →
    bindL kindOf (P.zip vs) m x = some v
  | [], _, _, _, _, h, _, _ => by simp at h
  | _ :: _, [], _, _, _, _, h, _ => by simp at h
  | p :: P, w :: vs, 0, m, nd, h1, h2, hk => by
    simp at h1 h2; subst h1; subst h2
    show bindL kindOf ((p, w) :: P.zip vs) m p = _
    unfold bindL
    rw [bindL_out fun v hv => (List.nodup_cons.mp nd).1 (List.of_mem_zip hv).1, if_pos hk]
    simp
  | p :: P, w :: vs, i + 1, m, nd, h1, h2, hk => by
    show bindL kindOf ((p, w) :: P.zip vs) m x = _
    unfold bindL
    exact bindL_get (i := i) (List.nodup_cons.mp nd).2 (by simpa using h1) (by simpa using h2) hk
theorem bindC_get {kindOf : Str → Option NameKind} {x : Str} {v : Value} : ∀ {P : List Str} {vs : List Value} {i : Nat} {m : Str → Option Value}, P.Nodup → P[i]? = some x → vs[i]? = some v → kindOf x ≠ some .local →
    bindC kindOf (P.zip vs) m x = some v
  | [], _, _, _, _, h, _, _ => by simp at h
  | _ :: _, [], _, _, _, _, h, _ => by simp at h
  | p :: P, w :: vs, 0, m, nd, h1, h2, hk => by
    simp at h1 h2; subst h1; subst h2
    show bindC kindOf ((p, w) :: P.zip vs) m p = _
    unfold bindC
    rw [bindC_out fun v hv => (List.nodup_cons.mp nd).1 (List.of_mem_zip hv).1, if_neg hk]
    simp
  | p :: P, w :: vs, i + 1, m, nd, h1, h2, hk => by
    show bindC kindOf ((p, w) :: P.zip vs) m x = _
    unfold bindC
    exact bindC_get (i := i) (List.nodup_cons.mp nd).2 (by simpa using h1) (by simpa using h2) hk

/-- the names' values at the entry -/
def start (N : List Str) (vs : List V) : St := vs.map some ++ List.replicate (N.length - vs.length) none

/-- the context of a def's body, at its entry; an exception leaves the frame, then lies as CX says -/
def cxOf (CX : CXT) (P : Program) (w : World) (K : PySem.W.Frag) (mg : Str → Option Value) (base : Heap) (N : List Str) (qual : Str) (scope : Scope) (f : Addr) (cd : Value) (A : Around) (outer : List Env) (s : Shared) (H : Hp) (E : XK) : Cx where
  prog := P
  w := w
  K := K
  mg := mg
  base := base
  A := A.deeper (envOfC qual scope s.heap.objs.size f cd)
  N := N
  s_0 := s
  H_0 := H
  env := envOfC qual scope s.heap.objs.size f cd
  outer := outer
  stack := envOfC qual scope s.heap.objs.size f cd :: outer
  ex := []
  calm := true
  fn := fun _ => true
  pn := []
  xe := fun e s' => wpAny (model P w) (A.deeper (envOfC qual scope s.heap.objs.size f cd)) (leaving (envOfC qual scope s.heap.objs.size f cd) e) (fun _ s'' => CX outer H s E e s'') (fun e' s'' => CX outer H s E e' s'') s'

theorem cell_has {sc : Scope} {n : Nat} {x : Str} (h : sc.names.lookup x = some .cell) : ∃ c, (cellsFrom n sc.names []).lookup x = some c := by
  have q := PySem.W.cellsFrom_some sc.names n [] (.inl h)
  exact Option.isSome_iff_exists.mp q

theorem inv_start {CX : CXT} {P : Program} {w : World} {K : PySem.W.Frag} {mg : Str → Option Value} {base : Heap} {N ps : List Str} {qual : Str} {scope : Scope} {f : Addr} {cd : Value} {A : Around} {outer : List Env} {s s1 : Shared} {H : Hp} {E : XK} {us : List Value} {vs : List V}
    (S : FnScope N ps scope) (hd : A.handled = none) (e0 : Env0 P w K mg base A outer s H) (hl : vs.length = ps.length) (r : Vals vs us)
    (x : InCallC s s.heap.objs.size (bindL (envOfC qual scope s.heap.objs.size f cd).kindOf (ps.zip us) fun _ => none) (cellsFrom (s.heap.objs.size + 1) scope.names []) (bindC (envOfC qual scope s.heap.objs.size f cd).kindOf (ps.zip us) fun _ => none) s1) :
    Inv (cxOf CX P w K mg base N qual scope f cd A outer s H E) [] (start N vs) H s1 := by
  have hpl : ps.length ≤ N.length := by have := congrArg List.length S.pre; rw [List.length_take] at this; omega
  obtain ⟨h1, tk, rfl, hk⟩ := x.done
  have noA : ∀ b : Addr, b ∉ (cxOf CX P w K mg base N qual scope f cd A outer s H E).ex := fun b z => absurd (show b ∈ ([] : List Addr) from z) (by simp)
  refine ⟨⟨e0.mod, S.kind, rfl, rfl, Nat.le_refl _, fun y z c h1 h2 => ?_, fun y hy => ?_, fun y c _ h => ?_, fun _ => hd, Around.frames_deeper e0.frames, .inr ⟨rfl, rfl⟩, fun b z => absurd z (noA b), e0.bs, e0.bsz, fun b _ _ => noA b, fun b z => absurd z (noA b), e0.funs, e0.frf⟩,
    rfl, e0.bare, Un.kept hk, ⟨_, x.toInCall.ns, fun i y v h1 h2 h3 => ?_⟩, fun y c h => ⟨_, x.cell y c h⟩, e0.hok.fresh (Nat.le_refl _), fun y c h => ?_, fun p hp => absurd (show p ∈ ([] : List (Addr × Obj)) from hp) (by simp), e0.hok.kept hk, ?_⟩
  · exact name_of_addr x.apart (PySem.mem_of_lookup h1) (PySem.mem_of_lookup h2)
  · have hy : scope.names.lookup y = some .cell ∨ scope.names.lookup y = some .free := hy
    rcases hy with hy | hy
    · exact cell_has hy
    · exact absurd rfl (S.nofree _ (PySem.mem_of_lookup hy))
  · exact Nat.le_of_lt (x.above y c (PySem.mem_of_lookup h))
  · have hi : i < vs.length := by
      unfold start at h2
      by_cases hi : i < vs.length
      · exact hi
      · rw [List.getElem?_append_right (by simpa using hi)] at h2
        rw [List.getElem?_replicate] at h2
        split at h2 <;> cases h2
    have ha : vs[i]? = some v := by
      unfold start at h2
      rw [List.getElem?_append_left (by simpa using hi), List.getElem?_map] at h2
      cases e : vs[i]? with
      | none => rw [e] at h2; cases h2
      | some a => rw [e] at h2; cases h2; rfl
    obtain ⟨u, hu, rv⟩ := r.get ha
    have hp : ps[i]? = some y := by
      rw [← S.pre, List.getElem?_take_of_lt (by omega)]; exact h1
    have ndP : ps.Nodup := by rw [← S.pre]; exact S.nd.sublist (List.take_sublist _ _)
    refine ⟨u, rv, ?_⟩
    rcases S.par y (List.mem_of_getElem? hp) with k | k
    · exact .inl ⟨k, bindL_get ndP hp hu k⟩
    · obtain ⟨c, e⟩ := cell_has (n := s.heap.objs.size + 1) k
      refine .inr ⟨.inl k, c, e, ?_⟩
      have q := x.cell y c e
      rw [bindC_get ndP hp hu (by show scope.names.lookup y ≠ _; rw [k]; decide)] at q
      exact q
  · exact e0.hok.fresh (Nat.le_of_lt (x.above y c (PySem.mem_of_lookup h)))
  · unfold start
    show _ = N.length
    rw [List.length_append, List.length_map, List.length_replicate]
    omega

/-- THE RULE: a def (or a method) of the text, by its body. The body's reading t is chosen for each entry; it is run at the parameters' values -/
theorem fn_of {CX : CXT} {P : Program} {w : World} {K : PySem.W.Frag} {mg : Str → Option Value} {base : Heap} {k : Nat} {f : Addr} {name qual : Str} {params : Arguments} {body : List Stmt} {scope : Scope} {dV kV doc pm cdv ct oc : Value} {an od : Option Addr}
    {osl : Array (Option Value)} {N ps : List Str} {sp : Sp} (lk : K.lookup f = some ⟨oc, od, .func (PySem.W.fnOf name qual params body scope dV kV doc pm an cdv ct), osl⟩) (hcd : PySem.W.codeIn K cdv qual = true) (S : FnScope N ps scope)
    (len : ∀ vs H Q E, sp vs H Q E → vs.length = ps.length)
    (hbody : ∀ (A : Around) (outer : List Env) (s : Shared) (H : Hp) (vs : List V) (Q : VK) (E : XK), Room k (A.deeper (envOfC qual scope s.heap.objs.size f cdv)) → sp vs H Q E →
      ∃ t, PSs (cxOf CX P w K mg base N qual scope f cdv A outer s H E) body t ∧ t { nx := fun _ H' => Q .non H', rt := Q } (start N vs) H) :
    FnOk P w K mg base CX (k + 1) f (PySem.W.fnOf name qual params body scope dV kV doc pm an cdv ct) ps sp := by
  refine ⟨len, fun A outer s H args us vs Q E hr e0 hb r hsp => ?_⟩
  have hl := len _ _ _ _ hsp
  have KX : K.In s.heap := e0.mod.kin.keeps fun b o e => (e0.bs b o e).1
  have lim : s.heap.NoLimit := e0.mod.nolimit.keeps fun b o e => (e0.bs b o e).1
  have hkind : ∀ y ∈ ps.zip us, scope.names.lookup y.1 = some .local ∨ (scope.names.lookup y.1 = some .cell ∧ ((cellsFrom (s.heap.objs.size + 1) scope.names []).lookup y.1).isSome = true) := fun ⟨n, v⟩ hy => by
    rcases S.par n (List.of_mem_zip hy).1 with q | q
    · exact .inl q
    · exact .inr ⟨q, PySem.W.cellsFrom_some _ _ _ (.inl q)⟩
  refine codeAny_call_function hr.depth (KX _ _ lk) rfl S.co S.gen rfl (PySem.W.codeRec_of KX hcd) (hb _ _ _ _ ?_)
  refine wpAny_newFunctionEnv_cells S.kind hkind fun env he s1 x => ?_
  subst he
  refine ⟨lim.keeps x.toInCall.keep, codeAny_func ?_⟩
  obtain ⟨t, ht, hq⟩ := hbody A outer s H vs Q E (hr.deeper _) hsp
  have I : Inv (cxOf CX P w K mg base N qual scope f cdv A outer s H E) [] (start N vs) H s1 := inv_start S hr.hd e0 hl r x
  refine wpAny_mono (ht [] s1 (start N vs) H _ I hq) (fun fl s' hs => ?_) fun e s' hs => hs
  have fin : ∀ {σ' : St} {H' : Hp} {v : V} {u : Value}, Inv (cxOf CX P w K mg base N qual scope f cdv A outer s H E) [] σ' H' s' → RelV v u → Q v H' → CE outer P w H s Q u s' :=
    fun {σ' H' v u} J rv q => ⟨v, H', J.os, J.bare, J.base, J.hok, rv, q⟩
  cases fl with
  | ret u =>
    obtain ⟨v, σ', H', J, rv, q⟩ := hs
    exact fin J rv q
  | next =>
    obtain ⟨σ', H', J, q⟩ := hs
    exact fin (v := V.non) (u := Value.none) J rfl q
  | brk =>
    obtain ⟨_, _, _, q⟩ := hs
    exact False.elim q
  | cont =>
    obtain ⟨_, _, _, q⟩ := hs
    exact False.elim q
end L2

namespace L2
open PySem PySem.Spec PyProof.Rows
section
variable {X : Cx} {x : Str} {p pos : Pos} {e : Expr} {es : List Expr} {t : TA} {id T : String} {r : List V → Hp → VK → Prop}

def tCB (r : List V → Hp → VK → Prop) (t : TA) : TE := fun σ H Q => t σ H fun vs H1 => r vs H1 Q
/-- f(e, ..), f a built-in function -/
theorem pe_callB (hc : CallR X (.builtin id) r) (hg : Gl X x) (hm : X.mg x = none) (hv : bootBuiltins x = some (.builtin id)) (ha : PA X (e :: es) t) (hn : x ≠ "__name__" := by decide) (hdb : (x == ("__debug__" : Str)) = false := by decide)
    (he : starEach (e :: es) X.env = (false, eval e X.env) :: starEach es X.env := by rfl) (hpl : (backTo pos (starEach es X.env)).any (·.1) = false := by rfl) : PE X (.Call (.Name x p) (e :: es) [] pos) (tCB r t) := by
  intro pins s σ H Q I h
  refine wpAny_Call_Name_kw (ld_blt I hg hm hv ?_ hn hdb)
  exact PyProof.Rows.callWith_builtin1 (thn (ha pos pins s σ H _ I h) fun us s1 ⟨vs, H1, I1, r1, q1⟩ => hc pins s1 σ H1 vs us Q I1 r1 q1) he hpl
/-- T(e, ..), T a built-in type -/
theorem pe_callTy (hc : CallR X (.type T) r) (hg : Gl X x) (hm : X.mg x = none) (hv : bootBuiltins x = some (.type T)) (ha : PA X (e :: es) t) (hn : x ≠ "__name__" := by decide) (hdb : (x == ("__debug__" : Str)) = false := by decide)
    (he : starEach (e :: es) X.env = (false, eval e X.env) :: starEach es X.env := by rfl) (hpl : (backTo pos (starEach es X.env)).any (·.1) = false := by rfl) : PE X (.Call (.Name x p) (e :: es) [] pos) (tCB r t) := by
  intro pins s σ H Q I h
  refine wpAny_Call_Name_kw (ld_blt I hg hm hv ?_ hn hdb)
  exact PyProof.Rows.callWith_type1 (thn (ha pos pins s σ H _ I h) fun us s1 ⟨vs, H1, I1, r1, q1⟩ => hc pins s1 σ H1 vs us Q I1 r1 q1) he hpl
/-- T() -/
theorem pe_callTy0 (hc : CallR X (.type T) r) (hg : Gl X x) (hm : X.mg x = none) (hv : bootBuiltins x = some (.type T)) (hn : x ≠ "__name__" := by decide) (hdb : (x == ("__debug__" : Str)) = false := by decide) :
    PE X (.Call (.Name x p) [] [] pos) (tCB r tNil) := by
  intro pins s σ H Q I h
  refine wpAny_Call_Name_kw (ld_blt I hg hm hv ?_ hn hdb)
  exact PyProof.Rows.callWith_type0 (hc pins s σ H [] [] Q I .nil h)
end
end L2

namespace HT
open PySem PyProof.Rows

/-- t < u of tuples of ints -/
def lexLt : List Int → List Int → Bool
  | [], [] => false
  | [], _ :: _ => true
  | _ :: _, [] => false
  | x :: xs, y :: ys => if x = y then lexLt xs ys else decide (x < y)
theorem lexLt_cons (x y : Int) (xs ys : List Int) : lexLt (x :: xs) (y :: ys) = if x = y then lexLt xs ys else decide (x < y) := rfl
theorem lexLt_nil_nil : lexLt [] [] = false := rfl
theorem lexLt_nil_cons (y : Int) (ys : List Int) : lexLt [] (y :: ys) = true := rfl
theorem lexLt_cons_nil (x : Int) (xs : List Int) : lexLt (x :: xs) [] = false := rfl

theorem eqAt_int (A : Around) (s : Shared) (a : Int) (t : Tok) (c : Int) (u : Tok) : ∃ e, SeqAt.EqAt A s (.int a t) (.int c u) e ∧ (e = true ↔ a = c) :=
  ⟨(a == c), SeqAt.EqAt.int_int a t c u, by simp⟩
theorem rcLt_int (A : Around) (s : Shared) (a : Int) (t : Tok) (c : Int) (u : Tok) (prog : Program) (w : World) (E : Value → Shared → Prop) (Q : Value → Shared → Prop) (h : Q (.bool (decide (a < c))) s) :
    wpAny (model prog w) A (richCompare .Lt (.int a t) (.int c u)) Q E s :=
  (PyProof.Rows.lt_int h : wpAny (model prog w) A (compareOp .Lt (.int a t) (.int c u)) Q E s)

section
open PySem.SeqAt
open PySem.AutoSeq1 (wpAny_loadPart')
open PySem.MeetsSeq PySem.MeetsSeq2 PySem.MeetsSeq3

theorem tuple_lt_ints (l b : Addr) (items items2 : Array Value) (n n2 : Nat) (dd dd2 : Option Addr) (sl sl2 : Array (Option Value)) (ns ms : List Int) (hi : IntsAre items.toList ns) (hj : IntsAre items2.toList ms) :
    Meets (Builtin.«tuple.__lt__» ⟨[.ref l, .ref b], []⟩)
      (fun _ R s => s.heap.get? l = some { cls := .type "tuple", dict := dd, data := .seq items n, slots := sl } ∧ s.heap.get? b = some { cls := .type "tuple", dict := dd2, data := .seq items2 n2, slots := sl2 } ∧
        R (.ok (.ret (.bool (lexLt ns ms)))) s) :=
  .of_wp fun prog w A R s h => by
    obtain ⟨hp, g, d, tk, os⟩ := s; obtain ⟨hl, hb, h⟩ := h
    have f2 := AutoSeq1.sub_tuple_tuple
    have z1 : items.size = ns.length := by rw [← hi.length]; simp
    have z2 : items2.size = ms.length := by rw [← hj.length]; simp
    wp_walk using wpAny_loadPart' hl, wpAny_loadPart' hb, wpAny_forIn_list _ (fun rest b s' => b.1 = none ∧ s' = ⟨hp, g, d, tk, os⟩ ∧ ∃ (vs ws : List Value) (ns' ms' : List Int), rest = vs.zip ws ∧
      IntsAre vs ns' ∧ IntsAre ws ms' ∧ ns'.length + items2.size = ms'.length + items.size ∧ R (.ok (.ret (.bool (lexLt ns' ms')))) ⟨hp, g, d, tk, os⟩) _
    case turn =>
      rintro ⟨y, x⟩ rest b s' ⟨hb', rfl, vs, ws, ns', ms', hz, hvi, hwi, hlen, hR⟩
      cases hvi with
      | nil => rw [List.zip_nil_left] at hz; cases hz
      | cons a t hvi' =>
        cases hwi with
        | nil => rw [List.zip_nil_right] at hz; cases hz
        | cons c u hwi' =>
          rw [List.zip_cons_cons] at hz
          injection hz with hyx hrest
          injection hyx with hy hx
          subst hy hx
          rw [lexLt_cons] at hR
          simp only [List.length_cons] at hlen
          obtain ⟨e, he, hiff⟩ := eqAt_int A.in1 ⟨hp, g, d, tk, os⟩ a t c u
          refine wpAny_bind (he prog w _ _ ?_)
          cases e with
          | true =>
            rw [if_pos (hiff.mp rfl)] at hR
            wp_walk
            exact ⟨rfl, rfl, _, _, _, _, hrest, hvi', hwi', by omega, hR⟩
          | false =>
            rw [if_neg (fun q => absurd (hiff.mpr q) Bool.false_ne_true)] at hR
            have hri := rcLt_int A.in1 ⟨hp, g, d, tk, os⟩ a t c u prog w
            wp_walk using hri
            exact ⟨_, rfl, by simpa using hR⟩
    case fin =>
      rintro ⟨b1, b2⟩ s' ⟨hb', rfl, vs, ws, ns', ms', hz, hvi, hwi, hlen, hR⟩
      simp only at hb'
      subst hb'
      have hv : lexLt ns' ms' = decide (items.size < items2.size) := by
        cases hvi with
        | nil =>
          cases hwi with
          | nil =>
            simp only [List.length_nil] at hlen
            rw [lexLt_nil_nil]
            exact (decide_eq_false (by omega)).symm
          | cons c u hw =>
            simp only [List.length_nil, List.length_cons] at hlen
            rw [lexLt_nil_cons]
            exact (decide_eq_true (by omega)).symm
        | cons a t hv =>
          cases hwi with
          | nil =>
            simp only [List.length_nil, List.length_cons] at hlen
            rw [lexLt_cons_nil]
            exact (decide_eq_false (by omega)).symm
          | cons c u hw =>
            rw [List.zip_cons_cons] at hz
            cases hz
      rw [hv] at hR
      wp_walk
      exact ⟨_, rfl, by simpa [Builtin.Tuple.tupleCompareSizes] using hR⟩
    case h =>
      exact ⟨rfl, rfl, items.toList, items2.toList, ns, ms, rfl, hi, hj, by omega, h⟩
end

section
variable {prog : Program} {w : World} {A : Around} {E : Value → Shared → Prop} {s : Shared}

theorem lt_tupInts {l b : Addr} {items items2 : Array Value} {ns ms : List Int} {Q : Value → Shared → Prop} (hl : IsTup s.heap l items) (hb : IsTup s.heap b items2) (hi : IntsAre items.toList ns) (hj : IntsAre items2.toList ms)
    (hu : A.units < cLine) (h : Q (.bool (lexLt ns ms)) s) : wpAny (model prog w) A (compareOp .Lt (.ref l) (.ref b)) Q E s := by
  obtain ⟨⟨cls, dd, data, sl⟩, ho, hc, n, hd⟩ := id hl
  obtain ⟨⟨cls2, dd2, data2, sl2⟩, ho2, hc2, n2, hd2⟩ := id hb
  simp only at hc hd hc2 hd2
  subst hc hd hc2 hd2
  exact richCompare_meets_room (op := .Lt) ⟨_, ho, rfl⟩ ⟨_, ho2, rfl⟩ PySem.F.slot_tuple_lt PySem.F.entry_tuple_lt (PySem.F.args_tuple_lt_2 _ _) (tuple_lt_ints l b items items2 n n2 dd dd2 sl sl2 ns ms hi hj)
    ⟨ho, ho2, show Value.bool (lexLt ns ms) ≠ Value.notImplemented ∧ Q (.bool (lexLt ns ms)) s from ⟨(fun x => nomatch x), h⟩⟩ hu

/-- t + u, t not empty -/
theorem cat_tup {t b : Addr} {vs ws : List Value} {Q : Value → Shared → Prop} (ht : IsTup s.heap t vs.toArray) (hb : IsTup s.heap b ws.toArray) (hv : vs ≠ [])
    (h1 : ws = [] → Q (.ref t) s) (h2 : ws ≠ [] → Q (.ref s.heap.objs.size) { s with heap := s.heap.push { cls := .type "tuple", data := .seq (vs ++ ws).toArray } })
    (hsz : vs.length + ws.length ≤ sizeLine) : wpAny (model prog w) A (binaryOp .Add (.ref t) (.ref b)) Q E s := by
  obtain ⟨⟨cls, dd, data, sl⟩, ho, hc, n, hd⟩ := id ht
  obtain ⟨⟨cls2, dd2, data2, sl2⟩, ho2, hc2, n2, hd2⟩ := id hb
  simp only at hc hd hc2 hd2
  subst hc hd hc2 hd2
  have e : vs.toArray ++ ws.toArray = (vs ++ ws).toArray := by simp
  by_cases hw : ws = []
  · exact concat_meets ⟨_, ho, rfl⟩ ⟨_, ho2, rfl⟩ noFill_tuple_add seq_tuple_add PySem.F.slot_tuple_add PySem.F.entry_tuple_add (PySem.F.args_tuple_add_2 _ _)
      (tuple_addW1 t b vs.toArray ws.toArray n n2 dd dd2 sl sl2 (by simpa using hv) (by simp [hw])) ⟨ho, ho2, h1 hw⟩
  · refine concat_meets ⟨_, ho, rfl⟩ ⟨_, ho2, rfl⟩ noFill_tuple_add seq_tuple_add PySem.F.slot_tuple_add PySem.F.entry_tuple_add (PySem.F.args_tuple_add_2 _ _)
      (tuple_addW2 t b vs.toArray ws.toArray n n2 dd dd2 sl sl2 (by simpa using hv) (by simpa using hw) (by rw [List.size_toArray, List.size_toArray]; exact hsz)) ⟨ho, ho2, ?_⟩
    rw [e]
    exact h2 hw

/-! ### t[a:b], not the whole -/
/-- a slice's bound as a place among n (d where it is left out) -/
def sIx (n d : Nat) : Option Int → Nat
  | none => d
  | some v => if v < 0 then (v + (n : Int)).toNat else min v.toNat n
theorem sIx_none (n d : Nat) : sIx n d none = d := rfl
theorem sIx_nat (n d k : Nat) : sIx n d (some (k : Int)) = min k n := by
  show (if (k : Int) < 0 then ((k : Int) + (n : Int)).toNat else min (k : Int).toNat n) = min k n
  rw [if_neg (by omega), Int.toNat_natCast]
theorem sIx_le (n d : Nat) (hd : d ≤ n) (o : Option Int) : sIx n d o ≤ n := by
  cases o with
  | none => exact hd
  | some v =>
    show (if v < 0 then (v + (n : Int)).toNat else min v.toNat n) ≤ n
    by_cases hv : v < 0
    · rw [if_pos hv]; omega
    · rw [if_neg hv]; exact Nat.min_le_right _ _
theorem clip_eq (v : Int) (n d : Nat) : (if v < 0 then max (v + (n : Int)) 0 else min v (n : Int)) = ((sIx n d (some v) : Nat) : Int) := by
  show (if v < 0 then max (v + (n : Int)) 0 else min v (n : Int)) = (((if v < 0 then (v + (n : Int)).toNat else min v.toNat n) : Nat) : Int)
  by_cases hv : v < 0
  · simp only [if_pos hv]; omega
  · simp only [if_neg hv]; omega
theorem adjust_gen (lo hi : Option Int) (n : Nat) : Builtin.Slice.sliceAdjust lo hi 1 (n : Int) = (((sIx n 0 lo : Nat) : Int), ((sIx n n hi : Nat) : Int)) := by
  have h1 : ¬ ((1 : Int) < 0) := by omega
  unfold Builtin.Slice.sliceAdjust
  simp only [h1, if_false]
  refine Prod.ext ?_ ?_
  · cases lo with
    | none => rfl
    | some v => exact clip_eq v n 0
  · cases hi with
    | none => rfl
    | some v => exact clip_eq v n n
theorem places_gen (i j : Nat) : Builtin.Slice.slicePlaces (i : Int) (j : Int) 1 = j - i := by
  unfold Builtin.Slice.slicePlaces
  have h1 : (1 : Int) > 0 := by omega
  simp only [h1, if_true, Int.ediv_one]
  split <;> omega
theorem slicePart_ {v : Value} {o : Option Int} {Q : Option Int → Shared → Prop} (p : IsPart v o) (h : Q o s) : wpAny (model prog w) A (Builtin.Slice.slicePartIndex v) Q E s := by
  cases p with
  | none => exact slicePart_none h
  | int i t => exact slicePart_int h
theorem sliceApplied_gen {sl : Addr} {vl vu : Value} {lo hi : Option Int} {n : Nat} {Q : Int × Int × Nat → Shared → Prop} (hs : s.heap.IsSliceOf sl vl vu .none) (pl : IsPart vl lo) (pu : IsPart vu hi)
    (h : Q (((sIx n 0 lo : Nat) : Int), 1, sIx n n hi - sIx n 0 lo) s) : wpAny (model prog w) A (Builtin.Slice.sliceApplied (.ref sl) (pure (n : Int))) Q E s := by
  obtain ⟨os, hos, hcs, hds⟩ := id hs
  unfold Builtin.Slice.sliceApplied Builtin.Slice.sliceFields
  refine wpAny_bind (wpAny_bind (wpAny_field hos hds (x := vl) rfl (wpAny_bind (wpAny_field hos hds (x := vu) rfl (wpAny_bind (wpAny_field hos hds (x := .none) rfl (wpAny_pure ?_)))))))
  refine wpAny_bind (slicePart_none ?_)
  show wpAny _ _ (if ((1 : Int) == 0) = true then _ else _) _ _ s
  rw [if_neg (by decide)]
  refine wpAny_bind (slicePart_ pl (wpAny_bind (slicePart_ pu (wpAny_bind (wpAny_pure ?_)))))
  show wpAny _ _ (match Builtin.Slice.sliceAdjust lo hi 1 (n : Int) with | (lo, hi) => pure (lo, (1 : Int), Builtin.Slice.slicePlaces lo hi 1)) _ _ s
  rw [adjust_gen lo hi n]
  show wpAny _ _ (pure (((sIx n 0 lo : Nat) : Int), (1 : Int), Builtin.Slice.slicePlaces ((sIx n 0 lo : Nat) : Int) ((sIx n n hi : Nat) : Int) 1)) _ _ s
  rw [places_gen]
  exact wpAny_pure h
theorem pick_gen (xs : Array Value) (i k : Nat) : ((List.range k).filterMap fun (m : Nat) => xs[((i : Int) + (m : Int) * 1).toNat]?).toArray = ((xs.toList.drop i).take k).toArray := by
  have e : (fun (m : Nat) => xs[((i : Int) + (m : Int) * 1).toNat]?) = fun m => xs[i + m]? := by
    funext m
    have : ((i : Int) + (m : Int) * 1).toNat = i + m := by omega
    rw [this]
  rw [e]
  have := pick_run xs i k
  rw [List.filterMap_map] at this
  have e2 : ((fun x => xs[x]?) ∘ fun x => i + x) = fun m => xs[i + m]? := rfl
  rw [e2] at this
  rw [this]

theorem getItem_tuple_cut {t sl : Addr} {items : Array Value} {vl vu : Value} {lo hi : Option Int} {Q : Value → Shared → Prop} (ht : IsTup s.heap t items) (hs : s.heap.IsSliceOf sl vl vu .none) (pl : IsPart vl lo) (pu : IsPart vu hi)
    (hw : ¬ (sIx items.size 0 lo = 0 ∧ sIx items.size items.size hi = items.size))
    (h : Q (.ref s.heap.objs.size) { s with heap := s.heap.push { cls := .type "tuple", data := .seq ((items.toList.drop (sIx items.size 0 lo)).take (sIx items.size items.size hi - sIx items.size 0 lo)).toArray } })
    (hsz : items.size ≤ sizeLine) : wpAny (model prog w) A (getItem (.ref t) (.ref sl)) Q E s := by
  have htake : sizeOk (.seq ((items.toList.drop (sIx items.size 0 lo)).take (sIx items.size items.size hi - sIx items.size 0 lo)).toArray) := by
    show ((items.toList.drop (sIx items.size 0 lo)).take (sIx items.size items.size hi - sIx items.size 0 lo)).toArray.size ≤ sizeLine
    rw [List.size_toArray, List.length_take, List.length_drop, Array.length_toList]
    omega
  have hj : sIx items.size items.size hi ≤ items.size := sIx_le _ _ (Nat.le_refl _) hi
  obtain ⟨os, hos, hcs, hds⟩ := id hs
  have hTs : s.TypeIs (.ref sl) "slice" := ⟨os, hos, hcs⟩
  unfold getItem
  try with_reducible refine wpAny_holding ?_
  first | refine wpAny_bind (wpAny_pure ?_) | skip
  refine wpAny_bind (wpAny_sequenceKey ht.typeIs (by decide) ?_)
  refine wpAny_bind (wpAny_callSpecial?_slot (name := Str.ofString "__getitem__") ht.typeIs PyProof.Rows.slot_tuple_getitem
    (wpAny_call_entry PyProof.Rows.slot_tuple_getitem ht.typeIs entry_tuple_getitem ?_ (args_tuple_getitem _ _)))
  show wpAny _ _ (Builtin.Tuple.tupleItemsOf (.ref t) >>= _) _ _ s
  refine wpAny_bind (tupleItemsOf_ ht ?_)
  refine wpAny_bind (wpAny_typeOf hTs ?_)
  rw [if_pos (by decide)]
  refine wpAny_bind (sliceApplied_gen hs pl pu ?_)
  have hno : ¬ ((((sIx items.size 0 lo : Nat) : Int) == 0 && (1 : Int) == 1 && (sIx items.size items.size hi - sIx items.size 0 lo) == items.size) = true) := by
    intro q
    rw [Bool.and_eq_true, Bool.and_eq_true] at q
    have q1 : ((sIx items.size 0 lo : Nat) : Int) = 0 := eq_of_beq q.1.1
    have q2 : sIx items.size items.size hi - sIx items.size 0 lo = items.size := eq_of_beq q.2
    exact hw ⟨by omega, by omega⟩
  show wpAny _ _ (if (((sIx items.size 0 lo : Nat) : Int) == 0 && (1 : Int) == 1 && (sIx items.size items.size hi - sIx items.size 0 lo) == items.size) = true then _ else _) _ _ s
  rw [if_neg hno, pick_gen]
  first
    | exact wpAny_bind (m := Builtin.Tuple.tupleExact _) (wpAny_newObj_type (wpAny_pure ⟨_, rfl, wpAny_pure h⟩) htake)
    | exact wpAny_bind (m := Builtin.Tuple.tupleExact _) (wpAny_newObj_type (wpAny_bind (wpAny_pure (wpAny_pure ⟨_, rfl, wpAny_pure h⟩))) htake)
    | exact wpAny_bind (wpAny_bind (m := Builtin.Tuple.tupleExact _) (wpAny_newObj_type (wpAny_pure (wpAny_pure ⟨_, rfl, wpAny_pure h⟩)) htake))
    | exact wpAny_bind (wpAny_bind (m := Builtin.Tuple.tupleExact _) (wpAny_newObj_type (wpAny_pure ⟨_, rfl, wpAny_pure h⟩) htake))
end
end HT

namespace L2
open PySem PySem.Spec PyProof.Rows

/-! ### the parts of a slice -/
abbrev TO := St → Hp → (Option Int → Hp → Prop) → Prop
/-- a slice's part (left out, or an int) -/
def PO (X : Cx) (e : Option Expr) (t : TO) : Prop :=
  ∀ (pins : List (Addr × Obj)) (s : Shared) (σ : St) (H : Hp) (Q : Option Int → Hp → Prop), Inv X pins σ H s → t σ H Q →
    wpAny (model X.prog X.w) X.A (evalPart e X.env) (fun u s' => ∃ o H', Inv X pins σ H' s' ∧ IsPart u o ∧ Q o H') X.xe s
def tNoPart : TO := fun _ H Q => Q none H
def tPart (t : TE) : TO := fun σ H Q => t σ H fun x H1 => ∃ i, x = .int i ∧ Q (some i) H1

theorem intsAre_of {ns : List Int} : ∀ {us : List Value}, Vals (ns.map V.int) us → IntsAre us ns := by
  induction ns with
  | nil => intro us r; rw [List.map_nil] at r; cases r; exact .nil
  | cons n ns ih =>
    intro us r
    rw [List.map_cons] at r
    cases r with
    | cons r1 r2 =>
      obtain ⟨t, e⟩ := r1
      subst e
      exact .cons n t (ih r2)

section
variable {X : Cx} {e : Expr} {te : TE} {lo hi : Option Expr} {tl th : TO} {pos p2 : Pos}

theorem po_none : PO X none tNoPart := by
  intro pins s σ H Q I h
  rw [evalPart_none]
  exact wpAny_pure ⟨none, H, I, .none, h⟩
theorem po_some (h : PE X e te) : PO X (some e) (tPart te) := by
  intro pins s σ H Q I hw
  rw [evalPart_some]
  refine thn (h pins s σ H _ I hw) fun u s1 ⟨x, H1, I1, r1, q1⟩ => ?_
  obtain ⟨i, rfl, q⟩ := q1
  obtain ⟨t, rfl⟩ := r1
  exact ⟨some i, H1, I1, .int i t, q⟩

/-- what a slice of a value is, by values: the slice object stands at sl -/
def SlR (X : Cx) (r : V → Option Int → Option Int → Hp → VK → Prop) : Prop :=
  ∀ (pins : List (Addr × Obj)) (s : Shared) (σ : St) (H : Hp) (x : V) (v vl vu : Value) (lo hi : Option Int) (sl : Addr) (Q : VK), Inv X pins σ H s → RelV x v → s.heap.IsSliceOf sl vl vu .none → IsPart vl lo → IsPart vu hi → r x lo hi H Q →
    ∃ T id, typeLookup (.type T) "__getitem__" = pure (some (.builtin id)) ∧ s.TypeIs v T ∧ wpAny (model X.prog X.w) X.A (getItem v (.ref sl)) (EP X pins σ Q) X.xe s
theorem SlR.or {r r' : V → Option Int → Option Int → Hp → VK → Prop} (h : SlR X r) (h' : SlR X r') : SlR X (fun x lo hi H Q => r x lo hi H Q ∨ r' x lo hi H Q) := by
  intro pins s σ H x v vl vu lo hi sl Q I rx hs pl pu q
  rcases q with q | q
  · exact h pins s σ H x v vl vu lo hi sl Q I rx hs pl pu q
  · exact h' pins s σ H x v vl vu lo hi sl Q I rx hs pl pu q
def tSl (r : V → Option Int → Option Int → Hp → VK → Prop) (te : TE) (tl th : TO) : TE := fun σ H Q => te σ H fun x H1 => tl σ H1 fun l H2 => th σ H2 fun u H3 => r x l u H3 Q
/-- a[lo:hi], any a -/
theorem pe_slice {r : V → Option Int → Option Int → Hp → VK → Prop} (hr : SlR X r) (he : PE X e te) (hl : PO X lo tl) (hu : PO X hi th) : PE X (.Subscript e (.Slice lo hi none p2) pos) (tSl r te tl th) := by
  intro pins s σ H Q I h
  refine Subscript_ (thn (he pins s σ H _ I h) fun v s1 ⟨x, H1, I1, r1, q1⟩ => ?_)
  refine wpAny_Slice (thn (hl pins s1 σ H1 _ I1 q1) fun vl s2 ⟨l, H2, I2, pl, q2⟩ => thn (hu pins s2 σ H2 _ I2 q2) fun vu s3 ⟨u, H3, I3, pu, q3⟩ => ?_)
  rw [evalPart_none]
  refine wpAny_pure ?_
  have I4 : Inv X pins σ H3 { s3 with heap := s3.heap.push { cls := .type "slice", data := .fields #[vl, vu, .none] } } := I3.kept (t' := s3.toks) fun b ob q => Heap.get?_push_of_some _ q
  obtain ⟨T, id, hT, ht, hg⟩ := hr pins { s3 with heap := s3.heap.push { cls := .type "slice", data := .fields #[vl, vu, .none] } } σ H3 x v vl vu l u s3.heap.objs.size Q I4 r1 (Heap.IsSliceOf.new ..) pl pu q3
  show wpAny (model X.prog X.w) X.A (subscriptTail e (.Slice lo hi none p2) v (.ref s3.heap.objs.size)) (EP X pins σ Q) X.xe { s3 with heap := s3.heap.push { cls := .type "slice", data := .fields #[vl, vu, .none] } }
  exact tail_any (ops := [.ref s3.heap.objs.size, v]) ht hT hg (by with_unfolding_all rfl)

/-- the items of xs[lo:hi] -/
def cutV (xs : List V) (lo hi : Option Int) : List V := (xs.drop (HT.sIx xs.length 0 lo)).take (HT.sIx xs.length xs.length hi - HT.sIx xs.length 0 lo)
theorem cutV_length (xs : List V) (lo hi : Option Int) : (cutV xs lo hi).length ≤ xs.length := by
  unfold cutV
  rw [List.length_take, List.length_drop]
  omega
/-- t[lo:hi], not the whole of it (the whole would be t itself) -/
def rSlT (K : PySem.W.Frag) : V → Option Int → Option Int → Hp → VK → Prop := fun x lo hi H Q => ∃ a xs, x = .ref a ∧ SqT K H a xs ∧
  ¬ (HT.sIx xs.length 0 lo = 0 ∧ HT.sIx xs.length xs.length hi = xs.length) ∧ ∀ p, H p = none → Q (.ref p) (upd H p (.tup (cutV xs lo hi)))
theorem sl_tup : SlR X (rSlT X.K) := by
  intro pins s σ H x v vl vu lo hi sl Q I rx hs pl pu h
  obtain ⟨a, xs, rfl, hx, hw, q⟩ := h
  cases rx
  obtain ⟨its, r, ht, hz⟩ := I.tuple hx
  have hlen : its.toArray.size = xs.length := by rw [List.size_toArray]; exact r.length.symm
  refine ⟨"tuple", _, PyProof.Rows.slot_tuple_getitem.lookup, ht.typeIs, ?_⟩
  refine HT.getItem_tuple_cut ht hs pl pu (by rw [hlen]; exact hw) ?_ (by rw [hlen]; exact hz)
  rw [hlen]
  refine ⟨.ref s.heap.objs.size, _, I.laid (t' := s.toks) (o := .tup (cutV xs lo hi)) (fun b ob q => Heap.get?_push_of_some _ q) (Nat.le_refl _) ?_, rfl, q _ (I.hok.fresh (Nat.le_refl _))⟩
  exact ⟨Nat.le_trans (cutV_length xs lo hi) hz, _, (r.drop (HT.sIx xs.length 0 lo)).take (HT.sIx xs.length xs.length hi - HT.sIx xs.length 0 lo), IsTup.new _ _⟩

/-! ### t < u, t + u -/
def rLtT (K : PySem.W.Frag) : R2 := fun x y H Q => ∃ a b ns ms, x = .ref a ∧ y = .ref b ∧ SqT K H a (ns.map V.int) ∧ SqT K H b (ms.map V.int) ∧ Q (.bl (HT.lexLt ns ms)) H
theorem op_ltT (hu : X.A.units < cLine) : OpR X (compareOp .Lt) (rLtT X.K) := by
  intro pins s σ H x y v u Q I rx ry h
  obtain ⟨a, b, ns, ms, rfl, rfl, ha, hb, q⟩ := h
  cases rx
  cases ry
  obtain ⟨its, r1, p1, _⟩ := I.tuple ha
  obtain ⟨its2, r2, p2, _⟩ := I.tuple hb
  have i1 : IntsAre its.toArray.toList ns := intsAre_of r1
  have i2 : IntsAre its2.toArray.toList ms := intsAre_of r2
  exact HT.lt_tupInts p1 p2 i1 i2 hu ⟨.bl (HT.lexLt ns ms), H, I, rfl, q⟩
/-- t + u, t not empty: u empty gives t itself -/
def rCatT (K : PySem.W.Frag) : R2 := fun x y H Q => ∃ a b xs ys, x = .ref a ∧ y = .ref b ∧ SqT K H a xs ∧ SqT K H b ys ∧ xs ≠ [] ∧ xs.length + ys.length ≤ sizeLine ∧
  (ys = [] → Q (.ref a) H) ∧ (ys ≠ [] → ∀ p, H p = none → Q (.ref p) (upd H p (.tup (xs ++ ys))))
theorem Vals.nil_iff {xs : List V} {us : List Value} (r : Vals xs us) : us = [] ↔ xs = [] := by
  cases r with
  | nil => simp
  | cons _ _ => simp
theorem op_catT : OpR X (binaryOp .Add) (rCatT X.K) := by
  intro pins s σ H x y v u Q I rx ry h
  obtain ⟨a, b, xs, ys, rfl, rfl, ha, hb, hx, hz, q1, q2⟩ := h
  cases rx
  cases ry
  obtain ⟨its, r1, p1, _⟩ := I.tuple ha
  obtain ⟨its2, r2, p2, _⟩ := I.tuple hb
  refine HT.cat_tup p1 p2 (fun z => hx (r1.nil_iff.mp z)) (fun z => ⟨.ref a, H, I, rfl, q1 (r2.nil_iff.mp z)⟩) (fun z => ?_) (by rw [← r1.length, ← r2.length]; exact hz)
  refine ⟨.ref s.heap.objs.size, _, I.laid (t' := s.toks) (o := .tup (xs ++ ys)) (fun b ob q => Heap.get?_push_of_some _ q) (Nat.le_refl _) ?_, rfl, q2 (fun w => z (r2.nil_iff.mpr w)) _ (I.hok.fresh (Nat.le_refl _))⟩
  exact ⟨by rw [List.length_append]; exact hz, _, r1.append r2, IsTup.new _ _⟩
/-- tuple(t) -/
theorem call_tupleT : CallR X (.type "tuple") (fun xs H Q => ∃ a ys, xs = [.ref a] ∧ SqT X.K H a ys ∧ Q (.ref a) H) := by
  intro pins s σ H xs us Q I r h
  obtain ⟨a, ys, rfl, ha, q⟩ := h
  obtain ⟨u, rfl, ru⟩ := vals1 r
  cases ru
  obtain ⟨its, _, p1, _⟩ := I.tuple ha
  exact call_tuple_same (items := its.toArray) p1 ⟨.ref a, H, I, rfl, q⟩
end
end L2

namespace L2
open PySem PySem.Spec PyProof.Rows

/-! ### places -/
/-- the place that an index of any sign means -/
def ixN (n : Nat) (i : Int) : Option Nat := if 0 ≤ i then (if i < n then some i.toNat else none) else if -(n : Int) ≤ i then some (i + n).toNat else none
def atI {α : Type} (xs : List α) (i : Int) : Option α := (ixN xs.length i).bind fun j => xs[j]?
theorem ixN_seq {n : Nat} {i : Int} {j : Nat} (h : ixN n i = some j) : seqIndex? i n = some j ∧ j < n ∧ -(n : Int) ≤ i ∧ i < n := by
  unfold ixN at h
  by_cases h0 : 0 ≤ i
  · rw [if_pos h0] at h
    by_cases h1 : i < n
    · rw [if_pos h1] at h
      have e : i.toNat = j := Option.some.inj h
      exact ⟨by rw [seqIndex_of h0 h1, e], by omega, by omega, h1⟩
    · rw [if_neg h1] at h; cases h
  · rw [if_neg h0] at h
    by_cases h1 : -(n : Int) ≤ i
    · rw [if_pos h1] at h
      have e : (i + n).toNat = j := Option.some.inj h
      exact ⟨by rw [seqIndex_neg (by omega) h1, e], by omega, h1, by omega⟩
    · rw [if_neg h1] at h; cases h
theorem atI_get {α : Type} {xs : List α} {i : Int} {v : α} (h : atI xs i = some v) : ∃ j, seqIndex? i xs.length = some j ∧ xs[j]? = some v ∧ j < xs.length ∧ -(xs.length : Int) ≤ i ∧ i < xs.length := by
  unfold atI at h
  cases e : ixN xs.length i with
  | none => rw [e] at h; cases h
  | some j =>
    rw [e] at h
    obtain ⟨h1, h2, h3, h4⟩ := ixN_seq e
    exact ⟨j, h1, h, h2, h3, h4⟩
theorem atI_nat {α : Type} {xs : List α} {j : Nat} {v : α} (h : xs[j]? = some v) : atI xs (j : Int) = some v := by
  have hj : j < xs.length := (List.getElem?_eq_some_iff.mp h).1
  have e : ixN xs.length (j : Int) = some j := by
    unfold ixN
    rw [if_pos (by omega), if_pos (by omega)]; simp
  unfold atI; rw [e]; exact h
theorem atI_last {α : Type} (xs : List α) (v : α) : atI (xs ++ [v]) (-1) = some v := by
  have hl : (xs ++ [v]).length = xs.length + 1 := by simp
  have e : ixN (xs ++ [v]).length (-1) = some xs.length := by
    unfold ixN
    rw [hl, if_neg (by decide), if_pos (by omega)]
    congr 1
    omega
  unfold atI
  rw [e]
  show (xs ++ [v])[xs.length]? = some v
  simp

/-! ### what may be subscripted -/
/-- what stands as an index of a plain subscript -/
def PlainIx (b : Expr) : Prop := ∀ o i, subscripted b false o i = operate [o, i] (getItem o i)
/-- a subscript by values -/
def IxR (X : Cx) (r : R2) : Prop :=
  ∀ (value slice : Expr) (pins : List (Addr × Obj)) (s : Shared) (σ : St) (H : Hp) (x y : V) (v u : Value) (Q : VK), Inv X pins σ H s → RelV x v → RelV y u → r x y H Q →
    subscripted slice false v u = operate [v, u] (getItem v u) → wpAny (model X.prog X.w) X.A (subscriptTail value slice v u) (EP X pins σ Q) X.xe s
/-- a call of a builtin's method by values: the receiver, the arguments -/
def MtR (X : Cx) (id : String) (r : V → List V → Hp → VK → Prop) : Prop :=
  ∀ (pins : List (Addr × Obj)) (s : Shared) (σ : St) (H : Hp) (x : V) (xs : List V) (v : Value) (us : List Value) (Q : VK), Inv X pins σ H s → RelV x v → Vals xs us → r x xs H Q →
    wpAny (model X.prog X.w) X.A (call (.builtin id) (v :: us)) (EP X pins σ Q) X.xe s
section
variable {X : Cx} {a b : Expr} {ta tb : TE} {pos : Pos}
theorem IxR.or {r r' : R2} (h : IxR X r) (h' : IxR X r') : IxR X (fun x y H Q => r x y H Q ∨ r' x y H Q) := by
  intro value slice pins s σ H x y v u Q I rx ry q hs
  rcases q with q | q
  · exact h value slice pins s σ H x y v u Q I rx ry q hs
  · exact h' value slice pins s σ H x y v u Q I rx ry q hs
theorem MtR.or {id : String} {r r' : V → List V → Hp → VK → Prop} (h : MtR X id r) (h' : MtR X id r') : MtR X id (fun x xs H Q => r x xs H Q ∨ r' x xs H Q) := by
  intro pins s σ H x xs v us Q I rx rs q
  rcases q with q | q
  · exact h pins s σ H x xs v us Q I rx rs q
  · exact h' pins s σ H x xs v us Q I rx rs q
/-- a[b] -/
theorem pe_ix {r : R2} (hr : IxR X r) (ha : PE X a ta) (hb : PE X b tb) (hs : PlainIx b) : PE X (.Subscript a b pos) (tOp r ta tb) := by
  intro pins s σ H Q I h
  exact Subscript_ (binT ha hb I h fun v u s2 x y H2 I2 rx ry q => hr a b pins s2 σ H2 x y v u Q I2 rx ry q (hs _ _))

def rIxL (K : PySem.W.Frag) : R2 := fun x y H Q => ∃ p xs i v, x = .ref p ∧ y = .int i ∧ SqL K H p xs ∧ atI xs i = some v ∧ Q v H
def rIxT (K : PySem.W.Frag) : R2 := fun x y H Q => ∃ p xs i v, x = .ref p ∧ y = .int i ∧ SqT K H p xs ∧ atI xs i = some v ∧ Q v H
def rIxS : R2 := fun x y H Q => ∃ z i c, x = .str z ∧ y = .int i ∧ z.length ≤ sizeLine ∧ atI z.cps.toList i = some c ∧ Q (.str ⟨#[c]⟩) H
theorem ix_list : IxR X (rIxL X.K) := by
  intro value slice pins s σ H x y v u Q I rx ry h hs
  obtain ⟨p, xs, i, z, rfl, rfl, hq, he, q⟩ := h
  cases rx
  obtain ⟨t, rfl⟩ := ry
  obtain ⟨its, r, pl, hz⟩ := I.list hq
  obtain ⟨j, h1, h2, h3, h4, h5⟩ := atI_get he
  obtain ⟨w, ew, rw'⟩ := r.get h2
  have hl := r.length
  have hn := line63
  have fin : EP X pins σ Q w s := ⟨z, H, I, rw', q⟩
  by_cases h0 : 0 ≤ i
  · have hj : i.toNat = j := by
      rw [seqIndex_of h0 h5] at h1
      exact Option.some.inj h1
    exact item_listR pl.isList h0 (by omega) (by rw [hj]; simpa using ew) fin hs
  · have hj : (i + (its.toArray.size : Int)).toNat = j := by
      rw [seqIndex_neg (by omega) h4] at h1
      rw [List.size_toArray, ← hl]
      exact Option.some.inj h1
    exact subscriptTail_builtinR (x := w) pl.isList.typeIs slot_list_getitem.lookup
      (wpAny_getItem_list_neg (Q := fun r s' => r = w ∧ EP X pins σ Q r s') pl.isList (by omega) (by rw [List.size_toArray] <;> omega) (by omega) (by rw [hj]; simpa using ew) ⟨rfl, fin⟩) hs
theorem ix_tup : IxR X (rIxT X.K) := by
  intro value slice pins s σ H x y v u Q I rx ry h hs
  obtain ⟨p, xs, i, z, rfl, rfl, hq, he, q⟩ := h
  cases rx
  obtain ⟨t, rfl⟩ := ry
  obtain ⟨its, r, pl, hz⟩ := I.tuple hq
  obtain ⟨j, h1, h2, h3, h4, h5⟩ := atI_get he
  obtain ⟨w, ew, rw'⟩ := r.get h2
  have hl := r.length
  have hn := line63
  have fin : EP X pins σ Q w s := ⟨z, H, I, rw', q⟩
  exact subscriptTail_builtinR (x := w) pl.typeIs slot_tuple_getitem.lookup
    (getItem_tuple (j := j) (Q := fun r s' => r = w ∧ EP X pins σ Q r s') pl (by omega) (by omega) (by rw [List.size_toArray, ← hl]; exact h1) (by simpa using ew) ⟨rfl, fin⟩) hs
theorem ix_str : IxR X rIxS := by
  intro value slice pins s σ H x y v u Q I rx ry h hs
  obtain ⟨z, i, c, rfl, rfl, hz, he, q⟩ := h
  obtain ⟨t, rfl⟩ := rx
  obtain ⟨t', rfl⟩ := ry
  obtain ⟨j, h1, h2, h3, h4, h5⟩ := atI_get he
  have hl : z.cps.toList.length = z.length := by simp [Str.length]
  rw [hl] at h1 h4 h5
  have hn := line63
  exact tail_any (typeIs_str s z t) slot_str_getitem.lookup (getItem_str (c := c) (by
    have e1 : decide (i < -(2 ^ 63 : Int)) = false := decide_eq_false (by omega)
    have e2 : decide (i ≥ 2 ^ 63) = false := decide_eq_false (by omega)
    rw [e1, e2, Bool.or_false]) (by rw [h1]; simpa using h2) ⟨.str ⟨#[c]⟩, H, I.tok _, ⟨_, rfl⟩, q⟩) hs
/-- list, tuple or str -/
def rIx (K : PySem.W.Frag) : R2 := fun x y H Q => rIxL K x y H Q ∨ rIxT K x y H Q ∨ rIxS x y H Q
theorem ix_seq : IxR X (rIx X.K) := ix_list.or (ix_tup.or ix_str)

/-! ### xs[i] = v, any sign -/
/-- the list's object behind a store -/
theorem mapSeq_set (its : List Value) (n j : Nat) (u : Value) : Obj.mapSeq (·.setIfInBounds j u) { cls := .type "list", data := .seq its.toArray n } = { cls := .type "list", data := .seq (its.set j u).toArray n } := by
  simp [Obj.mapSeq]
theorem Inv.lst {pins : List (Addr × Obj)} {σ : St} {H : Hp} {s : Shared} {p : Addr} {xs : List V} (I : Inv X pins σ H s) (h : H p = some (.lst xs)) :
    ∃ (its : List Value) (n : Nat), Vals xs its ∧ s.heap.get? p = some { cls := .type "list", data := .seq its.toArray n } ∧ xs.length ≤ sizeLine := by
  obtain ⟨z, its, n, r, e⟩ := I.hok p _ h
  exact ⟨its, n, r, e, z⟩
/-- the list at p is written by an update of its object -/
theorem Inv.lstUpd {pins : List (Addr × Obj)} {σ : St} {H : Hp} {s : Shared} {p : Addr} {xs ys : List V} {its its' : List Value} {n n' : Nat} {f : Obj → Obj} (I : Inv X pins σ H s) (h : H p = some (.lst xs))
    (ho : s.heap.get? p = some { cls := .type "list", data := .seq its.toArray n }) (hf : f { cls := .type "list", data := .seq its.toArray n } = { cls := .type "list", data := .seq its'.toArray n' }) (r : Vals ys its') (hz : ys.length ≤ sizeLine) (t : Nat) :
    Inv X pins σ (upd H p (.lst ys)) { s with heap := s.heap.update p f, toks := t } := by
  have e : (s.heap.update p f).get? p = some { cls := .type "list", data := .seq its'.toArray n' } := by
    rw [Heap.get?_update_self f ho (by rw [hf] <;> rfl), hf]
  refine I.write (x := p) (e := p) (by rw [h]; trivial) (.inl rfl) (fun b u hb q => (Heap.get?_update_other _ _ (Ne.symm hb)).trans q) ⟨_, e⟩ ?_
  exact ⟨hz, its', n', r, e⟩
def rSetL : V → V → V → Hp → (Hp → Prop) → Prop := fun o i v H Q => ∃ p xs k j, o = .ref p ∧ i = .int k ∧ H p = some (.lst xs) ∧ ixN xs.length k = some j ∧ Q (upd H p (.lst (xs.set j v)))
theorem set_list : PSet X rSetL := by
  intro pins s σ H o i v ov iv u Q I ro ri rv h
  obtain ⟨p, xs, k, j, rfl, rfl, hp, hj, q⟩ := h
  cases ro
  obtain ⟨t, rfl⟩ := ri
  obtain ⟨its, n, r, ho, hz⟩ := I.lst hp
  obtain ⟨h1, h2, h3, h4⟩ := ixN_seq hj
  have hl := r.length
  have hn := line63
  have I' : Inv X pins σ (upd H p (.lst (xs.set j v))) { s with heap := s.heap.update p (Obj.mapSeq (·.setIfInBounds j u)) } :=
    I.lstUpd hp ho (mapSeq_set its n j u) (r.set rv j) (by rw [List.length_set]; exact hz) s.toks
  by_cases h0 : 0 ≤ k
  · have hk : k.toNat = j := by
      rw [seqIndex_of h0 h4] at h1
      exact Option.some.inj h1
    exact PySem.W.ki_setAt ho h0 (by omega) (by rw [List.size_toArray, ← hl]; exact h4) (by rw [hk]; exact ⟨_, I', q⟩)
  · have hk : (k + (its.toArray.size : Int)).toNat = j := by
      rw [seqIndex_neg (by omega) h3] at h1
      rw [List.size_toArray, ← hl]
      exact Option.some.inj h1
    exact PySem.W.ki_setBack ho (by omega) (by rw [List.size_toArray, ← hl]; exact h3) (by omega) (by rw [hk]; exact ⟨_, I', q⟩)

/-! ### slices -/
theorem slice_bounds (lo hi : Option Int) (n : Nat) : (sliceBounds lo hi none n).1 = ((HT.sIx n 0 lo : Nat) : Int) ∧ (sliceBounds lo hi none n).2.1 = ((HT.sIx n n hi : Nat) : Int) ∧ (sliceBounds lo hi none n).2.2 = 1 := by
  refine ⟨?_, ?_, rfl⟩
  · cases lo with
    | none => simp [sliceBounds, HT.sIx]
    | some i =>
      simp only [sliceBounds, HT.sIx, Option.getD_none, show (1 : Int) > 0 by decide, if_true]
      by_cases h : i < 0
      · simp only [h, if_true] <;> omega
      · simp only [h, if_false] <;> omega
  · cases hi with
    | none => simp [sliceBounds, HT.sIx]
    | some i =>
      simp only [sliceBounds, HT.sIx, Option.getD_none, show (1 : Int) > 0 by decide, if_true]
      by_cases h : i < 0
      · simp only [h, if_true] <;> omega
      · simp only [h, if_false] <;> omega
theorem slicePick_cut (its : List Value) (lo hi : Option Int) : slicePick its.toArray lo hi none = ((its.drop (HT.sIx its.length 0 lo)).take (HT.sIx its.length its.length hi - HT.sIx its.length 0 lo)).toArray := by
  obtain ⟨h1, h2, h3⟩ := slice_bounds lo hi its.toArray.size
  unfold slicePick
  rw [h1, h2, h3]
  simp only [sliceRange_one, pick_run, List.size_toArray] <;> rfl
/-- xs[lo:hi] of a list: a new list -/
def rSlL (K : PySem.W.Frag) : V → Option Int → Option Int → Hp → VK → Prop := fun x lo hi H Q => ∃ a xs, x = .ref a ∧ SqL K H a xs ∧ ∀ p, H p = none → Q (.ref p) (upd H p (.lst (cutV xs lo hi)))
theorem sl_list : SlR X (rSlL X.K) := by
  intro pins s σ H x v vl vu lo hi sl Q I rx hs pl pu h
  obtain ⟨a, xs, rfl, hx, q⟩ := h
  cases rx
  obtain ⟨its, r, ht, hz⟩ := I.list hx
  have hlen := r.length
  refine ⟨"list", _, slot_list_getitem.lookup, ht.isList.typeIs, ?_⟩
  refine wpAny_getItem_list_slice ht.isList hs pl pu .none (by simp) ?_ (by rw [List.size_toArray] <;> omega)
  rw [slicePick_cut, ← hlen]
  refine ⟨.ref s.heap.objs.size, _, I.laid (t' := s.toks) (o := .lst (cutV xs lo hi)) (fun b ob q => Heap.get?_push_of_some _ q) (Nat.le_refl _) ?_, rfl, q _ (I.hok.fresh (Nat.le_refl _))⟩
  exact ⟨Nat.le_trans (cutV_length xs lo hi) hz, _, 0, (r.drop (HT.sIx xs.length 0 lo)).take (HT.sIx xs.length xs.length hi - HT.sIx xs.length 0 lo), Heap.get?_push_size _ rfl⟩

/-! ### in, not in: flat items -/
def flatV : V → Bool
  | .non => true
  | .bl _ => true
  | .int _ => true
  | .str _ => true
  | _ => false
/-- == of flat values -/
def eqV : V → V → Bool
  | .non, .non => true
  | .bl a, .bl b => a == b
  | .bl a, .int b => (if a then 1 else 0) == b
  | .int a, .bl b => a == (if b then 1 else 0)
  | .int a, .int b => a == b
  | .str a, .str b => a == b
  | _, _ => false
theorem eqAt_V {A : Around} {s : Shared} {y x : V} {u v : Value} (ry : RelV y u) (rx : RelV x v) (fy : flatV y = true) (fx : flatV x = true) : SeqAt.EqAt A s u v (eqV y x) := by
  cases y with
  | non =>
    cases ry
    cases x with
    | non => cases rx; exact SeqAt.EqAt.same _
    | bl b => cases rx; exact SeqAt.EqAt.none_bool b
    | int b => obtain ⟨t, rfl⟩ := rx; exact SeqAt.EqAt.none_int b t
    | str b => obtain ⟨t, rfl⟩ := rx; exact SeqAt.EqAt.none_str b t
    | _ => exact absurd (show false = true from fx) Bool.false_ne_true
  | bl a =>
    cases ry
    cases x with
    | non => cases rx; exact SeqAt.EqAt.bool_none a
    | bl b => cases rx; exact SeqAt.EqAt.bool_bool a b
    | int b => obtain ⟨t, rfl⟩ := rx; exact SeqAt.EqAt.bool_int a b t
    | str b => obtain ⟨t, rfl⟩ := rx; exact SeqAt.EqAt.bool_str a b t
    | _ => exact absurd (show false = true from fx) Bool.false_ne_true
  | int a =>
    obtain ⟨t', rfl⟩ := ry
    cases x with
    | non => cases rx; exact SeqAt.EqAt.int_none a t'
    | bl b => cases rx; exact SeqAt.EqAt.int_bool a t' b
    | int b => obtain ⟨t, rfl⟩ := rx; exact SeqAt.EqAt.int_int a t' b t
    | str b => obtain ⟨t, rfl⟩ := rx; exact SeqAt.EqAt.int_str a t' b t
    | _ => exact absurd (show false = true from fx) Bool.false_ne_true
  | str a =>
    obtain ⟨t', rfl⟩ := ry
    cases x with
    | non => cases rx; exact SeqAt.EqAt.str_none a t'
    | bl b => cases rx; exact SeqAt.EqAt.str_bool a t' b
    | int b => obtain ⟨t, rfl⟩ := rx; exact SeqAt.EqAt.str_int a t' b t
    | str b => obtain ⟨t, rfl⟩ := rx; exact SeqAt.EqAt.str_str a t' b t
    | _ => exact absurd (show false = true from fx) Bool.false_ne_true
  | _ => exact absurd (show false = true from fy) Bool.false_ne_true
/-- the items' answers, read off the values (a value's own answer does not lean on its token) -/
def eqU (x : V) (u : Value) : Bool := match u with
  | .none => eqV .non x
  | .bool b => eqV (.bl b) x
  | .int i _ => eqV (.int i) x
  | .str z _ => eqV (.str z) x
  | _ => false
theorem eqU_of {x y : V} {u : Value} (r : RelV y u) (f : flatV y = true) : eqU x u = eqV y x := by
  cases y with
  | non => cases r; rfl
  | bl b => cases r; rfl
  | int i => obtain ⟨t, rfl⟩ := r; rfl
  | str z => obtain ⟨t, rfl⟩ := r; rfl
  | _ => exact absurd (show false = true from f) Bool.false_ne_true
theorem any_eqU {x : V} : ∀ {xs : List V} {us : List Value}, Vals xs us → xs.all flatV = true → us.any (eqU x) = xs.any fun y => eqV y x
  | _, _, .nil, _ => rfl
  | y :: xs, u :: us, .cons r t, f => by
    rw [List.all_cons, Bool.and_eq_true] at f
    rw [List.any_cons, List.any_cons, eqU_of r f.1, any_eqU t f.2]
theorem mem_eqAt {A : Around} {s : Shared} {x : V} {v : Value} (rx : RelV x v) (fx : flatV x = true) : ∀ {xs : List V} {us : List Value}, Vals xs us → xs.all flatV = true → ∀ u ∈ us, SeqAt.EqAt A s u v (eqU x u)
  | _, _, .nil, _ => fun u hu => by cases hu
  | y :: xs, u :: us, .cons r t, f => fun u' hu => by
    rw [List.all_cons, Bool.and_eq_true] at f
    rcases List.mem_cons.mp hu with rfl | hu
    · rw [eqU_of r f.1]; exact eqAt_V r rx f.1 fx
    · exact mem_eqAt rx fx t f.2 u' hu
def inV (x : V) (xs : List V) : Bool := xs.any fun y => eqV y x
/-- x in a list or tuple of flat items -/
def rIn (K : PySem.W.Frag) (neg : Bool) : R2 := fun x y H Q => ∃ p xs, y = .ref p ∧ (SqL K H p xs ∨ SqT K H p xs) ∧ flatV x = true ∧ xs.all flatV = true ∧ Q (.bl (if neg then !inV x xs else inV x xs)) H
theorem op_in_seq : OpR X (compareOp .In) (rIn X.K false) := by
  intro pins s σ H x y v u Q I rx ry h
  obtain ⟨p, xs, rfl, hq, fx, fs, q⟩ := h
  cases ry
  rcases hq with hq | hq
  · obtain ⟨its, r, pl, hz⟩ := I.list hq
    refine SeqAt.in_listAt (eqU x) pl.isList (fun w hw => mem_eqAt rx fx r fs w (by simpa using hw)) ⟨.bl _, H, I, rfl, ?_⟩
    rw [show its.toArray.any (eqU x) = its.any (eqU x) by simp, any_eqU r fs]
    exact q
  · obtain ⟨its, r, pl, hz⟩ := I.tuple hq
    refine SeqAt.in_tupleAt (eqU x) pl (fun w hw => mem_eqAt rx fx r fs w (by simpa using hw)) ⟨.bl _, H, I, rfl, ?_⟩
    rw [show its.toArray.any (eqU x) = its.any (eqU x) by simp, any_eqU r fs]
    exact q
theorem op_notIn_seq : OpR X (compareOp .NotIn) (rIn X.K true) := by
  intro pins s σ H x y v u Q I rx ry h
  obtain ⟨p, xs, rfl, hq, fx, fs, q⟩ := h
  cases ry
  rcases hq with hq | hq
  · obtain ⟨its, r, pl, hz⟩ := I.list hq
    refine SeqAt.notIn_listAt (eqU x) pl.isList (fun w hw => mem_eqAt rx fx r fs w (by simpa using hw)) ⟨.bl _, H, I, rfl, ?_⟩
    rw [show its.toArray.any (eqU x) = its.any (eqU x) by simp, any_eqU r fs]
    exact q
  · obtain ⟨its, r, pl, hz⟩ := I.tuple hq
    refine SeqAt.notIn_tupleAt (eqU x) pl (fun w hw => mem_eqAt rx fx r fs w (by simpa using hw)) ⟨.bl _, H, I, rfl, ?_⟩
    rw [show its.toArray.any (eqU x) = its.any (eqU x) by simp, any_eqU r fs]
    exact q
theorem op_notIn_str : OpR X (compareOp .NotIn) (fun x y H Q => ∃ i j, x = .str i ∧ y = .str j ∧ Q (.bl (!(!(Builtin.Str.occurrences j i 0 j.length 1).isEmpty))) H) := by
  intro pins s σ H x y v u Q I rx ry h
  obtain ⟨i, j, rfl, rfl, q⟩ := h
  obtain ⟨t, rfl⟩ := rx
  obtain ⟨t', rfl⟩ := ry
  exact notIn_str ⟨.bl _, H, I, rfl, q⟩

/-! ### len, list(x), tuple(x) of any list or tuple that is read -/
theorem call_len_seq : CallR X (.builtin "len") (fun xs H Q => ∃ p ys, xs = [.ref p] ∧ (SqL X.K H p ys ∨ SqT X.K H p ys) ∧ Q (.int ys.length) H) := by
  intro pins s σ H xs us Q I r h
  obtain ⟨p, ys, rfl, hq, q⟩ := h
  obtain ⟨u, rfl, rx⟩ := vals1 r
  cases rx
  have hn := line63
  rcases hq with hq | hq
  · obtain ⟨its, r', pl, hz⟩ := I.list hq
    have hlen := r'.length
    exact Calls.call_len_list pl.isList (by simp only [List.size_toArray] <;> omega) ⟨.int ys.length, H, I.tok _, ⟨s.toks + 1, by rw [List.size_toArray, hlen]⟩, q⟩
  · obtain ⟨its, r', pl, hz⟩ := I.tuple hq
    have hlen := r'.length
    exact len_tuple pl (by simp only [List.size_toArray] <;> omega) ⟨.int ys.length, H, I.tok _, ⟨s.toks + 1, by rw [List.size_toArray, hlen]⟩, q⟩
theorem call_len_str : CallR X (.builtin "len") (fun xs H Q => ∃ z, xs = [.str z] ∧ z.length ≤ sizeLine ∧ Q (.int z.length) H) := by
  intro pins s σ H xs us Q I r h
  obtain ⟨z, rfl, hz, q⟩ := h
  obtain ⟨u, rfl, t, rfl⟩ := vals1 r
  have hn := line63
  exact len_str (by omega) ⟨.int z.length, H, I.tok _, ⟨_, rfl⟩, q⟩
theorem CallR.or {f : Value} {r r' : List V → Hp → VK → Prop} (h : CallR X f r) (h' : CallR X f r') : CallR X f (fun xs H Q => r xs H Q ∨ r' xs H Q) := by
  intro pins s σ H xs us Q I rs q
  rcases q with q | q
  · exact h pins s σ H xs us Q I rs q
  · exact h' pins s σ H xs us Q I rs q
theorem call_list_of : CallR X (.type "list") (fun xs H Q => ∃ p ys, xs = [.ref p] ∧ (SqL X.K H p ys ∨ SqT X.K H p ys) ∧ ∀ l, H l = none → Q (.ref l) (upd H l (.lst ys))) := by
  intro pins s σ H xs us Q I r h
  obtain ⟨p, ys, rfl, hq, q⟩ := h
  obtain ⟨u, rfl, rx⟩ := vals1 r
  cases rx
  have fin : ∀ (its : List Value), Vals ys its → ys.length ≤ sizeLine → ∀ (h' : Heap) (c' : Nat), (∀ b o', s.heap.get? b = some o' → h'.get? b = some o') →
      h'.get? s.heap.objs.size = some { cls := .type "list", dict := none, data := .seq its.toArray c', slots := #[] } → EP X pins σ Q (.ref s.heap.objs.size) { s with heap := h' } := fun its r' hz h' c' kp e =>
    ⟨.ref s.heap.objs.size, _, I.laid (t' := s.toks) kp (Nat.le_refl _) (show ObjOk X.prog X.w _ h' _ (.lst ys) from ⟨hz, its, c', r', e⟩), rfl, q _ (I.hok.fresh (Nat.le_refl _))⟩
  rcases hq with hq | hq
  · obtain ⟨its, r', pl, hz⟩ := I.list hq
    have hlen := r'.length
    obtain ⟨o, ho, hc, n, hd⟩ := pl.isList
    exact call_list_seq p (.inl rfl) ho hc hd (fun h' c' kp e => fin its r' hz h' c' kp e) (by simp only [List.size_toArray] <;> omega)
  · obtain ⟨its, r', pl, hz⟩ := I.tuple hq
    have hlen := r'.length
    obtain ⟨o, ho, hc, n, hd⟩ := pl
    exact call_list_seq p (.inr rfl) ho hc hd (fun h' c' kp e => fin its r' hz h' c' kp e) (by simp only [List.size_toArray] <;> omega)
theorem call_tuple_of : CallR X (.type "tuple") (fun xs H Q => ∃ p ys, xs = [.ref p] ∧ ((SqL X.K H p ys ∧ ∀ l, H l = none → Q (.ref l) (upd H l (.tup ys))) ∨ (SqT X.K H p ys ∧ Q (.ref p) H))) := by
  intro pins s σ H xs us Q I r h
  obtain ⟨p, ys, rfl, h⟩ := h
  obtain ⟨u, rfl, rx⟩ := vals1 r
  cases rx
  rcases h with ⟨hq, q⟩ | ⟨hq, q⟩
  · obtain ⟨its, r', pl, hz⟩ := I.list hq
    have hlen := r'.length
    refine call_tuple_list pl.isList (fun h' kp => ?_) (by simp only [List.size_toArray] <;> omega)
    have I1 : Inv X pins σ H { s with heap := h' } := I.kept (t' := s.toks) kp
    have I2 : Inv X pins σ (upd H h'.objs.size (.tup ys)) { s with heap := h'.push { cls := .type "tuple", data := .seq its.toArray } } :=
      I1.laid (t' := s.toks) (fun b o e => Heap.get?_push_of_some _ e) (Nat.le_refl _) (show ObjOk X.prog X.w _ _ _ (.tup ys) from ⟨hz, its, r', IsTup.new _ _⟩)
    exact ⟨.ref h'.objs.size, _, I2, rfl, q _ (I1.hok.fresh (Nat.le_refl _))⟩
  · obtain ⟨its, r', pl, hz⟩ := I.tuple hq
    exact call_tuple_same pl ⟨.ref p, H, I, rfl, q⟩

/-! ### the call of a builtin's method: o.m(..) -/
/-- the value is of that builtin type -/
def tyV (K : PySem.W.Frag) (T : String) (x : V) (H : Hp) : Prop := match x with
  | .str _ => T = "str"
  | .int _ => T = "int"
  | .ref p => (T = "list" ∧ ∃ xs, SqL K H p xs) ∨ (T = "tuple" ∧ ∃ o, K.lookup p = some o ∧ o.cls = .type "tuple" ∧ o.dict = none) ∨
      (T = "dict" ∧ ((∃ kvs, H p = some (.dK kvs)) ∨ ∃ kvs, H p = some (.dT kvs))) ∨ (T = "set" ∧ ∃ S n, H p = some (.set S n))
  | _ => False
theorem tyV_is {pins : List (Addr × Obj)} {σ : St} {H : Hp} {s : Shared} {T : String} {x : V} {v : Value} (I : Inv X pins σ H s) (r : RelV x v) (ty : tyV X.K T x H) :
    s.TypeIs v T ∧ ∀ a, v = .ref a → ∃ ob, s.heap.get? a = some ob ∧ ob.dict = none := by
  cases x with
  | str z =>
    obtain ⟨t, rfl⟩ := r
    cases (show T = "str" from ty)
    exact ⟨typeIs_str s z t, fun _ e => nomatch e⟩
  | int i =>
    obtain ⟨t, rfl⟩ := r
    cases (show T = "int" from ty)
    exact ⟨typeIs_int s i t, fun _ e => nomatch e⟩
  | ref p =>
    cases r
    rcases ty with ⟨rfl, xs, hq⟩ | ⟨rfl, o, hk, hc, hd⟩ | ⟨rfl, hk⟩ | ⟨rfl, S, n, hk⟩
    · obtain ⟨its, _, pl, _⟩ := I.list hq
      refine ⟨pl.isList.typeIs, fun a e => ?_⟩
      cases e
      obtain ⟨o, n, e, c, hd, _⟩ := pl
      exact ⟨o, e, hd⟩
    · refine ⟨⟨o, I.kIn p o hk, hc⟩, fun a e => ?_⟩
      cases e
      exact ⟨o, I.kIn _ o hk, hd⟩
    · have z : ∃ o, s.heap.get? p = some o ∧ o.ExactDict := by
        rcases hk with ⟨kvs, hk⟩ | ⟨kvs, hk⟩
        · obtain ⟨_, _, _, _, o, _, _, e, ex, _⟩ := I.hok p _ hk
          exact ⟨o, e, ex⟩
        · obtain ⟨_, _, _, _, o, _, _, e, ex, _⟩ := I.hok p _ hk
          exact ⟨o, e, ex⟩
      obtain ⟨o, e, ex⟩ := z
      refine ⟨⟨o, e, ex.1⟩, fun a e2 => ?_⟩
      cases e2
      exact ⟨o, e, ex.2.1⟩
    · obtain ⟨o, _, _, _, e, ex, _⟩ := I.hok p _ hk
      refine ⟨⟨o, e, ex.1⟩, fun a e2 => ?_⟩
      cases e2
      exact ⟨o, e, ex.2.1⟩
  | _ => exact False.elim ty
def tBM0 (K : PySem.W.Frag) (T : String) (r : V → List V → Hp → VK → Prop) (to : TE) : TE := fun σ H Q => to σ H fun x H1 => tyV K T x H1 ∧ r x [] H1 Q
def tBM (K : PySem.W.Frag) (T : String) (r : V → List V → Hp → VK → Prop) (to : TE) (t : TA) : TE := fun σ H Q => to σ H fun x H1 => tyV K T x H1 ∧ t σ H1 fun xs H2 => r x xs H2 Q
variable {o e : Expr} {es : List Expr} {to : TE} {t : TA} {name : Str} {apos cpos : Pos} {T id : String} {r : V → List V → Hp → VK → Prop}
theorem pe_bm0 (pa : PlainAttrs T) (slot : Slot T name id) (hty : typeOf (.builtin id) = pure (.type "method_descriptor")) (hm : MtR X id r) (ho : PE X o to)
    (hbase : attributeBase o name X.env (eval o X.env) = eval o X.env := by rfl) (hline : (apos.endLine == cpos.line) = true := by rfl) : PE X (.Call (.Attribute o name apos) [] [] cpos) (tBM0 X.K T r to) := by
  intro pins s σ H Q I h
  refine wpAny_Call_method0_late hbase hline (thn (ho pins s σ H _ I h) fun v s1 ⟨x, H1, I1, r1, ty, q1⟩ => ?_)
  obtain ⟨h1, h2⟩ := tyV_is I1 r1 ty
  exact ⟨T, id, pa, slot, hty, h1, h2, Calls.callWith_builtin rfl (PySem.evalArgs_none (hm pins s1 σ H1 x [] v [] Q I1 r1 .nil q1))⟩
theorem pe_bm (pa : PlainAttrs T) (slot : Slot T name id) (hty : typeOf (.builtin id) = pure (.type "method_descriptor")) (hm : MtR X id r) (ho : PE X o to) (ha : PA X (e :: es) t)
    (hbase : attributeBase o name X.env (eval o X.env) = eval o X.env := by rfl)
    (hfew : ((backTo cpos (starEach (e :: es) X.env)).all (fun x => !x.1) && (backToKw cpos (keywordEach [] X.env)).all (fun x => x.1.isSome)
      && decide ((e :: es).length + ([] : List Keyword).length + (if ([] : List Keyword).isEmpty then 0 else 1) < 30)) = true := by rfl)
    (hline : (apos.endLine == cpos.line) = true := by rfl) (hs : starEach (e :: es) X.env = (false, eval e X.env) :: starEach es X.env := by rfl) (hplain : (backTo cpos (starEach es X.env)).any (·.1) = false := by rfl) :
    PE X (.Call (.Attribute o name apos) (e :: es) [] cpos) (tBM X.K T r to t) := by
  intro pins s σ H Q I h
  refine wpAny_Call_method_late hbase hfew hline rfl (thn (ho pins s σ H _ I h) fun v s1 ⟨x, H1, I1, r1, ty, q1⟩ => ?_)
  obtain ⟨h1, h2⟩ := tyV_is I1 r1 ty
  refine ⟨T, id, pa, slot, hty, h1, h2, ?_⟩
  have hA := ha cpos pins s1 σ H1 _ I1 q1
  rw [hs] at hA ⊢
  refine Calls.callWith_builtin (by show (false || (backTo cpos (starEach es X.env)).any (·.1)) = false; rw [hplain] <;> rfl) (Calls.evalArgs_plain ?_)
  exact thn hA fun us s2 ⟨vs, H2, I2, r2, q2⟩ => hm pins s2 σ H2 x vs v us Q I2 r1 r2 q2
/- xs.append(e), list.index on a module's tuple .. are MtR facts of 06m -/
end
end L2

namespace L2
open PySem PySem.Spec PyProof.Rows

def MtM (X : Cx) (id : String) (r : V → List V → Hp → VK → Prop) : Prop :=
  ∀ (pins : List (Addr × Obj)) (s : Shared) (σ : St) (H : Hp) (x : V) (xs : List V) (v : Value) (us : List Value) (Q : VK), Inv X pins σ H s → RelV x v → Vals xs us → r x xs H Q →
    wpAny (model X.prog X.w) X.A (call (.builtin id) (v :: us)) (EP X pins σ Q) X.xe s

/-! ### lists of values -/
theorem Vals.one : ∀ {x : V} {us : List Value}, Vals [x] us → ∃ u, us = [u] ∧ RelV x u
  | _, _, .cons r .nil => ⟨_, rfl, r⟩
theorem Vals.two : ∀ {x y : V} {us : List Value}, Vals [x, y] us → ∃ u v, us = [u, v] ∧ RelV x u ∧ RelV y v
  | _, _, _, .cons r (.cons q .nil) => ⟨_, _, rfl, r, q⟩
theorem Vals.zero : ∀ {us : List Value}, Vals [] us → us = []
  | _, .nil => rfl
theorem Vals.dropLast {xs : List V} {us : List Value} (h : Vals xs us) : Vals xs.dropLast us.dropLast := by
  induction h with
  | nil => exact .nil
  | cons r t ih =>
    cases t with
    | nil => exact .nil
    | cons q t' => exact .cons r ih
theorem Vals.eraseIdx : ∀ {xs : List V} {us : List Value} (i : Nat), Vals xs us → Vals (xs.eraseIdx i) (us.eraseIdx i)
  | _, _, _, .nil => .nil
  | _, _, 0, .cons _ t => t
  | _, _, i + 1, .cons r t => .cons r (Vals.eraseIdx i t)
theorem Vals.reverse {xs : List V} {us : List Value} (h : Vals xs us) : Vals xs.reverse us.reverse := by
  induction h with
  | nil => exact .nil
  | cons r t ih => rw [List.reverse_cons, List.reverse_cons]; exact Vals.append ih (.cons r .nil)
theorem Vals.rep {xs : List V} {us : List Value} (h : Vals xs us) : ∀ k : Nat, Vals (List.replicate k xs).flatten (List.replicate k us).flatten
  | 0 => .nil
  | k + 1 => by
    rw [List.replicate_succ, List.replicate_succ, List.flatten_cons, List.flatten_cons]
    exact Vals.append h (Vals.rep h k)
theorem erase_last {α : Type} (l : List α) : l.eraseIdx (l.length - 1) = l.dropLast := by
  induction l with
  | nil => rfl
  | cons a r ih =>
    cases r with
    | nil => rfl
    | cons b r =>
      have e : (a :: b :: r).length - 1 = ((b :: r).length - 1) + 1 := by
        have h1 : (a :: b :: r).length = r.length + 2 := rfl
        have h2 : (b :: r).length = r.length + 1 := rfl
        omega
      rw [e, List.eraseIdx_cons_succ, ih]
      all_goals rfl
theorem len_erase {α : Type} : ∀ (l : List α) (i : Nat), (l.eraseIdx i).length ≤ l.length
  | [], _ => Nat.le_refl _
  | _ :: _, 0 => Nat.le_succ _
  | _ :: r, i + 1 => Nat.succ_le_succ (len_erase r i)
theorem foldl_rep (its : List Value) : ∀ (k : Nat) (acc : List Value),
    List.foldl (fun x1 x2 => x1 ++ x2) acc.toArray (List.replicate k its.toArray) = (acc ++ (List.replicate k its).flatten).toArray
  | 0, acc => by simp
  | k + 1, acc => by
    have e : acc.toArray ++ its.toArray = (acc ++ its).toArray := by simp
    have e2 : (acc ++ its) ++ (List.replicate k its).flatten = acc ++ (List.replicate (k + 1) its).flatten := by
      rw [List.replicate_succ, List.flatten_cons, List.append_assoc]
    rw [← e2, ← foldl_rep its k (acc ++ its), ← e, List.replicate_succ, List.foldl_cons]

section
variable {X : Cx} {pins : List (Addr × Obj)} {σ : St} {H : Hp} {s : Shared} {l b : Addr} {xs ys zs : List V}

/-! ### the two steps: a tracked list is rewritten, a new list is laid -/
theorem Inv.lset {its its' : List Value} {n : Nat} {f : Array Value → Array Value} {t' : Nat} (I : Inv X pins σ H s) (hH : H l = some (.lst xs))
    (e : s.heap.get? l = some { cls := .type "list", data := .seq its.toArray n }) (hf : f its.toArray = its'.toArray) (hv : Vals ys its') (hz : ys.length ≤ sizeLine) :
    Inv X pins σ (upd H l (.lst ys)) { s with heap := s.heap.update l (Obj.mapSeq f), toks := t' } := by
  have q := PySem.IsL.update e f
  rw [hf] at q
  refine I.write (x := l) (e := l) (by rw [hH]; exact trivial) (.inl rfl) (fun b' u hb hu => (Heap.get?_update_other s.heap (Obj.mapSeq f) (Ne.symm hb)).trans hu) ⟨_, q⟩ ?_
  exact ⟨hz, its', _, hv, q⟩
theorem Inv.lnew {its : List Value} {t' : Nat} (I : Inv X pins σ H s) (hv : Vals ys its) (hz : ys.length ≤ sizeLine) :
    Inv X pins σ (upd H s.heap.objs.size (.lst ys)) { s with heap := s.heap.push { cls := .type "list", data := .seq its.toArray }, toks := t' } :=
  I.laid (fun _ _ q => Heap.get?_push_of_some _ q) (Nat.le_refl _) ⟨hz, its, 0, hv, Heap.get?_push_size _ rfl⟩
theorem Inv.fresh (I : Inv X pins σ H s) : H s.heap.objs.size = none := I.hok.fresh (Nat.le_refl _)
theorem Inv.lstM (I : Inv X pins σ H s) (hH : H l = some (.lst xs)) : xs.length ≤ sizeLine ∧ ∃ (its : List Value) (n : Nat), Vals xs its ∧ xs.length = its.length ∧ s.heap.get? l = some { cls := .type "list", data := .seq its.toArray n } := by
  obtain ⟨z, its, n, r, e⟩ := I.hok l _ hH
  exact ⟨z, its, n, r, r.length, e⟩

theorem notLongL {n : Nat} (h : n ≤ sizeLine) : Builtin.List.listTooLong n = false := by
  unfold Builtin.List.listTooLong
  exact decide_eq_false (by omega)
end

section
variable {X : Cx}

/-! ### methods -/
def rAppend : V → List V → Hp → VK → Prop := fun x vs H Q => ∃ l xs y, x = .ref l ∧ vs = [y] ∧ H l = some (.lst xs) ∧ xs.length < sizeLine ∧ Q .non (upd H l (.lst (xs ++ [y])))
theorem mt_append : MtM X "list.append" rAppend := by
  intro pins s σ H x vs v us Q I rx rv h
  obtain ⟨l, xs, y, rfl, rfl, hH, hz, q⟩ := h
  cases rx
  obtain ⟨u, rfl, ru⟩ := rv.one
  obtain ⟨z, its, n, r, hl, e⟩ := I.lstM hH
  refine call_meets F.slot_list_append ⟨_, e, rfl⟩ F.entry_list_append (F.args_list_append_2 _ _) (PySem.list_append l its.toArray n u (by rw [List.size_toArray]; omega)) ⟨e, ?_⟩
  refine ⟨.non, _, I.lset (its' := its ++ [u]) hH e (by simp) (r.append (.cons ru .nil)) ?_, rfl, q⟩
  rw [List.length_append, List.length_singleton]
  omega

def rExtend : V → List V → Hp → VK → Prop := fun x vs H Q => ∃ l b xs zs, x = .ref l ∧ vs = [.ref b] ∧ H l = some (.lst xs) ∧ H b = some (.lst zs) ∧ xs.length + zs.length ≤ sizeLine ∧ Q .non (upd H l (.lst (xs ++ zs)))
theorem mt_extend : MtM X "list.extend" rExtend := by
  intro pins s σ H x vs v us Q I rx rv h
  obtain ⟨l, b, xs, zs, rfl, rfl, hH, hB, hz, q⟩ := h
  cases rx
  obtain ⟨u, rfl, ru⟩ := rv.one
  cases ru
  obtain ⟨z, its, n, r, hl, e⟩ := I.lstM hH
  obtain ⟨z2, its2, n2, r2, hl2, e2⟩ := I.lstM hB
  have hsz : its.toArray.size + its2.toArray.size ≤ sizeLine := by rw [List.size_toArray, List.size_toArray]; omega
  have hlong : ¬ (!its.toArray.isEmpty && Builtin.List.listTooLong (its.toArray.size + its2.toArray.size)) = true := by
    rw [notLongL hsz, Bool.and_false]
    exact Bool.false_ne_true
  refine call_meets F.slot_list_extend ⟨_, e, rfl⟩ F.entry_list_extend (F.args_list_extend_2 _ _)
    (AutoSeq1.list_extend_list_list_0 l its.toArray n b its2.toArray n2 hlong (by rw [List.size_toArray]; omega) (by omega)) ⟨e, e2, ?_⟩
  refine ⟨.non, _, I.lset (its' := its ++ its2) hH e (by simp) (r.append r2) ?_, rfl, q⟩
  rw [List.length_append]
  omega

def rPop : V → List V → Hp → VK → Prop := fun x vs H Q => ∃ l xs y, x = .ref l ∧ vs = [] ∧ H l = some (.lst xs) ∧ xs[xs.length - 1]? = some y ∧ Q y (upd H l (.lst xs.dropLast))
theorem mt_pop : MtM X "list.pop" rPop := by
  intro pins s σ H x vs v us Q I rx rv h
  obtain ⟨l, xs, y, rfl, rfl, hH, hy, q⟩ := h
  cases rx
  have hus := rv.zero
  subst hus
  obtain ⟨z, its, n, r, hl, e⟩ := I.lstM hH
  obtain ⟨u, hu, ru⟩ := r.get hy
  have hy' : its.toArray[its.toArray.size - 1]? = some u := by
    show its.toArray[its.length - 1]? = some u
    rw [← Array.getElem?_toList, ← hl]
    exact hu
  refine call_meets F.slot_list_pop ⟨_, e, rfl⟩ F.entry_list_pop (F.args_list_pop_1 _) (MeetsSeq.list_pop_last l its.toArray n u hy' (by rw [List.size_toArray]; omega)) ⟨e, ?_⟩
  refine ⟨y, _, I.lset (its' := its.dropLast) hH e ?_ r.dropLast ?_, ru, q⟩
  · show its.toArray.eraseIdxIfInBounds (its.toArray.size - 1) = its.dropLast.toArray
    rw [List.size_toArray, List.eraseIdxIfInBounds_toArray, erase_last]
  · rw [List.length_dropLast]
    omega

def rPopAt : V → List V → Hp → VK → Prop := fun x vs H Q => ∃ l xs i k y, x = .ref l ∧ vs = [.int i] ∧ H l = some (.lst xs) ∧ -(2 ^ 63) ≤ i ∧ i < 2 ^ 63 ∧ seqIndex? i xs.length = some k ∧ xs[k]? = some y ∧ Q y (upd H l (.lst (xs.eraseIdx k)))
theorem mt_popAt : MtM X "list.pop" rPopAt := by
  intro pins s σ H x vs v us Q I rx rv h
  obtain ⟨l, xs, i, k, y, rfl, rfl, hH, h1, h2, hk, hy, q⟩ := h
  cases rx
  obtain ⟨u, rfl, ru⟩ := rv.one
  obtain ⟨t, rfl⟩ := ru
  obtain ⟨z, its, n, r, hl, e⟩ := I.lstM hH
  obtain ⟨w, hw, rw'⟩ := r.get hy
  refine call_meets F.slot_list_pop ⟨_, e, rfl⟩ F.entry_list_pop (F.args_list_pop_2 _ _)
    (MeetsSeq.list_pop_at l its.toArray n i t k w (fitsIndex_both h1 h2) (by rw [List.size_toArray, ← hl]; exact hk) (by rw [← Array.getElem?_toList]; exact hw) (by rw [List.size_toArray]; omega)) ⟨e, ?_⟩
  refine ⟨y, _, I.lset (its' := its.eraseIdx k) hH e ?_ (r.eraseIdx k) ?_, rw', q⟩
  · show its.toArray.eraseIdxIfInBounds k = (its.eraseIdx k).toArray
    rw [List.eraseIdxIfInBounds_toArray]
  · have := len_erase xs k
    omega

def rReverse : V → List V → Hp → VK → Prop := fun x vs H Q => ∃ l xs, x = .ref l ∧ vs = [] ∧ H l = some (.lst xs) ∧ Q .non (upd H l (.lst xs.reverse))
theorem mt_reverse : MtM X "list.reverse" rReverse := by
  intro pins s σ H x vs v us Q I rx rv h
  obtain ⟨l, xs, rfl, rfl, hH, q⟩ := h
  cases rx
  have hus := rv.zero
  subst hus
  obtain ⟨z, its, n, r, hl, e⟩ := I.lstM hH
  refine call_meets F.slot_list_reverse ⟨_, e, rfl⟩ F.entry_list_reverse (F.args_list_reverse_1 _) (AutoSeq1.list_reverse_list_0 l its.toArray n (by rw [List.size_toArray]; omega)) ⟨e, ?_⟩
  refine ⟨.non, _, I.lset (its' := its.reverse) hH e (by simp) r.reverse ?_, rfl, q⟩
  rw [List.length_reverse]
  omega

def rClear : V → List V → Hp → VK → Prop := fun x vs H Q => ∃ l xs, x = .ref l ∧ vs = [] ∧ H l = some (.lst xs) ∧ Q .non (upd H l (.lst []))
theorem mt_clear : MtM X "list.clear" rClear := by
  intro pins s σ H x vs v us Q I rx rv h
  obtain ⟨l, xs, rfl, rfl, hH, q⟩ := h
  cases rx
  have hus := rv.zero
  subst hus
  obtain ⟨z, its, n, r, hl, e⟩ := I.lstM hH
  refine call_meets F.slot_list_clear ⟨_, e, rfl⟩ F.entry_list_clear (F.args_list_clear_1 _) (AutoSeq1.list_clear_list_0 l its.toArray n (by rw [List.size_toArray]; omega)) ⟨e, ?_⟩
  exact ⟨.non, _, I.lset (its' := []) (ys := []) hH e rfl .nil (Nat.zero_le _), rfl, q⟩

/-! ### list + list, list += list, list * int -/
def rCat : R2 := fun x y H Q => ∃ l b xs zs, x = .ref l ∧ y = .ref b ∧ H l = some (.lst xs) ∧ H b = some (.lst zs) ∧ xs.length + zs.length ≤ sizeLine ∧ ∀ p, H p = none → Q (.ref p) (upd H p (.lst (xs ++ zs)))
theorem op_cat : OpR X (binaryOp .Add) rCat := by
  intro pins s σ H x y v u Q I rx ry h
  obtain ⟨l, b, xs, zs, rfl, rfl, hH, hB, hz, q⟩ := h
  cases rx
  cases ry
  obtain ⟨z, its, n, r, hl, e⟩ := I.lstM hH
  obtain ⟨z2, its2, n2, r2, hl2, e2⟩ := I.lstM hB
  refine PySem.P.add_list e e2 ?_ (by rw [List.size_toArray, List.size_toArray]; omega)
  have ea : its.toArray ++ its2.toArray = (its ++ its2).toArray := by simp
  rw [ea]
  exact ⟨.ref _, _, I.lnew (t' := s.toks) (r.append r2) (by rw [List.length_append]; omega), rfl, q _ I.fresh⟩
/-- a list times an int (a negative one is nothing) -/
def rRep : R2 := fun x y H Q => ∃ l k xs, x = .ref l ∧ y = .int k ∧ H l = some (.lst xs) ∧ -(2 ^ 63) ≤ k ∧ k < 2 ^ 63 ∧ xs.length * k.toNat ≤ sizeLine ∧
  ∀ p, H p = none → Q (.ref p) (upd H p (.lst (List.replicate k.toNat xs).flatten))
theorem len_rep {α : Type} (xs : List α) (k : Nat) : (List.replicate k xs).flatten.length = k * xs.length := by
  induction k with
  | zero => simp
  | succ k ih => rw [List.replicate_succ, List.flatten_cons, List.length_append, ih, Nat.succ_mul, Nat.add_comm]
theorem op_rep : OpR X (binaryOp .Mult) rRep := by
  intro pins s σ H x y v u Q I rx ry h
  obtain ⟨l, k, xs, rfl, rfl, hH, h1, h2, hz, q⟩ := h
  cases rx
  obtain ⟨t, rfl⟩ := ry
  obtain ⟨z, its, n, r, hl, e⟩ := I.lstM hH
  have hlen : its.toArray.size * k.toNat ≤ sizeLine := by rw [List.size_toArray, ← hl]; exact hz
  have hcap : ¬ its.toArray.size * k.toNat > (2 ^ 63 - 1) / 8 := by
    have : (sizeLine : Nat) ≤ (2 ^ 63 - 1) / 8 := by decide
    omega
  have hfit : ¬ (!Builtin.List.listFitsIndex k) = true := by
    rw [fitsIndex_both h1 h2]
    exact Bool.false_ne_true
  have hlong : ¬ Builtin.List.listTooLong (its.toArray.size * k.toNat) = true := by
    rw [notLongL hlen]
    exact Bool.false_ne_true
  have hnew : List.foldl (fun x1 x2 => x1 ++ x2) #[] (List.replicate (if its.toArray.isEmpty = true then 0 else k.toNat) its.toArray) = (List.replicate k.toNat its).flatten.toArray := by
    have f0 : ∀ m : Nat, List.foldl (fun x1 x2 => x1 ++ x2) #[] (List.replicate m its.toArray) = (List.replicate m its).flatten.toArray := fun m => by
      have := foldl_rep its m []
      rw [List.nil_append] at this
      exact this
    rw [f0]
    cases its with
    | nil => simp
    | cons a r' => rw [if_neg (by simp)]
  refine wpAny_binaryOp_repeat_ref (T := "list") (U := "int") (by decide) ⟨_, e, rfl⟩ (fun s' => typeIs_int s' k t) noFill_list_mul F.fills_int_mul F.slot_int_rmul repeat_list F.slot_int_index.lookup
    (call_meets F.slot_int_rmul (typeIs_int s k t) F.entry_int_rmul (F.args_int_rmul_2 _ _) (int___rmul___int_list k t l its.toArray n)
      ⟨e, rfl, ⟨_, e, rfl⟩, call_meets F.slot_list_mul ⟨_, e, rfl⟩ F.entry_list_mul (F.args_list_mul_2 _ _) (AutoListH.list___mul___list_int_3 l its.toArray n k t hfit hcap hlong) ⟨e, ?_⟩⟩)
  rw [hnew]
  exact ⟨.ref _, _, I.lnew (t' := s.toks) (r.rep k.toNat) (by rw [len_rep, Nat.mul_comm]; exact hz), rfl, q _ I.fresh⟩

/-! ### del xs[i] -/
theorem del_list {pins : List (Addr × Obj)} {s : Shared} {σ : St} {H : Hp} {l : Addr} {xs : List V} {i : Int} {t : Tok} {k : Nat} {Q : Unit → Shared → Prop} (I : Inv X pins σ H s) (hH : H l = some (.lst xs))
    (h1 : -(2 ^ 63) ≤ i) (h2 : i < 2 ^ 63) (hk : seqIndex? i xs.length = some k) (h : ∀ s', Inv X pins σ (upd H l (.lst (xs.eraseIdx k))) s' → Q () s') :
    wpAny (model X.prog X.w) X.A (delItem (.ref l) (.int i t)) Q X.xe s := by
  obtain ⟨z, its, n, r, hl, e⟩ := I.lstM hH
  refine PySem.P.delItem_list (k := k) e (fitsIndex_both h1 h2) (by rw [List.size_toArray, ← hl]; exact hk) (h _ ?_) (by rw [List.size_toArray]; omega)
  refine I.lset (its' := its.eraseIdx k) (t' := s.toks) hH e ?_ (r.eraseIdx k) ?_
  · show its.toArray.eraseIdxIfInBounds k = (its.eraseIdx k).toArray
    rw [List.eraseIdxIfInBounds_toArray]
  · have := len_erase xs k
    omega
end

/-! ### xs[a:b] = ys -/
section
variable {prog : Program} {w : World} {A : Around} {E : Value → Shared → Prop} {s : Shared}
theorem splice_eq (its its2 : List Value) (a c : Nat) : its.toArray.extract 0 a ++ its2.toArray ++ its.toArray.extract c its.toArray.size = (its.take a ++ its2 ++ its.drop c).toArray := by
  apply Array.toList_inj.mp
  first
    | (simp
       exact List.take_of_length_le (by simp))
    | simp [List.take_of_length_le]
    | simp
theorem bounds_run {a c n : Nat} (hac : a ≤ c) (hc : c ≤ n) : sliceBounds (some (a : Int)) (some (c : Int)) none n = ((a : Int), (c : Int), 1) := by
  simp only [sliceBounds, Option.getD_none]
  have h1 : ¬ ((a : Int) < 0) := by omega
  have h2 : ¬ ((c : Int) < 0) := by omega
  simp only [h1, h2, if_false, show (1 : Int) > 0 by decide, if_true]
  congr 1
  · omega
  · congr 1; omega
set_option maxRecDepth 100000 in
/-- list.__setitem__ with a slice of step one and another list -/
theorem setItem_slice {l b sl : Addr} {items new : Array Value} {n n2 : Nat} {vl vu : Value} {a c : Nat} {Q : Unit → Shared → Prop}
    (e : s.heap.get? l = some { cls := .type "list", data := .seq items n }) (e2 : s.heap.get? b = some { cls := .type "list", data := .seq new n2 }) (hne : l ≠ b)
    (hs : s.heap.IsSliceOf sl vl vu .none) (pl : IsPart vl (some (a : Int))) (pu : IsPart vu (some (c : Int))) (hac : a ≤ c) (hc : c ≤ items.size)
    (hsz : items.size + new.size ≤ sizeLine) (h : Q () { s with heap := s.heap.update l (Obj.mapSeq fun xs => xs.extract 0 a ++ new ++ xs.extract c xs.size) }) :
    wpAny (model prog w) A (setItem (.ref l) (.ref sl) (.ref b)) Q E s := by
  have hl : s.heap.IsList l items := PySem.IsL.isList e
  have hb : s.heap.IsList b new := PySem.IsL.isList e2
  obtain ⟨os, hos, hcs, hds⟩ := id hs
  have hTs : s.TypeIs (.ref sl) "slice" := ⟨os, hos, hcs⟩
  have hstep : ¬ ((rawPart none == rawInt 0) = true) := Bool.false_ne_true
  have hsame : Builtin.List.listSameRef (.ref l) (.ref b) = false := by
    unfold Builtin.List.listSameRef
    exact beq_eq_false_iff_ne.mpr hne
  have hmax : (max (a : Int) (c : Int)).toNat = c := by omega
  have hz' : ((fun xs : Array Value => xs.extract 0 a ++ new ++ xs.extract c xs.size) items).size ≤ sizeLine + 1 := by
    simp only [Array.size_append, Array.size_extract]
    omega
  unfold setItem
  try with_reducible refine wpAny_holding ?_
  first | refine wpAny_bind (wpAny_pure ?_) | skip
  refine wpAny_bind (wpAny_sequenceKey hl.typeIs (by decide) ?_)
  refine wpAny_bind (wpAny_callSpecial?_slot (name := Str.ofString "__setitem__") hl.typeIs slot_list_setitem
    (wpAny_call_entry slot_list_setitem hl.typeIs entry_list_setitem ?_ (args_list_setitem _ _ _)))
  show wpAny _ _ (Builtin.List.listSubscript? (.ref sl) >>= _) _ _ s
  refine wpAny_bind ?_
  unfold Builtin.List.listSubscript?
  refine wpAny_bind (wpAny_specialOf hTs slice_no_index ?_)
  simp only [Option.isNone_none, if_true]
  refine wpAny_pure ?_
  show wpAny _ _ (typeOf (.ref sl) >>= _) _ _ s
  refine wpAny_bind (wpAny_typeOf hTs ?_)
  first
    | rw [if_neg (by decide)]
    | refine PySem.W.KFB.if_not (by decide) ?_
  rw [listSliceParts_eq]
  refine wpAny_bind (wpAny_bind (wpAny_field hos hds (x := .none) rfl (wpAny_bind (wpAny_listPart .none ?_))))
  rw [if_neg hstep]
  refine wpAny_bind (wpAny_field hos hds (x := vl) rfl (wpAny_bind (wpAny_listPart pl ?_)))
  refine wpAny_bind (wpAny_field hos hds (x := vu) rfl (wpAny_bind (wpAny_listPart pu (wpAny_pure ?_))))
  first
    | simp only [hsame, Bool.false_eq_true, if_false]
    | refine PySem.W.KFB.if_not hsame ?_
    | (dsimp only
       rw [if_neg (by rw [hsame]; exact Bool.false_ne_true)])
  refine wpAny_bind (m := Builtin.List.listAllItems (.ref b) "must assign iterable to extended slice") ?_
  unfold Builtin.List.listAllItems
  refine wpAny_bind (wpAny_typeOf hb.typeIs ?_)
  first
    | refine PySem.W.KFB.if_so (by decide) ?_
    | rw [if_pos (by decide)]
    | simp only [beq_self_eq_true, Bool.true_or, if_true]
  unfold Builtin.List.listItems
  refine wpAny_bind (wpAny_seqItems e2 rfl (wpAny_pure ?_))
  refine wpAny_bind (wpAny_bind (wpAny_seqItems e rfl (wpAny_pure ?_)))
  refine wpAny_bind (wpAny_of_eq ((sliceIndices_raw (some (a : Int)) (some (c : Int)) none items.size (by simp)).trans (congrArg (pure : Int × Int × Int → Sem (Int × Int × Int)) (bounds_run hac hc))) ?_)
  show wpAny _ _ (if ((1 : Int) == 1) = true then _ else _) _ _ s
  rw [if_pos (by decide)]
  refine wpAny_bind (wpAny_rule ?_)
  first
    | simp only [notLongL hsz, Bool.false_eq_true, if_false]
    | refine PySem.W.KFB.if_not (notLongL hsz) ?_
  first | refine wpAny_bind (wpAny_pure ?_) | skip
  show wpAny _ _ (updateSeq l (fun xs => xs.extract 0 ((a : Int)).toNat ++ new ++ xs.extract (max (a : Int) (c : Int)).toNat xs.size) >>= _) _ _ s
  rw [hmax, Int.toNat_natCast]
  refine wpAny_bind (wpAny_updateSeq (hz := Nat.le_trans (Nat.le_add_right _ _) hsz) (_hz' := hz') e rfl ?_)
  refine wpAny_bind (wpAny_letGo ?_)
  first
    | exact wpAny_bind (wpAny_pure (wpAny_pure ⟨.none, rfl, wpAny_pure h⟩))
    | exact wpAny_pure ⟨.none, rfl, wpAny_pure h⟩
end

section
variable {X : Cx}
/-- xs[a:c] = ys of another list, at the value level: sl is the slice object that was just made -/
theorem set_slice {pins : List (Addr × Obj)} {s : Shared} {σ : St} {H : Hp} {l b sl : Addr} {xs ys : List V} {a c : Int} {vl vu : Value} {Q : Unit → Shared → Prop} (I : Inv X pins σ H s)
    (hH : H l = some (.lst xs)) (hB : H b = some (.lst ys)) (hne : l ≠ b) (hs : s.heap.IsSliceOf sl vl vu .none) (ra : RelV (.int a) vl) (rc : RelV (.int c) vu) (h0 : 0 ≤ a) (hac : a ≤ c) (hc : c ≤ xs.length)
    (hz : xs.length + ys.length ≤ sizeLine) (h : ∀ s', Inv X pins σ (upd H l (.lst (xs.take a.toNat ++ ys ++ xs.drop c.toNat))) s' → Q () s') :
    wpAny (model X.prog X.w) X.A (setItem (.ref l) (.ref sl) (.ref b)) Q X.xe s := by
  obtain ⟨ta, rfl⟩ := ra
  obtain ⟨tc, rfl⟩ := rc
  obtain ⟨z, its, n, r, hl, e⟩ := I.lstM hH
  obtain ⟨z2, its2, n2, r2, hl2, e2⟩ := I.lstM hB
  obtain ⟨a', rfl⟩ := Int.eq_ofNat_of_zero_le h0
  obtain ⟨c', rfl⟩ := Int.eq_ofNat_of_zero_le (Int.le_trans h0 hac)
  simp only [Int.toNat_natCast] at h
  refine setItem_slice (a := a') (c := c') e e2 hne hs (.int _ _) (.int _ _) (by omega) (by rw [List.size_toArray]; omega) (by rw [List.size_toArray, List.size_toArray]; omega) (h _ ?_)
  refine I.lset (its' := its.take a' ++ its2 ++ its.drop c') (t' := s.toks) hH e ?_ (Vals.append (Vals.append (r.take _) r2) (r.drop _)) ?_
  · exact splice_eq its its2 a' c'
  · rw [List.length_append, List.length_append, List.length_take, List.length_drop]
    omega
end
end L2

namespace L2
open PySem PySem.Spec PyProof.Rows

theorem Vals.ints : ∀ {ns : List Int} {us : List Value}, Vals (ns.map V.int) us → IntsAre us ns
  | [], us, h => by
    rw [List.map_nil] at h
    cases h
    exact IntsAre.nil
  | n :: ns, us, h => by
    rw [List.map_cons] at h
    cases h with
    | cons r t =>
      obtain ⟨k, rfl⟩ := r
      exact IntsAre.cons n k (Vals.ints t)
theorem vals_of_ints : ∀ {us : List Value} {ns : List Int}, IntsAre us ns → Vals (ns.map V.int) us
  | _, _, .nil => by rw [List.map_nil]; exact Paired.nil
  | _, _, .cons n t h => by rw [List.map_cons]; exact Paired.cons (show RelV (V.int n) (Value.int n t) from ⟨t, rfl⟩) (vals_of_ints h)
theorem Vals.strs : ∀ {xs : List Str} {us : List Value}, Vals (xs.map V.str) us → StrsAre us xs
  | [], us, h => by
    rw [List.map_nil] at h
    cases h
    exact StrsAre.nil
  | x :: xs, us, h => by
    rw [List.map_cons] at h
    cases h with
    | cons r t =>
      obtain ⟨k, rfl⟩ := r
      exact StrsAre.cons x k (Vals.strs t)
theorem vals_of_strs : ∀ {us : List Value} {xs : List Str}, StrsAre us xs → Vals (xs.map V.str) us
  | _, _, .nil => by rw [List.map_nil]; exact Paired.nil
  | _, _, .cons x t h => by rw [List.map_cons]; exact Paired.cons (show RelV (V.str x) (Value.str x t) from ⟨t, rfl⟩) (vals_of_strs h)
theorem Vals.bls : ∀ {bs : List Bool} {us : List Value}, Vals (bs.map V.bl) us → us = bs.map Value.bool
  | [], us, h => by
    rw [List.map_nil] at h
    cases h
    rfl
  | b :: bs, us, h => by
    rw [List.map_cons] at h
    cases h with
    | cons r t =>
      cases r
      rw [Vals.bls t, List.map_cons]
theorem Vals.ref1 {a : Addr} {us : List Value} (r : Vals [V.ref a] us) : us = [Value.ref a] := by
  cases r with
  | cons r t =>
    cases t
    cases r
    rfl
theorem Vals.int2 {i j : Int} {us : List Value} (r : Vals [V.int i, V.int j] us) : ∃ t u, us = [Value.int i t, Value.int j u] := by
  cases r with
  | cons r t =>
    cases t with
    | cons r2 t2 =>
      cases t2
      obtain ⟨t, rfl⟩ := r
      obtain ⟨u, rfl⟩ := r2
      exact ⟨t, u, rfl⟩

/-! ### the library's walks over a list of ints, kept objects alone -/
section
variable {prog : Program} {w : World} {A : Around} {E : Value → Shared → Prop} {s : Shared} {l : Addr} {its : List Value} {ns : List Int} {Q : Value → Shared → Prop}
theorem sum_raw (hh : A.handled = none) (hl : s.heap.IsList l its.toArray) (hi : IntsAre its ns)
    (h : ∀ h' tk t', (∀ b o, s.heap.get? b = some o → h'.get? b = some o) → Q (.int ns.sum t') { s with heap := h', toks := tk }) : wpAny (model prog w) A (call (.builtin "sum") [.ref l]) Q E s := by
  obtain ⟨xs, e⟩ := hi.allInts.items
  have hn : numsOf (intItems xs).toList = ns := by rw [← e]; exact hi.numsOf
  rw [nums_intItems] at hn
  rw [e] at hl
  refine PySem.sum_intListG hh hl fun h' tk t' hk => ?_
  have := h h' tk t' hk
  rw [preSum_eq, List.take_of_length_le (by simp), hn]; exact this
theorem max_raw (hh : A.handled = none) (hl : s.heap.IsList l its.toArray) (hi : IntsAre its ns) (hne : 0 < ns.length)
    (h : ∀ h' tk M t', (∀ b o, s.heap.get? b = some o → h'.get? b = some o) → M ∈ ns → (∀ a, a ∈ ns → a ≤ M) → Q (.int M t') { s with heap := h', toks := tk }) : wpAny (model prog w) A (call (.builtin "max") [.ref l]) Q E s := by
  obtain ⟨xs, e⟩ := hi.allInts.items
  have hn : numsOf (intItems xs).toList = ns := by rw [← e]; exact hi.numsOf
  rw [nums_intItems] at hn
  subst hn
  rw [e] at hl
  have hsz : 0 < xs.size := by simpa using hne
  refine PySem.max_intList hh hl hsz fun v h' tk hv hk => ?_
  obtain ⟨t, rfl⟩ := intItems_at hv
  obtain ⟨h1, h2⟩ := argBest_gt (numAt xs) (xs.size - 1)
  refine h h' tk _ t hk ?_ fun a ha => ?_
  · rw [numAt_eq]; exact PySem.getD_mem (by rw [List.length_map, Array.length_toList]; omega)
  · obtain ⟨j, hj, rfl⟩ := mem_getD ha
    rw [List.length_map, Array.length_toList] at hj
    rw [← numAt_eq]; exact h2 j (by omega)
theorem min_raw (hh : A.handled = none) (hl : s.heap.IsList l its.toArray) (hi : IntsAre its ns) (hne : 0 < ns.length)
    (h : ∀ h' tk M t', (∀ b o, s.heap.get? b = some o → h'.get? b = some o) → M ∈ ns → (∀ a, a ∈ ns → M ≤ a) → Q (.int M t') { s with heap := h', toks := tk }) : wpAny (model prog w) A (call (.builtin "min") [.ref l]) Q E s := by
  obtain ⟨xs, e⟩ := hi.allInts.items
  have hn : numsOf (intItems xs).toList = ns := by rw [← e]; exact hi.numsOf
  rw [nums_intItems] at hn
  subst hn
  rw [e] at hl
  have hsz : 0 < xs.size := by simpa using hne
  refine PySem.min_intList hh hl hsz fun v h' tk hv hk => ?_
  obtain ⟨t, rfl⟩ := intItems_at hv
  obtain ⟨h1, h2⟩ := argBest_lt (numAt xs) (xs.size - 1)
  refine h h' tk _ t hk ?_ fun a ha => ?_
  · rw [numAt_eq]; exact PySem.getD_mem (by rw [List.length_map, Array.length_toList]; omega)
  · obtain ⟨j, hj, rfl⟩ := mem_getD ha
    rw [List.length_map, Array.length_toList] at hj
    rw [← numAt_eq]; exact h2 j (by omega)
end

/-! ### the calls, by values (CallR of 03t; MtR of 06l) -/
section
variable {X : Cx}
/-- sum(xs) of a list of ints -/
def rSum (K : PySem.W.Frag) : List V → Hp → VK → Prop := fun vs H Q => ∃ (a : Addr) (ns : List Int), vs = [V.ref a] ∧ SqL K H a (ns.map V.int) ∧ Q (.int ns.sum) H
/-- max(xs), min(xs) of a list of ints -/
def rMax (K : PySem.W.Frag) : List V → Hp → VK → Prop := fun vs H Q => ∃ (a : Addr) (ns : List Int), vs = [V.ref a] ∧ SqL K H a (ns.map V.int) ∧ 0 < ns.length ∧ ∀ m, m ∈ ns → (∀ y, y ∈ ns → y ≤ m) → Q (.int m) H
def rMin (K : PySem.W.Frag) : List V → Hp → VK → Prop := fun vs H Q => ∃ (a : Addr) (ns : List Int), vs = [V.ref a] ∧ SqL K H a (ns.map V.int) ∧ 0 < ns.length ∧ ∀ m, m ∈ ns → (∀ y, y ∈ ns → m ≤ y) → Q (.int m) H
theorem cr_sum (hc : X.calm = true) : CallR X (.builtin "sum") (rSum X.K) := by
  intro pins s σ H vs us Q I r h
  obtain ⟨a, ns, rfl, hs, q⟩ := h
  obtain ⟨its, rv, hl, _⟩ := I.list hs
  rw [Vals.ref1 r]
  exact sum_raw (I.ok.hd hc) hl.isList rv.ints fun h' tk t' hk => ⟨.int _, H, I.kept hk, ⟨_, rfl⟩, q⟩
theorem cr_max (hc : X.calm = true) : CallR X (.builtin "max") (rMax X.K) := by
  intro pins s σ H vs us Q I r h
  obtain ⟨a, ns, rfl, hs, hne, q⟩ := h
  obtain ⟨its, rv, hl, _⟩ := I.list hs
  rw [Vals.ref1 r]
  exact max_raw (I.ok.hd hc) hl.isList rv.ints hne fun h' tk m t' hk h1 h2 => ⟨.int _, H, I.kept hk, ⟨_, rfl⟩, q m h1 h2⟩
theorem cr_min (hc : X.calm = true) : CallR X (.builtin "min") (rMin X.K) := by
  intro pins s σ H vs us Q I r h
  obtain ⟨a, ns, rfl, hs, hne, q⟩ := h
  obtain ⟨its, rv, hl, _⟩ := I.list hs
  rw [Vals.ref1 r]
  exact min_raw (I.ok.hd hc) hl.isList rv.ints hne fun h' tk m t' hk h1 h2 => ⟨.int _, H, I.kept hk, ⟨_, rfl⟩, q m h1 h2⟩

/-! sorted, sort (fewer than 64 items: the library's own bound) -/
def rSorted (K : PySem.W.Frag) : List V → Hp → VK → Prop := fun vs H Q => ∃ (a : Addr) (ns : List Int), vs = [V.ref a] ∧ SqL K H a (ns.map V.int) ∧ ns.length < 64 ∧
  ∀ (ns' : List Int) (p : Addr), ns'.Perm ns → ns'.Pairwise (· ≤ ·) → H p = none → Q (.ref p) (upd H p (.lst (ns'.map V.int)))
def rSortedS (K : PySem.W.Frag) : List V → Hp → VK → Prop := fun vs H Q => ∃ (a : Addr) (xs : List Str), vs = [V.ref a] ∧ SqL K H a (xs.map V.str) ∧ xs.length < 64 ∧
  ∀ (ys : List Str) (p : Addr), ys.Perm xs → sortedS ys = true → H p = none → Q (.ref p) (upd H p (.lst (ys.map V.str)))
theorem small64 {n : Nat} (h : n < 64) : n ≤ sizeLine := by rw [sizeLine_eq]; omega
theorem cr_sorted : CallR X (.builtin "sorted") (rSorted X.K) := by
  intro pins s σ H vs us Q I r h
  obtain ⟨a, ns, rfl, hs, h64, q⟩ := h
  obtain ⟨its, rv, hl, _⟩ := I.list hs
  rw [Vals.ref1 r]
  have hi := rv.ints
  refine PyProof.Rows.sorted_ints hl.isList hi (by rw [hi.length]; exact h64) fun out ns' h1 h2 h3 => ?_
  obtain ⟨ep, he'⟩ := PyProof.Rows.sortedAll_at s.heap its out
  have hlen : (ns'.map V.int).length ≤ sizeLine := by rw [List.length_map, h2.length_eq]; exact small64 h64
  exact ⟨.ref _, upd H (s.heap.objs.size + 1) (.lst (ns'.map V.int)), I.laid (t' := s.toks) (fun _ _ => PyProof.Rows.sortedAll_old) (Nat.le_succ _) ⟨hlen, out.toList, ep, vals_of_ints h1, he'⟩, rfl, q ns' _ h2 h3 (I.hok.fresh (Nat.le_succ _))⟩
theorem cr_sortedS : CallR X (.builtin "sorted") (rSortedS X.K) := by
  intro pins s σ H vs us Q I r h
  obtain ⟨a, xs, rfl, hs, h64, q⟩ := h
  obtain ⟨its, rv, hl, _⟩ := I.list hs
  rw [Vals.ref1 r]
  have hlen0 := rv.length
  rw [List.length_map] at hlen0
  refine PyProof.Rows.sorted_strs hl.isList rv.strs (by rw [← hlen0]; exact h64) fun out ys h1 h2 h3 => ?_
  obtain ⟨ep, he'⟩ := PyProof.Rows.sortedAll_at s.heap its out
  have hlen : (ys.map V.str).length ≤ sizeLine := by rw [List.length_map, h2.length_eq]; exact small64 h64
  exact ⟨.ref _, upd H (s.heap.objs.size + 1) (.lst (ys.map V.str)), I.laid (t' := s.toks) (fun _ _ => PyProof.Rows.sortedAll_old) (Nat.le_succ _) ⟨hlen, out.toList, ep, vals_of_strs h1, he'⟩, rfl, q ys _ h2 h3 (I.hok.fresh (Nat.le_succ _))⟩
/-- xs.sort(), ints -/
def rSort : V → List V → Hp → VK → Prop := fun x xs H Q => ∃ (a : Addr) (ns : List Int), x = V.ref a ∧ xs = [] ∧ H a = some (.lst (ns.map V.int)) ∧ ns.length < 64 ∧
  ∀ ns' : List Int, ns'.Perm ns → ns'.Pairwise (· ≤ ·) → Q .non (upd H a (.lst (ns'.map V.int)))
theorem mt_sort : MtR X "list.sort" rSort := by
  intro pins s σ H x xs v us Q I rx rxs h
  obtain ⟨a, ns, rfl, rfl, ha, h64, q⟩ := h
  cases rx
  cases rxs
  obtain ⟨hz, its, n, rv, hob⟩ := I.hok a _ ha
  have hi := rv.ints
  refine wpAny_call_entry PyProof.Rows.slot_list_sort ⟨_, hob, rfl⟩ PyProof.Rows.entry_list_sort
    (PyProof.Rows.list_sort_tree hob hi (by rw [hi.length]; exact h64) fun out ns' h1 h2 h3 => ⟨.none, rfl, ?_⟩) (PyProof.Rows.args_list_sort _)
  obtain ⟨ep, he'⟩ := PyProof.Rows.sortedHeap_at (vs := its) (out := out) hob
  have hlen : (ns'.map V.int).length ≤ sizeLine := by rw [List.length_map, h2.length_eq]; exact small64 h64
  refine ⟨.non, upd H a (.lst (ns'.map V.int)), I.write (e := a) (t' := s.toks) (by rw [ha]; trivial) (.inl rfl) (fun b u hb hu => ?_) ⟨_, he'⟩ ⟨hlen, out.toList, ep, vals_of_ints h1, he'⟩, rfl, q ns' h2 h3⟩
  rw [PyProof.Rows.sortedHeap_old hb (Heap.lt_size hu)]; exact hu
end

/-! ### list.index, flat items -/
section
variable {X : Cx}
def rIndex (K : PySem.W.Frag) : V → List V → Hp → VK → Prop := fun x xs H Q => ∃ (a : Addr) (ys : List V) (y : V) (j : Nat) (z : V), x = V.ref a ∧ xs = [y] ∧ SqL K H a ys ∧ flatV y = true ∧ ys.all flatV = true ∧ ys[j]? = some z ∧ eqV z y = true ∧
  (∀ (m : Nat) (z' : V), m < j → ys[m]? = some z' → eqV z' y = false) ∧ Q (.int (j : Nat)) H
theorem flat_at {ys : List V} (f : ys.all flatV = true) {j : Nat} {z : V} (h : ys[j]? = some z) : flatV z = true := List.all_eq_true.mp f z (List.mem_of_getElem? h)
theorem mt_index : MtR X "list.index" (rIndex X.K) := by
  intro pins s σ H x xs v us Q I rx rxs h
  obtain ⟨a, ys, y, j, z, rfl, rfl, hs, fy, fys, hz, hzj, hno, q⟩ := h
  cases rx
  cases rxs with
  | cons ry rt =>
    rename_i uy ut
    cases rt
    obtain ⟨its, rv, ⟨⟨cls, dd, data, sl⟩, n, ho, hc, hdn, hd⟩, hlen⟩ := I.list hs
    simp only at hc hd
    subst hc hd
    obtain ⟨u, hu, ru⟩ := rv.get hz
    obtain ⟨hjl, hje⟩ := List.getElem?_eq_some_iff.mp hu
    have hvl := rv.length
    have hj : j < its.toArray.size := by simpa using hjl
    have hsl := sizeLine_eq
    refine call_meets PySem.F.slot_list_index ⟨_, ho, rfl⟩ PySem.F.entry_list_index (PySem.F.args_list_index_2 _ _)
      (SeqAt.list_indexAt a its.toArray n dd sl uy (eqU y) j hj (by omega) ?_ ?_) ⟨ho, fun u' hu' => mem_eqAt ry fy rv fys u' (by simpa using hu'), ?_⟩
    · have e1 : its.toArray[j] = u := by simpa using hje
      rw [e1, eqU_of ru (flat_at fys hz)]
      exact hzj
    · intro m hm hmj
      have hml : m < its.length := by simpa using hm
      have hmy : m < ys.length := by omega
      have hy' : ys[m]? = some ys[m] := List.getElem?_eq_getElem hmy
      obtain ⟨u2, hu2, ru2⟩ := rv.get hy'
      obtain ⟨_, hme⟩ := List.getElem?_eq_some_iff.mp hu2
      have e1 : its.toArray[m] = u2 := by simpa using hme
      rw [e1, eqU_of ru2 (flat_at fys hy')]
      exact hno m _ hmj hy'
    · exact ⟨.int (j : Nat), H, I.tok _, ⟨_, rfl⟩, q⟩
end

/-! ### type(x) of an own instance; is, is not of a module's class -/
section
variable {X : Cx}
theorem cr_type : CallR X (.type "type") (fun xs H Q => ∃ a C dx fs, xs = [V.ref a] ∧ H a = some (.ins C dx fs) ∧ Q (.ref C) H) := by
  intro pins s σ H xs us Q I r h
  obtain ⟨a, C, dx, fs, rfl, ha, q⟩ := h
  rw [Vals.ref1 r]
  obtain ⟨mA, O, _⟩ := ins_get I.hok ha
  obtain ⟨od, J, _⟩ := O.look
  exact PySem.W.kto_own J ⟨.ref C, H, I, rfl, q⟩
/-- an object of the module whose class is no tuple: a class of the text (makesIn says that its type is a type's heir) -/
theorem cls_there {K : PySem.W.Frag} {C : Addr} (h : PySem.W.makesIn K C = true) : ∃ o, K.lookup C = some o ∧ o.cls ≠ .type "tuple" := by
  unfold PySem.W.makesIn at h
  split at h
  · rename_i oc od cd sl ho
    refine ⟨_, ho, fun e => ?_⟩
    rw [Bool.and_eq_true] at h
    have h2 : PySem.W.instIn K (.ref C) (.type "type") = some true := beq_iff_eq.mp h.2
    have e2 : oc = .type "tuple" := e
    have h3 : PySem.W.instIn K (.ref C) (.type "type") = PySem.W.subIn K oc (.type "type") := by
      show ((K.lookup C).map (fun o => o.cls)).bind (fun t => PySem.W.subIn K t (.type "type")) = _
      rw [ho]
      all_goals rfl
    rw [h3, e2] at h2
    have h4 : PySem.W.subIn K (.type "tuple") (.type "type") = some false := by
      show (fastBuiltinMro "tuple").map (·.contains (.type "type")) = some false
      decide +kernel
    rw [h4] at h2
    cases h2
  · cases h
theorem op_is_cls : OpR X (compareOp .Is) (fun x y H Q => ∃ a b, x = V.ref a ∧ y = V.ref b ∧ (a = b ∨ (PySem.W.makesIn X.K a = true ∧ PySem.W.makesIn X.K b = true)) ∧ Q (.bl (decide (a = b))) H) := by
  intro pins s σ H x y v u Q I rx ry h
  obtain ⟨a, b, rfl, rfl, hab, q⟩ := h
  cases rx
  cases ry
  by_cases z : a = b
  · subst z
    exact wpAny_is_ref_self ⟨.bl _, H, I, by simp [RelV], q⟩
  · rcases hab with e | ⟨h1, h2⟩
    · exact absurd e z
    · obtain ⟨o1, e1, n1⟩ := cls_there h1
      obtain ⟨o2, e2, _⟩ := cls_there h2
      exact wpAny_is_ref_other z (I.kIn _ _ e1) (I.kIn _ _ e2) n1 ⟨.bl _, H, I, by simp [RelV, z], q⟩
theorem op_isnot_cls : OpR X (compareOp .IsNot) (fun x y H Q => ∃ a b, x = V.ref a ∧ y = V.ref b ∧ (a = b ∨ (PySem.W.makesIn X.K a = true ∧ PySem.W.makesIn X.K b = true)) ∧ Q (.bl (!decide (a = b))) H) := by
  intro pins s σ H x y v u Q I rx ry h
  obtain ⟨a, b, rfl, rfl, hab, q⟩ := h
  cases rx
  cases ry
  by_cases z : a = b
  · subst z
    exact wpAny_isNot_ref_self ⟨.bl _, H, I, by simp [RelV], q⟩
  · rcases hab with e | ⟨h1, h2⟩
    · exact absurd e z
    · obtain ⟨o1, e1, n1⟩ := cls_there h1
      obtain ⟨o2, e2, _⟩ := cls_there h2
      exact wpAny_isNot_ref_other z (I.kIn _ _ e1) (I.kIn _ _ e2) n1 ⟨.bl _, H, I, by simp [RelV, z], q⟩
end

/-! ### any(xs), all(xs) of a list of bools -/
theorem iter_any {prog : Program} {w : World} {A : Around} {E : Value → Shared → Prop} {s : Shared} {l : Addr} {items : Array Value} {Q : Value → Shared → Prop} (hl : s.heap.IsList l items)
    (h : ∀ s₂ : Shared, s₂ = { s with heap := s.heap.push { cls := .type "list_iterator", data := .fields #[.ref l, .int 0 0] } } →
      (s₂.heap.IsListIter s.heap.objs.size l 0 ∧ s₂.heap.IsList l items) → l ≠ s.heap.objs.size → Q (.ref s.heap.objs.size) s₂) : wpAny (model prog w) A (pyIter (.ref l)) Q E s := by
  have hlt : l < s.heap.objs.size := by obtain ⟨_, e, _⟩ := hl; exact Heap.lt_size e
  exact wpAny_pyIter_list hl (h _ rfl ⟨⟨_, Heap.get?_push_size _ rfl, rfl, rfl⟩, hl.push _⟩ (Nat.ne_of_lt hlt))
theorem truth_bools {prog : Program} {w : World} {A : Around} {bs : List Bool} {its : List Value} (e : its = bs.map Value.bool) :
    TruthOf prog w A (fun i v => its.toArray[i]? = some v) (fun i => bs.getD i false) := fun i v s Q E hv hq => by
  have hv' : its[i]? = some v := by simpa using hv
  rw [e, List.getElem?_map] at hv'
  obtain ⟨b, hb, rfl⟩ := Option.map_eq_some_iff.mp hv'
  have hg : bs.getD i false = b := by rw [List.getD_eq_getElem?_getD, hb] <;> rfl
  have hq' : Q (bs.getD i false) s := hq
  rw [hg] at hq'
  exact wpAny_truthy_bool hq'
theorem any_range : ∀ bs : List Bool, (List.range bs.length).any (fun i => bs.getD i false) = bs.any id
  | [] => rfl
  | b :: bs => by
    rw [List.length_cons, List.range_succ_eq_map, List.any_cons, List.any_map, List.any_cons, ← any_range bs]
    all_goals rfl
theorem all_range : ∀ bs : List Bool, (List.range bs.length).all (fun i => bs.getD i false) = bs.all id
  | [] => rfl
  | b :: bs => by
    rw [List.length_cons, List.range_succ_eq_map, List.all_cons, List.all_map, List.all_cons, ← all_range bs]
    all_goals rfl
section
variable {X : Cx}
def rAny (K : PySem.W.Frag) : List V → Hp → VK → Prop := fun vs H Q => ∃ (a : Addr) (bs : List Bool), vs = [V.ref a] ∧ SqL K H a (bs.map V.bl) ∧ Q (.bl (bs.any id)) H
def rAll (K : PySem.W.Frag) : List V → Hp → VK → Prop := fun vs H Q => ∃ (a : Addr) (bs : List Bool), vs = [V.ref a] ∧ SqL K H a (bs.map V.bl) ∧ Q (.bl (bs.all id)) H
theorem cr_any (hc : X.calm = true) : CallR X (.builtin "any") (rAny X.K) := by
  intro pins s σ H vs us Q I r h
  obtain ⟨a, bs, rfl, hs, q⟩ := h
  obtain ⟨its, rv, hl, _⟩ := I.list hs
  rw [Vals.ref1 r]
  have hb := rv.bls
  refine call_any_walk (iter_any hl.isList fun s₂ e2 st hne => ?_)
  subst e2
  refine ⟨_, _, _, _, _, _, _, rfl, Walks.list (A := X.A.in1) (I.ok.hd hc) _ a hne its.toArray, st, truth_bools hb, fun h' tk hk => ?_⟩
  refine ⟨.bl _, H, I.kept fun b o eo => hk b o (fun hmem => ?_) (Heap.get?_push_of_some _ eo), ?_, q⟩
  · rcases List.mem_cons.mp hmem with e1 | hmem
    · exact absurd (e1 ▸ Heap.lt_size eo) (Nat.lt_irrefl _)
    · cases hmem
  · show Value.bool _ = Value.bool _
    rw [← any_range, hb, List.size_toArray, List.length_map]
theorem cr_all (hc : X.calm = true) : CallR X (.builtin "all") (rAll X.K) := by
  intro pins s σ H vs us Q I r h
  obtain ⟨a, bs, rfl, hs, q⟩ := h
  obtain ⟨its, rv, hl, _⟩ := I.list hs
  rw [Vals.ref1 r]
  have hb := rv.bls
  refine call_all_walk (iter_any hl.isList fun s₂ e2 st hne => ?_)
  subst e2
  refine ⟨_, _, _, _, _, _, _, rfl, Walks.list (A := X.A.in1) (I.ok.hd hc) _ a hne its.toArray, st, truth_bools hb, fun h' tk hk => ?_⟩
  refine ⟨.bl _, H, I.kept fun b o eo => hk b o (fun hmem => ?_) (Heap.get?_push_of_some _ eo), ?_, q⟩
  · rcases List.mem_cons.mp hmem with e1 | hmem
    · exact absurd (e1 ▸ Heap.lt_size eo) (Nat.lt_irrefl _)
    · cases hmem
  · show Value.bool _ = Value.bool _
    rw [← all_range, hb, List.size_toArray, List.length_map]
end

/-! ### == and != of data at any depth: none, bools, ints, texts, lists, tuples -/
mutual
inductive Dp (K : PySem.W.Frag) (H : Hp) : V → PyData → Prop
  | non : Dp K H .non .none
  | bl (b : Bool) : Dp K H (.bl b) (.bool b)
  | int (i : Int) : Dp K H (.int i) (.int i)
  | str (x : Str) : Dp K H (.str x) (.str x)
  | lst {a : Addr} {xs : List V} {ds : List PyData} : SqL K H a xs → DpAll K H xs ds → Dp K H (.ref a) (.list ds)
  | tup {a : Addr} {xs : List V} {ds : List PyData} : SqT K H a xs → DpAll K H xs ds → Dp K H (.ref a) (.tuple ds)
inductive DpAll (K : PySem.W.Frag) (H : Hp) : List V → List PyData → Prop
  | nil : DpAll K H [] []
  | cons {v : V} {vs : List V} {d : PyData} {ds : List PyData} : Dp K H v d → DpAll K H vs ds → DpAll K H (v :: vs) (d :: ds)
end
section
variable {X : Cx} {pins : List (Addr × Obj)} {σ : St} {H : Hp} {s : Shared}
mutual
theorem Dp.reads (I : Inv X pins σ H s) : ∀ (d : PyData) (v : V) (u : Value), Dp X.K H v d → RelV v u → ∃ as, Reads s.heap u d as
  | .none, _, _, h, r => by
    cases h
    cases r
    exact ⟨_, Reads.none⟩
  | .bool b, _, _, h, r => by
    cases h
    cases r
    exact ⟨_, Reads.bool b⟩
  | .int i, _, _, h, r => by
    cases h
    obtain ⟨t, rfl⟩ := r
    exact ⟨_, Reads.int i t⟩
  | .str x, _, _, h, r => by
    cases h
    obtain ⟨t, rfl⟩ := r
    exact ⟨_, Reads.str x t⟩
  | .list ds, _, _, h, r => by
    cases h with
    | lst hs ha =>
      cases r
      obtain ⟨its, rv, ⟨o, n, ho, hc, _, hd⟩, _⟩ := I.list hs
      obtain ⟨as, hr⟩ := Dp.readsAll I ds _ its ha rv
      exact ⟨_, Reads.list ho hc hd hr⟩
  | .tuple ds, _, _, h, r => by
    cases h with
    | tup hs ha =>
      cases r
      obtain ⟨its, rv, ⟨o, ho, hc, n, hd⟩, _⟩ := I.tuple hs
      obtain ⟨as, hr⟩ := Dp.readsAll I ds _ its ha rv
      exact ⟨_, Reads.tuple ho hc hd hr⟩
  | .dict _, _, _, h, _ => by cases h
theorem Dp.readsAll (I : Inv X pins σ H s) : ∀ (ds : List PyData) (vs : List V) (us : List Value), DpAll X.K H vs ds → Vals vs us → ∃ as, ReadsAll s.heap us ds as
  | [], _, _, h, r => by
    cases h
    cases r
    exact ⟨_, ReadsAll.nil⟩
  | d :: ds, _, _, h, r => by
    cases h with
    | cons h1 h2 =>
      cases r with
      | cons r1 r2 =>
        obtain ⟨as, q1⟩ := Dp.reads I d _ _ h1 r1
        obtain ⟨bs, q2⟩ := Dp.readsAll I ds _ _ h2 r2
        exact ⟨_, ReadsAll.cons q1 q2⟩
end
end
section
variable {X : Cx}
def rEqD (K : PySem.W.Frag) : R2 := fun x y H Q => ∃ d e, Dp K H x d ∧ Dp K H y e ∧ SeqAt.shaped d = true ∧ SeqAt.shaped e = true ∧ Q (.bl (PyData.eqv d e)) H
def rNeD (K : PySem.W.Frag) : R2 := fun x y H Q => ∃ d e, Dp K H x d ∧ Dp K H y e ∧ SeqAt.shaped d = true ∧ SeqAt.shaped e = true ∧ Q (.bl (!PyData.eqv d e)) H
theorem op_eqD (hu : X.A.units + 64 < cLine) : OpR X (compareOp .Eq) (rEqD X.K) := by
  intro pins s σ H x y v u Q I rx ry h
  obtain ⟨d, e, hd, he, sd, se, q⟩ := h
  obtain ⟨as, r1⟩ := Dp.reads I d x v hd rx
  obtain ⟨bs, r2⟩ := Dp.reads I e y u he ry
  exact SeqAt.compareEq_shaped r1 r2 sd se hu ⟨.bl _, H, I, rfl, q⟩
theorem op_neD (hu : X.A.units + 64 < cLine) : OpR X (compareOp .NotEq) (rNeD X.K) := by
  intro pins s σ H x y v u Q I rx ry h
  obtain ⟨d, e, hd, he, sd, se, q⟩ := h
  obtain ⟨as, r1⟩ := Dp.reads I d x v hd rx
  obtain ⟨bs, r2⟩ := Dp.reads I e y u he ry
  exact SeqAt.compareNe_shaped r1 r2 sd se hu ⟨.bl _, H, I, rfl, q⟩
end
end L2

namespace L2
open PySem PySem.Spec PyProof.Rows
abbrev CellAt (h : Heap) (c : Addr) (v : Option Value) : Prop := h.IsCell c v
def relS (scope sc : Scope) : Scope :=
  { scope with names := scope.names.map fun (n, k) => if (k == .free && sc.kind == .function && sc.names.lookup n == some .cell) then (n, .cell) else (n, k) }

def cloFrom (cells : List (Str × Addr)) : List (Str × NameKind) → List (Str × Addr) → List (Str × Addr)
  | [], acc => acc
  | (n, k) :: r, acc => if k == .free then cloFrom cells r ((n, (cells.lookup n).getD 0) :: acc) else cloFrom cells r acc

theorem closure_loop (env : Env) (f : Str × NameKind → List (Str × Addr) → Sem (ForInStep (List (Str × Addr))))
    (hf : ∀ n k c, f (n, k) c = if k == .free then (do let a ← cellOf env n; pure (.yield ((n, a) :: c))) else pure (.yield c)) :
    ∀ (names : List (Str × NameKind)) (acc : List (Str × Addr)), (∀ y ∈ names, y.2 = .free → ∃ c, env.cells.lookup y.1 = some c) → forIn names acc f = pure (cloFrom env.cells names acc)
  | [], acc, _ => by rw [List.forIn_nil]; rfl
  | (n, k) :: r, acc, h => by
    rw [List.forIn_cons, hf]
    have ih := fun acc => closure_loop env f hf r acc fun y hy => h y (List.mem_cons_of_mem _ hy)
    unfold cloFrom
    by_cases hk : (k == NameKind.free) = true
    · rw [if_pos hk, if_pos hk]
      obtain ⟨c, hc⟩ := h (n, k) List.mem_cons_self (by simpa using hk)
      have e : cellOf env n = pure c := by unfold cellOf; rw [hc]
      rw [e]
      have e2 : (env.cells.lookup n).getD 0 = c := by rw [hc]; rfl
      rw [e2]
      exact ih _
    · rw [if_neg hk, if_neg hk]
      exact ih _
theorem closure_ok {scope : Scope} {env : Env} (h : ∀ y ∈ scope.names, y.2 = .free → ∃ c, env.cells.lookup y.1 = some c) : closureFor scope env = pure (cloFrom env.cells scope.names []) := by
  simp only [closureFor]
  rw [closure_loop env _ (fun n k c => rfl) scope.names [] h]
  rfl

theorem mem_lookup {α : Type} : ∀ {l : List (Str × α)} {n : Str} {c : α}, (n, c) ∈ l → ∃ c', l.lookup n = some c'
  | (k, v) :: r, n, c, h => by
    rw [List.lookup_cons]
    cases hb : n == k with
    | true => exact ⟨_, rfl⟩
    | false =>
      rcases List.mem_cons.mp h with e | h
      · cases e; simp at hb
      · exact mem_lookup h

theorem cloFrom_mem {cells : List (Str × Addr)} : ∀ {names : List (Str × NameKind)} {acc : List (Str × Addr)} {n : Str} {c : Addr}, (n, c) ∈ cloFrom cells names acc → (n, c) ∈ acc ∨ ((n, .free) ∈ names ∧ c = (cells.lookup n).getD 0)
  | [], _, _, _, h => .inl h
  | (m, k) :: r, acc, n, c, h => by
    unfold cloFrom at h
    split at h
    · rename_i hk
      have hk : k = .free := by simpa using hk
      rcases cloFrom_mem h with h | ⟨h1, h2⟩
      · rcases List.mem_cons.mp h with e | h
        · cases e; exact .inr ⟨hk ▸ List.mem_cons_self, rfl⟩
        · exact .inl h
      · exact .inr ⟨List.mem_cons_of_mem _ h1, h2⟩
    · rcases cloFrom_mem h with h | ⟨h1, h2⟩
      · exact .inl h
      · exact .inr ⟨List.mem_cons_of_mem _ h1, h2⟩
theorem cloFrom_acc {cells : List (Str × Addr)} : ∀ {names : List (Str × NameKind)} {acc : List (Str × Addr)} {p : Str × Addr}, p ∈ acc → p ∈ cloFrom cells names acc
  | [], _, _, h => h
  | (m, k) :: r, acc, p, h => by
    unfold cloFrom
    split
    · exact cloFrom_acc (List.mem_cons_of_mem _ h)
    · exact cloFrom_acc h
theorem cloFrom_has {cells : List (Str × Addr)} : ∀ {names : List (Str × NameKind)} {acc : List (Str × Addr)} {n : Str}, (n, .free) ∈ names → (n, (cells.lookup n).getD 0) ∈ cloFrom cells names acc
  | (m, k) :: r, acc, n, h => by
    unfold cloFrom
    rcases List.mem_cons.mp h with e | h
    · cases e
      exact cloFrom_acc List.mem_cons_self
    · split
      · exact cloFrom_has h
      · exact cloFrom_has h

theorem cells_mem : ∀ {names : List (Str × NameKind)} {h : Heap} {acc : List (Str × Addr)} {x : Str} {c : Addr}, (x, c) ∈ cellsFrom h.objs.size names acc →
    (x, c) ∈ acc ∨ ((x, .cell) ∈ names ∧ h.objs.size ≤ c ∧ CellAt (pushCells h names) c none)
  | [], _, _, _, _, h => .inl h
  | (n, k) :: r, h, acc, x, c, hm => by
    unfold cellsFrom at hm
    unfold pushCells
    split at hm
    · rename_i hk
      rw [if_pos hk]
      have hk : k = .cell := by simpa using hk
      rw [← Heap.size_push h { cls := .type "cell", data := .cell none }] at hm
      rcases cells_mem hm with hm | ⟨h1, h2, h3⟩
      · rcases List.mem_cons.mp hm with e | hm
        · cases e
          exact .inr ⟨hk ▸ List.mem_cons_self, Nat.le_refl _, _, pushCells_keeps r _ _ _ (Heap.get?_push_size _ rfl), rfl⟩
        · exact .inl hm
      · rw [Heap.size_push] at h2
        exact .inr ⟨List.mem_cons_of_mem _ h1, Nat.le_of_succ_le h2, h3⟩
    · rename_i hk
      rw [if_neg hk]
      rcases cells_mem hm with hm | ⟨h1, h2, h3⟩
      · exact .inl hm
      · exact .inr ⟨List.mem_cons_of_mem _ h1, h2, h3⟩
theorem cells_acc : ∀ {names : List (Str × NameKind)} {n : Nat} {acc : List (Str × Addr)} {p : Str × Addr}, p ∈ acc → p ∈ cellsFrom n names acc
  | [], _, _, _, h => h
  | (m, k) :: r, n, acc, p, h => by
    unfold cellsFrom
    split
    · exact cells_acc (List.mem_cons_of_mem _ h)
    · exact cells_acc h
theorem cells_has : ∀ {names : List (Str × NameKind)} {n : Nat} {acc : List (Str × Addr)} {x : Str}, (x, .cell) ∈ names → ∃ c, (x, c) ∈ cellsFrom n names acc
  | (m, k) :: r, n, acc, x, h => by
    unfold cellsFrom
    rcases List.mem_cons.mp h with e | h
    · cases e
      exact ⟨n, cells_acc List.mem_cons_self⟩
    · split
      · exact cells_has h
      · exact cells_has h
theorem cells_inj : ∀ {names : List (Str × NameKind)} {h : Heap} {acc : List (Str × Addr)} {x y : Str} {c : Addr}, (∀ p ∈ acc, p.2 < h.objs.size) → (∀ x y c, (x, c) ∈ acc → (y, c) ∈ acc → x = y) →
    (x, c) ∈ cellsFrom h.objs.size names acc → (y, c) ∈ cellsFrom h.objs.size names acc → x = y
  | [], _, _, _, _, _, _, hi, h1, h2 => hi _ _ _ h1 h2
  | (n, k) :: r, h, acc, x, y, c, hl, hi, h1, h2 => by
    unfold cellsFrom at h1 h2
    split at h1
    · rename_i hk
      rw [if_pos hk] at h2
      rw [← Heap.size_push h { cls := .type "cell", data := .cell none }] at h1 h2
      refine cells_inj (h := h.push _) (fun p hp => ?_) (fun x y c a b => ?_) h1 h2
      · rw [Heap.size_push]
        rcases List.mem_cons.mp hp with rfl | hp
        · exact Nat.lt_succ_self _
        · exact Nat.lt_succ_of_lt (hl p hp)
      · rcases List.mem_cons.mp a with e | a <;> rcases List.mem_cons.mp b with e' | b
        · cases e; cases e'; rfl
        · cases e; exact absurd (hl _ b) (Nat.lt_irrefl _)
        · cases e'; exact absurd (hl _ a) (Nat.lt_irrefl _)
        · exact hi _ _ _ a b
    · rename_i hk
      rw [if_neg hk] at h2
      exact cells_inj hl hi h1 h2

theorem newEnv_comp {M : Model} {A : Around} {E : Value → Shared → Prop} {s : Shared} {scope : Scope} {globals : Addr} {closure : List (Str × Addr)} {qual : Str} {func : Option Addr} {code : Value} {around : Env} {builtins : Addr} {Q : Env → Shared → Prop}
    (h : Q (newEnv scope s.heap.objs.size globals (cellsFrom (s.heap.objs.size + 1) scope.names closure) qual func code (some around) builtins)
      { s with heap := pushCells (s.heap.push { cls := .type "dict", data := .dict #[] }) scope.names }) :
    wpAny M A (newFunctionEnv scope globals closure [] qual func code (some around) builtins) Q E s := by
  simp only [newFunctionEnv, Option.isSome_some, if_true]
  refine wpAny_bind (wpAny_alloc ?_)
  refine wpAny_bind (wpAny_layCells _ (fun n k c => rfl) scope.names closure _ _ ?_)
  rw [show ({ s with heap := s.heap.push { cls := .type "dict", data := .dict #[] } } : Shared).heap.objs.size = s.heap.objs.size + 1 from Heap.size_push ..]
  rw [List.forIn_nil]
  exact wpAny_bind (wpAny_pure (wpAny_pure h))

/-- every name of the written scope, in the scope that runs -/
theorem lookup_relS {sc : Scope} : ∀ {names : List (Str × NameKind)} {x : Str} {k : NameKind},
    (names.map fun (n, k) => if (k == NameKind.free && sc.kind == .function && sc.names.lookup n == some .cell) then (n, NameKind.cell) else (n, k)).lookup x = some k →
    ∃ k', names.lookup x = some k' ∧ (k = k' ∨ (k' = .free ∧ k = .cell))
  | [], _, _, h => by simp at h
  | (n, k₀) :: r, x, k, h => by
    have ih := @lookup_relS sc r x k
    have h' : List.lookup x ((if (k₀ == NameKind.free && sc.kind == .function && sc.names.lookup n == some .cell) = true then (n, NameKind.cell) else (n, k₀)) :: (r.map _)) = some k := h
    cases hx : x == n with
    | true =>
      simp only [List.lookup_cons, hx]
      by_cases hc : (k₀ == NameKind.free && sc.kind == .function && sc.names.lookup n == some .cell) = true
      · rw [if_pos hc] at h'
        simp only [List.lookup_cons, hx] at h'
        cases h'
        simp only [Bool.and_eq_true, beq_iff_eq] at hc
        exact ⟨k₀, rfl, .inr ⟨hc.1.1, rfl⟩⟩
      · rw [if_neg hc] at h'
        simp only [List.lookup_cons, hx] at h'
        cases h'
        exact ⟨_, rfl, .inl rfl⟩
    | false =>
      simp only [List.lookup_cons, hx]
      by_cases hc : (k₀ == NameKind.free && sc.kind == .function && sc.names.lookup n == some .cell) = true
      · rw [if_pos hc] at h'
        simp only [List.lookup_cons, hx] at h'
        exact ih h'
      · rw [if_neg hc] at h'
        simp only [List.lookup_cons, hx] at h'
        exact ih h'
theorem lookup_relS_keep {sc : Scope} : ∀ {names : List (Str × NameKind)} {x : Str} {k : NameKind}, k ≠ .free → names.lookup x = some k →
    (names.map fun (n, k) => if (k == NameKind.free && sc.kind == .function && sc.names.lookup n == some .cell) then (n, NameKind.cell) else (n, k)).lookup x = some k
  | [], _, _, _, h => by simp at h
  | (n, k₀) :: r, x, k, hk, h => by
    have ih := @lookup_relS_keep sc r x k hk
    show List.lookup x ((if (k₀ == NameKind.free && sc.kind == .function && sc.names.lookup n == some .cell) = true then (n, NameKind.cell) else (n, k₀)) :: (r.map _)) = some k
    cases hx : x == n with
    | true =>
      simp only [List.lookup_cons, hx] at h
      cases h
      have : ¬ (k₀ == NameKind.free && sc.kind == .function && sc.names.lookup n == some .cell) = true := by simp [hk]
      rw [if_neg this]
      simp only [List.lookup_cons, hx]
    | false =>
      simp only [List.lookup_cons, hx] at h
      by_cases hc : (k₀ == NameKind.free && sc.kind == .function && sc.names.lookup n == some .cell) = true
      · rw [if_pos hc]; simp only [List.lookup_cons, hx]; exact ih h
      · rw [if_neg hc]; simp only [List.lookup_cons, hx]; exact ih h

theorem pushCells_size : ∀ (names : List (Str × NameKind)) (h : Heap), h.objs.size ≤ (pushCells h names).objs.size
  | [], _ => Nat.le_refl _
  | (_, k) :: r, h => by
    unfold pushCells
    split
    · refine Nat.le_trans ?_ (pushCells_size r _)
      rw [Heap.size_push]; exact Nat.le_succ _
    · exact pushCells_size r h


/-- the names of a comprehension's block: its own (with their places in N), or captured -/
structure BlkOk (N : List Str) (sc scope : Scope) (own : List (Str × Nat)) : Prop where
  kind : scope.kind = .function
  uniq : ∀ y ∈ scope.names, scope.names.lookup y.1 = some y.2
  ix : ∀ p ∈ own, N[p.2]? = some p.1
  free : ∀ y ∈ scope.names, y.2 = .free → sc.names.lookup y.1 = some .cell ∨ sc.names.lookup y.1 = some .free
  own : ∀ y ∈ scope.names, y.2 = .local ∨ y.2 = .cell → y.1 ∈ own.map (·.1) ∨ y.1 ∉ N
/-- the slots of the block's own names forgotten -/
def wipe (σ : St) : List Nat → St
  | [] => σ
  | v :: vs => (wipe σ vs).set v none
theorem wipe_length (σ : St) : ∀ vs : List Nat, (wipe σ vs).length = σ.length
  | [] => rfl
  | v :: vs => by unfold wipe; rw [List.length_set, wipe_length σ vs]
theorem wipe_some {σ : St} {i : Nat} {x : V} : ∀ {vs : List Nat}, (wipe σ vs)[i]? = some (some x) → σ[i]? = some (some x) ∧ i ∉ vs
  | [], h => ⟨h, by simp⟩
  | v :: vs, h => by
    unfold wipe at h
    by_cases hi : v = i
    · subst hi
      by_cases hv : v < (wipe σ vs).length
      · rw [List.getElem?_set_self hv] at h; cases h
      · rw [List.getElem?_eq_none (by simpa using hv)] at h; cases h
    · rw [List.getElem?_set_ne hi] at h
      obtain ⟨h1, h2⟩ := wipe_some h
      exact ⟨h1, by simp only [List.mem_cons, not_or]; exact ⟨fun e => hi e.symm, h2⟩⟩

/-- the context of a block that starts at s, its iterator's objects at fp -/
abbrev Cx.blk (X : Cx) (s : Shared) (H : Hp) (scope : Scope) (cenv : Env) (fp : List Addr) : Cx := { X with s_0 := s, H_0 := H, env := cenv, outer := X.stack, ex := fp, fn := fun x => scope.names.lookup x == some .cell, pn := [], xe := fun _ _ => False }
section
variable {X : Cx} {pins : List (Addr × Obj)} {σ : St} {H : Hp} {s : Shared}
theorem block_start {scope : Scope} {own : List (Str × Nat)} {fp : List Addr} (I : Inv X pins σ H s) (ok : BlkOk X.N X.env.scope scope own) (hN : X.N.Nodup) (hfp : ∀ b ∈ fp, FpOk X pins H b ∧ b < s.heap.objs.size) :
    Inv (X.blk s H scope (compEnvC scope (cellsFrom (s.heap.objs.size + 1) scope.names (cloFrom X.env.cells scope.names [])) s.heap.objs.size X.env) fp) [] (wipe σ (own.map (·.2))) H { s with heap := pushCells (s.heap.push { cls := .type "dict", data := .dict #[] }) scope.names } := by
  have hfree : ∀ y ∈ scope.names, y.2 = .free → ∃ c, X.env.cells.lookup y.1 = some c := fun y hy e => by
    rcases ok.free y hy e with k | k
    · exact I.ok.has _ (.inl k)
    · exact I.ok.has _ (.inr k)
  generalize hcenv : compEnvC scope (cellsFrom (s.heap.objs.size + 1) scope.names (cloFrom X.env.cells scope.names [])) s.heap.objs.size X.env = cenv
  have kp : ∀ b o, s.heap.get? b = some o → (pushCells (s.heap.push { cls := .type "dict", data := .dict #[] }) scope.names).get? b = some o := fun b o e => pushCells_keeps _ _ _ _ (Heap.get?_push_of_some _ e)
  have hL : cenv.locals = s.heap.objs.size := by rw [← hcenv]; rfl
  have hcl : cenv.cells = cellsFrom (s.heap.objs.size + 1) scope.names (cloFrom X.env.cells scope.names []) := by rw [← hcenv]; rfl
  have hsc : cenv.scope = relS scope X.env.scope := by rw [← hcenv]; rfl
  rw [← Heap.size_push s.heap { cls := .type "dict", data := .dict #[] }] at hcl
  have cm : ∀ {y c}, (y, c) ∈ cloFrom X.env.cells scope.names [] → X.env.cells.lookup y = some c ∧ c < s.heap.objs.size := fun {y c} hm => by
    rcases cloFrom_mem hm with hm | ⟨h1, rfl⟩
    · cases hm
    · obtain ⟨c, hc⟩ := hfree _ h1 rfl
      rw [hc]
      obtain ⟨w, z⟩ := I.cell _ _ hc
      exact ⟨rfl, z.lt⟩
  have mem : ∀ {y c}, cenv.cells.lookup y = some c → (X.env.cells.lookup y = some c ∧ c < s.heap.objs.size) ∨ (s.heap.objs.size + 1 ≤ c ∧ CellAt (pushCells (s.heap.push { cls := .type "dict", data := .dict #[] }) scope.names) c none) := fun {y c} e => by
    rw [hcl] at e
    rcases cells_mem (PySem.mem_of_lookup e) with hm | ⟨_, h2, h3⟩
    · exact .inl (cm hm)
    · rw [Heap.size_push] at h2; exact .inr ⟨h2, h3⟩
  have look : ∀ {y}, scope.names.lookup y = some .free → ∃ c, cenv.cells.lookup y = some c ∧ X.env.cells.lookup y = some c := fun {y} hl => by
    have hy : (y, NameKind.free) ∈ scope.names := PySem.mem_of_lookup hl
    obtain ⟨c', e'⟩ := mem_lookup (cells_acc (names := scope.names) (n := (s.heap.push { cls := .type "dict", data := .dict #[] }).objs.size) (cloFrom_has (cells := X.env.cells) (acc := []) hy))
    rw [← hcl] at e'
    refine ⟨c', e', ?_⟩
    rw [hcl] at e'
    rcases cells_mem (PySem.mem_of_lookup e') with hm | ⟨h1, _, _⟩
    · exact (cm hm).1
    · have := ok.uniq _ h1
      rw [hl] at this; cases this
  have okB : (X.blk s H scope cenv fp).Ok := by
    refine ⟨I.ok.mod, by show cenv.scope.kind = _; rw [hsc]; exact ok.kind, by show cenv.globals = _; rw [← hcenv]; exact I.ok.glob, by show cenv.builtins = _; rw [← hcenv]; exact I.ok.blt, by show s.heap.objs.size ≤ cenv.locals; rw [hL]; exact Nat.le_refl _,
      fun y z c e1 e2 => ?_, fun y hy => ?_, fun y c z e => ?_, I.ok.hd, I.ok.frames, .inl rfl, fun b hb => ⟨?_, fun y c e z => ?_⟩, I.bs, Nat.le_trans I.ok.bsz I.sz, fun b o e hb => ?_, fun b hb z => ?_, I.stack, I.stkFree⟩
    · have e1 : cenv.cells.lookup y = some c := e1
      have e2 : cenv.cells.lookup z = some c := e2
      rw [hcl] at e1 e2
      refine cells_inj (fun p hp => ?_) (fun y z c a b => I.ok.inj y z c (cm a).1 (cm b).1) (PySem.mem_of_lookup e1) (PySem.mem_of_lookup e2)
      rw [Heap.size_push]
      exact Nat.lt_succ_of_lt (cm (y := p.1) (c := p.2) hp).2
    · show ∃ c, cenv.cells.lookup y = some c
      have key : ∀ k, cenv.kindOf y = some k → (k = .cell ∨ k = .free) → ∃ c, cenv.cells.lookup y = some c := fun k hk hk' => by
        unfold Env.kindOf at hk
        rw [hsc] at hk
        obtain ⟨k', e, r⟩ := lookup_relS hk
        have : k' = .cell ∨ k' = .free := by
          rcases r with rfl | ⟨rfl, _⟩
          · exact hk'
          · exact .inr rfl
        rcases this with rfl | rfl
        · obtain ⟨c, hm⟩ := cells_has (n := (s.heap.push { cls := .type "dict", data := .dict #[] }).objs.size) (acc := cloFrom X.env.cells scope.names []) (PySem.mem_of_lookup e)
          obtain ⟨c', e'⟩ := mem_lookup hm
          exact ⟨c', by rw [hcl]; exact e'⟩
        · obtain ⟨c, h1, _⟩ := look e
          exact ⟨c, h1⟩
      rcases hy with hy | hy
      · exact key _ hy (.inl rfl)
      · exact key _ hy (.inr rfl)
    · have z : (scope.names.lookup y == some NameKind.cell) = true := z
      have z : scope.names.lookup y = some .cell := by simpa using z
      have e : cenv.cells.lookup y = some c := e
      rw [hcl] at e
      rcases cells_mem (PySem.mem_of_lookup e) with hm | ⟨_, h2, _⟩
      · rcases cloFrom_mem hm with hm | ⟨h1, _⟩
        · cases hm
        · have q := ok.uniq _ h1
          rw [z] at q; cases q
      · rw [Heap.size_push] at h2
        exact Nat.le_of_succ_le h2
    · show b ≠ cenv.locals
      rw [hL]; exact Nat.ne_of_lt (hfp b hb).2
    · have e : cenv.cells.lookup y = some c := e
      rcases mem e with ⟨h1, _⟩ | ⟨h1, _⟩
      · exact (hfp b hb).1.2.2.2.2.1 y c h1 z
      · have h2 : s.heap.objs.size + 1 ≤ b := by rw [← z]; exact h1
        exact absurd (Nat.lt_of_lt_of_le (hfp b hb).2 (Nat.le_of_succ_le h2)) (Nat.lt_irrefl _)
    · rcases (hfp b hb).1.2.2.2.1 with z | z
      · exact I.ok.noex b o e z
      · exact absurd (Nat.lt_of_lt_of_le (Heap.lt_size e) (Nat.le_trans I.ok.bsz z)) (Nat.lt_irrefl _)
    · rcases List.mem_cons.mp (I.stkSub b z) with z | z
      · exact (hfp b hb).1.2.1 z
      · exact (hfp b hb).1.2.2.1 z
  refine ⟨okB, rfl, I.bare, Un.kept kp, ⟨fun _ => none, ?_, fun i y av e1 e2 e3 => ?_⟩, fun y c e => ?_, ?_, fun y c e => ?_, fun p hp => ?_, I.hok.kept kp, by rw [wipe_length]; exact I.len⟩
  · show Heap.Ns _ cenv.locals _
    rw [hL]
    exact Heap.Ns.keeps (Heap.Ns.new ..) fun b o e => pushCells_keeps _ _ _ _ e
  · obtain ⟨e2, hne⟩ := wipe_some e2
    have hfr : scope.names.lookup y = some .free ∧ (cenv.kindOf y = some .cell ∨ cenv.kindOf y = some .free) := by
      have key : ∀ k, cenv.scope.names.lookup y = some k → k = .local ∨ k = .cell ∨ k = .free → scope.names.lookup y = some .free ∧ (cenv.kindOf y = some .cell ∨ cenv.kindOf y = some .free) := fun k hk hk' => by
        have hk0 := hk
        rw [hsc] at hk
        obtain ⟨k', e, r⟩ := lookup_relS hk
        have no : ¬ (k' = .local ∨ k' = .cell) := fun hh => by
          rcases ok.own _ (PySem.mem_of_lookup e) hh with e' | e'
          · obtain ⟨p, hp, hpy⟩ := List.mem_map.mp e'
            have e3 := ok.ix p hp
            have : p.1 = y := hpy
            rw [this] at e3
            exact hne (List.mem_map.mpr ⟨p, hp, nodup_ix hN e3 e1⟩)
          · exact e' (List.mem_of_getElem? e1)
        rcases r with rfl | ⟨rfl, rfl⟩
        · rcases hk' with rfl | rfl | rfl
          · exact absurd (.inl rfl) no
          · exact absurd (.inr rfl) no
          · exact ⟨e, .inr hk0⟩
        · exact ⟨e, .inl hk0⟩
      have e3 : Vis cenv.scope y := e3
      rcases e3 with e3 | e3 | e3
      · exact key _ e3 (.inl rfl)
      · exact key _ e3 (.inr (.inl rfl))
      · exact key _ e3 (.inr (.inr rfl))
    obtain ⟨m, hn, hl⟩ := I.loc
    have hvis : Vis X.env.scope y := (ok.free _ (PySem.mem_of_lookup hfr.1) rfl).elim (fun k => .inr (.inl k)) (fun k => .inr (.inr k))
    obtain ⟨w, r, q⟩ := hl i y av e1 e2 hvis
    refine ⟨w, r, .inr ⟨hfr.2, ?_⟩⟩
    obtain ⟨c, h1, h2⟩ := look hfr.1
    rcases q with ⟨k, _⟩ | ⟨_, c', e', z⟩
    · have k : X.env.scope.names.lookup y = some .local := k
      rcases ok.free _ (PySem.mem_of_lookup hfr.1) rfl with k' | k' <;> rw [show X.env.scope.names.lookup y = _ from k'] at k <;> cases k
    · rw [h2] at e'; cases e'
      exact ⟨c, h1, z.keeps kp⟩
  · have e : cenv.cells.lookup y = some c := e
    rcases mem e with ⟨h1, _⟩ | ⟨_, z⟩
    · obtain ⟨w, z⟩ := I.cell y c h1
      exact ⟨w, z.keeps kp⟩
    · exact ⟨_, z⟩
  · show H cenv.locals = none
    rw [hL]; exact I.hok.fresh (Nat.le_refl _)
  · have e : cenv.cells.lookup y = some c := e
    rcases mem e with ⟨h1, _⟩ | ⟨h1, _⟩
    · exact I.freeC y c h1
    · exact I.hok.fresh (Nat.le_of_succ_le h1)
  · exact absurd (show p ∈ ([] : List (Addr × Obj)) ++ [] from hp) (by simp)

/-- an item appended to a tracked list -/
theorem app_ok {E : Value → Shared → Prop} {D : Addr} {xs : List V} {y : V} {v : Value} {Q : Value → Shared → Prop} (I : Inv X pins σ H s) (hD : H D = some (.lst xs)) (hz : xs.length < sizeLine) (r : RelV y v)
    (h : ∀ s', Inv X pins σ (upd H D (.lst (xs ++ [y]))) s' → Q .none s') : wpAny (model X.prog X.w) X.A (call (.builtin "list.append") [.ref D, v]) Q E s := by
  obtain ⟨hz', its, n, ri, e⟩ := I.hok D _ hD
  have hl := ri.length
  refine append_at (hsz := by rw [List.size_toArray]; omega) e fun h' sb ho' => ?_
  refine h { s with heap := h' } (I.write (t' := s.toks) (by rw [hD]; trivial) (.inl rfl) (fun b u hb q => (sb.2 b hb).trans q) ⟨_, ho'⟩ ⟨by rw [List.length_append]; exact hz, its ++ [v], n + 1, ri.append (.cons r .nil), ?_⟩)
  rw [ho']
  simp

/-- a clause's tests -/
def PTs (X : Cx) (ifs : List Expr) (t : TT) : Prop :=
  ∀ (pins : List (Addr × Obj)) (s : Shared) (σ : St) (H : Hp) (Q : Bool → Hp → Prop), Inv X pins σ H s → t σ H Q →
    wpAny (model X.prog X.w) X.A (forIn ifs true fun c r => if r = true then do let ok ← isTrue c X.env (eval c X.env); pure (ForInStep.yield ok) else pure (ForInStep.yield r)) (TP X pins σ Q) X.xe s
def tYes : TT := fun _ H Q => Q true H
theorem pts_nil : PTs X [] tYes := fun _ _ _ H _ I h => wpAny_tests_nil ⟨H, I, h⟩
theorem pts_one {c : Expr} {t : TT} (h : PT X c t) : PTs X [c] t := fun pins s σ H Q I hw => wpAny_tests_one (h pins s σ H Q I hw)
end

theorem thnF {α : Type} {t : Sem α} {Q Q' : α → Shared → Prop} {M : Model} {A : Around} {E : Value → Shared → Prop} {s : Shared} (h : wpAny M A t Q (fun _ _ => False) s) (hQ : ∀ a s, Q a s → Q' a s) : wpAny M A t Q' E s := wpAny_mono h hQ fun _ _ z => False.elim z

/-- the loop of a list comprehension's block, the target of any form (codeAny_compLoop_tests asks a target that no tuple goes to; statement and proof follow it, PyProof/CompMap.lean:41-61, with the step letOwnedTupleGo kept) -/
theorem compLoop_any {prog : Program} {w : World} {A : Around} {R : Result → Shared → Prop} {s : Shared} {elt target iter : Expr} {ifs : List Expr} {scope : Scope} {pos : Pos} {it acc : Value} {env : Env} (I : Nat → Shared → Prop)
    (turn : ∀ n s, I n s → wpAny (model prog w) A (pyNext it) (fun r s₁ => match r with
      | none => R (.ok .next) s₁
      | some v => wpAny (model prog w) A (letOwnedTupleGo target it v) (fun _ s₁' => wpAny (model prog w) A (assign target env v) (fun _ s₂ =>
          wpAny (model prog w) A (forIn ifs true fun c r => if r = true then do let ok ← isTrue c env (eval c env); pure (ForInStep.yield ok) else pure (ForInStep.yield r)) (fun ok s₃ =>
            if ok = true then wpAny (model prog w) A (eval elt env) (fun x s₄ =>
              wpAny (model prog w) A (call (.builtin "list.append") [acc, x]) (fun _ s₅ => ∃ m, m < n ∧ I m s₅) (notedBy (model prog w) A env fun e s' => R (.error e) s') s₄) (notedBy (model prog w) A env fun e s' => R (.error e) s') s₃
            else ∃ m, m < n ∧ I m s₃) (notedBy (model prog w) A env fun e s' => R (.error e) s') s₂) (notedBy (model prog w) A env fun e s' => R (.error e) s') s₁') (notedBy (model prog w) A env fun e s' => R (.error e) s') s₁) (notedBy (model prog w) A env fun e s' => R (.error e) s') s)
    (n : Nat) (h : I n s) :
    codeAny (model prog w) A (.compLoop (.ListComp elt [⟨target, iter, ifs, 0⟩] scope pos) 0 it acc env) R s := by
  refine codeAny_loop rfl I (fun n s hI => ?_) n h
  show wpAny _ A ((compTurn (.ListComp elt [⟨target, iter, ifs, 0⟩] scope pos) 0 it acc env).onRaise (fun x => do noteFrame x env; theTreesLotGoes x)) _ _ s
  refine wpAny_noted ?_
  rw [compTurn_list]
  refine wpAny_bind (wpAny_standAt (wpAny_bind (wpAny_mono (turn n s hI) (fun r s₁ h₁ => ?_) fun _ _ h' => h')))
  cases r with
  | none => exact wpAny_pure h₁
  | some v =>
    refine wpAny_bind (wpAny_mono h₁ (fun _ s₁' h₁' => ?_) fun _ _ h' => h')
    refine wpAny_bind (wpAny_mono h₁' (fun _ s₂ h₂ => wpAny_bind (wpAny_mono h₂ (fun ok s₃ h₃ => ?_) fun _ _ h' => h')) fun _ _ h' => h')
    cases ok with
    | false => exact wpAny_pure ⟨rfl, h₃⟩
    | true =>
      exact wpAny_bind (wpAny_bind (wpAny_mono h₃ (fun x s₄ h₄ => wpAny_bind (wpAny_mono h₄ (fun _ s₅ h₅ => wpAny_pure (wpAny_pure ⟨rfl, h₅⟩)) fun _ _ h' => h')) fun _ _ h' => h'))

section
variable {X : Cx}
/-- [elt for target in iter if ..]: D the new list; W by the turn and a measure, Nx what a turn is to reach -/
def tLc (wi : TI) (g : TG) (tt : TT) (te : TE) (vs : List Nat) : TE := fun σ H Q => wi σ H fun J H1 => ∀ D, H1 D = none → ∃ W : Nat → Nat → Hp → Prop, (∃ m, W 0 m (upd H1 D (.lst []))) ∧ ∀ i m H, W i m H →
  (J.stop i H ∧ Q (.ref D) H) ∨ (J.go i H ∧ ∃ Nx : Hp → Prop, (∀ H', Nx H' → ∃ m', m' < m ∧ W (i + 1) m' H') ∧ ∀ x H', J.yld i H x H' → g x (wipe σ vs) H' fun σ2 H2 => wipe σ2 vs = wipe σ vs ∧ tt σ2 H2 fun b H3 =>
    if b = true then te σ2 H3 fun y H4 => ∃ acc, H4 D = some (.lst acc) ∧ acc.length < sizeLine ∧ Nx (upd H4 D (.lst (acc ++ [y]))) else Nx H3)
theorem lc_core {pins : List (Addr × Obj)} {s : Shared} {σ : St} {H : Hp} {Q : VK} {elt tg iter : Expr} {ifs : List Expr} {scope : Scope} {own : List (Str × Nat)} {pos pos' : Pos} {wi : TI} {g : TG} {tt : TT} {te : TE} {use : Option (Value → Sem Unit)} {Qf : Value → Shared → Prop}
    (hc : X.calm = true) (hN : X.N.Nodup) (I : Inv X pins σ H s) (hi : PI X tg iter wi) (ok : BlkOk X.N X.env.scope scope own)
    (hg : ∀ (s : Shared) (H : Hp) (C : Addr) (cl : List (Str × Addr)) (fp : List Addr), PG (X.blk s H scope (compEnvC scope cl C X.env) fp) tg g) (ht : ∀ (s : Shared) (H : Hp) (C : Addr) (cl : List (Str × Addr)) (fp : List Addr), PTs (X.blk s H scope (compEnvC scope cl C X.env) fp) ifs tt)
    (he : ∀ (s : Shared) (H : Hp) (C : Addr) (cl : List (Str × Addr)) (fp : List Addr), PE (X.blk s H scope (compEnvC scope cl C X.env) fp) elt te) (hs : ∀ x, foldedSetIterable iter X.env x = pure x)
    (h : tLc wi g tt te (own.map (·.2)) σ H Q)
    (hRR : ∀ D C s' m H', Inv X pins σ H' s' → Q (.ref D) H' → s'.heap.Ns C m → FpOk X pins H' C → compPost (model X.prog X.w) X.A X.xe use Qf (.ref D) C (.ok .next) s') :
    wpAny (model X.prog X.w) X.A (comprehension (.ListComp elt [⟨tg, iter, ifs, 0⟩] scope pos) scope X.env pos' (newList []) false (eval iter X.env) use) Qf X.xe s := by
  have hfree : ∀ y ∈ scope.names, y.2 = .free → ∃ c, X.env.cells.lookup y.1 = some c := fun y hy e => by
    rcases ok.free y hy e with k | k
    · exact I.ok.has _ (.inl k)
    · exact I.ok.has _ (.inr k)
  refine wpAny_comprehension_free (use := use) rfl hs (closure_ok hfree) ok.kind (fun y hy e => by rw [ok.uniq y hy, e])
    (thn (hi pins s σ H _ I h) fun xv s1 hx => thn hx fun itv s2 h2 => ?_)
  obtain ⟨it, fp, tn, J, H2, e, I2, T, st2, f2, q⟩ := h2
  subst e
  refine wpAny_newObj_type (newEnv_comp ?_) (by show 0 ≤ sizeLine; decide)
  generalize hD : s2.heap.objs.size = D
  have hDn : H2 D = none := I2.hok.fresh (Nat.le_of_eq hD)
  obtain ⟨W, ⟨m0, w0⟩, turn⟩ := q D hDn
  -- the new list
  generalize hs3 : ({ s2 with heap := s2.heap.push { cls := .type "list", data := .seq ([] : List Value).toArray } } : Shared) = s3
  have I3 : Inv X pins σ (upd H2 D (.lst [])) s3 := by
    rw [← hs3]
    refine I2.laid (t' := s2.toks) (fun b o e => Heap.get?_push_of_some _ e) (Nat.le_of_eq hD) ⟨Nat.zero_le _, [], 0, .nil, ?_⟩
    rw [← hD]
    exact Heap.get?_push_size _ rfl
  have h3 : s3.heap = s2.heap.push { cls := .type "list", data := .seq ([] : List Value).toArray } := by rw [← hs3]
  have sz : ∀ b ∈ fp, b < s2.heap.objs.size := fun b hb => by
    obtain ⟨o, e, _⟩ := T.obj _ _ st2 b hb
    exact Heap.lt_size e
  have f3 : ∀ b ∈ fp, FpOk X pins (upd H2 D (.lst [])) b ∧ b < s3.heap.objs.size := fun b hb => by
    have hlt := sz b hb
    refine ⟨⟨?_, (f2 b hb).2⟩, by rw [h3, Heap.size_push]; exact Nat.lt_succ_of_lt hlt⟩
    rw [upd_ne (by rw [← hD]; exact Nat.ne_of_lt hlt)]
    exact (f2 b hb).1
  have st3 : tn 0 s3.heap := T.keep _ _ _ st2 fun b _ o e => by rw [h3]; exact Heap.get?_push_of_some _ e
  have I4 := block_start I3 ok hN f3
  have pg := hg s3 (upd H2 D (.lst [])) s3.heap.objs.size (cellsFrom (s3.heap.objs.size + 1) scope.names (cloFrom X.env.cells scope.names [])) fp
  have pt := ht s3 (upd H2 D (.lst [])) s3.heap.objs.size (cellsFrom (s3.heap.objs.size + 1) scope.names (cloFrom X.env.cells scope.names [])) fp
  have pe := he s3 (upd H2 D (.lst [])) s3.heap.objs.size (cellsFrom (s3.heap.objs.size + 1) scope.names (cloFrom X.env.cells scope.names [])) fp
  show codeAny _ _ (.compStart (.ListComp elt [⟨tg, iter, ifs, 0⟩] scope pos) 0 (.ref it) (.ref D) (compEnvC scope (cellsFrom (s3.heap.objs.size + 1) scope.names (cloFrom X.env.cells scope.names [])) s3.heap.objs.size X.env)) (compPost (model X.prog X.w) X.A X.xe use Qf (.ref D) s3.heap.objs.size) { s3 with heap := pushCells (s3.heap.push { cls := .type "dict", data := .dict #[] }) scope.names }
  have nfp : ∀ b ∈ fp, (upd H2 D (.lst [])) b = none := fun b hb => (f3 b hb).1.1
  generalize hce : compEnvC scope (cellsFrom (s3.heap.objs.size + 1) scope.names (cloFrom X.env.cells scope.names [])) s3.heap.objs.size X.env = ce at I4 pg pt pe ⊢
  have cL : ce.locals = s3.heap.objs.size := by subst hce; rfl
  generalize hH3 : upd H2 D (.lst []) = H3 at I3 I4 pg pt pe w0 nfp f3
  generalize hs4 : ({ s3 with heap := pushCells (s3.heap.push { cls := .type "dict", data := .dict #[] }) scope.names } : Shared) = s4 at I4 ⊢
  have st4 : tn 0 s4.heap := T.keep _ _ _ st3 fun b _ o e => by rw [← hs4]; exact pushCells_keeps _ _ _ _ (Heap.get?_push_of_some _ e)
  have stat : ∀ {σ' : St} {H' : Hp} {s' : Shared}, Inv (X.blk s3 H3 scope ce fp) [] σ' H' s' → (∀ b ∈ fp, H' b = none) → ∀ b ∈ fp, FpOk (X.blk s3 H3 scope ce fp) [] H' b := fun {σ' H' s'} I' hn b hb =>
    ⟨hn b hb, (I'.ok.exf b hb).1, I'.ok.exfs b hb, .inl hb, fun x c e => (I'.ok.exf b hb).2 x c e, fun p hp => absurd (show p ∈ ([] : List (Addr × Obj)) ++ [] from hp) (by simp)⟩
  have loop : codeAny (model X.prog X.w) X.A (.compLoop (.ListComp elt [⟨tg, iter, ifs, 0⟩] scope pos) 0 (.ref it) (.ref D) ce) (compPost (model X.prog X.w) X.A X.xe use Qf (.ref D) s3.heap.objs.size) s4 := by
    refine compLoop_any (fun n s' => ∃ i H', Inv (X.blk s3 H3 scope ce fp) [] (wipe σ (own.map (·.2))) H' s' ∧ tn i s'.heap ∧ (∀ b ∈ fp, H' b = none) ∧ W i n H') ?_ m0 ⟨0, H3, I4, st4, nfp, w0⟩
    rintro n s5 ⟨i, H5, I5, st5, n5, w5⟩
    rcases turn i n H5 w5 with ⟨stop, qq⟩ | ⟨go, Nx, hNx, step⟩
    · have td := T.done (X.blk s3 H3 scope ce fp) rfl rfl rfl hc i [] s5 _ H5 (fun _ _ => False) I5 (stat I5 n5) st5 stop
      refine thnF td fun r s6 ⟨hr, I6⟩ => ?_
      subst hr
      -- back in the def's context
      have I7 : Inv X pins σ H5 s6 := I3.call' (ch := fp) I6.os I6.base I6.hok I6.bare fun b hb => ⟨(f3 b hb).1.2.2.2.1, (f3 b hb).1.2.1, (f3 b hb).1.2.2.2.2.1, (f3 b hb).1.2.2.2.2.2⟩
      have nC : H5 s3.heap.objs.size = none := by
        have z : H5 ce.locals = none := I6.free
        rw [cL] at z
        exact z
      obtain ⟨m, hn, _⟩ := I6.loc
      have hn : s6.heap.Ns ce.locals m := hn
      rw [cL] at hn
      exact hRR D s3.heap.objs.size s6 m H5 I7 qq hn (I3.fpOk (Nat.le_refl _) nC)
    · have ti := T.item (X.blk s3 H3 scope ce fp) rfl rfl rfl hc i [] s5 _ H5 (fun _ _ => False) I5 (stat I5 n5) st5 go
      refine thnF ti fun r s6 ⟨u, hr, h6⟩ => ?_
      subst hr
      refine thnF h6 fun _ s7 ⟨x, H7, I7, r7, y7, st7, n7⟩ => ?_
      have I7' := I7.pinned (stat I7 n7) (T.obj _ _ st7)
      refine thnF (pg _ s7 _ H7 x u _ I7' r7 (step x H7 y7)) fun _ s8 ⟨σ8, H8, I8, hw8, q8⟩ => ?_
      refine thnF (pt _ s8 σ8 H8 _ I8 q8) fun b s9 ⟨H9, I9, q9⟩ => ?_
      -- the turn's end
      have fin : ∀ {s' : Shared} {H' : Hp}, Inv (X.blk s3 H3 scope ce fp) ([] ++ pinsAt fp s7.heap) σ8 H' s' → Nx H' → ∃ m, m < n ∧ ∃ i H', Inv (X.blk s3 H3 scope ce fp) [] (wipe σ (own.map (·.2))) H' s' ∧ tn i s'.heap ∧ (∀ b ∈ fp, H' b = none) ∧ W i m H' := fun {s' H'} I' nx => by
        obtain ⟨m', hm, w'⟩ := hNx H' nx
        have pin' : ∀ b ∈ fp, ∀ o, s7.heap.get? b = some o → s'.heap.get? b = some o ∧ H' b = none := fun b hb o e =>
          let z := I'.pin (b, o) (List.mem_append_right _ (List.mem_append_right _ (mem_pinsAt hb e)))
          ⟨z.1, z.2.1⟩
        have hl : (wipe σ (own.map (·.2))).length = σ8.length := by rw [← hw8, wipe_length]
        refine ⟨m', hm, i + 1, H', (I'.unpinned (pins := [])).weak hl (fun j v e => ?_), T.keep _ _ _ st7 fun b hb o e => (pin' b hb o e).1, fun b hb => ?_, w'⟩
        · rw [← hw8] at e
          exact (wipe_some e).1
        · obtain ⟨o, e, _⟩ := T.obj _ _ st7 b hb
          exact (pin' b hb o e).2
      cases b with
      | false =>
        simp only [Bool.false_eq_true, if_false] at q9 ⊢
        exact fin I9 q9
      | true =>
        simp only [if_true] at q9 ⊢
        refine thnF (pe _ s9 σ8 H9 _ I9 q9) fun z s10 ⟨yv, H10, I10, r10, acc, hD10, hz10, nx⟩ => ?_
        exact app_ok (X := X.blk s3 H3 scope ce fp) I10 hD10 hz10 r10 fun s11 I11 => fin I11 nx
  exact codeAny_compStart_list loop (T.self X.A 0 _ _ _ st4 loop)
/-- as a value -/
theorem pe_lc {elt tg iter : Expr} {ifs : List Expr} {scope : Scope} {own : List (Str × Nat)} {pos : Pos} {wi : TI} {g : TG} {tt : TT} {te : TE} (hc : X.calm = true) (hN : X.N.Nodup) (hi : PI X tg iter wi) (ok : BlkOk X.N X.env.scope scope own)
    (hg : ∀ (s : Shared) (H : Hp) (C : Addr) (cl : List (Str × Addr)) (fp : List Addr), PG (X.blk s H scope (compEnvC scope cl C X.env) fp) tg g) (ht : ∀ (s : Shared) (H : Hp) (C : Addr) (cl : List (Str × Addr)) (fp : List Addr), PTs (X.blk s H scope (compEnvC scope cl C X.env) fp) ifs tt)
    (he : ∀ (s : Shared) (H : Hp) (C : Addr) (cl : List (Str × Addr)) (fp : List Addr), PE (X.blk s H scope (compEnvC scope cl C X.env) fp) elt te) (hs : ∀ x, foldedSetIterable iter X.env x = pure x := by intro _; rfl) :
    PE X (.ListComp elt [⟨tg, iter, ifs, 0⟩] scope pos) (tLc wi g tt te (own.map (·.2))) := by
  intro pins s σ H Q I h
  rw [eval_ListComp]
  refine lc_core hc hN I hi ok hg ht he hs h fun D C s' m H' I' q hn f => ⟨m, hn, fun h'' sb => ?_⟩
  obtain ⟨f0, f1, f2, f3, f4, f5⟩ := f
  exact ⟨.ref D, H', I'.turned (t' := s'.toks) (fun b o hb e => (sb.2 b hb).trans e) f0 f1 f3 f4 f5, rfl, q⟩
/-- name = [..] on one line, the name a local -/
theorem ps_setLc {i : Nat} {y : Str} {py : Pos} {elt tg iter : Expr} {ifs : List Expr} {scope : Scope} {own : List (Str × Nat)} {pos spos : Pos} {wi : TI} {g : TG} {tt : TT} {te : TE} (hc : X.calm = true) (hN : X.N.Nodup) (hy : X.N[i]? = some y) (hyl : X.env.scope.names.lookup y = some .local)
    (hsw : swapsWith (.ListComp elt [⟨tg, iter, ifs, 0⟩] scope pos) (some (.Name y py)) spos.line X.env = pure true) (hi : PI X tg iter wi) (ok : BlkOk X.N X.env.scope scope own)
    (hg : ∀ (s : Shared) (H : Hp) (C : Addr) (cl : List (Str × Addr)) (fp : List Addr), PG (X.blk s H scope (compEnvC scope cl C X.env) fp) tg g) (ht : ∀ (s : Shared) (H : Hp) (C : Addr) (cl : List (Str × Addr)) (fp : List Addr), PTs (X.blk s H scope (compEnvC scope cl C X.env) fp) ifs tt)
    (he : ∀ (s : Shared) (H : Hp) (C : Addr) (cl : List (Str × Addr)) (fp : List Addr), PE (X.blk s H scope (compEnvC scope cl C X.env) fp) elt te) (hs : ∀ x, foldedSetIterable iter X.env x = pure x := by intro _; rfl) :
    PS X (.Assign [.Name y py] (.ListComp elt [⟨tg, iter, ifs, 0⟩] scope pos) spos) (tAsg (tLc wi g tt te (own.map (·.2))) (gName i)) := by
  intro pins s σ H D I h
  rw [exec_Assign_Name_used _ _ _ _ hsw]
  refine wpAny_bind (wpAny_standAt (wpAny_bind ?_))
  show wpAny _ X.A (do let _ ← comprehension (.ListComp elt [⟨tg, iter, ifs, 0⟩] scope pos) scope X.env (firstIterPos [⟨tg, iter, ifs, 0⟩] pos) (newList []) false (eval iter X.env) (some (assign (.Name y py) X.env))) _ _ s
  have h : tLc wi g tt te (own.map (·.2)) σ H (fun x H1 => gName i x σ H1 D.nx) := h
  refine wpAny_bind (thn (lc_core (Qf := fun _ s' => SP X pins D .next s') hc hN I hi ok hg ht he hs h fun L C s' m H' I' q hn f => ?_) fun _ s' hq => wpAny_pure (wpAny_pure hq))
  show wpAny _ _ (assign (.Name y py) X.env (.ref L)) _ _ _
  refine wpAny_assign_Name (store_ok2 (v := V.ref L) I' hN hy (.inl hyl) rfl (fun s2 I2 ⟨a, sb, ha⟩ => ?_) (.inr hyl))
  obtain ⟨f0, f1, f2, f3, f4, f5⟩ := f
  have haC : C ≠ a := by
    rcases ha with z | z
    · rw [z]; exact f1
    · exact fun e => f4 y a z e.symm
  refine ⟨m, hn.sameBut sb haC, fun h3 sb3 => ?_⟩
  exact ⟨_, H', I2.turned (t' := s2.toks) (fun b o hb e => (sb3.2 b hb).trans e) f0 f1 f3 f4 f5, q⟩
theorem sw_true {elt : Expr} {gs : List Comprehension} {scope : Scope} {pos py : Pos} {y : Str} {l : Nat} {env : Env} (hk : env.scope.kind = .function) (hy : env.scope.names.lookup y = some .local) (hl : (py.line == pos.line) = true)
    (ha : (scope.names.any fun (n, k) => n == y && (k == .local || k == .cell)) = false) : swapsWith (.ListComp elt gs scope pos) (some (.Name y py)) l env = pure true := by
  have ky : env.kindOf y = some .local := hy
  have hb : env.blockKind = .function := by unfold Env.blockKind; rw [hk]; rfl
  unfold swapsWith
  simp only [hb, ky, ha, Expr.pos, hl]
  rfl
end

/-! ### the forms one uses -/
/-- over a range: Pv by the turn and the heap (the new list at D within) -/
theorem lc_range {lo : Int} {n : Nat} {g : TG} {tt : TT} {te : TE} {vs : List Nat} {σ : St} {H1 : Hp} {D : Addr} {Qd : Hp → Prop} (Pv : Nat → Hp → Prop) (h0 : Pv 0 (upd H1 D (.lst [])))
    (hs : ∀ i H, i < n → Pv i H → g (.int (lo + i)) (wipe σ vs) H fun σ2 H2 => wipe σ2 vs = wipe σ vs ∧ tt σ2 H2 fun b H3 =>
      if b = true then te σ2 H3 fun y H4 => ∃ acc, H4 D = some (.lst acc) ∧ acc.length < sizeLine ∧ Pv (i + 1) (upd H4 D (.lst (acc ++ [y]))) else Pv (i + 1) H3) (hd : ∀ H, Pv n H → Qd H) :
    ∃ W : Nat → Nat → Hp → Prop, (∃ m, W 0 m (upd H1 D (.lst []))) ∧ ∀ i m H, W i m H →
      ((Itr lo n).stop i H ∧ Qd H) ∨ ((Itr lo n).go i H ∧ ∃ Nx : Hp → Prop, (∀ H', Nx H' → ∃ m', m' < m ∧ W (i + 1) m' H') ∧ ∀ x H', (Itr lo n).yld i H x H' → g x (wipe σ vs) H' fun σ2 H2 => wipe σ2 vs = wipe σ vs ∧ tt σ2 H2 fun b H3 =>
        if b = true then te σ2 H3 fun y H4 => ∃ acc, H4 D = some (.lst acc) ∧ acc.length < sizeLine ∧ Nx (upd H4 D (.lst (acc ++ [y]))) else Nx H3) := by
  refine ⟨fun i m H => m = n - i ∧ i ≤ n ∧ Pv i H, ⟨n, by simp, Nat.zero_le _, h0⟩, ?_⟩
  rintro i m H ⟨rfl, hi, p⟩
  by_cases hlt : i < n
  · refine .inr ⟨hlt, Pv (i + 1), fun H' p' => ⟨n - (i + 1), by omega, rfl, hlt, p'⟩, fun x H' y => ?_⟩
    obtain ⟨e, y⟩ := y
    subst e y
    exact hs i _ hlt p
  · have e : i = n := by omega
    subst e
    exact .inl ⟨Nat.le_refl _, hd H p⟩
/-- over a list that the block leaves as it is -/
theorem lc_list {K : PySem.W.Frag} {a : Addr} {xs : List V} {g : TG} {tt : TT} {te : TE} {vs : List Nat} {σ : St} {H1 : Hp} {D : Addr} {Qd : Hp → Prop} (Pv : Nat → Hp → Prop) (h0 : Pv 0 (upd H1 D (.lst []))) (hl : ∀ i H, i ≤ xs.length → Pv i H → SqL K H a xs)
    (hs : ∀ i x H, xs[i]? = some x → Pv i H → g x (wipe σ vs) H fun σ2 H2 => wipe σ2 vs = wipe σ vs ∧ tt σ2 H2 fun b H3 =>
      if b = true then te σ2 H3 fun y H4 => ∃ acc, H4 D = some (.lst acc) ∧ acc.length < sizeLine ∧ Pv (i + 1) (upd H4 D (.lst (acc ++ [y]))) else Pv (i + 1) H3) (hd : ∀ H, Pv xs.length H → Qd H) :
    ∃ W : Nat → Nat → Hp → Prop, (∃ m, W 0 m (upd H1 D (.lst []))) ∧ ∀ i m H, W i m H →
      ((Itl K a).stop i H ∧ Qd H) ∨ ((Itl K a).go i H ∧ ∃ Nx : Hp → Prop, (∀ H', Nx H' → ∃ m', m' < m ∧ W (i + 1) m' H') ∧ ∀ x H', (Itl K a).yld i H x H' → g x (wipe σ vs) H' fun σ2 H2 => wipe σ2 vs = wipe σ vs ∧ tt σ2 H2 fun b H3 =>
        if b = true then te σ2 H3 fun y H4 => ∃ acc, H4 D = some (.lst acc) ∧ acc.length < sizeLine ∧ Nx (upd H4 D (.lst (acc ++ [y]))) else Nx H3) := by
  refine ⟨fun i m H => m = xs.length - i ∧ i ≤ xs.length ∧ Pv i H, ⟨xs.length, by simp, Nat.zero_le _, h0⟩, ?_⟩
  rintro i m H ⟨rfl, hi, p⟩
  have q := hl i H hi p
  by_cases hlt : i < xs.length
  · refine .inr ⟨⟨xs, xs[i], q, by simp [hlt]⟩, Pv (i + 1), fun H' p' => ⟨xs.length - (i + 1), by omega, rfl, hlt, p'⟩, fun x H' y => ?_⟩
    obtain ⟨e, y⟩ := y
    subst e
    exact hs i x _ (y xs q) p
  · have e : i = xs.length := by omega
    subst e
    exact .inl ⟨⟨xs, q, Nat.le_refl _⟩, hd H p⟩
/-- over a tuple -/
theorem lc_tup {K : PySem.W.Frag} {a : Addr} {xs : List V} {g : TG} {tt : TT} {te : TE} {vs : List Nat} {σ : St} {H1 : Hp} {D : Addr} {Qd : Hp → Prop} (Pv : Nat → Hp → Prop) (h0 : Pv 0 (upd H1 D (.lst []))) (hl : ∀ i H, i ≤ xs.length → Pv i H → SqT K H a xs)
    (hs : ∀ i x H, xs[i]? = some x → Pv i H → g x (wipe σ vs) H fun σ2 H2 => wipe σ2 vs = wipe σ vs ∧ tt σ2 H2 fun b H3 =>
      if b = true then te σ2 H3 fun y H4 => ∃ acc, H4 D = some (.lst acc) ∧ acc.length < sizeLine ∧ Pv (i + 1) (upd H4 D (.lst (acc ++ [y]))) else Pv (i + 1) H3) (hd : ∀ H, Pv xs.length H → Qd H) :
    ∃ W : Nat → Nat → Hp → Prop, (∃ m, W 0 m (upd H1 D (.lst []))) ∧ ∀ i m H, W i m H →
      ((Itt K a).stop i H ∧ Qd H) ∨ ((Itt K a).go i H ∧ ∃ Nx : Hp → Prop, (∀ H', Nx H' → ∃ m', m' < m ∧ W (i + 1) m' H') ∧ ∀ x H', (Itt K a).yld i H x H' → g x (wipe σ vs) H' fun σ2 H2 => wipe σ2 vs = wipe σ vs ∧ tt σ2 H2 fun b H3 =>
        if b = true then te σ2 H3 fun y H4 => ∃ acc, H4 D = some (.lst acc) ∧ acc.length < sizeLine ∧ Nx (upd H4 D (.lst (acc ++ [y]))) else Nx H3) := by
  refine ⟨fun i m H => m = xs.length - i ∧ i ≤ xs.length ∧ Pv i H, ⟨xs.length, by simp, Nat.zero_le _, h0⟩, ?_⟩
  rintro i m H ⟨rfl, hi, p⟩
  have q := hl i H hi p
  by_cases hlt : i < xs.length
  · refine .inr ⟨⟨xs, xs[i], q, by simp [hlt]⟩, Pv (i + 1), fun H' p' => ⟨xs.length - (i + 1), by omega, rfl, hlt, p'⟩, fun x H' y => ?_⟩
    obtain ⟨e, y⟩ := y
    subst e
    exact hs i x _ (y xs q) p
  · have e : i = xs.length := by omega
    subst e
    exact .inl ⟨⟨xs, q, Nat.le_refl _⟩, hd H p⟩
def blkC (N : List Str) (sc scope : Scope) (own : List (Str × Nat)) : Bool :=
  (match scope.kind with | .function => true | _ => false) && (scope.names.all fun y => decide (scope.names.lookup y.1 = some y.2)) && (own.all fun p => decide (N[p.2]? = some p.1)) &&
    (scope.names.all fun y => match y.2 with
      | .free => (match sc.names.lookup y.1 with | some .cell => true | some .free => true | _ => false)
      | .local => decide (y.1 ∈ own.map (·.1)) || decide (y.1 ∉ N)
      | .cell => decide (y.1 ∈ own.map (·.1)) || decide (y.1 ∉ N)
      | _ => true)
theorem blkOk_by {N : List Str} {sc scope : Scope} {own : List (Str × Nat)} (h : blkC N sc scope own = true) : BlkOk N sc scope own := by
  unfold blkC at h
  simp only [Bool.and_eq_true, List.all_eq_true, decide_eq_true_eq] at h
  obtain ⟨⟨⟨h1, h2⟩, h3⟩, h4⟩ := h
  refine ⟨?_, h2, h3, fun y hy e => ?_, fun y hy e => ?_⟩
  · split at h1
    · assumption
    · cases h1
  · have q := h4 y hy
    simp only [e] at q
    split at q <;> first | exact .inl (by assumption) | exact .inr (by assumption) | cases q
  · have q := h4 y hy
    rcases e with e | e <;> (simp only [e, Bool.or_eq_true, decide_eq_true_eq] at q; exact q)
end L2

namespace L2
open PySem PySem.Spec PyProof.Rows

theorem compTurn2_out (elt t0 i0 t1 i1 : Expr) (ifs0 ifs1 : List Expr) (scope : Scope) (pos : Pos) (it acc : Value) (env : Env) :
    compTurn (.ListComp elt [⟨t0, i0, ifs0, 0⟩, ⟨t1, i1, ifs1, 0⟩] scope pos) 0 it acc env = (do
      standAt i0.pos
      match ← pyNext it with
      | none => pure (.done .next)
      | some v =>
        letOwnedTupleGo t0 it v
        assign t0 env v
        let mut ok := true
        for c in ifs0 do
          if ok then ok ← isTrue c env (eval c env)
        if ok then
          let x ← eval i1 env
          standAt i1.pos
          let x ← foldedSetIterable i1 env x
          let _ ← runOwn (.compStart (.ListComp elt [⟨t0, i0, ifs0, 0⟩, ⟨t1, i1, ifs1, 0⟩] scope pos) 1 (← holding [x] (pyIter x)) acc env) env
        again (.compLoop (.ListComp elt [⟨t0, i0, ifs0, 0⟩, ⟨t1, i1, ifs1, 0⟩] scope pos) 0 it acc env)) := by rfl
theorem compTurn2_in (elt t0 i0 t1 i1 : Expr) (ifs0 ifs1 : List Expr) (scope : Scope) (pos : Pos) (it acc : Value) (env : Env) :
    compTurn (.ListComp elt [⟨t0, i0, ifs0, 0⟩, ⟨t1, i1, ifs1, 0⟩] scope pos) 1 it acc env = (do
      standAt i1.pos
      match ← pyNext it with
      | none => pure (.done .next)
      | some v =>
        letOwnedTupleGo t1 it v
        assign t1 env v
        let mut ok := true
        for c in ifs1 do
          if ok then ok ← isTrue c env (eval c env)
        if ok then
          (do let _ ← call (.builtin "list.append") [acc, ← eval elt env])
        again (.compLoop (.ListComp elt [⟨t0, i0, ifs0, 0⟩, ⟨t1, i1, ifs1, 0⟩] scope pos) 1 it acc env)) := by rfl

section
variable {prog : Program} {w : World} {A : Around} {R : Result → Shared → Prop} {s : Shared} {elt t0 i0 t1 i1 : Expr} {ifs0 ifs1 : List Expr} {scope : Scope} {pos : Pos} {it acc : Value} {env : Env}
/-- the loop of the first clause -/
theorem compLoop2_out (hs : ∀ x, foldedSetIterable i1 env x = pure x) (I : Nat → Shared → Prop)
    (turn : ∀ n s, I n s → wpAny (model prog w) A (pyNext it) (fun r s₁ => match r with
      | none => R (.ok .next) s₁
      | some v => wpAny (model prog w) A (letOwnedTupleGo t0 it v) (fun _ s₁' => wpAny (model prog w) A (assign t0 env v) (fun _ s₂ =>
          wpAny (model prog w) A (forIn ifs0 true fun c r => if r = true then do let ok ← isTrue c env (eval c env); pure (ForInStep.yield ok) else pure (ForInStep.yield r)) (fun ok s₃ =>
            if ok = true then wpAny (model prog w) A (eval i1 env) (fun x s₄ => wpAny (model prog w) A (pyIter x) (fun it1 s₅ =>
              codeAny (model prog w) A (.compStart (.ListComp elt [⟨t0, i0, ifs0, 0⟩, ⟨t1, i1, ifs1, 0⟩] scope pos) 1 it1 acc env) (fun r s' => match r with
                | .ok _ => ∃ m, m < n ∧ I m s'
                | .error _ => False) s₅) (notedBy (model prog w) A env fun e s' => R (.error e) s') s₄) (notedBy (model prog w) A env fun e s' => R (.error e) s') s₃
            else ∃ m, m < n ∧ I m s₃) (notedBy (model prog w) A env fun e s' => R (.error e) s') s₂) (notedBy (model prog w) A env fun e s' => R (.error e) s') s₁') (notedBy (model prog w) A env fun e s' => R (.error e) s') s₁) (notedBy (model prog w) A env fun e s' => R (.error e) s') s)
    (n : Nat) (h : I n s) :
    codeAny (model prog w) A (.compLoop (.ListComp elt [⟨t0, i0, ifs0, 0⟩, ⟨t1, i1, ifs1, 0⟩] scope pos) 0 it acc env) R s := by
  refine codeAny_loop rfl I (fun n s hI => ?_) n h
  show wpAny _ A ((compTurn (.ListComp elt [⟨t0, i0, ifs0, 0⟩, ⟨t1, i1, ifs1, 0⟩] scope pos) 0 it acc env).onRaise (fun x => do noteFrame x env; theTreesLotGoes x)) _ _ s
  refine wpAny_noted ?_
  rw [compTurn2_out]
  refine wpAny_bind (wpAny_standAt (wpAny_bind (wpAny_mono (turn n s hI) (fun r s₁ h₁ => ?_) fun _ _ h' => h')))
  cases r with
  | none => exact wpAny_pure h₁
  | some v =>
    refine wpAny_bind (wpAny_mono h₁ (fun _ s₁' h₁' => ?_) fun _ _ h' => h')
    refine wpAny_bind (wpAny_mono h₁' (fun _ s₂ h₂ => wpAny_bind (wpAny_mono h₂ (fun ok s₃ h₃ => ?_) fun _ _ h' => h')) fun _ _ h' => h')
    cases ok with
    | false => exact wpAny_pure ⟨rfl, h₃⟩
    | true =>
      refine wpAny_bind (wpAny_mono h₃ (fun x s₄ h₄ => ?_) fun _ _ h' => h')
      refine wpAny_bind (wpAny_standAt (wpAny_bind (wpAny_of_eq (hs x) (wpAny_bind (wpAny_holding (wpAny_mono h₄ (fun it1 s₅ h₅ => ?_) fun _ _ h' => h'))))))
      refine wpAny_bind (wpAny_runOwn ?_)
      rw [Around.mark_none]
      refine codeAny_mono h₅ fun r s' hr => ?_
      cases r with
      | ok f =>
        first
          | exact wpAny_pure ⟨rfl, hr⟩
          | exact wpAny_bind (wpAny_pure (wpAny_pure ⟨rfl, hr⟩))
      | error e => exact hr.elim
/-- the loop of the second -/
theorem compLoop2_in (I : Nat → Shared → Prop)
    (turn : ∀ n s, I n s → wpAny (model prog w) A (pyNext it) (fun r s₁ => match r with
      | none => R (.ok .next) s₁
      | some v => wpAny (model prog w) A (letOwnedTupleGo t1 it v) (fun _ s₁' => wpAny (model prog w) A (assign t1 env v) (fun _ s₂ =>
          wpAny (model prog w) A (forIn ifs1 true fun c r => if r = true then do let ok ← isTrue c env (eval c env); pure (ForInStep.yield ok) else pure (ForInStep.yield r)) (fun ok s₃ =>
            if ok = true then wpAny (model prog w) A (eval elt env) (fun x s₄ =>
              wpAny (model prog w) A (call (.builtin "list.append") [acc, x]) (fun _ s₅ => ∃ m, m < n ∧ I m s₅) (notedBy (model prog w) A env fun e s' => R (.error e) s') s₄) (notedBy (model prog w) A env fun e s' => R (.error e) s') s₃
            else ∃ m, m < n ∧ I m s₃) (notedBy (model prog w) A env fun e s' => R (.error e) s') s₂) (notedBy (model prog w) A env fun e s' => R (.error e) s') s₁') (notedBy (model prog w) A env fun e s' => R (.error e) s') s₁) (notedBy (model prog w) A env fun e s' => R (.error e) s') s)
    (n : Nat) (h : I n s) :
    codeAny (model prog w) A (.compLoop (.ListComp elt [⟨t0, i0, ifs0, 0⟩, ⟨t1, i1, ifs1, 0⟩] scope pos) 1 it acc env) R s := by
  refine codeAny_loop rfl I (fun n s hI => ?_) n h
  show wpAny _ A ((compTurn (.ListComp elt [⟨t0, i0, ifs0, 0⟩, ⟨t1, i1, ifs1, 0⟩] scope pos) 1 it acc env).onRaise (fun x => do noteFrame x env; theTreesLotGoes x)) _ _ s
  refine wpAny_noted ?_
  rw [compTurn2_in]
  refine wpAny_bind (wpAny_standAt (wpAny_bind (wpAny_mono (turn n s hI) (fun r s₁ h₁ => ?_) fun _ _ h' => h')))
  cases r with
  | none => exact wpAny_pure h₁
  | some v =>
    refine wpAny_bind (wpAny_mono h₁ (fun _ s₁' h₁' => ?_) fun _ _ h' => h')
    refine wpAny_bind (wpAny_mono h₁' (fun _ s₂ h₂ => wpAny_bind (wpAny_mono h₂ (fun ok s₃ h₃ => ?_) fun _ _ h' => h')) fun _ _ h' => h')
    cases ok with
    | false => exact wpAny_pure ⟨rfl, h₃⟩
    | true =>
      exact wpAny_bind (wpAny_bind (wpAny_mono h₃ (fun x s₄ h₄ => wpAny_bind (wpAny_mono h₄ (fun _ s₅ h₅ => wpAny_pure (wpAny_pure ⟨rfl, h₅⟩)) fun _ _ h' => h')) fun _ _ h' => h'))
/-- the second clause's start -/
theorem compStart1_ok (h0 : codeAny (model prog w) A (.compLoop (.ListComp elt [⟨t0, i0, ifs0, 0⟩, ⟨t1, i1, ifs1, 0⟩] scope pos) 1 it acc env) R s)
    (h : wpAny (model prog w) A (pyIter it) (fun it' s' => codeAny (model prog w) A (.compLoop (.ListComp elt [⟨t0, i0, ifs0, 0⟩, ⟨t1, i1, ifs1, 0⟩] scope pos) 1 it' acc env) R s')
      (notedBy (model prog w) A env fun x s' => R (.error x) s') s) :
    codeAny (model prog w) A (.compStart (.ListComp elt [⟨t0, i0, ifs0, 0⟩, ⟨t1, i1, ifs1, 0⟩] scope pos) 1 it acc env) R s := by
  refine codeAny_of_tree ?_
  show wpAny _ _ ((compStart (.ListComp elt [⟨t0, i0, ifs0, 0⟩, ⟨t1, i1, ifs1, 0⟩] scope pos) 1 it acc env).onRaise (fun x => do noteFrame x env; standAt theWindowsPlace)) _ _ s
  refine wpAny_notedAt ?_
  unfold compStart
  show wpAny _ _ (ask >>= _) _ _ s
  refine wpAny_bind (wpAny_askSetting (wpAny_ite ?_))
  split
  · first
      | exact wpAny_bind (wpAny_pure (wpAny_pure (And.intro rfl h0)))
      | exact wpAny_pure (And.intro rfl h0)
  · first
      | exact wpAny_bind (wpAny_rule (wpAny_bind (wpAny_standAt (wpAny_bind (wpAny_mono h (fun it' s' h' => wpAny_pure (And.intro rfl h')) fun _ _ x => x)))))
      | (refine wpAny_bind (wpAny_rule ?_); show wpAny _ _ (standAt i1.pos >>= _) _ _ s; exact wpAny_bind (wpAny_standAt (wpAny_bind (wpAny_mono h (fun it' s' h' => wpAny_pure (And.intro rfl h')) fun _ _ x => x))))
end

theorem wipe_out {σ : St} {i : Nat} : ∀ {vs : List Nat}, i ∉ vs → (wipe σ vs)[i]? = σ[i]?
  | [], _ => rfl
  | v :: vs, h => by
    have h1 : v ≠ i := fun e => h (by rw [e]; exact List.mem_cons_self)
    have h2 : i ∉ vs := fun m => h (List.mem_cons_of_mem _ m)
    unfold wipe
    rw [List.getElem?_set_ne h1]
    exact wipe_out h2
section
variable {X : Cx}
/-- [elt for tg in iter if .. for tg1 in iter1 if ..]: behind the first clause's store and tests the second source's own loop, from which Nx is reached. vs: the block's names; vs1: those of the second target -/
def tLc2 (wi : TI) (g : TG) (tt : TT) (wi1 : TI) (g1 : TG) (tt1 : TT) (te : TE) (vs vs1 : List Nat) : TE := fun σ H Q => wi σ H fun J H1 => ∀ D, H1 D = none → ∃ W : Nat → Nat → Hp → Prop, (∃ m, W 0 m (upd H1 D (.lst []))) ∧ ∀ i m H, W i m H →
  (J.stop i H ∧ Q (.ref D) H) ∨ (J.go i H ∧ ∃ Nx : Hp → Prop, (∀ H', Nx H' → ∃ m', m' < m ∧ W (i + 1) m' H') ∧ ∀ x H', J.yld i H x H' → g x (wipe σ vs) H' fun σ2 H2 => wipe σ2 vs = wipe σ vs ∧ tt σ2 H2 fun b H3 =>
    if b = true then wi1 σ2 H3 fun J1 H4 => ∃ W1 : Nat → Nat → Hp → Prop, (∃ m, W1 0 m H4) ∧ ∀ j k H, W1 j k H →
      (J1.stop j H ∧ Nx H) ∨ (J1.go j H ∧ ∃ Nx1 : Hp → Prop, (∀ H', Nx1 H' → ∃ k', k' < k ∧ W1 (j + 1) k' H') ∧ ∀ x H', J1.yld j H x H' → g1 x (wipe σ2 vs1) H' fun σ3 H5 => wipe σ3 vs1 = wipe σ2 vs1 ∧ tt1 σ3 H5 fun b H6 =>
        if b = true then te σ3 H6 fun y H7 => ∃ acc, H7 D = some (.lst acc) ∧ acc.length < sizeLine ∧ Nx1 (upd H7 D (.lst (acc ++ [y]))) else Nx1 H6)
    else Nx H3)
theorem lc2_core {pins : List (Addr × Obj)} {s : Shared} {σ : St} {H : Hp} {Q : VK} {elt tg iter tg1 iter1 : Expr} {ifs ifs1 : List Expr} {scope : Scope} {own : List (Str × Nat)} {vs1 : List Nat} {pos pos' : Pos} {wi wi1 : TI} {g g1 : TG} {tt tt1 : TT} {te : TE} {use : Option (Value → Sem Unit)} {Qf : Value → Shared → Prop}
    (hc : X.calm = true) (hN : X.N.Nodup) (I : Inv X pins σ H s) (hi : PI X tg iter wi) (ok : BlkOk X.N X.env.scope scope own) (hv : ∀ i ∈ vs1, i ∈ own.map (·.2))
    (hg : ∀ (s : Shared) (H : Hp) (C : Addr) (cl : List (Str × Addr)) (fp : List Addr), PG (X.blk s H scope (compEnvC scope cl C X.env) fp) tg g) (ht : ∀ (s : Shared) (H : Hp) (C : Addr) (cl : List (Str × Addr)) (fp : List Addr), PTs (X.blk s H scope (compEnvC scope cl C X.env) fp) ifs tt)
    (he : ∀ (s : Shared) (H : Hp) (C : Addr) (cl : List (Str × Addr)) (fp : List Addr), PE (X.blk s H scope (compEnvC scope cl C X.env) fp) elt te) (hs : ∀ x, foldedSetIterable iter X.env x = pure x)
    (hi1 : ∀ (s : Shared) (H : Hp) (C : Addr) (cl : List (Str × Addr)) (fp : List Addr), PI (X.blk s H scope (compEnvC scope cl C X.env) fp) tg1 iter1 wi1)
    (hg1 : ∀ (s : Shared) (H : Hp) (C : Addr) (cl : List (Str × Addr)) (fp : List Addr), PG (X.blk s H scope (compEnvC scope cl C X.env) fp) tg1 g1)
    (ht1 : ∀ (s : Shared) (H : Hp) (C : Addr) (cl : List (Str × Addr)) (fp : List Addr), PTs (X.blk s H scope (compEnvC scope cl C X.env) fp) ifs1 tt1)
    (hs1 : ∀ env x, foldedSetIterable iter1 env x = pure x)
    (h : tLc2 wi g tt wi1 g1 tt1 te (own.map (·.2)) vs1 σ H Q)
    (hRR : ∀ D C s' m H', Inv X pins σ H' s' → Q (.ref D) H' → s'.heap.Ns C m → FpOk X pins H' C → compPost (model X.prog X.w) X.A X.xe use Qf (.ref D) C (.ok .next) s') :
    wpAny (model X.prog X.w) X.A (comprehension (.ListComp elt [⟨tg, iter, ifs, 0⟩, ⟨tg1, iter1, ifs1, 0⟩] scope pos) scope X.env pos' (newList []) false (eval iter X.env) use) Qf X.xe s := by
  have hfree : ∀ y ∈ scope.names, y.2 = .free → ∃ c, X.env.cells.lookup y.1 = some c := fun y hy e => by
    rcases ok.free y hy e with k | k
    · exact I.ok.has _ (.inl k)
    · exact I.ok.has _ (.inr k)
  refine wpAny_comprehension_free (use := use) rfl hs (closure_ok hfree) ok.kind (fun y hy e => by rw [ok.uniq y hy, e])
    (thn (hi pins s σ H _ I h) fun xv s1 hx => thn hx fun itv s2 h2 => ?_)
  obtain ⟨it, fp, tn, J, H2, e, I2, T, st2, f2, q⟩ := h2
  subst e
  refine wpAny_newObj_type (newEnv_comp ?_) (by show 0 ≤ sizeLine; decide)
  generalize hD : s2.heap.objs.size = D
  have hDn : H2 D = none := I2.hok.fresh (Nat.le_of_eq hD)
  obtain ⟨W, ⟨m0, w0⟩, turn⟩ := q D hDn
  -- the new list
  generalize hs3 : ({ s2 with heap := s2.heap.push { cls := .type "list", data := .seq ([] : List Value).toArray } } : Shared) = s3
  have I3 : Inv X pins σ (upd H2 D (.lst [])) s3 := by
    rw [← hs3]
    refine I2.laid (t' := s2.toks) (fun b o e => Heap.get?_push_of_some _ e) (Nat.le_of_eq hD) ⟨Nat.zero_le _, [], 0, .nil, ?_⟩
    rw [← hD]
    exact Heap.get?_push_size _ rfl
  have h3 : s3.heap = s2.heap.push { cls := .type "list", data := .seq ([] : List Value).toArray } := by rw [← hs3]
  have sz : ∀ b ∈ fp, b < s2.heap.objs.size := fun b hb => by
    obtain ⟨o, e, _⟩ := T.obj _ _ st2 b hb
    exact Heap.lt_size e
  have f3 : ∀ b ∈ fp, FpOk X pins (upd H2 D (.lst [])) b ∧ b < s3.heap.objs.size := fun b hb => by
    have hlt := sz b hb
    refine ⟨⟨?_, (f2 b hb).2⟩, by rw [h3, Heap.size_push]; exact Nat.lt_succ_of_lt hlt⟩
    rw [upd_ne (by rw [← hD]; exact Nat.ne_of_lt hlt)]
    exact (f2 b hb).1
  have st3 : tn 0 s3.heap := T.keep _ _ _ st2 fun b _ o e => by rw [h3]; exact Heap.get?_push_of_some _ e
  have I4 := block_start I3 ok hN f3
  have pg := hg s3 (upd H2 D (.lst [])) s3.heap.objs.size (cellsFrom (s3.heap.objs.size + 1) scope.names (cloFrom X.env.cells scope.names [])) fp
  have pt := ht s3 (upd H2 D (.lst [])) s3.heap.objs.size (cellsFrom (s3.heap.objs.size + 1) scope.names (cloFrom X.env.cells scope.names [])) fp
  have pe := he s3 (upd H2 D (.lst [])) s3.heap.objs.size (cellsFrom (s3.heap.objs.size + 1) scope.names (cloFrom X.env.cells scope.names [])) fp
  have pi1 := hi1 s3 (upd H2 D (.lst [])) s3.heap.objs.size (cellsFrom (s3.heap.objs.size + 1) scope.names (cloFrom X.env.cells scope.names [])) fp
  have pg1 := hg1 s3 (upd H2 D (.lst [])) s3.heap.objs.size (cellsFrom (s3.heap.objs.size + 1) scope.names (cloFrom X.env.cells scope.names [])) fp
  have pt1 := ht1 s3 (upd H2 D (.lst [])) s3.heap.objs.size (cellsFrom (s3.heap.objs.size + 1) scope.names (cloFrom X.env.cells scope.names [])) fp
  show codeAny _ _ (.compStart (.ListComp elt [⟨tg, iter, ifs, 0⟩, ⟨tg1, iter1, ifs1, 0⟩] scope pos) 0 (.ref it) (.ref D) (compEnvC scope (cellsFrom (s3.heap.objs.size + 1) scope.names (cloFrom X.env.cells scope.names [])) s3.heap.objs.size X.env)) (compPost (model X.prog X.w) X.A X.xe use Qf (.ref D) s3.heap.objs.size) { s3 with heap := pushCells (s3.heap.push { cls := .type "dict", data := .dict #[] }) scope.names }
  have nfp : ∀ b ∈ fp, (upd H2 D (.lst [])) b = none := fun b hb => (f3 b hb).1.1
  generalize hce : compEnvC scope (cellsFrom (s3.heap.objs.size + 1) scope.names (cloFrom X.env.cells scope.names [])) s3.heap.objs.size X.env = ce at I4 pg pt pe pi1 pg1 pt1 ⊢
  have cL : ce.locals = s3.heap.objs.size := by subst hce; rfl
  generalize hH3 : upd H2 D (.lst []) = H3 at I3 I4 pg pt pe pi1 pg1 pt1 w0 nfp f3
  generalize hs4 : ({ s3 with heap := pushCells (s3.heap.push { cls := .type "dict", data := .dict #[] }) scope.names } : Shared) = s4 at I4 ⊢
  have st4 : tn 0 s4.heap := T.keep _ _ _ st3 fun b _ o e => by rw [← hs4]; exact pushCells_keeps _ _ _ _ (Heap.get?_push_of_some _ e)
  have stat : ∀ {σ' : St} {H' : Hp} {s' : Shared}, Inv (X.blk s3 H3 scope ce fp) [] σ' H' s' → (∀ b ∈ fp, H' b = none) → ∀ b ∈ fp, FpOk (X.blk s3 H3 scope ce fp) [] H' b := fun {σ' H' s'} I' hn b hb =>
    ⟨hn b hb, (I'.ok.exf b hb).1, I'.ok.exfs b hb, .inl hb, fun x c e => (I'.ok.exf b hb).2 x c e, fun p hp => absurd (show p ∈ ([] : List (Addr × Obj)) ++ [] from hp) (by simp)⟩
  have loop : codeAny (model X.prog X.w) X.A (.compLoop (.ListComp elt [⟨tg, iter, ifs, 0⟩, ⟨tg1, iter1, ifs1, 0⟩] scope pos) 0 (.ref it) (.ref D) ce) (compPost (model X.prog X.w) X.A X.xe use Qf (.ref D) s3.heap.objs.size) s4 := by
    refine compLoop2_out (hs1 ce) (fun n s' => ∃ i H', Inv (X.blk s3 H3 scope ce fp) [] (wipe σ (own.map (·.2))) H' s' ∧ tn i s'.heap ∧ (∀ b ∈ fp, H' b = none) ∧ W i n H') ?_ m0 ⟨0, H3, I4, st4, nfp, w0⟩
    rintro n s5 ⟨i, H5, I5, st5, n5, w5⟩
    rcases turn i n H5 w5 with ⟨stop, qq⟩ | ⟨go, Nx, hNx, step⟩
    · have td := T.done (X.blk s3 H3 scope ce fp) rfl rfl rfl hc i [] s5 _ H5 (fun _ _ => False) I5 (stat I5 n5) st5 stop
      refine thnF td fun r s6 ⟨hr, I6⟩ => ?_
      subst hr
      -- back in the def's context
      have I7 : Inv X pins σ H5 s6 := I3.call' (ch := fp) I6.os I6.base I6.hok I6.bare fun b hb => ⟨(f3 b hb).1.2.2.2.1, (f3 b hb).1.2.1, (f3 b hb).1.2.2.2.2.1, (f3 b hb).1.2.2.2.2.2⟩
      have nC : H5 s3.heap.objs.size = none := by
        have z : H5 ce.locals = none := I6.free
        rw [cL] at z
        exact z
      obtain ⟨m, hn, _⟩ := I6.loc
      have hn : s6.heap.Ns ce.locals m := hn
      rw [cL] at hn
      exact hRR D s3.heap.objs.size s6 m H5 I7 qq hn (I3.fpOk (Nat.le_refl _) nC)
    · have ti := T.item (X.blk s3 H3 scope ce fp) rfl rfl rfl hc i [] s5 _ H5 (fun _ _ => False) I5 (stat I5 n5) st5 go
      refine thnF ti fun r s6 ⟨u, hr, h6⟩ => ?_
      subst hr
      refine thnF h6 fun _ s7 ⟨x, H7, I7, r7, y7, st7, n7⟩ => ?_
      have I7' := I7.pinned (stat I7 n7) (T.obj _ _ st7)
      refine thnF (pg _ s7 _ H7 x u _ I7' r7 (step x H7 y7)) fun _ s8 ⟨σ8, H8, I8, hw8, q8⟩ => ?_
      refine thnF (pt _ s8 σ8 H8 _ I8 q8) fun b s9 ⟨H9, I9, q9⟩ => ?_
      -- the turn's end, from any slots that know what the block knew at its start
      have fin : ∀ {σ9 : St} {s' : Shared} {H' : Hp}, Inv (X.blk s3 H3 scope ce fp) ([] ++ pinsAt fp s7.heap) σ9 H' s' → (wipe σ (own.map (·.2))).length = σ9.length → (∀ (j : Nat) v, (wipe σ (own.map (·.2)))[j]? = some (some v) → σ9[j]? = some (some v)) → Nx H' →
          ∃ m, m < n ∧ ∃ i H', Inv (X.blk s3 H3 scope ce fp) [] (wipe σ (own.map (·.2))) H' s' ∧ tn i s'.heap ∧ (∀ b ∈ fp, H' b = none) ∧ W i m H' := fun {σ9 s' H'} I' hl hk nx => by
        obtain ⟨m', hm, w'⟩ := hNx H' nx
        have pin' : ∀ b ∈ fp, ∀ o, s7.heap.get? b = some o → s'.heap.get? b = some o ∧ H' b = none := fun b hb o e =>
          let z := I'.pin (b, o) (List.mem_append_right _ (List.mem_append_right _ (mem_pinsAt hb e)))
          ⟨z.1, z.2.1⟩
        refine ⟨m', hm, i + 1, H', (I'.unpinned (pins := [])).weak hl hk, T.keep _ _ _ st7 fun b hb o e => (pin' b hb o e).1, fun b hb => ?_, w'⟩
        obtain ⟨o, e, _⟩ := T.obj _ _ st7 b hb
        exact (pin' b hb o e).2
      have hl8 : (wipe σ (own.map (·.2))).length = σ8.length := by rw [← hw8, wipe_length]
      have hk8 : ∀ (j : Nat) v, (wipe σ (own.map (·.2)))[j]? = some (some v) → σ8[j]? = some (some v) := fun j v e => by
        rw [← hw8] at e
        exact (wipe_some e).1
      have hk9 : ∀ (j : Nat) v, (wipe σ (own.map (·.2)))[j]? = some (some v) → (wipe σ8 vs1)[j]? = some (some v) := fun j v e => by
        rw [← hw8] at e
        obtain ⟨e1, e2⟩ := wipe_some e
        rw [wipe_out fun z => e2 (hv j z)]
        exact e1
      cases b with
      | false =>
        simp only [Bool.false_eq_true, if_false] at q9 ⊢
        exact fin I9 hl8 hk8 q9
      | true =>
        simp only [if_true] at q9 ⊢
        refine thnF (pi1 _ s9 σ8 H9 _ I9 q9) fun xv s10 hx => thnF hx fun itv s11 h11 => ?_
        obtain ⟨it1, fp1, tn1, J1, H11, e1, I11, T1, st11, f11, W1, ⟨m1, w1⟩, turn1⟩ := h11
        subst e1
        -- the inner loop
        have stat1 : ∀ {H' : Hp}, (∀ b ∈ fp1, H' b = none) → ∀ b ∈ fp1, FpOk (X.blk s3 H3 scope ce fp) ([] ++ pinsAt fp s7.heap) H' b := fun hn b hb => ⟨hn b hb, (f11 b hb).2⟩
        have loop1 : codeAny (model X.prog X.w) X.A (.compLoop (.ListComp elt [⟨tg, iter, ifs, 0⟩, ⟨tg1, iter1, ifs1, 0⟩] scope pos) 1 (.ref it1) (.ref D) ce)
            (fun r s' => match r with
              | .ok _ => ∃ m, m < n ∧ ∃ i H', Inv (X.blk s3 H3 scope ce fp) [] (wipe σ (own.map (·.2))) H' s' ∧ tn i s'.heap ∧ (∀ b ∈ fp, H' b = none) ∧ W i m H'
              | .error _ => False) s11 := by
          refine compLoop2_in (fun k s' => ∃ j H', Inv (X.blk s3 H3 scope ce fp) ([] ++ pinsAt fp s7.heap) (wipe σ8 vs1) H' s' ∧ tn1 j s'.heap ∧ (∀ b ∈ fp1, H' b = none) ∧ W1 j k H') ?_ m1 ⟨0, H11, I11.weak (wipe_length _ _) (fun j v e => (wipe_some e).1), st11, fun b hb => (f11 b hb).1, w1⟩
          rintro k s12 ⟨j, H12, I12, st12, n12, w12⟩
          rcases turn1 j k H12 w12 with ⟨stop1, nx1⟩ | ⟨go1, Nx1, hNx1, step1⟩
          · refine thnF (T1.done (X.blk s3 H3 scope ce fp) rfl rfl rfl hc j _ s12 (wipe σ8 vs1) H12 (fun _ _ => False) I12 (stat1 n12) st12 stop1) fun r s13 ⟨hr, I13⟩ => ?_
            subst hr
            exact fin I13 (hl8.trans (wipe_length σ8 vs1).symm) hk9 nx1
          · refine thnF (T1.item (X.blk s3 H3 scope ce fp) rfl rfl rfl hc j _ s12 (wipe σ8 vs1) H12 (fun _ _ => False) I12 (stat1 n12) st12 go1) fun r s13 ⟨u1, hr, h13⟩ => ?_
            subst hr
            refine thnF h13 fun _ s14 ⟨x1, H14, I14, r14, y14, st14, n14⟩ => ?_
            have I14' := I14.pinned (stat1 n14) (T1.obj _ _ st14)
            refine thnF (pg1 _ s14 (wipe σ8 vs1) H14 x1 u1 _ I14' r14 (step1 x1 H14 y14)) fun _ s15 ⟨σ15, H15, I15, hw15, q15⟩ => ?_
            refine thnF (pt1 _ s15 σ15 H15 _ I15 q15) fun b1 s16 ⟨H16, I16, q16⟩ => ?_
            have fin1 : ∀ {s' : Shared} {H' : Hp}, Inv (X.blk s3 H3 scope ce fp) (([] ++ pinsAt fp s7.heap) ++ pinsAt fp1 s14.heap) σ15 H' s' → Nx1 H' → ∃ m, m < k ∧ ∃ j H', Inv (X.blk s3 H3 scope ce fp) ([] ++ pinsAt fp s7.heap) (wipe σ8 vs1) H' s' ∧ tn1 j s'.heap ∧ (∀ b ∈ fp1, H' b = none) ∧ W1 j m H' := fun {s' H'} I' nx => by
              obtain ⟨m', hm, w'⟩ := hNx1 H' nx
              have pin' : ∀ b ∈ fp1, ∀ o, s14.heap.get? b = some o → s'.heap.get? b = some o ∧ H' b = none := fun b hb o e =>
                let z := I'.pin (b, o) (List.mem_append_right _ (List.mem_append_right _ (mem_pinsAt hb e)))
                ⟨z.1, z.2.1⟩
              refine ⟨m', hm, j + 1, H', I'.unpinned.weak (by rw [← hw15, wipe_length]) (fun j v e => by rw [← hw15] at e; exact (wipe_some e).1), T1.keep _ _ _ st14 fun b hb o e => (pin' b hb o e).1, fun b hb => ?_, w'⟩
              obtain ⟨o, e, _⟩ := T1.obj _ _ st14 b hb
              exact (pin' b hb o e).2
            cases b1 with
            | false =>
              simp only [Bool.false_eq_true, if_false] at q16 ⊢
              exact fin1 I16 q16
            | true =>
              simp only [if_true] at q16 ⊢
              refine thnF (pe _ s16 σ15 H16 _ I16 q16) fun z s17 ⟨yv, H17, I17, r17, acc, hD17, hz17, nx⟩ => ?_
              exact app_ok (X := X.blk s3 H3 scope ce fp) I17 hD17 hz17 r17 fun s18 I18 => fin1 I18 nx
        exact compStart1_ok loop1 (T1.self X.A 0 _ _ _ st11 loop1)
  exact codeAny_compStart_list loop (T.self X.A 0 _ _ _ st4 loop)
/-- as a value -/
theorem pe_lc2 {elt tg iter tg1 iter1 : Expr} {ifs ifs1 : List Expr} {scope : Scope} {own : List (Str × Nat)} {vs1 : List Nat} {pos : Pos} {wi wi1 : TI} {g g1 : TG} {tt tt1 : TT} {te : TE} (hc : X.calm = true) (hN : X.N.Nodup) (hi : PI X tg iter wi) (ok : BlkOk X.N X.env.scope scope own) (hv : ∀ i ∈ vs1, i ∈ own.map (·.2))
    (hg : ∀ (s : Shared) (H : Hp) (C : Addr) (cl : List (Str × Addr)) (fp : List Addr), PG (X.blk s H scope (compEnvC scope cl C X.env) fp) tg g) (ht : ∀ (s : Shared) (H : Hp) (C : Addr) (cl : List (Str × Addr)) (fp : List Addr), PTs (X.blk s H scope (compEnvC scope cl C X.env) fp) ifs tt)
    (hi1 : ∀ (s : Shared) (H : Hp) (C : Addr) (cl : List (Str × Addr)) (fp : List Addr), PI (X.blk s H scope (compEnvC scope cl C X.env) fp) tg1 iter1 wi1)
    (hg1 : ∀ (s : Shared) (H : Hp) (C : Addr) (cl : List (Str × Addr)) (fp : List Addr), PG (X.blk s H scope (compEnvC scope cl C X.env) fp) tg1 g1) (ht1 : ∀ (s : Shared) (H : Hp) (C : Addr) (cl : List (Str × Addr)) (fp : List Addr), PTs (X.blk s H scope (compEnvC scope cl C X.env) fp) ifs1 tt1)
    (he : ∀ (s : Shared) (H : Hp) (C : Addr) (cl : List (Str × Addr)) (fp : List Addr), PE (X.blk s H scope (compEnvC scope cl C X.env) fp) elt te) (hs : ∀ x, foldedSetIterable iter X.env x = pure x := by intro _; rfl) (hs1 : ∀ env x, foldedSetIterable iter1 env x = pure x := by intro _ _; rfl) :
    PE X (.ListComp elt [⟨tg, iter, ifs, 0⟩, ⟨tg1, iter1, ifs1, 0⟩] scope pos) (tLc2 wi g tt wi1 g1 tt1 te (own.map (·.2)) vs1) := by
  intro pins s σ H Q I h
  rw [eval_ListComp]
  refine lc2_core hc hN I hi ok hv hg ht he hs hi1 hg1 ht1 hs1 h fun D C s' m H' I' q hn f => ⟨m, hn, fun h'' sb => ?_⟩
  obtain ⟨f0, f1, f2, f3, f4, f5⟩ := f
  exact ⟨.ref D, H', I'.turned (t' := s'.toks) (fun b o hb e => (sb.2 b hb).trans e) f0 f1 f3 f4 f5, rfl, q⟩
theorem ps_setLc2 {i : Nat} {y : Str} {py : Pos} {elt tg iter tg1 iter1 : Expr} {ifs ifs1 : List Expr} {scope : Scope} {own : List (Str × Nat)} {vs1 : List Nat} {pos spos : Pos} {wi wi1 : TI} {g g1 : TG} {tt tt1 : TT} {te : TE} (hc : X.calm = true) (hN : X.N.Nodup) (hy : X.N[i]? = some y) (hyl : X.env.scope.names.lookup y = some .local)
    (hsw : swapsWith (.ListComp elt [⟨tg, iter, ifs, 0⟩, ⟨tg1, iter1, ifs1, 0⟩] scope pos) (some (.Name y py)) spos.line X.env = pure true) (hi : PI X tg iter wi) (ok : BlkOk X.N X.env.scope scope own) (hv : ∀ i ∈ vs1, i ∈ own.map (·.2))
    (hg : ∀ (s : Shared) (H : Hp) (C : Addr) (cl : List (Str × Addr)) (fp : List Addr), PG (X.blk s H scope (compEnvC scope cl C X.env) fp) tg g) (ht : ∀ (s : Shared) (H : Hp) (C : Addr) (cl : List (Str × Addr)) (fp : List Addr), PTs (X.blk s H scope (compEnvC scope cl C X.env) fp) ifs tt)
    (hi1 : ∀ (s : Shared) (H : Hp) (C : Addr) (cl : List (Str × Addr)) (fp : List Addr), PI (X.blk s H scope (compEnvC scope cl C X.env) fp) tg1 iter1 wi1)
    (hg1 : ∀ (s : Shared) (H : Hp) (C : Addr) (cl : List (Str × Addr)) (fp : List Addr), PG (X.blk s H scope (compEnvC scope cl C X.env) fp) tg1 g1) (ht1 : ∀ (s : Shared) (H : Hp) (C : Addr) (cl : List (Str × Addr)) (fp : List Addr), PTs (X.blk s H scope (compEnvC scope cl C X.env) fp) ifs1 tt1)
    (he : ∀ (s : Shared) (H : Hp) (C : Addr) (cl : List (Str × Addr)) (fp : List Addr), PE (X.blk s H scope (compEnvC scope cl C X.env) fp) elt te) (hs : ∀ x, foldedSetIterable iter X.env x = pure x := by intro _; rfl) (hs1 : ∀ env x, foldedSetIterable iter1 env x = pure x := by intro _ _; rfl) :
    PS X (.Assign [.Name y py] (.ListComp elt [⟨tg, iter, ifs, 0⟩, ⟨tg1, iter1, ifs1, 0⟩] scope pos) spos) (tAsg (tLc2 wi g tt wi1 g1 tt1 te (own.map (·.2)) vs1) (gName i)) := by
  intro pins s σ H D I h
  rw [exec_Assign_Name_used _ _ _ _ hsw]
  refine wpAny_bind (wpAny_standAt (wpAny_bind ?_))
  show wpAny _ X.A (do let _ ← comprehension (.ListComp elt [⟨tg, iter, ifs, 0⟩, ⟨tg1, iter1, ifs1, 0⟩] scope pos) scope X.env (firstIterPos [⟨tg, iter, ifs, 0⟩, ⟨tg1, iter1, ifs1, 0⟩] pos) (newList []) false (eval iter X.env) (some (assign (.Name y py) X.env))) _ _ s
  have h : tLc2 wi g tt wi1 g1 tt1 te (own.map (·.2)) vs1 σ H (fun x H1 => gName i x σ H1 D.nx) := h
  refine wpAny_bind (thn (lc2_core (Qf := fun _ s' => SP X pins D .next s') hc hN I hi ok hv hg ht he hs hi1 hg1 ht1 hs1 h fun L C s' m H' I' q hn f => ?_) fun _ s' hq => wpAny_pure (wpAny_pure hq))
  show wpAny _ _ (assign (.Name y py) X.env (.ref L)) _ _ _
  refine wpAny_assign_Name (store_ok2 (v := V.ref L) I' hN hy (.inl hyl) rfl (fun s2 I2 ⟨a, sb, ha⟩ => ?_) (.inr hyl))
  obtain ⟨f0, f1, f2, f3, f4, f5⟩ := f
  have haC : C ≠ a := by
    rcases ha with z | z
    · rw [z]; exact f1
    · exact fun e => f4 y a z e.symm
  refine ⟨m, hn.sameBut sb haC, fun h3 sb3 => ?_⟩
  exact ⟨_, H', I2.turned (t' := s2.toks) (fun b o hb e => (sb3.2 b hb).trans e) f0 f1 f3 f4 f5, q⟩
end
end L2

namespace L2
open PySem PySem.Spec PyProof.Rows

/-! ### lists of pairs as tables -/
section
variable {κ : Type} [DecidableEq κ]
def valV (kvs : List (κ × V)) (k : κ) : Option V := (kvs.find? fun kv => decide (kv.1 = k)).map (·.2)
/-- in its place, or at the end -/
def putK (kvs : List (κ × V)) (k : κ) (v : V) : List (κ × V) :=
  if (kvs.any fun kv => decide (kv.1 = k)) = true then kvs.map (fun kv => if kv.1 = k then (kv.1, v) else kv) else kvs ++ [(k, v)]
def dropK (kvs : List (κ × V)) (k : κ) : List (κ × V) := kvs.filter fun kv => decide (kv.1 ≠ k)

theorem valV_nil {k : κ} : valV ([] : List (κ × V)) k = none := rfl
theorem valV_pos {p : κ × V} {r : List (κ × V)} {k : κ} (e : p.1 = k) : valV (p :: r) k = some p.2 := by simp [valV, List.find?_cons, e]
theorem valV_neg {p : κ × V} {r : List (κ × V)} {k : κ} (e : ¬ p.1 = k) : valV (p :: r) k = valV r k := by simp [valV, List.find?_cons, e]
theorem valV_any (k : κ) : ∀ kvs : List (κ × V), (kvs.any fun kv => decide (kv.1 = k)) = (valV kvs k).isSome
  | [] => rfl
  | p :: r => by
    rw [List.any_cons]
    by_cases e : p.1 = k
    · simp only [valV_pos e, decide_eq_true e, Bool.true_or, Option.isSome_some]
    · rw [valV_neg e, decide_eq_false e, Bool.false_or]; exact valV_any k r
theorem valV_map (k j : κ) (y : V) : ∀ kvs : List (κ × V), valV (kvs.map fun kv => if kv.1 = k then (kv.1, y) else kv) j = (valV kvs j).map fun x => if j = k then y else x
  | [] => rfl
  | p :: r => by
    have ih := valV_map k j y r
    rw [List.map_cons]
    by_cases h : p.1 = k
    · rw [if_pos h]
      by_cases e : p.1 = j
      · rw [valV_pos (p := (p.1, y)) e, valV_pos e, Option.map_some, if_pos (e.symm.trans h)]
      · rw [valV_neg (p := (p.1, y)) e, valV_neg e, ih]
    · rw [if_neg h]
      by_cases e : p.1 = j
      · rw [valV_pos (p := p) e, valV_pos e, Option.map_some, if_neg (fun z => h (e.trans z))]
      · rw [valV_neg (p := p) e, valV_neg e, ih]
theorem valV_snoc (k j : κ) (y : V) : ∀ kvs : List (κ × V), valV kvs k = none → valV (kvs ++ [(k, y)]) j = if j = k then some y else valV kvs j
  | [], _ => by
    by_cases e : k = j
    · rw [if_pos e.symm]; exact valV_pos (p := (k, y)) e
    · rw [if_neg (fun z => e z.symm)]; exact valV_neg (p := (k, y)) e
  | p :: r, hn => by
    rw [List.cons_append]
    have hk : ¬ p.1 = k := fun z => by rw [valV_pos z] at hn; cases hn
    rw [valV_neg hk] at hn
    have ih := valV_snoc k j y r hn
    by_cases e : p.1 = j
    · rw [valV_pos e, valV_pos e, if_neg (fun z => hk (e.trans z))]
    · rw [valV_neg e, valV_neg e, ih]
theorem valV_put (kvs : List (κ × V)) (k j : κ) (y : V) : valV (putK kvs k y) j = if j = k then some y else valV kvs j := by
  unfold putK
  by_cases a : (kvs.any fun kv => decide (kv.1 = k)) = true
  · rw [if_pos a, valV_map]
    rw [valV_any] at a
    by_cases e : j = k
    · obtain ⟨x, hx⟩ := Option.isSome_iff_exists.mp a
      rw [if_pos e, e, hx, Option.map_some, if_pos rfl]
    · rw [if_neg e]
      cases valV kvs j with
      | none => rfl
      | some x => rw [Option.map_some, if_neg e]
  · rw [if_neg a]
    refine valV_snoc k j y kvs ?_
    rw [valV_any] at a
    cases q : valV kvs k with
    | none => rfl
    | some x => rw [q] at a; exact (a rfl).elim
theorem length_putK (kvs : List (κ × V)) (k : κ) (v : V) : (putK kvs k v).length ≤ kvs.length + 1 := by
  unfold putK
  split
  · rw [List.length_map]; omega
  · rw [List.length_append, List.length_cons, List.length_nil]; omega
theorem putK_new {kvs : List (κ × V)} {k : κ} (v : V) (h : valV kvs k = none) : putK kvs k v = kvs ++ [(k, v)] := by
  unfold putK
  rw [valV_any, h]
  exact if_neg (by decide)

theorem RelO.isSome_eq {o : Option V} {u : Option Value} (r : RelO o u) : o.isSome = u.isSome := by
  cases o with
  | none => cases u with
    | none => rfl
    | some _ => exact (show False from r).elim
  | some _ => cases u with
    | none => exact (show False from r).elim
    | some _ => rfl
theorem RelO.getD {o : Option V} {u : Option Value} {d : V} {d' : Value} (r : RelO o u) (rd : RelV d d') : RelV (o.getD d) (u.getD d') := by
  cases o with
  | none => cases u with
    | none => exact rd
    | some _ => exact (show False from r).elim
  | some _ => cases u with
    | none => exact (show False from r).elim
    | some _ => exact r

/-- raw tables of the same keys -/
theorem KV.val {kvs : List (κ × V)} {vs : List (κ × Value)} (r : KV kvs vs) (k : κ) : RelO (valV kvs k) (valueAt vs k) := by
  unfold KV at r
  induction r with
  | nil => exact True.intro
  | @cons p q ps qs h t ih =>
    obtain ⟨h1, h2⟩ := h
    by_cases e : p.1 = k
    · have e' : q.1 = k := h1.symm.trans e
      have b : valueAt (q :: qs) k = some q.2 := by simp [valueAt, List.find?_cons, e']
      rw [valV_pos e, b]; exact h2
    · have e' : ¬ q.1 = k := fun z => e (h1.trans z)
      have b : valueAt (q :: qs) k = valueAt qs k := by simp [valueAt, List.find?_cons, e']
      rw [valV_neg e, b]; exact ih
theorem KV.any {kvs : List (κ × V)} {vs : List (κ × Value)} (r : KV kvs vs) (k : κ) : (kvs.any fun kv => decide (kv.1 = k)) = vs.any fun kv => decide (kv.1 = k) := by
  unfold KV at r
  induction r with
  | nil => rfl
  | cons h t ih => rw [List.any_cons, List.any_cons, ih, h.1]
theorem KV.repl {kvs : List (κ × V)} {vs : List (κ × Value)} (r : KV kvs vs) (k : κ) {y : V} {u : Value} (ry : RelV y u) :
    KV (kvs.map fun kv => if kv.1 = k then (kv.1, y) else kv) (vs.map fun kv => if kv.1 = k then (kv.1, u) else kv) := by
  unfold KV at r ⊢
  induction r with
  | nil => exact .nil
  | @cons p q ps qs h t ih =>
    rw [List.map_cons, List.map_cons]
    refine .cons ?_ ih
    obtain ⟨h1, h2⟩ := h
    by_cases e : p.1 = k
    · rw [if_pos e, if_pos (h1.symm.trans e)]; exact ⟨h1, ry⟩
    · rw [if_neg e, if_neg (fun z => e (h1.trans z))]; exact ⟨h1, h2⟩
theorem KV.put {kvs : List (κ × V)} {vs : List (κ × Value)} (r : KV kvs vs) (k : κ) {y : V} {u : Value} (ry : RelV y u) : KV (putK kvs k y) (stored vs k u) := by
  unfold putK stored
  rw [r.any k]
  by_cases e : (vs.any fun kv => decide (kv.1 = k)) = true
  · rw [if_pos e, if_pos e]; exact r.repl k ry
  · rw [if_neg e, if_neg e]; exact Paired.snoc r ⟨rfl, ry⟩
theorem KV.drop {kvs : List (κ × V)} {vs : List (κ × Value)} (r : KV kvs vs) (k : κ) : KV (dropK kvs k) (without vs k) := by
  unfold KV at r ⊢
  unfold dropK without
  induction r with
  | nil => exact .nil
  | @cons p q ps qs h t ih =>
    obtain ⟨h1, h2⟩ := h
    rw [List.filter_cons, List.filter_cons]
    by_cases e : p.1 = k
    · have a : ¬ decide (p.1 ≠ k) = true := by simp [e]
      have b : ¬ decide (q.1 ≠ k) = true := by simp [h1.symm.trans e]
      rw [if_neg a, if_neg b]; exact ih
    · have e' : ¬ q.1 = k := fun z => e (h1.trans z)
      have a : decide (p.1 ≠ k) = true := by simp [e]
      have b : decide (q.1 ≠ k) = true := by simp [e']
      rw [if_pos a, if_pos b]; exact .cons ⟨h1, h2⟩ ih
theorem KV.keys {kvs : List (κ × V)} {vs : List (κ × Value)} (r : KV kvs vs) : kvs.map (·.1) = vs.map (·.1) := by
  unfold KV at r
  induction r with
  | nil => rfl
  | cons h t ih => rw [List.map_cons, List.map_cons, ih, h.1]
theorem KV.length {kvs : List (κ × V)} {vs : List (κ × Value)} (r : KV kvs vs) : kvs.length = vs.length := Paired.length r
theorem dropK_le (kvs : List (κ × V)) (k : κ) : (dropK kvs k).length ≤ kvs.length := List.length_filter_le _ _
end


/-! ### a tracked dict, its keys ints and texts or tuples of these -/
theorem kV_is {P : Program} {w : World} {k : Key} {u : Value} (r : RelV (kV k) u) : (mixKind P w).is k u = true := by
  cases k with
  | inl i => obtain ⟨t, e⟩ := (show ∃ t, u = Value.int i t from r); subst e; exact mixKind_int P w i t
  | inr x => obtain ⟨t, e⟩ := (show ∃ t, u = Value.str x t from r); subst e; exact mixKind_str P w x t
theorem kV_inj {a b : Key} (e : kV a = kV b) : a = b := by
  cases a with
  | inl i => cases b with
    | inl j => have e' : V.int i = V.int j := e; injection e' with e'; rw [e']
    | inr y => exact nomatch (show V.int i = V.str y from e)
  | inr x => cases b with
    | inl j => exact nomatch (show V.str x = V.int j from e)
    | inr y => have e' : V.str x = V.str y := e; injection e' with e'; rw [e']
theorem kVs_inj : ∀ {a b : List Key}, a.map kV = b.map kV → a = b
  | [], [], _ => rfl
  | [], _ :: _, e => by simp at e
  | _ :: _, [], e => by simp at e
  | x :: xs, y :: ys, e => by
    rw [List.map_cons, List.map_cons] at e
    injection e with e1 e2
    rw [kV_inj e1, kVs_inj e2]
theorem items_are {P : Program} {w : World} : ∀ {ks : List Key} {us : List Value}, Vals (ks.map kV) us → ItemsAre (mixKind P w) ks us
  | [], _, r => by rw [List.map_nil] at r; cases r; exact .nil
  | k :: ks, _, r => by
    rw [List.map_cons] at r
    cases r with
    | cons h t => exact .cons (kV_is h) (items_are t)

/-- raw entries of a dict with tuple keys -/
abbrev KT (H : Hp) : List (List Key × V) → List (List Key × Addr × Value) → Prop := Paired fun p q => p.1 = q.1 ∧ H q.2.1 = some (.tup (p.1.map kV)) ∧ RelV p.2 q.2.2
theorem KT.val {H : Hp} {kvs : List (List Key × V)} {xs : List (List Key × Addr × Value)} (r : KT H kvs xs) (k : List Key) : RelO (valV kvs k) ((atKey xs k).map (·.2)) := by
  induction r with
  | nil => exact True.intro
  | @cons p q ps qs h t ih =>
    obtain ⟨h1, _, h2⟩ := h
    by_cases e : p.1 = k
    · have e' : q.1 = k := h1.symm.trans e
      have b : atKey (q :: qs) k = some q.2 := by simp [atKey, List.find?_cons, e']
      rw [valV_pos e, b]; exact h2
    · have e' : ¬ q.1 = k := fun z => e (h1.trans z)
      have b : atKey (q :: qs) k = atKey qs k := by simp [atKey, List.find?_cons, e']
      rw [valV_neg e, b]; exact ih
theorem KT.repl {H : Hp} {kvs : List (List Key × V)} {xs : List (List Key × Addr × Value)} (r : KT H kvs xs) (k : List Key) {y : V} {u : Value} (ry : RelV y u) :
    KT H (kvs.map fun kv => if kv.1 = k then (kv.1, y) else kv) (xs.map (putAt k u)) := by
  induction r with
  | nil => exact .nil
  | @cons p q ps qs h t ih =>
    rw [List.map_cons, List.map_cons]
    refine .cons ?_ ih
    obtain ⟨h1, h2, h3⟩ := h
    unfold putAt
    by_cases e : p.1 = k
    · rw [if_pos e, if_pos (h1.symm.trans e)]; exact ⟨h1, h2, ry⟩
    · rw [if_neg e, if_neg (fun z => e (h1.trans z))]; exact ⟨h1, h2, h3⟩
theorem KT.put {H : Hp} {kvs : List (List Key × V)} {xs : List (List Key × Addr × Value)} (r : KT H kvs xs) (k : List Key) {b : Addr} {y : V} {u : Value} (hb : H b = some (.tup (k.map kV))) (ry : RelV y u) :
    KT H (putK kvs k y) (storedH xs k b u) := by
  have e : (kvs.any fun kv => decide (kv.1 = k)) = (atKey xs k).isSome := by
    rw [valV_any, (r.val k).isSome_eq, Option.isSome_map]
  unfold putK storedH
  rw [e]
  by_cases q : (atKey xs k).isSome = true
  · rw [if_pos q, if_pos q]; exact r.repl k ry
  · rw [if_neg q, if_neg q]; exact Paired.snoc r ⟨rfl, hb, ry⟩
theorem KT.keeps {H H' : Hp} {kvs : List (List Key × V)} {xs : List (List Key × Addr × Value)} (r : KT H kvs xs) (ht : ∀ b ys, H b = some (.tup ys) → H' b = some (.tup ys)) : KT H' kvs xs :=
  Paired.mapP r fun _ _ z => ⟨z.1, ht _ _ z.2.1, z.2.2⟩

section
variable {P : Program} {w : World} {H : Hp} {h : Heap} {a : Addr}
theorem rd_of {u : HO} (ok : HOk P w H h) (e : Rd H a u) : ObjOk P w H h a u := e.ok ok
theorem dk_rd {kvs : List (Key × V)} (ok : HOk P w H h) (e : Rd H a (.dK kvs)) : kvs.length ≤ sizeLine ∧ (a == sysModules) = false ∧ ∃ vs, KV kvs vs ∧ h.DictOf (mixKind P w) a vs :=
  show ObjOk P w H h a (.dK kvs) from rd_of ok e
theorem dk_of {kvs : List (Key × V)} (ok : HOk P w H h) (e : H a = some (.dK kvs)) : kvs.length ≤ sizeLine ∧ (a == sysModules) = false ∧ ∃ vs, KV kvs vs ∧ h.DictOf (mixKind P w) a vs := dk_rd ok (.inl e)
/-- a tracked tuple of ints and texts is a key -/
theorem key_of {ks : List Key} (ok : HOk P w H h) (e : H a = some (.tup (ks.map kV))) : (tupleKind (mixKind P w)).is h ks a := by
  obtain ⟨_, its, r, o, h1, h2, n, h3⟩ := (show ObjOk P w H h a (.tup (ks.map kV)) from ok a _ e)
  exact ⟨o, its.toArray, n, h1, h2, h3, by simpa using items_are r⟩
theorem dt_rd {kvs : List (List Key × V)} (ok : HOk P w H h) (e : Rd H a (.dT kvs)) : kvs.length ≤ sizeLine ∧ (a == sysModules) = false ∧
    ∃ xs, KT H kvs xs ∧ h.DictOfH (tupleKind (mixKind P w)) a xs := by
  obtain ⟨z, y, xs, r, o, es, ep, h1, h2, h3, h4, h5⟩ := (show ObjOk P w H h a (.dT kvs) from rd_of ok e)
  refine ⟨z, y, xs, r, o, es, ep, h1, h2, h3, h4, fun x hx => ?_, h5⟩
  have all : ∀ {l : List (List Key × V)} {m : List (List Key × Addr × Value)}, KT H l m → ∀ x ∈ m, (tupleKind (mixKind P w)).is h x.1 x.2.1 := by
    intro l m q
    induction q with
    | nil => intro x hx; exact nomatch hx
    | @cons p q ps qs hq t ih =>
      intro x hx
      rcases List.mem_cons.mp hx with e | hx
      · subst e
        exact key_of ok (by rw [← hq.1]; exact hq.2.1)
      · exact ih x hx
  exact all r x hx
theorem dt_of {kvs : List (List Key × V)} (ok : HOk P w H h) (e : H a = some (.dT kvs)) : kvs.length ≤ sizeLine ∧ (a == sysModules) = false ∧
    ∃ xs, KT H kvs xs ∧ h.DictOfH (tupleKind (mixKind P w)) a xs := dt_rd ok (.inl e)
end

/-- what the dict at a holds at the key y -/
def DGet (H : Hp) (a : Addr) (y : V) (r : Option V) : Prop :=
  (∃ kvs k, Rd H a (.dK kvs) ∧ y = kV k ∧ r = valV kvs k) ∨ ∃ kvs k b, Rd H a (.dT kvs) ∧ y = .ref b ∧ H b = some (.tup (k.map kV)) ∧ r = valV kvs k
/-- the heap behind a[y] = v -/
def DPut (H : Hp) (a : Addr) (y v : V) (H' : Hp) : Prop :=
  (∃ kvs k, H a = some (.dK kvs) ∧ y = kV k ∧ kvs.length < sizeLine ∧ H' = upd H a (.dK (putK kvs k v))) ∨
  ∃ kvs k b, H a = some (.dT kvs) ∧ y = .ref b ∧ H b = some (.tup (k.map kV)) ∧ kvs.length < sizeLine ∧ H' = upd H a (.dT (putK kvs k v))
theorem DGet.k {H : Hp} {a : Addr} {kvs : List (Key × V)} {k : Key} (e : H a = some (.dK kvs)) : DGet H a (kV k) (valV kvs k) := .inl ⟨kvs, k, .inl e, rfl, rfl⟩
theorem DGet.t {H : Hp} {a b : Addr} {kvs : List (List Key × V)} {k : List Key} (e : H a = some (.dT kvs)) (eb : H b = some (.tup (k.map kV))) : DGet H a (.ref b) (valV kvs k) := .inr ⟨kvs, k, b, .inl e, rfl, eb, rfl⟩
theorem DPut.k {H : Hp} {a : Addr} {kvs : List (Key × V)} {k : Key} {v : V} (e : H a = some (.dK kvs)) (hl : kvs.length < sizeLine) : DPut H a (kV k) v (upd H a (.dK (putK kvs k v))) := .inl ⟨kvs, k, e, rfl, hl, rfl⟩
theorem DPut.t {H : Hp} {a b : Addr} {kvs : List (List Key × V)} {k : List Key} {v : V} (e : H a = some (.dT kvs)) (eb : H b = some (.tup (k.map kV))) (hl : kvs.length < sizeLine) :
    DPut H a (.ref b) v (upd H a (.dT (putK kvs k v))) := .inr ⟨kvs, k, b, e, rfl, eb, hl, rfl⟩


section
variable {X : Cx} {pins : List (Addr × Obj)} {σ : St} {H : Hp} {s : Shared} {a : Addr} {y v : V} {u r : Value} {o : Option V} {A : Around} {E : Value → Shared → Prop}

theorem Inv.big (I : Inv X pins σ H s) : sysModules < s.heap.objs.size := by
  have h : mainGlobals < s.heap.objs.size := (I.mod.glob.keeps I.bk).lt
  exact Nat.lt_trans (by decide) h

/-- d[y], there -/
theorem d_getItem {Q : Value → Shared → Prop} (hu : A.units + 1 < cLine) (I : Inv X pins σ H s) (g : DGet H a y (some v)) (ry : RelV y u) (h : ∀ w' s', Inv X pins σ H s' → RelV v w' → Q w' s') :
    wpAny (model X.prog X.w) A (getItem (.ref a) u) Q E s := by
  rcases g with ⟨kvs, k, e, ey, l⟩ | ⟨kvs, k, b, e, ey, eb, l⟩
  · subst ey
    obtain ⟨z, hd, vs, rel, dd⟩ := dk_rd I.hok e
    obtain ⟨w', hw, rw'⟩ := RelO.some_of (v := v) (o := valueAt vs k) (by rw [l]; exact rel.val k)
    exact wpAny_getItem_of (kV_is ry) dd.mapOf hw (h w' _ (I.tok _) rw')
  · subst ey
    cases (show u = Value.ref b from ry)
    obtain ⟨z, hd, xs, rel, dd⟩ := dt_rd I.hok e
    obtain ⟨w', hw, rw'⟩ := RelO.some_of (v := v) (o := (atKey xs k).map (·.2)) (by rw [l]; exact rel.val k)
    obtain ⟨p, hp, hp2⟩ := Option.map_eq_some_iff.mp hw
    refine wpAny_getItem_heap (tupleKind_room_in1 hu) (key_of I.hok eb) dd hp ?_
    rw [hp2]
    exact h w' _ (I.tok _) rw'
/-- y in d -/
theorem d_in {Q : Value → Shared → Prop} (hu : A.units + 1 < cLine) (I : Inv X pins σ H s) (g : DGet H a y o) (ry : RelV y u) (h : ∀ s', Inv X pins σ H s' → Q (.bool o.isSome) s') :
    wpAny (model X.prog X.w) A (compareOp .In u (.ref a)) Q E s := by
  rcases g with ⟨kvs, k, e, ey, l⟩ | ⟨kvs, k, b, e, ey, eb, l⟩
  · subst ey
    obtain ⟨z, hd, vs, rel, dd⟩ := dk_rd I.hok e
    refine wpAny_in_of (kV_is ry) hd dd.mapOf ?_
    rw [← (rel.val k).isSome_eq, ← l]
    exact h _ (I.tok _)
  · subst ey
    cases (show u = Value.ref b from ry)
    obtain ⟨z, hd, xs, rel, dd⟩ := dt_rd I.hok e
    refine wpAny_in_heap (tupleKind_room_in1 hu) (key_of I.hok eb) hd dd ?_
    have q := (rel.val k).isSome_eq
    rw [Option.isSome_map] at q
    rw [← q, ← l]
    exact h _ (I.tok _)
theorem d_notIn {Q : Value → Shared → Prop} (hu : A.units + 1 < cLine) (I : Inv X pins σ H s) (g : DGet H a y o) (ry : RelV y u) (h : ∀ s', Inv X pins σ H s' → Q (.bool (!o.isSome)) s') :
    wpAny (model X.prog X.w) A (compareOp .NotIn u (.ref a)) Q E s := by
  rcases g with ⟨kvs, k, e, ey, l⟩ | ⟨kvs, k, b, e, ey, eb, l⟩
  · subst ey
    obtain ⟨z, hd, vs, rel, dd⟩ := dk_rd I.hok e
    refine wpAny_notIn_of (kV_is ry) hd dd.mapOf ?_
    rw [← (rel.val k).isSome_eq, ← l]
    exact h _ (I.tok _)
  · subst ey
    cases (show u = Value.ref b from ry)
    obtain ⟨z, hd, xs, rel, dd⟩ := dt_rd I.hok e
    refine wpAny_notIn_heap (tupleKind_room_in1 hu) (key_of I.hok eb) hd dd ?_
    have q := (rel.val k).isSome_eq
    rw [Option.isSome_map] at q
    rw [← q, ← l]
    exact h _ (I.tok _)
/-- a dict's object is replaced -/
theorem d_write {h' : Heap} {t' : Nat} {ob : HO} (I : Inv X pins σ H s) (mu : Mut (H a)) (hs : Heap.SameBut a s.heap h') (he : ∃ q, h'.get? a = some q) (new : ObjOk X.prog X.w (upd H a ob) h' a ob) :
    Inv X pins σ (upd H a ob) { s with heap := h', toks := t' } :=
  I.write (x := a) (e := a) mu (.inl rfl) (fun b q hb z => (hs.2 b hb).trans z) he new
theorem dk_new {P : Program} {w : World} {H' : Hp} {h' : Heap} {kvs : List (Key × V)} {vs : List (Key × Value)} (z : kvs.length ≤ sizeLine) (hd : (a == sysModules) = false) (rel : KV kvs vs) (dd : h'.DictOf (mixKind P w) a vs) :
    ObjOk P w H' h' a (.dK kvs) := ⟨z, hd, vs, rel, dd⟩
/-- d[y] = v -/
theorem d_setItem {H' : Hp} {Q : Unit → Shared → Prop} (hu : A.units + 1 < cLine) (I : Inv X pins σ H s) (g : DPut H a y v H') (ry : RelV y u) (rv : RelV v r) (h : ∀ s', Inv X pins σ H' s' → Q () s') :
    wpAny (model X.prog X.w) A (setItem (.ref a) u r) Q E s := by
  rcases g with ⟨kvs, k, e, ey, l, eH⟩ | ⟨kvs, k, b, e, ey, eb, l, eH⟩
  · subst ey eH
    obtain ⟨z, hd, vs, rel, dd⟩ := dk_of I.hok e
    have hz : vs.length ≤ sizeLine := by rw [← rel.length]; exact z
    have hl : (putK kvs k v).length ≤ sizeLine := by have := length_putK kvs k v; omega
    refine wpAny_setItem_pairs (hsz := hz) (kV_is ry) dd fun h' dd' hs => h _ ?_
    have he : ∃ q, h'.get? a = some q := let ⟨q, _, _, hq, _⟩ := dd'; ⟨q, hq⟩
    exact d_write I (by rw [e]; exact True.intro) hs he (dk_new hl hd (rel.put k rv) dd')
  · subst ey eH
    cases (show u = Value.ref b from ry)
    obtain ⟨z, hd, xs, rel, dd⟩ := dt_of I.hok e
    have hz : xs.length ≤ sizeLine := by rw [← Paired.length rel]; exact z
    have hl : (putK kvs k v).length ≤ sizeLine := by have := length_putK kvs k v; omega
    refine wpAny_setItem_heap (hsz := hz) (tupleKind_room_in1 hu) (key_of I.hok eb) dd fun h' dd' hs => h _ ?_
    obtain ⟨q, es, ep, hq, h2, h3, h4, _, h5⟩ := dd'
    refine d_write I (by rw [e]; exact True.intro) hs ⟨q, hq⟩ ⟨hl, hd, _, (rel.put k eb rv).keeps fun c ys ec => ?_, q, es, ep, hq, h2, h3, h4, h5⟩
    rw [upd_ne (ne_of ec e (fun z => nomatch z))]
    exact ec
end

section
variable {X : Cx} {pins : List (Addr × Obj)} {σ : St} {H : Hp} {s : Shared} {a : Addr} {kvs : List (Key × V)} {k : Key} {u : Value} {A : Around} {E : Value → Shared → Prop}
/-- del d[k] -/
theorem d_delItem {Q : Unit → Shared → Prop} (I : Inv X pins σ H s) (e : H a = some (.dK kvs)) (ry : RelV (kV k) u) (l : (valV kvs k).isSome = true) (h : ∀ s', Inv X pins σ (upd H a (.dK (dropK kvs k))) s' → Q () s') :
    wpAny (model X.prog X.w) A (delItem (.ref a) u) Q E s := by
  obtain ⟨z, hd, vs, rel, dd⟩ := dk_of I.hok e
  refine wpAny_delItem_slot dd.typeIs (by decide) PySem.F.slot_dict_delitem
    (call_meetsIn PySem.F.slot_dict_delitem dd.typeIs PySem.F.entry_dict_delitem (PySem.F.args_dict_delitem_2 _ _) (meets_dict_delitem_pairs (mixKind X.prog X.w) a (kV_is ry)) ⟨vs, dd, by rw [← rel.length]; exact z, by rw [← (rel.val k).isSome_eq]; exact l, fun h' dd' hs => h _ ?_⟩)
  have he : ∃ q, h'.get? a = some q := let ⟨q, _, _, hq, _⟩ := dd'; ⟨q, hq⟩
  exact d_write I (by rw [e]; exact True.intro) hs he (dk_new (Nat.le_trans (dropK_le kvs k) z) hd (rel.drop k) dd')
/-- d.pop(k[, x]), there -/
theorem d_pop {v : V} {more : List Value} {Q : Value → Shared → Prop} (I : Inv X pins σ H s) (e : H a = some (.dK kvs)) (ry : RelV (kV k) u) (l : valV kvs k = some v) (hm : more = [] ∨ ∃ x, more = [x])
    (h : ∀ w' s', Inv X pins σ (upd H a (.dK (dropK kvs k))) s' → RelV v w' → Q w' s') : wpAny (model X.prog X.w) A (call (.builtin "dict.pop") (.ref a :: u :: more)) Q E s := by
  obtain ⟨z, hd, vs, rel, dd⟩ := dk_of I.hok e
  obtain ⟨w', hw, rw'⟩ := RelO.some_of (v := v) (o := valueAt vs k) (by rw [← l]; exact rel.val k)
  have hp : (keyPart u).isSome = true := by
    cases k with
    | inl i => obtain ⟨t, q⟩ := (show ∃ t, u = Value.int i t from ry); subst q; rfl
    | inr x => obtain ⟨t, q⟩ := (show ∃ t, u = Value.str x t from ry); subst q; rfl
  have ha : argsOk "dict.pop" ⟨.ref a :: u :: more, []⟩ := by
    rcases hm with q | ⟨x, q⟩
    · subst q; exact PySem.F.args_dict_pop_2 _ _
    · subst q; exact PySem.F.args_dict_pop_3 _ _ _
  refine call_meetsIn PySem.F.slot_dict_pop dd.typeIs PySem.F.entry_dict_pop ha (meets_dict_pop_there (mixKind X.prog X.w) a (kV_is ry) more hm hp)
    ⟨vs, w', dd, by rw [← rel.length]; exact z, hw, fun h' dd' hs => h w' _ ?_ rw'⟩
  have he : ∃ q, h'.get? a = some q := let ⟨q, _, _, hq, _⟩ := dd'; ⟨q, hq⟩
  exact d_write I (by rw [e]; exact True.intro) hs he (dk_new (Nat.le_trans (dropK_le kvs k) z) hd (rel.drop k) dd')
/-- d.pop(k, x), not there -/
theorem d_popD {r : Value} {Q : Value → Shared → Prop} (I : Inv X pins σ H s) (e : H a = some (.dK kvs)) (ry : RelV (kV k) u) (l : valV kvs k = none) (h : ∀ s', Inv X pins σ H s' → Q r s') :
    wpAny (model X.prog X.w) A (call (.builtin "dict.pop") [.ref a, u, r]) Q E s := by
  obtain ⟨z, hd, vs, rel, dd⟩ := dk_of I.hok e
  have hn : valueAt vs k = none := RelO.none_of (by rw [← l]; exact rel.val k)
  have hp : (keyPart u).isSome = true := by
    cases k with
    | inl i => obtain ⟨t, q⟩ := (show ∃ t, u = Value.int i t from ry); subst q; rfl
    | inr x => obtain ⟨t, q⟩ := (show ∃ t, u = Value.str x t from ry); subst q; rfl
  exact call_meetsIn PySem.F.slot_dict_pop dd.typeIs PySem.F.entry_dict_pop (PySem.F.args_dict_pop_3 _ _ _) (meets_dict_pop_default (mixKind X.prog X.w) a (kV_is ry) hd hp r) ⟨vs, dd, hn, h _ (I.tok _)⟩
/-- d.clear() -/
theorem d_clear {Q : Value → Shared → Prop} (I : Inv X pins σ H s) (e : H a = some (.dK kvs)) (h : ∀ s', Inv X pins σ (upd H a (.dK [])) s' → Q .none s') : wpAny (model X.prog X.w) A (call (.builtin "dict.clear") [.ref a]) Q E s := by
  obtain ⟨z, hd, vs, rel, dd⟩ := dk_of I.hok e
  refine call_meetsIn PySem.F.slot_dict_clear dd.typeIs PySem.F.entry_dict_clear (PySem.F.args_dict_clear_1 _) (meets_dict_clear (mixKind X.prog X.w) a) ⟨vs, dd, by rw [← rel.length]; exact z, fun h' dd' hs => h _ ?_⟩
  have he : ∃ q, h'.get? a = some q := let ⟨q, _, _, hq, _⟩ := dd'; ⟨q, hq⟩
  exact d_write (t' := s.toks) I (by rw [e]; exact True.intro) hs he (dk_new (Nat.zero_le _) hd .nil dd')
/-- len(d) -/
theorem d_len {Q : Value → Shared → Prop} (I : Inv X pins σ H s) (e : Rd H a (.dK kvs)) (h : ∀ t s', Inv X pins σ H s' → Q (.int kvs.length t) s') : wpAny (model X.prog X.w) A (call (.builtin "len") [.ref a]) Q E s := by
  obtain ⟨z, hd, vs, rel, dd⟩ := dk_rd I.hok e
  refine call_len_dict hd dd (by rw [← rel.length]; rw [sizeLine_eq] at z; omega) ?_
  rw [← rel.length]
  exact h _ _ (I.tok _)
/-- if d -/
theorem d_truth {Q : Bool → Shared → Prop} (I : Inv X pins σ H s) (e : Rd H a (.dK kvs)) (h : ∀ s', Inv X pins σ H s' → Q (!kvs.isEmpty) s') : wpAny (model X.prog X.w) A (truthy (.ref a)) Q E s := by
  obtain ⟨z, hd, vs, rel, dd⟩ := dk_rd I.hok e
  refine wpAny_truthy_dict hd dd (by rw [← rel.length]; rw [sizeLine_eq] at z; omega) ?_
  have q : kvs.isEmpty = vs.isEmpty := by cases rel <;> rfl
  rw [← q]
  exact h _ (I.tok _)
end


/-! ### readings and rules -/
/-- the element of a subscription, not a slice -/
def NoSl (i : Expr) : Prop := ∀ ov iv, subscripted i false ov iv = operate [ov, iv] (getItem ov iv)
theorem subD_of {prog : Program} {w : World} {A : Around} {E : Value → Shared → Prop} {s : Shared} {env : Env} {value slice : Expr} {pos : Pos} {T id : String} {Q : Value → Shared → Prop}
    (hl : typeLookup (.type T) "__getitem__" = pure (some (.builtin id))) (hs : NoSl slice)
    (h : wpAny (model prog w) A (eval value env) (fun o s₁ => wpAny (model prog w) A (eval slice env) (fun i s₂ => s₂.TypeIs o T ∧ wpAny (model prog w) A (getItem o i) Q E s₂) E s₁) E s) :
    wpAny (model prog w) A (eval (.Subscript value slice pos) env) Q E s := by
  refine Subscript_ (wpAny_mono h (fun o s₁ h₁ => wpAny_mono h₁ (fun i s₂ h₂ => ?_) fun _ _ x => x) fun _ _ x => x)
  obtain ⟨hT, h₂⟩ := h₂
  unfold subscriptTail
  refine wpAny_bind ?_
  rw [getitemInPython_of_ne hT.not_modules]
  refine wpAny_bind (wpAny_specialOf hT hl ?_)
  have fin : wpAny (model prog w) A (subscripted slice false o i) (fun r s₃ => wpAny (model prog w) A (letTemporaryGo value o r >>= fun _ => pure r) Q E s₃) E s₂ := by
    rw [hs o i]
    exact wpAny_operating (wpAny_mono h₂ (fun r s₃ h₃ => wpAny_bind (wpAny_letTemporaryGo (wpAny_pure h₃))) fun _ _ x => x)
  first
    | exact wpAny_pure (wpAny_bind fin)
    | exact wpAny_bind (wpAny_pure (wpAny_bind fin))
    | exact wpAny_bind fin

theorem dict_typeIs {X : Cx} {pins : List (Addr × Obj)} {σ : St} {H : Hp} {s : Shared} {a : Addr} {y : V} {o : Option V} (I : Inv X pins σ H s) (g : DGet H a y o) : s.TypeIs (.ref a) "dict" := by
  rcases g with ⟨kvs, k, e, _, _⟩ | ⟨kvs, k, b, e, _, _, _⟩
  · obtain ⟨_, _, vs, _, dd⟩ := dk_rd I.hok e
    exact dd.typeIs
  · obtain ⟨_, _, xs, _, dd⟩ := dt_rd I.hok e
    exact dd.typeIs
theorem dict_noDict {X : Cx} {pins : List (Addr × Obj)} {σ : St} {H : Hp} {s : Shared} {a : Addr} {y : V} {o : Option V} (I : Inv X pins σ H s) (g : DGet H a y o) :
    ∀ b, Value.ref a = .ref b → ∃ ob, s.heap.get? b = some ob ∧ ob.dict = none := fun b q => by
  cases q
  rcases g with ⟨kvs, k, e, _, _⟩ | ⟨kvs, k, b, e, _, _, _⟩
  · obtain ⟨_, _, vs, _, ob, _, _, h1, h2, _⟩ := dk_rd I.hok e
    exact ⟨ob, h1, h2.2.1⟩
  · obtain ⟨_, _, xs, _, ob, _, _, h1, h2, _⟩ := dt_rd I.hok e
    exact ⟨ob, h1, h2.2.1⟩

/-- d[y] -/
def tDGet (td ty : TE) : TE := fun σ H Q => td σ H fun x H1 => ty σ H1 fun y H2 => ∃ a v, x = .ref a ∧ DGet H2 a y (some v) ∧ Q v H2
/-- y in d, y not in d -/
def tDIn (ty td : TE) : TE := fun σ H Q => ty σ H fun y H1 => td σ H1 fun x H2 => ∃ a o, x = .ref a ∧ DGet H2 a y o ∧ Q (.bl o.isSome) H2
def tDNotIn (ty td : TE) : TE := fun σ H Q => ty σ H fun y H1 => td σ H1 fun x H2 => ∃ a o, x = .ref a ∧ DGet H2 a y o ∧ Q (.bl (!o.isSome)) H2
/-- d[y] = v -/
def sDPut (td ty tv : TE) : TS := fun D σ H => tv σ H fun v H1 => td σ H1 fun x H2 => ty σ H2 fun y H3 => ∃ a H4, x = .ref a ∧ DPut H3 a y v H4 ∧ D.nx σ H4
/-- d[y] op= v -/
def sDAug (td ty tv : TE) (rd : V → V → Hp → VK → Prop) : TS := fun D σ H => td σ H fun x H1 => ty σ H1 fun y H2 => ∃ a v, x = .ref a ∧ DGet H2 a y (some v) ∧
  tv σ H2 fun y2 H3 => rd v y2 H3 fun z H4 => ∃ H5, DPut H4 a y z H5 ∧ D.nx σ H5
/-- del d[y] -/
def sDDel (td ty : TE) : TS := fun D σ H => td σ H fun x H1 => ty σ H1 fun y H2 => ∃ a kvs k, x = .ref a ∧ H2 a = some (.dK kvs) ∧ y = kV k ∧ (valV kvs k).isSome = true ∧ D.nx σ (upd H2 a (.dK (dropK kvs k)))

section
variable {X : Cx} {o i e value : Expr} {pos pos' tpos : Pos} {td ty tv : TE}
theorem pe_dget (hu : X.A.units + 1 < cLine) (ho : PE X o td) (hi : PE X i ty) (hs : NoSl i) : PE X (.Subscript o i pos) (tDGet td ty) := by
  intro pins s σ H Q I h
  refine subD_of PySem.F.slot_dict_getitem.lookup hs (thn (ho pins s σ H _ I h) fun u s1 ⟨x, H1, I1, rx, q1⟩ => thn (hi pins s1 σ H1 _ I1 q1) fun iv s2 ⟨y, H2, I2, ry, a, v, ex, g, q2⟩ => ?_)
  subst ex
  obtain rfl : u = Value.ref a := rx
  exact ⟨dict_typeIs I2 g, d_getItem hu I2 g ry fun w' s3 I3 rw' => ⟨v, H2, I3, rw', q2⟩⟩
theorem pc_din (hu : X.A.units + 1 < cLine) (hi : PE X i ty) (ho : PE X o td) : PC X .In i o (tDIn ty td) := by
  intro pins s σ H Q I h
  refine thn (hi pins s σ H _ I h) fun iv s1 ⟨y, H1, I1, ry, q1⟩ => thn (ho pins s1 σ H1 _ I1 q1) fun u s2 ⟨x, H2, I2, rx, a, ov, ex, g, q2⟩ => ?_
  subst ex
  obtain rfl : u = Value.ref a := rx
  exact d_in hu I2 g ry fun s3 I3 => ⟨.bl ov.isSome, H2, I3, rfl, q2⟩
theorem pc_dnotin (hu : X.A.units + 1 < cLine) (hi : PE X i ty) (ho : PE X o td) : PC X .NotIn i o (tDNotIn ty td) := by
  intro pins s σ H Q I h
  refine thn (hi pins s σ H _ I h) fun iv s1 ⟨y, H1, I1, ry, q1⟩ => thn (ho pins s1 σ H1 _ I1 q1) fun u s2 ⟨x, H2, I2, rx, a, ov, ex, g, q2⟩ => ?_
  subst ex
  obtain rfl : u = Value.ref a := rx
  exact d_notIn hu I2 g ry fun s3 I3 => ⟨.bl (!ov.isSome), H2, I3, rfl, q2⟩
theorem ps_dput (hu : X.A.units + 1 < cLine) (ho : PE X o td) (hi : PE X i ty) (hv : PE X value tv) (hs : swapsWith value (some (.Subscript o i pos')) pos.line X.env = pure false) :
    PS X (.Assign [.Subscript o i pos'] value pos) (sDPut td ty tv) := by
  intro pins s σ H D I h
  refine wpAny_Assign_Subscript (thn (hv pins s σ H _ I h) fun r s1 ⟨v, H1, I1, rv, q1⟩ => thn (ho pins s1 σ H1 _ I1 q1) fun u s2 ⟨x, H2, I2, rx, q2⟩ => thn (hi pins s2 σ H2 _ I2 q2) fun iv s3 ⟨y, H3, I3, ry, a, H4, ex, g, q3⟩ => ?_) hs
  subst ex
  obtain rfl : u = Value.ref a := rx
  exact d_setItem hu I3 g ry rv fun s4 I4 => ⟨σ, H4, I4, q3⟩
theorem ps_daug {op : Operator} {rd : V → V → Hp → VK → Prop} (hu : X.A.units + 1 < cLine) (ho : PE X o td) (hi : PE X i ty) (hv : PE X value tv) (hop : InOp X op rd)
    (ha : ∀ ov iv new, augStore i ov iv new = (do holding [new, ov, iv] (setItem ov iv new); release [new, ov, iv] []; pure .next)) : PS X (.AugAssign (.Subscript o i tpos) op value pos) (sDAug td ty tv rd) := by
  intro pins s σ H D I h
  refine wpAny_AugAssign_SubscriptAny (thn (ho pins s σ H _ I h) fun u s1 ⟨x, H1, I1, rx, q1⟩ => thn (hi pins s1 σ H1 _ I1 q1) fun iv s2 ⟨y, H2, I2, ry, a, v, ex, g, q2⟩ => ?_) ha
  subst ex
  obtain rfl : u = Value.ref a := rx
  refine d_getItem hu I2 g ry fun w' s3 I3 rw' => thn (hv pins s3 σ H2 _ I3 q2) fun w2 s4 ⟨y2, H3, I4, ry2, q3⟩ => thn (hop pins s4 σ H3 v y2 w' w2 _ I4 rw' ry2 q3) fun w3 s5 ⟨z, H4, I5, rz, H5, g5, q4⟩ => ?_
  exact d_setItem hu I5 g5 ry rz fun s6 I6 => ⟨σ, H5, I6, q4⟩
theorem ps_ddel (ho : PE X o td) (hi : PE X i ty) : PS X (.Delete [.Subscript o i tpos] pos) (sDDel td ty) := by
  intro pins s σ H D I h
  refine wpAny_Delete (wpAny_deleteEach_cons (wpAny_delete_Subscript (thn (ho pins s σ H _ I h) fun u s1 ⟨x, H1, I1, rx, q1⟩ => thn (hi pins s1 σ H1 _ I1 q1) fun iv s2 ⟨y, H2, I2, ry, a, kvs, k, ex, e, ey, l, q2⟩ => ?_)))
  subst ex ey
  obtain rfl : u = Value.ref a := rx
  exact d_delItem I2 e ry l fun s3 I3 => wpAny_deleteEach_nil ⟨σ, _, I3, q2⟩
end


/-! ### displays -/
theorem dk_empty {P : Program} {w : World} {H : Hp} (h : Heap) (hb : sysModules < h.objs.size) : ObjOk P w H (h.push { cls := .type "dict", data := .dict #[] }) h.objs.size (.dK []) :=
  ⟨Nat.zero_le _, beq_eq_false_iff_ne.mpr (Ne.symm (Nat.ne_of_lt hb)), [], .nil, Heap.DictOf.new h⟩
theorem dt_empty {P : Program} {w : World} {H : Hp} (h : Heap) (hb : sysModules < h.objs.size) : ObjOk P w H (h.push { cls := .type "dict", data := .dict #[] }) h.objs.size (.dT []) :=
  ⟨Nat.zero_le _, beq_eq_false_iff_ne.mpr (Ne.symm (Nat.ne_of_lt hb)), [], .nil, _, #[], 0, Heap.get?_push_size _ rfl, ⟨rfl, rfl, rfl⟩, rfl, rfl, List.nodup_nil⟩
/-- {}, to be a dict of the kind that is wanted -/
def tDNewK : TE := fun _ H Q => ∀ p, H p = none → Q (.ref p) (upd H p (.dK []))
def tDNewT : TE := fun _ H Q => ∀ p, H p = none → Q (.ref p) (upd H p (.dT []))
section
variable {X : Cx} {pos : Pos}
theorem pe_dnewK : PE X (.Dict [] [] pos) tDNewK := fun pins s σ H Q I h =>
  wpAny_Dict_empty ⟨.ref s.heap.objs.size, _, I.laid (a := s.heap.objs.size) (o := .dK []) (t' := s.toks) (fun _ _ q => Heap.get?_push_of_some _ q) (Nat.le_refl _) (dk_empty s.heap I.big), rfl, h _ (I.hok.fresh (Nat.le_refl _))⟩
theorem pe_dnewT : PE X (.Dict [] [] pos) tDNewT := fun pins s σ H Q I h =>
  wpAny_Dict_empty ⟨.ref s.heap.objs.size, _, I.laid (a := s.heap.objs.size) (o := .dT []) (t' := s.toks) (fun _ _ q => Heap.get?_push_of_some _ q) (Nat.le_refl _) (dt_empty s.heap I.big), rfl, h _ (I.hok.fresh (Nat.le_refl _))⟩
end

/-- the pairs of a display, from the left -/
def tPairs : List (TE × TE) → St → Hp → (List (V × V) → Hp → Prop) → Prop
  | [], _, H, Q => Q [] H
  | (tk, tv) :: r, σ, H, Q => tk σ H fun x H1 => tv σ H1 fun y H2 => tPairs r σ H2 fun ps H3 => Q ((x, y) :: ps) H3
abbrev VV : List (V × V) → List (Value × Value) → Prop := Paired fun p q => RelV p.1 q.1 ∧ RelV p.2 q.2
def PPs (X : Cx) (pos : Pos) (keys : List (Option Expr)) (values : List Expr) (trs : List (TE × TE)) : Prop :=
  ∀ (pins : List (Addr × Obj)) (s : Shared) (σ : St) (H : Hp) (Q : List (V × V) → Hp → Prop), Inv X pins σ H s → tPairs trs σ H Q →
    wpAny (model X.prog X.w) X.A (evalPairs (pairTrees keys values X.env pos)) (fun vs s' => ∃ ps H', Inv X pins σ H' s' ∧ VV ps vs ∧ Q ps H') X.xe s
theorem pps_nil {X : Cx} {pos : Pos} : PPs X pos [] [] [] := fun pins s σ H Q I h => pairTrees_nil_walk ⟨[], H, I, .nil, h⟩
theorem pps_cons {X : Cx} {pos : Pos} {k v : Expr} {ks : List (Option Expr)} {vs : List Expr} {tk tv : TE} {trs : List (TE × TE)} (hk : PE X k tk) (hv : PE X v tv) (hr : PPs X pos ks vs trs) :
    PPs X pos (some k :: ks) (v :: vs) ((tk, tv) :: trs) := fun pins s σ H Q I h =>
  pairTrees_cons_walk (thn (hk pins s σ H _ I h) fun u s1 ⟨x, H1, I1, rx, q1⟩ => thn (hv pins s1 σ H1 _ I1 q1) fun w2 s2 ⟨y, H2, I2, ry, q2⟩ =>
    thn (hr pins s2 σ H2 _ I2 q2) fun ws s3 ⟨ps, H3, I3, rel, q3⟩ => ⟨(x, y) :: ps, H3, I3, .cons ⟨rx, ry⟩ rel, q3⟩)

def mergeK (kvs more : List (Key × V)) : List (Key × V) := more.foldl (fun acc kv => putK acc kv.1 kv.2) kvs
theorem KV.merge : ∀ {more : List (Key × V)} {rs : List (Key × Value)} {kvs : List (Key × V)} {vs : List (Key × Value)}, KV more rs → KV kvs vs → KV (mergeK kvs more) (merged vs rs) := by
  intro more rs kvs vs r
  unfold KV at r
  induction r generalizing kvs vs with
  | nil => intro q; exact q
  | @cons p q ps qs h t ih =>
    intro r0
    have e : KV (putK kvs p.1 p.2) (stored vs q.1 q.2) := by
      have := r0.put p.1 h.2
      rw [← h.1]; exact this
    exact ih e
theorem length_mergeK : ∀ (more kvs : List (Key × V)), (mergeK kvs more).length ≤ kvs.length + more.length
  | [], kvs => by show kvs.length ≤ kvs.length + 0; omega
  | p :: r, kvs => by
    have h1 := length_mergeK r (putK kvs p.1 p.2)
    have h2 := length_putK kvs p.1 p.2
    show (mergeK (putK kvs p.1 p.2) r).length ≤ _
    rw [List.length_cons]; omega
theorem carries_of {P : Program} {w : World} : ∀ {kvs : List (Key × V)} {ws : List (Value × Value)}, VV (kvs.map fun kv => (kV kv.1, kv.2)) ws → ∃ rs, Carries (mixKind P w) ws rs ∧ KV kvs rs
  | [], _, r => by rw [List.map_nil] at r; cases r; exact ⟨[], True.intro, .nil⟩
  | p :: kvs, _, r => by
    rw [List.map_cons] at r
    cases r with
    | @cons a b as bs h t =>
      obtain ⟨rs, c, q⟩ := carries_of (P := P) (w := w) t
      obtain ⟨b1, b2⟩ := b
      exact ⟨(p.1, b2) :: rs, ⟨kV_is h.1, rfl, c⟩, .cons ⟨rfl, h.2⟩ q⟩
/-- {k: v, ..} with keys ints and texts; the new dict stands empty while the pairs are made -/
def tDisp (trs : List (TE × TE)) : TE := fun σ H Q => ∀ p, H p = none → tPairs trs σ (upd H p (.dK [])) fun ps H2 => H2 p = some (.dK []) ∧ ∃ kvs : List (Key × V), ps = kvs.map (fun kv => (kV kv.1, kv.2)) ∧ kvs.length ≤ 15 ∧ Q (.ref p) (upd H2 p (.dK (mergeK [] kvs)))
theorem pe_disp {X : Cx} {pos : Pos} {keys : List (Option Expr)} {values : List Expr} {trs : List (TE × TE)} (h : PPs X pos keys values trs) (hall : keys.all (·.isSome) = true) (hl : keys.length = values.length) (h0 : keys ≠ [])
    (h15 : keys.length ≤ 15) : PE X (.Dict keys values pos) (tDisp trs) := by
  intro pins s σ H Q I q
  have hn := I.hok.fresh (Nat.le_refl s.heap.objs.size)
  have I1 := I.laid (a := s.heap.objs.size) (o := .dK []) (h' := s.heap.push { cls := .type "dict", data := .dict #[] }) (t' := s.toks) (fun _ _ q => Heap.get?_push_of_some _ q) (Nat.le_refl _) (dk_empty s.heap I.big)
  refine wpAny_Dict_walk (knd := mixKind X.prog X.w) hall hl h0 h15 (thn (h pins _ σ _ _ I1 (q _ hn)) fun ws s2 ⟨ps, H2, I2, rel, e, kvs, ep, lk, q2⟩ => ?_)
  subst ep
  obtain ⟨rs, c, rk⟩ := carries_of (P := X.prog) (w := X.w) rel
  obtain ⟨z, hd, vs0, r0, dd⟩ := dk_of I2.hok e
  cases r0
  refine ⟨rs, c, dd, fun h' dd' hs => ⟨.ref s.heap.objs.size, _, ?_, rfl, q2⟩⟩
  have hz : (mergeK [] kvs).length ≤ sizeLine := by
    have h1 := length_mergeK kvs []
    rw [List.length_nil] at h1
    rw [sizeLine_eq]; omega
  have he : ∃ q, h'.get? s.heap.objs.size = some q := let ⟨q, _, _, hq, _⟩ := dd'; ⟨q, hq⟩
  exact d_write I2 (by rw [e]; exact True.intro) hs he (dk_new hz hd (rk.merge .nil) dd')


/-! ### methods -/
/-- a method call o.m(e) of a built-in, with one argument: what must be seen of the text -/
structure M1 (X : Cx) (o : Expr) (m : Str) (apos : Pos) (e : Expr) (cpos : Pos) : Prop where
  base : attributeBase o m X.env (eval o X.env) = eval o X.env
  few : ((backTo cpos (starEach [e] X.env)).all (fun x => !x.1) && (backToKw cpos (keywordEach [] X.env)).all (fun x => x.1.isSome)
    && decide (([e] : List Expr).length + ([] : List Keyword).length + (if ([] : List Keyword).isEmpty then 0 else 1) < 30)) = true
  line : (apos.endLine == cpos.line) = true
  trees : backTo cpos (starEach [e] X.env) = [(false, eval e X.env)]
structure M2 (X : Cx) (o : Expr) (m : Str) (apos : Pos) (e f : Expr) (cpos : Pos) : Prop where
  base : attributeBase o m X.env (eval o X.env) = eval o X.env
  few : ((backTo cpos (starEach [e, f] X.env)).all (fun x => !x.1) && (backToKw cpos (keywordEach [] X.env)).all (fun x => x.1.isSome)
    && decide (([e, f] : List Expr).length + ([] : List Keyword).length + (if ([] : List Keyword).isEmpty then 0 else 1) < 30)) = true
  line : (apos.endLine == cpos.line) = true
  trees : backTo cpos (starEach [e, f] X.env) = [(false, eval e X.env), (false, eval f X.env)]

/-- a is a dict, whatever its keys -/
def IsD (H : Hp) (a : Addr) : Prop := (∃ kvs, Rd H a (.dK kvs)) ∨ ∃ kvs, Rd H a (.dT kvs)
theorem isD_at {X : Cx} {pins : List (Addr × Obj)} {σ : St} {H : Hp} {s : Shared} {a : Addr} (I : Inv X pins σ H s) (d : IsD H a) :
    s.TypeIs (.ref a) "dict" ∧ (∀ b, Value.ref a = .ref b → ∃ ob, s.heap.get? b = some ob ∧ ob.dict = none) ∧ (a == sysModules) = false := by
  rcases d with ⟨kvs, e⟩ | ⟨kvs, e⟩
  · obtain ⟨_, hd, vs, _, dd⟩ := dk_rd I.hok e
    refine ⟨dd.typeIs, fun b q => ?_, hd⟩
    cases q
    obtain ⟨ob, _, _, h1, h2, _⟩ := dd
    exact ⟨ob, h1, h2.2.1⟩
  · obtain ⟨_, hd, xs, _, dd⟩ := dt_rd I.hok e
    refine ⟨dd.typeIs, fun b q => ?_, hd⟩
    cases q
    obtain ⟨ob, _, _, h1, h2, _⟩ := dd
    exact ⟨ob, h1, h2.2.1⟩

section
variable {X : Cx} {pins : List (Addr × Obj)} {σ : St} {H : Hp} {s : Shared} {a : Addr} {y d : V} {u r : Value} {o : Option V} {A : Around} {E : Value → Shared → Prop}
/-- d.get(y) -/
theorem d_get1 {Q : Value → Shared → Prop} (hu : A.units + 1 < cLine) (I : Inv X pins σ H s) (g : DGet H a y o) (ry : RelV y u) (h : ∀ w' s', Inv X pins σ H s' → RelV (o.getD .non) w' → Q w' s') :
    wpAny (model X.prog X.w) A (call (.builtin "dict.get") [.ref a, u]) Q E s := by
  rcases g with ⟨kvs, k, e, ey, l⟩ | ⟨kvs, k, b, e, ey, eb, l⟩
  · subst ey
    obtain ⟨z, hd, vs, rel, dd⟩ := dk_rd I.hok e
    refine call_meetsIn PySem.F.slot_dict_get dd.typeIs PySem.F.entry_dict_get (PySem.F.args_dict_get_2 _ _) (meets_dict_get (mixKind X.prog X.w) a (kV_is ry) hd) ⟨_, dd.mapOf, h _ _ (I.tok _) ?_⟩
    rw [l]
    exact (rel.val k).getD rfl
  · subst ey
    cases (show u = Value.ref b from ry)
    obtain ⟨z, hd, xs, rel, dd⟩ := dt_rd I.hok e
    refine call_meetsIn PySem.F.slot_dict_get dd.typeIs PySem.F.entry_dict_get (PySem.F.args_dict_get_2 _ _) (meetsH_dict_get (tupleKind (mixKind X.prog X.w)) a b hd) ⟨tupleKind_room_in1 hu, k, xs, key_of I.hok eb, dd, h _ _ (I.tok _) ?_⟩
    rw [l]
    exact (rel.val k).getD rfl
/-- d.get(y, x) -/
theorem d_get2 {Q : Value → Shared → Prop} (hu : A.units + 1 < cLine) (I : Inv X pins σ H s) (g : DGet H a y o) (ry : RelV y u) (rd : RelV d r) (h : ∀ w' s', Inv X pins σ H s' → RelV (o.getD d) w' → Q w' s') :
    wpAny (model X.prog X.w) A (call (.builtin "dict.get") [.ref a, u, r]) Q E s := by
  rcases g with ⟨kvs, k, e, ey, l⟩ | ⟨kvs, k, b, e, ey, eb, l⟩
  · subst ey
    obtain ⟨z, hd, vs, rel, dd⟩ := dk_rd I.hok e
    refine call_meetsIn PySem.F.slot_dict_get dd.typeIs PySem.F.entry_dict_get (PySem.F.args_dict_get_3 _ _ _) (meets_dict_get_default (mixKind X.prog X.w) a (kV_is ry) hd r) ⟨_, dd.mapOf, h _ _ (I.tok _) ?_⟩
    rw [l]
    exact (rel.val k).getD rd
  · subst ey
    cases (show u = Value.ref b from ry)
    obtain ⟨z, hd, xs, rel, dd⟩ := dt_rd I.hok e
    refine call_meetsIn PySem.F.slot_dict_get dd.typeIs PySem.F.entry_dict_get (PySem.F.args_dict_get_3 _ _ _) (meetsH_dict_get_default (tupleKind (mixKind X.prog X.w)) a b hd r) ⟨tupleKind_room_in1 hu, k, xs, key_of I.hok eb, dd, h _ _ (I.tok _) ?_⟩
    rw [l]
    exact (rel.val k).getD rd
end

def tDGet1 (td ty : TE) : TE := fun σ H Q => td σ H fun x H1 => ∃ a, x = .ref a ∧ IsD H1 a ∧ ty σ H1 fun y H2 => ∃ o, DGet H2 a y o ∧ Q (o.getD .non) H2
def tDGet2 (td ty tx : TE) : TE := fun σ H Q => td σ H fun x H1 => ∃ a, x = .ref a ∧ IsD H1 a ∧ ty σ H1 fun y H2 => tx σ H2 fun z H3 => ∃ o, DGet H3 a y o ∧ Q (o.getD z) H3
/-- d.pop(k): there; d.pop(k, x): there or not -/
def tDPop1 (td ty : TE) : TE := fun σ H Q => td σ H fun x H1 => ∃ a, x = .ref a ∧ IsD H1 a ∧ ty σ H1 fun y H2 => ∃ kvs k v, H2 a = some (.dK kvs) ∧ y = kV k ∧ valV kvs k = some v ∧ Q v (upd H2 a (.dK (dropK kvs k)))
def tDPop2 (td ty tx : TE) : TE := fun σ H Q => td σ H fun x H1 => ∃ a, x = .ref a ∧ IsD H1 a ∧ ty σ H1 fun y H2 => tx σ H2 fun z H3 => ∃ kvs k, H3 a = some (.dK kvs) ∧ y = kV k ∧
  (∀ v, valV kvs k = some v → Q v (upd H3 a (.dK (dropK kvs k)))) ∧ (valV kvs k = none → Q z H3)
section
variable {X : Cx} {o e f : Expr} {apos cpos : Pos} {td ty tx : TE}
theorem pe_dget1 (hu : X.A.units + 1 < cLine) (ho : PE X o td) (he : PE X e ty) (m : M1 X o "get" apos e cpos) : PE X (.Call (.Attribute o "get" apos) [e] [] cpos) (tDGet1 td ty) := by
  intro pins s σ H Q I h
  refine wpAny_Call_method m.base m.few m.line PySem.F.plainAttrs_dict PySem.F.slot_dict_get PySem.F.type_dict_get (thn (ho pins s σ H _ I h) fun u s1 ⟨x, H1, I1, rx, a, ex, d, q1⟩ => ?_)
  subst ex
  obtain rfl : u = Value.ref a := rx
  obtain ⟨t1, t2, _⟩ := isD_at I1 d
  refine ⟨t1, t2, ?_⟩
  rw [m.trees]
  refine Calls.callWith_builtin rfl (Calls.evalArgs_plain (Calls.spliced_cons (thn (he pins s1 σ H1 _ I1 q1) fun iv s2 ⟨y, H2, I2, ry, ov, g, q2⟩ => Calls.spliced_nil ?_)))
  exact d_get1 hu I2 g ry fun w' s3 I3 rw' => ⟨_, H2, I3, rw', q2⟩
theorem pe_dget2 (hu : X.A.units + 1 < cLine) (ho : PE X o td) (he : PE X e ty) (hf : PE X f tx) (m : M2 X o "get" apos e f cpos) : PE X (.Call (.Attribute o "get" apos) [e, f] [] cpos) (tDGet2 td ty tx) := by
  intro pins s σ H Q I h
  refine wpAny_Call_method m.base m.few m.line PySem.F.plainAttrs_dict PySem.F.slot_dict_get PySem.F.type_dict_get (thn (ho pins s σ H _ I h) fun u s1 ⟨x, H1, I1, rx, a, ex, d, q1⟩ => ?_)
  subst ex
  obtain rfl : u = Value.ref a := rx
  obtain ⟨t1, t2, _⟩ := isD_at I1 d
  refine ⟨t1, t2, ?_⟩
  rw [m.trees]
  refine Calls.callWith_builtin rfl (Calls.evalArgs_plain (Calls.spliced_cons (thn (he pins s1 σ H1 _ I1 q1) fun iv s2 ⟨y, H2, I2, ry, q2⟩ =>
    Calls.spliced_cons (thn (hf pins s2 σ H2 _ I2 q2) fun fv s3 ⟨z, H3, I3, rz, ov, g, q3⟩ => Calls.spliced_nil ?_))))
  exact d_get2 hu I3 g ry rz fun w' s4 I4 rw' => ⟨_, H3, I4, rw', q3⟩
theorem pe_dpop1 (ho : PE X o td) (he : PE X e ty) (m : M1 X o "pop" apos e cpos) : PE X (.Call (.Attribute o "pop" apos) [e] [] cpos) (tDPop1 td ty) := by
  intro pins s σ H Q I h
  refine wpAny_Call_method m.base m.few m.line PySem.F.plainAttrs_dict PySem.F.slot_dict_pop PySem.F.type_dict_pop (thn (ho pins s σ H _ I h) fun u s1 ⟨x, H1, I1, rx, a, ex, d, q1⟩ => ?_)
  subst ex
  obtain rfl : u = Value.ref a := rx
  obtain ⟨t1, t2, _⟩ := isD_at I1 d
  refine ⟨t1, t2, ?_⟩
  rw [m.trees]
  refine Calls.callWith_builtin rfl (Calls.evalArgs_plain (Calls.spliced_cons (thn (he pins s1 σ H1 _ I1 q1) fun iv s2 ⟨y, H2, I2, ry, kvs, k, v, ea, ey, l, q2⟩ => Calls.spliced_nil ?_)))
  subst ey
  exact d_pop I2 ea ry l (.inl rfl) fun w' s3 I3 rw' => ⟨v, _, I3, rw', q2⟩
theorem pe_dpop2 (ho : PE X o td) (he : PE X e ty) (hf : PE X f tx) (m : M2 X o "pop" apos e f cpos) : PE X (.Call (.Attribute o "pop" apos) [e, f] [] cpos) (tDPop2 td ty tx) := by
  intro pins s σ H Q I h
  refine wpAny_Call_method m.base m.few m.line PySem.F.plainAttrs_dict PySem.F.slot_dict_pop PySem.F.type_dict_pop (thn (ho pins s σ H _ I h) fun u s1 ⟨x, H1, I1, rx, a, ex, d, q1⟩ => ?_)
  subst ex
  obtain rfl : u = Value.ref a := rx
  obtain ⟨t1, t2, _⟩ := isD_at I1 d
  refine ⟨t1, t2, ?_⟩
  rw [m.trees]
  refine Calls.callWith_builtin rfl (Calls.evalArgs_plain (Calls.spliced_cons (thn (he pins s1 σ H1 _ I1 q1) fun iv s2 ⟨y, H2, I2, ry, q2⟩ =>
    Calls.spliced_cons (thn (hf pins s2 σ H2 _ I2 q2) fun fv s3 ⟨z, H3, I3, rz, kvs, k, ea, ey, q3, q4⟩ => Calls.spliced_nil ?_))))
  subst ey
  cases l : valV kvs k with
  | some v => exact d_pop I3 ea ry l (.inr ⟨fv, rfl⟩) fun w' s4 I4 rw' => ⟨v, _, I4, rw', q3 v l⟩
  | none => exact d_popD I3 ea ry l fun s4 I4 => ⟨z, H3, I4, rz, q4 l⟩
end

/-! ### dict(d): a copy -/
section
variable {X : Cx} {pins : List (Addr × Obj)} {σ : St} {H : Hp} {s : Shared} {a : Addr} {kvs : List (Key × V)} {A : Around} {E : Value → Shared → Prop}
theorem d_copyOf {Q : Value → Shared → Prop} (I : Inv X pins σ H s) (e : Rd H a (.dK kvs)) (h : ∀ p s', H p = none → Inv X pins σ (upd H p (.dK kvs)) s' → Q (.ref p) s') : wpAny (model X.prog X.w) A (call (.type "dict") [.ref a]) Q E s := by
  obtain ⟨z, hd, vs, rel, dd⟩ := dk_rd I.hok e
  refine kt_call_dict hd dd (by rw [← rel.length]; exact z) fun h' dd' hs => ?_
  refine h _ _ (I.hok.fresh (Nat.le_refl _)) (I.laid (a := s.heap.objs.size) (o := .dK kvs) (t' := s.toks) (fun b q hq => ?_) (Nat.le_refl _) (dk_new z (beq_eq_false_iff_ne.mpr (Ne.symm (Nat.ne_of_lt I.big))) rel dd'))
  exact (hs.2 b (Nat.ne_of_lt (Heap.lt_size hq))).trans (Heap.get?_push_of_some _ hq)
end


section
variable {X : Cx} {pins : List (Addr × Obj)} {σ : St} {H : Hp} {s : Shared} {a : Addr} {y : V} {u : Value} {A : Around} {E : Value → Shared → Prop}
/-- d[y], not there: a KeyError -/
theorem d_missing {Q : Value → Shared → Prop} (hu : A.units + 1 < cLine) (hh : A.handled = none) (I : Inv X pins σ H s) (g : DGet H a y none) (ry : RelV y u)
    (h : ∀ h' e t', Heap.NewExc s.heap h' e "KeyError" → E (.ref e) { s with heap := h', toks := t' }) : wpAny (model X.prog X.w) A (getItem (.ref a) u) Q E s := by
  rcases g with ⟨kvs, k, e, ey, l⟩ | ⟨kvs, k, b, e, ey, eb, l⟩
  · subst ey
    obtain ⟨z, hd, vs, rel, dd⟩ := dk_rd I.hok e
    have hn : valueAt vs k = none := RelO.none_of (by rw [l]; exact rel.val k)
    exact wpAny_getItem_missing_of (kV_is ry) hd hh dd.mapOf hn fun h' ex ne => h h' ex _ ne
  · subst ey
    cases (show u = Value.ref b from ry)
    obtain ⟨z, hd, xs, rel, dd⟩ := dt_rd I.hok e
    have hn : (atKey xs k).map (·.2) = none := RelO.none_of (by rw [l]; exact rel.val k)
    exact wpAny_getItem_missing_heap (tupleKind_room_in1 hu) (key_of I.hok eb) hd hh dd (Option.map_eq_none_iff.mp hn) fun h' ex ne => h h' ex _ ne
end
end L2

namespace L2
open PySem PySem.Spec PyProof.Rows

theorem list_keys_none : typeLookup (.type "list") "keys" = pure none := am_miss_of_fast (by first | decide +kernel | rfl)
theorem ud_entry : entryFor table "dict.update.loop" = some Builtin.«dict.update.loop» := entryFor_of_tree (by kernel_rfl)
theorem ud_plain : plainId "dict.update.loop" = true := by decide +kernel

section
variable {prog : Program} {w : World} {A : Around} {E : Value → Shared → Prop}
/-- a list has no attribute 'keys': an AttributeError is made, and forgotten -/
theorem miss_list {s : Shared} {a : Addr} {o : Obj} {xs : Array Value} {k : Nat} {Q : Option Value → Shared → Prop} (hx : s.heap.get? a = some o) (hc : o.cls = .type "list") (hdat : o.data = .seq xs k) (hd : o.dict = none) (hA : A.handled = none)
    (h : ∀ h' tk, (∀ b ob, s.heap.get? b = some ob → h'.get? b = some ob) → Q none { s with heap := h', toks := tk }) : wpAny (model prog w) A (getAttr? (.ref a) "keys") Q E s := by
  obtain ⟨c, dct, dat, sl⟩ := o
  simp only at hc hdat hd
  subst hc hdat hd
  obtain ⟨hp, g, d, tk, os⟩ := s
  have hT : ∀ tk', (⟨hp, g, d, tk', os⟩ : Shared).TypeIs (.ref a) "list" := fun _ => ⟨_, hx, rfl⟩
  have hmiss := list_keys_none
  have hname : (["__module__", "__name__", "__qualname__", "__doc__", "__annotations__"] : List Str).contains "keys" = false := by decide +kernel
  have hsz : ("keys" : Str).length + 100 ≤ sizeLine := by first | size_fits | decide +kernel
  have f1 := sub_AttributeError
  have f3 := PySem.F.slot_list_getattribute.lookup
  have f4 := PySem.F.slot_list_getattribute.bind (.ref a)
  have f5 := am_list_getattr_none
  unfold getAttr? getAttrBy? getAttrBy
  repeat (any_goals (first | assumption | exact hT _ | ((with_reducible show wpAny _ _ (call (Value.builtin "list.__getattribute__") _ _) _ _ _); refine call_meets PySem.F.slot_list_getattribute (hT _) am_entry_list_getattribute (PySem.F.args_list_getattribute_2 _ _) (meets_getattribute_miss_list a xs k sl "keys" _ hmiss hname hsz) ⟨hx, hA, fun h' tk' e hx' => ?_⟩) | wp_step))
  obtain ⟨t', u', he⟩ := hx'.there
  show wpAny _ _ (getattributeRaised _ _ _ _ _ _ _) _ _ _
  unfold getattributeRaised
  repeat (any_goals (first | assumption | wp_step))
  all_goals first | exact h _ _ hx'.keeps | (dsimp only; repeat (any_goals (first | assumption | exact h _ _ hx'.keeps | wp_step)))

/-- the walk over the pairs -/
theorem upd_loop {R : Result → Shared → Prop} {S I l : Addr} {items : Array Value} {res : Value} (hh : A.handled = none) (hlI : l ≠ I) (hSI : S ≠ I) (hSl : S ≠ l) :
    ∀ (rest : List (Key × Value)) (i : Nat) (acc : List (Key × Value)) (ix : Int) (t : Tok) (s : Shared), items.size = i + rest.length → acc.length + rest.length ≤ sizeLine →
      (∀ (j : Nat) (q : Key × Value), rest[j]? = some q → ∃ (b : Addr) (u : Value), items[i + j]? = some (.ref b) ∧ b ≠ S ∧ b ≠ I ∧ IsTup s.heap b #[u, q.2] ∧ keyIs q.1 u = true) →
      s.heap.IsListIter I l i → s.heap.IsList l items → s.heap.DictOf (mixKind prog w) S acc →
      (∀ h' tk, h'.DictOf (mixKind prog w) S (merged acc rest) → (∀ b o, b ≠ S → b ≠ I → s.heap.get? b = some o → h'.get? b = some o) → R (.ok (.ret res)) { s with heap := h', toks := tk }) →
      codeAny (model prog w) A (.builtin "dict.update.loop" ⟨[.ref S, .ref I, .int ix t, res], []⟩) R s
  | [], i, acc, ix, t, s, hsz, hln, ht, hit, hl, hm, hR => by
    refine codeAny_builtin ud_entry ?_
    rw [Around.under_plainId ud_plain _]
    show wpAny _ A.in1 (pyNext (.ref I) >>= _) _ _ s
    refine wpAny_bind (wpAny_pyNext_list_end (A := A.in1) hh hit hl (by first | exact Array.getElem?_eq_none (Nat.le_of_eq hsz) | (simp at hsz; simp; omega)) fun h' he => ?_)
    show wpAny _ A.in1 (Builtin.Dict.addKeywords S [] >>= _) _ _ _
    refine wpAny_bind (wpAny_pure (wpAny_pure ?_))
    exact hR h' s.toks (hm.extBut he hSI) fun b o _ hb e => he b o hb e
  | q :: rest, i, acc, ix, t, s, hsz, hln, ht, hit, hl, hm, hR => by
    obtain ⟨b, u, hb, hbS, hbI, htup, hk⟩ := ht 0 q rfl
    rw [List.length_cons] at hsz hln
    refine codeAny_builtin ud_entry ?_
    rw [Around.under_plainId ud_plain _]
    show wpAny _ A.in1 (pyNext (.ref I) >>= _) _ _ s
    refine wpAny_bind (wpAny_pyNext_list_item (x := .ref b) hit hl (by simpa using hb) fun h1 hit1 hs1 => ?_)
    have ht1 : IsTup h1 b #[u, q.2] := htup.extBut hs1.extBut hbI
    have hl1 : h1.IsList l items := hl.extBut hs1.extBut hlI
    have hm1 : h1.DictOf (mixKind prog w) S acc := hm.extBut hs1.extBut hSI
    obtain ⟨o, ho, hc, n, hd⟩ := id ht1
    show wpAny _ A.in1 (holding [Value.ref b] _ >>= _) _ _ _
    refine wpAny_bind (wpAny_holding ?_)
    refine wpAny_bind (wpAny_tryCatch ?_)
    unfold Builtin.Dict.pairItems
    refine wpAny_bind (wpAny_typeOf (T := "tuple") ⟨o, ho, hc⟩ ?_)
    rw [if_pos (by first | decide | rfl | simp)]
    refine wpAny_bind (wpAny_seqItems ho hd (wpAny_pure ?_))
    show wpAny _ A.in1 (holding [u, q.2] (dictSet S u q.2)) _ _ _
    refine wpAny_holding (wpAny_dictSet_pairs (knd := mixKind prog w) (k := q.1) hk hm1 (fun h2 hm2 hs2 => ?_) (by omega))
    refine wpAny_pure ⟨plainId_quiet ud_plain _, upd_loop (items := items) hh hlI hSI hSl rest (i + 1) (stored acc q.1 q.2) (ix + 1) 0 _ (show items.size = i + 1 + rest.length by omega) ?_ (fun j q' e => ?_) ?_ ?_ hm2 fun h' tk hd' k => ?_⟩
    · have z := stored_length_le acc q.1 q.2
      omega
    · obtain ⟨b', u', hb', hbS', hbI', htup', hk'⟩ := ht (j + 1) q' (by simpa using e)
      refine ⟨b', u', ?_, hbS', hbI', (htup'.extBut hs1.extBut hbI').extBut hs2.extBut hbS', hk'⟩
      rw [show i + 1 + j = i + (j + 1) by omega]
      exact hb'
    · exact hit1.at fun o' e => hs2.extBut I o' (Ne.symm hSI) e
    · exact hl1.extBut hs2.extBut (Ne.symm hSl)
    · exact hR h' tk hd' fun c oc h3 h4 e => k c oc h3 h4 (hs2.extBut c oc h3 (hs1.extBut c oc h4 e))

/-- dict(l) of a list of pairs -/
theorem call_dict_pairs {s : Shared} {l : Addr} {ol : Obj} {items : Array Value} {n : Nat} {prs : List (Key × Value)} {Q : Value → Shared → Prop} (hh : A.handled = none) (hl : s.heap.get? l = some ol) (hc : ol.cls = .type "list") (hd : ol.dict = none)
    (hdat : ol.data = .seq items n) (hsz : items.size = prs.length) (hln : prs.length ≤ sizeLine)
    (ht : ∀ (j : Nat) (q : Key × Value), prs[j]? = some q → ∃ (b : Addr) (u : Value), items[j]? = some (.ref b) ∧ IsTup s.heap b #[u, q.2] ∧ keyIs q.1 u = true)
    (h : ∀ h' tk, h'.DictOf (mixKind prog w) s.heap.objs.size (merged [] prs) → (∀ b o, s.heap.get? b = some o → h'.get? b = some o) → Q (.ref s.heap.objs.size) { s with heap := h', toks := tk }) :
    wpAny (model prog w) A (call (.type "dict") [.ref l]) Q E s := by
  refine callType_codes (Q₁ := fun obj s₁ => obj = .ref s.heap.objs.size ∧ s₁ = { s with heap := s.heap.push { cls := .type "dict", data := .dict #[] } }) PySem.F.kt_called_dict (PySem.F.kt_typeCall_dict_1 _) PySem.F.entry_dict_init (kt_code_dict_new _ ⟨rfl, rfl⟩) ?_
  rintro obj s₁ ⟨rfl, rfl⟩
  have hnew : (s.heap.push { cls := .type "dict", data := .dict #[] }).DictOf (mixKind prog w) s.heap.objs.size [] := Heap.DictOf.new s.heap
  have k0 : ∀ b o, s.heap.get? b = some o → (s.heap.push { cls := .type "dict", data := .dict #[] }).get? b = some o := fun b o e => Heap.get?_push_of_some _ e
  refine ⟨hnew.typeIs, PySem.F.args_dict_init_2 _ _, ?_⟩
  unfold Builtin.«dict.__init__»
  refine wpAny_bind ?_
  unfold Builtin.Dict.selfAndRest
  refine wpAny_bind (wpAny_notOrdered_dict hnew.typeIs ?_)
  show wpAny _ _ (pure (s.heap.objs.size, [Value.ref l])) _ _ _
  refine wpAny_pure ?_
  show wpAny _ _ (Builtin.Dict.updateFrom "dict.__init__" s.heap.objs.size (.ref l) [] .none) _ _ _
  unfold Builtin.Dict.updateFrom
  refine wpAny_bind (wpAny_typeOf (T := "list") ⟨ol, k0 _ _ hl, hc⟩ ?_)
  rw [if_pos (by first | decide | rfl | simp)]
  refine wpAny_bind (miss_list (k0 _ _ hl) hc hdat hd hh fun h1 tk1 hk1 => ?_)
  rw [if_pos (show (none : Option Value).isNone = true from rfl)]
  refine wpAny_bind (wpAny_rule ?_)
  have hl1 : h1.IsList l items := ⟨ol, hk1 _ _ (k0 _ _ hl), hc, n, hdat⟩
  have hS1 : s.heap.objs.size < h1.objs.size := by
    have e : (s.heap.push { cls := .type "dict", data := .dict #[] }).get? s.heap.objs.size = some { cls := .type "dict", data := .dict #[] } := Heap.get?_push_size _ rfl
    exact Heap.lt_size (hk1 _ _ e)
  refine wpAny_bind (wpAny_pyIter_list hl1 ?_)
  have k2 : ∀ b o, h1.get? b = some o → (h1.push { cls := .type "list_iterator", data := .fields #[.ref l, .int 0 0] }).get? b = some o := fun b o e => Heap.get?_push_of_some _ e
  have hlt : l < s.heap.objs.size := Heap.lt_size hl
  have key := upd_loop (prog := prog) (w := w) (A := A.in1) (R := wants (fun r s₂ => r = .none ∧ Q (.ref s.heap.objs.size) s₂) E) (S := s.heap.objs.size) (I := h1.objs.size) (l := l) (items := items) (res := Value.none) hh
    (Nat.ne_of_lt (Nat.lt_trans hlt hS1)) (Nat.ne_of_lt hS1) (Nat.ne_of_gt hlt) prs 0 [] 0 0
    { s with heap := h1.push { cls := .type "list_iterator", data := .fields #[.ref l, .int 0 0] }, toks := tk1 } (by rw [hsz, Nat.zero_add]) (by rw [List.length_nil, Nat.zero_add]; exact hln)
    (fun j q e => by
      obtain ⟨b, u, e1, e2, e3⟩ := ht j q e
      have hb : b < s.heap.objs.size := e2.lt
      exact ⟨b, u, by rw [Nat.zero_add]; exact e1, Nat.ne_of_lt hb, Nat.ne_of_lt (Nat.lt_trans hb hS1), e2.keeps fun c o z => k2 _ _ (hk1 _ _ (k0 _ _ z)), e3⟩)
    ⟨_, Heap.get?_push_size _ rfl, rfl, rfl⟩ (hl1.at fun o e => k2 _ _ e) ((hnew.at fun o e => hk1 _ _ e).at fun o e => k2 _ _ e)
    (fun h' tk hd' k => ⟨rfl, h h' tk hd' fun b o e => k b o (Nat.ne_of_lt (Heap.lt_size e)) (Nat.ne_of_lt (Nat.lt_trans (Heap.lt_size e) hS1)) (k2 _ _ (hk1 _ _ (k0 _ _ e)))⟩)
  first
    | exact wpAny_pure ⟨plainId_quiet ud_plain _, key⟩
    | exact wpAny_bind (wpAny_pure (wpAny_pure ⟨plainId_quiet ud_plain _, key⟩))
end

section
variable {X : Cx}
theorem pairs_of {pins : List (Addr × Obj)} {σ : St} {H : Hp} {s : Shared} (I : Inv X pins σ H s) : ∀ {ps : List Addr} {kvs : List (Key × V)}, Paired (fun p kv => SqT X.K H p [kV kv.1, kv.2]) ps kvs →
    ∃ prs : List (Key × Value), KV kvs prs ∧ prs.length = ps.length ∧ ∀ (j : Nat) (q : Key × Value), prs[j]? = some q → ∃ (b : Addr) (u : Value), ps[j]? = some b ∧ IsTup s.heap b #[u, q.2] ∧ keyIs q.1 u = true
  | _, _, .nil => ⟨[], .nil, rfl, fun j q e => by simp at e⟩
  | _, _, .cons (a := p) (b := kv) h t => by
    obtain ⟨prs, r, hl, hp⟩ := pairs_of I t
    obtain ⟨its, rv, ht, _⟩ := I.tuple h
    obtain ⟨u, y, ei, ru, ry⟩ := vals2 rv
    subst ei
    refine ⟨(kv.1, y) :: prs, .cons ⟨rfl, ry⟩ r, by rw [List.length_cons, List.length_cons, hl], fun j q e => ?_⟩
    cases j with
    | zero =>
      have e' : (kv.1, y) = q := Option.some.inj e
      subst e'
      exact ⟨p, u, rfl, ht, kV_is (P := X.prog) (w := X.w) ru⟩
    | succ j =>
      obtain ⟨b, u', e1, e2, e3⟩ := hp j q (by simpa using e)
      exact ⟨b, u', by simpa using e1, e2, e3⟩
theorem refs_at : ∀ {ps : List Addr} {us : List Value}, Vals (ps.map V.ref) us → us = ps.map Value.ref
  | [], us, r => by
    rw [List.map_nil] at r
    cases r
    rfl
  | p :: ps, us, r => by
    rw [List.map_cons] at r
    cases r with
    | cons h t =>
      cases h
      rw [List.map_cons, ← refs_at t]
/-- dict(xs) of a list of pairs (key, value): later pairs win, the place is the first one's -/
theorem call_dictP (hcalm : X.calm = true) : CallR X (.type "dict") (fun xs H Q => ∃ (a : Addr) (ps : List Addr) (kvs : List (Key × V)), xs = [.ref a] ∧ SqL X.K H a (ps.map V.ref) ∧ Paired (fun p kv => SqT X.K H p [kV kv.1, kv.2]) ps kvs ∧
    ∀ p, H p = none → Q (.ref p) (upd H p (.dK (mergeK [] kvs)))) := by
  intro pins s σ H xs us Q I r q
  obtain ⟨a, ps, kvs, ex, hq, hp, q⟩ := q
  subst ex
  obtain ⟨u, eu, rx⟩ := vals1 r
  subst eu
  cases rx
  obtain ⟨its, rv, pl, hz⟩ := I.list hq
  have ei := refs_at rv
  subst ei
  rw [List.length_map] at hz
  obtain ⟨prs, rel, hl, hpr⟩ := pairs_of I hp
  obtain ⟨o, n, ho, hc, hd, hdat⟩ := pl
  refine call_dict_pairs (prs := prs) (I.ok.hd hcalm) ho hc hd hdat (by simp [hl]) (by rw [hl]; exact hz) (fun j q' e => ?_) fun h' tk hd' k => ?_
  · obtain ⟨b, u, e1, e2, e3⟩ := hpr j q' e
    exact ⟨b, u, by simp [e1], e2, e3⟩
  · have hm : (s.heap.objs.size == sysModules) = false := beq_eq_false_iff_ne.mpr (Nat.ne_of_gt I.big)
    have hlen : (mergeK [] kvs).length ≤ sizeLine := by
      refine Nat.le_trans (length_mergeK kvs []) ?_
      rw [List.length_nil, Nat.zero_add, rel.length, hl]
      exact hz
    exact ⟨.ref s.heap.objs.size, upd H s.heap.objs.size (.dK (mergeK [] kvs)), I.laid (t' := tk) k (Nat.le_refl _) (show ObjOk X.prog X.w _ _ _ (.dK (mergeK [] kvs)) from ⟨hlen, hm, merged [] prs, KV.merge rel .nil, hd'⟩), rfl, q _ (I.hok.fresh (Nat.le_refl _))⟩
end
end L2

namespace L2
open PySem PySem.Spec PyProof.Rows

theorem boot_reversed5 : bootBuiltins "reversed" = some (.type "reversed") := by decide +kernel

section
variable {X : Cx} {pins : List (Addr × Obj)} {σ : St} {H : Hp} {s : Shared} {h' : Heap}
/-- several records of ours have turned -/
theorem Inv.turnedL {t' : Nat} {ch : List Addr} (I : Inv X pins σ H s) (k : ∀ b o, b ∉ ch → s.heap.get? b = some o → h'.get? b = some o) (hf : ∀ b ∈ ch, FpOk X pins H b) : Inv X pins σ H { s with heap := h', toks := t' } := by
  have nit : ∀ b u, H b = some u → b ∉ ch := fun b u e z => by
    have q := (hf b z).1
    rw [q] at e; cases e
  refine I.step (g' := s.gens) (d' := s.drawn) (ch := ch) (fun b hb => ⟨(hf b hb).2.2.2.1, (hf b hb).2.1, (hf b hb).2.2.2.2.1, (hf b hb).2.2.2.2.2⟩) (fun b o _ _ hc e _ => k b o hc e) (fun b o _ _ hc e _ => ⟨o.slots, k b o hc e⟩)
    (fun _ _ _ _ n => n) (fun b o hc e => ⟨o, k b o hc e⟩) (fun _ _ e => e) (fun _ _ _ e => e) (fun b ps e => ⟨#[], by rw [e]; simp⟩) (fun m hm => ?_) (fun b u e => ?_) I.bare
  · obtain ⟨o, es, ep, ho, r⟩ := hm
    exact ⟨o, es, ep, k _ o (fun z => (hf _ z).2.1 rfl) ho, r⟩
  · refine (I.hok b u e).stay (fun c v hc q => k c v ?_ q) (fun _ q => q) fun _ _ q => q
    rcases hc with z | z
    · rw [z]; exact nit b u e
    · exact nit c _ z
/-- .. and one new object is laid -/
theorem Inv.turnedNew {t' : Nat} {ch : List Addr} {T : Addr} {ob : HO} (I : Inv X pins σ H s) (k : ∀ b o, b ∉ ch → s.heap.get? b = some o → h'.get? b = some o) (hf : ∀ b ∈ ch, FpOk X pins H b) (hT : s.heap.objs.size ≤ T)
    (new : ObjOk X.prog X.w (upd H T ob) h' T ob) : Inv X pins σ (upd H T ob) { s with heap := h', toks := t' } := by
  have hn : H T = none := I.hok.fresh hT
  have nit : ∀ b u, H b = some u → b ∉ ch := fun b u e z => by
    have q := (hf b z).1
    rw [q] at e; cases e
  refine I.step (g' := s.gens) (d' := s.drawn) (ch := ch) (fun b hb => ⟨(hf b hb).2.2.2.1, (hf b hb).2.1, (hf b hb).2.2.2.2.1, (hf b hb).2.2.2.2.2⟩) (fun b o _ _ hc e _ => k b o hc e) (fun b o _ _ hc e _ => ⟨o.slots, k b o hc e⟩)
    (fun b o _ e n => ?_) (fun b o hc e => ⟨o, k b o hc e⟩) (fun b xs e => ?_) (fun b o u e => ?_) (fun b ps e => ⟨#[], ?_⟩) (fun m hm => ?_) (fun b u e => ?_) I.bare
  · rw [upd_ne (Nat.ne_of_lt (Nat.lt_of_lt_of_le (Heap.lt_size e) hT))]; exact n
  · rw [upd_ne (ne_of_none e hn)]; exact e
  · rw [upd_ne (ne_of_none e hn)]; exact e
  · rw [upd_ne (ne_of_none e hn), e]; simp
  · obtain ⟨o, es, ep, ho, r⟩ := hm
    exact ⟨o, es, ep, k _ o (fun z => (hf _ z).2.1 rfl) ho, r⟩
  · by_cases hb : b = T
    · subst hb
      rw [upd_same] at e
      cases e
      exact new
    · rw [upd_ne hb] at e
      refine (I.hok b u e).stay (fun c v hc q => k c v ?_ q) (fun c q => by rw [upd_ne (ne_of_none q hn)]; exact q) fun c xs q => by rw [upd_ne (ne_of_none q hn)]; exact q
      rcases hc with z | z
      · rw [z]; exact nit b u e
      · exact nit c _ z

/-! ### locking a thing while a statement runs -/
theorem Inv.lock {d : Addr} {u : HO} (I : Inv X pins σ H s) (h : H d = some u) (mu : Mut (some u)) : ∃ od, Inv X pins σ (upd H d (.frz od u)) s := by
  have x := I.hok d u h
  have ex : ∃ od, s.heap.get? d = some od := by
    cases u with
    | lst xs => obtain ⟨_, _, _, _, e⟩ := x; exact ⟨_, e⟩
    | dK kvs => obtain ⟨_, _, _, _, o, _, _, e, _⟩ := x; exact ⟨o, e⟩
    | dT kvs => obtain ⟨_, _, _, _, o, _, _, e, _⟩ := x; exact ⟨o, e⟩
    | set S n => obtain ⟨o, _, _, _, e, _⟩ := x; exact ⟨o, e⟩
    | ins C dx fs => obtain ⟨_, _, _, e, _⟩ := x; exact ⟨_, e⟩
    | ext φ => obtain ⟨_, ⟨_, e⟩, _⟩ := x; exact ⟨_, e⟩
    | _ => exact False.elim mu
  obtain ⟨od, e⟩ := ex
  have new : ObjOk X.prog X.w (upd H d (.frz od u)) s.heap d (.frz od u) := by
    refine ⟨e, x.stay (fun b v _ q => q) (fun b q => ?_) fun b xs q => ?_⟩
    · rw [upd_ne (fun z => by rw [z, h] at q; cases q; exact mu)]; exact q
    · rw [upd_ne (fun z => by rw [z, h] at q; cases q; exact mu)]; exact q
  exact ⟨od, I.write (x := d) (e := d) (t' := s.toks) (h' := s.heap) (by rw [h]; exact mu) (.inl rfl) (fun b v _ q => q) ⟨od, e⟩ new⟩
theorem Inv.nofrz {d : Addr} {u : HO} (I : Inv X pins σ H s) (h : H d = some u) (mu : Mut (some u)) : ∀ o' u', X.H_0 d ≠ some (.frz o' u') := fun o' u' e => by
  have q := I.base.frzs d o' u' e
  rw [h] at q
  cases q
  exact mu
theorem Inv.unlock {d : Addr} {od : Obj} {u : HO} (I : Inv X pins σ H s) (h : H d = some (.frz od u)) (hn : ∀ o' u', X.H_0 d ≠ some (.frz o' u')) : Inv X pins σ (upd H d u) s := by
  have neH : ∀ b o, H b = some o → (∀ o' u', o ≠ .frz o' u') → b ≠ d := fun b o e hne z => by
    rw [z, h] at e
    cases e
    exact hne _ _ rfl
  have neN : ∀ b, H b = none → b ≠ d := fun b e z => by rw [z, h] at e; cases e
  refine ⟨I.ok, I.os, I.bare, ⟨I.base.keep, I.base.slot, fun b o e n hx => ?_, I.base.there, fun b xs e => ?_, fun b o x e => ?_, fun b ps e => ?_⟩, I.loc, I.cell, ?_, fun x c e => ?_, fun p hp => ?_, fun b o e => ?_, I.len⟩
  · rw [upd_ne (neN b (I.base.free b o e n hx))]; exact I.base.free b o e n hx
  · have q := I.base.tups b xs e
    rw [upd_ne (neH b _ q (fun _ _ z => nomatch z))]; exact q
  · have q := I.base.frzs b o x e
    rw [upd_ne (fun z => by rw [z] at e; exact hn _ _ e)]; exact q
  · obtain ⟨m, q⟩ := I.base.tbls b ps e
    exact ⟨m, by rw [upd_ne (neH b _ q (fun _ _ z => nomatch z))]; exact q⟩
  · rw [upd_ne (neN _ I.free)]; exact I.free
  · rw [upd_ne (neN c (I.freeC x c e))]; exact I.freeC x c e
  · obtain ⟨e, n, r⟩ := I.pin p hp
    exact ⟨e, by rw [upd_ne (neN _ n)]; exact n, r⟩
  · by_cases hb : b = d
    · rw [hb, upd_same] at e
      cases e
      rw [hb]
      obtain ⟨_, x⟩ := I.hok d _ h
      exact x.stay (fun c v _ q => q) (fun c q => by rw [upd_ne (neH c _ q (fun _ _ z => nomatch z))]; exact q) fun c xs q => by rw [upd_ne (neH c _ q (fun _ _ z => nomatch z))]; exact q
    · rw [upd_ne hb] at e
      exact (I.hok b o e).stay (fun c v _ q => q) (fun c q => by rw [upd_ne (neH c _ q (fun _ _ z => nomatch z))]; exact q) fun c xs q => by rw [upd_ne (neH c _ q (fun _ _ z => nomatch z))]; exact q
end
/-- the statement runs while the thing at d is locked (read, not written); d and what stands there are the reading's choice -/
def tLock (t : TS) : TS := fun D σ H => ∃ d u, H d = some u ∧ Mut (some u) ∧ ∀ od, t ⟨fun σ' H' => H' d = some (.frz od u) ∧ D.nx σ' (upd H' d u), fun v H' => H' d = some (.frz od u) ∧ D.rt v (upd H' d u), fun σ' H' => H' d = some (.frz od u) ∧ D.bk σ' (upd H' d u), fun σ' H' => H' d = some (.frz od u) ∧ D.ct σ' (upd H' d u)⟩ σ (upd H d (.frz od u))
def tLockE (t : TE) : TE := fun σ H Q => ∃ d u, H d = some u ∧ Mut (some u) ∧ ∀ od, t σ (upd H d (.frz od u)) fun v H' => H' d = some (.frz od u) ∧ Q v (upd H' d u)
section
variable {X : Cx}
theorem ps_lock {st : Stmt} {t : TS} (h : PS X st t) : PS X st (tLock t) := by
  intro pins s σ H D I hw
  obtain ⟨d, u, hd, mu, hw⟩ := hw
  obtain ⟨od, I1⟩ := I.lock hd mu
  refine thn (h pins s σ _ _ I1 (hw od)) fun f s1 q => ?_
  cases f with
  | next => obtain ⟨σ', H', I2, e, q⟩ := q; exact ⟨σ', _, I2.unlock e (I.nofrz hd mu), q⟩
  | brk => obtain ⟨σ', H', I2, e, q⟩ := q; exact ⟨σ', _, I2.unlock e (I.nofrz hd mu), q⟩
  | cont => obtain ⟨σ', H', I2, e, q⟩ := q; exact ⟨σ', _, I2.unlock e (I.nofrz hd mu), q⟩
  | ret v => obtain ⟨x, σ', H', I2, r, e, q⟩ := q; exact ⟨x, σ', _, I2.unlock e (I.nofrz hd mu), r, q⟩
theorem pe_lock {e : Expr} {t : TE} (h : PE X e t) : PE X e (tLockE t) := by
  intro pins s σ H Q I hw
  obtain ⟨d, u, hd, mu, hw⟩ := hw
  obtain ⟨od, I1⟩ := I.lock hd mu
  refine thn (h pins s σ _ _ I1 (hw od)) fun v s1 ⟨x, H1, I2, r, e2, q⟩ => ?_
  exact ⟨x, _, I2.unlock e2 (I.nofrz hd mu), r, q⟩

/-! ### one iterator just laid -/
theorem pi_one {tg : Expr} {pins : List (Addr × Obj)} {σ : St} {H : Hp} {s : Shared} {R : It → Hp → Prop} {J : It} {tn : Nat → Heap → Prop} {tk : Nat} (I : Inv X pins σ H s) (o : Obj)
    (T : Turn X.prog X.w X.K tg J [s.heap.objs.size] s.heap.objs.size tn) (st : tn 0 (s.heap.push o)) (q : R J H) : PIE X pins σ tg R (.ref s.heap.objs.size) { s with heap := s.heap.push o, toks := tk } := by
  refine ⟨s.heap.objs.size, [s.heap.objs.size], tn, J, H, rfl, I.kept fun b ob e => Heap.get?_push_of_some _ e, T, st, fun b hb => ?_, q⟩
  have e : b = s.heap.objs.size := by simpa using hb
  subst e
  exact I.fpOk (Nat.le_refl _) (I.hok.fresh (Nat.le_refl _))
end

/-! ### range with a step -/
/-- lo, lo + c, .. (n of them) -/
def Itc (lo c : Int) (n : Nat) : It := ⟨fun i _ => i < n, fun i H x H' => H' = H ∧ x = .int (lo + (i : Nat) * c), fun i _ => n ≤ i⟩
theorem turn_rangeC {P : Program} {w : World} {K : PySem.W.Frag} {tg : Expr} (it : Addr) (lo c : Int) (n : Nat) : Turn P w K tg (Itc lo c n) [it] it (fun i h => IsRangeIter h it (lo + (i : Nat) * c) ((n : Int) - (i : Nat)) c) where
  mem := by simp
  obj := fun i h st b hb => by
    have e : b = it := by simpa using hb
    subst e
    exact ⟨_, st, fun v z => nomatch z⟩
  keep := fun i h h' st k => k it (by simp) _ st
  item := by
    intro X hP hw hK hc i pins s σ H E I hf st hg
    subst hP hw hK
    obtain ⟨f0, f1, f2, f3, f4, f5⟩ := hf it (by simp)
    have W := Walks.range (prog := X.prog) (w := X.w) (I.ok.hd hc) it lo c n
    refine W.item i s _ _ hg st fun v h' tk hv st' kk => ?_
    obtain ⟨t, rfl⟩ := hv
    have I1 : Inv X pins σ H { s with heap := h', toks := tk } := I.turned (fun b o hb e => kk b o (by simpa using hb) e) f0 f1 f3 f4 f5
    exact ⟨_, rfl, go_of (s := { s with heap := h', toks := tk }) (n := "range_iterator") st' rfl rfl (by decide) ⟨.int (lo + (i : Nat) * c), H, I1, ⟨t, rfl⟩, ⟨rfl, rfl⟩, st', fun b hb => (hf b hb).1⟩⟩
  done := by
    intro X hP hw hK hc i pins s σ H E I hf st hg
    subst hP hw hK
    obtain ⟨f0, f1, f2, f3, f4, f5⟩ := hf it (by simp)
    exact wpAny_pyNext_range_end (I.ok.hd hc) st (by have : n ≤ i := hg; omega) fun h' eb => ⟨rfl, I.turned (t' := s.toks) (fun b o hb e => eb b o hb e) f0 f1 f3 f4 f5⟩
  self := fun A i s Q E st h => wpAny_pyIter_rangeiter st h
/-- range(i, j, c): small bounds, n items -/
def RgC (i j c : Int) (n : Nat) : Prop := c ≠ 0 ∧ c.natAbs < 1073741824 ∧ Builtin.Range.small i j c = true ∧ Builtin.Range.rangeSize i j c = n
theorem RgC.neg {i j : Int} (ha : -(2 ^ 62) ≤ i) (ha' : i < 2 ^ 62) (hb : -(2 ^ 62) ≤ j) (hb' : j < 2 ^ 62) : RgC i j (-1) (i - j).toNat :=
  ⟨by decide, by decide, PySem.W.small_down ha ha' hb hb', PySem.W.rangeSize_downNat i j⟩
def iRng3 (ta : TA) : TI := fun σ H R => ta σ H fun vs H1 => ∃ (i j c : Int) (n : Nat), vs = [.int i, .int j, .int c] ∧ RgC i j c n ∧ R (Itc i c n) H1
section
variable {X : Cx} {tg : Expr}
theorem pi_range3 {a b c : Expr} {ta : TA} {p pos : Pos} (hg : Gl X "range") (hm : X.mg "range" = none) (ha : PA X [a, b, c] ta)
    (hs : starEach [a, b, c] X.env = (false, eval a X.env) :: starEach [b, c] X.env := by rfl) (hpl : (backTo pos (starEach [b, c] X.env)).any (·.1) = false := by rfl) :
    PI X tg (.Call (.Name "range" p) [a, b, c] [] pos) (iRng3 ta) := by
  intro pins s σ H R I h
  refine Call_ (ld_blt I hg hm boot_range (PyProof.Rows.callWith_type1 (thn (ha pos pins s σ H _ I h) fun us s1 ⟨vs, H1, I1, r1, q1⟩ => ?_) hs hpl))
  obtain ⟨i, j, k, n, e, ⟨c0, c1, c2, c3⟩, q⟩ := q1
  subst e
  cases r1 with
  | cons r rr =>
    cases rr with
    | cons r' rr =>
      cases rr with
      | cons r'' rr =>
        cases rr
        obtain ⟨t, rfl⟩ := r
        obtain ⟨t', rfl⟩ := r'
        obtain ⟨t'', rfl⟩ := r''
        refine call_range_3 c0 ?_ (.inl (PyProof.noPylong_small c1))
        refine wpAny_pyIter_range (IsRange.new ..) c2 ?_
        have I2 : Inv X pins σ H1 { s1 with heap := s1.heap.push { cls := .type "range", data := .fields #[.int i t, .int j t', .int k t''] } } := I1.kept (t' := s1.toks) fun b o e => Heap.get?_push_of_some _ e
        refine pi_one (tk := s1.toks) I2 _ (turn_rangeC _ i k n) ?_ q
        have e1 : i + ((0 : Nat) : Int) * k = i := by simp
        have e2 : (n : Int) - ((0 : Nat) : Int) = Builtin.Range.rangeSize i j k := by rw [c3]; simp
        show IsRangeIter _ _ (i + ((0 : Nat) : Int) * k) ((n : Int) - ((0 : Nat) : Int)) k
        rw [e1, e2]
        exact Heap.get?_push_size _ rfl
end
/-- the turns of a step range, for the for loop -/
theorem for_rangeC {lo c : Int} {n : Nat} {g : TG} {tb : TS} {D : Ends} {σ : St} {H : Hp} (Pv : Nat → St → Hp → Prop) (h0 : Pv 0 σ H)
    (hs : ∀ i σ H, i < n → Pv i σ H → g (.int (lo + (i : Nat) * c)) σ H fun σ2 H2 => tb { D with nx := Pv (i + 1), ct := Pv (i + 1), bk := D.nx } σ2 H2) (hd : ∀ σ H, Pv n σ H → D.nx σ H) :
    ∃ W : Nat → Nat → St → Hp → Prop, (∃ m, W 0 m σ H) ∧ ∀ i m σ H, W i m σ H →
      ((Itc lo c n).stop i H ∧ D.nx σ H) ∨ ((Itc lo c n).go i H ∧ ∃ N : St → Hp → Prop, (∀ σ' H', N σ' H' → ∃ m', m' < m ∧ W (i + 1) m' σ' H') ∧ ∀ x H', (Itc lo c n).yld i H x H' → g x σ H' fun σ2 H2 => tb { D with nx := N, ct := N, bk := D.nx } σ2 H2) := by
  refine ⟨fun i m σ H => m = n - i ∧ i ≤ n ∧ Pv i σ H, ⟨n, by simp, Nat.zero_le _, h0⟩, ?_⟩
  rintro i m σ H ⟨rfl, hi, p⟩
  by_cases hlt : i < n
  · refine .inr ⟨hlt, Pv (i + 1), fun σ' H' p' => ⟨n - (i + 1), by omega, rfl, hlt, p'⟩, fun x H' y => ?_⟩
    obtain ⟨e, y⟩ := y
    subst e y
    exact hs i σ _ hlt p
  · have e : i = n := by omega
    subst e
    exact .inl ⟨Nat.le_refl _, hd σ H p⟩

/-! ### reversed(list) -/
/-- the list at a (n items at the start, which the loop leaves there), from its end -/
def Itv (K : PySem.W.Frag) (a : Addr) (n : Nat) : It :=
  ⟨fun i H => i < n ∧ ∃ (xs : List V) (x : V), SqL K H a xs ∧ xs[n - 1 - i]? = some x, fun i H x H' => H' = H ∧ ∀ xs, SqL K H a xs → xs[n - 1 - i]? = some x, fun i _ => n ≤ i⟩
theorem turn_rev {P : Program} {w : World} {K : PySem.W.Frag} {tg : Expr} (a it : Addr) (n : Nat) : Turn P w K tg (Itv K a n) [it] it (fun i h => i ≤ n ∧ h.IsRevIter it a ((n : Int) - 1 - (i : Nat))) where
  mem := by simp
  obj := fun i h st b hb => by
    have e : b = it := by simpa using hb
    subst e
    obtain ⟨_, o, e, c, d⟩ := st
    exact ⟨o, e, fun v z => by rw [d] at z; cases z⟩
  keep := fun i h h' st k => ⟨st.1, st.2.at fun o e => k it (by simp) o e⟩
  item := by
    intro X hP hw hK hc i pins s σ H E I hf st hg
    subst hP hw hK
    obtain ⟨hin, xs, x, hq, hx⟩ := hg
    obtain ⟨its, rv, p, hz⟩ := I.list hq
    obtain ⟨u, hu, ru⟩ := rv.get hx
    obtain ⟨f0, f1, f2, f3, f4, f5⟩ := hf it (by simp)
    obtain ⟨_, hit⟩ := st
    have e1 : (n : Int) - 1 - ((i : Nat) : Int) = ((n - 1 - i : Nat) : Int) := by omega
    rw [e1] at hit
    refine wpAny_pyNext_rev_item hit p.isList (x := u) (by simpa using hu) fun h' st' sb => ?_
    have e2 : ((n - 1 - i : Nat) : Int) - 1 = (n : Int) - 1 - ((i + 1 : Nat) : Int) := by omega
    rw [e2] at st'
    have I1 : Inv X pins σ H { s with heap := h' } := I.turned (t' := s.toks) (fun b o hb e => (sb.2 b hb).trans e) f0 f1 f3 f4 f5
    obtain ⟨o, e, c, d⟩ := id st'
    exact ⟨u, rfl, go_of (s := { s with heap := h' }) e c d (by decide) ⟨x, H, I1, ru, ⟨rfl, fun ys hy => by rw [I.list_inj hy hq]; exact hx⟩, ⟨hin, st'⟩, fun b hb => (hf b hb).1⟩⟩
  done := by
    intro X hP hw hK hc i pins s σ H E I hf st hg
    subst hP hw hK
    obtain ⟨f0, f1, f2, f3, f4, f5⟩ := hf it (by simp)
    obtain ⟨hin, hit⟩ := st
    have hge : n ≤ i := hg
    have e1 : (n : Int) - 1 - ((i : Nat) : Int) = -1 := by omega
    rw [e1] at hit
    exact wpAny_pyNext_rev_end (I.ok.hd hc) hit fun h' eb => ⟨rfl, I.turned (t' := s.toks) (fun b o hb e => eb b o hb e) f0 f1 f3 f4 f5⟩
  self := fun A i s Q E st h => wpAny_pyIter_revIter st.2 h
def iRev (K : PySem.W.Frag) (ta : TA) : TI := fun σ H R => ta σ H fun vs H1 => ∃ (a : Addr) (xs : List V), vs = [.ref a] ∧ SqL K H1 a xs ∧ R (Itv K a xs.length) H1
section
variable {X : Cx} {tg : Expr}
theorem pi_reversed {e : Expr} {ta : TA} {p pos : Pos} (hg : Gl X "reversed") (hm : X.mg "reversed" = none) (ha : PA X [e] ta) (hs : starEach [e] X.env = [(false, eval e X.env)] := by rfl) : PI X tg (.Call (.Name "reversed" p) [e] [] pos) (iRev X.K ta) := by
  intro pins s σ H R I h
  refine Call_ (ld_blt I hg hm boot_reversed5 (PyProof.Rows.callWith_type1 (thn (ha pos pins s σ H _ I h) fun us s1 ⟨vs, H1, I1, r1, q1⟩ => ?_) hs rfl))
  obtain ⟨a, xs, e, hq, q⟩ := q1
  subst e
  cases r1 with
  | cons r rr =>
    cases rr
    cases r
    obtain ⟨its, rv, p', hz⟩ := I1.list hq
    have hl := rv.length
    have e1 : ((its.toArray.size : Nat) : Int) - 1 = (xs.length : Int) - 1 - ((0 : Nat) : Int) := by simp only [List.size_toArray]; omega
    refine call_reversed_list p'.isList (wpAny_pyIter_revIter (l := a) (i := ((its.toArray.size : Nat) : Int) - 1) ⟨_, Heap.get?_push_size _ rfl, rfl, rfl⟩ ?_)
    refine pi_one (tk := s1.toks) I1 _ (turn_rev a _ xs.length) ⟨Nat.zero_le _, ?_⟩ q
    rw [← e1]
    exact ⟨_, Heap.get?_push_size _ rfl, rfl, rfl⟩
end

/-! ### a str -/
def Its (x : Str) : It := ⟨fun i _ => i < x.cps.size, fun i H v H' => H' = H ∧ ∃ c, x.cps[i]? = some c ∧ v = .str ⟨#[c]⟩, fun i _ => x.cps.size ≤ i⟩
theorem turn_str {P : Program} {w : World} {K : PySem.W.Frag} {tg : Expr} (it : Addr) (x : Str) (t : Tok) (ty : String) (hty : ty = "str_ascii_iterator" ∨ ty = "str_iterator") :
    Turn P w K tg (Its x) [it] it (fun i h => h.IsStrIter it ty x t i) where
  mem := by simp
  obj := fun i h st b hb => by
    have e : b = it := by simpa using hb
    subst e
    obtain ⟨o, e, c, d⟩ := st
    exact ⟨o, e, fun v z => by rw [d] at z; cases z⟩
  keep := fun i h h' st k => let ⟨o, ho, r⟩ := st; ⟨o, k it (by simp) o ho, r⟩
  item := by
    intro X hP hw hK hc i pins s σ H E I hf st hg
    subst hP hw hK
    obtain ⟨f0, f1, f2, f3, f4, f5⟩ := hf it (by simp)
    have W : Walks X.prog X.w X.A it [it] [it] x.cps.size (SignAt x) (fun i h => h.IsStrIter it ty x t i) := by
      rcases hty with e | e
      · rw [e]; exact Walks.strAscii (I.ok.hd hc) it x t
      · rw [e]; exact Walks.strWide (I.ok.hd hc) it x t
    have hno : ["enumerate", "zip", "dict_itemiterator", "dict_reverseitemiterator", "odict_iterator", "itertools.zip_longest", "itertools.pairwise"].contains ty = false := by
      rcases hty with e | e
      · rw [e]; decide
      · rw [e]; decide
    refine W.item i s _ _ hg st fun v h' tk hv st' kk => ?_
    obtain ⟨c, u, hcx, rfl⟩ := hv
    have I1 : Inv X pins σ H { s with heap := h', toks := tk } := I.turned (fun b o hb e => kk b o (by simpa using hb) e) f0 f1 f3 f4 f5
    obtain ⟨oi, e, cc, dd⟩ := id st'
    exact ⟨_, rfl, go_of (s := { s with heap := h', toks := tk }) e cc dd hno ⟨.str ⟨#[c]⟩, H, I1, ⟨u, rfl⟩, ⟨rfl, c, hcx, rfl⟩, st', fun b hb => (hf b hb).1⟩⟩
  done := by
    intro X hP hw hK hc i pins s σ H E I hf st hg
    subst hP hw hK
    obtain ⟨f0, f1, f2, f3, f4, f5⟩ := hf it (by simp)
    have hx : x.cps[i]? = none := Array.getElem?_eq_none hg
    rcases hty with e | e
    · rw [e] at st
      exact wpAny_pyNext_ascii_end (I.ok.hd hc) st hx fun h' eb => ⟨rfl, I.turned (t' := s.toks) (fun b o hb e => eb b o hb e) f0 f1 f3 f4 f5⟩
    · rw [e] at st
      exact wpAny_pyNext_wide_end (I.ok.hd hc) st hx fun h' eb => ⟨rfl, I.turned (t' := s.toks) (fun b o hb e => eb b o hb e) f0 f1 f3 f4 f5⟩
  self := fun A i s Q E st h => by
    rcases hty with e | e
    · rw [e] at st; exact wpAny_pyIter_striter_ascii st h
    · rw [e] at st; exact wpAny_pyIter_striter_wide st h
def iStr (te : TE) : TI := fun σ H R => te σ H fun v H1 => ∃ x, v = .str x ∧ R (Its x) H1
theorem pi_str {X : Cx} {tg e : Expr} {te : TE} (he : PE X e te) : PI X tg e (iStr te) := by
  intro pins s σ H R I h
  refine thn (he pins s σ H _ I h) fun v s1 ⟨y, H1, I1, r1, x, ex, q⟩ => ?_
  subst ex
  obtain ⟨t, rfl⟩ := r1
  cases ha : x.cps.all (· < 128)
  · exact wpAny_pyIter_wide ha (pi_one (tk := s1.toks) I1 _ (turn_str _ x t "str_iterator" (.inr rfl)) ⟨_, Heap.get?_push_size _ rfl, rfl, rfl⟩ q)
  · exact wpAny_pyIter_ascii ha (pi_one (tk := s1.toks) I1 _ (turn_str _ x t "str_ascii_iterator" (.inl rfl)) ⟨_, Heap.get?_push_size _ rfl, rfl, rfl⟩ q)

/-! ### a dict's keys: any dict's entries -/
section
variable {prog : Program} {w : World} {A : Around} {E : Value → Shared → Prop} {s : Shared}
theorem iter_keys {d : Addr} {o : Obj} {es : Array DictEntry} {ep : Nat} {Q : Value → Shared → Prop} (hd : (d == sysModules) = false) (ho : s.heap.get? d = some o) (hc : o.ExactDict) (hdat : o.data = .dict es ep)
    (hQ : Q (.ref s.heap.objs.size) { s with heap := s.heap.push { cls := .type "dict_keyiterator", data := .fields #[.ref d, .int 0 0, .int es.size 0, .int ep 0] } }) :
    wpAny (model prog w) A (pyIter (.ref d)) Q E s := by
  have hT : s.TypeIs (.ref d) "dict" := ⟨o, ho, hc.1⟩
  refine wpAny_pyIter_slot hT F.slot_dict_iter (wpAny_call_entry F.slot_dict_iter hT F.entry_dict_iter ?_ (F.args_dict_iter_1 _))
  unfold Builtin.«dict.__iter__»
  refine wpAny_bind ?_
  unfold Builtin.Dict.dictSlotNone
  refine wpAny_bind (wpAny_notOrdered_dict hT ?_)
  show wpAny _ _ (pure (Value.ref d)) _ _ s
  refine wpAny_pure ?_
  show wpAny _ _ (Builtin.Dict.showsAll d >>= _) _ _ s
  unfold Builtin.Dict.showsAll
  rw [if_neg (by rw [hd]; exact Bool.false_ne_true)]
  refine wpAny_bind (wpAny_pure ?_)
  refine wpAny_bind (wpAny_dictEntries ho hdat ?_)
  refine wpAny_bind (wpAny_dictEpoch ho hdat ?_)
  refine wpAny_bind (wpAny_newObj_type (wpAny_pure ⟨_, rfl, "dict_keyiterator", _, ⟨_, Heap.get?_push_size _ rfl, rfl⟩, F.slot_dict_keyiterator_next.lookup, ?_⟩))
  simpa [rawInt] using hQ
theorem next_key_item {it d : Addr} {i n ep : Nat} {od : Obj} {es : Array DictEntry} {en : DictEntry} {Q : Option Value → Shared → Prop} (hit : s.heap.IsKeyIter it d i n ep) (hod : s.heap.get? d = some od) (hdd : od.data = .dict es ep)
    (hsz : es.size = n) (hx : es[i]? = some en) (hQ : ∀ h', h'.IsKeyIter it d (i + 1) n ep → Heap.SameBut it s.heap h' → Q (some en.key) { s with heap := h' }) : wpAny (model prog w) A (pyNext (.ref it)) Q E s := by
  obtain ⟨o, ho, hc, hd⟩ := id hit
  unfold pyNext
  refine wpAny_bind (wpAny_attempt (wpAny_callSpecial?_slot (name := Str.ofString "__next__") hit.typeIs F.slot_dict_keyiterator_next
    (wpAny_call_entry F.slot_dict_keyiterator_next hit.typeIs F.entry_dict_keyiterator_next ?_ (F.args_dict_keyiterator_next_1 _))))
  refine wpAny_bind (wpAny_pure ?_)
  refine wpAny_bind ?_
  refine wpAny_bind ?_
  first | refine wpAny_bind (wpAny_typeNameOfWhole_keyiter hit.typeIs (wpAny_pure ?_)) | refine wpAny_bind (wpAny_typeNameOf_keyiter hit.typeIs (wpAny_pure ?_))
  refine wpAny_bind (wpAny_fieldsOf ho hd ?_)
  have hown : Builtin.Dict_items.ownsTuple "dict_keyiterator" = false := by decide
  simp only [hown, Bool.false_eq_true, if_false]
  show wpAny _ _ (if (Value.ref d == Value.none) = true then _ else _) _ _ s
  rw [if_neg (show ¬ ((Value.ref d == Value.none) = true) from Bool.false_ne_true)]
  refine wpAny_bind (wpAny_pure ?_)
  refine wpAny_bind (wpAny_dictEntries hod hdd ?_)
  rw [if_neg (by rw [hsz]; simp)]
  refine wpAny_bind (wpAny_pure ?_)
  refine wpAny_bind (wpAny_dictEpoch hod hdd ?_)
  rw [if_neg (by simp)]
  refine wpAny_pure ?_
  obtain ⟨hlt', hen⟩ := Array.getElem?_eq_some_iff.mp hx
  simp only [show ¬ ((i : Int) < 0) from by omega, if_false, Int.toNat_natCast, Array.getElem?_eq_getElem hlt']
  refine wpAny_bind ?_
  first | refine wpAny_bind (wpAny_typeNameOfWhole_keyiter hit.typeIs (wpAny_pure ?_)) | refine wpAny_bind (wpAny_typeNameOf_keyiter hit.typeIs (wpAny_pure ?_))
  refine wpAny_bind (wpAny_isOneOf_keyiter hit.typeIs ?_)
  show wpAny _ _ (setField (.ref it) 1 (rawInt ((i : Int) + 1)) >>= _) _ _ s
  refine wpAny_bind (wpAny_setField ho hd (by simp) ?_)
  have hit' : (s.heap.update it (Obj.mapFields (·.setIfInBounds 1 (rawInt ((i : Int) + 1))))).IsKeyIter it d (i + 1) n ep :=
    ⟨_, Heap.get?_update_self _ ho (Obj.isFreed_of_fields (Obj.data_mapFields hd _)), (Obj.cls_mapFields ..).trans hc, by rw [Obj.data_mapFields hd]; simp [rawInt]⟩
  refine wpAny_bind (wpAny_holding ?_)
  refine wpAny_bind (wpAny_isOneOf_keyiter (s := { s with heap := s.heap.update it (Obj.mapFields (·.setIfInBounds 1 (rawInt ((i : Int) + 1)))) }) hit'.typeIs ?_)
  show wpAny _ _ (pure es[i].key) _ _ _
  rw [hen]
  exact wpAny_pure (wpAny_pure ⟨_, rfl, wpAny_pure (hQ _ hit' (Heap.SameBut.update ..))⟩)
theorem next_key_end {it d : Addr} {i n ep : Nat} {od : Obj} {es : Array DictEntry} {Q : Option Value → Shared → Prop} (hh : A.handled = none) (hit : s.heap.IsKeyIter it d i n ep) (hod : s.heap.get? d = some od) (hdd : od.data = .dict es ep)
    (hsz : es.size = n) (hge : n ≤ i) (hQ : ∀ h', Heap.ExtBut it s.heap h' → Q none { s with heap := h' }) : wpAny (model prog w) A (pyNext (.ref it)) Q E s := by
  obtain ⟨o, ho, hc, hd⟩ := id hit
  unfold pyNext
  refine wpAny_bind (wpAny_attempt (wpAny_callSpecial?_slot (name := Str.ofString "__next__") hit.typeIs F.slot_dict_keyiterator_next
    (wpAny_call_entry F.slot_dict_keyiterator_next hit.typeIs F.entry_dict_keyiterator_next ?_ (F.args_dict_keyiterator_next_1 _))))
  refine wpAny_bind (wpAny_pure ?_)
  refine wpAny_bind ?_
  refine wpAny_bind ?_
  first | refine wpAny_bind (wpAny_typeNameOfWhole_keyiter hit.typeIs (wpAny_pure ?_)) | refine wpAny_bind (wpAny_typeNameOf_keyiter hit.typeIs (wpAny_pure ?_))
  refine wpAny_bind (wpAny_fieldsOf ho hd ?_)
  have hown : Builtin.Dict_items.ownsTuple "dict_keyiterator" = false := by decide
  simp only [hown, Bool.false_eq_true, if_false]
  show wpAny _ _ (if (Value.ref d == Value.none) = true then _ else _) _ _ s
  rw [if_neg (show ¬ ((Value.ref d == Value.none) = true) from Bool.false_ne_true)]
  refine wpAny_bind (wpAny_pure ?_)
  refine wpAny_bind (wpAny_dictEntries hod hdd ?_)
  rw [if_neg (by rw [hsz]; simp)]
  refine wpAny_bind (wpAny_pure ?_)
  refine wpAny_bind (wpAny_dictEpoch hod hdd ?_)
  rw [if_neg (by simp)]
  refine wpAny_pure ?_
  have hge' : es.size ≤ i := by rw [hsz]; exact hge
  simp only [show ¬ ((i : Int) < 0) from by omega, if_false, Int.toNat_natCast, Array.getElem?_eq_none hge']
  refine wpAny_bind ?_
  first | refine wpAny_bind (wpAny_typeNameOfWhole_keyiter hit.typeIs (wpAny_pure ?_)) | refine wpAny_bind (wpAny_typeNameOf_keyiter hit.typeIs (wpAny_pure ?_))
  show wpAny _ _ (setField (.ref it) 0 .none >>= _) _ _ s
  refine wpAny_bind (wpAny_setField ho hd (by simp) ?_)
  show wpAny _ _ (newExc (.type "StopIteration") [] >>= _) _ _ _
  refine wpAny_bind ?_
  simp only [newExc, newTuple]
  refine wpAny_bind (wpAny_newObj_type ?_ (by size_fits))
  refine wpAny_bind (m := firstArgMember _ _) (wpAny_of_eq (a := Value.none) (by first | rfl | (simp only [firstArgMember]; rfl)) ?_)
  refine wpAny_newObj_type ?_ (by size_fits)
  simp only [raiseNew]
  refine wpAny_bind (wpAny_handled ?_)
  rw [show A.in1.handled = none from hh]
  refine wpAny_bind (wpAny_pure (wpAny_throw ?_))
  refine wpAny_bind (wpAny_isInstance (T := "StopIteration") (b := true) ⟨_, Heap.get?_push_size _ rfl, rfl⟩ isSubtype_stop ?_)
  exact wpAny_pure (hQ _ (((Heap.SameBut.update ..).extBut.push _).push _))
end

/-! ### a locked dict -/
theorem kv_get {κ : Type} {kvs : List (κ × V)} {vs : List (κ × Value)} (h : KV kvs vs) : ∀ {i : Nat} {k : κ} {v : V}, kvs[i]? = some (k, v) → ∃ u, vs[i]? = some (k, u) ∧ RelV v u := by
  unfold KV at h
  induction h with
  | nil => intro i k v e; simp at e
  | @cons a b l₁ l₂ r t ih =>
    intro i k v e
    cases i with
    | zero =>
      simp only [List.getElem?_cons_zero, Option.some.injEq] at e
      subst e
      refine ⟨b.2, ?_, r.2⟩
      simp only [List.getElem?_cons_zero]
      exact congrArg some (Prod.ext r.1.symm rfl)
    | succ j =>
      simp only [List.getElem?_cons_succ] at e ⊢
      exact ih e
theorem paired_get {α β : Type} {G : α → β → Prop} {l₁ : List α} {l₂ : List β} (h : Paired G l₁ l₂) : ∀ {i : Nat} {a : α}, l₁[i]? = some a → ∃ b, l₂[i]? = some b ∧ G a b := by
  induction h with
  | nil => intro i a e; simp at e
  | @cons a b l₁ l₂ r t ih =>
    intro i a' e
    cases i with
    | zero =>
      simp only [List.getElem?_cons_zero, Option.some.injEq] at e
      subst e
      exact ⟨b, rfl, r⟩
    | succ j =>
      simp only [List.getElem?_cons_succ] at e ⊢
      exact ih e
theorem relV_key {k : Key} {u : Value} (h : keyIs k u = true) : RelV (kV k) u := by
  rcases keyIs_shape h with ⟨i, t, rfl, rfl⟩ | ⟨x, t, rfl, rfl⟩
  · exact ⟨t, rfl⟩
  · exact ⟨t, rfl⟩
section
variable {X : Cx} {pins : List (Addr × Obj)} {σ : St} {H : Hp} {s : Shared} {d : Addr} {o : Obj}
theorem Inv.frzK {kvs : List (Key × V)} (I : Inv X pins σ H s) (h : H d = some (.frz o (.dK kvs))) :
    (d == sysModules) = false ∧ s.heap.get? d = some o ∧ o.ExactDict ∧ ∃ (es : Array DictEntry) (ep : Nat) (vs : List (Key × Value)), o.data = .dict es ep ∧ es.size = kvs.length ∧ KV kvs vs ∧ s.heap.DictAt (mixKind X.prog X.w) d vs ep := by
  obtain ⟨hd, z, hs, vs, kv, o', es, ep, ho, hx, hdt, r⟩ := I.hok d _ h
  rw [hd] at ho
  cases ho
  refine ⟨hs, hd, hx, es, ep, vs, hdt, ?_, kv, o, es, hd, hx, hdt, r⟩
  have l1 := r.2.1.length
  have l2 : kvs.length = vs.length := Paired.length kv
  rw [Array.length_toList] at l1
  omega
/-- the same for tuple keys -/
theorem Inv.frzT {kvs : List (List Key × V)} (I : Inv X pins σ H s) (h : H d = some (.frz o (.dT kvs))) :
    (d == sysModules) = false ∧ s.heap.get? d = some o ∧ o.ExactDict ∧ ∃ (es : Array DictEntry) (ep : Nat), o.data = .dict es ep ∧ es.size = kvs.length ∧
      ∀ (i : Nat) (k : List Key) (v : V), kvs[i]? = some (k, v) → ∃ (en : DictEntry) (q : Addr), es[i]? = some en ∧ en.key = .ref q ∧ H q = some (.tup (k.map kV)) := by
  obtain ⟨hd, z, hs, xs, pr, o', es, ep, ho, hx, hdt, he, _⟩ := I.hok d _ h
  rw [hd] at ho
  cases ho
  refine ⟨hs, hd, hx, es, ep, hdt, ?_, fun i k v e => ?_⟩
  · have l1 : es.size = xs.length := size_of_entries he
    have l2 : kvs.length = xs.length := Paired.length pr
    omega
  · obtain ⟨b, hb, e1, e2, _⟩ := paired_get pr e
    have q := entry_at he i
    rw [hb] at q
    exact ⟨_, b.2.1, q, rfl, e2⟩
end

/-- the keys of the locked dict at d, in their order -/
def Itk (d : Addr) (o : Obj) (kvs : List (Key × V)) : It :=
  ⟨fun i H => H d = some (.frz o (.dK kvs)) ∧ i < kvs.length, fun i H x H' => H' = H ∧ ∃ k v, kvs[i]? = some (k, v) ∧ x = kV k, fun i H => H d = some (.frz o (.dK kvs)) ∧ kvs.length ≤ i⟩
/-- .. of tuple keys: the key's own tuple -/
def Itkt (d : Addr) (o : Obj) (kvs : List (List Key × V)) : It :=
  ⟨fun i H => H d = some (.frz o (.dT kvs)) ∧ i < kvs.length, fun i H x H' => H' = H ∧ ∃ (k : List Key) (v : V) (q : Addr), kvs[i]? = some (k, v) ∧ x = .ref q ∧ H q = some (.tup (k.map kV)), fun i H => H d = some (.frz o (.dT kvs)) ∧ kvs.length ≤ i⟩
/-- the values -/
def Itd (d : Addr) (o : Obj) (kvs : List (Key × V)) : It :=
  ⟨fun i H => H d = some (.frz o (.dK kvs)) ∧ i < kvs.length, fun i H x H' => H' = H ∧ ∃ k, kvs[i]? = some (k, x), fun i H => H d = some (.frz o (.dK kvs)) ∧ kvs.length ≤ i⟩
/-- the pairs, each a new tuple -/
def Iti (d : Addr) (o : Obj) (kvs : List (Key × V)) : It :=
  ⟨fun i H => H d = some (.frz o (.dK kvs)) ∧ i < kvs.length, fun i H x H' => ∃ T k v, kvs[i]? = some (k, v) ∧ x = .ref T ∧ H T = none ∧ H' = upd H T (.tup [kV k, v]), fun i H => H d = some (.frz o (.dK kvs)) ∧ kvs.length ≤ i⟩
theorem dict_ep {o : Obj} {es es' : Array DictEntry} {ep ep' : Nat} (h : o.data = .dict es ep) (h' : o.data = .dict es' ep') : es' = es ∧ ep' = ep := by
  rw [h] at h'
  cases h'
  exact ⟨rfl, rfl⟩
section
variable {P : Program} {w : World} {K : PySem.W.Frag} {tg : Expr} {d : Addr} {o : Obj} {es : Array DictEntry} {ep : Nat}
theorem turn_keys {kvs : List (Key × V)} (it : Addr) (hod : o.data = .dict es ep) : Turn P w K tg (Itk d o kvs) [it] it (fun i h => h.IsKeyIter it d i kvs.length ep) where
  mem := by simp
  obj := fun i h st b hb => by
    have e : b = it := by simpa using hb
    subst e
    obtain ⟨oi, e, c, dd⟩ := st
    exact ⟨oi, e, fun v z => by rw [dd] at z; cases z⟩
  keep := fun i h h' st k => st.at fun oi e => k it (by simp) oi e
  item := by
    intro X hP hw hK hc i pins s σ H E I hf st hg
    subst hP hw hK
    obtain ⟨hd, hi⟩ := hg
    obtain ⟨f0, f1, f2, f3, f4, f5⟩ := hf it (by simp)
    obtain ⟨hs, hgd, hx, es', ep', vs, hdt, hsz, kv, hm⟩ := I.frzK hd
    obtain ⟨rfl, rfl⟩ := dict_ep hod hdt
    obtain ⟨⟨k, v⟩, hkv⟩ : ∃ p, kvs[i]? = some p := ⟨kvs[i], List.getElem?_eq_getElem hi⟩
    obtain ⟨u, hu, ru⟩ := kv_get kv hkv
    have hl : kvs.length = vs.length := Paired.length kv
    rw [hl] at st
    refine wpAny_pyNext_dict_item st hm hu fun key h' hkey st' sb => ?_
    have I1 : Inv X pins σ H { s with heap := h' } := I.turned (t' := s.toks) (fun b ob hb e => (sb.2 b hb).trans e) f0 f1 f3 f4 f5
    obtain ⟨oi, e, c, dd⟩ := id st'
    refine ⟨key, rfl, go_of (s := { s with heap := h' }) e c dd (by decide) ⟨kV k, H, I1, relV_key (show keyIs k key = true from hkey), ⟨rfl, k, v, hkv, rfl⟩, ?_, fun b hb => (hf b hb).1⟩⟩
    show h'.IsKeyIter it d (i + 1) kvs.length _
    rw [hl]
    exact st'
  done := by
    intro X hP hw hK hc i pins s σ H E I hf st hg
    subst hP hw hK
    obtain ⟨hd, hi⟩ := hg
    obtain ⟨f0, f1, f2, f3, f4, f5⟩ := hf it (by simp)
    obtain ⟨hs, hgd, hx, es', ep', vs, hdt, hsz, kv, hm⟩ := I.frzK hd
    obtain ⟨rfl, rfl⟩ := dict_ep hod hdt
    exact next_key_end (I.ok.hd hc) st hgd hdt hsz hi fun h' eb => ⟨rfl, I.turned (t' := s.toks) (fun b ob hb e => eb b ob hb e) f0 f1 f3 f4 f5⟩
  self := fun A i s Q E st h => wpAny_pyIter_keyiter st h
theorem turn_keysT {kvs : List (List Key × V)} (it : Addr) (hod : o.data = .dict es ep) : Turn P w K tg (Itkt d o kvs) [it] it (fun i h => h.IsKeyIter it d i kvs.length ep) where
  mem := by simp
  obj := fun i h st b hb => by
    have e : b = it := by simpa using hb
    subst e
    obtain ⟨oi, e, c, dd⟩ := st
    exact ⟨oi, e, fun v z => by rw [dd] at z; cases z⟩
  keep := fun i h h' st k => st.at fun oi e => k it (by simp) oi e
  item := by
    intro X hP hw hK hc i pins s σ H E I hf st hg
    subst hP hw hK
    obtain ⟨hd, hi⟩ := hg
    obtain ⟨f0, f1, f2, f3, f4, f5⟩ := hf it (by simp)
    obtain ⟨hs, hgd, hx, es', ep', hdt, hsz, ent⟩ := I.frzT hd
    obtain ⟨rfl, rfl⟩ := dict_ep hod hdt
    obtain ⟨⟨k, v⟩, hkv⟩ : ∃ p, kvs[i]? = some p := ⟨kvs[i], List.getElem?_eq_getElem hi⟩
    obtain ⟨en, q, hen, hkey, hq⟩ := ent i k v hkv
    refine next_key_item st hgd hdt hsz hen fun h' st' sb => ?_
    have I1 : Inv X pins σ H { s with heap := h' } := I.turned (t' := s.toks) (fun b ob hb e => (sb.2 b hb).trans e) f0 f1 f3 f4 f5
    obtain ⟨oi, e, c, dd⟩ := id st'
    exact ⟨en.key, rfl, go_of (s := { s with heap := h' }) e c dd (by decide) ⟨.ref q, H, I1, hkey, ⟨rfl, k, v, q, hkv, rfl, hq⟩, st', fun b hb => (hf b hb).1⟩⟩
  done := by
    intro X hP hw hK hc i pins s σ H E I hf st hg
    subst hP hw hK
    obtain ⟨hd, hi⟩ := hg
    obtain ⟨f0, f1, f2, f3, f4, f5⟩ := hf it (by simp)
    obtain ⟨hs, hgd, hx, es', ep', hdt, hsz, ent⟩ := I.frzT hd
    obtain ⟨rfl, rfl⟩ := dict_ep hod hdt
    exact next_key_end (I.ok.hd hc) st hgd hdt hsz hi fun h' eb => ⟨rfl, I.turned (t' := s.toks) (fun b ob hb e => eb b ob hb e) f0 f1 f3 f4 f5⟩
  self := fun A i s Q E st h => by
    refine wpAny_pyIter_slot st.typeIs F.slot_dict_keyiterator_iter (wpAny_call_entry F.slot_dict_keyiterator_iter st.typeIs F.entry_dict_keyiterator_iter ?_ (F.args_dict_keyiterator_iter_1 _))
    show wpAny _ _ (ret (.ref it)) _ _ s
    exact wpAny_pure ⟨_, rfl, "dict_keyiterator", _, st.typeIs, F.slot_dict_keyiterator_next.lookup, h⟩
theorem turn_vals {kvs : List (Key × V)} (it : Addr) (hod : o.data = .dict es ep) : Turn P w K tg (Itd d o kvs) [it] it (fun i h => h.IsValIter it d i kvs.length ep) where
  mem := by simp
  obj := fun i h st b hb => by
    have e : b = it := by simpa using hb
    subst e
    obtain ⟨oi, e, c, dd⟩ := st
    exact ⟨oi, e, fun v z => by rw [dd] at z; cases z⟩
  keep := fun i h h' st k => st.at fun oi e => k it (by simp) oi e
  item := by
    intro X hP hw hK hc i pins s σ H E I hf st hg
    subst hP hw hK
    obtain ⟨hd, hi⟩ := hg
    obtain ⟨f0, f1, f2, f3, f4, f5⟩ := hf it (by simp)
    obtain ⟨hs, hgd, hx, es', ep', vs, hdt, hsz, kv, hm⟩ := I.frzK hd
    obtain ⟨rfl, rfl⟩ := dict_ep hod hdt
    obtain ⟨⟨k, v⟩, hkv⟩ : ∃ p, kvs[i]? = some p := ⟨kvs[i], List.getElem?_eq_getElem hi⟩
    obtain ⟨u, hu, ru⟩ := kv_get kv hkv
    have hl : kvs.length = vs.length := Paired.length kv
    rw [hl] at st
    refine wpAny_pyNext_values_item st hm hu fun h' st' sb => ?_
    have I1 : Inv X pins σ H { s with heap := h' } := I.turned (t' := s.toks) (fun b ob hb e => (sb.2 b hb).trans e) f0 f1 f3 f4 f5
    obtain ⟨oi, e, c, dd⟩ := id st'
    refine ⟨u, rfl, go_of (s := { s with heap := h' }) e c dd (by decide) ⟨v, H, I1, ru, ⟨rfl, k, hkv⟩, ?_, fun b hb => (hf b hb).1⟩⟩
    show h'.IsValIter it d (i + 1) kvs.length _
    rw [hl]
    exact st'
  done := by
    intro X hP hw hK hc i pins s σ H E I hf st hg
    subst hP hw hK
    obtain ⟨hd, hi⟩ := hg
    obtain ⟨f0, f1, f2, f3, f4, f5⟩ := hf it (by simp)
    obtain ⟨hs, hgd, hx, es', ep', vs, hdt, hsz, kv, hm⟩ := I.frzK hd
    obtain ⟨rfl, rfl⟩ := dict_ep hod hdt
    have hl : kvs.length = vs.length := Paired.length kv
    rw [hl] at st
    exact wpAny_pyNext_values_end (I.ok.hd hc) st hm (List.getElem?_eq_none (by omega)) fun h' eb => ⟨rfl, I.turned (t' := s.toks) (fun b ob hb e => eb b ob hb e) f0 f1 f3 f4 f5⟩
  self := fun A i s Q E st h => wpAny_pyIter_valiter st h
theorem turn_items {kvs : List (Key × V)} {elts : List Expr} {kk : Nat} {tpos : Pos} (it : Addr) (hod : o.data = .dict es ep) :
    Turn P w K (.Tuple elts kk tpos) (Iti d o kvs) [it] it (fun i h => ∃ ok ov, IsItemIter h it d i kvs.length ep ok ov) where
  mem := by simp
  obj := fun i h st b hb => by
    have e : b = it := by simpa using hb
    subst e
    obtain ⟨ok, ov, e⟩ := st
    exact ⟨_, e, fun v z => nomatch z⟩
  keep := fun i h h' st k => let ⟨ok, ov, e⟩ := st; ⟨ok, ov, k it (by simp) _ e⟩
  item := by
    intro X hP hw hK hc i pins s σ H E I hf st hg
    subst hP hw hK
    obtain ⟨hd, hi⟩ := hg
    obtain ⟨hs, hgd, hx, es', ep', vs, hdt, hsz, kv, hm⟩ := I.frzK hd
    obtain ⟨rfl, rfl⟩ := dict_ep hod hdt
    obtain ⟨⟨k, v⟩, hkv⟩ : ∃ p, kvs[i]? = some p := ⟨kvs[i], List.getElem?_eq_getElem hi⟩
    obtain ⟨u, hu, ru⟩ := kv_get kv hkv
    have hl : kvs.length = vs.length := Paired.length kv
    obtain ⟨ok, ov, he⟩ := st
    rw [hl] at he
    have hlt : it < s.heap.objs.size := Heap.lt_size he
    refine wpAny_pyNext_items_item he hm hu fun key h' hkey ho hT hz hk => ?_
    refine ⟨_, rfl, wpAny_letOwnedTupleGo_items (s := { s with heap := h' }) ho fun h'' he' sb => ?_⟩
    have hT2 : h''.get? s.heap.objs.size = some { cls := .type "tuple", data := .seq #[key, u] } := (sb.2 _ (Nat.ne_of_gt hlt)).trans hT
    have new : ObjOk X.prog X.w (upd H s.heap.objs.size (.tup [kV k, v])) h'' s.heap.objs.size (.tup [kV k, v]) :=
      ⟨by show 2 ≤ sizeLine; decide, [key, u], .cons (relV_key (show keyIs k key = true from hkey)) (.cons ru .nil), ⟨_, hT2, rfl, _, rfl⟩⟩
    have I1 : Inv X pins σ (upd H s.heap.objs.size (.tup [kV k, v])) { s with heap := h'' } :=
      I.turnedNew (t' := s.toks) (ch := [it]) (fun b ob hb e => (sb.2 b (by simpa using hb)).trans (hk b ob (by simpa using hb) e)) hf (Nat.le_refl _) new
    refine ⟨.ref s.heap.objs.size, _, I1, rfl, ⟨_, k, v, hkv, rfl, I.hok.fresh (Nat.le_refl _), rfl⟩, ⟨key, u, ?_⟩, fun b hb => ?_⟩
    · rw [hl]; exact he'
    · have e : b = it := by simpa using hb
      rw [e, upd_ne (Nat.ne_of_lt hlt)]
      exact (hf it (by simp)).1
  done := by
    intro X hP hw hK hc i pins s σ H E I hf st hg
    subst hP hw hK
    obtain ⟨hd, hi⟩ := hg
    obtain ⟨f0, f1, f2, f3, f4, f5⟩ := hf it (by simp)
    obtain ⟨hs, hgd, hx, es', ep', vs, hdt, hsz, kv, hm⟩ := I.frzK hd
    obtain ⟨rfl, rfl⟩ := dict_ep hod hdt
    have hl : kvs.length = vs.length := Paired.length kv
    obtain ⟨ok, ov, he⟩ := st
    rw [hl] at he
    exact wpAny_pyNext_items_end (I.ok.hd hc) he hm (List.getElem?_eq_none (by omega)) fun h' eb => ⟨rfl, I.turned (t' := s.toks) (fun b ob hb e => eb b ob hb e) f0 f1 f3 f4 f5⟩
  self := fun A i s Q E st h => let ⟨_, _, e⟩ := st; PySem.W.kcp_self e h
end

/-! ### for k in d, d.keys(), d.values(), d.items() -/
/-- the dict is locked (tLock, or by the caller) -/
def iKeys (td : TE) : TI := fun σ H R => td σ H fun x H1 => ∃ d o, x = .ref d ∧ ((∃ kvs, H1 d = some (.frz o (.dK kvs)) ∧ R (Itk d o kvs) H1) ∨ ∃ kvs, H1 d = some (.frz o (.dT kvs)) ∧ R (Itkt d o kvs) H1)
def iVals (td : TE) : TI := fun σ H R => td σ H fun x H1 => ∃ d o kvs, x = .ref d ∧ H1 d = some (.frz o (.dK kvs)) ∧ R (Itd d o kvs) H1
def iItems (td : TE) : TI := fun σ H R => td σ H fun x H1 => ∃ d o kvs, x = .ref d ∧ H1 d = some (.frz o (.dK kvs)) ∧ R (Iti d o kvs) H1
def iKeysM (td : TE) : TI := fun σ H R => td σ H fun x H1 => ∃ d o kvs, x = .ref d ∧ H1 d = some (.frz o (.dK kvs)) ∧ R (Itk d o kvs) H1
section
variable {X : Cx} {tg e : Expr} {td : TE} {apos cpos : Pos}
theorem pi_keys (he : PE X e td) : PI X tg e (iKeys td) := by
  intro pins s σ H R I h
  refine thn (he pins s σ H _ I h) fun u s1 ⟨x, H1, I1, rx, d, o, ex, q⟩ => ?_
  subst ex
  obtain rfl : u = Value.ref d := rx
  rcases q with ⟨kvs, hd, q⟩ | ⟨kvs, hd, q⟩
  · obtain ⟨hs, hgd, hx, es, ep, vs, hdt, hsz, kv, hm⟩ := I1.frzK hd
    refine iter_keys hs hgd hx hdt (pi_one (tk := s1.toks) I1 _ (turn_keys _ hdt) ⟨_, Heap.get?_push_size _ rfl, rfl, ?_⟩ q)
    rw [hsz] <;> rfl
  · obtain ⟨hs, hgd, hx, es, ep, hdt, hsz, ent⟩ := I1.frzT hd
    refine iter_keys hs hgd hx hdt (pi_one (tk := s1.toks) I1 _ (turn_keysT _ hdt) ⟨_, Heap.get?_push_size _ rfl, rfl, ?_⟩ q)
    rw [hsz] <;> rfl
theorem pi_values (he : PE X e td) (hbase : attributeBase e "values" X.env (eval e X.env) = eval e X.env := by rfl) (hline : (apos.endLine == cpos.line) = true := by rfl) : PI X tg (.Call (.Attribute e "values" apos) [] [] cpos) (iVals td) := by
  intro pins s σ H R I h
  refine wpAny_Call_method (T := "dict") (id := "dict.values") hbase rfl hline F.plainAttrs_dict F.slot_dict_values F.type_dict_values (thn (he pins s σ H _ I h) fun u s1 ⟨x, H1, I1, rx, d, o, kvs, ex, hd, q⟩ => ?_)
  subst ex
  obtain rfl : u = Value.ref d := rx
  obtain ⟨hs, hgd, hx, es, ep, vs, hdt, hsz, kv, hm⟩ := I1.frzK hd
  have hl : kvs.length = vs.length := Paired.length kv
  refine ⟨hm.dictOf.typeIs, hm.dictOf.mapOf.noDict, ?_⟩
  have I2 : Inv X pins σ H1 { s1 with heap := s1.heap.push { cls := .type "dict_values", data := .fields #[.ref d] } } := I1.kept (t' := s1.toks) fun b ob q => Heap.get?_push_of_some _ q
  have fin : wpAny (model X.prog X.w) X.A (pyIter (.ref s1.heap.objs.size)) (PIE X pins σ tg R) X.xe { s1 with heap := s1.heap.push { cls := .type "dict_values", data := .fields #[.ref d] } } := by
    refine wpAny_pyIter_values (d := d) (knd := mixKind X.prog X.w) ⟨_, Heap.get?_push_size _ rfl, rfl, rfl⟩ (hm.push _) (pi_one (tk := s1.toks) I2 _ (turn_vals _ hdt) ⟨_, Heap.get?_push_size _ rfl, rfl, ?_⟩ q)
    rw [hl] <;> rfl
  show wpAny _ _ (callWith cpos (.builtin "dict.values") [.ref d] [] []) _ X.xe s1
  exact method_meetsIn F.slot_dict_values F.entry_dict_values rfl (PySem.evalArgs_none ⟨rfl, hm.dictOf.typeIs, F.args_dict_values_1 _, _, meets_dict_values (mixKind X.prog X.w) d hs, ⟨vs, hm.dictOf⟩, fin⟩)
theorem pi_items {elts : List Expr} {kk : Nat} {tpos : Pos} (he : PE X e td) (hbase : attributeBase e "items" X.env (eval e X.env) = eval e X.env := by rfl) (hline : (apos.endLine == cpos.line) = true := by rfl) :
    PI X (.Tuple elts kk tpos) (.Call (.Attribute e "items" apos) [] [] cpos) (iItems td) := by
  intro pins s σ H R I h
  refine wpAny_Call_method (T := "dict") (id := "dict.items") hbase rfl hline F.plainAttrs_dict F.slot_dict_items F.type_dict_items (thn (he pins s σ H _ I h) fun u s1 ⟨x, H1, I1, rx, d, o, kvs, ex, hd, q⟩ => ?_)
  subst ex
  obtain rfl : u = Value.ref d := rx
  obtain ⟨hs, hgd, hx, es, ep, vs, hdt, hsz, kv, hm⟩ := I1.frzK hd
  have hl : kvs.length = vs.length := Paired.length kv
  refine ⟨hm.dictOf.typeIs, hm.dictOf.mapOf.noDict, ?_⟩
  have I2 : Inv X pins σ H1 { s1 with heap := s1.heap.push { cls := .type "dict_items", data := .fields #[.ref d] } } := I1.kept (t' := s1.toks) fun b ob q => Heap.get?_push_of_some _ q
  have fin : wpAny (model X.prog X.w) X.A (pyIter (.ref s1.heap.objs.size)) (PIE X pins σ (.Tuple elts kk tpos) R) X.xe { s1 with heap := s1.heap.push { cls := .type "dict_items", data := .fields #[.ref d] } } := by
    refine wpAny_pyIter_items (d := d) (knd := mixKind X.prog X.w) ⟨_, Heap.get?_push_size _ rfl, rfl, rfl⟩ (hm.push _) (pi_one (tk := s1.toks) I2 _ (turn_items _ hdt) ⟨.none, .none, ?_⟩ q)
    rw [hl]
    exact Heap.get?_push_size _ rfl
  show wpAny _ _ (callWith cpos (.builtin "dict.items") [.ref d] [] []) _ X.xe s1
  exact method_meetsIn F.slot_dict_items F.entry_dict_items rfl (PySem.evalArgs_none ⟨rfl, hm.dictOf.typeIs, F.args_dict_items_1 _, _, meets_dict_items (mixKind X.prog X.w) d hs, ⟨vs, hm.dictOf⟩, fin⟩)
theorem pi_keysM (he : PE X e td) (hbase : attributeBase e "keys" X.env (eval e X.env) = eval e X.env := by rfl) (hline : (apos.endLine == cpos.line) = true := by rfl) : PI X tg (.Call (.Attribute e "keys" apos) [] [] cpos) (iKeysM td) := by
  intro pins s σ H R I h
  refine wpAny_Call_method (T := "dict") (id := "dict.keys") hbase rfl hline F.plainAttrs_dict F.slot_dict_keys F.type_dict_keys (thn (he pins s σ H _ I h) fun u s1 ⟨x, H1, I1, rx, d, o, kvs, ex, hd, q⟩ => ?_)
  subst ex
  obtain rfl : u = Value.ref d := rx
  obtain ⟨hs, hgd, hx, es, ep, vs, hdt, hsz, kv, hm⟩ := I1.frzK hd
  have hl : kvs.length = vs.length := Paired.length kv
  refine ⟨hm.dictOf.typeIs, hm.dictOf.mapOf.noDict, ?_⟩
  have I2 : Inv X pins σ H1 { s1 with heap := s1.heap.push { cls := .type "dict_keys", data := .fields #[.ref d] } } := I1.kept (t' := s1.toks) fun b ob q => Heap.get?_push_of_some _ q
  have fin : wpAny (model X.prog X.w) X.A (pyIter (.ref s1.heap.objs.size)) (PIE X pins σ tg R) X.xe { s1 with heap := s1.heap.push { cls := .type "dict_keys", data := .fields #[.ref d] } } := by
    refine PySem.W.kdl_pyIter_keys (d := d) (knd := mixKind X.prog X.w) ⟨_, Heap.get?_push_size _ rfl, rfl, rfl⟩ (hm.push _) (pi_one (tk := s1.toks) I2 _ (turn_keys _ hdt) ⟨_, Heap.get?_push_size _ rfl, rfl, ?_⟩ q)
    rw [hl] <;> rfl
  show wpAny _ _ (callWith cpos (.builtin "dict.keys") [.ref d] [] []) _ X.xe s1
  exact method_meetsIn F.slot_dict_keys F.entry_dict_keys rfl (PySem.evalArgs_none ⟨rfl, hm.dictOf.typeIs, F.args_dict_keys_1 _, _, PySem.W.kdl_meets_keys (mixKind X.prog X.w) d hs, ⟨vs, hm.dictOf⟩, fin⟩)
end

/-! ### enumerate(list) -/
/-- the list at a as it stands at each turn, each item in a new pair -/
def Ite (K : PySem.W.Frag) (a : Addr) : It :=
  ⟨fun i H => ∃ (xs : List V) (x : V), SqL K H a xs ∧ xs[i]? = some x, fun i H v H' => ∃ T x, v = .ref T ∧ H T = none ∧ H' = upd H T (.tup [.int (i : Nat), x]) ∧ ∀ xs, SqL K H a xs → xs[i]? = some x, fun i H => ∃ xs : List V, SqL K H a xs ∧ xs.length ≤ i⟩
theorem turn_enum {P : Program} {w : World} {K : PySem.W.Frag} {elts : List Expr} {kk : Nat} {tpos : Pos} (a e it : Addr) :
    Turn P w K (.Tuple elts kk tpos) (Ite K a) [e, it] e (fun i h => (∃ old, IsEnum h e it ((i : Nat) : Int) old) ∧ h.IsListIter it a i ∧ e ≠ it) where
  mem := by simp
  obj := fun i h st b hb => by
    obtain ⟨⟨old, he⟩, ⟨o, ho, hc, hd⟩, _⟩ := st
    have e' : b = e ∨ b = it := by simpa using hb
    rcases e' with z | z
    · rw [z]; exact ⟨_, he, fun v q => nomatch q⟩
    · rw [z]; exact ⟨o, ho, fun v q => by rw [hd] at q; cases q⟩
  keep := fun i h h' st k => let ⟨⟨old, he⟩, hi, hne⟩ := st; ⟨⟨old, k e (by simp) _ he⟩, hi.at fun o q => k it (by simp) o q, hne⟩
  item := by
    intro X hP hw hK hc i pins s σ H E I hf st hg
    subst hP hw hK
    obtain ⟨⟨old, he⟩, hit, hne⟩ := st
    obtain ⟨xs, x, hq, hx⟩ := hg
    obtain ⟨its, rv, p, hz⟩ := I.list hq
    obtain ⟨u, hu, ru⟩ := rv.get hx
    have hel : e < s.heap.objs.size := Heap.lt_size he
    have hil : it < s.heap.objs.size := by obtain ⟨_, q, _⟩ := hit; exact Heap.lt_size q
    refine wpAny_pyNext_enum_item he hit p.isList (x := u) (by simpa using hu) hne fun h' ho hit' hT hsz hk => ?_
    refine ⟨_, rfl, wpAny_letOwnedTupleGo_enum (s := { s with heap := h', toks := s.toks + 1 }) ho fun h'' he' sb => ?_⟩
    have hT2 : h''.get? s.heap.objs.size = some { cls := .type "tuple", data := .seq #[.int i s.toks, u] } := (sb.2 _ (Nat.ne_of_gt hel)).trans hT
    have new : ObjOk X.prog X.w (upd H s.heap.objs.size (.tup [.int (i : Nat), x])) h'' s.heap.objs.size (.tup [.int (i : Nat), x]) :=
      ⟨by show 2 ≤ sizeLine; decide, [.int i s.toks, u], .cons ⟨_, rfl⟩ (.cons ru .nil), ⟨_, hT2, rfl, _, rfl⟩⟩
    have I1 : Inv X pins σ (upd H s.heap.objs.size (.tup [.int (i : Nat), x])) { s with heap := h'', toks := s.toks + 1 } :=
      I.turnedNew (ch := [e, it]) (fun b ob hb q => (sb.2 b (fun z => hb (by simp [z]))).trans (hk b ob (fun z => hb (by simp [z])) (fun z => hb (by simp [z])) q)) hf (Nat.le_refl _) new
    refine ⟨.ref s.heap.objs.size, _, I1, rfl, ⟨_, x, rfl, I.hok.fresh (Nat.le_refl _), rfl, fun ys hy => by rw [I.list_inj hy hq]; exact hx⟩, ⟨⟨u, ?_⟩, hit'.at fun o q => (sb.2 it (Ne.symm hne)).trans q, hne⟩, fun b hb => ?_⟩
    · have e1 : ((i + 1 : Nat) : Int) = (i : Int) + 1 := by omega
      rw [e1]; exact he'
    · have hb' : b < s.heap.objs.size := by
        have e' : b = e ∨ b = it := by simpa using hb
        rcases e' with z | z
        · rw [z]; exact hel
        · rw [z]; exact hil
      rw [upd_ne (Nat.ne_of_lt hb')]
      exact (hf b hb).1
  done := by
    intro X hP hw hK hc i pins s σ H E I hf st hg
    subst hP hw hK
    obtain ⟨⟨old, he⟩, hit, hne⟩ := st
    obtain ⟨xs, hq, hx⟩ := hg
    obtain ⟨its, rv, p, hz⟩ := I.list hq
    obtain ⟨f0, f1, f2, f3, f4, f5⟩ := hf it (by simp)
    have hl := rv.length
    exact wpAny_pyNext_enum_end (I.ok.hd hc) he hit p.isList (by simp; omega) fun h' eb => ⟨rfl, I.turned (t' := s.toks) (fun b o hb q => eb b o hb q) f0 f1 f3 f4 f5⟩
  self := fun A i s Q E st h => let ⟨⟨_, he⟩, _⟩ := st; wpAny_pyIter_enum he h
def iEnum (K : PySem.W.Frag) (ta : TA) : TI := fun σ H R => ta σ H fun vs H1 => ∃ a xs, vs = [.ref a] ∧ SqL K H1 a xs ∧ R (Ite K a) H1
theorem pi_enum {X : Cx} {e : Expr} {ta : TA} {p pos tpos : Pos} {elts : List Expr} {kk : Nat} (hg : Gl X "enumerate") (hm : X.mg "enumerate" = none) (ha : PA X [e] ta) (hs : starEach [e] X.env = [(false, eval e X.env)] := by rfl) :
    PI X (.Tuple elts kk tpos) (.Call (.Name "enumerate" p) [e] [] pos) (iEnum X.K ta) := by
  intro pins s σ H R I h
  refine Call_ (ld_blt I hg hm boot_enumerate (PyProof.Rows.callWith_type1 (thn (ha pos pins s σ H _ I h) fun us s1 ⟨vs, H1, I1, r1, q1⟩ => ?_) hs rfl))
  obtain ⟨a, xs, ex, hq, q⟩ := q1
  subst ex
  cases r1 with
  | cons r rr =>
    cases rr
    cases r
    obtain ⟨its, rv, p', hz⟩ := I1.list hq
    refine call_enumerate_list p'.isList fun h' he hit hsz hk => wpAny_pyIter_enum he ?_
    have I2 : Inv X pins σ H1 { s1 with heap := h' } := I1.kept (t' := s1.toks) hk
    refine ⟨s1.heap.objs.size + 1, [s1.heap.objs.size + 1, s1.heap.objs.size], _, _, H1, rfl, I2, turn_enum a (s1.heap.objs.size + 1) s1.heap.objs.size, ⟨⟨.none, he⟩, hit, Nat.succ_ne_self _⟩, fun b hb => ?_, q⟩
    have e' : b = s1.heap.objs.size + 1 ∨ b = s1.heap.objs.size := by simpa using hb
    have hle : s1.heap.objs.size ≤ b := by
      rcases e' with z | z
      · rw [z]; exact Nat.le_add_right _ _
      · rw [z]; exact Nat.le_refl _
    exact I1.fpOk hle (I1.hok.fresh hle)
/-! ### zip(list, list) -/
theorem boot_zip5 : bootBuiltins "zip" = some (.type "zip") := by decide +kernel
/-- the lists at a and b as they stand at each turn, the items in new pairs -/
def Itz (K : PySem.W.Frag) (a b : Addr) : It :=
  ⟨fun i H => ∃ (xs ys : List V) (x y : V), SqL K H a xs ∧ SqL K H b ys ∧ xs[i]? = some x ∧ ys[i]? = some y,
    fun i H v H' => ∃ T x y, v = .ref T ∧ H T = none ∧ H' = upd H T (.tup [x, y]) ∧ (∀ xs, SqL K H a xs → xs[i]? = some x) ∧ ∀ ys, SqL K H b ys → ys[i]? = some y,
    fun i H => ∃ xs ys : List V, SqL K H a xs ∧ SqL K H b ys ∧ (xs.length ≤ i ∨ ys.length ≤ i)⟩
theorem turn_zip {P : Program} {w : World} {K : PySem.W.Frag} {elts : List Expr} {kk : Nat} {tpos : Pos} {a b z TI TO i1 i2 : Addr} (D : ZipApart z TI TO i1 i2 a b) :
    Turn P w K (.Tuple elts kk tpos) (Itz K a b) [z, TI, TO, i1, i2] z (fun i h => IsZip h z TI TO .none ∧ IsPair h TI (.ref i1) (.ref i2) ∧ (∃ x y, IsPair h TO x y) ∧ h.IsListIter i1 a i ∧ h.IsListIter i2 b i) where
  mem := by simp
  obj := fun i h st c hc => by
    obtain ⟨hz, hTI, ⟨x, y, hTO⟩, ⟨o1, e1, _, d1⟩, ⟨o2, e2, _, d2⟩⟩ := st
    have e' : c = z ∨ c = TI ∨ c = TO ∨ c = i1 ∨ c = i2 := by simpa using hc
    rcases e' with q | q | q | q | q
    · rw [q]; exact ⟨_, hz, fun v q => nomatch q⟩
    · rw [q]; exact ⟨_, hTI, fun v q => nomatch q⟩
    · rw [q]; exact ⟨_, hTO, fun v q => nomatch q⟩
    · rw [q]; exact ⟨o1, e1, fun v q => by rw [d1] at q; cases q⟩
    · rw [q]; exact ⟨o2, e2, fun v q => by rw [d2] at q; cases q⟩
  keep := fun i h h' st k => by
    obtain ⟨hz, hTI, ⟨x, y, hTO⟩, h1, h2⟩ := st
    exact ⟨k z (by simp) _ hz, k TI (by simp) _ hTI, ⟨x, y, k TO (by simp) _ hTO⟩, h1.at fun o q => k i1 (by simp) o q, h2.at fun o q => k i2 (by simp) o q⟩
  item := by
    intro X hP hw hK hc i pins s σ H E I hf st hg
    subst hP hw hK
    obtain ⟨hz, hTI, ⟨x0, y0, hTO⟩, h1, h2⟩ := st
    obtain ⟨xs, ys, x, y, hqx, hqy, hx, hy⟩ := hg
    obtain ⟨its, rv, p, _⟩ := I.list hqx
    obtain ⟨its2, rv2, p2, _⟩ := I.list hqy
    obtain ⟨u, hu, ru⟩ := rv.get hx
    obtain ⟨u2, hu2, ru2⟩ := rv2.get hy
    have hzl : z < s.heap.objs.size := Heap.lt_size hz
    refine wpAny_pyNext_zip_item D hz hTI hTO h1 h2 p.isList p2.isList (x := u) (y := u2) (by simpa using hu) (by simpa using hu2) fun h' z' TO' h1' h2' hT hsz hk => ?_
    refine ⟨_, rfl, wpAny_letOwnedTupleGo_zip (s := { s with heap := h' }) z' fun h'' z'' sb => ?_⟩
    have hT2 : h''.get? s.heap.objs.size = some { cls := .type "tuple", data := .seq #[u, u2] } := (sb.2 _ (Nat.ne_of_gt hzl)).trans hT
    have new : ObjOk X.prog X.w (upd H s.heap.objs.size (.tup [x, y])) h'' s.heap.objs.size (.tup [x, y]) :=
      ⟨by show 2 ≤ sizeLine; decide, [u, u2], .cons ru (.cons ru2 .nil), ⟨_, hT2, rfl, _, rfl⟩⟩
    have I1 : Inv X pins σ (upd H s.heap.objs.size (.tup [x, y])) { s with heap := h'' } :=
      I.turnedNew (t' := s.toks) (ch := [z, TI, TO, i1, i2]) (fun c o hb q => (sb.2 c (fun q' => hb (by simp [q']))).trans (hk c o (fun q' => hb (by simp [q'])) (fun q' => hb (by simp [q'])) (fun q' => hb (by simp [q'])) (fun q' => hb (by simp [q'])) q)) hf (Nat.le_refl _) new
    refine ⟨.ref s.heap.objs.size, _, I1, rfl, ⟨_, x, y, rfl, I.hok.fresh (Nat.le_refl _), rfl, fun l hl => by rw [I.list_inj hl hqx]; exact hx, fun l hl => by rw [I.list_inj hl hqy]; exact hy⟩, ⟨z'', ?_, ⟨u, u2, ?_⟩, ?_, ?_⟩, fun c hcm => ?_⟩
    · exact (sb.2 _ D.TIz).trans (hk _ _ D.TIz D.TITO D.TIi1 D.TIi2 hTI)
    · exact (sb.2 _ D.TOz).trans TO'
    · exact h1'.at fun o q => (sb.2 _ D.i1z).trans q
    · exact h2'.at fun o q => (sb.2 _ D.i2z).trans q
    · have hlt : c < s.heap.objs.size := by
        have e' : c = z ∨ c = TI ∨ c = TO ∨ c = i1 ∨ c = i2 := by simpa using hcm
        rcases e' with q | q | q | q | q
        · rw [q]; exact hzl
        · rw [q]; exact Heap.lt_size hTI
        · rw [q]; exact Heap.lt_size hTO
        · rw [q]; obtain ⟨_, e1, _⟩ := h1; exact Heap.lt_size e1
        · rw [q]; obtain ⟨_, e2, _⟩ := h2; exact Heap.lt_size e2
      rw [upd_ne (Nat.ne_of_lt hlt)]
      exact (hf c hcm).1
  done := by
    intro X hP hw hK hc i pins s σ H E I hf st hg
    subst hP hw hK
    obtain ⟨hz, hTI, ⟨x0, y0, hTO⟩, h1, h2⟩ := st
    obtain ⟨xs, ys, hqx, hqy, hend⟩ := hg
    obtain ⟨its, rv, p, _⟩ := I.list hqx
    obtain ⟨its2, rv2, p2, _⟩ := I.list hqy
    have l1 := rv.length
    have l2 := rv2.length
    have he : its.toArray[i]? = none ∨ its2.toArray[i]? = none := by
      rcases hend with q | q
      · exact .inl (by simp; omega)
      · exact .inr (by simp; omega)
    exact wpAny_pyNext_zip_end (I.ok.hd hc) D hz hTI hTO h1 h2 p.isList p2.isList he fun h' hk => ⟨rfl, I.turnedL (t' := s.toks) (ch := [z, TI, TO, i1, i2]) (fun c o hb q =>
      hk c o (fun q' => hb (by simp [q'])) (fun q' => hb (by simp [q'])) (fun q' => hb (by simp [q'])) (fun q' => hb (by simp [q'])) q) hf⟩
  self := fun A i s Q E st h => wpAny_pyIter_zip st.1 h
def iZip (K : PySem.W.Frag) (ta : TA) : TI := fun σ H R => ta σ H fun vs H1 => ∃ a b xs ys, vs = [.ref a, .ref b] ∧ SqL K H1 a xs ∧ SqL K H1 b ys ∧ R (Itz K a b) H1
theorem pi_zip {X : Cx} {e e2 : Expr} {ta : TA} {p pos tpos : Pos} {elts : List Expr} {kk : Nat} (hg : Gl X "zip") (hm : X.mg "zip" = none) (ha : PA X [e, e2] ta)
    (hs : starEach [e, e2] X.env = (false, eval e X.env) :: starEach [e2] X.env := by rfl) (hpl : (backTo pos (starEach [e2] X.env)).any (·.1) = false := by rfl) :
    PI X (.Tuple elts kk tpos) (.Call (.Name "zip" p) [e, e2] [] pos) (iZip X.K ta) := by
  intro pins s σ H R I h
  refine Call_ (ld_blt I hg hm boot_zip5 (PyProof.Rows.callWith_type1 (thn (ha pos pins s σ H _ I h) fun us s1 ⟨vs, H1, I1, r1, q1⟩ => ?_) hs hpl))
  obtain ⟨a, b, xs, ys, ex, hqx, hqy, q⟩ := q1
  subst ex
  cases r1 with
  | cons r rr =>
    cases rr with
    | cons r' rr =>
      cases rr
      cases r
      cases r'
      obtain ⟨its, rv, p1, _⟩ := I1.list hqx
      obtain ⟨its2, rv2, p2, _⟩ := I1.list hqy
      have la : a < s1.heap.objs.size := p1.lt
      have lb : b < s1.heap.objs.size := p2.lt
      refine call_zip_2 p1.isList p2.isList fun h' hz hTI hTO h1 h2 hsz hk => wpAny_pyIter_zip hz ?_
      have I2 : Inv X pins σ H1 { s1 with heap := h' } := I1.kept (t' := s1.toks) hk
      refine ⟨s1.heap.objs.size + 4, [s1.heap.objs.size + 4, s1.heap.objs.size + 2, s1.heap.objs.size + 3, s1.heap.objs.size, s1.heap.objs.size + 1], _, _, H1, rfl, I2, turn_zip (PySem.W.ktu_apart s1.heap.objs.size a b la lb), ⟨hz, hTI, ⟨_, _, hTO⟩, h1, h2⟩, fun c hcm => ?_, q⟩
      have e' : c = s1.heap.objs.size + 4 ∨ c = s1.heap.objs.size + 2 ∨ c = s1.heap.objs.size + 3 ∨ c = s1.heap.objs.size ∨ c = s1.heap.objs.size + 1 := by simpa using hcm
      have hle : s1.heap.objs.size ≤ c := by
        rcases e' with z | z | z | z | z
        · rw [z]; exact Nat.le_add_right _ _
        · rw [z]; exact Nat.le_add_right _ _
        · rw [z]; exact Nat.le_add_right _ _
        · rw [z]; exact Nat.le_refl _
        · rw [z]; exact Nat.le_add_right _ _
      exact I1.fpOk hle (I1.hok.fresh hle)
end L2

section 
namespace Bits
open PySem PyProof.Rows

theorem nat_and_mul_pow (k : Nat) : ∀ a b : Nat, a < 2 ^ k → a &&& (b * 2 ^ k) = 0 := by
  induction k with
  | zero =>
    intro a b h
    have h0 : a = 0 := by
      rw [Nat.pow_zero] at h
      omega
    subst h0
    simp
  | succ k ih =>
    intro a b h
    have hm : (b * 2 ^ (k + 1)) = (b * 2 ^ k) * 2 := by rw [Nat.pow_succ, Nat.mul_assoc]
    have hlt : a / 2 < 2 ^ k := by
      rw [Nat.pow_succ] at h
      generalize 2 ^ k = m at h ⊢
      omega
    have i := ih (a / 2) b hlt
    rw [hm]
    generalize b * 2 ^ k = B at i ⊢
    have e : (a &&& (B * 2)) / 2 = a / 2 &&& (B * 2) / 2 := Nat.and_div_two
    have e2 : (B * 2) / 2 = B := by omega
    have o := @Nat.and_mod_two_eq_one a (B * 2)
    rw [e2, i] at e
    omega

theorem natCast_mul_pow (m k : Nat) : (m : Int) * 2 ^ k = ((m * 2 ^ k : Nat) : Int) := by
  rw [two_pow_cast]
  first
    | exact (Int.natCast_mul _ _).symm
    | simp

/-- low bits a, high part b: (b << k) | a -/
theorem bitOr_join {a b : Int} {k : Nat} (h0 : 0 ≤ a) (h1 : a < 2 ^ k) (hb : 0 ≤ b) : Builtin.bitOr a (b * 2 ^ k) = a + b * 2 ^ k := by
  obtain ⟨n, rfl⟩ := Int.eq_ofNat_of_zero_le h0
  obtain ⟨m, rfl⟩ := Int.eq_ofNat_of_zero_le hb
  have hn : n < 2 ^ k := by
    rw [two_pow_cast] at h1
    omega
  have e : Builtin.bitAnd (n : Int) ((m * 2 ^ k : Nat) : Int) = 0 := by
    rw [bitAnd_pp (by omega) (by omega), Int.toNat_natCast, Int.toNat_natCast, nat_and_mul_pow k n m hn] <;> rfl
  rw [natCast_mul_pow, bitOr_and, e]
  omega
theorem bitOr_join' {a b : Int} {k : Nat} (h0 : 0 ≤ a) (h1 : a < 2 ^ k) (hb : 0 ≤ b) : Builtin.bitOr (b * 2 ^ k) a = a + b * 2 ^ k := by
  rw [bitOr_comm]
  exact bitOr_join h0 h1 hb

/-- x & ((1 << k) - 1) -/
theorem bitAnd_mask {x : Int} (k : Nat) (hx : 0 ≤ x) : Builtin.bitAnd x (2 ^ k - 1) = x % 2 ^ k := by
  obtain ⟨n, rfl⟩ := Int.eq_ofNat_of_zero_le hx
  have hp : 0 < 2 ^ k := Nat.two_pow_pos k
  rw [two_pow_cast]
  have e : ((2 ^ k : Nat) : Int) - 1 = ((2 ^ k - 1 : Nat) : Int) := by
    generalize (2 : Nat) ^ k = m at hp
    omega
  rw [e, bitAnd_pp (by omega) (by omega), Int.toNat_natCast, Int.toNat_natCast, Nat.and_two_pow_sub_one_eq_mod]
  first
    | rfl
    | exact Int.natCast_emod _ _
    | simp

/-- (x >> i) & 1 -/
theorem bit_at {x : Int} (i : Nat) : Builtin.bitAnd (x.fdiv (2 ^ i)) 1 = x / 2 ^ i % 2 := by
  have hp : (0 : Int) ≤ 2 ^ i := by
    rw [two_pow_cast]
    exact Int.natCast_nonneg _
  rw [Int.fdiv_eq_ediv_of_nonneg _ hp, bitAnd_m1]

theorem nat_xor_add_and (m : Nat) : ∀ n : Nat, (m ^^^ n) + 2 * (m &&& n) = m + n := by
  induction m using Nat.strongRecOn with
  | _ m ih =>
    intro n
    by_cases h0 : m = 0
    · subst h0
      simp
    · have ih' := ih (m / 2) (by omega) (n / 2)
      rw [← Nat.xor_div_two, ← Nat.and_div_two] at ih'
      have o1 := @Nat.xor_mod_two_eq_one m n
      have a1 := @Nat.and_mod_two_eq_one m n
      omega

theorem bitXor_pp {x y : Int} (hx : 0 ≤ x) (hy : 0 ≤ y) : Builtin.bitXor x y = ((x.toNat ^^^ y.toNat : Nat) : Int) := by
  have e := nat_xor_add_and x.toNat y.toNat
  rw [bitXor_and, bitAnd_pp hx hy]
  omega
theorem bitOr_pp {x y : Int} (hx : 0 ≤ x) (hy : 0 ≤ y) : Builtin.bitOr x y = ((x.toNat ||| y.toNat : Nat) : Int) := by
  have e := nat_or_add_and x.toNat y.toNat
  rw [bitOr_and, bitAnd_pp hx hy]
  omega
theorem bitXor_nonneg {x y : Int} (hx : 0 ≤ x) (hy : 0 ≤ y) : 0 ≤ Builtin.bitXor x y := by
  rw [bitXor_pp hx hy]
  omega
theorem bitOr_nonneg {x y : Int} (hx : 0 ≤ x) (hy : 0 ≤ y) : 0 ≤ Builtin.bitOr x y := by
  rw [bitOr_pp hx hy]
  omega

end Bits
end 

section 
namespace TL
open PySem PySem.Builtin PySem.Builtin.Str PySem.StrLaws

abbrev tl (x : Str) : List Nat := x.cps.toList
theorem len_tl (x : Str) : x.length = (tl x).length := by simp [tl, Str.length]
theorem ext_tl {x y : Str} (h : tl x = tl y) : x = y := Str.ext' (Array.toList_inj.mp h)
theorem tl_append (x y : Str) : tl (x ++ y) = tl x ++ tl y := by
  show (x ++ y).cps.toList = _
  rw [Str.cps_append, Array.toList_append]
theorem tl_mk (l : List Nat) : tl ⟨l.toArray⟩ = l := rfl
theorem mk_tl (x : Str) : (⟨(tl x).toArray⟩ : Str) = x := ext_tl rfl
theorem map_tl_inj : ∀ {l m : List Str}, l.map tl = m.map tl → l = m
  | [], [], _ => rfl
  | [], _ :: _, h => by simp at h
  | _ :: _, [], h => by simp at h
  | x :: l, y :: m, h => by
    rw [List.map_cons, List.map_cons] at h
    injection h with h1 h2
    rw [ext_tl h1, map_tl_inj h2]
theorem tl_ofString (s : String) : tl (Str.ofString s) = s.toList.map Char.toNat := PyProof.Rows.signs_ofString s

/-! ### the list functions -/
/-- S stands at the head of l -/
def pre (S l : List Nat) : Bool := l.take S.length == S
/-- l cut at each S from the left; k signs are still to be passed over -/
def spl (S : List Nat) : Nat → List Nat → List Nat → List (List Nat)
  | _, acc, [] => [acc]
  | 0, acc, c :: r => if pre S (c :: r) = true then acc :: spl S (S.length - 1) [] r else spl S 0 (acc ++ [c]) r
  | k + 1, acc, _ :: r => spl S k acc r
/-- what stands before the first S, and behind it -/
def par (S : List Nat) : List Nat → List Nat → Option (List Nat × List Nat)
  | _, [] => none
  | acc, c :: r => if pre S (c :: r) = true then some (acc, (c :: r).drop S.length) else par S (acc ++ [c]) r

theorem spl_nil (S : List Nat) (k : Nat) (acc : List Nat) : spl S k acc [] = [acc] := by cases k <;> rfl
theorem spl_hit {S acc r : List Nat} {c : Nat} (h : pre S (c :: r) = true) : spl S 0 acc (c :: r) = acc :: spl S (S.length - 1) [] r := by
  show (if pre S (c :: r) = true then acc :: spl S (S.length - 1) [] r else spl S 0 (acc ++ [c]) r) = _
  rw [if_pos h]
theorem spl_miss {S acc r : List Nat} {c : Nat} (h : pre S (c :: r) = false) : spl S 0 acc (c :: r) = spl S 0 (acc ++ [c]) r := by
  show (if pre S (c :: r) = true then acc :: spl S (S.length - 1) [] r else spl S 0 (acc ++ [c]) r) = _
  rw [if_neg (by rw [h]; exact Bool.false_ne_true)]
theorem spl_pass (S : List Nat) : ∀ (k : Nat) (acc l : List Nat), spl S k acc l = spl S 0 acc (l.drop k)
  | 0, _, _ => by rw [List.drop_zero]
  | k + 1, acc, [] => by rw [List.drop_nil, spl_nil, spl_nil]
  | k + 1, acc, c :: r => by
    show spl S k acc r = spl S 0 acc (r.drop k)
    exact spl_pass S k acc r
theorem par_hit {S acc r : List Nat} {c : Nat} (h : pre S (c :: r) = true) : par S acc (c :: r) = some (acc, (c :: r).drop S.length) := by
  show (if pre S (c :: r) = true then some (acc, (c :: r).drop S.length) else par S (acc ++ [c]) r) = _
  rw [if_pos h]
theorem par_miss {S acc r : List Nat} {c : Nat} (h : pre S (c :: r) = false) : par S acc (c :: r) = par S (acc ++ [c]) r := by
  show (if pre S (c :: r) = true then some (acc, (c :: r).drop S.length) else par S (acc ++ [c]) r) = _
  rw [if_neg (by rw [h]; exact Bool.false_ne_true)]

theorem pre_nil {S : List Nat} (hS : S ≠ []) : pre S [] = false := by
  cases S with
  | nil => exact absurd rfl hS
  | cons s S => rfl
theorem pre_of_head {s c : Nat} (S r : List Nat) (h : c ≠ s) : pre (s :: S) (c :: r) = false := by
  cases hp : pre (s :: S) (c :: r) with
  | false => rfl
  | true =>
    have e : (c :: r).take (s :: S).length = s :: S := eq_of_beq hp
    rw [List.length_cons, List.take_succ_cons] at e
    injection e with e1 e2
    exact absurd e1 h
theorem pre_self (S r : List Nat) : pre S (S ++ r) = true := by
  show ((S ++ r).take S.length == S) = true
  have e : (S ++ r).take S.length = S := List.take_left
  rw [e] <;> exact beq_self_eq_true S

theorem getElem_drop_cons {L : List Nat} {a : Nat} (h : a < L.length) : ∃ c, L.drop a = c :: L.drop (a + 1) := ⟨L[a], List.drop_eq_getElem_cons h⟩
theorem spl_run (S L : List Nat) : ∀ (m a : Nat) (acc : List Nat), a + m ≤ L.length → (∀ k, a ≤ k → k < a + m → pre S (L.drop k) = false) →
    spl S 0 acc (L.drop a) = spl S 0 (acc ++ (L.drop a).take m) (L.drop (a + m))
  | 0, a, acc, _, _ => by rw [List.take_zero, List.append_nil, Nat.add_zero]
  | m + 1, a, acc, h, hn => by
    have hlt : a < L.length := by omega
    obtain ⟨c, e⟩ := getElem_drop_cons hlt
    have h0 := hn a (Nat.le_refl _) (by omega)
    have ih := spl_run S L m (a + 1) (acc ++ [c]) (by omega) (fun k h1 h2 => hn k (by omega) (by omega))
    have e2 : a + 1 + m = a + (m + 1) := by omega
    rw [e2] at ih
    rw [e] at h0
    rw [e, spl_miss h0, ih, List.take_succ_cons, List.append_assoc] <;> rfl
theorem par_run (S L : List Nat) : ∀ (m a : Nat) (acc : List Nat), a + m ≤ L.length → (∀ k, a ≤ k → k < a + m → pre S (L.drop k) = false) →
    par S acc (L.drop a) = par S (acc ++ (L.drop a).take m) (L.drop (a + m))
  | 0, a, acc, _, _ => by rw [List.take_zero, List.append_nil, Nat.add_zero]
  | m + 1, a, acc, h, hn => by
    have hlt : a < L.length := by omega
    obtain ⟨c, e⟩ := getElem_drop_cons hlt
    have h0 := hn a (Nat.le_refl _) (by omega)
    have ih := par_run S L m (a + 1) (acc ++ [c]) (by omega) (fun k h1 h2 => hn k (by omega) (by omega))
    have e2 : a + 1 + m = a + (m + 1) := by omega
    rw [e2] at ih
    rw [e] at h0
    rw [e, par_miss h0, ih, List.take_succ_cons, List.append_assoc] <;> rfl
theorem drop_two (L : List Nat) (a b : Nat) : (L.drop a).drop b = L.drop (a + b) := by
  first
    | rw [List.drop_drop]
    | rw [List.drop_drop, Nat.add_comm]
theorem spl_at {S L : List Nat} (hS : S ≠ []) {c : Nat} {acc : List Nat} (h : pre S (L.drop c) = true) : spl S 0 acc (L.drop c) = acc :: spl S 0 [] (L.drop (c + S.length)) := by
  rw [← drop_two]
  cases e : L.drop c with
  | nil => rw [e, pre_nil hS] at h; cases h
  | cons d r =>
    rw [e] at h
    rw [spl_hit h, spl_pass]
    cases S with
    | nil => exact absurd rfl hS
    | cons s S => rfl
theorem par_at {S L : List Nat} (hS : S ≠ []) {c : Nat} {acc : List Nat} (h : pre S (L.drop c) = true) : par S acc (L.drop c) = some (acc, L.drop (c + S.length)) := by
  rw [← drop_two]
  cases e : L.drop c with
  | nil => rw [e, pre_nil hS] at h; cases h
  | cons d r =>
    rw [e] at h
    rw [par_hit h]

/-! ### the model's split and partition are these -/
theorem at_iff {x y : Str} (hy : tl y ≠ []) (i : Nat) : At x y x.length i ↔ pre (tl y) ((tl x).drop i) = true := by
  have hx := len_tl x
  have hl := len_tl y
  constructor
  · intro h
    have h2 := h.2
    rw [subAt_eq, hl] at h2
    exact h2
  · intro h
    have e : ((tl x).drop i).take (tl y).length = tl y := eq_of_beq h
    have e1 := congrArg List.length e
    rw [List.length_take, List.length_drop] at e1
    have e2 : 0 < (tl y).length := List.length_pos_iff.mpr hy
    refine ⟨by omega, ?_⟩
    rw [subAt_eq, hl]
    exact h
theorem no_at {x y : Str} (hy : tl y ≠ []) {i : Nat} (h : ¬ At x y x.length i) : pre (tl y) ((tl x).drop i) = false := by
  cases hp : pre (tl y) ((tl x).drop i) with
  | false => rfl
  | true => exact absurd ((at_iff hy i).mpr hp) h
theorem len1 {y : Str} (hy : tl y ≠ []) : 1 ≤ y.length := by
  have e2 : 0 < (tl y).length := List.length_pos_iff.mpr hy
  rw [len_tl y]
  exact e2
theorem tl_strSub (x : Str) (i j : Nat) : tl (strSub x i j) = ((tl x).drop i).take (j - i) := strSub_toList x i j
theorem tl_strSub_end (x : Str) (i : Nat) : tl (strSub x i x.length) = (tl x).drop i := by
  rw [tl_strSub, len_tl x]
  exact List.take_of_length_le (by rw [List.length_drop] <;> omega)

theorem parts_spl {x y : Str} (hy : tl y ≠ []) : ∀ (cuts : List Nat) (a f : Nat), a ≤ (tl x).length → ChainG x y x.length a cuts f → (∀ k, f ≤ k → ¬ At x y x.length k) →
    (partsFrom x y.length a cuts).map tl = spl (tl y) 0 [] ((tl x).drop a)
  | [], a, f, ha, h, hn => by
    have e : f = a := h
    subst e
    show [tl (strSub x f x.length)] = _
    have run := spl_run (tl y) (tl x) ((tl x).length - f) f [] (by omega) (fun k h1 _ => no_at hy (hn k h1))
    have e2 : f + ((tl x).length - f) = (tl x).length := by omega
    rw [e2, List.drop_length, spl_nil, List.nil_append, List.take_of_length_le (by rw [List.length_drop] <;> omega)] at run
    rw [run, tl_strSub_end]
  | c :: r, a, f, ha, h, hn => by
    obtain ⟨h1, h2, h3, h4⟩ := h
    have hc : c + y.length ≤ x.length := h2.1
    have hx := len_tl x
    have hl := len_tl y
    have ih := parts_spl hy r (c + y.length) f (by omega) h4 hn
    show tl (strSub x a c) :: (partsFrom x y.length (c + y.length) r).map tl = _
    have run := spl_run (tl y) (tl x) (c - a) a [] (by omega) (fun k k1 k2 => no_at hy (h3 k k1 (by omega)))
    have e2 : a + (c - a) = c := by omega
    rw [e2, List.nil_append, spl_at hy ((at_iff hy c).mp h2)] at run
    rw [run, ih, tl_strSub, hl]

/-- hk: by kind_ok where the separator is plain -/
theorem split_spl (x y : Str) (hy : tl y ≠ []) (hk : ¬ Builtin.Str.strKind x < Builtin.Str.strKind y) : (Txt.split x y).map tl = spl (tl y) 0 [] (tl x) := by
  obtain ⟨f, g, hn⟩ := occ_tight x y (len1 hy)
  have key := parts_spl hy _ 0 f (Nat.zero_le _) g hn
  rw [List.drop_zero] at key
  have none_case : occurrences x y 0 x.length (x.length + 1) = [] → [x].map tl = spl (tl y) 0 [] (tl x) := fun ho => by
    rw [ho] at key
    rw [← key]
    show [tl x] = [tl (strSub x 0 x.length)]
    rw [sub_whole]
  unfold Txt.split
  by_cases h1 : (decide (x.length < y.length) || decide (Builtin.Str.strKind x < Builtin.Str.strKind y)) = true
  · rw [if_pos h1]
    have hlt : x.length < y.length := by
      simp only [Bool.or_eq_true, decide_eq_true_eq] at h1
      rcases h1 with h | h
      · exact h
      · exact absurd h hk
    refine none_case ?_
    cases ho : occurrences x y 0 x.length (x.length + 1) with
    | nil => rfl
    | cons c r =>
      rw [ho] at g
      have hc : c + y.length ≤ x.length := g.2.1.1
      omega
  · rw [if_neg h1]
    by_cases h2 : (occurrences x y 0 x.length (x.length + 1)).isEmpty = true
    · rw [if_pos h2]
      exact none_case (List.isEmpty_iff.mp h2)
    · rw [if_neg h2, partsBetween_eq]
      exact key
theorem kind_ok {x y : Str} (h : y.cps.all (· < 256) = true) : ¬ Builtin.Str.strKind x < Builtin.Str.strKind y := by
  have e : Builtin.Str.strKind y = 1 := by unfold PySem.Builtin.Str.strKind; rw [if_pos h]
  rw [e]
  unfold PySem.Builtin.Str.strKind
  split
  · omega
  · split <;> omega

theorem partition_par (x y : Str) (hy : tl y ≠ []) :
    Txt.partition x y = (match par (tl y) [] (tl x) with | some (a, b) => (⟨a.toArray⟩, y, ⟨b.toArray⟩) | none => (x, Str.empty, Str.empty)) := by
  have hx := len_tl x
  have hl := len_tl y
  rcases PyProof.Rows.partition_whole x y with ⟨e, hn⟩ | ⟨i, e, hi, hn⟩
  · have run := par_run (tl y) (tl x) (tl x).length 0 [] (by omega) (fun k _ _ => no_at hy (hn k))
    rw [List.drop_zero, Nat.zero_add, List.drop_length] at run
    rw [e, run] <;> rfl
  · have hb : i + y.length ≤ x.length := hi.1
    have run := par_run (tl y) (tl x) i 0 [] (by omega) (fun k _ k2 => no_at hy (hn k (by omega)))
    rw [List.drop_zero, Nat.zero_add, List.nil_append, par_at hy ((at_iff hy i).mp hi)] at run
    rw [e, run]
    have e1 : strSub x 0 i = ⟨((tl x).take i).toArray⟩ := ext_tl (by rw [tl_strSub, List.drop_zero, Nat.sub_zero])
    have e2 : strSub x (i + y.length) x.length = ⟨((tl x).drop (i + (tl y).length)).toArray⟩ := ext_tl (by rw [tl_strSub_end, hl])
    rw [e1, e2] <;> rfl

/-! ### computing spl and par -/
/-- a part that the separator does not begin in, then the separator -/
theorem spl_part {S p rest acc : List Nat} (hS : S ≠ []) (h : ∀ i, i < p.length → pre S ((p ++ (S ++ rest)).drop i) = false) :
    spl S 0 acc (p ++ (S ++ rest)) = (acc ++ p) :: spl S 0 [] rest := by
  have run := spl_run S (p ++ (S ++ rest)) p.length 0 acc (by rw [List.length_append]; omega) (fun k _ k2 => h k (by omega))
  have ed : (p ++ (S ++ rest)).drop p.length = S ++ rest := List.drop_left
  rw [List.drop_zero, Nat.zero_add, List.take_left] at run
  rw [run, spl_at hS (by rw [ed]; exact pre_self S rest), ← drop_two, ed, List.drop_left]
theorem spl_last {S p acc : List Nat} (h : ∀ i, i < p.length → pre S (p.drop i) = false) : spl S 0 acc p = [acc ++ p] := by
  have run := spl_run S p p.length 0 acc (by omega) (fun k _ k2 => h k (by omega))
  rw [List.drop_zero, Nat.zero_add, List.drop_length, spl_nil, List.take_length] at run
  exact run
theorem par_part {S p rest acc : List Nat} (hS : S ≠ []) (h : ∀ i, i < p.length → pre S ((p ++ (S ++ rest)).drop i) = false) :
    par S acc (p ++ (S ++ rest)) = some (acc ++ p, rest) := by
  have run := par_run S (p ++ (S ++ rest)) p.length 0 acc (by rw [List.length_append]; omega) (fun k _ k2 => h k (by omega))
  have ed : (p ++ (S ++ rest)).drop p.length = S ++ rest := List.drop_left
  rw [List.drop_zero, Nat.zero_add, List.take_left] at run
  rw [run, par_at hS (by rw [ed]; exact pre_self S rest), ← drop_two, ed, List.drop_left]
theorem par_none {S p acc : List Nat} (h : ∀ i, i < p.length → pre S (p.drop i) = false) : par S acc p = none := by
  have run := par_run S p p.length 0 acc (by omega) (fun k _ k2 => h k (by omega))
  rw [List.drop_zero, Nat.zero_add, List.drop_length] at run
  exact run
/-- the separator's first sign is not in the part -/
theorem free_of {s : Nat} {S p q : List Nat} (h : s ∉ p) : ∀ i, i < p.length → pre (s :: S) ((p ++ q).drop i) = false := fun i hi => by
  have hlt : i < (p ++ q).length := by rw [List.length_append]; omega
  have e : (p ++ q).drop i = (p ++ q)[i] :: (p ++ q).drop (i + 1) := List.drop_eq_getElem_cons hlt
  rw [e]
  refine pre_of_head _ _ fun z => h ?_
  have e1 : (p ++ q)[i] = p[i] := List.getElem_append_left hi
  rw [← z, e1]
  exact List.getElem_mem hi
theorem spl_part1 {s : Nat} {S p rest acc : List Nat} (h : s ∉ p) : spl (s :: S) 0 acc (p ++ (s :: S ++ rest)) = (acc ++ p) :: spl (s :: S) 0 [] rest :=
  spl_part (by simp) (free_of h)
theorem spl_last1 {s : Nat} {S p acc : List Nat} (h : s ∉ p) : spl (s :: S) 0 acc p = [acc ++ p] := spl_last fun i hi => by
  have z := free_of (S := S) (q := []) h i hi
  rw [List.append_nil] at z
  exact z
theorem par_part1 {s : Nat} {S p rest acc : List Nat} (h : s ∉ p) : par (s :: S) acc (p ++ (s :: S ++ rest)) = some (acc ++ p, rest) := par_part (by simp) (free_of h)
theorem par_none1 {s : Nat} {S p acc : List Nat} (h : s ∉ p) : par (s :: S) acc p = none := par_none fun i hi => by
  have z := free_of (S := S) (q := []) h i hi
  rw [List.append_nil] at z
  exact z

/-- joined lists -/
def joinL (S : List Nat) : List (List Nat) → List Nat
  | [] => []
  | [p] => p
  | p :: q :: r => p ++ (S ++ joinL S (q :: r))
theorem tl_join (y : Str) : ∀ parts : List Str, tl (Str.join y parts) = joinL (tl y) (parts.map tl)
  | [] => rfl
  | [_] => rfl
  | x :: z :: r => by
    show tl (x ++ y ++ Str.join y (z :: r)) = tl x ++ (tl y ++ joinL (tl y) ((z :: r).map tl))
    rw [tl_append, tl_append, tl_join y (z :: r), List.append_assoc]
theorem spl_join {s : Nat} {S : List Nat} : ∀ {parts : List (List Nat)}, parts ≠ [] → (∀ p ∈ parts, s ∉ p) → spl (s :: S) 0 [] (joinL (s :: S) parts) = parts
  | [], h, _ => absurd rfl h
  | [p], _, hp => by
    show spl (s :: S) 0 [] p = [p]
    rw [spl_last1 (hp p (List.mem_singleton.mpr rfl)), List.nil_append]
  | p :: q :: r, _, hp => by
    show spl (s :: S) 0 [] (p ++ (s :: S ++ joinL (s :: S) (q :: r))) = p :: q :: r
    rw [spl_part1 (hp p (List.mem_cons_self ..)), List.nil_append, spl_join (by simp) fun z hz => hp z (List.mem_cons_of_mem _ hz)]
theorem join_eq (y : Str) (parts : List Str) : Txt.join y parts = Str.join y parts := glued_eq_join y parts
/-- THE READ-BACK: a joined text, split -/
theorem split_join {y : Str} {s : Nat} {S : List Nat} (ey : tl y = s :: S) (hk : y.cps.all (· < 256) = true) {parts : List Str} (hne : parts ≠ []) (hp : ∀ p ∈ parts, s ∉ tl p) :
    Txt.split (Txt.join y parts) y = parts := by
  refine map_tl_inj ?_
  rw [split_spl _ y (by rw [ey]; simp) (kind_ok hk), join_eq, tl_join, ey]
  refine spl_join (fun e => hne (List.map_eq_nil_iff.mp e)) fun p h => ?_
  obtain ⟨z, hz, rfl⟩ := List.mem_map.mp h
  exact hp z hz
/-- a text cut at its first separator -/
theorem partition_app {y : Str} {s : Nat} {S : List Nat} (ey : tl y = s :: S) {a b : Str} (h : s ∉ tl a) : Txt.partition (a ++ y ++ b) y = (a, y, b) := by
  rw [partition_par _ y (by rw [ey]; simp), tl_append, tl_append, List.append_assoc, ey, par_part1 h]
  show ((⟨([] ++ tl a).toArray⟩ : Str), y, (⟨(tl b).toArray⟩ : Str)) = _
  rw [List.nil_append, mk_tl, mk_tl]
theorem partition_none {y : Str} {s : Nat} {S : List Nat} (ey : tl y = s :: S) {a : Str} (h : s ∉ tl a) : Txt.partition a y = (a, Str.empty, Str.empty) := by
  rw [partition_par _ y (by rw [ey]; simp), ey, par_none1 h]

/-! ### digits -/
/-- the signs of a number -/
def numL (n : Nat) : List Nat := (Nat.toDigits 10 n).map Char.toNat
theorem tl_num (n : Nat) : tl (Str.ofString (toString ((n : Nat) : Int))) = numL n := PySem.W.KIN.signs_num n
theorem digitChar_nat : ∀ d : Nat, d < 10 → (Nat.digitChar d).toNat = 48 + d := by decide
theorem numL_lt {n : Nat} (h : n < 10) : numL n = [48 + n] := by
  unfold numL
  rw [Nat.toDigits_of_lt_base h]
  show [(Nat.digitChar n).toNat] = _
  rw [digitChar_nat n h]
theorem numL_step {n : Nat} (h : 10 ≤ n) : numL n = numL (n / 10) ++ [48 + n % 10] := by
  have hm : n % 10 < 10 := Nat.mod_lt n (by decide)
  have t : Nat.toDigits 10 (n / 10) ++ Nat.toDigits 10 (n % 10) = Nat.toDigits 10 (10 * (n / 10) + n % 10) := Nat.toDigits_append_toDigits (by decide) (by omega) hm
  rw [Nat.div_add_mod] at t
  show (Nat.toDigits 10 n).map Char.toNat = _
  rw [← t, List.map_append, Nat.toDigits_of_lt_base hm]
  show (Nat.toDigits 10 (n / 10)).map Char.toNat ++ [(Nat.digitChar (n % 10)).toNat] = _
  rw [digitChar_nat _ hm] <;> rfl
theorem numL_digits (n : Nat) : NumText.AllDigits (numL n) := by
  induction n using Nat.strongRecOn with
  | _ n ih =>
    by_cases h : n < 10
    · rw [numL_lt h]
      intro c hc
      rw [List.mem_singleton.mp hc]
      omega
    · rw [numL_step (by omega)]
      intro c hc
      rcases List.mem_append.mp hc with hc | hc
      · exact ih (n / 10) (by omega) c hc
      · have hm : n % 10 < 10 := Nat.mod_lt n (by decide)
        rw [List.mem_singleton.mp hc]
        omega
theorem numL_ne (n : Nat) : numL n ≠ [] := by
  by_cases h : n < 10
  · rw [numL_lt h]
    simp
  · rw [numL_step (by omega)]
    simp
theorem numL_free {n s : Nat} (h : s < 48 ∨ 57 < s) : s ∉ numL n := fun hm => by
  have r := numL_digits n s hm
  omega
theorem numL_val (n : Nat) : NumText.digitsVal (numL n) = n := PySem.W.KIN.val_back n
theorem numL_inj {m n : Nat} (h : numL m = numL n) : m = n := by
  have e := congrArg NumText.digitsVal h
  rw [numL_val, numL_val] at e
  exact e
theorem numL_len {n k : Nat} (hk : 0 < k) (h : n < 10 ^ k) : (numL n).length ≤ k := by
  have z := PyProof.Rows.toString_length_le (v := (n : Int)) (by omega) hk (by
    have e : ((10 : Int) ^ k) = ((10 ^ k : Nat) : Int) := by
      first
        | exact (Int.natCast_pow 10 k).symm
        | simp
    rw [e]
    first | exact Int.ofNat_lt.mpr h | omega)
  rw [len_tl, tl_num] at z
  exact z
/-- int(str(n)) -/
theorem int_num {n : Nat} (h : (numL n).length ≤ 4300) : intText? (Str.ofString (toString ((n : Nat) : Int))) = some (n : Int) := by
  have e := intText_digits (x := Str.ofString (toString ((n : Nat) : Int))) (by rw [show (Str.ofString (toString ((n : Nat) : Int))).cps.toList = numL n from tl_num n]; exact numL_digits n)
    (by rw [show (Str.ofString (toString ((n : Nat) : Int))).cps.toList = numL n from tl_num n]; exact numL_ne n) (by rw [len_tl, tl_num]; exact h)
  rw [show (Str.ofString (toString ((n : Nat) : Int))).cps.toList = numL n from tl_num n, numL_val] at e
  exact e
/-- a program's own loop over digits: total = total * 10 + (ord(sign) - ord("0")) -/
theorem fold_digits : ∀ (l : List Nat) (a : Nat), NumText.AllDigits l → l.foldl (fun (t : Int) (c : Nat) => t * 10 + ((c : Int) - 48)) (a : Int) = ((l.foldl (fun acc c => acc * 10 + (c - 48)) a : Nat) : Int)
  | [], _, _ => rfl
  | c :: r, a, h => by
    have hc := h.head
    rw [List.foldl_cons, List.foldl_cons, ← fold_digits r _ h.tail]
    have e : (a : Int) * 10 + ((c : Int) - 48) = ((a * 10 + (c - 48) : Nat) : Int) := by omega
    rw [e]
theorem fold_num (n : Nat) : (numL n).foldl (fun (t : Int) (c : Nat) => t * 10 + ((c : Int) - 48)) 0 = (n : Int) := by
  have e := fold_digits (numL n) 0 (numL_digits n)
  have v := numL_val n
  unfold NumText.digitsVal at v
  rw [v] at e
  exact e

/-! ### words: x.split() -/
def wstep (st : List (List Nat) × List Nat) (c : Nat) : List (List Nat) × List Nat :=
  if Unicode.isSpace c = true then (if st.2 = [] then st else (st.1 ++ [st.2], [])) else (st.1, st.2 ++ [c])
def wfin (st : List (List Nat) × List Nat) : List (List Nat) := if st.2 = [] then st.1 else st.1 ++ [st.2]
theorem len0_tl (x : Str) : x.length = 0 ↔ tl x = [] := by
  rw [len_tl]
  exact List.length_eq_zero_iff
theorem step_tl (ws : List Str) (u : Str) (c : Nat) : ((KWd.step (ws, u) c).1.map tl, tl (KWd.step (ws, u) c).2) = wstep (ws.map tl, tl u) c := by
  by_cases hc : Unicode.isSpace c = true
  · by_cases hu : u.length = 0
    · have a : KWd.step (ws, u) c = (ws, u) := (if_pos hc).trans (if_pos hu)
      have b : wstep (ws.map tl, tl u) c = (ws.map tl, tl u) := (if_pos hc).trans (if_pos ((len0_tl u).mp hu))
      rw [a, b] <;> rfl
    · have a : KWd.step (ws, u) c = (ws ++ [u], Str.empty) := (if_pos hc).trans (if_neg hu)
      have b : wstep (ws.map tl, tl u) c = (ws.map tl ++ [tl u], []) := (if_pos hc).trans (if_neg fun z => hu ((len0_tl u).mpr z))
      rw [a, b]
      show ((ws ++ [u]).map tl, ([] : List Nat)) = _
      rw [List.map_append] <;> rfl
  · have a : KWd.step (ws, u) c = (ws, u ++ ⟨#[c]⟩) := if_neg hc
    have b : wstep (ws.map tl, tl u) c = (ws.map tl, tl u ++ [c]) := if_neg hc
    rw [a, b]
    show (ws.map tl, tl (u ++ ⟨#[c]⟩)) = _
    rw [tl_append] <;> rfl
theorem scan_tl : ∀ (l : List Nat) (st : KWd.St), ((l.foldl KWd.step st).1.map tl, tl (l.foldl KWd.step st).2) = l.foldl wstep (st.1.map tl, tl st.2)
  | [], _ => rfl
  | c :: r, (ws, u) => by
    show ((r.foldl KWd.step (KWd.step (ws, u) c)).1.map tl, tl (r.foldl KWd.step (KWd.step (ws, u) c)).2) = r.foldl wstep (wstep (ws.map tl, tl u) c)
    exact (scan_tl r (KWd.step (ws, u) c)).trans (congrArg (fun z => r.foldl wstep z) (step_tl ws u c))
theorem fin_tl : ∀ q : KWd.St, (KWd.fin q).map tl = wfin (q.1.map tl, tl q.2)
  | (ws, u) => by
    show (if u.length = 0 then ws else ws ++ [u]).map tl = (if tl u = [] then ws.map tl else ws.map tl ++ [tl u])
    by_cases hu : u.length = 0
    · rw [if_pos hu, if_pos ((len0_tl u).mp hu)]
    · rw [if_neg hu, if_neg (fun z => hu ((len0_tl u).mpr z)), List.map_append] <;> rfl
theorem words_tl (x : Str) : (Txt.words x).map tl = wfin ((tl x).foldl wstep ([], [])) := by
  rw [KWd.words_scan]
  exact (fin_tl (KWd.scan x)).trans (congrArg wfin (scan_tl (tl x) ([], Str.empty)))
/-- a run of signs that are no blanks -/
theorem wfold_word : ∀ (p : List Nat) (ws : List (List Nat)) (u : List Nat), (∀ c ∈ p, Unicode.isSpace c = false) → p.foldl wstep (ws, u) = (ws, u ++ p)
  | [], ws, u, _ => by rw [List.append_nil] <;> rfl
  | c :: r, ws, u, h => by
    have hc := h c (List.mem_cons_self ..)
    rw [List.foldl_cons]
    have e : wstep (ws, u) c = (ws, u ++ [c]) := if_neg (by rw [hc]; exact Bool.false_ne_true)
    rw [e, wfold_word r ws (u ++ [c]) fun d hd => h d (List.mem_cons_of_mem _ hd), List.append_assoc] <;> rfl
theorem isSpace_plain {c : Nat} (h1 : 33 ≤ c) (h2 : c ≤ 126) : Unicode.isSpace c = false := PySem.W.KWk.nosp h1 h2
/-- words joined by one blank -/
theorem wfold_join : ∀ (ps : List (List Nat)) (ws : List (List Nat)), ps ≠ [] → (∀ p ∈ ps, p ≠ [] ∧ ∀ c ∈ p, Unicode.isSpace c = false) → wfin ((joinL [32] ps).foldl wstep (ws, [])) = ws ++ ps
  | [], _, h, _ => absurd rfl h
  | [p], ws, _, h => by
    obtain ⟨h1, h2⟩ := h p (List.mem_singleton.mpr rfl)
    show wfin (p.foldl wstep (ws, [])) = _
    rw [wfold_word p ws [] h2, List.nil_append]
    exact if_neg h1
  | p :: q :: r, ws, _, h => by
    obtain ⟨h1, h2⟩ := h p (List.mem_cons_self ..)
    show wfin ((p ++ ([32] ++ joinL [32] (q :: r))).foldl wstep (ws, [])) = _
    rw [List.foldl_append, wfold_word p ws [] h2, List.nil_append, List.foldl_append]
    have e : [32].foldl wstep (ws, p) = (ws ++ [p], []) := by
      have hs : Unicode.isSpace 32 = true := by decide +kernel
      have a : wstep (ws, p) 32 = (if p = [] then (ws, p) else (ws ++ [p], [])) := if_pos hs
      exact a.trans (if_neg h1)
    rw [e, wfold_join (q :: r) (ws ++ [p]) (by simp) fun z hz => h z (List.mem_cons_of_mem _ hz), List.append_assoc] <;> rfl
end TL
end 

namespace L2
open PySem PySem.Spec PyProof.Rows

theorem notLong {n : Nat} (h : n ≤ 16777216) : Builtin.Str.tooLong n = false := by
  have e : (2 : Nat) ^ 24 = 16777216 := by decide
  unfold Builtin.Str.tooLong sizeLine
  exact decide_eq_false (by omega)

/-- a list of texts, of numbered texts -/
theorem vals_strs : ∀ l : List (Str × Tok), Vals ((l.map (·.1)).map V.str) (strValues l)
  | [] => .nil
  | p :: r => .cons ⟨p.2, rfl⟩ (vals_strs r)
theorem strs_of_vals : ∀ {ys : List Str} {us : List Value}, Vals (ys.map V.str) us → StrsAre us ys
  | [], _, .nil => .nil
  | y :: ys, _, .cons r t => by
    obtain ⟨k, rfl⟩ := r
    exact .cons y k (strs_of_vals t)

/-- a new list of texts, tracked -/
def rNewStrs (ys : List Str) : Hp → VK → Prop := fun H Q => ∀ p, H p = none → Q (.ref p) (upd H p (.lst (ys.map V.str)))

section
variable {X : Cx} {pins : List (Addr × Obj)} {σ : St} {H : Hp} {s : Shared} {Q : VK}
theorem laid_strs {l : List (Str × Tok)} {ys : List Str} {k : Nat} (I : Inv X pins σ H s) (e : l.map (·.1) = ys) (hz : ys.length ≤ sizeLine) (h : rNewStrs ys H Q) :
    EP X pins σ Q (.ref s.heap.objs.size) { s with toks := k, heap := s.heap.push { cls := .type "list", data := .seq (strValues l).toArray } } := by
  have hp := I.hok.fresh (Nat.le_refl _)
  refine ⟨.ref s.heap.objs.size, upd H s.heap.objs.size (.lst (ys.map V.str)), I.laid (fun b u q => Heap.get?_push_of_some _ q) (Nat.le_refl _) ⟨by rw [List.length_map]; exact hz, strValues l, _, ?_, Heap.get?_push_size _ rfl⟩, rfl, h _ hp⟩
  rw [← e]
  exact vals_strs l
theorem laid_parts {x y z : Str} {t u v : Tok} {k : Nat} (I : Inv X pins σ H s) (h : ∀ p, H p = none → Q (.ref p) (upd H p (.tup [.str x, .str y, .str z]))) :
    EP X pins σ Q (.ref s.heap.objs.size) { s with toks := k, heap := s.heap.push { cls := .type "tuple", data := .seq [Value.str x t, .str y u, .str z v].toArray } } := by
  have hp := I.hok.fresh (Nat.le_refl _)
  exact ⟨.ref s.heap.objs.size, upd H s.heap.objs.size (.tup [.str x, .str y, .str z]), I.laid (fun b u q => Heap.get?_push_of_some _ q) (Nat.le_refl _)
    ⟨by show 3 ≤ sizeLine; decide, [Value.str x t, .str y u, .str z v], .cons ⟨t, rfl⟩ (.cons ⟨u, rfl⟩ (.cons ⟨v, rfl⟩ .nil)), _, Heap.get?_push_size _ rfl, rfl, _, rfl⟩, rfl, h _ hp⟩
end

section
variable {X : Cx}

/-- x.split(sep) -/
theorem mt_split : MtR X "str.split" (fun x xs H Q => ∃ a b, x = .str a ∧ xs = [.str b] ∧ (b.length == 0) = false ∧ a.length + 2 ≤ sizeLine ∧ rNewStrs (Txt.split a b) H Q) := by
  intro pins s σ H x xs v us Q I rx rs h
  obtain ⟨a, b, rfl, rfl, hb, hz, h⟩ := h
  obtain ⟨t, rfl⟩ := rx
  cases rs with
  | cons r1 rs =>
    cases rs
    obtain ⟨u, rfl⟩ := r1
    have hl : (Txt.split a b).length ≤ sizeLine := Nat.le_trans (PyProof.Rows.split_le a b) hz
    have hn : (Builtin.Str.partsBetween a (Builtin.Str.occurrences a b 0 a.length (a.length + 1)) b.length).length ≤ sizeLine := by
      have e1 := StrLaws.occ_length_le a b 0 a.length (a.length + 1)
      rw [length_partsBetween]; omega
    cases h1 : (decide (a.length < b.length) || decide (Builtin.Str.strKind a < Builtin.Str.strKind b))
    · cases hf : (Builtin.Str.occurrences a b 0 a.length (a.length + 1)).isEmpty
      · refine call_meets F.slot_str_split (typeIs_str _ _ _) F.entry_str_split (F.args_str_split_2 _ _) (meets_str_split_sep a b t u h1 hb hf (by omega) hn) ?_
        show EP X pins σ Q (.ref s.heap.objs.size) { s with toks := _, heap := s.heap.push { cls := .type "list", data := .seq (strsFrom s.toks (Builtin.Str.partsBetween a (Builtin.Str.occurrences a b 0 a.length (a.length + 1)) b.length)).toArray } }
        rw [strsFrom_eq]
        exact laid_strs (ys := Txt.split a b) I ((numbered_texts _ _).trans ((if_neg (ne_true_of_eq_false h1)).trans (if_neg (ne_true_of_eq_false hf))).symm) hl h
      · refine call_meets F.slot_str_split (typeIs_str _ _ _) F.entry_str_split (F.args_str_split_2 _ _) (meets_str_split_not_found a b t u h1 hb hf) ?_
        exact laid_strs (l := [(a, t)]) (ys := Txt.split a b) (k := s.toks) I ((if_neg (ne_true_of_eq_false h1)).trans (if_pos hf)).symm hl h
    · refine call_meets F.slot_str_split (typeIs_str _ _ _) F.entry_str_split (F.args_str_split_2 _ _) (meets_str_split_cannot_occur a b t u h1) ?_
      exact laid_strs (l := [(a, t)]) (ys := Txt.split a b) (k := s.toks) I (if_pos h1).symm hl h

theorem words_le (x : Str) : (Txt.words x).length ≤ x.length + 1 := by
  have e1 := StrLaws.words_weight x
  omega
/-- x.split() -/
theorem mt_words : MtR X "str.split" (fun x xs H Q => ∃ a, x = .str a ∧ xs = [] ∧ a.length + 2 ≤ sizeLine ∧ rNewStrs (Txt.words a) H Q) := by
  intro pins s σ H x xs v us Q I rx rs h
  obtain ⟨a, rfl, rfl, hz, h⟩ := h
  obtain ⟨t, rfl⟩ := rx
  cases rs
  have hl : (Txt.words a).length ≤ sizeLine := Nat.le_trans (words_le a) (by omega)
  have hn : (Builtin.Str.spaceWords a (a.length + 1)).length ≤ sizeLine := by
    have e1 := (StrLaws.sw_weight a).1
    have e2 := StrLaws.len_le_wsum (Builtin.Str.spaceWords a (a.length + 1))
    omega
  refine call_meets F.slot_str_split (typeIs_str _ _ _) F.entry_str_split (F.args_str_split_1 _) (meets_str_split_space a t (by omega) hn) ?_
  cases hw : Builtin.Str.spaceWords a (a.length + 1) == [(0, a.length)]
  · simp only [Bool.false_eq_true, if_false]
    rw [strsFrom_eq]
    exact laid_strs (ys := Txt.words a) I ((numbered_texts _ _).trans (if_neg (ne_true_of_eq_false hw)).symm) hl h
  · simp only [if_true]
    exact laid_strs (l := [(a, t)]) (ys := Txt.words a) (k := s.toks) I (if_pos hw).symm hl h

/-- x.partition(sep) -/
theorem mt_partition : MtR X "str.partition" (fun x xs H Q => ∃ a b, x = .str a ∧ xs = [.str b] ∧ (b.length == 0) = false ∧ a.length ≤ sizeLine ∧
    ∀ p, H p = none → Q (.ref p) (upd H p (.tup [.str (Txt.partition a b).1, .str (Txt.partition a b).2.1, .str (Txt.partition a b).2.2]))) := by
  intro pins s σ H x xs v us Q I rx rs h
  obtain ⟨a, b, rfl, rfl, hb, hz, h⟩ := h
  obtain ⟨t, rfl⟩ := rx
  cases rs with
  | cons r1 rs =>
    cases rs
    obtain ⟨u, rfl⟩ := r1
    refine call_meets F.slot_str_partition (typeIs_str _ _ _) F.entry_str_partition (F.args_str_partition_2 _ _) (meets_str_partition a b t u hb hz) ?_
    unfold Txt.partition at h
    revert h
    cases Builtin.Str.occurrences a b 0 a.length 1 with
    | nil => intro h; exact laid_parts I h
    | cons i r => intro h; exact laid_parts I h

/-- sep.join(a list | a tuple of texts) -/
theorem mt_join : MtR X "str.join" (fun x xs H Q => ∃ a p, ∃ ys : List Str, x = .str a ∧ xs = [.ref p] ∧ (SqL X.K H p (ys.map V.str) ∨ SqT X.K H p (ys.map V.str)) ∧
    (ys.map (·.length)).sum + ys.length * a.length ≤ 16777216 ∧ Q (.str (Txt.join a ys)) H) := by
  intro pins s σ H x xs v us Q I rx rs h
  obtain ⟨a, p, ys, rfl, rfl, hp, hz, h⟩ := h
  obtain ⟨t, rfl⟩ := rx
  cases rs with
  | cons r1 rs =>
    cases rs
    cases r1
    rcases hp with hp | hp
    · obtain ⟨its, r, ⟨o, n, ho, hc, _, hd⟩, _⟩ := I.list hp
      exact PyProof.Rows.join_list (items := its.toArray) ⟨o, ho, hc, n, hd⟩ (by rw [List.toList_toArray]; exact strs_of_vals r) hz fun t' k => ⟨.str _, H, I.tok k, ⟨t', rfl⟩, h⟩
    · obtain ⟨its, r, ht, _⟩ := I.tuple hp
      exact PyProof.Rows.join_tuple (items := its.toArray) ht (by rw [List.toList_toArray]; exact strs_of_vals r) hz fun t' k => ⟨.str _, H, I.tok k, ⟨t', rfl⟩, h⟩

/-! ### of a text alone -/
theorem mt0 {id : String} {C : Str → Prop} {g : Str → V} (rule : ∀ (a : Str) (t : Tok) (s : Shared) (Q : Value → Shared → Prop), C a → (∀ (u : Value) (k : Nat), RelV (g a) u → Q u { s with toks := k }) →
    wpAny (model X.prog X.w) X.A (call (.builtin id) [.str a t]) Q X.xe s) : MtR X id (fun x xs H Q => ∃ a, x = .str a ∧ xs = [] ∧ C a ∧ Q (g a) H) := by
  intro pins s σ H x xs v us Q I rx rs h
  obtain ⟨a, rfl, rfl, hc, h⟩ := h
  obtain ⟨t, rfl⟩ := rx
  cases rs
  exact rule a t s _ hc fun u k r => ⟨g a, H, I.tok k, r, h⟩
theorem mt_strip : MtR X "str.strip" (fun x xs H Q => ∃ a, x = .str a ∧ xs = [] ∧ a.length ≤ sizeLine ∧ Q (.str (Txt.strip a)) H) :=
  mt0 (C := fun a => a.length ≤ sizeLine) (g := fun a => .str (Txt.strip a)) fun _ _ _ _ hc h => PySem.SC.strip (fun t' k => h _ k ⟨t', rfl⟩) hc
theorem mt_lstrip : MtR X "str.lstrip" (fun x xs H Q => ∃ a, x = .str a ∧ xs = [] ∧ a.length ≤ sizeLine ∧ Q (.str (Txt.lstrip a)) H) :=
  mt0 (C := fun a => a.length ≤ sizeLine) (g := fun a => .str (Txt.lstrip a)) fun _ _ _ _ hc h => PySem.SC.lstrip (fun t' k => h _ k ⟨t', rfl⟩) hc
theorem mt_rstrip : MtR X "str.rstrip" (fun x xs H Q => ∃ a, x = .str a ∧ xs = [] ∧ a.length ≤ sizeLine ∧ Q (.str (Txt.rstrip a)) H) :=
  mt0 (C := fun a => a.length ≤ sizeLine) (g := fun a => .str (Txt.rstrip a)) fun _ _ _ _ hc h => PySem.SC.rstrip (fun t' k => h _ k ⟨t', rfl⟩) hc
theorem mt_lower : MtR X "str.lower" (fun x xs H Q => ∃ a, x = .str a ∧ xs = [] ∧ a.length ≤ 5592405 ∧ Q (.str (Txt.lower a)) H) :=
  mt0 (C := fun a => a.length ≤ 5592405) (g := fun a => .str (Txt.lower a)) fun a _ s _ hc h =>
    PySem.SC.lower (notLong (by have h1 : a.length ≤ 5592405 := hc; have := PyProof.Rows.len_lower a; omega)) (h _ (s.toks + 1) ⟨_, rfl⟩)
theorem mt_upper : MtR X "str.upper" (fun x xs H Q => ∃ a, x = .str a ∧ xs = [] ∧ a.length ≤ 5592405 ∧ Q (.str (Txt.upper a)) H) :=
  mt0 (C := fun a => a.length ≤ 5592405) (g := fun a => .str (Txt.upper a)) fun a _ s _ hc h =>
    PySem.SC.upper (notLong (by have h1 : a.length ≤ 5592405 := hc; have := PyProof.Rows.len_upper a; omega)) (h _ (s.toks + 1) ⟨_, rfl⟩)
theorem mt_isdigit : MtR X "str.isdigit" (fun x xs H Q => ∃ a, x = .str a ∧ xs = [] ∧ True ∧ Q (.bl (Txt.isdigit a)) H) :=
  mt0 (C := fun _ => True) (g := fun a => .bl (Txt.isdigit a)) fun _ _ s _ _ h => PySem.SC.isdigit (h _ s.toks rfl)
theorem mt_isalpha : MtR X "str.isalpha" (fun x xs H Q => ∃ a, x = .str a ∧ xs = [] ∧ True ∧ Q (.bl (Txt.isalpha a)) H) :=
  mt0 (C := fun _ => True) (g := fun a => .bl (Txt.isalpha a)) fun _ _ s _ _ h => PySem.SC.isalpha (h _ s.toks rfl)
theorem mt_isalnum : MtR X "str.isalnum" (fun x xs H Q => ∃ a, x = .str a ∧ xs = [] ∧ True ∧ Q (.bl (Txt.isalnum a)) H) :=
  mt0 (C := fun _ => True) (g := fun a => .bl (Txt.isalnum a)) fun _ _ s _ _ h => PySem.SC.isalnum (h _ s.toks rfl)
theorem mt_isspace : MtR X "str.isspace" (fun x xs H Q => ∃ a, x = .str a ∧ xs = [] ∧ True ∧ Q (.bl (Txt.isspace a)) H) :=
  mt0 (C := fun _ => True) (g := fun a => .bl (Txt.isspace a)) fun _ _ s _ _ h => PySem.SC.isspace (h _ s.toks rfl)

/-! ### of a text and a text -/
theorem mt1 {id : String} {g : Str → Str → V} (rule : ∀ (a b : Str) (t u : Tok) (s : Shared) (Q : Value → Shared → Prop), (∀ (v : Value) (k : Nat), RelV (g a b) v → Q v { s with toks := k }) →
    wpAny (model X.prog X.w) X.A (call (.builtin id) [.str a t, .str b u]) Q X.xe s) : MtR X id (fun x xs H Q => ∃ a b, x = .str a ∧ xs = [.str b] ∧ Q (g a b) H) := by
  intro pins s σ H x xs v us Q I rx rs h
  obtain ⟨a, b, rfl, rfl, h⟩ := h
  obtain ⟨t, rfl⟩ := rx
  cases rs with
  | cons r1 rs =>
    cases rs
    obtain ⟨u, rfl⟩ := r1
    exact rule a b t u s _ fun v k r => ⟨g a b, H, I.tok k, r, h⟩
theorem mt_startswith : MtR X "str.startswith" (fun x xs H Q => ∃ a b, x = .str a ∧ xs = [.str b] ∧ Q (.bl (Txt.startswith a b)) H) :=
  mt1 (g := fun a b => .bl (Txt.startswith a b)) fun _ _ _ _ s _ h => PySem.SC.startswith (h _ s.toks rfl)
theorem mt_endswith : MtR X "str.endswith" (fun x xs H Q => ∃ a b, x = .str a ∧ xs = [.str b] ∧ Q (.bl (Txt.endswith a b)) H) :=
  mt1 (g := fun a b => .bl (Txt.endswith a b)) fun _ _ _ _ s _ h => PySem.SC.endswith (h _ s.toks rfl)
theorem mt_find : MtR X "str.find" (fun x xs H Q => ∃ a b, x = .str a ∧ xs = [.str b] ∧ Q (.int (Txt.find a b)) H) :=
  mt1 (g := fun a b => .int (Txt.find a b)) fun _ _ _ _ s _ h => PySem.SC.find (h _ (s.toks + 1) ⟨_, rfl⟩)
theorem mt_count : MtR X "str.count" (fun x xs H Q => ∃ a b, x = .str a ∧ xs = [.str b] ∧ Q (.int (Txt.count a b)) H) :=
  mt1 (g := fun a b => .int (Txt.count a b)) fun _ _ _ _ s _ h => PySem.SC.count (h _ (s.toks + 1) ⟨_, rfl⟩)

/-- int(text) -/
theorem call_int_str : CallR X (.type "int") (fun xs H Q => ∃ a n, xs = [.str a] ∧ PySem.intText? a = some n ∧ a.length ≤ 640 ∧ Q (.int n) H) := by
  intro pins s σ H xs us Q I rs h
  obtain ⟨a, n, rfl, hn, hl, h⟩ := h
  cases rs with
  | cons r1 rs =>
    cases rs
    obtain ⟨t, rfl⟩ := r1
    exact PySem.W.KIN.call_text hn hl ⟨.int n, H, I.tok _, ⟨_, rfl⟩, h⟩
end

section
variable {X : Cx} {o e : Expr} {to te : TE}
def tM0 (r : V → List V → Hp → VK → Prop) (to : TE) : TE := fun σ H Q => to σ H fun x H1 => (∃ a, x = .str a) ∧ r x [] H1 Q
def tM1 (r : V → List V → Hp → VK → Prop) (to te : TE) : TE := fun σ H Q => to σ H fun x H1 => (∃ a, x = .str a) ∧ te σ H1 fun y H2 => r x [y] H2 Q
theorem pe_m0 {id : String} {name : Str} {apos pos : Pos} {r : V → List V → Hp → VK → Prop} (slot : Slot "str" name id) (ty : typeOf (.builtin id) = pure (.type "method_descriptor")) (rule : MtR X id r) (ho : PE X o to)
    (hbase : attributeBase o name X.env (eval o X.env) = eval o X.env := by rfl) (hline : (apos.endLine == pos.line) = true := by rfl) : PE X (.Call (.Attribute o name apos) [] [] pos) (tM0 r to) := by
  intro pins s σ H Q I h
  refine PySem.Call_method0 hbase hline (thn (ho pins s σ H _ I h) fun v s1 ⟨x, H1, I1, r1, q1⟩ => ?_)
  obtain ⟨⟨a, rfl⟩, q1⟩ := q1
  obtain ⟨t, rfl⟩ := _root_.id r1
  exact ⟨"str", _, F.plainAttrs_str, slot, ty, typeIs_str _ _ _, (fun _ e => nomatch e), Calls.callWith_builtin rfl (PySem.evalArgs_none (rule pins s1 σ H1 _ [] _ [] Q I1 r1 .nil q1))⟩
theorem pe_m1 {id : String} {name : Str} {apos pos : Pos} {r : V → List V → Hp → VK → Prop} (slot : Slot "str" name id) (ty : typeOf (.builtin id) = pure (.type "method_descriptor")) (rule : MtR X id r) (ho : PE X o to) (he : PE X e te)
    (hs : starEach [e] X.env = [(false, eval e X.env)] := by rfl) (hbase : attributeBase o name X.env (eval o X.env) = eval o X.env := by rfl) (hline : (apos.endLine == pos.line) = true := by rfl) :
    PE X (.Call (.Attribute o name apos) [e] [] pos) (tM1 r to te) := by
  intro pins s σ H Q I h
  refine PySem.Call_method1 hbase hs hline (thn (ho pins s σ H _ I h) fun v s1 ⟨x, H1, I1, r1, q1⟩ => ?_)
  obtain ⟨⟨a, rfl⟩, q1⟩ := q1
  obtain ⟨t, rfl⟩ := _root_.id r1
  refine ⟨"str", _, F.plainAttrs_str, slot, ty, typeIs_str _ _ _, (fun _ e => nomatch e), Calls.callWith_builtin rfl (Calls.evalArgs_plain (Calls.spliced_cons ?_))⟩
  exact thn (he pins s1 σ H1 _ I1 q1) fun u s2 ⟨y, H2, I2, r2, q2⟩ => Calls.spliced_nil (rule pins s2 σ H2 _ [y] _ [u] Q I2 r1 (.cons r2 .nil) q2)

theorem pe_split {apos pos : Pos} (ho : PE X o to) (he : PE X e te) (hs : starEach [e] X.env = [(false, eval e X.env)] := by rfl) (hbase : attributeBase o "split" X.env (eval o X.env) = eval o X.env := by rfl) (hline : (apos.endLine == pos.line) = true := by rfl) :
    PE X (.Call (.Attribute o "split" apos) [e] [] pos) (tM1 (fun x xs H Q => ∃ a b, x = .str a ∧ xs = [.str b] ∧ (b.length == 0) = false ∧ a.length + 2 ≤ sizeLine ∧ rNewStrs (Txt.split a b) H Q) to te) :=
  pe_m1 F.slot_str_split F.type_str_split mt_split ho he hs hbase hline
theorem pe_words {apos pos : Pos} (ho : PE X o to) (hbase : attributeBase o "split" X.env (eval o X.env) = eval o X.env := by rfl) (hline : (apos.endLine == pos.line) = true := by rfl) :
    PE X (.Call (.Attribute o "split" apos) [] [] pos) (tM0 (fun x xs H Q => ∃ a, x = .str a ∧ xs = [] ∧ a.length + 2 ≤ sizeLine ∧ rNewStrs (Txt.words a) H Q) to) :=
  pe_m0 F.slot_str_split F.type_str_split mt_words ho hbase hline
theorem pe_partition {apos pos : Pos} (ho : PE X o to) (he : PE X e te) (hs : starEach [e] X.env = [(false, eval e X.env)] := by rfl) (hbase : attributeBase o "partition" X.env (eval o X.env) = eval o X.env := by rfl) (hline : (apos.endLine == pos.line) = true := by rfl) :
    PE X (.Call (.Attribute o "partition" apos) [e] [] pos) (tM1 (fun x xs H Q => ∃ a b, x = .str a ∧ xs = [.str b] ∧ (b.length == 0) = false ∧ a.length ≤ sizeLine ∧
      ∀ p, H p = none → Q (.ref p) (upd H p (.tup [.str (Txt.partition a b).1, .str (Txt.partition a b).2.1, .str (Txt.partition a b).2.2]))) to te) :=
  pe_m1 F.slot_str_partition F.type_str_partition mt_partition ho he hs hbase hline
theorem pe_join {apos pos : Pos} (ho : PE X o to) (he : PE X e te) (hs : starEach [e] X.env = [(false, eval e X.env)] := by rfl) (hbase : attributeBase o "join" X.env (eval o X.env) = eval o X.env := by rfl) (hline : (apos.endLine == pos.line) = true := by rfl) :
    PE X (.Call (.Attribute o "join" apos) [e] [] pos) (tM1 (fun x xs H Q => ∃ a p, ∃ ys : List Str, x = .str a ∧ xs = [.ref p] ∧ (SqL X.K H p (ys.map V.str) ∨ SqT X.K H p (ys.map V.str)) ∧
      (ys.map (·.length)).sum + ys.length * a.length ≤ 16777216 ∧ Q (.str (Txt.join a ys)) H) to te) :=
  pe_m1 F.slot_str_join F.type_str_join mt_join ho he hs hbase hline
theorem pe_strip {apos pos : Pos} (ho : PE X o to) (hbase : attributeBase o "strip" X.env (eval o X.env) = eval o X.env := by rfl) (hline : (apos.endLine == pos.line) = true := by rfl) :
    PE X (.Call (.Attribute o "strip" apos) [] [] pos) (tM0 (fun x xs H Q => ∃ a, x = .str a ∧ xs = [] ∧ a.length ≤ sizeLine ∧ Q (.str (Txt.strip a)) H) to) :=
  pe_m0 F.slot_str_strip F.type_str_strip mt_strip ho hbase hline
theorem pe_lower {apos pos : Pos} (ho : PE X o to) (hbase : attributeBase o "lower" X.env (eval o X.env) = eval o X.env := by rfl) (hline : (apos.endLine == pos.line) = true := by rfl) :
    PE X (.Call (.Attribute o "lower" apos) [] [] pos) (tM0 (fun x xs H Q => ∃ a, x = .str a ∧ xs = [] ∧ a.length ≤ 5592405 ∧ Q (.str (Txt.lower a)) H) to) :=
  pe_m0 F.slot_str_lower F.type_str_lower mt_lower ho hbase hline
theorem pe_upper {apos pos : Pos} (ho : PE X o to) (hbase : attributeBase o "upper" X.env (eval o X.env) = eval o X.env := by rfl) (hline : (apos.endLine == pos.line) = true := by rfl) :
    PE X (.Call (.Attribute o "upper" apos) [] [] pos) (tM0 (fun x xs H Q => ∃ a, x = .str a ∧ xs = [] ∧ a.length ≤ 5592405 ∧ Q (.str (Txt.upper a)) H) to) :=
  pe_m0 F.slot_str_upper F.type_str_upper mt_upper ho hbase hline
end
end L2

namespace L2
open PySem PySem.Spec PyProof.Rows

section
variable {X : Cx}
theorem op_le_str : OpR X (compareOp .LtE) (fun x y H Q => ∃ i j, x = .str i ∧ y = .str j ∧ Q (.bl (!decide (j.cps.toList < i.cps.toList))) H) := by
  intro pins s σ H x y v u Q I rx ry h
  obtain ⟨i, j, rfl, rfl, q⟩ := h
  obtain ⟨t, rfl⟩ := rx
  obtain ⟨t', rfl⟩ := ry
  exact PySem.P.le_str (fin_bl I q rfl)
theorem op_gt_str : OpR X (compareOp .Gt) (fun x y H Q => ∃ i j, x = .str i ∧ y = .str j ∧ Q (.bl (decide (j.cps.toList < i.cps.toList))) H) := by
  intro pins s σ H x y v u Q I rx ry h
  obtain ⟨i, j, rfl, rfl, q⟩ := h
  obtain ⟨t, rfl⟩ := rx
  obtain ⟨t', rfl⟩ := ry
  exact PySem.P.gt_str (fin_bl I q rfl)
theorem op_ge_str : OpR X (compareOp .GtE) (fun x y H Q => ∃ i j, x = .str i ∧ y = .str j ∧ Q (.bl (!decide (i.cps.toList < j.cps.toList))) H) := by
  intro pins s σ H x y v u Q I rx ry h
  obtain ⟨i, j, rfl, rfl, q⟩ := h
  obtain ⟨t, rfl⟩ := rx
  obtain ⟨t', rfl⟩ := ry
  exact PySem.P.ge_str (fin_bl I q rfl)
/-- one sign in a text -/
theorem op_in_sign : OpR X (compareOp .In) (fun x y H Q => ∃ (c : Nat) (z : Str), x = .str ⟨#[c]⟩ ∧ y = .str z ∧ Q (.bl (decide (c ∈ z.cps.toList))) H) := by
  intro pins s σ H x y v u Q I rx ry h
  obtain ⟨c, z, rfl, rfl, q⟩ := h
  obtain ⟨t, rfl⟩ := rx
  obtain ⟨t', rfl⟩ := ry
  exact PyProof.Rows.in_str (fin_bl I q (PySem.StrLaws.found_one z c).symm)
theorem op_notIn_sign : OpR X (compareOp .NotIn) (fun x y H Q => ∃ (c : Nat) (z : Str), x = .str ⟨#[c]⟩ ∧ y = .str z ∧ Q (.bl (!decide (c ∈ z.cps.toList))) H) := by
  intro pins s σ H x y v u Q I rx ry h
  obtain ⟨c, z, rfl, rfl, q⟩ := h
  obtain ⟨t, rfl⟩ := rx
  obtain ⟨t', rfl⟩ := ry
  exact PyProof.Rows.notIn_str (fin_bl I q (congrArg Bool.not (PySem.StrLaws.found_one z c).symm))
end

/-! ### slices of a text -/
theorem IsPart.raw {v : Value} {o : Option Int} (p : IsPart v o) : ∃ l : Option (Int × Tok), v = partValue l ∧ l.map (·.1) = o := by
  cases p with
  | none => exact ⟨none, rfl, rfl⟩
  | int i t => exact ⟨some (i, t), rfl, rfl⟩

/-- a part, clipped, as the text's slice reckons it -/
def clipS (n d : Nat) : Option Int → Int
  | none => (d : Int)
  | some i => max 0 (min (if i < 0 then i + (n : Int) else i) (n : Int))
theorem clipS_eq (n d : Nat) (o : Option Int) : clipS n d o = ((HT.sIx n d o : Nat) : Int) := by
  cases o with
  | none => rfl
  | some v =>
    show max (0 : Int) (min (if v < 0 then v + (n : Int) else v) (n : Int)) = (((if v < 0 then (v + (n : Int)).toNat else min v.toNat n) : Nat) : Int)
    by_cases hv : v < 0
    · simp only [if_pos hv]
      omega
    · simp only [if_neg hv]
      omega
theorem sidx_clip (a b : Option Int) (n : Nat) : Builtin.Str.strSliceIndices a b 1 n = sliceRange (clipS n 0 a) (clipS n n b) 1 := by
  have h1 : ((1 : Int) > 0) = True := by simp
  cases a <;> cases b <;> first
    | rfl
    | (simp only [Builtin.Str.strSliceIndices, clipS, h1, if_true]; rfl)
    | simp [Builtin.Str.strSliceIndices, clipS]
theorem sidx (a b : Option Int) (n : Nat) : Builtin.Str.strSliceIndices a b 1 n = (List.range (HT.sIx n n b - HT.sIx n 0 a)).map (fun k => HT.sIx n 0 a + k) := by
  rw [sidx_clip, clipS_eq, clipS_eq]
  generalize HT.sIx n 0 a = p
  generalize HT.sIx n n b = q
  simp only [sliceRange, show ((1 : Int) > 0) = True from by simp, if_true]
  by_cases hlt : (p : Int) < q
  · have e3 : (((q : Int) - p + 1 - 1) / 1).toNat = q - p := by first | omega | (simp; done) | (simp; omega)
    simp only [hlt, if_true, e3]
    refine List.map_congr_left fun k _ => ?_
    omega
  · have : q - p = 0 := by omega
    simp [hlt, this]

/-- z[lo:hi] -/
def cutS (z : Str) (lo hi : Option Int) : Str :=
  ⟨((z.cps.toList.drop (HT.sIx z.length 0 lo)).take (HT.sIx z.length z.length hi - HT.sIx z.length 0 lo)).toArray⟩
theorem sliceText_cut (z : Str) (lo hi : Option Int) : PySem.StrLaws.sliceText z lo hi = cutS z lo hi := by
  have h1 : HT.sIx z.length 0 lo ≤ z.length := HT.sIx_le _ _ (Nat.zero_le _) _
  have h2 : HT.sIx z.length z.length hi ≤ z.length := HT.sIx_le _ _ (Nat.le_refl _) _
  have hp : HT.sIx z.length 0 lo ≤ max (HT.sIx z.length 0 lo) (HT.sIx z.length z.length hi) := Nat.le_max_left _ _
  have hq : max (HT.sIx z.length 0 lo) (HT.sIx z.length z.length hi) ≤ z.length := Nat.max_le.mpr ⟨h1, h2⟩
  have hd : max (HT.sIx z.length 0 lo) (HT.sIx z.length z.length hi) - HT.sIx z.length 0 lo = HT.sIx z.length z.length hi - HT.sIx z.length 0 lo := by omega
  have e : Builtin.Str.strSliceIndices lo hi 1 z.length =
      Builtin.Str.strSliceIndices (some ((HT.sIx z.length 0 lo : Nat) : Int)) (some ((max (HT.sIx z.length 0 lo) (HT.sIx z.length z.length hi) : Nat) : Int)) 1 z.length := by
    rw [PySem.StrLaws.strSliceIndices_plain hp hq, hd, sidx]
  have e2 : PySem.StrLaws.sliceText z lo hi =
      PySem.StrLaws.sliceText z (some ((HT.sIx z.length 0 lo : Nat) : Int)) (some ((max (HT.sIx z.length 0 lo) (HT.sIx z.length z.length hi) : Nat) : Int)) := by
    unfold PySem.StrLaws.sliceText
    rw [e]
  rw [e2, PySem.StrLaws.sliceText_nat z hp hq, hd]
  rfl
theorem cutS_length (z : Str) (lo hi : Option Int) : (cutS z lo hi).length ≤ z.length := by
  show (((z.cps.toList.drop (HT.sIx z.length 0 lo)).take (HT.sIx z.length z.length hi - HT.sIx z.length 0 lo)).toArray).size ≤ z.cps.size
  rw [List.size_toArray, List.length_take, List.length_drop, Array.length_toList]
  omega
def rSlS : V → Option Int → Option Int → Hp → VK → Prop := fun x lo hi H Q => ∃ z, x = .str z ∧ z.length ≤ sizeLine ∧ Q (.str (cutS z lo hi)) H
theorem sl_str {X : Cx} : SlR X rSlS := by
  intro pins s σ H x v vl vu lo hi sl Q I rx hs pl pu h
  obtain ⟨z, rfl, hz, q⟩ := h
  obtain ⟨t, rfl⟩ := rx
  obtain ⟨os, hos, hcs, hds⟩ := hs
  obtain ⟨l, rfl, rfl⟩ := IsPart.raw pl
  obtain ⟨u, rfl, rfl⟩ := IsPart.raw pu
  refine ⟨"str", _, F.slot_str_getitem.lookup, typeIs_str _ _ _, ?_⟩
  refine wpAny_getItem_str_slice (l := l) (u := u) (st := none) ⟨os, hos, hcs, hds⟩ rfl ?_
  have hl : (PySem.StrLaws.sliceText z (l.map (·.1)) (u.map (·.1))).length ≤ sizeLine := by
    rw [sliceText_cut]
    exact Nat.le_trans (cutS_length z _ _) hz
  rw [← sliceText_cut] at q
  unfold PySem.StrLaws.sliceText at q hl
  show Made.post (if ((1 : Int) == 1 && (Builtin.Str.strSliceIndices (l.map (·.1)) (u.map (·.1)) 1 z.length).length == z.length) = true then Made.val (.str z t)
    else Made.str ⟨((Builtin.Str.strSliceIndices (l.map (·.1)) (u.map (·.1)) 1 z.length).filterMap (z.cps[·]?)).toArray⟩) (EP X pins σ Q) s
  by_cases c : ((1 : Int) == 1 && (Builtin.Str.strSliceIndices (l.map (·.1)) (u.map (·.1)) 1 z.length).length == z.length) = true
  · rw [if_pos c] at q ⊢
    exact ⟨.str z, H, I, ⟨t, rfl⟩, q⟩
  · rw [if_neg c] at q hl ⊢
    exact ⟨hl, .str _, H, I.tok _, ⟨_, rfl⟩, q⟩
end L2

namespace Att
open PySem PySem.W PySem.Calls PyProof.Rows

/-! ### the script -/
theorem ints_of_wellAll {P : Params} {h : Heap} : ∀ (ns : List Int) (vs : List Value), WellAll P h vs (ns.map WData.int) → IntsAre vs ns := by
  intro ns
  induction ns with
  | nil =>
    intro vs w
    rw [List.map_nil] at w
    cases w
    exact .nil
  | cons n ns ih =>
    intro vs w
    rw [List.map_cons] at w
    cases w with
    | cons a b =>
      cases a
      exact .cons _ _ (ih _ b)

theorem script_of {l : OpenLaw} {n : Nat} (hn : l.most = some n) {P : Params} {h : Heap} {args : List WData} {vals : List Value}
    (hpre : l.row.toRowW.claim.pre args = true) (hwl : WellAll P h vals args) :
    ∃ a vs ns, vals = [Value.ref a] ∧ args = [WData.list (ns.map WData.int)] ∧ h.get? a = some { cls := .type "list", data := .seq vs.toArray } ∧ IntsAre vs ns ∧ ns.length ≤ n := by
  have hsh : WShape.hasAll [] args [.list .int] = true := (pre_splitW hpre).1
  have hc : l.pre.holds [] { args := args } = true := (pre_splitW hpre).2
  obtain ⟨d, r, rfl, h1, h2⟩ := hasAllW_cons hsh
  obtain rfl := hasAllW_nil h2
  obtain ⟨xs, rfl, h3⟩ := hasW_list h1
  obtain ⟨ns, rfl⟩ := items_int h3
  have hlen : ns.length ≤ n := by
    unfold OpenLaw.pre at hc
    have h4 : (WTm.not (.lt (.lit (.int (n : Int))) (.len (.arg 0)))).holds [] { args := [.list (ns.map .int)] } = true := by
      have h4 := (holds_andW hc).1
      rw [hn] at h4
      exact h4
    have h5 := condW_of h4 (w_not (w_lt w_lit (w_len_list (w_arg rfl))))
    rw [List.length_map] at h5
    refine Nat.le_of_not_lt fun q => ?_
    have q' : (n : Int) < ((ns.length : Nat) : Int) := by omega
    first
      | (rw [decide_eq_true q'] at h5; exact absurd h5 (by decide))
      | (simp at h5; omega)
  cases hwl with
  | cons w1 w2 =>
    cases w2
    cases w1 with
    | list ho hall => exact ⟨_, _, ns, rfl, rfl, ho, ints_of_wellAll ns _ hall, hlen⟩

theorem post_true (l : OpenLaw) (args : List WData) : l.row.toRowW.claim.post args (.bool true) args = true :=
  postW_of (r := l.row.toRowW) (X := (true == true))
    (show WShape.has [] (.bool true) .bool = true by first | rfl | decide | simp [WShape.has, WShape.arms, WShape.armsAll])
    (show (WTm.eq .res (.lit (.bool true))).value [] { args := args, res := some (.bool true), after := args } = some (.bool (true == true)) from w_eq_bool (w_res rfl) w_lit) rfl

/-! ### the attachment: holds_open's last premise (the goal 'hc' behind k_head) from a wpAny of the law's body -/
theorem attach {l : OpenLaw} {n : Nat} {q : Program} {loose : List Str} {XP : (Str → Option Value) → Heap → Prop} {YP : World → Heap → Prop} {d : DefRec} {x : Str}
    (hn : l.most = some n) (hdf : d.params.defaults = [])
    (hbind : ∀ pm cd doc v : Value, bindArgs (docDef d.name d.params d.body d.scope pm cd doc) ⟨[v], []⟩ = pure [(x, v)])
    (hx : d.scope.names.lookup x = some .local ∨ d.scope.names.lookup x = some .cell)
    (hk : d.scope.kind = .function) (hco : d.scope.isCoroutine = false) (hgen : d.scope.isGenerator = false)
    (body : ∀ (w : World) (s₀ s₁ s : Shared) (mg mb : Str → Option Value) (fa : Addr) (o : Obj) (pm cd doc : Value) (a : Addr) (vs : List Value) (ns : List Int),
      Ground q loose [] XP w s₀ mg mb s₁.heap → YP w s₁.heap →
      s₁.heap.get? fa = some o → o.data = .func (docDef d.name d.params d.body d.scope pm cd doc) → s₁.heap.CodeRec cd d.name → mg d.name = some (.ref fa) →
      s₁.heap.get? a = some { cls := .type "list", data := .seq vs.toArray } → IntsAre vs ns → ns.length ≤ n →
      s.gens = #[] → s.os = s₁.os →
      Fr s₁.heap s₁.heap.objs.size s.heap (bindL (envOfC d.name d.scope s₁.heap.objs.size fa cd).kindOf [(x, .ref a)] fun _ => none) →
      Cl s₁.heap.objs.size (cellsFrom (s₁.heap.objs.size + 1) d.scope.names []) s.heap (bindC (envOfC d.name d.scope s₁.heap.objs.size fa cd).kindOf [(x, .ref a)] fun _ => none) →
      wpAny (model l.prog w) (callerA.deeper (envOfC d.name d.scope s₁.heap.objs.size fa cd)) (execs d.body (envOfC d.name d.scope s₁.heap.objs.size fa cd))
        (fun f s' => f = .ret (.bool true) ∧ OldK s₁.heap s'.heap ∧ s'.os = s₁.os ∧ AllBare s'.gens) (fun _ _ => False) s) :
    WalkO q loose XP YP l.row.toRowW d [] (fun f vs => PySem.call f vs) := by
  intro w s₀ s₁ mg mb G Y fa o pm cd doc dV kV ho hd hcd hD hmg hg args vals as hpre hlay hrd hwl hlo
  obtain rfl : dV = .none := Dflts.none hD hdf
  obtain rfl : kV = .none := Dflts.noKw hD
  obtain ⟨a, vs, ns, rfl, rfl, hobj, hints, hlen⟩ := script_of hn hpre hwl
  refine enter_call ?_
  refine call_cells_ret (o := o) (by rw [depth_caller]; decide) ho (fd_plain hd) G.T.nolimit hcd (hbind pm cd doc (.ref a)) (fun y hy => ?_) (fun h₁ tk F X => ?_) hco hgen hk
  · obtain rfl : y = (x, Value.ref a) := List.mem_singleton.mp hy
    rcases hx with e | e
    · exact .inl e
    · exact .inr ⟨e, cellsFrom_some _ _ _ (.inl e)⟩
  · refine wpAny_mono (body w s₀ s₁ { s₁ with heap := h₁, toks := tk } mg mb fa o pm cd doc a vs ns G Y ho (fd_plain hd) hcd hmg hobj hints hlen hg rfl F X) (fun f s' hq => ?_) (fun _ _ hq => hq)
    obtain ⟨rfl, h2, h3, h4⟩ := hq
    exact ⟨.inl ⟨.bool true, .bool true, [], rfl, fun _ => rfl, .bool true, post_true l _, fun _ => ⟨List.Pairwise.nil, fun _ hm => (nomatch hm)⟩⟩, h2, h3, h4⟩

/-- the same from a codeAny of the CALL (for a layer whose function contracts speak of calls) -/
theorem attach_call {l : OpenLaw} {n : Nat} {q : Program} {loose : List Str} {XP : (Str → Option Value) → Heap → Prop} {YP : World → Heap → Prop} {d : DefRec}
    (hn : l.most = some n) (hdf : d.params.defaults = [])
    (call : ∀ (w : World) (s₀ s₁ : Shared) (mg mb : Str → Option Value) (fa : Addr) (o : Obj) (pm cd doc : Value) (a : Addr) (vs : List Value) (ns : List Int),
      Ground q loose [] XP w s₀ mg mb s₁.heap → YP w s₁.heap →
      s₁.heap.get? fa = some o → o.data = .func (docDef d.name d.params d.body d.scope pm cd doc) → s₁.heap.CodeRec cd d.name → mg d.name = some (.ref fa) →
      s₁.heap.get? a = some { cls := .type "list", data := .seq vs.toArray } → IntsAre vs ns → ns.length ≤ n → s₁.gens = #[] →
      codeAny (model l.prog w) callerA (.call (.ref fa) ⟨[.ref a], []⟩) (fun r s' => r = .ok (.ret (.bool true)) ∧ OldK s₁.heap s'.heap ∧ s'.os = s₁.os ∧ AllBare s'.gens) s₁) :
    WalkO q loose XP YP l.row.toRowW d [] (fun f vs => PySem.call f vs) := by
  intro w s₀ s₁ mg mb G Y fa o pm cd doc dV kV ho hd hcd hD hmg hg args vals as hpre hlay hrd hwl hlo
  obtain rfl : dV = .none := Dflts.none hD hdf
  obtain rfl : kV = .none := Dflts.noKw hD
  obtain ⟨a, vs, ns, rfl, rfl, hobj, hints, hlen⟩ := script_of hn hpre hwl
  refine enter_call (codeAny_mono (call w s₀ s₁ mg mb fa o pm cd doc a vs ns G Y ho (fd_plain hd) hcd hmg hobj hints hlen hg) fun r s' hq => ?_)
  obtain ⟨rfl, h2, h3, h4⟩ := hq
  exact ⟨.inl ⟨.bool true, .bool true, [], rfl, fun _ => rfl, .bool true, post_true l _, fun _ => ⟨List.Pairwise.nil, fun _ hm => (nomatch hm)⟩⟩, h2, h3, h4⟩

/-- the same where the top left finished generators (o_head chose holds_openN): nothing may have changed at all and no generator may be left -/
theorem attachN {l : OpenLaw} {n : Nat} {q : Program} {loose : List Str} {XP : (Str → Option Value) → Heap → Prop} {YP : World → Heap → Prop} {d : DefRec} {x : Str}
    (hn : l.most = some n) (hdf : d.params.defaults = [])
    (hbind : ∀ pm cd doc v : Value, bindArgs (docDef d.name d.params d.body d.scope pm cd doc) ⟨[v], []⟩ = pure [(x, v)])
    (hx : d.scope.names.lookup x = some .local ∨ d.scope.names.lookup x = some .cell)
    (hk : d.scope.kind = .function) (hco : d.scope.isCoroutine = false) (hgen : d.scope.isGenerator = false)
    (body : ∀ (w : World) (s₀ s₁ s : Shared) (mg mb : Str → Option Value) (fa : Addr) (o : Obj) (pm cd doc : Value) (a : Addr) (vs : List Value) (ns : List Int),
      Ground q loose [] XP w s₀ mg mb s₁.heap → YP w s₁.heap →
      s₁.heap.get? fa = some o → o.data = .func (docDef d.name d.params d.body d.scope pm cd doc) → s₁.heap.CodeRec cd d.name → mg d.name = some (.ref fa) →
      s₁.heap.get? a = some { cls := .type "list", data := .seq vs.toArray } → IntsAre vs ns → ns.length ≤ n →
      s.gens = #[] → s.os = s₁.os →
      Fr s₁.heap s₁.heap.objs.size s.heap (bindL (envOfC d.name d.scope s₁.heap.objs.size fa cd).kindOf [(x, .ref a)] fun _ => none) →
      Cl s₁.heap.objs.size (cellsFrom (s₁.heap.objs.size + 1) d.scope.names []) s.heap (bindC (envOfC d.name d.scope s₁.heap.objs.size fa cd).kindOf [(x, .ref a)] fun _ => none) →
      wpAny (model l.prog w) (callerA.deeper (envOfC d.name d.scope s₁.heap.objs.size fa cd)) (execs d.body (envOfC d.name d.scope s₁.heap.objs.size fa cd))
        (fun f s' => f = .ret (.bool true) ∧ (∀ b o, s₁.heap.get? b = some o → s'.heap.get? b = some o) ∧ s'.os = s₁.os ∧ s'.gens = #[]) (fun _ _ => False) s) :
    WalkN q loose XP YP l.row.toRowW d [] (fun f vs => PySem.call f vs) := by
  intro w s₀ s₁ mg mb G Y fa o pm cd doc dV kV ho hd hcd hD hmg hg args vals as hpre hlay hrd hwl hlo
  obtain rfl : dV = .none := Dflts.none hD hdf
  obtain rfl : kV = .none := Dflts.noKw hD
  obtain ⟨a, vs, ns, rfl, rfl, hobj, hints, hlen⟩ := script_of hn hpre hwl
  refine enter_callW ?_
  refine call_cells_ret (o := o) (by rw [depth_caller]; decide) ho (fd_plain hd) G.T.nolimit hcd (hbind pm cd doc (.ref a)) (fun y hy => ?_) (fun h₁ tk F X => ?_) hco hgen hk
  · obtain rfl : y = (x, Value.ref a) := List.mem_singleton.mp hy
    rcases hx with e | e
    · exact .inl e
    · exact .inr ⟨e, cellsFrom_some _ _ _ (.inl e)⟩
  · refine wpAny_mono (body w s₀ s₁ { s₁ with heap := h₁, toks := tk } mg mb fa o pm cd doc a vs ns G Y ho (fd_plain hd) hcd hmg hobj hints hlen hg rfl F X) (fun f s' hq => ?_) (fun _ _ hq => hq)
    obtain ⟨rfl, h2, h3, h4⟩ := hq
    exact ⟨.inl ⟨.bool true, .bool true, [], rfl, fun _ => rfl, .bool true, post_true l _, fun _ => ⟨List.Pairwise.nil, fun _ hm => (nomatch hm)⟩⟩, h2, h3, h4⟩

/-! ### rules over ANY heap (no ledger) from facts about the written part K: the library's own take a ledger (News) for what they write -/
section
variable {prog : Program} {w : World} {A : Around} {E : Value → Shared → Prop} {s : Shared} {K : Frag}

/-- a def of the module, or a method (qual 'C.m'), entered: the frame is the next address; cells behind it -/
theorem call_fn {R : Result → Shared → Prop} {name qual : Str} {params : Arguments} {body : List Stmt} {scope : Scope} {dV kV doc pm cdv ct oc : Value} {an od : Option Addr} {osl : Array (Option Value)} {f : Addr} {args : Args} {binds : List (Str × Value)}
    (X : K.In s.heap) (hlim : s.heap.NoLimit) (ho : K.lookup f = some ⟨oc, od, .func (fnOf name qual params body scope dV kV doc pm an cdv ct), osl⟩) (hcd : codeIn K cdv qual = true) (hroom : A.depth < recursionLimit)
    (hbind : BindsTo s (fnOf name qual params body scope dV kV doc pm an cdv ct) args binds)
    (hkind : (binds.all fun y => scope.names.lookup y.1 == some .local || scope.names.lookup y.1 == some .cell) = true)
    (h : ∀ s₁, InCallC s s.heap.objs.size (bindL (envOfC qual scope s.heap.objs.size f cdv).kindOf binds fun _ => none) (cellsFrom (s.heap.objs.size + 1) scope.names [])
        (bindC (envOfC qual scope s.heap.objs.size f cdv).kindOf binds fun _ => none) s₁ →
      wpAny (model prog w) (A.deeper (envOfC qual scope s.heap.objs.size f cdv)) (execs body (envOfC qual scope s.heap.objs.size f cdv))
        (fun fl s' => R (.ok (.ret (match fl with | .ret v => v | _ => .none))) s')
        (fun e s' => wpAny (model prog w) (A.deeper (envOfC qual scope s.heap.objs.size f cdv)) (leaving (envOfC qual scope s.heap.objs.size f cdv) e) (fun _ s'' => R (.error e) s'') (fun e' s'' => R (.error e') s'') s') s₁)
    (hco : scope.isCoroutine = false) (hgen : scope.isGenerator = false) (hk : scope.kind = .function) : codeAny (model prog w) A (.call (.ref f) args) R s := by
  refine codeAny_call_function hroom (X _ _ ho) rfl hco hgen rfl (codeRec_of X hcd) (hbind _ _ _ _ ?_)
  refine wpAny_newFunctionEnv_cells hk (kindsX hkind _) fun env he s₁ x => ?_
  subst he
  exact ⟨hlim.keeps x.toInCall.keep, codeAny_func (h s₁ x)⟩

/-- C(..): dict at size, instance at size + 1, then __init__ -/
theorem make_obj {R : Result → Shared → Prop} {C fI : Addr} {rest : List Value} {kw : List (Str × Value)}
    (X : K.In s.heap) (hm : makesIn K C = true) (hi : findIn K (.ref C) "__init__" = some (some (.ref fI))) (hf : isFn K (.ref fI) = true)
    (h : codeAny (model prog w) (A.under (.builtin "type.__call__" ⟨.ref C :: rest, kw⟩)) (.call (.ref fI) ⟨.ref (s.heap.objs.size + 1) :: rest, kw⟩) (InitBack (s.heap.objs.size + 1) R)
      { s with heap := (s.heap.push emptyDict).push (instObj C s.heap.objs.size) }) : codeAny (model prog w) A (.call (.ref C) ⟨rest, kw⟩) R s := by
  obtain ⟨hh, g, d, t, os⟩ := s
  exact make_core (makes_of X hm) (looks_findIn X hi) (fun self => bind_fn X self (beq_iff_eq.mp hf)) (.inl rfl) h

/-- x.name where the instance's dict holds the name and the class does not -/
theorem get_field {x C : Addr} {ox : Obj} {es : List DictEntry} {n : Nat} {name : Str} {expr : Bool} {v : Value} {Q : Value → Shared → Prop}
    (X : K.In s.heap) (I : PySem.W.InstAt s.heap x ox C (some (dictOf es n))) (hg : plainGet K C name = true) (hh : hasDictIn K C = true) (ha : findIn K (.ref C) name = some none)
    (hl : getL name es = some (some v)) (hv : handedIn v = true) (h : Q v { s with toks := s.toks + 1 }) : wpAny (model prog w) A (getAttr (.ref x) name expr) Q E s :=
  get_value X I (plainGet_of hg).1 (findObj_own hh ha rfl hl) hv h

/-- x.m(..): the method found in the class -/
theorem get_method {x C f : Addr} {ox : Obj} {es : List DictEntry} {n : Nat} {name : Str} {pl : Sem Bool} {Q : Value × List Value → Shared → Prop}
    (X : K.In s.heap) (I : PySem.W.InstAt s.heap x ox C (some (dictOf es n))) (hg : plainGet K C name = true) (hf : findIn K (.ref C) name = some (some (.ref f))) (ht : isFn K (.ref f) = true)
    (hl : getL name es = some none) (h : Q (.ref f, [.ref x]) s) : wpAny (model prog w) A (getMethod (.ref x) name pl) Q E s :=
  method_fn X I (plainGet_of hg).1 (plainGet_of hg).2 hf (beq_iff_eq.mp ht) (by show (lookIn name (dictOf es n)).map _ = _; rw [lookIn_dict, hl]; rfl) h

/-! the whole heap as the ledger: makes every rule that writes through a ledger a rule over any heap -/
def noObjs (h : Heap) : Heap := { h with objs := #[] }
theorem noObjs_get (h : Heap) (b : Addr) : (noObjs h).get? b = none := by
  cases e : (noObjs h).get? b with
  | none => rfl
  | some o => exact absurd (Heap.lt_size e) (Nat.not_lt_zero _)
def ledger (h : Heap) (L d : Addr) : List (Addr × Obj) := (List.range h.objs.size).filterMap fun a => if a = L ∨ a = d then none else (h.get? a).map fun o => (a, o)
theorem mem_ledger {h : Heap} {L d a : Addr} {o : Obj} : (a, o) ∈ ledger h L d ↔ a ≠ L ∧ a ≠ d ∧ h.get? a = some o := by
  unfold ledger
  rw [List.mem_filterMap]
  constructor
  · rintro ⟨b, _, e⟩
    split at e
    · cases e
    · rename_i hb
      obtain ⟨o', ho, e'⟩ := Option.map_eq_some_iff.mp e
      cases e'
      exact ⟨fun q => hb (.inl q), fun q => hb (.inr q), ho⟩
  · rintro ⟨n1, n2, ho⟩
    refine ⟨a, List.mem_range.mpr (Heap.lt_size ho), ?_⟩
    rw [if_neg (show ¬ (a = L ∨ a = d) from fun q => q.elim n1 n2), ho] <;> rfl
theorem news_ledger {h : Heap} {L d : Addr} {od : Obj} (hne : d ≠ L) (ho : h.get? d = some od) : News (noObjs h) L h ([] ++ (d, od) :: ledger h L d) := by
  rintro ⟨a, o⟩ hp
  rcases List.mem_cons.mp hp with e | hp
  · cases e
    exact ⟨ho, hne, noObjs_get _ _⟩
  · obtain ⟨n1, n2, e⟩ := mem_ledger.mp hp
    exact ⟨e, n1, noObjs_get _ _⟩
theorem fr_all {h : Heap} {L : Addr} {m : Str → Option Value} (n : h.Ns L m) : Fr (noObjs h) L h m :=
  ⟨n, fun b o e => (by rw [noObjs_get] at e; cases e), Nat.zero_le _⟩
/-- Upd of the head entry (for append_K, setItem_K ..) -/
theorem upd_ledger {h : Heap} {L d : Addr} {o o' : Obj} : Upd d o o' ((d, o) :: ledger h L d) ((d, o') :: ledger h L d) :=
  .head fun ⟨_, _⟩ hp => (mem_ledger.mp hp).2.1

/-- x.name = v over any heap: L is any namespace of the heap (the frame's, say): its map stays, its object is not told; all else but the dict stays -/
theorem set_field {x C dx L : Addr} {ox : Obj} {m : Str → Option Value} {es es' : List DictEntry} {n n' : Nat} {name : Str} {v : Value} {Q : Unit → Shared → Prop}
    (X : K.In s.heap) (I : PySem.W.InstAt s.heap x ox C (some (dictOf es n))) (hd : ox.dict = some dx) (hL : s.heap.Ns L m) (hne : dx ≠ L)
    (hs : findIn K (.ref C) "__setattr__" = some (some (.builtin "object.__setattr__"))) (hp : plainOver K C = true) (ht : takerIn K C name = some none) (hh : hasDictIn K C = true) (hl : (getL name es).isSome = true)
    (e : (putL name (PyData.keyHash w.params name) (.str name (s.toks + 1)) v es, putN name es n) = (es', n')) (hz : es'.length ≤ 1000)
    (h : ∀ h' : Heap, h'.Ns L m → h'.get? dx = some (dictOf es' n') → (∀ b o, b ≠ dx → b ≠ L → s.heap.get? b = some o → h'.get? b = some o) → Q () { s with heap := h', toks := s.toks + 2 }) :
    wpAny (model prog w) A (setAttr (.ref x) name v) Q E s := by
  obtain ⟨e1, e2⟩ := Prod.mk.inj e
  have hdx : s.heap.get? dx = some (dictOf es n) := by
    have := I.dict
    rw [hd] at this
    exact this
  refine set_plain X I hs (osa_dict (s := { s with toks := s.toks + 1 }) (h₀ := noObjs s.heap) (L := L) (m := m) (od := dictOf es n) (od' := dictOf es' n') (es := es') (n := n') (pre := []) (post := ledger s.heap L dx)
    (fr_all hL) (news_ledger hne hdx) X I hd hp ht hh hl (fun _ q => nomatch q) (fun ⟨_, _⟩ q => (mem_ledger.mp q).2.1) (by rw [putName_dict, e1, e2]) rfl hz fun h' F' N' => ?_)
  exact h h' F'.ns (N'.get (List.Mem.head _)) fun b o n1 n2 ho => N'.get (List.Mem.tail _ (mem_ledger.mpr ⟨n2, n1, ho⟩))
end
end Att

namespace L2
open PySem PySem.Spec PyProof.Rows

theorem vals_ints : ∀ {vs : List Value} {ns : List Int}, IntsAre vs ns → Vals (ns.map V.int) vs
  | _, _, .nil => .nil
  | _, _, .cons n t h => .cons ⟨t, rfl⟩ (vals_ints h)

/-- nothing is tracked but the script, known to the object (or it is an object of the module) -/
def Only (H : Hp) : Prop := ∀ b, H b = none ∨ ∃ o xs, H b = some (.frz o (.lst xs))

/-- THE HEAD: the law's promise, at the heap behind the top. F, the promise of the law's def, may use that base is part of the heap (so K.In base, base.Ns mainGlobals mg stand in Mod) -/
theorem law_call {P : Program} {w : World} {K : PySem.W.Frag} {mg mb : Str → Option Value} {CX : CXT} {k : Nat} {fa a : Addr} {fd : FuncData} {x : Str} {sp : Sp} {s₁ : Shared} {vs : List Value} {ns : List Int}
    (KX : K.In s₁.heap) (hns : s₁.heap.Ns mainGlobals mg) (hb : s₁.heap.Ns builtinsNs mb) (hbb : ∀ x : Str, x ≠ "__name__" → mb x = bootBuiltins x) (hlim : s₁.heap.NoLimit) (hg : s₁.gens = #[])
    (ha : s₁.heap.get? a = some { cls := .type "list", data := .seq vs.toArray }) (hi : IntsAre vs ns) (hl : ns.length ≤ sizeLine) (hr : Room k callerA)
    (F : ∀ base : Heap, K.In base → base.Ns mainGlobals mg → FnOk P w K mg base CX k fa fd [x] sp) (hbind : ∀ (s : Shared) (u : Value), BindsTo s fd ⟨[u], []⟩ [(x, u)])
    (hsp : ∀ H : Hp, Only H → SqL K H a (ns.map V.int) → sp [.ref a] H (fun v _ => v = .bl true) fun _ _ _ => False)
    (hCX : ∀ H e s', CX [] H s₁ (fun _ _ _ => False) e s' → False) :
    codeAny (model P w) callerA (.call (.ref fa) ⟨[.ref a], []⟩) (fun r s' => r = .ok (.ret (.bool true)) ∧ OldK s₁.heap s'.heap ∧ s'.os = s₁.os ∧ AllBare s'.gens) s₁ := by
  have rv := vals_ints hi
  have lenV := hi.length
  -- from an abstract heap in which nothing but the script may be tracked
  have core : ∀ H : Hp, Only H → SqL K H a (ns.map V.int) → HOk P w H s₁.heap → (∀ b, H b ≠ none → b = a) → (H a ≠ none → K.lookup a = none) →
      codeAny (model P w) callerA (.call (.ref fa) ⟨[.ref a], []⟩) (fun r s' => r = .ok (.ret (.bool true)) ∧ OldK s₁.heap s'.heap ∧ s'.os = s₁.os ∧ AllBare s'.gens) s₁ := by
    intro H hO hS hok hA hK
    have base_of : ∀ {b : Addr} {o : Obj}, s₁.heap.get? b = some o → H b = none → (hidT s₁.heap H).get? b = some o := fun e n => hidT_get e n
    have noA : ∀ {b : Addr} {o : Obj} {es : Array DictEntry} {ep : Nat}, s₁.heap.get? b = some o → o.data = .dict es ep → H b = none := fun {b o es ep} e d => by
      cases q : H b with
      | none => rfl
      | some u =>
        have e' : b = a := hA b (by rw [q]; simp)
        subst e'
        rw [ha] at e; cases e
        have d' : Data.seq vs.toArray _ = Data.dict es ep := d
        cases d'
    have nsK : ∀ {b : Addr} {m : Str → Option Value}, s₁.heap.Ns b m → (hidT s₁.heap H).Ns b m := fun {b m} ⟨o, es, ep, e, d, r⟩ => ⟨o, es, ep, base_of e (noA e d), d, r⟩
    have hKb : K.In (hidT s₁.heap H) := fun b o e => base_of (KX b o e) (by
      cases q : H b with
      | none => rfl
      | some u =>
        have e' : b = a := hA b (by rw [q]; simp)
        subst e'
        rw [hK (by rw [q]; simp)] at e; cases e)
    have hM : Mod K mg (hidT s₁.heap H) := ⟨hKb, nsK hns, ⟨mb, nsK hb, hbb⟩, let ⟨mc, h1, h2⟩ := hlim; ⟨mc, nsK h1, h2⟩⟩
    have e0 : Env0 P w K mg (hidT s₁.heap H) callerA [] s₁ H := ⟨rfl, hM, fun b o e => of_hidT e, Nat.le_of_eq (hidT_size _ _), trivial, fun b hb => absurd (show b ∈ ([] : List Addr) from hb) (by simp), hok, .of_eq hg⟩
    refine codeAny_mono ((F _ hKb (nsK hns)).run callerA [] s₁ H ⟨[.ref a], []⟩ [.ref a] [.ref a] _ _ hr e0 (hbind s₁ (.ref a)) (.cons rfl .nil) (hsp H hO hS)) fun r s' h => ?_
    cases r with
    | error e => exact (hCX H e s' h).elim
    | ok fl =>
      cases fl with
      | next => exact False.elim h
      | brk => exact False.elim h
      | cont => exact False.elim h
      | ret u =>
        obtain ⟨v, H', os, bare, un, hok', r', q⟩ := h
        have q' : v = .bl true := q
        subst q'
        obtain rfl : u = Value.bool true := r'
        refine ⟨rfl, OldK.of_keep fun b o e => ?_, os, bare⟩
        cases q : H b with
        | none => exact un.keep b o e q (by intro z; exact absurd (show b ∈ ([] : List Addr) from z) (by simp)) (by simp)
        | some u =>
          rcases hO b with z | ⟨ob, xs, z⟩
          · rw [q] at z; cases z
          · have z2 := un.frzs b ob _ z
            obtain ⟨e1, _⟩ := hok b _ z
            obtain ⟨e2, _⟩ := hok' b _ z2
            rw [e] at e1; cases e1
            exact e2
  cases hk : K.lookup a with
  | some o =>
    -- the script is one of the module's own objects
    have e := KX a o hk
    rw [ha] at e
    cases e
    refine core (fun _ => none) (fun _ => .inl rfl) (.inr ⟨_, vs.toArray, _, hk, rfl, rfl, rfl, by rw [List.size_toArray, lenV]; exact hl, by simpa using rv⟩) (fun b u z => by have z' : (none : Option HO) = some u := z; cases z') (fun b z => absurd rfl z) fun z => absurd rfl z
  | none =>
    refine core (fun b => if b = a then some (.frz { cls := .type "list", data := .seq vs.toArray } (.lst (ns.map V.int))) else none) (fun b => ?_) (.inl (.inr ⟨{ cls := .type "list", data := .seq vs.toArray }, if_pos rfl⟩)) (fun b u z => ?_) (fun b z => ?_) fun _ => hk
    · by_cases hb : b = a
      · exact .inr ⟨_, _, if_pos hb⟩
      · exact .inl (if_neg hb)
    · by_cases hb : b = a
      · have z' := (if_pos hb).symm.trans z
        cases z'
        subst hb
        exact ⟨ha, by rw [List.length_map]; exact hl, vs, _, rv, ha⟩
      · have z' := (if_neg hb).symm.trans z
        cases z'
    · by_cases hb : b = a
      · exact hb
      · exact absurd (if_neg hb) z
end L2

namespace L2
open PySem PySem.Spec PyProof.Rows

abbrev KOf {K : PySem.W.Frag} {h : Heap} (_ : K.In h) : PySem.W.Frag := K

/-- the goal that k_head leaves (case hc), from the law's promise. F gives the function object fd (K's own) once, then the promise over every base -/
theorem walk_of {l : PySem.W.OpenLaw} {n k : Nat} {q : Program} {loose : List Str} {XP : (Str → Option Value) → Heap → Prop} {YP : World → Heap → Prop} {d : DefRec} {K : Params → PySem.W.Frag} {CX : World → CXT} {sp : World → Sp} {x : Str}
    (hn : l.most = some n) (hn2 : n ≤ sizeLine) (hdf : d.params.defaults = []) (hr : Room k callerA)
    (hY : ∀ (w : World) (h : Heap), YP w h → (K w.params).In h)
    (F : ∀ (w : World) (mg : Str → Option Value) (fa : Addr) (h : Heap), (K w.params).In h → h.Ns mainGlobals mg → mg d.name = some (.ref fa) →
      ∃ fd : FuncData, (∀ (s : Shared) (u : Value), BindsTo s fd ⟨[u], []⟩ [(x, u)]) ∧
        ∀ base : Heap, (K w.params).In base → base.Ns mainGlobals mg → FnOk l.prog w (K w.params) mg base (CX w) k fa fd [x] (sp w))
    (hsp : ∀ (w : World) (H : Hp) (a : Addr) (ns : List Int), ns.length ≤ n → Only H → SqL (K w.params) H a (ns.map V.int) → sp w [.ref a] H (fun v _ => v = .bl true) fun _ _ _ => False)
    (hCX : ∀ (w : World) (H : Hp) (s : Shared) (e : Value) (s' : Shared), CX w [] H s (fun _ _ _ => False) e s' → False) :
    PySem.W.WalkO q loose XP YP l.row.toRowW d [] (fun f vs => PySem.call f vs) := by
  refine Att.attach_call hn hdf fun w s₀ s₁ mg mb fa o pm cd doc a vs ns G Y ho hd hcd hmg hobj hints hlen hg => ?_
  have KX := hY w _ Y
  obtain ⟨fd, hb, hF⟩ := F w mg fa _ KX G.T.g hmg
  exact law_call KX G.T.g G.T.b G.T.builtins G.T.nolimit hg hobj hints (Nat.le_trans hlen hn2) hr hF hb (fun H hO hS => hsp w H a ns hlen hO hS) fun H e s' => hCX w H s₁ e s'
/-- the same where the promise hangs on the written part alone: (sp := My.sp_law), no hole under a binder -/
theorem walk_ofK {l : PySem.W.OpenLaw} {n k : Nat} {q : Program} {loose : List Str} {XP : (Str → Option Value) → Heap → Prop} {YP : World → Heap → Prop} {d : DefRec} {K : Params → PySem.W.Frag} {CX : CXT} {sp : PySem.W.Frag → Sp} {x : Str}
    (hn : l.most = some n) (hn2 : n ≤ sizeLine) (hdf : d.params.defaults = []) (hr : Room k callerA)
    (hY : ∀ (w : World) (h : Heap), YP w h → (K w.params).In h)
    (F : ∀ (w : World) (mg : Str → Option Value) (fa : Addr) (h : Heap), (K w.params).In h → h.Ns mainGlobals mg → mg d.name = some (.ref fa) →
      ∃ fd : FuncData, (∀ (s : Shared) (u : Value), BindsTo s fd ⟨[u], []⟩ [(x, u)]) ∧
        ∀ base : Heap, (K w.params).In base → base.Ns mainGlobals mg → FnOk l.prog w (K w.params) mg base CX k fa fd [x] (sp (K w.params)))
    (hsp : ∀ (K : PySem.W.Frag) (H : Hp) (a : Addr) (ns : List Int), ns.length ≤ n → Only H → SqL K H a (ns.map V.int) → sp K [.ref a] H (fun v _ => v = .bl true) fun _ _ _ => False)
    (hCX : ∀ (H : Hp) (s : Shared) (e : Value) (s' : Shared), CX [] H s (fun _ _ _ => False) e s' → False) :
    PySem.W.WalkO q loose XP YP l.row.toRowW d [] (fun f vs => PySem.call f vs) :=
  walk_of (K := K) (CX := fun _ => CX) (sp := fun w => sp (K w.params)) hn hn2 hdf hr hY F (fun w H a ns h1 h2 h3 => hsp (K w.params) H a ns h1 h2 h3) fun _ H s e s' => hCX H s e s'
end L2

/- THE LAST THEOREM (shape; LID, My.* are yours):
   My.Adr: a structure of the addresses that your layer names (classes, functions); My.Txt K t: a structure (Prop) of the equations over K;
   My.txt_mk : {K} {implicit addresses ..} (e1 : nsIn K mainGlobals "law" = some (some (.ref f))) (e2 : K.lookup f = some ⟨oc, od, .func (fnOf "law" "law" params body scope dV kV doc pm an cdv ct), sl⟩) (e3 : codeIn K cdv "law" = true) .. : ∃ t, My.Txt K t

set_option maxRecDepth 100000 in
set_option maxHeartbeats 0 in
theorem PySem.Challenge.cw_LID_holds : PySem.Challenge.rw_LID.Holds := by
  w_on; o_law; k_head; (case hw => w_witness2)
  k_fill
  refine L2.walk_of (l := PySem.Challenge.rw_LID) (n := 63) (k := 40) (x := "script") (CX := fun w => ..) (sp := fun _ => My.sp_law) rfl (by decide) rfl ⟨rfl, by decide, by decide⟩ (fun w h Y => PySem.W.kIn_of Y) ?F ?S ?C
  case F =>
    intro w mg fa h KX G hmg
    have T : ∃ t, My.Txt (L2.KOf KX) t := by
      dsimp only [L2.KOf]                          -- K must stand as «<heap const> w.params» for k_is
      refine' My.txt_mk ?e1 ?e2 ?e3 ..
      (case e1 => PySem.W.k_is)                    -- in the order: a name -> its address -> its object -> its parts
      (case e2 => PySem.W.k_is)
      ..
    obtain ⟨t, T⟩ := T
    have e0 := hmg.symm.trans (PySem.W.mg_of KX G T.law)
    cases e0                                       -- fa is the law's own address
    exact ⟨_, fun s u => .of_eq rfl, fun base kb nb => My.law_fn T kb nb⟩     -- if «.of_eq rfl» comes too early: refine' ⟨_, ?b, fun base kb nb => My.law_fn T kb nb⟩; exact fun s u => .of_eq rfl
  case S => exact fun w H a ns hl hO hS => ..
  case C => exact ..
(the tactic k_is has no namespace: write k_is) -/

/-! SHORT WORDS over the layer: a def of the text, its body, what a loop and a test want. -/
namespace L2
open PySem PySem.Spec PyProof.Rows

/-! ### the text by places -/
/-- the j-th statement of a class's body -/
def inClass (s : Stmt) (j : Nat) : Stmt := match s with
  | .ClassDef _ _ _ body _ _ _ _ _ _ _ => body.getD j (.Pass ⟨0, 0, 0, 0⟩)
  | _ => .Pass ⟨0, 0, 0, 0⟩
def defArgs (s : Stmt) : Arguments := match s with
  | .FunctionDef _ a _ _ _ _ _ _ _ _ => a
  | _ => { posonlyargs := [], args := [], vararg := none, kwonlyargs := [], kw_defaults := [], kwarg := none, defaults := [] }
def defBody (s : Stmt) : List Stmt := match s with
  | .FunctionDef _ _ b _ _ _ _ _ _ _ => b
  | _ => []
def defScope (s : Stmt) : Scope := match s with
  | .FunctionDef _ _ _ _ _ _ sc _ _ _ => sc
  | _ => { kind := .function, names := [], isGenerator := false, isCoroutine := false }

/-! ### no exception leaves a def -/
abbrev CX0 : CXT := fun _ _ _ _ _ _ => False
abbrev E0 : XK := fun _ _ _ => False
theorem pass0 {X : Cx} : Passes CX0 X E0 := fun _ _ _ _ _ _ _ h => h.elim

/-! ### a def (or method) of the text as it stands behind the top -/
structure Fun (K : PySem.W.Frag) (x qual : Str) (st : Stmt) (f : Addr) (fd : FuncData) : Prop where
  ex : ∃ (oc : Value) (od : Option Addr) (kV doc pm : Value) (an : Option Addr) (cdv ct : Value) (osl : Array (Option Value)),
    fd = PySem.W.fnOf x qual (defArgs st) (defBody st) (defScope st) .none kV doc pm an cdv ct ∧ K.lookup f = some ⟨oc, od, .func fd, osl⟩ ∧ PySem.W.codeIn K cdv qual = true
  kp : PySem.W.keepIn K (.ref f) = true
section
variable {P : Program} {w : World} {K : PySem.W.Frag} {mg : Str → Option Value} {base : Heap}
/-- THE RULE for a def: its body as a term of rules, and the reading of that term -/
theorem Fun.ok {x qual : Str} {st : Stmt} {f : Addr} {fd : FuncData} {N ps : List Str} {k : Nat} {sp : Sp} (F : Fun K x qual st f fd) (S : FnScope N ps (defScope st)) (len : ∀ vs H Q E, sp vs H Q E → vs.length = ps.length)
    (hbody : ∀ (cdv : Value) (A : Around) (outer : List Env) (s : Shared) (H : Hp) (vs : List V) (Q : VK) (E : XK), Room k (A.deeper (envOfC qual (defScope st) s.heap.objs.size f cdv)) → sp vs H Q E →
      ∃ t, PSs (cxOf CX0 P w K mg base N qual (defScope st) f cdv A outer s H E).nox (defBody st) t ∧ t { nx := fun _ H' => Q .non H', rt := Q } (start N vs) H) : FnOk P w K mg base CX0 (k + 1) f fd ps sp := by
  obtain ⟨oc, od, kV, doc, pm, an, cdv, ct, osl, rfl, lk, hcd⟩ := F.ex
  refine fn_of lk hcd S len fun A outer s H vs Q E hr hsp => ?_
  obtain ⟨t, h, q⟩ := hbody cdv A outer s H vs Q E hr hsp
  exact ⟨t, h.nox, q⟩
/-- how its arguments bind (no defaults): h is «fun _ _ _ _ _ _ us hl => match us, hl with | [_, _], _ => rfl», one _ a parameter -/
theorem Fun.binds {x qual : Str} {st : Stmt} {f : Addr} {fd : FuncData} {ps : List Str} (F : Fun K x qual st f fd)
    (h : ∀ (kV doc pm : Value) (an : Option Addr) (cdv ct : Value) (us : List Value), us.length = ps.length → bindArgs (PySem.W.fnOf x qual (defArgs st) (defBody st) (defScope st) .none kV doc pm an cdv ct) ⟨us, []⟩ = pure (ps.zip us)) : Binds K fd ps [] := by
  obtain ⟨oc, od, kV, doc, pm, an, cdv, ct, osl, rfl, lk, hcd⟩ := F.ex
  exact .all (h kV doc pm an cdv ct)
theorem fun_mk {x qual : Str} {st : Stmt} {f : Addr} {oc : Value} {od an : Option Addr} {osl : Array (Option Value)} {kV doc pm cdv ct : Value} (l : K.lookup f = some ⟨oc, od, .func (PySem.W.fnOf x qual (defArgs st) (defBody st) (defScope st) .none kV doc pm an cdv ct), osl⟩)
    (c : PySem.W.codeIn K cdv qual = true) (k : PySem.W.keepIn K (.ref f) = true) : Fun K x qual st f (PySem.W.fnOf x qual (defArgs st) (defBody st) (defScope st) .none kV doc pm an cdv ct) := ⟨⟨oc, od, kV, doc, pm, an, cdv, ct, osl, rfl, l, c⟩, k⟩
end
theorem hu_of {A : Around} {k : Nat} (hr : Room k A) : A.units + 1 < cLine := Nat.lt_of_le_of_lt (Nat.add_le_add_left (by decide : 1 ≤ 64) _) hr.units
theorem small1000 {n : Nat} (h : n ≤ 1000) : n < sizeLine := Nat.lt_of_le_of_lt h (by decide)

/-! ### expressions in short: the name that stands in the i-th slot -/
section
variable {X : Cx}
theorem pv (i : Nat) {x : Str} {pos : Pos} (hN : X.N[i]? = some x := by rfl) (hv : Vis X.env.scope x := by first | exact Or.inl rfl | exact Or.inr (Or.inl rfl) | exact Or.inr (Or.inr rfl)) (hd : (x == ("__debug__" : Str)) = false := by decide)
    (hcd : (x == ("__classdict__" : Str)) = false := by decide) : PE X (.Name x pos) (tVar i) := pe_var hN hv hd hcd
/-- len of a dict -/
theorem call_lenD : CallR X (.builtin "len") (fun xs H Q => ∃ a kvs, xs = [V.ref a] ∧ H a = some (.dK kvs) ∧ Q (.int kvs.length) H) := by
  intro pins s σ H xs us Q I r h
  obtain ⟨a, kvs, rfl, ha, q⟩ := h
  obtain ⟨u, rfl, ru⟩ := vals1 r
  cases ru
  exact d_len I (.inl ha) fun t s' I' => ⟨.int kvs.length, H, I', ⟨t, rfl⟩, q⟩
end

/-! ### tests -/
theorem iteF {A B : Prop} (h : B) : if false = true then A else B := by
  rw [if_neg Bool.false_ne_true]
  exact h
theorem iteT {A B : Prop} (h : A) : if true = true then A else B := by
  rw [if_pos rfl]
  exact h
theorem ite2 {c A B : Prop} [Decidable c] (h1 : c → A) (h2 : ¬ c → B) : if c then A else B := by
  by_cases h : c
  · rw [if_pos h]
    exact h1 h
  · rw [if_neg h]
    exact h2 h
theorem iteNS {c A B : Prop} [Decidable c] (hc : c) (h : B) : if (!decide c) = true then A else B := by
  rw [decide_eq_true hc]
  exact iteF h

/-! ### heaps -/
/-- all that was tracked is as it was -/
def Same (H H' : Hp) : Prop := ∀ b o, H b = some o → H' b = some o
theorem Same.refl (H : Hp) : Same H H := fun _ _ h => h
theorem Same.trans {H H1 H2 : Hp} (a : Same H H1) (b : Same H1 H2) : Same H H2 := fun c o h => b c o (a c o h)
theorem Same.free {H H' : Hp} (e : Same H H') {l : Addr} (h : H' l = Option.none) : H l = Option.none := by
  cases q : H l with
  | none => rfl
  | some o =>
    rw [e l o q] at h
    cases h
theorem Same.seq {K : PySem.W.Frag} {H H' : Hp} {a : Addr} {xs : List V} (e : Same H H') (h : SqL K H a xs) : SqL K H' a xs := by
  rcases h with (h | ⟨o, h⟩) | h
  · exact .inl (.inl (e _ _ h))
  · exact .inl (.inr ⟨o, e _ _ h⟩)
  · exact .inr h

/-! ### a dict's pairs: keys that differ -/
section
variable {κ : Type} [DecidableEq κ]
theorem valV_not {kvs : List (κ × V)} {k : κ} (h : valV kvs k = none) : ¬ k ∈ kvs.map (·.1) := by
  intro m
  obtain ⟨p, hp, e⟩ := List.mem_map.mp m
  have q : (kvs.any fun kv => decide (kv.1 = k)) = true := List.any_eq_true.mpr ⟨p, hp, decide_eq_true e⟩
  rw [valV_any, h] at q
  exact absurd q (by simp)
theorem valV_in {kvs : List (κ × V)} {k : κ} {v : V} (h : valV kvs k = some v) : k ∈ kvs.map (·.1) := by
  have q : (kvs.any fun kv => decide (kv.1 = k)) = true := by
    rw [valV_any, h]
    all_goals rfl
  obtain ⟨p, hp, e⟩ := List.any_eq_true.mp q
  exact List.mem_map.mpr ⟨p, hp, of_decide_eq_true e⟩
theorem nd_snoc : ∀ {l : List κ} {k : κ}, l.Nodup → ¬ k ∈ l → (l ++ [k]).Nodup
  | [], k, _, _ => by simp
  | a :: r, k, h, hk => by
    obtain ⟨h1, h2⟩ := List.nodup_cons.mp h
    show (a :: (r ++ [k])).Nodup
    refine List.nodup_cons.mpr ⟨fun m => ?_, nd_snoc h2 fun m => hk (List.mem_cons.mpr (Or.inr m))⟩
    rcases List.mem_append.mp m with q | q
    · exact h1 q
    · exact hk (List.mem_cons.mpr (Or.inl (List.mem_singleton.mp q).symm))
theorem nd_putK {kvs : List (κ × V)} {k : κ} (v : V) (hn : (kvs.map (·.1)).Nodup) (h : valV kvs k = none) : ((putK kvs k v).map (·.1)).Nodup := by
  rw [putK_new v h, List.map_append]
  exact nd_snoc hn (valV_not h)
theorem dropK_pos {p : κ × V} {r : List (κ × V)} {k : κ} (e : p.1 = k) : dropK (p :: r) k = dropK r k := by
  unfold dropK
  rw [List.filter_cons, if_neg (by simp [e])]
theorem dropK_neg {p : κ × V} {r : List (κ × V)} {k : κ} (e : ¬ p.1 = k) : dropK (p :: r) k = p :: dropK r k := by
  unfold dropK
  rw [List.filter_cons, if_pos (by simp [e])]
theorem dropK_no : ∀ {kvs : List (κ × V)} {k : κ}, ¬ k ∈ kvs.map (·.1) → dropK kvs k = kvs
  | [], _, _ => rfl
  | p :: r, k, h => by
    have h' : ¬ k ∈ r.map (·.1) := fun m => by
      obtain ⟨q, hq, e⟩ := List.mem_map.mp m
      exact h (List.mem_map.mpr ⟨q, List.mem_cons.mpr (Or.inr hq), e⟩)
    rw [dropK_neg fun e => h (List.mem_map.mpr ⟨p, List.mem_cons.mpr (Or.inl rfl), e⟩), dropK_no h']
theorem dropK_mem {kvs : List (κ × V)} {k : κ} {p : κ × V} (h : p ∈ dropK kvs k) : p ∈ kvs := (List.mem_filter.mp h).1
theorem nd_dropK : ∀ {kvs : List (κ × V)} {k : κ}, (kvs.map (·.1)).Nodup → ((dropK kvs k).map (·.1)).Nodup
  | [], _, _ => List.nodup_nil
  | p :: r, k, h => by
    have h : (p.1 :: r.map (·.1)).Nodup := h
    obtain ⟨h1, h2⟩ := List.nodup_cons.mp h
    by_cases e : p.1 = k
    · rw [dropK_pos e]
      exact nd_dropK h2
    · rw [dropK_neg e]
      show (p.1 :: (dropK r k).map (·.1)).Nodup
      refine List.nodup_cons.mpr ⟨fun m => h1 ?_, nd_dropK h2⟩
      obtain ⟨q, hq, eq⟩ := List.mem_map.mp m
      exact List.mem_map.mpr ⟨q, dropK_mem hq, eq⟩
theorem dropK_len : ∀ {kvs : List (κ × V)} {k : κ}, (kvs.map (·.1)).Nodup → k ∈ kvs.map (·.1) → (dropK kvs k).length + 1 = kvs.length
  | [], _, _, m => by simp at m
  | p :: r, k, h, m => by
    have h : (p.1 :: r.map (·.1)).Nodup := h
    have m : k = p.1 ∨ k ∈ r.map (·.1) := List.mem_cons.mp m
    obtain ⟨h1, h2⟩ := List.nodup_cons.mp h
    by_cases e : p.1 = k
    · subst e
      rw [dropK_pos rfl, dropK_no h1]
      all_goals rfl
    · have m' : k ∈ r.map (·.1) := m.resolve_left fun z => e z.symm
      have q := dropK_len h2 m'
      rw [dropK_neg e, List.length_cons, List.length_cons]
      omega
end
/-! ### lists -/
theorem at_of {xs : List V} {z : Int} {j : Nat} {v : V} (e : z = (j : Int)) (h : xs[j]? = some v) : atI xs z = some v := by
  rw [e]
  exact atI_nat h
theorem nd_ix {α : Type} {l : List α} (hN : l.Nodup) {i j : Nat} {x : α} (a : l[i]? = some x) (b : l[j]? = some x) : i = j := by
  obtain ⟨h1, e1⟩ := List.getElem?_eq_some_iff.mp a
  obtain ⟨h2, e2⟩ := List.getElem?_eq_some_iff.mp b
  exact (List.getElem_inj hN).mp (e1.trans e2.symm)
theorem sum_set : ∀ {l : List Int} {j : Nat} {z y : Int}, l[j]? = some z → (l.set j y).sum = l.sum - z + y
  | [], j, z, y, h => by simp at h
  | a :: r, 0, z, y, h => by
    have e : a = z := Option.some.inj h
    subst e
    show (y :: r).sum = (a :: r).sum - a + y
    rw [List.sum_cons, List.sum_cons]
    omega
  | a :: r, j + 1, z, y, h => by
    have ih := sum_set (l := r) (j := j) (z := z) (y := y) h
    show (a :: r.set j y).sum = (a :: r).sum - z + y
    rw [List.sum_cons, List.sum_cons, ih]
    omega
theorem sum_take : ∀ {l : List Int} {i : Nat} {z : Int}, l[i]? = some z → (l.take (i + 1)).sum = (l.take i).sum + z
  | [], i, z, h => by simp at h
  | a :: r, 0, z, h => by
    have e : a = z := Option.some.inj h
    subst e
    show ([a] : List Int).sum = ([] : List Int).sum + a
    rw [List.sum_cons]
    exact Int.add_comm _ _
  | a :: r, i + 1, z, h => by
    have ih := sum_take (l := r) (i := i) (z := z) h
    show (a :: r.take (i + 1)).sum = (a :: r.take i).sum + z
    rw [List.sum_cons, List.sum_cons, ih]
    omega
/-- a new instance and its __init__ leave all that was tracked as it was -/
theorem Same.made {H H1 : Hp} {x dx C : Addr} (nx : H x = Option.none) (nd : H dx = Option.none) (k : ∀ b o, (upd (upd H dx (.own x)) x (.ins C dx [])) b = some o → b ≠ x → H1 b = some o) : Same H H1 := fun b o e =>
  k b o (by rw [upd_ne (ne_of_none e nx), upd_ne (ne_of_none e nd)]; exact e) (ne_of_none e nx)
end L2
/-! VALUES: what a def does to plain data, over the hand layer. -/
namespace DL
open PySem PySem.Spec L2

abbrev D := PyData
abbrev Fg := PySem.W.Frag
/-- what the slots hold, as far as it is told -/
abbrev Ev := List (Option D)

theorem Same.seqT {K : Fg} {H H' : Hp} {a : Addr} {xs : List V} (e : Same H H') (h : SqT K H a xs) : SqT K H' a xs := by
  rcases h with (h | ⟨o, h⟩) | h
  · exact .inl (.inl (e _ _ h))
  · exact .inl (.inr ⟨o, e _ _ h⟩)
  · exact .inr h
mutual
theorem Dp_mono {K : Fg} {H H' : Hp} (e : Same H H') : ∀ {v : V} {d : D}, Dp K H v d → Dp K H' v d
  | _, _, .non => .non
  | _, _, .bl b => .bl b
  | _, _, .int i => .int i
  | _, _, .str x => .str x
  | _, _, .lst h q => .lst (e.seq h) (DpAll_mono e q)
  | _, _, .tup h q => .tup (Same.seqT e h) (DpAll_mono e q)
theorem DpAll_mono {K : Fg} {H H' : Hp} (e : Same H H') : ∀ {v : List V} {d : List D}, DpAll K H v d → DpAll K H' v d
  | _, _, .nil => .nil
  | _, _, .cons h q => .cons (Dp_mono e h) (DpAll_mono e q)
end
section
variable {K : Fg} {F H : Hp}
theorem DpAll.len : ∀ {vs : List V} {ds : List D}, DpAll K H vs ds → vs.length = ds.length
  | _, _, .nil => rfl
  | _, _, .cons _ q => by rw [List.length_cons, List.length_cons, DpAll.len q]
theorem DpAll.app : ∀ {vs ws : List V} {ds es : List D}, DpAll K H vs ds → DpAll K H ws es → DpAll K H (vs ++ ws) (ds ++ es)
  | _, _, _, _, .nil, q => q
  | _, _, _, _, .cons h t, q => .cons h (DpAll.app t q)
theorem DpAll.get : ∀ {vs : List V} {ds : List D} {i : Nat} {d : D}, DpAll K H vs ds → ds[i]? = some d → ∃ v, vs[i]? = some v ∧ Dp K H v d
  | _, _, _, _, .nil, e => by simp at e
  | _, _, 0, _, .cons h _, e => by simp at e; subst e; exact ⟨_, rfl, h⟩
  | _, _, i + 1, d, .cons _ t, e => by
    obtain ⟨v, h1, h2⟩ := DpAll.get (i := i) (d := d) t (by simpa using e)
    exact ⟨v, by simpa using h1, h2⟩
theorem DpAll.set {v : V} {d : D} (r : Dp K H v d) : ∀ {vs : List V} {ds : List D} (i : Nat), DpAll K H vs ds → DpAll K H (vs.set i v) (ds.set i d)
  | _, _, _, .nil => .nil
  | _, _, 0, .cons _ t => .cons r t
  | _, _, i + 1, .cons q t => .cons q (DpAll.set r i t)
theorem DpAll.take : ∀ {vs : List V} {ds : List D} (n : Nat), DpAll K H vs ds → DpAll K H (vs.take n) (ds.take n)
  | _, _, 0, _ => .nil
  | _, _, _ + 1, .nil => .nil
  | _, _, n + 1, .cons r t => .cons r (DpAll.take n t)
theorem DpAll.drop : ∀ {vs : List V} {ds : List D} (n : Nat), DpAll K H vs ds → DpAll K H (vs.drop n) (ds.drop n)
  | _, _, 0, r => r
  | _, _, _ + 1, .nil => .nil
  | _, _, n + 1, .cons _ t => DpAll.drop n t
theorem DpAll.rep {vs : List V} {ds : List D} (h : DpAll K H vs ds) : ∀ k : Nat, DpAll K H (List.replicate k vs).flatten (List.replicate k ds).flatten
  | 0 => .nil
  | k + 1 => by
    rw [List.replicate_succ, List.replicate_succ, List.flatten_cons, List.flatten_cons]
    exact DpAll.app h (DpAll.rep h k)
theorem DpAll.ints : ∀ (ns : List Int), DpAll K H (ns.map V.int) (ns.map PyData.int)
  | [] => .nil
  | n :: ns => .cons (.int n) (DpAll.ints ns)
theorem DpAll.bools : ∀ (ns : List Bool), DpAll K H (ns.map V.bl) (ns.map PyData.bool)
  | [] => .nil
  | n :: ns => .cons (.bl n) (DpAll.bools ns)
theorem DpAll.toInts : ∀ {vs : List V} {ns : List Int}, DpAll K H vs (ns.map PyData.int) → vs = ns.map V.int
  | _, [], h => by cases h; rfl
  | _, n :: ns, h => by
    rw [List.map_cons] at h
    cases h with
    | cons h t => cases h; rw [DpAll.toInts t, List.map_cons]
theorem DpAll.toBools : ∀ {vs : List V} {ns : List Bool}, DpAll K H vs (ns.map PyData.bool) → vs = ns.map V.bl
  | _, [], h => by cases h; rfl
  | _, n :: ns, h => by
    rw [List.map_cons] at h
    cases h with
    | cons h t => cases h; rw [DpAll.toBools t, List.map_cons]
end

/-- no list, no tuple -/
@[simp] def flat : D → Bool
  | .none => true
  | .bool _ => true
  | .int _ => true
  | .str _ => true
  | _ => false
theorem Dp.any {K : Fg} {F F' : Hp} {v : V} {d : D} (h : Dp K F v d) (f : flat d = true) : Dp K F' v d := by
  cases h with
  | non => exact .non
  | bl b => exact .bl b
  | int b => exact .int b
  | str b => exact .str b
  | lst _ _ => cases f
  | tup _ _ => cases f
theorem DpAll.any {K : Fg} {F F' : Hp} : ∀ {v : List V} {d : List D}, DpAll K F v d → d.all flat = true → DpAll K F' v d
  | _, _, .nil, _ => .nil
  | _, _, .cons h t, f => by
    rw [List.all_cons, Bool.and_eq_true] at f
    exact .cons (Dp.any h f.1) (DpAll.any t f.2)

/-- F: what stands still and may be spoken of; H: the whole. An expression lets both grow -/
structure Gr (F H F' H' : Hp) : Prop where
  ff : Same F F'
  hh : Same H H'
  sub : Same F' H'
  new : ∀ b o, F' b = some o → F b = some o ∨ H b = none
theorem Gr.refl {F H : Hp} (h : Same F H) : Gr F H F H := ⟨Same.refl _, Same.refl _, h, fun _ _ e => .inl e⟩
theorem Gr.trans {F H F1 H1 F2 H2 : Hp} (a : Gr F H F1 H1) (b : Gr F1 H1 F2 H2) : Gr F H F2 H2 :=
  ⟨a.ff.trans b.ff, a.hh.trans b.hh, b.sub, fun c o e => (b.new c o e).elim (fun z => a.new c o z) fun z => .inr (a.hh.free z)⟩
theorem same_upd {H : Hp} {p : Addr} {o : HO} (h : H p = none) : Same H (upd H p o) := fun b u e => by rw [upd_ne (ne_of_none e h)]; exact e
/-- a new object that is not spoken of yet -/
theorem Gr.hid {F H : Hp} {p : Addr} {o : HO} (h : Same F H) (hp : H p = none) : Gr F H F (upd H p o) := ⟨Same.refl _, same_upd hp, h.trans (same_upd hp), fun _ _ e => .inl e⟩
/-- a new object that stands still from now on -/
theorem Gr.lay {F H : Hp} {p : Addr} {o : HO} (h : Same F H) (hp : H p = none) : Gr F H (upd F p o) (upd H p o) :=
  ⟨same_upd (h.free hp), same_upd hp, fun b u e => by
    by_cases z : b = p
    · subst z; rw [upd_same] at e ⊢; exact e
    · rw [upd_ne z] at e ⊢; exact h b u e, fun b u e => by
    by_cases z : b = p
    · subst z; exact .inr hp
    · rw [upd_ne z] at e; exact .inl e⟩
/-- a hidden new object stands still from now on -/
theorem Gr.show {F H F' H' : Hp} {p : Addr} {o : HO} (g : Gr F H F' H') (hp : H p = none) (hf : F' p = none) (ho : H' p = some o) : Gr F H (upd F' p o) H' :=
  ⟨g.ff.trans (same_upd hf), g.hh, fun b u e => by
    by_cases z : b = p
    · subst z; rw [upd_same] at e; rw [← e]; exact ho
    · rw [upd_ne z] at e; exact g.sub b u e, fun b u e => by
    by_cases z : b = p
    · subst z; exact .inr hp
    · rw [upd_ne z] at e; exact g.new b u e⟩

structure Env (K : Fg) (F : Hp) (σ : St) (ds : Ev) : Prop where
  get : ∀ (i : Nat) (d : D), ds[i]? = some (some d) → ∃ v, σ[i]? = some (some v) ∧ Dp K F v d
  len : ds.length = σ.length
theorem Env.mono {K : Fg} {F F' : Hp} {σ : St} {ds : Ev} (e : Env K F σ ds) (h : Same F F') : Env K F' σ ds := ⟨fun i d q =>
  let ⟨v, h1, h2⟩ := e.get i d q
  ⟨v, h1, Dp_mono h h2⟩, e.len⟩

/-! ### the readings over data -/
def tD (K : Fg) (f : Ev → Option D) : TE := fun σ H Q => ∃ F ds d, Same F H ∧ Env K F σ ds ∧ f ds = some d ∧ ∀ v F' H', Gr F H F' H' → Dp K F' v d → Q v H'
/-- a new list that nothing else holds -/
def tL (K : Fg) (f : Ev → Option (List D)) : TE := fun σ H Q => ∃ F ds xs, Same F H ∧ Env K F σ ds ∧ f ds = some xs ∧
  ∀ a vs F' H', Gr F H F' H' → F' a = none → H a = none → H' a = some (.lst vs) → DpAll K F' vs xs → Q (.ref a) H'
/-- a new tuple -/
def tU (K : Fg) (f : Ev → Option (List D)) : TE := fun σ H Q => ∃ F ds xs, Same F H ∧ Env K F σ ds ∧ f ds = some xs ∧
  ∀ a vs F' H', Gr F H F' H' → F' a = none → H a = none → H' a = some (.tup vs) → DpAll K F' vs xs → Q (.ref a) H'
def tAs (K : Fg) (f : Ev → Option (List D)) : TA := fun σ H Q => ∃ F ds xs, Same F H ∧ Env K F σ ds ∧ f ds = some xs ∧ ∀ vs F' H', Gr F H F' H' → DpAll K F' vs xs → Q vs H'
def tBo (K : Fg) (f : Ev → Option Bool) : TT := fun σ H Q => ∃ F ds b, Same F H ∧ Env K F σ ds ∧ f ds = some b ∧ ∀ F' H', Gr F H F' H' → Q b H'
structure PD (X : Cx) (e : Expr) (f : Ev → Option D) : Prop where
  out : PE X e (tD X.K f)
structure PL (X : Cx) (e : Expr) (f : Ev → Option (List D)) : Prop where
  out : PE X e (tL X.K f)
structure PU (X : Cx) (e : Expr) (f : Ev → Option (List D)) : Prop where
  out : PE X e (tU X.K f)
structure PAs (X : Cx) (es : List Expr) (f : Ev → Option (List D)) : Prop where
  out : PA X es (tAs X.K f)
structure PB (X : Cx) (e : Expr) (f : Ev → Option Bool) : Prop where
  out : PT X e (tBo X.K f)

theorem iPE {X : Cx} {e : Expr} {t t' : TE} (h : PE X e t) (i : ∀ σ H Q, t' σ H Q → t σ H Q) : PE X e t' := fun pins s σ H Q I q => h pins s σ H Q I (i σ H Q q)
theorem iPT {X : Cx} {e : Expr} {t t' : TT} (h : PT X e t) (i : ∀ σ H Q, t' σ H Q → t σ H Q) : PT X e t' := fun pins s σ H Q I q => h pins s σ H Q I (i σ H Q q)
theorem iPA {X : Cx} {e : List Expr} {t t' : TA} (h : PA X e t) (i : ∀ σ H Q, t' σ H Q → t σ H Q) : PA X e t' := fun p pins s σ H Q I q => h p pins s σ H Q I (i σ H Q q)
theorem iPS {X : Cx} {e : Stmt} {t t' : TS} (h : PS X e t) (i : ∀ D σ H, t' D σ H → t D σ H) : PS X e t' := fun pins s σ H D I q => h pins s σ H D I (i D σ H q)
theorem iPSs {X : Cx} {e : List Stmt} {t t' : TS} (h : PSs X e t) (i : ∀ D σ H, t' D σ H → t D σ H) : PSs X e t' := fun pins s σ H D I q => h pins s σ H D I (i D σ H q)

/-! ### the words of the small language -/
@[simp] def xVar (i : Nat) : Ev → Option D := fun ds => ds[i]?.join
@[simp] def xC (d : D) : Ev → Option D := fun _ => some d
@[simp] def xLst (f : Ev → Option (List D)) : Ev → Option D := fun ds => (f ds).map PyData.list
@[simp] def xTup (f : Ev → Option (List D)) : Ev → Option D := fun ds => (f ds).map PyData.tuple
@[simp] def aNil : Ev → Option (List D) := fun _ => some []
@[simp] def aCons (f : Ev → Option D) (g : Ev → Option (List D)) : Ev → Option (List D) := fun ds => (f ds).bind fun d => (g ds).map fun r => d :: r
@[irreducible] def cap : Nat := 1000000
theorem cap_ge : 1000 ≤ cap := by unfold cap; decide
@[simp] theorem le_cap {n : Nat} (h : n ≤ 1000) : n ≤ cap := Nat.le_trans h cap_ge
@[simp] theorem lt_cap {n : Nat} (h : n < 1000) : n < cap := Nat.lt_of_lt_of_le h cap_ge
theorem cap_lt : cap < sizeLine := by unfold cap; decide
@[simp] def lDisp (f : Ev → Option (List D)) : Ev → Option (List D) := fun ds => (f ds).bind fun xs => if xs.length ≤ cap then some xs else none
@[simp] def x2 (o : D → D → Option D) (f g : Ev → Option D) : Ev → Option D := fun ds => (f ds).bind fun d => (g ds).bind fun e => o d e
@[simp] def x1 (o : D → Option D) (f : Ev → Option D) : Ev → Option D := fun ds => (f ds).bind o
@[simp] def l2 (o : D → D → Option (List D)) (f g : Ev → Option D) : Ev → Option (List D) := fun ds => (f ds).bind fun d => (g ds).bind fun e => o d e
@[simp] def bOf (f : Ev → Option D) : Ev → Option Bool := fun ds => (f ds).bind fun d => match d with | .bool b => some b | _ => none
@[simp] def xBo (f : Ev → Option Bool) : Ev → Option D := fun ds => (f ds).map PyData.bool
@[simp] def bAnd (f g : Ev → Option Bool) : Ev → Option Bool := fun ds => (f ds).bind fun a => if a then g ds else some false
@[simp] def bOr (f g : Ev → Option Bool) : Ev → Option Bool := fun ds => (f ds).bind fun a => if a then some true else g ds
@[simp] def bNot (f : Ev → Option Bool) : Ev → Option Bool := fun ds => (f ds).map fun a => !a
@[simp] def xIf {α : Type} (c : Ev → Option Bool) (f g : Ev → Option α) : Ev → Option α := fun ds => (c ds).bind fun b => if b then f ds else g ds

section
variable {X : Cx} {pos : Pos} {a b c : Expr} {f g : Ev → Option D}
theorem cap_line : cap ≤ sizeLine := Nat.le_of_lt cap_lt
theorem pd_var (i : Nat) {x : Str} (hN : X.N[i]? = some x := by rfl) (hv : Vis X.env.scope x := by first | exact Or.inl rfl | exact Or.inr (Or.inl rfl) | exact Or.inr (Or.inr rfl)) (hd : (x == ("__debug__" : Str)) = false := by decide)
    (hcd : (x == ("__classdict__" : Str)) = false := by decide) : PD X (.Name x pos) (xVar i) := ⟨iPE (pe_var hN hv hd hcd) fun σ H Q ⟨F, ds, d, sf, ev, e, k⟩ => by
  have e' : ds[i]? = some (some d) := by
    unfold xVar at e
    cases q : ds[i]? with
    | none => rw [q] at e; cases e
    | some o => rw [q] at e; simp at e; rw [e]
  obtain ⟨v, h1, h2⟩ := ev.get i d e'
  exact ⟨v, h1, k v F H (Gr.refl sf) h2⟩⟩
theorem pd_int {i j} : PD X (.Constant (.int i) j pos) (xC (.int i)) := ⟨iPE pe_int fun σ H Q ⟨F, ds, d, sf, ev, e, k⟩ => by cases e; exact k _ F H (Gr.refl sf) (.int i)⟩
theorem pd_bl {i j} : PD X (.Constant (.bool i) j pos) (xC (.bool i)) := ⟨iPE pe_bl fun σ H Q ⟨F, ds, d, sf, ev, e, k⟩ => by cases e; exact k _ F H (Gr.refl sf) (.bl i)⟩
theorem pd_str {i j} : PD X (.Constant (.str i) j pos) (xC (.str i)) := ⟨iPE pe_str fun σ H Q ⟨F, ds, d, sf, ev, e, k⟩ => by cases e; exact k _ F H (Gr.refl sf) (.str i)⟩
theorem pd_non {j} : PD X (.Constant .none j pos) (xC .none) := ⟨iPE pe_non fun σ H Q ⟨F, ds, d, sf, ev, e, k⟩ => by cases e; exact k _ F H (Gr.refl sf) .non⟩
theorem pd_ofL {e : Expr} {f : Ev → Option (List D)} (h : PL X e f) : PD X e (xLst f) := ⟨iPE h.out fun σ H Q ⟨F, ds, d, sf, ev, e, k⟩ => by
  obtain ⟨xs, e1, rfl⟩ := Option.map_eq_some_iff.mp e
  exact ⟨F, ds, xs, sf, ev, e1, fun a vs F' H' gr fa ha h1 h2 => k _ _ _ (gr.show ha fa h1) (.lst (SqL.of upd_same) (DpAll_mono (same_upd fa) h2))⟩⟩
theorem pd_ofU {e : Expr} {f : Ev → Option (List D)} (h : PU X e f) : PD X e (xTup f) := ⟨iPE h.out fun σ H Q ⟨F, ds, d, sf, ev, e, k⟩ => by
  obtain ⟨xs, e1, rfl⟩ := Option.map_eq_some_iff.mp e
  exact ⟨F, ds, xs, sf, ev, e1, fun a vs F' H' gr fa ha h1 h2 => k _ _ _ (gr.show ha fa h1) (.tup (SqT.of upd_same) (DpAll_mono (same_upd fa) h2))⟩⟩
theorem pas_nil : PAs X [] aNil := ⟨iPA pa_nil fun σ H Q ⟨F, ds, d, sf, ev, e, k⟩ => by cases e; exact k _ F H (Gr.refl sf) .nil⟩
theorem pas_cons {e : Expr} {es : List Expr} {f : Ev → Option D} {g : Ev → Option (List D)} (h1 : PD X e f) (h2 : PAs X es g) (hs : starEach (e :: es) X.env = (false, eval e X.env) :: starEach es X.env := by rfl) : PAs X (e :: es) (aCons f g) :=
  ⟨iPA (pa_cons h1.out h2.out hs) fun σ H Q ⟨F, ds, d, sf, ev, e, k⟩ => by
    obtain ⟨x, e1, e2⟩ := Option.bind_eq_some_iff.mp e
    obtain ⟨r, e3, rfl⟩ := Option.map_eq_some_iff.mp e2
    refine ⟨F, ds, x, sf, ev, e1, fun v F1 H1 g1 d1 => ⟨F1, ds, r, g1.sub, ev.mono g1.ff, e3, fun vs F2 H2 g2 d2 => k _ F2 H2 (g1.trans g2) (.cons (Dp_mono g2.ff d1) d2)⟩⟩⟩
theorem pl_disp {es : List Expr} {f : Ev → Option (List D)} (h : PAs X es f) : PL X (.List es pos) (lDisp f) := ⟨iPE (pe_lst h.out) fun σ H Q ⟨F, ds, d, sf, ev, e, k⟩ => by
  obtain ⟨xs, e1, e2⟩ := Option.bind_eq_some_iff.mp e
  by_cases hl : xs.length ≤ cap
  · rw [if_pos hl] at e2
    cases e2
    refine ⟨F, ds, d, sf, ev, e1, fun vs F1 H1 g1 d1 => ⟨by rw [DpAll.len d1]; exact Nat.le_trans hl cap_line, fun p hp => ?_⟩⟩
    exact k p vs F1 _ (g1.trans (Gr.hid g1.sub hp)) (g1.sub.free hp) (g1.hh.free hp) upd_same d1
  · rw [if_neg hl] at e2; cases e2⟩
theorem pu_disp {es : List Expr} {x1} {f : Ev → Option (List D)} (h : PAs X es f) : PU X (.Tuple es x1 pos) (lDisp f) := ⟨iPE (pe_tup h.out) fun σ H Q ⟨F, ds, d, sf, ev, e, k⟩ => by
  obtain ⟨xs, e1, e2⟩ := Option.bind_eq_some_iff.mp e
  by_cases hl : xs.length ≤ cap
  · rw [if_pos hl] at e2
    cases e2
    refine ⟨F, ds, d, sf, ev, e1, fun vs F1 H1 g1 d1 => ⟨by rw [DpAll.len d1]; exact Nat.le_trans hl cap_line, fun p hp => ?_⟩⟩
    exact k p vs F1 _ (g1.trans (Gr.hid g1.sub hp)) (g1.sub.free hp) (g1.hh.free hp) upd_same d1
  · rw [if_neg hl] at e2; cases e2
⟩
/-! ### operations of two values -/
/-- the operation o of data is what the reading r asks -/
def DOp (K : Fg) (r : R2) (o : D → D → Option D) : Prop := ∀ (F H : Hp) (x y : V) (d e c : D) (Q : VK), Same F H → Dp K F x d → Dp K F y e → o d e = some c → (∀ v F' H', Gr F H F' H' → Dp K F' v c → Q v H') → r x y H Q
def LOp (K : Fg) (r : R2) (o : D → D → Option (List D)) : Prop := ∀ (F H : Hp) (x y : V) (d e : D) (c : List D) (Q : VK), Same F H → Dp K F x d → Dp K F y e → o d e = some c →
  (∀ a vs F' H', Gr F H F' H' → F' a = none → H a = none → H' a = some (.lst vs) → DpAll K F' vs c → Q (.ref a) H') → r x y H Q
theorem t2D {r : R2} {o : D → D → Option D} (w : DOp X.K r o) : ∀ σ H Q, tD X.K (x2 o f g) σ H Q → tOp r (tD X.K f) (tD X.K g) σ H Q := fun σ H Q ⟨F, ds, d, sf, ev, e, k⟩ => by
  obtain ⟨x, e1, e2⟩ := Option.bind_eq_some_iff.mp e
  obtain ⟨y, e3, e4⟩ := Option.bind_eq_some_iff.mp e2
  exact ⟨F, ds, x, sf, ev, e1, fun v F1 H1 g1 d1 => ⟨F1, ds, y, g1.sub, ev.mono g1.ff, e3, fun u F2 H2 g2 d2 => w F2 H2 v u x y d Q g2.sub (Dp_mono g2.ff d1) d2 e4 fun z F3 H3 g3 d3 => k z F3 H3 ((g1.trans g2).trans g3) d3⟩⟩
theorem pd_op {op : Operator} {r : R2} {o : D → D → Option D} (w : DOp X.K r o) (ho : OpR X (binaryOp op) r) (ha : PD X a f) (hb : PD X b g) : PD X (.BinOp a op b pos) (x2 o f g) := ⟨iPE (pe_op ho ha.out hb.out) (t2D w)⟩
theorem pl_op {op : Operator} {r : R2} {o : D → D → Option (List D)} (w : LOp X.K r o) (ho : OpR X (binaryOp op) r) (ha : PD X a f) (hb : PD X b g) : PL X (.BinOp a op b pos) (l2 o f g) := ⟨iPE (pe_op ho ha.out hb.out) fun σ H Q ⟨F, ds, d, sf, ev, e, k⟩ => by
  obtain ⟨x, e1, e2⟩ := Option.bind_eq_some_iff.mp e
  obtain ⟨y, e3, e4⟩ := Option.bind_eq_some_iff.mp e2
  exact ⟨F, ds, x, sf, ev, e1, fun v F1 H1 g1 d1 => ⟨F1, ds, y, g1.sub, ev.mono g1.ff, e3, fun u F2 H2 g2 d2 => w F2 H2 v u x y d Q g2.sub (Dp_mono g2.ff d1) d2 e4 fun z vs F3 H3 g3 h1 h2 h3 h4 => k z vs F3 H3 ((g1.trans g2).trans g3) h1 ((g1.trans g2).hh.free h2) h3 h4⟩⟩⟩
theorem pd_cmp {op : CmpOp} {r : R2} {o : D → D → Option D} (w : DOp X.K r o) (ho : OpR X (compareOp op) r) (ha : PD X a f) (hb : PD X b g) (hm : behindInMarks op b = false := by first | exact nomark _ | with_unfolding_all rfl) : PD X (.Compare a [op] [b] pos) (x2 o f g) := ⟨iPE (pe_cmpR ho ha.out hb.out hm) (t2D w)⟩
end
end DL
namespace DL
open PySem PySem.Spec L2

/-! ### ints -/
@[simp] def oI (g : Int → Int → D) (c : Int → Int → Bool := fun _ _ => true) : D → D → Option D
  | .int i, .int j => if c i j then some (g i j) else none
  | _, _ => none
theorem dop_i0 {K : Fg} {g : Int → Int → V} {h : Int → Int → D} (e : ∀ F i j, Dp K F (g i j) (h i j)) : DOp K (rI0 g) (oI h) := fun F H x y d e' c Q sf dx dy eq k => by
  cases dx with
  | int i =>
    cases dy with
    | int j =>
      simp [oI] at eq
      subst eq
      exact ⟨i, j, rfl, rfl, k _ F H (Gr.refl sf) (e F i j)⟩
    | _ => cases eq
  | _ => cases eq
theorem dop_i {K : Fg} {C : Int → Int → Prop} {g : Int → Int → V} {h : Int → Int → D} {b : Int → Int → Bool} (hc : ∀ i j, b i j = true → C i j) (e : ∀ F i j, Dp K F (g i j) (h i j)) : DOp K (rI C g) (oI h b) := fun F H x y d e' c Q sf dx dy eq k => by
  cases dx with
  | int i =>
    cases dy with
    | int j =>
      simp only [oI] at eq
      by_cases z : b i j = true
      · rw [if_pos z] at eq
        cases eq
        exact ⟨i, j, rfl, rfl, hc i j z, k _ F H (Gr.refl sf) (e F i j)⟩
      · rw [if_neg z] at eq; cases eq
    | _ => cases eq
  | _ => cases eq
@[simp] def oAdd := oI fun i j => .int (i + j)
@[simp] def oSub := oI fun i j => .int (i - j)
def mulOk (i j : Int) : Bool := decide (i.natAbs < 2 ^ 64) || decide (j.natAbs < 2 ^ 64) || (decide (i.natAbs < 2 ^ 400) && decide (j.natAbs < 2 ^ 400))
@[simp] def oMul := oI (fun i j => .int (i * j)) mulOk
@[simp] def oMod := oI (fun i j => .int (i % j)) fun _ j => decide (0 < j)
@[simp] def oDiv := oI (fun i j => .int (i / j)) fun _ j => decide (0 < j) && decide (j < 1073741824)
@[simp] def oPow := oI (fun i j => .int (i ^ j.toNat)) fun i j => decide (0 ≤ j) && decide (j ≤ 1000000) && decide (i.natAbs < 2 ^ 64)
@[simp] def oXor := oI fun i j => .int (Builtin.bitXor i j)
@[simp] def oLt := oI fun i j => .bool (decide (i < j))
@[simp] def oLe := oI fun i j => .bool (decide (i ≤ j))
@[simp] def oGt := oI fun i j => .bool (decide (j < i))
@[simp] def oGe := oI fun i j => .bool (decide (j ≤ i))
theorem bits_of {i : Int} (h : i.natAbs < 2 ^ 400) : Builtin.Int.intBits i ≤ 2 ^ 20 := by
  have h1 : Builtin.Int.intBits i ≤ 400 := by
    unfold Builtin.Int.intBits
    split
    · exact Nat.zero_le _
    · rename_i z
      have hne : i.natAbs ≠ 0 := by intro e; apply z; simpa using e
      have := (Nat.log2_lt hne).mpr h
      omega
  exact Nat.le_trans h1 (by decide)
theorem bits64 {i : Int} (h : i.natAbs < 2 ^ 64) : Builtin.Int.intBits i ≤ 64 := by
  unfold Builtin.Int.intBits
  split
  · exact Nat.zero_le _
  · rename_i z
    have hne : i.natAbs ≠ 0 := by intro e; apply z; simpa using e
    have := (Nat.log2_lt hne).mpr h
    omega
theorem mulOk_ok {i j : Int} (h : mulOk i j = true) : IntMulOk i j := by
  unfold mulOk at h
  simp only [Bool.or_eq_true, Bool.and_eq_true, decide_eq_true_eq] at h
  rcases h with (h | h) | ⟨h, h'⟩
  · exact .of_left (bits64 h)
  · exact .of_right (bits64 h)
  · exact .of_bits (bits_of h) (bits_of h')
section
variable {X : Cx} {pos : Pos} {a b c : Expr} {f g h : Ev → Option D}
theorem op_mulB : OpR X (binaryOp .Mult) (rI (fun i j => mulOk i j = true) fun i j => .int (i * j)) := opI fun i j t u s Q E hc hq => PyProof.Rows.mul_int hq (mulOk_ok hc)
theorem pd_add (ha : PD X a f) (hb : PD X b g) : PD X (.BinOp a .Add b pos) (x2 oAdd f g) := pd_op (dop_i0 fun _ _ _ => .int _) op_add ha hb
theorem pd_sub (ha : PD X a f) (hb : PD X b g) : PD X (.BinOp a .Sub b pos) (x2 oSub f g) := pd_op (dop_i0 fun _ _ _ => .int _) op_sub ha hb
theorem pd_mul (ha : PD X a f) (hb : PD X b g) : PD X (.BinOp a .Mult b pos) (x2 oMul f g) := pd_op (dop_i (fun _ _ h => h) fun _ _ _ => .int _) op_mulB ha hb
theorem pd_mod (ha : PD X a f) (hb : PD X b g) : PD X (.BinOp a .Mod b pos) (x2 oMod f g) := pd_op (dop_i (fun _ _ h => of_decide_eq_true h) fun _ _ _ => .int _) op_mod ha hb
theorem pd_div (ha : PD X a f) (hb : PD X b g) : PD X (.BinOp a .FloorDiv b pos) (x2 oDiv f g) := pd_op (dop_i (fun _ _ h => by simpa [CDiv] using h) fun _ _ _ => .int _) op_fdiv ha hb
theorem pd_pow (ha : PD X a f) (hb : PD X b g) : PD X (.BinOp a .Pow b pos) (x2 oPow f g) := pd_op (dop_i (fun _ _ h => by simpa [CPow, and_assoc] using h) fun _ _ _ => .int _) op_pow ha hb
theorem pd_xor (ha : PD X a f) (hb : PD X b g) : PD X (.BinOp a .BitXor b pos) (x2 oXor f g) := pd_op (dop_i0 fun _ _ _ => .int _) op_xor ha hb
theorem pd_lt (ha : PD X a f) (hb : PD X b g) : PD X (.Compare a [.Lt] [b] pos) (x2 oLt f g) := pd_cmp (dop_i0 fun _ _ _ => .bl _) op_lt ha hb
theorem pd_le (ha : PD X a f) (hb : PD X b g) : PD X (.Compare a [.LtE] [b] pos) (x2 oLe f g) := pd_cmp (dop_i0 fun _ _ _ => .bl _) op_le ha hb
theorem pd_gt (ha : PD X a f) (hb : PD X b g) : PD X (.Compare a [.Gt] [b] pos) (x2 oGt f g) := pd_cmp (dop_i0 fun _ _ _ => .bl _) op_gt ha hb
theorem pd_ge (ha : PD X a f) (hb : PD X b g) : PD X (.Compare a [.GtE] [b] pos) (x2 oGe f g) := pd_cmp (dop_i0 fun _ _ _ => .bl _) op_ge ha hb
def dw_lt {K : Fg} : DOp K (rI0 fun i j => .bl (decide (i < j))) oLt := dop_i0 fun _ _ _ => .bl _
def dw_le {K : Fg} : DOp K (rI0 fun i j => .bl (decide (i ≤ j))) oLe := dop_i0 fun _ _ _ => .bl _
/-- -a -/
@[simp] def oNeg : D → Option D
  | .int i => some (.int (-i))
  | _ => none
theorem pd_neg (ha : PD X a f) : PD X (.UnaryOp .USub a pos) (x1 oNeg f) := ⟨iPE (pe_un un_neg ha.out) fun σ H Q ⟨F, ds, d, sf, ev, e, k⟩ => by
  obtain ⟨x, e1, e2⟩ := Option.bind_eq_some_iff.mp e
  refine ⟨F, ds, x, sf, ev, e1, fun v F1 H1 g1 d1 => ?_⟩
  cases d1 with
  | int i => cases e2; exact ⟨i, rfl, k _ F1 H1 g1 (.int _)⟩
  | _ => cases e2⟩

/-! ### equality at any depth, None, membership -/
@[simp] def oEq (d e : D) : Option D := if SeqAt.shaped d && SeqAt.shaped e then some (.bool (PyData.eqv d e)) else none
@[simp] def oNe (d e : D) : Option D := if SeqAt.shaped d && SeqAt.shaped e then some (.bool (!PyData.eqv d e)) else none
theorem dop_eq {K : Fg} : DOp K (rEqD K) oEq := fun F H x y d e c Q sf dx dy eq k => by
  unfold oEq at eq
  by_cases z : (SeqAt.shaped d && SeqAt.shaped e) = true
  · rw [if_pos z] at eq
    cases eq
    rw [Bool.and_eq_true] at z
    exact ⟨d, e, Dp_mono sf dx, Dp_mono sf dy, z.1, z.2, k _ F H (Gr.refl sf) (.bl _)⟩
  · rw [if_neg z] at eq; cases eq
theorem dop_ne {K : Fg} : DOp K (rNeD K) oNe := fun F H x y d e c Q sf dx dy eq k => by
  unfold oNe at eq
  by_cases z : (SeqAt.shaped d && SeqAt.shaped e) = true
  · rw [if_pos z] at eq
    cases eq
    rw [Bool.and_eq_true] at z
    exact ⟨d, e, Dp_mono sf dx, Dp_mono sf dy, z.1, z.2, k _ F H (Gr.refl sf) (.bl _)⟩
  · rw [if_neg z] at eq; cases eq
theorem pd_eq {n : Nat} (hr : Room n X.A) (ha : PD X a f) (hb : PD X b g) : PD X (.Compare a [.Eq] [b] pos) (x2 oEq f g) := pd_cmp dop_eq (op_eqD hr.units) ha hb
theorem pd_ne {n : Nat} (hr : Room n X.A) (ha : PD X a f) (hb : PD X b g) : PD X (.Compare a [.NotEq] [b] pos) (x2 oNe f g) := pd_cmp dop_ne (op_neD hr.units) ha hb
@[simp] def isN : D → Bool
  | .none => true
  | _ => false
theorem dp_isN {K : Fg} {F : Hp} {v : V} {d : D} (h : Dp K F v d) : decide (v = .non) = isN d := by
  cases h <;> rfl
theorem pd_isN {j p'} (ha : PD X a f) : PD X (.Compare a [.Is] [.Constant .none j p'] pos) (x1 (fun d => some (.bool (isN d))) f) := ⟨iPE (pe_cmp (pc_isN ha.out)) fun σ H Q ⟨F, ds, d, sf, ev, e, k⟩ => by
  obtain ⟨x, e1, e2⟩ := Option.bind_eq_some_iff.mp e
  cases e2
  exact ⟨F, ds, x, sf, ev, e1, fun v F1 H1 g1 d1 => k _ F1 H1 g1 (by rw [dp_isN d1]; exact .bl _)⟩⟩
theorem pd_notN {j p'} (ha : PD X a f) : PD X (.Compare a [.IsNot] [.Constant .none j p'] pos) (x1 (fun d => some (.bool (!isN d))) f) := ⟨iPE (pe_cmp (pc_notN ha.out)) fun σ H Q ⟨F, ds, d, sf, ev, e, k⟩ => by
  obtain ⟨x, e1, e2⟩ := Option.bind_eq_some_iff.mp e
  cases e2
  exact ⟨F, ds, x, sf, ev, e1, fun v F1 H1 g1 d1 => k _ F1 H1 g1 (by rw [dp_isN d1]; exact .bl _)⟩⟩
/-- the items of a list or tuple -/
@[simp] def seqOf : D → Option (List D)
  | .list xs => some xs
  | .tuple xs => some xs
  | _ => none
def inD (x : D) (xs : List D) : Bool := xs.any fun y => PyData.eqv y x
@[simp] def oIn (neg : Bool) (d e : D) : Option D := (seqOf e).bind fun xs => if flat d && xs.all flat then some (.bool (if neg then !inD d xs else inD d xs)) else none
theorem flatV_of {K : Fg} {F : Hp} {v : V} {d : D} (h : Dp K F v d) (e : flat d = true) : flatV v = true := by
  cases h <;> first | rfl | cases e
theorem flatVs_of {K : Fg} {F : Hp} : ∀ {v : List V} {d : List D}, DpAll K F v d → d.all flat = true → v.all flatV = true
  | _, _, .nil, _ => rfl
  | _, _, .cons h t, e => by
    rw [List.all_cons, Bool.and_eq_true] at e ⊢
    exact ⟨flatV_of h e.1, flatVs_of t e.2⟩
theorem eqV_of {K : Fg} {F : Hp} {v u : V} {d e : D} (h : Dp K F v d) (h' : Dp K F u e) (ed : flat d = true) (ee : flat e = true) : eqV v u = PyData.eqv d e := by
  cases h <;> cases h' <;> first | rfl | cases ed | cases ee | simp [eqV, PyData.eqv]
theorem inV_of {K : Fg} {F : Hp} {x : V} {d : D} (h : Dp K F x d) (e : flat d = true) : ∀ {v : List V} {ds : List D}, DpAll K F v ds → ds.all flat = true → inV x v = inD d ds
  | _, _, .nil, _ => rfl
  | _, _, .cons q t, e' => by
    rw [List.all_cons, Bool.and_eq_true] at e'
    unfold inV inD
    rw [List.any_cons, List.any_cons, eqV_of q h e'.1 e]
    have := inV_of h e t e'.2
    unfold inV inD at this
    rw [this]
theorem dop_in {K : Fg} {neg : Bool} : DOp K (rIn K neg) (oIn neg) := fun F H x y d e c Q sf dx dy eq k => by
  obtain ⟨xs, e1, e2⟩ := Option.bind_eq_some_iff.mp eq
  by_cases z : (flat d && xs.all flat) = true
  · rw [if_pos z] at e2
    cases e2
    rw [Bool.and_eq_true] at z
    cases dy with
    | lst hs hv =>
      cases e1
      exact ⟨_, _, rfl, .inl (sf.seq hs), flatV_of dx z.1, flatVs_of hv z.2, by rw [inV_of dx z.1 hv z.2]; exact k _ F H (Gr.refl sf) (.bl _)⟩
    | tup hs hv =>
      cases e1
      exact ⟨_, _, rfl, .inr (Same.seqT sf hs), flatV_of dx z.1, flatVs_of hv z.2, by rw [inV_of dx z.1 hv z.2]; exact k _ F H (Gr.refl sf) (.bl _)⟩
    | _ => cases e1
  · rw [if_neg z] at e2; cases e2
theorem pd_in (ha : PD X a f) (hb : PD X b g) (hm : behindInMarks .In b = false := by with_unfolding_all rfl) : PD X (.Compare a [.In] [b] pos) (x2 (oIn false) f g) := pd_cmp dop_in op_in_seq ha hb hm
theorem pd_notin (ha : PD X a f) (hb : PD X b g) (hm : behindInMarks .NotIn b = false := by with_unfolding_all rfl) : PD X (.Compare a [.NotIn] [b] pos) (x2 (oIn true) f g) := pd_cmp dop_in op_notIn_seq ha hb hm
/-- a < b < c -/
@[simp] def xCh (o o' : D → D → Option D) (f g h : Ev → Option D) : Ev → Option D := fun ds => (f ds).bind fun x => (g ds).bind fun y => (o x y).bind fun r => match r with
  | .bool true => (h ds).bind fun z => o' y z
  | .bool false => some (.bool false)
  | _ => none
theorem pd_chain {op op' : CmpOp} {r r' : R2} {o o' : D → D → Option D} (w : DOp X.K r o) (w' : DOp X.K r' o') (ho : OpR X (compareOp op) r) (ho' : OpR X (compareOp op') r') (ha : PD X a f) (hb : PD X b g) (hc : PD X c h)
    (hm : lastMarks [op, op'] [b, c] = false := by with_unfolding_all rfl) : PD X (.Compare a [op, op'] [b, c] pos) (xCh o o' f g h) := ⟨iPE (pe_chain ho ho' ha.out hb.out hc.out hm) fun σ H Q ⟨F, ds, d, sf, ev, e, k⟩ => by
  obtain ⟨x, e1, e⟩ := Option.bind_eq_some_iff.mp e
  obtain ⟨y, e2, e⟩ := Option.bind_eq_some_iff.mp e
  obtain ⟨q, e3, e⟩ := Option.bind_eq_some_iff.mp e
  refine ⟨F, ds, x, sf, ev, e1, fun v F1 H1 g1 d1 => ⟨F1, ds, y, g1.sub, ev.mono g1.ff, e2, fun u F2 H2 g2 d2 => w F2 H2 v u x y q _ g2.sub (Dp_mono g2.ff d1) d2 e3 fun z F3 H3 g3 d3 => ?_⟩⟩
  have g13 := (g1.trans g2).trans g3
  cases d3 with
  | bl t =>
    cases t with
    | false => cases e; exact ⟨false, rfl, iteF (k _ F3 H3 g13 (.bl _))⟩
    | true =>
      obtain ⟨z', e4, e5⟩ := Option.bind_eq_some_iff.mp e
      exact ⟨true, rfl, iteT ⟨F3, ds, z', g3.sub, ev.mono g13.ff, e4, fun u' F4 H4 g4 d4 => w' F4 H4 u u' y z' d Q g4.sub (Dp_mono (g3.ff.trans g4.ff) d2) d4 e5 fun r F5 H5 g5 d5 => k r F5 H5 ((g13.trans g4).trans g5) d5⟩⟩
  | _ => cases e⟩
theorem pd_lele (ha : PD X a f) (hb : PD X b g) (hc : PD X c h) (hm : lastMarks [.LtE, .LtE] [b, c] = false := by with_unfolding_all rfl) : PD X (.Compare a [.LtE, .LtE] [b, c] pos) (xCh oLe oLe f g h) := pd_chain dw_le dw_le op_le op_le ha hb hc hm
theorem pd_lelt (ha : PD X a f) (hb : PD X b g) (hc : PD X c h) (hm : lastMarks [.LtE, .Lt] [b, c] = false := by with_unfolding_all rfl) : PD X (.Compare a [.LtE, .Lt] [b, c] pos) (xCh oLe oLt f g h) := pd_chain dw_le dw_lt op_le op_lt ha hb hc hm
theorem pd_ltle (ha : PD X a f) (hb : PD X b g) (hc : PD X c h) (hm : lastMarks [.Lt, .LtE] [b, c] = false := by with_unfolding_all rfl) : PD X (.Compare a [.Lt, .LtE] [b, c] pos) (xCh oLt oLe f g h) := pd_chain dw_lt dw_le op_lt op_le ha hb hc hm

/-! ### tests, and, or, not, if -/
theorem t_bo {f : Ev → Option D} : ∀ σ H Q, tBo X.K (bOf f) σ H Q → tB (tD X.K f) σ H Q := fun σ H Q ⟨F, ds, b, sf, ev, e, k⟩ => by
  obtain ⟨x, e1, e2⟩ := Option.bind_eq_some_iff.mp e
  refine ⟨F, ds, x, sf, ev, e1, fun v F1 H1 g1 d1 => ?_⟩
  cases d1 with
  | bl t => cases e2; exact ⟨_, rfl, k F1 H1 g1⟩
  | _ => cases e2
/-- a name, a call, a subscript, a constant -/
theorem pb_val (ha : PD X a f) (he : ∀ whole, isTrue a X.env whole = (do let v ← whole; standAt a.pos; holding [v] (truthy v)) := by intro _; rfl) : PB X a (bOf f) := ⟨iPT (pt_val ha.out he) t_bo⟩
theorem pb_cmpR {op : CmpOp} {r : R2} {o : D → D → Option D} (w : DOp X.K r o) (ho : OpR X (compareOp op) r) (ha : PD X a f) (hb : PD X b g) (hm : behindInMarks op b = false := by first | exact nomark _ | with_unfolding_all rfl) : PB X (.Compare a [op] [b] pos) (bOf (x2 o f g)) :=
  ⟨iPT (pt_cmpR ho ha.out hb.out hm) fun σ H Q q => t2D w σ H _ (by
    obtain ⟨F, ds, b, sf, ev, e, k⟩ := q
    obtain ⟨x, e1, e2⟩ := Option.bind_eq_some_iff.mp e
    refine ⟨F, ds, x, sf, ev, e1, fun v F1 H1 g1 d1 => ?_⟩
    cases d1 with
    | bl t => cases e2; exact ⟨_, rfl, k F1 H1 g1⟩
    | _ => cases e2)⟩
theorem pb_lt (ha : PD X a f) (hb : PD X b g) : PB X (.Compare a [.Lt] [b] pos) (bOf (x2 oLt f g)) := pb_cmpR (dop_i0 fun _ _ _ => .bl _) op_lt ha hb
theorem pb_le (ha : PD X a f) (hb : PD X b g) : PB X (.Compare a [.LtE] [b] pos) (bOf (x2 oLe f g)) := pb_cmpR (dop_i0 fun _ _ _ => .bl _) op_le ha hb
theorem pb_gt (ha : PD X a f) (hb : PD X b g) : PB X (.Compare a [.Gt] [b] pos) (bOf (x2 oGt f g)) := pb_cmpR (dop_i0 fun _ _ _ => .bl _) op_gt ha hb
theorem pb_ge (ha : PD X a f) (hb : PD X b g) : PB X (.Compare a [.GtE] [b] pos) (bOf (x2 oGe f g)) := pb_cmpR (dop_i0 fun _ _ _ => .bl _) op_ge ha hb
theorem pb_eq {n : Nat} (hr : Room n X.A) (ha : PD X a f) (hb : PD X b g) : PB X (.Compare a [.Eq] [b] pos) (bOf (x2 oEq f g)) := pb_cmpR dop_eq (op_eqD hr.units) ha hb
theorem pb_ne {n : Nat} (hr : Room n X.A) (ha : PD X a f) (hb : PD X b g) : PB X (.Compare a [.NotEq] [b] pos) (bOf (x2 oNe f g)) := pb_cmpR dop_ne (op_neD hr.units) ha hb
theorem pb_in (ha : PD X a f) (hb : PD X b g) (hm : behindInMarks .In b = false := by with_unfolding_all rfl) : PB X (.Compare a [.In] [b] pos) (bOf (x2 (oIn false) f g)) := pb_cmpR dop_in op_in_seq ha hb hm
theorem pb_notin (ha : PD X a f) (hb : PD X b g) (hm : behindInMarks .NotIn b = false := by with_unfolding_all rfl) : PB X (.Compare a [.NotIn] [b] pos) (bOf (x2 (oIn true) f g)) := pb_cmpR dop_in op_notIn_seq ha hb hm
theorem pb_isN {j p'} (ha : PD X a f) : PB X (.Compare a [.Is] [.Constant .none j p'] pos) (bOf (x1 (fun d => some (.bool (isN d))) f)) := ⟨iPT (pt_cmp (pc_isN ha.out)) fun σ H Q ⟨F, ds, d, sf, ev, e, k⟩ => by
  obtain ⟨y, e0, e2⟩ := Option.bind_eq_some_iff.mp e
  obtain ⟨x, e1, e3⟩ := Option.bind_eq_some_iff.mp e0
  cases e3
  cases e2
  exact ⟨F, ds, x, sf, ev, e1, fun v F1 H1 g1 d1 => ⟨_, rfl, by rw [dp_isN d1]; exact k F1 H1 g1⟩⟩⟩
theorem pb_notN {j p'} (ha : PD X a f) : PB X (.Compare a [.IsNot] [.Constant .none j p'] pos) (bOf (x1 (fun d => some (.bool (!isN d))) f)) := ⟨iPT (pt_cmp (pc_notN ha.out)) fun σ H Q ⟨F, ds, d, sf, ev, e, k⟩ => by
  obtain ⟨y, e0, e2⟩ := Option.bind_eq_some_iff.mp e
  obtain ⟨x, e1, e3⟩ := Option.bind_eq_some_iff.mp e0
  cases e3
  cases e2
  exact ⟨F, ds, x, sf, ev, e1, fun v F1 H1 g1 d1 => ⟨_, rfl, by rw [dp_isN d1]; exact k F1 H1 g1⟩⟩⟩
theorem pb_chain {op op' : CmpOp} {r r' : R2} {o o' : D → D → Option D} (w : DOp X.K r o) (w' : DOp X.K r' o') (ho : OpR X (compareOp op) r) (ho' : OpR X (compareOp op') r') (ha : PD X a f) (hb : PD X b g) (hc : PD X c h)
    (hm : lastMarks [op, op'] [b, c] = false := by with_unfolding_all rfl) : PB X (.Compare a [op, op'] [b, c] pos) (bOf (xCh o o' f g h)) := ⟨iPT (pt_chain ho ho' ha.out hb.out hc.out hm) fun σ H Q ⟨F, ds, d, sf, ev, e, k⟩ => by
  obtain ⟨w0, e0, e9⟩ := Option.bind_eq_some_iff.mp e
  obtain ⟨x, e1, e⟩ := Option.bind_eq_some_iff.mp e0
  obtain ⟨y, e2, e⟩ := Option.bind_eq_some_iff.mp e
  obtain ⟨q, e3, e⟩ := Option.bind_eq_some_iff.mp e
  refine ⟨F, ds, x, sf, ev, e1, fun v F1 H1 g1 d1 => ⟨F1, ds, y, g1.sub, ev.mono g1.ff, e2, fun u F2 H2 g2 d2 => w F2 H2 v u x y q _ g2.sub (Dp_mono g2.ff d1) d2 e3 fun z F3 H3 g3 d3 => ?_⟩⟩
  have g13 := (g1.trans g2).trans g3
  cases d3 with
  | bl t =>
    cases t with
    | false => cases e; cases e9; exact ⟨false, rfl, iteF ⟨_, rfl, k F3 H3 g13⟩⟩
    | true =>
      obtain ⟨z', e4, e5⟩ := Option.bind_eq_some_iff.mp e
      refine ⟨true, rfl, iteT ⟨F3, ds, z', g3.sub, ev.mono g13.ff, e4, fun u' F4 H4 g4 d4 => w' F4 H4 u u' y z' _ _ g4.sub (Dp_mono (g3.ff.trans g4.ff) d2) d4 e5 fun r F5 H5 g5 d5 => ?_⟩⟩
      cases d5 with
      | bl t => cases e9; exact ⟨_, rfl, k F5 H5 ((g13.trans g4).trans g5)⟩
      | _ => cases e9
  | _ => cases e⟩
theorem pb_lele (ha : PD X a f) (hb : PD X b g) (hc : PD X c h) (hm : lastMarks [.LtE, .LtE] [b, c] = false := by with_unfolding_all rfl) : PB X (.Compare a [.LtE, .LtE] [b, c] pos) (bOf (xCh oLe oLe f g h)) := pb_chain dw_le dw_le op_le op_le ha hb hc hm
theorem pb_lelt (ha : PD X a f) (hb : PD X b g) (hc : PD X c h) (hm : lastMarks [.LtE, .Lt] [b, c] = false := by with_unfolding_all rfl) : PB X (.Compare a [.LtE, .Lt] [b, c] pos) (bOf (xCh oLe oLt f g h)) := pb_chain dw_le dw_lt op_le op_lt ha hb hc hm
theorem pb_ltle (ha : PD X a f) (hb : PD X b g) (hc : PD X c h) (hm : lastMarks [.Lt, .LtE] [b, c] = false := by with_unfolding_all rfl) : PB X (.Compare a [.Lt, .LtE] [b, c] pos) (bOf (xCh oLt oLe f g h)) := pb_chain dw_lt dw_le op_lt op_le ha hb hc hm
structure PWb (X : Cx) (e : Expr) (f : Ev → Option Bool) : Prop where
  out : PW X e (tBo X.K f)
variable {p q : Ev → Option Bool} {rest : List Expr}
theorem ofW (h : PWb X a p) : PB X a p := ⟨PW.pt h.out⟩
theorem pw_and1' (ha : PB X a p) : PWb X (.BoolOp .And [a] pos) p := ⟨pw_and1 ha.out⟩
theorem pw_or1' (ha : PB X a p) : PWb X (.BoolOp .Or [a] pos) p := ⟨pw_or1 ha.out⟩
theorem iPW {X : Cx} {e : Expr} {t t' : TT} (h : PW X e t) (i : ∀ σ H Q, t' σ H Q → t σ H Q) : PW X e t' := fun wh pins s σ H Q I q => h wh pins s σ H Q I (i σ H Q q)
theorem pw_and' (ha : PB X a p) (hb : PWb X (.BoolOp .And (b :: rest) pos) q) : PWb X (.BoolOp .And (a :: b :: rest) pos) (bAnd p q) := ⟨iPW (pw_and ha.out hb.out) fun σ H Q ⟨F, ds, d, sf, ev, e, k⟩ => by
  obtain ⟨x, e1, e2⟩ := Option.bind_eq_some_iff.mp e
  refine ⟨F, ds, x, sf, ev, e1, fun F1 H1 g1 => ?_⟩
  cases x with
  | true => exact iteT ⟨F1, ds, d, g1.sub, ev.mono g1.ff, e2, fun F2 H2 g2 => k F2 H2 (g1.trans g2)⟩
  | false => cases e2; exact iteF (k F1 H1 g1)⟩
theorem pw_or' (ha : PB X a p) (hb : PWb X (.BoolOp .Or (b :: rest) pos) q) : PWb X (.BoolOp .Or (a :: b :: rest) pos) (bOr p q) := ⟨iPW (pw_or ha.out hb.out) fun σ H Q ⟨F, ds, d, sf, ev, e, k⟩ => by
  obtain ⟨x, e1, e2⟩ := Option.bind_eq_some_iff.mp e
  refine ⟨F, ds, x, sf, ev, e1, fun F1 H1 g1 => ?_⟩
  cases x with
  | true => cases e2; exact iteT (k F1 H1 g1)
  | false => exact iteF ⟨F1, ds, d, g1.sub, ev.mono g1.ff, e2, fun F2 H2 g2 => k F2 H2 (g1.trans g2)⟩⟩
theorem pb_not (ha : PB X a p) : PB X (.UnaryOp .Not a pos) (bNot p) := ⟨iPT (pt_not ha.out) fun σ H Q ⟨F, ds, d, sf, ev, e, k⟩ => by
  obtain ⟨x, e1, rfl⟩ := Option.map_eq_some_iff.mp e
  exact ⟨F, ds, x, sf, ev, e1, fun F1 H1 g1 => k F1 H1 g1⟩⟩
/-- and, or, not as values (each part True or False) -/
theorem pd_one {op} (ha : PD X a f) : PD X (.BoolOp op [a] pos) f := ⟨pe_one ha.out⟩
@[simp] def xAnd (f g : Ev → Option D) : Ev → Option D := fun ds => (f ds).bind fun x => match x with
  | .bool true => g ds
  | .bool false => some (.bool false)
  | _ => none
@[simp] def xOr (f g : Ev → Option D) : Ev → Option D := fun ds => (f ds).bind fun x => match x with
  | .bool true => some (.bool true)
  | .bool false => g ds
  | _ => none
@[simp] def oNot : D → Option D
  | .bool b => some (.bool (!b))
  | _ => none
theorem pd_and (ha : PD X a f) (hb : PD X (.BoolOp .And (b :: rest) pos) g) : PD X (.BoolOp .And (a :: b :: rest) pos) (xAnd f g) := ⟨iPE (pe_and ha.out hb.out) fun σ H Q ⟨F, ds, d, sf, ev, e, k⟩ => by
  obtain ⟨x, e1, e2⟩ := Option.bind_eq_some_iff.mp e
  refine ⟨F, ds, x, sf, ev, e1, fun v F1 H1 g1 d1 => ?_⟩
  cases d1 with
  | bl t =>
    cases t with
    | true => exact ⟨true, rfl, iteT ⟨F1, ds, d, g1.sub, ev.mono g1.ff, e2, fun v F2 H2 g2 d2 => k v F2 H2 (g1.trans g2) d2⟩⟩
    | false => cases e2; exact ⟨false, rfl, iteF (k _ F1 H1 g1 (.bl _))⟩
  | _ => cases e2⟩
theorem pd_or (ha : PD X a f) (hb : PD X (.BoolOp .Or (b :: rest) pos) g) : PD X (.BoolOp .Or (a :: b :: rest) pos) (xOr f g) := ⟨iPE (pe_or ha.out hb.out) fun σ H Q ⟨F, ds, d, sf, ev, e, k⟩ => by
  obtain ⟨x, e1, e2⟩ := Option.bind_eq_some_iff.mp e
  refine ⟨F, ds, x, sf, ev, e1, fun v F1 H1 g1 d1 => ?_⟩
  cases d1 with
  | bl t =>
    cases t with
    | false => exact ⟨false, rfl, iteF ⟨F1, ds, d, g1.sub, ev.mono g1.ff, e2, fun v F2 H2 g2 d2 => k v F2 H2 (g1.trans g2) d2⟩⟩
    | true => cases e2; exact ⟨true, rfl, iteT (k _ F1 H1 g1 (.bl _))⟩
  | _ => cases e2⟩
theorem pd_not (ha : PD X a f) : PD X (.UnaryOp .Not a pos) (x1 oNot f) := ⟨iPE (pe_not ha.out) fun σ H Q ⟨F, ds, d, sf, ev, e, k⟩ => by
  obtain ⟨x, e1, e2⟩ := Option.bind_eq_some_iff.mp e
  refine ⟨F, ds, x, sf, ev, e1, fun v F1 H1 g1 d1 => ?_⟩
  cases d1 with
  | bl t => cases e2; exact ⟨t, rfl, k _ F1 H1 g1 (.bl _)⟩
  | _ => cases e2⟩
theorem pd_if (hc : PB X c p) (ha : PD X a f) (hb : PD X b g) : PD X (.IfExp c a b pos) (xIf p f g) := ⟨iPE (pe_ifExp hc.out ha.out hb.out) fun σ H Q ⟨F, ds, d, sf, ev, e, k⟩ => by
  obtain ⟨x, e1, e2⟩ := Option.bind_eq_some_iff.mp e
  refine ⟨F, ds, x, sf, ev, e1, fun F1 H1 g1 => ?_⟩
  cases x with
  | true => exact iteT ⟨F1, ds, d, g1.sub, ev.mono g1.ff, e2, fun v F2 H2 g2 d2 => k v F2 H2 (g1.trans g2) d2⟩
  | false => exact iteF ⟨F1, ds, d, g1.sub, ev.mono g1.ff, e2, fun v F2 H2 g2 d2 => k v F2 H2 (g1.trans g2) d2⟩⟩
theorem pl_if {f g : Ev → Option (List D)} (hc : PB X c p) (ha : PL X a f) (hb : PL X b g) : PL X (.IfExp c a b pos) (xIf p f g) := ⟨iPE (pe_ifExp hc.out ha.out hb.out) fun σ H Q ⟨F, ds, d, sf, ev, e, k⟩ => by
  obtain ⟨x, e1, e2⟩ := Option.bind_eq_some_iff.mp e
  refine ⟨F, ds, x, sf, ev, e1, fun F1 H1 g1 => ?_⟩
  cases x with
  | true => exact iteT ⟨F1, ds, d, g1.sub, ev.mono g1.ff, e2, fun v vs F2 H2 g2 h1 h2 h3 h4 => k v vs F2 H2 (g1.trans g2) h1 (g1.hh.free h2) h3 h4⟩
  | false => exact iteF ⟨F1, ds, d, g1.sub, ev.mono g1.ff, e2, fun v vs F2 H2 g2 h1 h2 h3 h4 => k v vs F2 H2 (g1.trans g2) h1 (g1.hh.free h2) h3 h4⟩⟩

/-! ### items, slices, +, * of lists -/
@[simp] def oIx (d e : D) : Option D := match e with
  | .int i => (seqOf d).bind fun xs => atI xs i
  | _ => none
theorem atI_of {K : Fg} {F : Hp} {vs : List V} {ds : List D} {i : Int} {d : D} (h : DpAll K F vs ds) (e : atI ds i = some d) : ∃ v, atI vs i = some v ∧ Dp K F v d := by
  unfold atI at e ⊢
  rw [DpAll.len h]
  obtain ⟨j, e1, e2⟩ := Option.bind_eq_some_iff.mp e
  obtain ⟨v, h1, h2⟩ := DpAll.get h e2
  exact ⟨v, by rw [e1]; exact h1, h2⟩
theorem dop_ix {K : Fg} : DOp K (fun x y H Q => rIxL K x y H Q ∨ rIxT K x y H Q) oIx := fun F H x y d e c Q sf dx dy eq k => by
  cases dy with
  | int i =>
    obtain ⟨xs, e1, e2⟩ := Option.bind_eq_some_iff.mp eq
    cases dx with
    | lst hs hv =>
      cases e1
      obtain ⟨v, h1, h2⟩ := atI_of hv e2
      exact .inl ⟨_, _, i, v, rfl, rfl, sf.seq hs, h1, k v F H (Gr.refl sf) h2⟩
    | tup hs hv =>
      cases e1
      obtain ⟨v, h1, h2⟩ := atI_of hv e2
      exact .inr ⟨_, _, i, v, rfl, rfl, Same.seqT sf hs, h1, k v F H (Gr.refl sf) h2⟩
    | _ => cases e1
  | _ => cases eq
theorem pd_ix (ha : PD X a f) (hb : PD X b g) (hs : PlainIx b := by exact fun _ _ => rfl) : PD X (.Subscript a b pos) (x2 oIx f g) := ⟨iPE (pe_ix (ix_list.or ix_tup) ha.out hb.out hs) (t2D dop_ix)⟩
def cutD (xs : List D) (lo hi : Option Int) : List D := (xs.drop (HT.sIx xs.length 0 lo)).take (HT.sIx xs.length xs.length hi - HT.sIx xs.length 0 lo)
structure PP (X : Cx) (e : Option Expr) (f : Ev → Option (Option Int)) : Prop where
  out : PO X e fun σ H Q => ∃ F ds b, Same F H ∧ Env X.K F σ ds ∧ f ds = some b ∧ ∀ F' H', Gr F H F' H' → Q b H'
@[simp] def pNone : Ev → Option (Option Int) := fun _ => some none
@[simp] def pInt (f : Ev → Option D) : Ev → Option (Option Int) := fun ds => (f ds).bind fun d => match d with | .int i => some (some i) | _ => none
theorem iPO {X : Cx} {e : Option Expr} {t t' : TO} (h : PO X e t) (i : ∀ σ H Q, t' σ H Q → t σ H Q) : PO X e t' := fun pins s σ H Q I q => h pins s σ H Q I (i σ H Q q)
theorem pp_none : PP X none pNone := ⟨iPO po_none fun σ H Q ⟨F, ds, b, sf, ev, e, k⟩ => by cases e; exact k F H (Gr.refl sf)⟩
theorem pp_some (h : PD X a f) : PP X (some a) (pInt f) := ⟨iPO (po_some h.out) fun σ H Q ⟨F, ds, b, sf, ev, e, k⟩ => by
  obtain ⟨x, e1, e2⟩ := Option.bind_eq_some_iff.mp e
  refine ⟨F, ds, x, sf, ev, e1, fun v F1 H1 g1 d1 => ?_⟩
  cases d1 with
  | int i => cases e2; exact ⟨i, rfl, k F1 H1 g1⟩
  | _ => cases e2⟩
@[simp] def lSl (f : Ev → Option D) (lo hi : Ev → Option (Option Int)) : Ev → Option (List D) := fun ds => (f ds).bind fun d => match d with
  | .list xs => (lo ds).bind fun l => (hi ds).bind fun u => some (cutD xs l u)
  | _ => none
theorem pl_slice {lo hi : Option Expr} {p2 : Pos} {l u : Ev → Option (Option Int)} (he : PD X a f) (hl : PP X lo l) (hu : PP X hi u) : PL X (.Subscript a (.Slice lo hi none p2) pos) (lSl f l u) := ⟨iPE (pe_slice sl_list he.out hl.out hu.out) fun σ H Q ⟨F, ds, d, sf, ev, e, k⟩ => by
  obtain ⟨x, e1, e⟩ := Option.bind_eq_some_iff.mp e
  refine ⟨F, ds, x, sf, ev, e1, fun v F1 H1 g1 d1 => ?_⟩
  cases d1 with
  | lst hs hv =>
    obtain ⟨y, e2, e⟩ := Option.bind_eq_some_iff.mp e
    obtain ⟨z, e3, e⟩ := Option.bind_eq_some_iff.mp e
    cases e
    refine ⟨F1, ds, y, g1.sub, ev.mono g1.ff, e2, fun F2 H2 g2 => ⟨F2, ds, z, g2.sub, ev.mono (g1.ff.trans g2.ff), e3, fun F3 H3 g3 => ⟨_, _, rfl, (g2.ff.trans (g3.ff.trans g3.sub)).seq hs, fun p hp => ?_⟩⟩⟩
    have g := (g1.trans g2).trans g3
    refine k p _ F3 _ (g.trans (Gr.hid g3.sub hp)) (g3.sub.free hp) (g.hh.free hp) upd_same ?_
    unfold cutV cutD
    rw [DpAll.len hv]
    exact DpAll.take _ (DpAll.drop _ (DpAll_mono (g2.ff.trans g3.ff) hv))
  | _ => cases e⟩
/-- two lists, as they may be read -/
def rCatS (K : Fg) : R2 := fun x y H Q => ∃ l b xs zs, x = .ref l ∧ y = .ref b ∧ SqL K H l xs ∧ SqL K H b zs ∧ xs.length + zs.length ≤ sizeLine ∧ ∀ p, H p = none → Q (.ref p) (upd H p (.lst (xs ++ zs)))
theorem op_catS : OpR X (binaryOp .Add) (rCatS X.K) := by
  intro pins s σ H x y v u Q I rx ry h
  obtain ⟨l, b, xs, zs, rfl, rfl, hH, hB, hz, q⟩ := h
  cases rx
  cases ry
  obtain ⟨its, r, hl, z1⟩ := I.list hH
  obtain ⟨its2, r2, hl2, z2⟩ := I.list hB
  have e1 := r.length
  have e2 := r2.length
  obtain ⟨⟨cls, dd, data, sl⟩, ho, hc, n, hd⟩ := hl.isList
  obtain ⟨⟨cls2, dd2, data2, sl2⟩, ho2, hc2, n2, hd2⟩ := hl2.isList
  simp only at hc hd hc2 hd2
  subst hc; subst hd; subst hc2; subst hd2
  have ea : its.toArray ++ its2.toArray = (its ++ its2).toArray := by simp
  refine PySem.concat_meets ⟨_, ho, rfl⟩ ⟨_, ho2, rfl⟩ PySem.noFill_list_add PySem.seq_list_add PySem.F.slot_list_add PySem.F.entry_list_add (PySem.F.args_list_add_2 _ _) (PyProof.Rows.list_addW l b its.toArray its2.toArray n n2 dd dd2 sl sl2 (by rw [List.size_toArray, List.size_toArray]; omega)) ⟨ho, ho2, ?_⟩
  rw [ea]
  exact ⟨.ref _, _, I.lnew (t' := s.toks) (r.append r2) (by rw [List.length_append]; omega), rfl, q _ I.fresh⟩
end
end DL
namespace DL
open PySem PySem.Spec L2

section
variable {X : Cx} {pos p : Pos} {a b c e : Expr} {es : List Expr} {f g h : Ev → Option D}
@[simp] def oCat : D → D → Option (List D)
  | .list xs, .list ys => if xs.length + ys.length ≤ cap then some (xs ++ ys) else none
  | _, _ => none
theorem lop_cat {K : Fg} : LOp K (rCatS K) oCat := fun F H x y d e c Q sf dx dy eq k => by
  cases dx with
  | lst hs hv =>
    cases dy with
    | lst hs' hv' =>
      rename_i xs ys
      simp only [oCat] at eq
      split at eq
      · rename_i hl
        cases eq
        refine ⟨_, _, _, _, rfl, rfl, sf.seq hs, sf.seq hs', by rw [DpAll.len hv, DpAll.len hv']; exact Nat.le_trans hl cap_line, fun p hp => ?_⟩
        exact k p _ F _ (Gr.hid sf hp) (sf.free hp) hp upd_same (DpAll.app hv hv')
      · cases eq
    | _ => cases eq
  | _ => cases eq
theorem pl_cat (ha : PD X a f) (hb : PD X b g) : PL X (.BinOp a .Add b pos) (l2 oCat f g) := pl_op lop_cat op_catS ha hb
/-- [..] * n -/
@[simp] def lRep (f : Ev → Option (List D)) (g : Ev → Option D) : Ev → Option (List D) := fun ds => (f ds).bind fun xs => (g ds).bind fun n => match n with
  | .int k => if decide (-(2 ^ 60) ≤ k) && decide (k < 2 ^ 60) && decide (xs.length * k.toNat ≤ cap) then some (List.replicate k.toNat xs).flatten else none
  | _ => none
theorem pl_rep {f : Ev → Option (List D)} (ha : PL X a f) (hb : PD X b g) : PL X (.BinOp a .Mult b pos) (lRep f g) := ⟨iPE (pe_op op_rep ha.out hb.out) fun σ H Q ⟨F, ds, d, sf, ev, e, k⟩ => by
  obtain ⟨xs, e1, e⟩ := Option.bind_eq_some_iff.mp e
  obtain ⟨n, e2, e⟩ := Option.bind_eq_some_iff.mp e
  refine ⟨F, ds, xs, sf, ev, e1, fun l vs F1 H1 g1 hf hh h1 d1 => ⟨F1, ds, n, g1.sub, ev.mono g1.ff, e2, fun u F2 H2 g2 d2 => ?_⟩⟩
  cases d2 with
  | int i =>
    simp only at e
    split at e
    · rename_i z
      simp only [Bool.and_eq_true, decide_eq_true_eq] at z
      cases e
      refine ⟨l, i, vs, rfl, rfl, g2.hh _ _ h1, by omega, by omega, by rw [DpAll.len d1]; exact Nat.le_trans z.2 cap_line, fun p hp => ?_⟩
      have g := g1.trans g2
      exact k p _ F2 _ (g.trans (Gr.hid g2.sub hp)) (g2.sub.free hp) (g.hh.free hp) upd_same (DpAll.rep (DpAll_mono g2.ff d1) _)
    · cases e
  | _ => cases e⟩

/-! ### calls of what is built in -/
def DCall (K : Fg) (r : List V → Hp → VK → Prop) (o : List D → Option D) : Prop := ∀ (F H : Hp) (xs : List V) (ds : List D) (c : D) (Q : VK), Same F H → DpAll K F xs ds → o ds = some c → (∀ v F' H', Gr F H F' H' → Dp K F' v c → Q v H') → r xs H Q
def LCall (K : Fg) (r : List V → Hp → VK → Prop) (o : List D → Option (List D)) : Prop := ∀ (F H : Hp) (xs : List V) (ds : List D) (c : List D) (Q : VK), Same F H → DpAll K F xs ds → o ds = some c →
  (∀ a vs F' H', Gr F H F' H' → F' a = none → H a = none → H' a = some (.lst vs) → DpAll K F' vs c → Q (.ref a) H') → r xs H Q
@[simp] def xCall {α : Type} (o : List D → Option α) (f : Ev → Option (List D)) : Ev → Option α := fun ds => (f ds).bind o
variable {x : Str} {idn T : String} {r : List V → Hp → VK → Prop} {fs : Ev → Option (List D)}
theorem tCB_d {o : List D → Option D} (w : DCall X.K r o) : ∀ σ H Q, tD X.K (xCall o fs) σ H Q → tCB r (tAs X.K fs) σ H Q := fun σ H Q ⟨F, ds, d, sf, ev, e, k⟩ => by
  obtain ⟨xs, e1, e2⟩ := Option.bind_eq_some_iff.mp e
  exact ⟨F, ds, xs, sf, ev, e1, fun vs F1 H1 g1 d1 => w F1 H1 vs xs d Q g1.sub d1 e2 fun v F2 H2 g2 d2 => k v F2 H2 (g1.trans g2) d2⟩
theorem tCB_l {o : List D → Option (List D)} (w : LCall X.K r o) : ∀ σ H Q, tL X.K (xCall o fs) σ H Q → tCB r (tAs X.K fs) σ H Q := fun σ H Q ⟨F, ds, d, sf, ev, e, k⟩ => by
  obtain ⟨xs, e1, e2⟩ := Option.bind_eq_some_iff.mp e
  exact ⟨F, ds, xs, sf, ev, e1, fun vs F1 H1 g1 d1 => w F1 H1 vs xs d Q g1.sub d1 e2 fun v vs F2 H2 g2 h1 h2 h3 h4 => k v vs F2 H2 (g1.trans g2) h1 (g1.hh.free h2) h3 h4⟩
theorem pd_callB {o : List D → Option D} (w : DCall X.K r o) (hc : CallR X (.builtin idn) r) (hg : Gl X x) (hm : X.mg x = none) (hv : bootBuiltins x = some (.builtin idn)) (ha : PAs X (e :: es) fs) (hn : x ≠ "__name__" := by decide) (hdb : (x == ("__debug__" : Str)) = false := by decide)
    (he : starEach (e :: es) X.env = (false, eval e X.env) :: starEach es X.env := by rfl) (hpl : (backTo pos (starEach es X.env)).any (·.1) = false := by rfl) : PD X (.Call (.Name x p) (e :: es) [] pos) (xCall o fs) := ⟨iPE (pe_callB hc hg hm hv ha.out hn hdb he hpl) (tCB_d w)⟩
theorem pd_callTy {o : List D → Option D} (w : DCall X.K r o) (hc : CallR X (.type T) r) (hg : Gl X x) (hm : X.mg x = none) (hv : bootBuiltins x = some (.type T)) (ha : PAs X (e :: es) fs) (hn : x ≠ "__name__" := by decide) (hdb : (x == ("__debug__" : Str)) = false := by decide)
    (he : starEach (e :: es) X.env = (false, eval e X.env) :: starEach es X.env := by rfl) (hpl : (backTo pos (starEach es X.env)).any (·.1) = false := by rfl) : PD X (.Call (.Name x p) (e :: es) [] pos) (xCall o fs) := ⟨iPE (pe_callTy hc hg hm hv ha.out hn hdb he hpl) (tCB_d w)⟩
theorem pl_callB {o : List D → Option (List D)} (w : LCall X.K r o) (hc : CallR X (.builtin idn) r) (hg : Gl X x) (hm : X.mg x = none) (hv : bootBuiltins x = some (.builtin idn)) (ha : PAs X (e :: es) fs) (hn : x ≠ "__name__" := by decide) (hdb : (x == ("__debug__" : Str)) = false := by decide)
    (he : starEach (e :: es) X.env = (false, eval e X.env) :: starEach es X.env := by rfl) (hpl : (backTo pos (starEach es X.env)).any (·.1) = false := by rfl) : PL X (.Call (.Name x p) (e :: es) [] pos) (xCall o fs) := ⟨iPE (pe_callB hc hg hm hv ha.out hn hdb he hpl) (tCB_l w)⟩
theorem pl_callTy {o : List D → Option (List D)} (w : LCall X.K r o) (hc : CallR X (.type T) r) (hg : Gl X x) (hm : X.mg x = none) (hv : bootBuiltins x = some (.type T)) (ha : PAs X (e :: es) fs) (hn : x ≠ "__name__" := by decide) (hdb : (x == ("__debug__" : Str)) = false := by decide)
    (he : starEach (e :: es) X.env = (false, eval e X.env) :: starEach es X.env := by rfl) (hpl : (backTo pos (starEach es X.env)).any (·.1) = false := by rfl) : PL X (.Call (.Name x p) (e :: es) [] pos) (xCall o fs) := ⟨iPE (pe_callTy hc hg hm hv ha.out hn hdb he hpl) (tCB_l w)⟩

/-- one argument -/
@[simp] def on1 {α : Type} (o : D → Option α) : List D → Option α
  | [d] => o d
  | _ => none
@[simp] def oLen : D → Option D := fun d => (seqOf d).map fun xs => .int xs.length
theorem dc_len {K : Fg} : DCall K (fun xs H Q => ∃ p ys, xs = [V.ref p] ∧ (SqL K H p ys ∨ SqT K H p ys) ∧ Q (.int ys.length) H) (on1 oLen) := fun F H xs ds c Q sf da eq k => by
  match ds, eq with
  | [d], eq =>
    obtain ⟨ys, e1, rfl⟩ := Option.map_eq_some_iff.mp eq
    cases da with
    | cons d1 d2 =>
      cases d2
      cases d1 with
      | lst hs hv => cases e1; exact ⟨_, _, rfl, .inl (sf.seq hs), by rw [DpAll.len hv]; exact k _ F H (Gr.refl sf) (.int _)⟩
      | tup hs hv => cases e1; exact ⟨_, _, rfl, .inr (Same.seqT sf hs), by rw [DpAll.len hv]; exact k _ F H (Gr.refl sf) (.int _)⟩
      | _ => cases e1
theorem pd_len (hg : Gl X "len") (hm : X.mg "len" = none) (ha : PD X a f) (he : starEach [a] X.env = (false, eval a X.env) :: starEach [] X.env := by rfl) : PD X (.Call (.Name "len" p) [a] [] pos) (xCall (on1 oLen) (aCons f aNil)) :=
  pd_callB dc_len call_len_seq hg hm PySem.boot_len (pas_cons ha pas_nil he) (he := he)
def boolsOf : List D → Option (List Bool)
  | [] => some []
  | .bool b :: r => (boolsOf r).map (b :: ·)
  | _ :: _ => none
theorem boolsOf_map : ∀ {ds : List D} {bs : List Bool}, boolsOf ds = some bs → ds = bs.map PyData.bool
  | [], _, e => by cases e; rfl
  | .bool b :: r, bs, e => by
    obtain ⟨q, e1, rfl⟩ := Option.map_eq_some_iff.mp e
    rw [boolsOf_map e1, List.map_cons]
  | .none :: _, _, e => by cases e
  | .int _ :: _, _, e => by cases e
  | .str _ :: _, _, e => by cases e
  | .list _ :: _, _, e => by cases e
  | .tuple _ :: _, _, e => by cases e
  | .dict _ :: _, _, e => by cases e
def intsOf : List D → Option (List Int)
  | [] => some []
  | .int b :: r => (intsOf r).map (b :: ·)
  | _ :: _ => none
theorem intsOf_map : ∀ {ds : List D} {bs : List Int}, intsOf ds = some bs → ds = bs.map PyData.int
  | [], _, e => by cases e; rfl
  | .int b :: r, bs, e => by
    obtain ⟨q, e1, rfl⟩ := Option.map_eq_some_iff.mp e
    rw [intsOf_map e1, List.map_cons]
  | .none :: _, _, e => by cases e
  | .bool _ :: _, _, e => by cases e
  | .str _ :: _, _, e => by cases e
  | .list _ :: _, _, e => by cases e
  | .tuple _ :: _, _, e => by cases e
  | .dict _ :: _, _, e => by cases e
@[simp] def oAny : D → Option D
  | .list xs => (boolsOf xs).map fun bs => .bool (bs.any id)
  | _ => none
@[simp] def oAll : D → Option D
  | .list xs => (boolsOf xs).map fun bs => .bool (bs.all id)
  | _ => none
theorem dc_any {K : Fg} : DCall K (rAny K) (on1 oAny) := fun F H xs ds c Q sf da eq k => by
  match ds, eq with
  | [d], eq =>
    cases da with
    | cons d1 d2 =>
      cases d2
      cases d1 with
      | lst hs hv =>
        obtain ⟨bs, e1, rfl⟩ := Option.map_eq_some_iff.mp eq
        cases boolsOf_map e1
        rw [DpAll.toBools hv] at hs
        exact ⟨_, bs, rfl, sf.seq hs, k _ F H (Gr.refl sf) (.bl _)⟩
      | _ => cases eq
theorem dc_all {K : Fg} : DCall K (rAll K) (on1 oAll) := fun F H xs ds c Q sf da eq k => by
  match ds, eq with
  | [d], eq =>
    cases da with
    | cons d1 d2 =>
      cases d2
      cases d1 with
      | lst hs hv =>
        obtain ⟨bs, e1, rfl⟩ := Option.map_eq_some_iff.mp eq
        cases boolsOf_map e1
        rw [DpAll.toBools hv] at hs
        exact ⟨_, bs, rfl, sf.seq hs, k _ F H (Gr.refl sf) (.bl _)⟩
      | _ => cases eq
theorem pd_any (hc : X.calm = true) (hg : Gl X "any") (hm : X.mg "any" = none) (ha : PD X a f) (he : starEach [a] X.env = (false, eval a X.env) :: starEach [] X.env := by rfl) : PD X (.Call (.Name "any" p) [a] [] pos) (xCall (on1 oAny) (aCons f aNil)) :=
  pd_callB dc_any (cr_any hc) hg hm (by decide +kernel) (pas_cons ha pas_nil he) (he := he)
theorem pd_all (hc : X.calm = true) (hg : Gl X "all") (hm : X.mg "all" = none) (ha : PD X a f) (he : starEach [a] X.env = (false, eval a X.env) :: starEach [] X.env := by rfl) : PD X (.Call (.Name "all" p) [a] [] pos) (xCall (on1 oAll) (aCons f aNil)) :=
  pd_callB dc_all (cr_all hc) hg hm (by decide +kernel) (pas_cons ha pas_nil he) (he := he)
/-- the greatest, the least of ints -/
def maxI : List Int → Int
  | [] => 0
  | [n] => n
  | n :: m :: r => max n (maxI (m :: r))
def minI : List Int → Int
  | [] => 0
  | [n] => n
  | n :: m :: r => min n (minI (m :: r))
theorem maxI_mem : ∀ {ns : List Int}, 0 < ns.length → maxI ns ∈ ns
  | [n], _ => by simp [maxI]
  | n :: m :: r, _ => by
    have h := maxI_mem (ns := m :: r) (by simp)
    simp only [maxI]
    by_cases z : maxI (m :: r) ≤ n
    · rw [Int.max_eq_left z]; exact List.mem_cons_self
    · rw [Int.max_eq_right (by omega)]; exact List.mem_cons_of_mem _ h
theorem maxI_le : ∀ {ns : List Int} {y : Int}, y ∈ ns → y ≤ maxI ns
  | [n], y, h => by simp at h; simp [maxI, h]
  | n :: m :: r, y, h => by
    simp only [maxI]
    rcases List.mem_cons.mp h with rfl | h
    · exact Int.le_max_left _ _
    · exact Int.le_trans (maxI_le h) (Int.le_max_right _ _)
theorem minI_mem : ∀ {ns : List Int}, 0 < ns.length → minI ns ∈ ns
  | [n], _ => by simp [minI]
  | n :: m :: r, _ => by
    have h := minI_mem (ns := m :: r) (by simp)
    simp only [minI]
    by_cases z : n ≤ minI (m :: r)
    · rw [Int.min_eq_left z]; exact List.mem_cons_self
    · rw [Int.min_eq_right (by omega)]; exact List.mem_cons_of_mem _ h
theorem minI_le : ∀ {ns : List Int} {y : Int}, y ∈ ns → minI ns ≤ y
  | [n], y, h => by simp at h; simp [minI, h]
  | n :: m :: r, y, h => by
    simp only [minI]
    rcases List.mem_cons.mp h with rfl | h
    · exact Int.min_le_left _ _
    · exact Int.le_trans (Int.min_le_right _ _) (minI_le h)
@[simp] def oMax : D → Option D
  | .list xs => (intsOf xs).bind fun ns => if 0 < ns.length then some (.int (maxI ns)) else none
  | _ => none
@[simp] def oMin : D → Option D
  | .list xs => (intsOf xs).bind fun ns => if 0 < ns.length then some (.int (minI ns)) else none
  | _ => none
theorem dc_max {K : Fg} : DCall K (rMax K) (on1 oMax) := fun F H xs ds c Q sf da eq k => by
  match ds, eq with
  | [d], eq =>
    cases da with
    | cons d1 d2 =>
      cases d2
      cases d1 with
      | lst hs hv =>
        obtain ⟨bs, e1, e2⟩ := Option.bind_eq_some_iff.mp eq
        split at e2
        · rename_i hl
          cases e2
          cases intsOf_map e1
          rw [DpAll.toInts hv] at hs
          refine ⟨_, bs, rfl, sf.seq hs, hl, fun m hm hle => ?_⟩
          have : m = maxI bs := Int.le_antisymm (maxI_le hm) (hle _ (maxI_mem hl))
          rw [this]
          exact k _ F H (Gr.refl sf) (.int _)
        · cases e2
      | _ => cases eq
theorem dc_min {K : Fg} : DCall K (rMin K) (on1 oMin) := fun F H xs ds c Q sf da eq k => by
  match ds, eq with
  | [d], eq =>
    cases da with
    | cons d1 d2 =>
      cases d2
      cases d1 with
      | lst hs hv =>
        obtain ⟨bs, e1, e2⟩ := Option.bind_eq_some_iff.mp eq
        split at e2
        · rename_i hl
          cases e2
          cases intsOf_map e1
          rw [DpAll.toInts hv] at hs
          refine ⟨_, bs, rfl, sf.seq hs, hl, fun m hm hle => ?_⟩
          have : m = minI bs := Int.le_antisymm (hle _ (minI_mem hl)) (minI_le hm)
          rw [this]
          exact k _ F H (Gr.refl sf) (.int _)
        · cases e2
      | _ => cases eq
theorem pd_max (hc : X.calm = true) (hg : Gl X "max") (hm : X.mg "max" = none) (ha : PD X a f) (he : starEach [a] X.env = (false, eval a X.env) :: starEach [] X.env := by rfl) : PD X (.Call (.Name "max" p) [a] [] pos) (xCall (on1 oMax) (aCons f aNil)) :=
  pd_callB dc_max (cr_max hc) hg hm (by decide +kernel) (pas_cons ha pas_nil he) (he := he)
theorem pd_min (hc : X.calm = true) (hg : Gl X "min") (hm : X.mg "min" = none) (ha : PD X a f) (he : starEach [a] X.env = (false, eval a X.env) :: starEach [] X.env := by rfl) : PD X (.Call (.Name "min" p) [a] [] pos) (xCall (on1 oMin) (aCons f aNil)) :=
  pd_callB dc_min (cr_min hc) hg hm (by decide +kernel) (pas_cons ha pas_nil he) (he := he)
/-- list(xs) -/
theorem lc_listOf {K : Fg} : LCall K (fun xs H Q => ∃ p ys, xs = [V.ref p] ∧ (SqL K H p ys ∨ SqT K H p ys) ∧ ∀ l, H l = none → Q (.ref l) (upd H l (.lst ys))) (on1 seqOf) := fun F H xs ds c Q sf da eq k => by
  match ds, eq with
  | [d], eq =>
    cases da with
    | cons d1 d2 =>
      cases d2
      cases d1 with
      | lst hs hv => cases eq; exact ⟨_, _, rfl, .inl (sf.seq hs), fun l hl => k l _ F _ (Gr.hid sf hl) (sf.free hl) hl upd_same hv⟩
      | tup hs hv => cases eq; exact ⟨_, _, rfl, .inr (Same.seqT sf hs), fun l hl => k l _ F _ (Gr.hid sf hl) (sf.free hl) hl upd_same hv⟩
      | _ => cases eq
theorem pl_listOf (hg : Gl X "list") (hm : X.mg "list" = none) (ha : PD X a f) (he : starEach [a] X.env = (false, eval a X.env) :: starEach [] X.env := by rfl) : PL X (.Call (.Name "list" p) [a] [] pos) (xCall (on1 seqOf) (aCons f aNil)) :=
  pl_callTy lc_listOf call_list_of hg hm (by decide +kernel) (pas_cons ha pas_nil he) (he := he)

/-! ### isinstance(x, T), T built in -/
@[simp] def kindOf : D → Option String
  | .none => some "NoneType"
  | .bool _ => some "bool"
  | .int _ => some "int"
  | .str _ => some "str"
  | .list _ => some "list"
  | .tuple _ => some "tuple"
  | .dict _ => none
@[simp] def isiT (t T : String) : Bool := t == T || (t == "bool" && T == "int")
@[simp] def knownT (T : String) : Bool := T == "int" || T == "bool" || T == "list" || T == "tuple" || T == "str"
@[simp] def oIsi (T : String) : D → Option D := fun d => if knownT T then (kindOf d).map fun t => .bool (isiT t T) else none
theorem kit_known {K : Fg} {t T : String} (ht : t ∈ ["NoneType", "bool", "int", "str", "list", "tuple"]) (hT : knownT T = true) : PySem.W.kitOne K (.type t) (.type T) = some (isiT t T) := by
  have hT' : T ∈ ["int", "bool", "list", "tuple", "str"] := by
    simp only [knownT, Bool.or_eq_true, beq_iff_eq] at hT
    rcases hT with (((h | h) | h) | h) | h <;> subst h <;> simp
  have key : ∀ t ∈ ["NoneType", "bool", "int", "str", "list", "tuple"], ∀ T ∈ ["int", "bool", "list", "tuple", "str"],
      (if (Value.type t == Value.type T) = true then some true else if PySem.W.kitMeta T = true then (fastBuiltinMro t).map (·.contains (.type T)) else none) = some (isiT t T) := by decide +kernel
  exact key t ht T hT'
def rIsi (K : Fg) (T : String) : List V → Hp → VK → Prop := fun xs H Q => ∃ (F : Hp) (v : V) (d c : D), xs = [v, .ty T] ∧ Same F H ∧ Dp K F v d ∧ oIsi T d = some c ∧ ∀ u, Dp K F u c → Q u H
theorem cr_isi {T : String} : CallR X (.builtin "isinstance") (rIsi X.K T) := by
  intro pins s σ H xs us Q I r hw
  obtain ⟨F, v, d, c, rfl, sf, dv, e, k⟩ := hw
  obtain ⟨u, u2, rfl, r1, r2⟩ := r.two
  cases r2
  unfold oIsi at e
  split at e
  · rename_i hT
    have fin : ∀ (t : String) (tk : Nat), kindOf d = some t → EP X pins σ Q (.bool (isiT t T)) { s with toks := tk } := fun t tk e' => by
      rw [e'] at e
      cases e
      exact ⟨.bl _, H, I.tok _, rfl, k _ (.bl _)⟩
    cases dv with
    | non => cases r1; exact PySem.W.kia_one PySem.W.kitx_none I.kIn trivial (kit_known (by simp) hT) (by intro z; cases z) fun tk => fin _ tk rfl
    | bl b => cases r1; exact PySem.W.kia_one PySem.W.kitx_bool I.kIn trivial (kit_known (by simp) hT) (by intro z; cases z) fun tk => fin _ tk rfl
    | int b => obtain ⟨t, rfl⟩ := r1; exact PySem.W.kia_one PySem.W.kitx_int I.kIn trivial (kit_known (by simp) hT) (by intro z; cases z) fun tk => fin _ tk rfl
    | str b => obtain ⟨t, rfl⟩ := r1; exact PySem.W.kia_one PySem.W.kitx_str I.kIn trivial (kit_known (by simp) hT) (by intro z; cases z) fun tk => fin _ tk rfl
    | lst hs hv =>
      cases r1
      obtain ⟨its, rv, ⟨o, n, ho, hc, _, hd⟩, _⟩ := I.list (sf.seq hs)
      exact PySem.W.kia_one PySem.W.kitx_list I.kIn ⟨o, ho, hc⟩ (kit_known (by simp) hT) (by intro z; cases z) fun tk => fin _ tk rfl
    | tup hs hv =>
      cases r1
      obtain ⟨its, rv, ⟨o, ho, hc, n, hd⟩, _⟩ := I.tuple (Same.seqT sf hs)
      exact PySem.W.kia_one PySem.W.kitx_tuple I.kIn ⟨o, ho, hc⟩ (kit_known (by simp) hT) (by intro z; cases z) fun tk => fin _ tk rfl
  · cases e
theorem pd_isi {T : String} {x : Str} {pT : Pos} (hg : Gl X "isinstance") (hm : X.mg "isinstance" = none) (hgT : Gl X x) (hmT : X.mg x = none) (hvT : bootBuiltins x = some (.type T)) (ha : PD X a f) (hnT : x ≠ "__name__" := by decide) (hdT : (x == ("__debug__" : Str)) = false := by decide)
    (he : starEach [a, .Name x pT] X.env = (false, eval a X.env) :: starEach [.Name x pT] X.env := by rfl) (he2 : starEach [.Name x pT] X.env = (false, eval (.Name x pT) X.env) :: starEach [] X.env := by rfl) (hpl : (backTo pos (starEach [.Name x pT] X.env)).any (·.1) = false := by rfl) : PD X (.Call (.Name "isinstance" p) [a, .Name x pT] [] pos) (x1 (oIsi T) f) :=
  ⟨iPE (pe_callB (cr_isi (T := T)) hg hm (by decide +kernel) (pa_cons ha.out (pa_cons (pe_bltn (v := .ty T) hgT hmT hvT rfl hnT hdT) pa_nil he2) he) (he := he) (hpl := hpl)) fun σ H Q ⟨F, ds, d, sf, ev, e, k⟩ => by
    obtain ⟨y, e1, e2⟩ := Option.bind_eq_some_iff.mp e
    exact ⟨F, ds, y, sf, ev, e1, fun v F1 H1 g1 d1 => ⟨F1, v, y, d, rfl, g1.sub, d1, e2, fun u du => k u F1 H1 g1 du⟩⟩⟩
theorem pb_call {args : List Expr} {kws : List Keyword} {fn : Expr} (ha : PD X (.Call fn args kws pos) f) : PB X (.Call fn args kws pos) (bOf f) := pb_val ha (fun _ => rfl)
theorem pb_name {x : Str} (ha : PD X (.Name x pos) f) : PB X (.Name x pos) (bOf f) := pb_val ha (fun _ => rfl)
theorem pb_sub (ha : PD X (.Subscript a b pos) f) : PB X (.Subscript a b pos) (bOf f) := pb_val ha (fun _ => rfl)

/-! ### str(x) of data -/
def oStr (d : D) : Option D := if d.showable && !d.hasDict && decide (d.depth ≤ 20) && decide (d.shown.length ≤ cap) && (seqOf d).isSome then some (.str d.shown) else none
def rStr (K : Fg) : List V → Hp → VK → Prop := fun xs H Q => ∃ (F : Hp) (v : V) (d c : D), xs = [v] ∧ Same F H ∧ Dp K F v d ∧ oStr d = some c ∧ ∀ u, Dp K F u c → Q u H
theorem cr_str {n : Nat} (hr : Room n X.A) : CallR X (.type "str") (rStr X.K) := by
  intro pins s σ H xs us Q I r hw
  obtain ⟨F, v, d, c, rfl, sf, dv, e, k⟩ := hw
  obtain ⟨u, rfl, r1⟩ := r.one
  unfold oStr at e
  split at e
  · rename_i z
    simp only [Bool.and_eq_true, decide_eq_true_eq, Bool.not_eq_true'] at z
    obtain ⟨⟨⟨⟨z1, z2⟩, z3⟩, z4⟩, z5⟩ := z
    cases e
    obtain ⟨as, rd⟩ := Dp.reads I d v u (Dp_mono sf dv) r1
    have hu : ∃ a, u = .ref a := by
      cases dv with
      | lst hs hv => cases r1; exact ⟨_, rfl⟩
      | tup hs hv => cases r1; exact ⟨_, rfl⟩
      | _ => cases z5
    obtain ⟨a, rfl⟩ := hu
    refine str_of_reads (h₀ := s.heap) rd z1 (fun z => by rw [z2] at z; cases z) hr.gd (by have := hr.un; omega) (fun _ _ q => q) (fun h' u tk hk => ?_) (Nat.le_trans z4 cap_line)
    exact ⟨.str _, H, I.kept hk, ⟨_, rfl⟩, k _ (.str _)⟩
  · cases e
theorem pd_str1 {n : Nat} (hr : Room n X.A) (hg : Gl X "str") (hm : X.mg "str" = none) (ha : PD X a f) (he : starEach [a] X.env = (false, eval a X.env) :: starEach [] X.env := by rfl) : PD X (.Call (.Name "str" p) [a] [] pos) (x1 oStr f) :=
  ⟨iPE (pe_callTy (cr_str hr) hg hm (by decide +kernel) (pa_cons ha.out pa_nil he) (he := he)) fun σ H Q ⟨F, ds, d, sf, ev, e, k⟩ => by
    obtain ⟨y, e1, e2⟩ := Option.bind_eq_some_iff.mp e
    exact ⟨F, ds, y, sf, ev, e1, fun v F1 H1 g1 d1 => ⟨F1, v, y, d, rfl, g1.sub, d1, e2, fun u du => k u F1 H1 g1 du⟩⟩⟩
end
end DL
namespace DL
open PySem PySem.Spec L2

/-! ### own defs -/
/-- what a def hands back: data, or a new list that nothing else holds -/
inductive Ret where
  | d (x : D) | l (xs : List D)
@[simp] def Ret.data : Ret → D
  | .d x => x
  | .l xs => .list xs
def RetTo (K : Fg) (F H : Hp) (Q : VK) : Ret → Prop
  | .d x => ∀ v F' H', Gr F H F' H' → Dp K F' v x → Q v H'
  | .l xs => ∀ a vs F' H', Gr F H F' H' → F' a = none → H a = none → H' a = some (.lst vs) → DpAll K F' vs xs → Q (.ref a) H'
def spR (K : Fg) (m : List D → Option Ret) : Sp := fun vs H Q _ => ∃ F ds r, Same F H ∧ DpAll K F vs ds ∧ m ds = some r ∧ RetTo K F H Q r
@[simp] def mD (m : List D → Option Ret) : List D → Option D := fun ds => (m ds).map Ret.data
@[simp] def mL (m : List D → Option Ret) : List D → Option (List D) := fun ds => (m ds).bind fun r => match r with
  | .l xs => some xs
  | .d _ => none
section
variable {X : Cx} {pos p : Pos} {e : Expr} {es : List Expr} {fs : Ev → Option (List D)} {x : Str} {k : Nat} {fa : Addr} {fd : FuncData} {ps : List Str} {m : List D → Option Ret}
/-- a def of the text as its callers need it -/
structure Fn (P : Program) (w : World) (K : Fg) (mg : Str → Option Value) (base : Heap) (x : Str) (k : Nat) (m : List D → Option Ret) : Prop where
  ex : ∃ (fa : Addr) (fd : FuncData) (ps : List Str), FnOk P w K mg base CX0 k fa fd ps (spR K m) ∧ mg x = some (.ref fa) ∧ PySem.W.keepIn K (.ref fa) = true ∧ Binds K fd ps []
theorem pd_call (F : Fn X.prog X.w X.K X.mg X.base x k m) (hr : Room k X.A) (hg : Gl X x) (ha : PAs X (e :: es) fs) (hdb : (x == ("__debug__" : Str)) = false := by decide) (he : starEach (e :: es) X.env = (false, eval e X.env) :: starEach es X.env := by rfl)
    (hpl : (backTo pos (starEach es X.env)).any (·.1) = false := by rfl) : PD X (.Call (.Name x p) (e :: es) [] pos) (xCall (mD m) fs) := by
  obtain ⟨fa, fd, ps, G, hm, hk, hb⟩ := F.ex
  refine ⟨iPE (pe_call G hr hg hm hk hb .nil pass0 ha.out hdb he hpl) fun σ H Q ⟨F, ds, d, sf, ev, e, k⟩ => ?_⟩
  obtain ⟨xs, e1, e2⟩ := Option.bind_eq_some_iff.mp e
  obtain ⟨r, e3, e4⟩ := Option.map_eq_some_iff.mp e2
  refine ⟨F, ds, xs, sf, ev, e1, fun vs F1 H1 g1 d1 => ⟨F1, xs, r, g1.sub, by rw [List.append_nil]; exact d1, e3, ?_⟩⟩
  subst e4
  cases r with
  | d x => exact fun v F2 H2 g2 d2 => k v F2 H2 (g1.trans g2) d2
  | l xs => exact fun a vs F2 H2 g2 h1 h2 h3 h4 => k _ _ _ ((g1.trans g2).show (g1.hh.free h2) h1 h3) (.lst (SqL.of upd_same) (DpAll_mono (same_upd h1) h4))
theorem pl_call (F : Fn X.prog X.w X.K X.mg X.base x k m) (hr : Room k X.A) (hg : Gl X x) (ha : PAs X (e :: es) fs) (hdb : (x == ("__debug__" : Str)) = false := by decide) (he : starEach (e :: es) X.env = (false, eval e X.env) :: starEach es X.env := by rfl)
    (hpl : (backTo pos (starEach es X.env)).any (·.1) = false := by rfl) : PL X (.Call (.Name x p) (e :: es) [] pos) (xCall (mL m) fs) := by
  obtain ⟨fa, fd, ps, G, hm, hk, hb⟩ := F.ex
  refine ⟨iPE (pe_call G hr hg hm hk hb .nil pass0 ha.out hdb he hpl) fun σ H Q ⟨F, ds, d, sf, ev, e, k⟩ => ?_⟩
  obtain ⟨xs, e1, e2⟩ := Option.bind_eq_some_iff.mp e
  obtain ⟨r, e3, e4⟩ := Option.bind_eq_some_iff.mp e2
  refine ⟨F, ds, xs, sf, ev, e1, fun vs F1 H1 g1 d1 => ⟨F1, xs, r, g1.sub, by rw [List.append_nil]; exact d1, e3, ?_⟩⟩
  cases r with
  | d x => cases e4
  | l xs => cases e4; exact fun a vs F2 H2 g2 h1 h2 h3 h4 => k a vs F2 H2 (g1.trans g2) h1 (g1.hh.free h2) h3 h4
end

/-! ### what is walked -/
/-- J hands out the data xs, one by one, while what stands still in F stands -/
def Walk (K : Fg) (J : It) (F : Hp) (xs : List D) : Prop := ∀ (i : Nat) (H : Hp), Same F H →
  (xs[i]? = none → J.stop i H) ∧ ∀ d, xs[i]? = some d → J.go i H ∧ ∀ x H', J.yld i H x H' →
    (H' = H ∧ Dp K F x d) ∨ ∃ T vs ds, x = .ref T ∧ H T = none ∧ H' = upd H T (.tup vs) ∧ DpAll K F vs ds ∧ d = .tuple ds
/-- one turn's value, as it stands behind the step -/
theorem Walk.item {K : Fg} {J : It} {F F1 H H' : Hp} {xs : List D} {i : Nat} {d : D} {x : V} (w : Walk K J F xs) (s1 : Same F F1) (sf : Same F1 H) (e : xs[i]? = some d) (y : J.yld i H x H') : ∃ F2, Gr F1 H F2 H' ∧ Dp K F2 x d := by
  obtain ⟨_, h⟩ := w i H (s1.trans sf)
  rcases (h d e).2 x H' y with ⟨rfl, dx⟩ | ⟨T, vs, ds, rfl, hT, rfl, dv, rfl⟩
  · exact ⟨F1, Gr.refl sf, Dp_mono s1 dx⟩
  · exact ⟨upd F1 T (.tup vs), Gr.lay sf hT, .tup (SqT.of upd_same) (DpAll_mono (s1.trans (same_upd (sf.free hT))) dv)⟩
structure SrcE (X : Cx) (tg iter : Expr) (src : Ev → Option (List D)) : Prop where
  out : ∃ wi, PI X tg iter wi ∧ ∀ (σ : St) (H F : Hp) (ds : Ev) (xs : List D) (R : It → Hp → Prop), Same F H → Env X.K F σ ds → src ds = some xs → (∀ J F' H', Gr F H F' H' → Walk X.K J F' xs → R J H') → wi σ H R
section
variable {X : Cx} {pos p : Pos} {tg a b : Expr} {f g : Ev → Option D}
@[simp] def sSeqOf (f : Ev → Option D) : Ev → Option (List D) := fun ds => (f ds).bind fun d => match d with
  | .list xs => some xs
  | _ => none
@[simp] def sTupOf (f : Ev → Option D) : Ev → Option (List D) := fun ds => (f ds).bind fun d => match d with
  | .tuple xs => some xs
  | _ => none
theorem walk_list {K : Fg} {F : Hp} {l : Addr} {vs : List V} {xs : List D} (h : SqL K F l vs) (d : DpAll K F vs xs) (u : ∀ H ys, Same F H → SqL K H l ys → ys = vs) : Walk K (Itl K l) F xs := fun i H sf => by
  refine ⟨fun e => ⟨vs, sf.seq h, by rw [DpAll.len d]; exact List.getElem?_eq_none_iff.mp e⟩, fun y e => ?_⟩
  obtain ⟨v, h1, h2⟩ := DpAll.get d e
  exact ⟨⟨vs, v, sf.seq h, h1⟩, fun x H' ⟨e1, e2⟩ => .inl ⟨e1, by
    have := e2 vs (sf.seq h)
    rw [h1] at this
    cases this
    exact h2⟩⟩
theorem src_list (ha : PD X a f) : SrcE X tg a (sSeqOf f) := ⟨_, pi_list ha.out, fun σ H F ds xs R sf ev e k => by
  obtain ⟨d, e1, e2⟩ := Option.bind_eq_some_iff.mp e
  refine ⟨F, ds, d, sf, ev, e1, fun v F1 H1 g1 d1 => ?_⟩
  cases d1 with
  | lst hs hv =>
    cases e2
    refine ⟨_, rfl, ⟨_, g1.sub.seq hs⟩, k _ F1 H1 g1 fun i H sf => ?_⟩
    refine ⟨fun e => ⟨_, sf.seq hs, by rw [DpAll.len hv]; exact List.getElem?_eq_none_iff.mp e⟩, fun y e => ?_⟩
    obtain ⟨v, h1, h2⟩ := DpAll.get hv e
    exact ⟨⟨_, v, sf.seq hs, h1⟩, fun x H' ⟨e1, e2⟩ => .inl ⟨e1, by
      have := e2 _ (sf.seq hs)
      rw [h1] at this
      cases this
      exact h2⟩⟩
  | _ => cases e2⟩
theorem src_tup (ha : PD X a f) : SrcE X tg a (sTupOf f) := ⟨_, pi_tup ha.out, fun σ H F ds xs R sf ev e k => by
  obtain ⟨d, e1, e2⟩ := Option.bind_eq_some_iff.mp e
  refine ⟨F, ds, d, sf, ev, e1, fun v F1 H1 g1 d1 => ?_⟩
  cases d1 with
  | tup hs hv =>
    cases e2
    refine ⟨_, rfl, ⟨_, Same.seqT g1.sub hs⟩, k _ F1 H1 g1 fun i H sf => ?_⟩
    refine ⟨fun e => ⟨_, Same.seqT sf hs, by rw [DpAll.len hv]; exact List.getElem?_eq_none_iff.mp e⟩, fun y e => ?_⟩
    obtain ⟨v, h1, h2⟩ := DpAll.get hv e
    exact ⟨⟨_, v, Same.seqT sf hs, h1⟩, fun x H' ⟨e1, e2⟩ => .inl ⟨e1, by
      have := e2 _ (Same.seqT sf hs)
      rw [h1] at this
      cases this
      exact h2⟩⟩
  | _ => cases e2⟩
def rangeD (lo : Int) (n : Nat) : List D := (List.range n).map fun i => .int (lo + (i : Nat))
theorem walk_range {K : Fg} {F : Hp} (lo : Int) (n : Nat) : Walk K (Itr lo n) F (rangeD lo n) := fun i H sf => by
  unfold rangeD
  rw [List.getElem?_map]
  by_cases h : i < n
  · rw [List.getElem?_range h]
    refine ⟨fun e => (by cases e), fun d e => ?_⟩
    cases e
    exact ⟨h, fun x H' ⟨e1, e2⟩ => .inl ⟨e1, by rw [e2]; exact .int _⟩⟩
  · rw [List.getElem?_eq_none (by simpa using h)]
    exact ⟨fun _ => (show n ≤ i by omega), fun d e => (by cases e)⟩
@[irreducible] def okI (i : Int) : Bool := decide (-(2 ^ 60) ≤ i) && decide (i < 2 ^ 60)
@[simp] theorem okI_nat {n : Nat} (h : n ≤ 1000) : okI (n : Int) = true := by
  unfold okI
  simp only [Bool.and_eq_true, decide_eq_true_eq]
  omega
theorem okI_small {n : Int} (h : -1000 ≤ n) (h' : n ≤ 1000) : okI n = true := by
  unfold okI
  simp only [Bool.and_eq_true, decide_eq_true_eq]
  omega
@[simp] def sRange1 (f : Ev → Option D) : Ev → Option (List D) := fun ds => (f ds).bind fun d => match d with
  | .int j => if okI j then some (rangeD 0 j.toNat) else none
  | _ => none
@[simp] def sRange2 (f g : Ev → Option D) : Ev → Option (List D) := fun ds => (f ds).bind fun d => (g ds).bind fun e => match d, e with
  | .int i, .int j => if okI i && okI j then some (rangeD i (j - i).toNat) else none
  | _, _ => none
theorem src_range1 (hg : Gl X "range") (hm : X.mg "range" = none) (ha : PD X a f) (he : starEach [a] X.env = [(false, eval a X.env)] := by rfl) : SrcE X tg (.Call (.Name "range" p) [a] [] pos) (sRange1 f) := ⟨_, pi_range1 hg hm (pas_cons ha pas_nil he).out he, fun σ H F ds xs R sf ev e k => by
  obtain ⟨d, e1, e2⟩ := Option.bind_eq_some_iff.mp e
  refine ⟨F, ds, [d], sf, ev, by simp only [aCons, aNil, e1, Option.bind_some, Option.map_some], fun vs F1 H1 g1 d1 => ?_⟩
  cases d1 with
  | cons d1 d2 =>
    cases d2
    cases d1 with
    | int j =>
      have e2 : (if okI j = true then some (rangeD 0 j.toNat) else none) = some xs := e2
      by_cases z : okI j = true
      · rw [if_pos z] at e2
        unfold okI at z; simp only [Bool.and_eq_true, decide_eq_true_eq] at z
        cases e2
        exact ⟨j, rfl, by omega, by omega, k _ F1 H1 g1 (walk_range 0 j.toNat)⟩
      · rw [if_neg z] at e2; cases e2
    | _ => cases e2⟩
theorem src_range2 (hg : Gl X "range") (hm : X.mg "range" = none) (ha : PD X a f) (hb : PD X b g) (he : starEach [a, b] X.env = [(false, eval a X.env), (false, eval b X.env)] := by rfl) (he2 : starEach [b] X.env = [(false, eval b X.env)] := by rfl) :
    SrcE X tg (.Call (.Name "range" p) [a, b] [] pos) (sRange2 f g) := ⟨_, pi_range2 hg hm (pas_cons ha (pas_cons hb pas_nil he2) (by rw [he, he2])).out he he2, fun σ H F ds xs R sf ev e k => by
  obtain ⟨d, e1, e2⟩ := Option.bind_eq_some_iff.mp e
  obtain ⟨d', e3, e4⟩ := Option.bind_eq_some_iff.mp e2
  refine ⟨F, ds, [d, d'], sf, ev, by simp only [aCons, aNil, e1, e3, Option.bind_some, Option.map_some], fun vs F1 H1 g1 d1 => ?_⟩
  cases d1 with
  | cons d1 d2 =>
    cases d2 with
    | cons d2 d3 =>
      cases d3
      cases d1 with
      | int i =>
        cases d2 with
        | int j =>
          have e4 : (if (okI i && okI j) = true then some (rangeD i (j - i).toNat) else none) = some xs := e4
          by_cases z : (okI i && okI j) = true
          · rw [if_pos z] at e4
            unfold okI at z; simp only [Bool.and_eq_true, decide_eq_true_eq] at z
            cases e4
            exact ⟨i, j, rfl, ⟨by omega, by omega, by omega, by omega⟩, k _ F1 H1 g1 (walk_range i (j - i).toNat)⟩
          · rw [if_neg z] at e4; cases e4
        | _ => cases e4
      | _ => cases e4⟩
def enumD (xs : List D) : List D := xs.mapIdx fun i x => .tuple [.int (i : Nat), x]
@[simp] def sEnum (f : Ev → Option D) : Ev → Option (List D) := fun ds => (f ds).bind fun d => match d with
  | .list xs => some (enumD xs)
  | _ => none
theorem src_enum {elts : List Expr} {kk : Nat} {tpos : Pos} (hg : Gl X "enumerate") (hm : X.mg "enumerate" = none) (ha : PD X a f) (he : starEach [a] X.env = [(false, eval a X.env)] := by rfl) : SrcE X (.Tuple elts kk tpos) (.Call (.Name "enumerate" p) [a] [] pos) (sEnum f) := ⟨_, pi_enum hg hm (pas_cons ha pas_nil he).out he, fun σ H F ds xs R sf ev e k => by
  obtain ⟨d, e1, e2⟩ := Option.bind_eq_some_iff.mp e
  refine ⟨F, ds, [d], sf, ev, by simp only [aCons, aNil, e1, Option.bind_some, Option.map_some], fun vs F1 H1 g1 d1 => ?_⟩
  cases d1 with
  | cons d1 d2 =>
    cases d2
    cases d1 with
    | lst hs hv =>
      cases e2
      refine ⟨_, _, rfl, g1.sub.seq hs, k _ F1 H1 g1 fun i H sf => ?_⟩
      unfold enumD
      rw [List.getElem?_mapIdx]
      refine ⟨fun e => ⟨_, sf.seq hs, by rw [DpAll.len hv]; simpa using e⟩, fun y e => ?_⟩
      obtain ⟨y', e3, rfl⟩ := Option.map_eq_some_iff.mp e
      obtain ⟨v, h1, h2⟩ := DpAll.get hv e3
      refine ⟨⟨_, v, sf.seq hs, h1⟩, fun x H' ⟨T, w, e4, e5, e6, e7⟩ => .inr ⟨T, _, _, e4, e5, e6, .cons (.int _) (.cons ?_ .nil), rfl⟩⟩
      have := e7 _ (sf.seq hs)
      rw [h1] at this
      cases this
      exact h2
    | _ => cases e2⟩
def zipD (xs ys : List D) : List D := (xs.zip ys).map fun q => .tuple [q.1, q.2]
@[simp] def sZip (f g : Ev → Option D) : Ev → Option (List D) := fun ds => (f ds).bind fun d => (g ds).bind fun e => match d, e with
  | .list xs, .list ys => some (zipD xs ys)
  | _, _ => none
theorem src_zip {elts : List Expr} {kk : Nat} {tpos : Pos} (hg : Gl X "zip") (hm : X.mg "zip" = none) (ha : PD X a f) (hb : PD X b g) (he : starEach [a, b] X.env = (false, eval a X.env) :: starEach [b] X.env := by rfl) (he2 : starEach [b] X.env = [(false, eval b X.env)] := by rfl)
    (hpl : (backTo pos (starEach [b] X.env)).any (·.1) = false := by rfl) : SrcE X (.Tuple elts kk tpos) (.Call (.Name "zip" p) [a, b] [] pos) (sZip f g) := ⟨_, pi_zip hg hm (pas_cons ha (pas_cons hb pas_nil he2) he).out he hpl, fun σ H F ds xs R sf ev e k => by
  obtain ⟨d, e1, e2⟩ := Option.bind_eq_some_iff.mp e
  obtain ⟨d', e3, e4⟩ := Option.bind_eq_some_iff.mp e2
  refine ⟨F, ds, [d, d'], sf, ev, by simp only [aCons, aNil, e1, e3, Option.bind_some, Option.map_some], fun vs F1 H1 g1 d1 => ?_⟩
  cases d1 with
  | cons d1 d2 =>
    cases d2 with
    | cons d2 d3 =>
      cases d3
      cases d1 with
      | lst hs hv =>
        cases d2 with
        | lst hs' hv' =>
          cases e4
          refine ⟨_, _, _, _, rfl, g1.sub.seq hs, g1.sub.seq hs', k _ F1 H1 g1 fun i H sf => ?_⟩
          unfold zipD
          rw [List.getElem?_map]
          refine ⟨fun e => ⟨_, _, sf.seq hs, sf.seq hs', ?_⟩, fun y e => ?_⟩
          · rw [DpAll.len hv, DpAll.len hv']
            have e' := Option.map_eq_none_iff.mp e
            have e'' := List.getElem?_eq_none_iff.mp e'
            rw [List.length_zip] at e''
            omega
          · obtain ⟨⟨q1, q2⟩, e3, rfl⟩ := Option.map_eq_some_iff.mp e
            have e3' := List.getElem?_zip_eq_some.mp e3
            obtain ⟨v, h1, h2⟩ := DpAll.get hv e3'.1
            obtain ⟨v', h1', h2'⟩ := DpAll.get hv' e3'.2
            refine ⟨⟨_, _, v, v', sf.seq hs, sf.seq hs', h1, h1'⟩, fun x H' ⟨T, w, w', e4, e5, e6, e7, e8⟩ => .inr ⟨T, _, _, e4, e5, e6, .cons ?_ (.cons ?_ .nil), rfl⟩⟩
            · have := e7 _ (sf.seq hs)
              rw [h1] at this
              cases this
              exact h2
            · have := e8 _ (sf.seq hs')
              rw [h1'] at this
              cases this
              exact h2'
        | _ => cases e4
      | _ => cases e4⟩
end
end DL
namespace DL
open PySem PySem.Spec L2

/-! ### targets -/
/-- a name; two names in a pair -/
inductive Tg where
  | one (i : Nat) | two (i j : Nat)
def Tg.g (K : Fg) : Tg → TG
  | .one i => gName i
  | .two i j => gTup K 2 (gCons (gName i) (gCons (gName j) gNil))
@[simp] def Tg.slots : Tg → List Nat
  | .one i => [i]
  | .two i j => [i, j]
@[simp] def pairOf : D → Option (D × D)
  | .tuple xs => match xs with
    | [a, b] => some (a, b)
    | _ => none
  | _ => none
@[simp] def Tg.put (t : Tg) (d : D) (ds : Ev) : Option Ev := match t with
  | .one i => some (ds.set i (some d))
  | .two i j => (pairOf d).bind fun q => some ((ds.set i (some q.1)).set j (some q.2))
theorem pairOf_eq {d a b : D} (e : pairOf d = some (a, b)) : d = .tuple [a, b] := by
  unfold pairOf at e
  split at e
  · split at e
    · cases e; rfl
    · cases e
  · cases e
theorem Env.set {K : Fg} {F : Hp} {σ : St} {ds : Ev} {i : Nat} {v : V} {d : D} (e : Env K F σ ds) (h : Dp K F v d) : Env K F (σ.set i (some v)) (ds.set i (some d)) := ⟨fun j x q => by
  by_cases z : i = j
  · subst z
    by_cases hl : i < ds.length
    · rw [List.getElem?_set_self hl] at q
      cases q
      exact ⟨v, List.getElem?_set_self (by rw [← e.len]; exact hl), h⟩
    · rw [List.getElem?_eq_none (by simpa using hl)] at q; cases q
  · rw [List.getElem?_set_ne z] at q ⊢
    exact e.get j x q, by rw [List.length_set, List.length_set]; exact e.len⟩
@[simp] def wipeE (ds : Ev) : List Nat → Ev
  | [] => ds
  | v :: vs => (wipeE ds vs).set v none
theorem wipeE_len (ds : Ev) : ∀ vs, (wipeE ds vs).length = ds.length
  | [] => rfl
  | v :: vs => by unfold wipeE; rw [List.length_set, wipeE_len ds vs]
theorem Env.unset {K : Fg} {F : Hp} {σ : St} {ds : Ev} {i : Nat} (e : Env K F σ ds) : Env K F (σ.set i none) (ds.set i none) := ⟨fun j x q => by
  by_cases z : i = j
  · subst z
    by_cases hl : i < ds.length
    · rw [List.getElem?_set_self hl] at q; cases q
    · rw [List.getElem?_eq_none (by simpa using hl)] at q; cases q
  · rw [List.getElem?_set_ne z] at q ⊢
    exact e.get j x q, by rw [List.length_set, List.length_set]; exact e.len⟩
theorem Env.wipe {K : Fg} {F : Hp} {σ : St} {ds : Ev} (e : Env K F σ ds) : ∀ vs, Env K F (wipe σ vs) (wipeE ds vs)
  | [] => e
  | v :: vs => by
    unfold L2.wipe wipeE
    exact (Env.wipe e vs).unset
theorem wipe_get (σ : St) (k : Nat) : ∀ vs : List Nat, (wipe σ vs)[k]? = if k ∈ vs then (if k < σ.length then some none else none) else σ[k]?
  | [] => by simp [wipe]
  | v :: vs => by
    have ih := wipe_get σ k vs
    unfold wipe
    by_cases z : v = k
    · subst z
      by_cases hl : v < σ.length
      · rw [List.getElem?_set_self (by rw [wipe_length]; exact hl)]
        simp [hl]
      · rw [List.getElem?_eq_none (by rw [List.length_set, wipe_length]; omega)]
        simp [hl]
    · rw [List.getElem?_set_ne z, ih]
      have : (k ∈ v :: vs) ↔ k ∈ vs := by
        rw [List.mem_cons]
        exact ⟨fun q => q.resolve_left fun e => z e.symm, .inr⟩
      simp only [this]
theorem wipe_set {σ τ : St} {vs : List Nat} {i : Nat} {x : Option V} (hi : i ∈ vs) (h : wipe τ vs = wipe σ vs) : wipe (τ.set i x) vs = wipe σ vs := by
  rw [← h]
  apply List.ext_getElem?
  intro k
  rw [wipe_get, wipe_get, List.length_set]
  by_cases z : k ∈ vs
  · rw [if_pos z, if_pos z]
  · rw [if_neg z, if_neg z, List.getElem?_set_ne (fun e => (by subst e; exact z hi))]
theorem wipe_wipe {σ : St} {vs : List Nat} : wipe (wipe σ vs) vs = wipe σ vs := by
  apply List.ext_getElem?
  intro k
  rw [wipe_get, wipe_get, wipe_length]
  by_cases z : k ∈ vs
  · rw [if_pos z, if_pos z]
  · rw [if_neg z, if_neg z]
theorem Tg.ok {K : Fg} {F H : Hp} {σ τ : St} {vs : List Nat} {ds ds' : Ev} {x : V} {d : D} {Q : St → Hp → Prop} {t : Tg} (hw : ∀ i ∈ t.slots, i ∈ vs) (h0 : L2.wipe σ vs = τ) (sf : Same F H) (ev : Env K F σ ds) (dx : Dp K F x d) (e : t.put d ds = some ds')
    (k : ∀ σ', L2.wipe σ' vs = τ → Env K F σ' ds' → Q σ' H) : t.g K x σ H Q := by
  cases t with
  | one i =>
    have e : some (ds.set i (some d)) = some ds' := e
    rw [← Option.some.inj e] at k
    exact k _ (by rw [← h0]; exact wipe_set (hw i (by simp [Tg.slots])) rfl) (ev.set dx)
  | two i j =>
    obtain ⟨⟨a, b⟩, e1, e2⟩ := Option.bind_eq_some_iff.mp e
    cases pairOf_eq e1
    rw [← Option.some.inj e2] at k
    cases dx with
    | tup hs hv =>
      cases hv with
      | cons h1 hv =>
        cases hv with
        | cons h2 hv =>
          cases hv
          refine ⟨_, _, rfl, Same.seqT sf hs, rfl, _, _, rfl, _, _, rfl, rfl, ?_⟩
          exact k _ (by rw [← h0]; exact wipe_set (hw j (by simp [Tg.slots])) (wipe_set (hw i (by simp [Tg.slots])) rfl)) ((ev.set h1).set h2)

/-! ### [e for t in s if c] -/
def compL (t : Tg) (c : Ev → Option Bool) (f : Ev → Option D) (ds : Ev) : List D → Option (List D)
  | [] => some []
  | x :: xs => (t.put x ds).bind fun ds' => (c ds').bind fun b => if b then (f ds').bind fun y => (compL t c f ds xs).map (y :: ·) else compL t c f ds xs
@[simp] def lComp (src : Ev → Option (List D)) (t : Tg) (c : Ev → Option Bool) (f : Ev → Option D) : Ev → Option (List D) := fun ds => (src ds).bind fun xs => if xs.length ≤ cap then compL t c f (wipeE ds t.slots) xs else none
structure PTe (X : Cx) (ifs : List Expr) (c : Ev → Option Bool) : Prop where
  out : PTs X ifs (tBo X.K c)
@[simp] def bYes : Ev → Option Bool := fun _ => some true
theorem iPTs {X : Cx} {e : List Expr} {t t' : TT} (h : PTs X e t) (i : ∀ σ H Q, t' σ H Q → t σ H Q) : PTs X e t' := fun pins s σ H Q I q => h pins s σ H Q I (i σ H Q q)
theorem pte_nil {X : Cx} : PTe X [] bYes := ⟨iPTs pts_nil fun σ H Q ⟨F, ds, b, sf, ev, e, k⟩ => by cases e; exact k F H (Gr.refl sf)⟩
theorem pte_one {X : Cx} {c : Expr} {f : Ev → Option Bool} (h : PB X c f) : PTe X [c] f := ⟨pts_one h.out⟩
structure PTg (X : Cx) (tg : Expr) (t : Tg) : Prop where
  out : PG X tg (t.g X.K)
theorem ptg_one {X : Cx} {pos : Pos} (i : Nat) {x : Str} (hN : X.N.Nodup) (hi : X.N[i]? = some x := by rfl) (hx : Loc X.env.scope x := by first | exact Or.inl rfl | exact Or.inr rfl) (hf : X.fn x = true ∨ X.env.scope.names.lookup x = some .local := by first | exact .inl rfl | exact .inr rfl) : PTg X (.Name x pos) (.one i) := ⟨pg_name hN hi hx hf⟩
theorem ptg_two {X : Cx} {pos p1 p2 : Pos} {kk : Nat} (i j : Nat) {x y : Str} (hc : X.calm = true) (hN : X.N.Nodup) (hi : X.N[i]? = some x := by rfl) (hj : X.N[j]? = some y := by rfl) (hx : Loc X.env.scope x := by first | exact Or.inl rfl | exact Or.inr rfl) (hy : Loc X.env.scope y := by first | exact Or.inl rfl | exact Or.inr rfl)
    (hf : X.fn x = true ∨ X.env.scope.names.lookup x = some .local := by first | exact .inl rfl | exact .inr rfl) (hf' : X.fn y = true ∨ X.env.scope.names.lookup y = some .local := by first | exact .inl rfl | exact .inr rfl) : PTg X (.Tuple [.Name x p1, .Name y p2] kk pos) (.two i j) :=
  ⟨pg_tup hc (pgs_cons (pg_name hN hi hx hf) (pgs_cons (pg_name hN hj hy hf') pgs_nil))⟩
/-- what a comprehension's turns come to -/
structure CompSt (K : Fg) (F H F1 : Hp) (D0 : Addr) (t : Tg) (c : Ev → Option Bool) (f : Ev → Option D) (ds : Ev) (xs out : List D) (i : Nat) (H' : Hp) : Prop where
  ex : ∃ F' acc done rest, Gr F H F' H' ∧ Same F1 F' ∧ F' D0 = none ∧ H' D0 = some (.lst acc) ∧ DpAll K F' acc done ∧ done.length ≤ i ∧ compL t c f ds (xs.drop i) = some rest ∧ done ++ rest = out
theorem lc_read {K : Fg} {src : Ev → Option (List D)} {t : Tg} {c : Ev → Option Bool} {f : Ev → Option D} {wi : TI}
    (hwi : ∀ (σ : St) (H F : Hp) (ds : Ev) (xs : List D) (R : It → Hp → Prop), Same F H → Env K F σ ds → src ds = some xs → (∀ J F' H', Gr F H F' H' → Walk K J F' xs → R J H') → wi σ H R) :
    ∀ σ H Q, tL K (lComp src t c f) σ H Q → tLc wi (t.g K) (tBo K c) (tD K f) t.slots σ H Q := by
  intro σ H Q ⟨F, ds, out, sf, ev, e, k⟩
  obtain ⟨xs, e1, e2⟩ := Option.bind_eq_some_iff.mp e
  split at e2
  case isFalse => cases e2
  case isTrue hcap =>
  refine hwi σ H F ds xs _ sf ev e1 fun J F1 H1 g1 wk D0 hD => ?_
  have hD0 : H D0 = none := g1.hh.free hD
  have fD0 : F1 D0 = none := g1.sub.free hD
  refine ⟨fun i m H' => m = xs.length - i ∧ i ≤ xs.length ∧ CompSt K F H F1 D0 t c f (wipeE ds t.slots) xs out i H', ⟨xs.length, by simp, Nat.zero_le _, ⟨F1, [], [], out, g1.trans (Gr.hid g1.sub hD), Same.refl _, fD0, upd_same, .nil, Nat.le_refl _, by simpa using e2, rfl⟩⟩, ?_⟩
  rintro i m H2 ⟨rfl, hi, ⟨F2, acc, done, rest, g2, s12, n2, hacc, dacc, hdl, er, eo⟩⟩
  by_cases hlt : i < xs.length
  · obtain ⟨_, wh⟩ := wk i H2 (s12.trans g2.sub)
    have ei : xs[i]? = some xs[i] := by simp [hlt]
    have edrop : xs.drop i = xs[i] :: xs.drop (i + 1) := (List.drop_eq_getElem_cons hlt)
    rw [edrop] at er
    unfold compL at er
    obtain ⟨ds', er1, er⟩ := Option.bind_eq_some_iff.mp er
    obtain ⟨b, er2, er⟩ := Option.bind_eq_some_iff.mp er
    refine .inr ⟨(wh _ ei).1, fun H' => CompSt K F H F1 D0 t c f (wipeE ds t.slots) xs out (i + 1) H', fun H' q => ⟨xs.length - (i + 1), by omega, rfl, hlt, q⟩, fun x H3 y => ?_⟩
    obtain ⟨F3, g3, dx⟩ := wk.item s12 g2.sub ei y
    have keep : ∀ {Fa Ha Fb Hb : Hp}, Gr Fa Ha Fb Hb → Fa D0 = none → Ha D0 = some (.lst acc) → Fb D0 = none ∧ Hb D0 = some (.lst acc) := fun {Fa Ha Fb Hb} g h1 h2 => by
      refine ⟨?_, g.hh _ _ h2⟩
      cases q : Fb D0 with
      | none => rfl
      | some o =>
        rcases g.new _ _ q with z | z
        · rw [h1] at z; cases z
        · rw [h2] at z; cases z
    obtain ⟨n3, a3⟩ := keep g3 n2 hacc
    have ev3 : Env K F3 (L2.wipe σ t.slots) (wipeE ds t.slots) := (ev.wipe t.slots).mono (g2.ff.trans g3.ff)
    refine Tg.ok (vs := t.slots) (fun _ h => h) wipe_wipe g3.sub ev3 dx er1 fun σ3 hw3 ev4 => ⟨hw3, F3, ds', b, g3.sub, ev4, er2, fun F4 H4 g4 => ?_⟩
    obtain ⟨n4, a4⟩ := keep g4 n3 a3
    have g24 := (g2.trans g3).trans g4
    cases b with
    | true =>
      obtain ⟨y', er3, er⟩ := Option.bind_eq_some_iff.mp er
      obtain ⟨rest', er4, er5⟩ := Option.map_eq_some_iff.mp er
      refine iteT ⟨F4, ds', y', g4.sub, ev4.mono g4.ff, er3, fun v F5 H5 g5 d5 => ?_⟩
      obtain ⟨n5, a5⟩ := keep g5 n4 a4
      have g25 := g24.trans g5
      have s25 : Same F2 F5 := g3.ff.trans (g4.ff.trans g5.ff)
      refine ⟨acc, a5, ?_, ⟨F5, acc ++ [v], done ++ [y'], rest', ⟨g25.ff, fun b o q => ?_, fun b o q => ?_, g25.new⟩, s12.trans s25, n5, upd_same, DpAll.app (DpAll_mono s25 dacc) (.cons d5 .nil), ?_, er4, ?_⟩⟩
      · rw [DpAll.len dacc]
        have : cap < sizeLine := cap_lt
        omega
      · rw [upd_ne (ne_of_none q hD0)]; exact g25.hh b o q
      · rw [upd_ne (fun z => by subst z; rw [n5] at q; cases q)]; exact g25.sub b o q
      · rw [List.length_append, List.length_singleton]; omega
      · rw [← eo, ← er5, List.append_assoc]; rfl
    | false =>
      exact iteF ⟨F4, acc, done, rest, g24, s12.trans (g3.ff.trans g4.ff), n4, a4, DpAll_mono (g3.ff.trans g4.ff) dacc, Nat.le_succ_of_le hdl, er, eo⟩
  · have e : i = xs.length := by omega
    subst e
    obtain ⟨wh, _⟩ := wk xs.length H2 (s12.trans g2.sub)
    rw [List.drop_length] at er
    cases er
    rw [List.append_nil] at eo
    subst eo
    exact .inl ⟨wh (by simp), k D0 acc F2 H2 g2 n2 hD0 hacc dacc⟩
section
variable {X : Cx} {elt tg iter : Expr} {ifs : List Expr} {scope : Scope} {own : List (Str × Nat)} {pos : Pos} {src : Ev → Option (List D)} {t : Tg} {c : Ev → Option Bool} {f : Ev → Option D}
theorem pl_lc (own : List (Str × Nat)) (ho : own.map (·.2) = t.slots) (hc : X.calm = true) (hN : X.N.Nodup) (hi : SrcE X tg iter src) (ok : BlkOk X.N X.env.scope scope own)
    (hg : ∀ (s : Shared) (H : Hp) (C : Addr) (cl : List (Str × Addr)) (fp : List Addr), PTg (X.blk s H scope (compEnvC scope cl C X.env) fp) tg t) (ht : ∀ (s : Shared) (H : Hp) (C : Addr) (cl : List (Str × Addr)) (fp : List Addr), PTe (X.blk s H scope (compEnvC scope cl C X.env) fp) ifs c)
    (he : ∀ (s : Shared) (H : Hp) (C : Addr) (cl : List (Str × Addr)) (fp : List Addr), PD (X.blk s H scope (compEnvC scope cl C X.env) fp) elt f) (hs : ∀ x, foldedSetIterable iter X.env x = pure x := by intro _; rfl) :
    PL X (.ListComp elt [⟨tg, iter, ifs, 0⟩] scope pos) (lComp src t c f) := by
  obtain ⟨wi, h1, h2⟩ := hi.out
  have := pe_lc (pos := pos) (g := t.g X.K) (tt := tBo X.K c) (te := tD X.K f) hc hN h1 ok (fun s H C cl fp => (hg s H C cl fp).out) (fun s H C cl fp => (ht s H C cl fp).out) (fun s H C cl fp => (he s H C cl fp).out) hs
  rw [ho] at this
  exact ⟨iPE this (lc_read h2)⟩
end
end DL
namespace DL
open PySem PySem.Spec L2

/-! ### statements: the slots, each with whether its list is the frame's own -/
abbrev Sl := List (Option (Bool × D))
@[simp] def evs (sl : Sl) : Ev := sl.map fun o => o.map (·.2)
/-- which lists stand still from now on -/
@[simp] def frz (p : Nat → Bool) (sl : Sl) : Sl := sl.mapIdx fun j o => o.map fun q => (q.1 && !p j, q.2)
@[simp] def dem (sl : Sl) : Sl := sl.map fun o => o.map fun q => (false, q.2)
/-- what may be spoken of while those of p stand still -/
@[simp] def vis (p : Nat → Bool) (sl : Sl) : Ev := sl.mapIdx fun j o => o.bind fun q => if q.1 && !p j then none else some q.2
@[simp] def all1 : Nat → Bool := fun _ => true
@[simp] def but (i : Nat) : Nat → Bool := fun j => j != i
@[simp] def only (i : Nat) : Nat → Bool := fun j => j == i
@[simp] def among (is : List Nat) : Nat → Bool := fun j => is.contains j

structure Stt (K : Fg) (F0 H0 F H : Hp) (σ : St) (sl : Sl) : Prop where
  f0 : Same F0 F
  h0 : Same H0 H
  sub : Same F H
  new : ∀ b o, F b = some o → F0 b = some o ∨ H0 b = none
  len : sl.length = σ.length
  sh : ∀ (i : Nat) (d : D), sl[i]? = some (some (false, d)) → ∃ v, σ[i]? = some (some v) ∧ Dp K F v d
  ow : ∀ (i : Nat) (d : D), sl[i]? = some (some (true, d)) → ∃ a vs ds, d = .list ds ∧ σ[i]? = some (some (.ref a)) ∧ H0 a = none ∧ F a = none ∧ H a = some (.lst vs) ∧ DpAll K F vs ds
  ap : ∀ (i j : Nat) (d e : D) (a : Addr), i ≠ j → sl[i]? = some (some (true, d)) → sl[j]? = some (some (true, e)) → σ[i]? = some (some (.ref a)) → σ[j]? ≠ some (some (.ref a))
section
variable {K : Fg} {F0 H0 F H F' H' : Hp} {σ : St} {sl : Sl}
theorem frz_some {p : Nat → Bool} {i : Nat} {b : Bool} {d : D} (e : (frz p sl)[i]? = some (some (b, d))) : ∃ c, sl[i]? = some (some (c, d)) ∧ b = (c && !p i) := by
  unfold frz at e
  rw [List.getElem?_mapIdx] at e
  obtain ⟨o, e1, e2⟩ := Option.map_eq_some_iff.mp e
  obtain ⟨q, e3, e4⟩ := Option.map_eq_some_iff.mp e2
  obtain ⟨c, d'⟩ := q
  cases e4
  exact ⟨c, by rw [e1, e3], rfl⟩
theorem and_own {c x : Bool} (e : true = (c && !x)) : c = true ∧ x = false := by
  cases c with
  | false => cases e
  | true =>
    cases x with
    | false => exact ⟨rfl, rfl⟩
    | true => cases e
theorem frz_len (p : Nat → Bool) (sl : Sl) : (frz p sl).length = sl.length := by unfold frz; rw [List.length_mapIdx]
/-- those of p stand still -/
theorem Stt.frz (s : Stt K F0 H0 F H σ sl) (p : Nat → Bool) : ∃ F1, Same F F1 ∧ Stt K F0 H0 F1 H σ (frz p sl) := by
  classical
  let hit : Addr → Prop := fun b => ∃ (i : Nat) (d : D), p i = true ∧ sl[i]? = some (some (true, d)) ∧ σ[i]? = some (some (.ref b))
  let F1 : Hp := fun b => if hit b then H b else F b
  have hT : ∀ b, hit b → F1 b = H b := fun b h => by show (if hit b then H b else F b) = H b; rw [if_pos h]
  have hN : ∀ b, ¬ hit b → F1 b = F b := fun b h => by show (if hit b then H b else F b) = F b; rw [if_neg h]
  have hF : ∀ b, hit b → F b = none ∧ H0 b = none := fun b ⟨i, d, _, e1, e2⟩ => by
    obtain ⟨a, vs, ds, _, e3, h1, h2, _⟩ := s.ow i d e1
    rw [e2] at e3
    cases e3
    exact ⟨h2, h1⟩
  have sF : Same F F1 := fun b o e => by
    by_cases h : hit b
    · rw [(hF b h).1] at e; cases e
    · rw [hN b h]; exact e
  refine ⟨F1, sF, ⟨s.f0.trans sF, s.h0, fun b o e => ?_, fun b o e => ?_, by rw [frz_len]; exact s.len, fun i d e => ?_, fun i d e => ?_, fun i j d e a hij e1 e2 e3 => ?_⟩⟩
  · by_cases h : hit b
    · rw [hT b h] at e; exact e
    · rw [hN b h] at e; exact s.sub b o e
  · by_cases h : hit b
    · exact .inr (hF b h).2
    · rw [hN b h] at e; exact s.new b o e
  · obtain ⟨c, e1, e2⟩ := frz_some e
    cases c with
    | false =>
      obtain ⟨v, h1, h2⟩ := s.sh i d e1
      exact ⟨v, h1, Dp_mono sF h2⟩
    | true =>
      have hp : p i = true := by simpa using e2
      obtain ⟨a, vs, ds, rfl, h1, h2, h3, h4, h5⟩ := s.ow i d e1
      exact ⟨_, h1, .lst (SqL.of (by rw [hT a ⟨i, _, hp, e1, h1⟩]; exact h4)) (DpAll_mono sF h5)⟩
  · obtain ⟨c, e1, e2⟩ := frz_some e
    have hc : c = true ∧ p i = false := and_own e2
    obtain ⟨rfl, hp⟩ := hc
    obtain ⟨a, vs, ds, rfl, h1, h2, h3, h4, h5⟩ := s.ow i d e1
    refine ⟨a, vs, ds, rfl, h1, h2, ?_, h4, DpAll_mono sF h5⟩
    rw [hN a]
    · exact h3
    · rintro ⟨j, d', hj, e3, e4⟩
      have : i ≠ j := by intro z; subst z; rw [hp] at hj; cases hj
      exact s.ap i j _ _ a this e1 e3 h1 e4
  · obtain ⟨c, q1, q2⟩ := frz_some e1
    obtain ⟨c', q3, q4⟩ := frz_some e2
    rw [(and_own q2).1] at q1
    rw [(and_own q4).1] at q3
    exact s.ap i j d e a hij q1 q3 e3
theorem Stt.grow (s : Stt K F0 H0 F H σ sl) (h : Same H H') : Stt K F0 H0 F H' σ sl :=
  ⟨s.f0, s.h0.trans h, s.sub.trans h, s.new, s.len, s.sh, fun i d e => by
    obtain ⟨a, vs, ds, q1, q2, q3, q4, q5, q6⟩ := s.ow i d e
    exact ⟨a, vs, ds, q1, q2, q3, q4, h _ _ q5, q6⟩, s.ap⟩
theorem Stt.gr (s : Stt K F0 H0 F H σ sl) (g : Gr F H F' H') : Stt K F0 H0 F' H' σ sl :=
  ⟨s.f0.trans g.ff, s.h0.trans g.hh, g.sub, fun b o e => (g.new b o e).elim (fun z => s.new b o z) fun z => .inr (s.h0.free z), s.len, fun i d e => by
    obtain ⟨v, h1, h2⟩ := s.sh i d e
    exact ⟨v, h1, Dp_mono g.ff h2⟩, fun i d e => by
    obtain ⟨a, vs, ds, q1, q2, q3, q4, q5, q6⟩ := s.ow i d e
    refine ⟨a, vs, ds, q1, q2, q3, ?_, g.hh _ _ q5, DpAll_mono g.ff q6⟩
    cases q : F' a with
    | none => rfl
    | some o =>
      (rcases g.new a o q with z | z
       · rw [q4] at z; cases z
       · rw [q5] at z; (cases z)), s.ap⟩
theorem Stt.gr0 (s : Stt K F0 H0 F H σ sl) : Gr F0 H0 F H := ⟨s.f0, s.h0, s.sub, s.new⟩
/-- a slot is stored, its value shared -/
theorem Stt.setS {i : Nat} {v : V} {d : D} (s : Stt K F0 H0 F H σ sl) (h : Dp K F v d) : Stt K F0 H0 F H (σ.set i (some v)) (sl.set i (some (false, d))) := by
  refine ⟨s.f0, s.h0, s.sub, s.new, by rw [List.length_set, List.length_set]; exact s.len, fun j x e => ?_, fun j x e => ?_, fun j k x y a hjk e1 e2 e3 => ?_⟩
  · by_cases z : i = j
    · subst z
      by_cases hl : i < sl.length
      · rw [List.getElem?_set_self hl] at e
        cases e
        exact ⟨v, List.getElem?_set_self (by rw [← s.len]; exact hl), h⟩
      · rw [List.getElem?_eq_none (by simpa using hl)] at e; cases e
    · rw [List.getElem?_set_ne z] at e ⊢
      exact s.sh j x e
  · by_cases z : i = j
    · subst z
      by_cases hl : i < sl.length
      · rw [List.getElem?_set_self hl] at e; cases e
      · rw [List.getElem?_eq_none (by simpa using hl)] at e; cases e
    · rw [List.getElem?_set_ne z] at e ⊢
      exact s.ow j x e
  · have nj : ∀ k y, (sl.set i (some (false, d)))[k]? = some (some (true, y)) → i ≠ k := fun k y e z => by
      subst z
      by_cases hl : i < sl.length
      · rw [List.getElem?_set_self hl] at e; cases e
      · rw [List.getElem?_eq_none (by simpa using hl)] at e; cases e
    have z1 := nj j x e1
    have z2 := nj k y e2
    rw [List.getElem?_set_ne z1] at e1 e3
    rw [List.getElem?_set_ne z2] at e2 ⊢
    exact s.ap j k x y a hjk e1 e2 e3
/-- a slot is stored, its list the frame's own -/
theorem Stt.setO {i : Nat} {a : Addr} {vs : List V} {xs : List D} (s : Stt K F0 H0 F H σ sl) (h1 : H0 a = none) (h2 : F a = none) (h3 : H a = some (.lst vs)) (h4 : DpAll K F vs xs) (h5 : ∀ (j : Nat) (d : D), j ≠ i → sl[j]? = some (some (true, d)) → σ[j]? ≠ some (some (.ref a))) :
    Stt K F0 H0 F H (σ.set i (some (.ref a))) (sl.set i (some (true, .list xs))) := by
  refine ⟨s.f0, s.h0, s.sub, s.new, by rw [List.length_set, List.length_set]; exact s.len, fun j x e => ?_, fun j x e => ?_, fun j k x y b hjk e1 e2 e3 => ?_⟩
  · by_cases z : i = j
    · subst z
      by_cases hl : i < sl.length
      · rw [List.getElem?_set_self hl] at e; cases e
      · rw [List.getElem?_eq_none (by simpa using hl)] at e; cases e
    · rw [List.getElem?_set_ne z] at e ⊢
      exact s.sh j x e
  · by_cases z : i = j
    · subst z
      by_cases hl : i < sl.length
      · rw [List.getElem?_set_self hl] at e
        cases e
        exact ⟨a, vs, xs, rfl, List.getElem?_set_self (by rw [← s.len]; exact hl), h1, h2, h3, h4⟩
      · rw [List.getElem?_eq_none (by simpa using hl)] at e; cases e
    · rw [List.getElem?_set_ne z] at e ⊢
      exact s.ow j x e
  · by_cases z1 : i = j
    · subst z1
      have z2 : i ≠ k := hjk
      rw [List.getElem?_set_ne z2] at e2 ⊢
      by_cases hl : i < σ.length
      · rw [List.getElem?_set_self hl] at e3
        cases e3
        exact h5 k y (fun z => z2 z.symm) e2
      · rw [List.getElem?_eq_none (by simpa using hl)] at e3; cases e3
    · rw [List.getElem?_set_ne z1] at e1 e3
      by_cases z2 : i = k
      · subst z2
        by_cases hl : i < σ.length
        · rw [List.getElem?_set_self hl]
          intro z
          cases z
          exact h5 j x (fun z => z1 z.symm) e1 e3
        · rw [List.getElem?_eq_none (by simpa using hl)]; simp
      · rw [List.getElem?_set_ne z2] at e2 ⊢
        exact s.ap j k x y b hjk e1 e2 e3
theorem evs_some {i : Nat} {d : D} (e : (evs sl)[i]? = some (some d)) : ∃ c, sl[i]? = some (some (c, d)) := by
  unfold evs at e
  rw [List.getElem?_map] at e
  obtain ⟨o, e1, e2⟩ := Option.map_eq_some_iff.mp e
  obtain ⟨q, e3, e4⟩ := Option.map_eq_some_iff.mp e2
  obtain ⟨c, d'⟩ := q
  cases e4
  exact ⟨c, by rw [e1, e3]⟩
theorem vis_some {p : Nat → Bool} {i : Nat} {d : D} (e : (vis p sl)[i]? = some (some d)) : ∃ c, sl[i]? = some (some (c, d)) ∧ (c && !p i) = false := by
  unfold vis at e
  rw [List.getElem?_mapIdx] at e
  obtain ⟨o, e1, e2⟩ := Option.map_eq_some_iff.mp e
  obtain ⟨q, e3, e4⟩ := Option.bind_eq_some_iff.mp e2
  obtain ⟨c, d'⟩ := q
  simp only at e4
  split at e4
  · cases e4
  · rename_i z
    cases e4
    exact ⟨c, by rw [e1, e3], by simpa using z⟩
theorem frz_get {p : Nat → Bool} {i : Nat} {c : Bool} {d : D} (e : sl[i]? = some (some (c, d))) : (frz p sl)[i]? = some (some (c && !p i, d)) := by
  unfold frz
  rw [List.getElem?_mapIdx, e]
  rfl
theorem Stt.env {p : Nat → Bool} (s : Stt K F0 H0 F H σ (DL.frz p sl)) : Env K F σ (vis p sl) := ⟨fun i d e => by
  obtain ⟨c, e1, e2⟩ := vis_some e
  exact s.sh i d (by rw [frz_get e1, e2]), by
  have := s.len
  rw [frz_len] at this
  unfold vis
  rw [List.length_mapIdx]
  exact this⟩
theorem frz_all (sl : Sl) : DL.frz all1 sl = dem sl := by
  unfold DL.frz dem all1
  apply List.ext_getElem?
  intro i
  rw [List.getElem?_mapIdx, List.getElem?_map]
  cases sl[i]? with
  | none => rfl
  | some o =>
    cases o with
    | none => rfl
    | some q => simp
theorem Stt.demo (s : Stt K F0 H0 F H σ sl) : ∃ F1, Same F F1 ∧ Stt K F0 H0 F1 H σ (dem sl) := by
  obtain ⟨F1, h1, h2⟩ := s.frz all1
  rw [frz_all] at h2
  exact ⟨F1, h1, h2⟩
theorem dem_get {i : Nat} {c : Bool} {d : D} (e : sl[i]? = some (some (c, d))) : (dem sl)[i]? = some (some (false, d)) := by
  unfold dem
  rw [List.getElem?_map, e]
  rfl
theorem Stt.envD (s : Stt K F0 H0 F H σ (dem sl)) : Env K F σ (evs sl) := ⟨fun i d e => by
  obtain ⟨c, e1⟩ := evs_some e
  exact s.sh i d (dem_get e1), by
  have := s.len
  unfold dem at this
  rw [List.length_map] at this
  unfold evs
  rw [List.length_map]
  exact this⟩
theorem dem_own {i : Nat} {d : D} (e : (dem sl)[i]? = some (some (true, d))) : False := by
  unfold dem at e
  rw [List.getElem?_map] at e
  obtain ⟨o, e1, e2⟩ := Option.map_eq_some_iff.mp e
  obtain ⟨q, e3, e4⟩ := Option.map_eq_some_iff.mp e2
  cases e4
end

/-! ### what a statement comes to -/
inductive Out where
  | nx (s : Sl) | bk (s : Sl) | ct (s : Sl) | rt (d : D) | rl (xs : List D)
def Fin (K : Fg) (F0 H0 : Hp) (E : Ends) : Out → Prop
  | .nx sl => ∀ σ F H, Stt K F0 H0 F H σ sl → E.nx σ H
  | .bk sl => ∀ σ F H, Stt K F0 H0 F H σ sl → E.bk σ H
  | .ct sl => ∀ σ F H, Stt K F0 H0 F H σ sl → E.ct σ H
  | .rt d => ∀ v F H, Gr F0 H0 F H → Dp K F v d → E.rt v H
  | .rl xs => ∀ a vs F H, Gr F0 H0 F H → F a = none → H0 a = none → H a = some (.lst vs) → DpAll K F vs xs → E.rt (.ref a) H
def tS (K : Fg) (F0 H0 : Hp) (g : Sl → Option Out) : TS := fun E σ H => ∃ F sl o, Stt K F0 H0 F H σ sl ∧ g sl = some o ∧ Fin K F0 H0 E o
/-- a statement; a block -/
structure PT1 (X : Cx) (st : Stmt) (g : Sl → Option Out) : Prop where
  out : ∀ F0 H0, PS X st (tS X.K F0 H0 g)
structure PTn (X : Cx) (st : List Stmt) (g : Sl → Option Out) : Prop where
  out : ∀ F0 H0, PSs X st (tS X.K F0 H0 g)
@[simp] def sNil : Sl → Option Out := fun sl => some (.nx sl)
@[simp] def sSeq (g h : Sl → Option Out) : Sl → Option Out := fun sl => (g sl).bind fun o => match o with
  | .nx s => h s
  | o => some o
@[simp] def sIf (c : Ev → Option Bool) (g h : Sl → Option Out) : Sl → Option Out := fun sl => (c (evs sl)).bind fun b => if b then g sl else h sl
@[simp] def sBreak : Sl → Option Out := fun sl => some (.bk sl)
@[simp] def sCont : Sl → Option Out := fun sl => some (.ct sl)
@[simp] def sNever : Sl → Option Out := fun _ => none
@[simp] def sSet (i : Nat) (f : Ev → Option D) : Sl → Option Out := fun sl => (f (evs sl)).map fun d => .nx ((if flat d then sl else dem sl).set i (some (false, d)))
@[simp] def sSetL (i : Nat) (f : Ev → Option (List D)) : Sl → Option Out := fun sl => (f (evs sl)).map fun xs => .nx ((if xs.all flat then sl else dem sl).set i (some (true, .list xs)))
@[simp] def sRet (f : Ev → Option D) : Sl → Option Out := fun sl => (f (evs sl)).map .rt
@[simp] def sRetL (f : Ev → Option (List D)) : Sl → Option Out := fun sl => (f (evs sl)).map .rl
@[simp] def sRetV (i : Nat) : Sl → Option Out := fun sl => sl[i]?.join.bind fun q => match q with
  | (true, .list xs) => some (.rl xs)
  | (true, _) => none
  | (false, d) => some (.rt d)
@[simp] def sExpr (f : Ev → Option D) : Sl → Option Out := fun sl => (f (evs sl)).bind fun d => if flat d then some (.nx sl) else none
section
variable {X : Cx} {pos : Pos} {st : Stmt} {rest : List Stmt} {g h : Sl → Option Out} {e c : Expr} {f : Ev → Option D} {K : Fg} {F0 H0 : Hp}
theorem ptn_nil : PTn X [] sNil := ⟨fun F0 H0 => iPSs pss_nil fun E σ H ⟨F, sl, o, s, e, k⟩ => by cases e; exact k σ F H s⟩
theorem fin_seq {E : Ends} {σ : St} {H : Hp} {F : Hp} {sl : Sl} {o : Out} (s : Stt K F0 H0 F H σ sl) (e : sSeq g h sl = some o) (k : Fin K F0 H0 E o) : tS K F0 H0 g { E with nx := tS K F0 H0 h E } σ H := by
  obtain ⟨o1, e1, e2⟩ := Option.bind_eq_some_iff.mp e
  refine ⟨F, sl, o1, s, e1, ?_⟩
  cases o1 with
  | nx s1 => exact fun σ' F' H' s' => ⟨F', s1, o, s', e2, k⟩
  | bk s1 => cases e2; exact k
  | ct s1 => cases e2; exact k
  | rt d => cases e2; exact k
  | rl d => cases e2; exact k
theorem ptn_cons (h1 : PT1 X st g) (h2 : PTn X rest h) : PTn X (st :: rest) (sSeq g h) := ⟨fun F0 H0 => iPSs (pss_cons (h1.out F0 H0) (h2.out F0 H0)) fun E σ H ⟨F, sl, o, s, e, k⟩ => fin_seq s e k⟩
theorem ptn_one (h1 : PT1 X st g) : PTn X [st] g := ⟨fun F0 H0 => pss_one (h1.out F0 H0)⟩
theorem pt_if' {a b : List Stmt} {p : Ev → Option Bool} (hc : PB X c p) (ha : PTn X a g) (hb : PTn X b h) : PT1 X (.If c a b pos) (sIf p g h) := ⟨fun F0 H0 => iPS (ps_if hc.out (ha.out F0 H0) (hb.out F0 H0)) fun E σ H ⟨F, sl, o, s, e, k⟩ => by
  obtain ⟨b, e1, e2⟩ := Option.bind_eq_some_iff.mp e
  obtain ⟨F1, h1, s1⟩ := s.demo
  refine ⟨F1, evs sl, b, s1.sub, s1.envD, e1, fun F2 H2 g2 => ?_⟩
  have s2 := s.grow g2.hh
  cases b with
  | true => exact iteT ⟨F, sl, o, s2, e2, k⟩
  | false => exact iteF ⟨F, sl, o, s2, e2, k⟩⟩
theorem pt_break : PT1 X (.Break pos) sBreak := ⟨fun F0 H0 => iPS ps_break fun E σ H ⟨F, sl, o, s, e, k⟩ => by cases e; exact k σ F H s⟩
theorem pt_cont : PT1 X (.Continue pos) sCont := ⟨fun F0 H0 => iPS ps_continue fun E σ H ⟨F, sl, o, s, e, k⟩ => by cases e; exact k σ F H s⟩
theorem pt_pass : PT1 X (.Pass pos) sNil := ⟨fun F0 H0 => iPS ps_pass fun E σ H ⟨F, sl, o, s, e, k⟩ => by cases e; exact k σ F H s⟩
theorem pt_never : PT1 X st sNever := ⟨fun F0 H0 => iPS ps_never fun E σ H ⟨F, sl, o, s, e, k⟩ => by cases e⟩
/-- the value of an expression, then a store at slot i -/
theorem set_read {i : Nat} {E : Ends} {σ : St} {H : Hp} (q : tS K F0 H0 (sSet i f) E σ H) : tAsg (tD K f) (gName i) E σ H := by
  obtain ⟨F, sl, o, s, e, k⟩ := q
  obtain ⟨d, e1, rfl⟩ := Option.map_eq_some_iff.mp e
  obtain ⟨F1, h1, s1⟩ := s.demo
  refine ⟨F1, evs sl, d, s1.sub, s1.envD, e1, fun v F2 H2 g2 d2 => ?_⟩
  by_cases z : flat d = true
  · refine k _ F H2 ?_
    rw [if_pos z]
    exact (s.grow g2.hh).setS (Dp.any d2 z)
  · refine k _ F2 H2 ?_
    rw [if_neg z]
    exact (s1.gr g2).setS d2
theorem setL_read {i : Nat} {f : Ev → Option (List D)} {t : TE} (ht : ∀ σ H Q, tL K f σ H Q → t σ H Q) {E : Ends} {σ : St} {H : Hp} (q : tS K F0 H0 (sSetL i f) E σ H) : tAsg t (gName i) E σ H := by
  obtain ⟨F, sl, o, s, e, k⟩ := q
  obtain ⟨d, e1, rfl⟩ := Option.map_eq_some_iff.mp e
  obtain ⟨F1, h1, s1⟩ := s.demo
  refine ht σ H _ ⟨F1, evs sl, d, s1.sub, s1.envD, e1, fun a vs F2 H2 g2 fa ha hv dv => ?_⟩
  by_cases z : d.all flat = true
  · refine k _ F H2 ?_
    rw [if_pos z]
    refine (s.grow g2.hh).setO (s.h0.free ha) (s.sub.free ha) hv (DpAll.any dv z) fun j x hj e2 e3 => ?_
    obtain ⟨b, ws, ds, _, q2, _, _, q5, _⟩ := s.ow j x e2
    rw [e3] at q2
    cases q2
    rw [ha] at q5
    cases q5
  · refine k _ F2 H2 ?_
    rw [if_neg z]
    exact (s1.gr g2).setO (s.h0.free ha) fa hv dv fun j x hj e2 _ => dem_own e2
theorem pt_set (i : Nat) {x : Str} {p' : Pos} (hN : X.N.Nodup) (he : PD X e f) (hi : X.N[i]? = some x := by rfl) (hx : Loc X.env.scope x := by first | exact Or.inl rfl | exact Or.inr rfl) (hs : swapsWith e (some (.Name x p')) pos.line X.env = pure false := by rfl)
    (hf : X.fn x = true ∨ X.env.scope.names.lookup x = some .local := by first | exact .inl rfl | exact .inr rfl) : PT1 X (.Assign [.Name x p'] e pos) (sSet i f) := ⟨fun F0 H0 => iPS (ps_set hN hi hx he.out hs hf) fun E σ H q => set_read q⟩
theorem pt_setL (i : Nat) {x : Str} {p' : Pos} {f : Ev → Option (List D)} (hN : X.N.Nodup) (he : PL X e f) (hi : X.N[i]? = some x := by rfl) (hx : Loc X.env.scope x := by first | exact Or.inl rfl | exact Or.inr rfl) (hs : swapsWith e (some (.Name x p')) pos.line X.env = pure false := by rfl)
    (hf : X.fn x = true ∨ X.env.scope.names.lookup x = some .local := by first | exact .inl rfl | exact .inr rfl) : PT1 X (.Assign [.Name x p'] e pos) (sSetL i f) := ⟨fun F0 H0 => iPS (ps_set hN hi hx he.out hs hf) fun E σ H q => setL_read (fun _ _ _ z => z) q⟩
/-- name = [..] on one row, the name a plain local -/
theorem pt_setC (i : Nat) {y : Str} {py : Pos} {elt tg iter : Expr} {ifs : List Expr} {scope : Scope} {spos : Pos} {src : Ev → Option (List D)} {t : Tg} {c : Ev → Option Bool} (own : List (Str × Nat)) (ho : own.map (·.2) = t.slots) (hc : X.calm = true) (hN : X.N.Nodup) (hi : SrcE X tg iter src) (ok : BlkOk X.N X.env.scope scope own)
    (hg : ∀ (s : Shared) (H : Hp) (C : Addr) (cl : List (Str × Addr)) (fp : List Addr), PTg (X.blk s H scope (compEnvC scope cl C X.env) fp) tg t) (ht : ∀ (s : Shared) (H : Hp) (C : Addr) (cl : List (Str × Addr)) (fp : List Addr), PTe (X.blk s H scope (compEnvC scope cl C X.env) fp) ifs c)
    (he : ∀ (s : Shared) (H : Hp) (C : Addr) (cl : List (Str × Addr)) (fp : List Addr), PD (X.blk s H scope (compEnvC scope cl C X.env) fp) elt f)
    (hsw : swapsWith (.ListComp elt [⟨tg, iter, ifs, 0⟩] scope pos) (some (.Name y py)) spos.line X.env = pure true) (hy : X.N[i]? = some y := by rfl) (hyl : X.env.scope.names.lookup y = some .local := by rfl) (hs : ∀ x, foldedSetIterable iter X.env x = pure x := by intro _; rfl) :
    PT1 X (.Assign [.Name y py] (.ListComp elt [⟨tg, iter, ifs, 0⟩] scope pos) spos) (sSetL i (lComp src t c f)) := by
  obtain ⟨wi, h1, h2⟩ := hi.out
  have := ps_setLc (i := i) (spos := spos) (pos := pos) (g := t.g X.K) (tt := tBo X.K c) (te := tD X.K f) hc hN hy hyl hsw h1 ok (fun s H C cl fp => (hg s H C cl fp).out) (fun s H C cl fp => (ht s H C cl fp).out) (fun s H C cl fp => (he s H C cl fp).out) hs
  rw [ho] at this
  exact ⟨fun F0 H0 => iPS this fun E σ H q => setL_read (lc_read h2) q⟩
theorem pt_ret (he : PD X e f) : PT1 X (.Return (some e) pos) (sRet f) := ⟨fun F0 H0 => iPS (ps_ret he.out) fun E σ H ⟨F, sl, o, s, e, k⟩ => by
  obtain ⟨d, e1, rfl⟩ := Option.map_eq_some_iff.mp e
  obtain ⟨F1, h1, s1⟩ := s.demo
  exact ⟨F1, evs sl, d, s1.sub, s1.envD, e1, fun v F2 H2 g2 d2 => k v F2 H2 (s1.gr g2).gr0 d2⟩⟩
theorem pt_retL {f : Ev → Option (List D)} (he : PL X e f) : PT1 X (.Return (some e) pos) (sRetL f) := ⟨fun F0 H0 => iPS (ps_ret he.out) fun E σ H ⟨F, sl, o, s, e, k⟩ => by
  obtain ⟨d, e1, rfl⟩ := Option.map_eq_some_iff.mp e
  obtain ⟨F1, h1, s1⟩ := s.demo
  exact ⟨F1, evs sl, d, s1.sub, s1.envD, e1, fun a vs F2 H2 g2 fa ha hv dv => k a vs F2 H2 (s1.gr g2).gr0 fa (s.h0.free ha) hv dv⟩⟩
theorem pt_retV (i : Nat) {x : Str} {p' : Pos} (hN : X.N[i]? = some x := by rfl) (hv : Vis X.env.scope x := by first | exact Or.inl rfl | exact Or.inr (Or.inl rfl) | exact Or.inr (Or.inr rfl)) (hd : (x == ("__debug__" : Str)) = false := by decide)
    (hcd : (x == ("__classdict__" : Str)) = false := by decide) : PT1 X (.Return (some (.Name x p')) pos) (sRetV i) := ⟨fun F0 H0 => iPS (ps_ret (pe_var hN hv hd hcd)) fun E σ H ⟨F, sl, o, s, e, k⟩ => by
  obtain ⟨q, e1, e2⟩ := Option.bind_eq_some_iff.mp e
  have e1' : sl[i]? = some (some q) := by
    cases z : sl[i]? with
    | none => rw [z] at e1; cases e1
    | some u => rw [z] at e1; simp at e1; rw [e1]
  obtain ⟨b, d⟩ := q
  cases b with
  | false =>
    cases e2
    obtain ⟨v, h1, h2⟩ := s.sh i d e1'
    exact ⟨v, h1, k v F H s.gr0 h2⟩
  | true =>
    obtain ⟨a, vs, ds, rfl, h1, h2, h3, h4, h5⟩ := s.ow i d e1'
    cases e2
    exact ⟨_, h1, k a vs F H s.gr0 h3 h2 h4 h5⟩⟩
theorem pt_expr (he : PD X e f) (hs : swapsWith e none pos.line X.env = pure false := by rfl) : PT1 X (.Expr e pos) (sExpr f) := ⟨fun F0 H0 => iPS (ps_expr he.out hs) fun E σ H ⟨F, sl, o, s, e, k⟩ => by
  obtain ⟨d, e1, e2⟩ := Option.bind_eq_some_iff.mp e
  split at e2
  · cases e2
    obtain ⟨F1, h1, s1⟩ := s.demo
    exact ⟨F1, evs sl, d, s1.sub, s1.envD, e1, fun v F2 H2 g2 d2 => k _ F H2 (s.grow g2.hh)⟩
  · cases e2⟩
end
end DL
namespace DL
open PySem PySem.Spec L2

@[simp] def slot (sl : Sl) (i : Nat) : Option (Bool × D) := sl[i]?.join
theorem slot_eq {sl : Sl} {i : Nat} {q : Bool × D} (e : slot sl i = some q) : sl[i]? = some (some q) := by
  unfold slot at e
  cases z : sl[i]? with
  | none => rw [z] at e; cases e
  | some u => rw [z] at e; simp at e; rw [e]
/-- the frame's own list in slot i -/
@[simp] def ownL (sl : Sl) (i : Nat) : Option (List D) := (slot sl i).bind fun q => match q with
  | (true, .list xs) => some xs
  | _ => none
theorem ownL_eq {sl : Sl} {i : Nat} {xs : List D} (e : ownL sl i = some xs) : sl[i]? = some (some (true, .list xs)) := by
  obtain ⟨q, e1, e2⟩ := Option.bind_eq_some_iff.mp e
  rw [slot_eq e1]
  split at e2
  · cases e2; rfl
  · cases e2
@[simp] def sApp (i : Nat) (f : Ev → Option D) : Sl → Option Out := fun sl => (ownL sl i).bind fun xs => (f (evs sl)).bind fun d => if flat d && decide (xs.length < cap) then some (.nx (sl.set i (some (true, .list (xs ++ [d]))))) else none
@[simp] def sAppM (i : Nat) (f : Ev → Option D) : Sl → Option Out := fun sl => (ownL sl i).bind fun xs => (f (vis (but i) sl)).bind fun d => if xs.length < cap then some (.nx ((frz (but i) sl).set i (some (true, .list (xs ++ [d]))))) else none
@[simp] def intOf : D → Option Int
  | .int k => some k
  | _ => none
@[simp] def sItem (i : Nat) (fi f : Ev → Option D) : Sl → Option Out := fun sl => (ownL sl i).bind fun xs => (f (evs sl)).bind fun d => (fi (evs sl)).bind fun k => (intOf k).bind fun k => (ixN xs.length k).bind fun j => if flat d then some (.nx (sl.set i (some (true, .list (xs.set j d))))) else none
@[simp] def sItemM (i : Nat) (fi f : Ev → Option D) : Sl → Option Out := fun sl => (ownL sl i).bind fun xs => (f (vis (but i) sl)).bind fun d => (fi (vis (but i) sl)).bind fun k => (intOf k).bind fun k => (ixN xs.length k).bind fun j => some (.nx ((frz (but i) sl).set i (some (true, .list (xs.set j d)))))
section
variable {K : Fg} {F0 H0 F H F' H' : Hp} {σ : St} {sl : Sl}
theorem Stt.write {i : Nat} {a : Addr} {d : D} {vs : List V} {xs : List D} (s : Stt K F0 H0 F H σ sl) (e : sl[i]? = some (some (true, d))) (ea : σ[i]? = some (some (.ref a))) (h : DpAll K F vs xs) : Stt K F0 H0 F (upd H a (.lst vs)) σ (sl.set i (some (true, .list xs))) := by
  obtain ⟨b, ws, ds, _, q2, q3, q4, q5, q6⟩ := s.ow i d e
  rw [ea] at q2
  cases q2
  have hl : i < sl.length := by
    rcases Nat.lt_or_ge i sl.length with z | z
    · exact z
    · rw [List.getElem?_eq_none z] at e; cases e
  refine ⟨s.f0, fun b o z => ?_, fun b o z => ?_, s.new, by rw [List.length_set]; exact s.len, fun j x z => ?_, fun j x z => ?_, fun j k x y b hjk e1 e2 e3 => ?_⟩
  · rw [upd_ne (ne_of_none z q3)]; exact s.h0 b o z
  · rw [upd_ne (ne_of_none z q4)]; exact s.sub b o z
  · by_cases w : i = j
    · subst w; rw [List.getElem?_set_self hl] at z; cases z
    · rw [List.getElem?_set_ne w] at z; exact s.sh j x z
  · by_cases w : i = j
    · subst w
      rw [List.getElem?_set_self hl] at z
      cases z
      exact ⟨a, vs, xs, rfl, ea, q3, q4, upd_same, h⟩
    · rw [List.getElem?_set_ne w] at z
      obtain ⟨b, ws, ds, r1, r2, r3, r4, r5, r6⟩ := s.ow j x z
      refine ⟨b, ws, ds, r1, r2, r3, r4, ?_, r6⟩
      rw [upd_ne]
      · exact r5
      · rintro rfl
        exact s.ap i j _ _ _ w e z ea r2
  · have fix : ∀ {k y}, (sl.set i (some (true, PyData.list xs)))[k]? = some (some (true, y)) → ∃ y', sl[k]? = some (some (true, y')) := fun {k y} z => by
      by_cases w : i = k
      · subst w; exact ⟨_, e⟩
      · rw [List.getElem?_set_ne w] at z; exact ⟨_, z⟩
    obtain ⟨x', e1'⟩ := fix e1
    obtain ⟨y', e2'⟩ := fix e2
    exact s.ap j k x' y' b hjk e1' e2' e3
theorem frz_but {i : Nat} {q : Bool × D} (e : sl[i]? = some (some q)) : (DL.frz (but i) sl)[i]? = some (some q) := by
  obtain ⟨c, d⟩ := q
  rw [frz_get e]
  simp [but]
end
section
variable {X : Cx} {pos : Pos} {e ix : Expr} {f fi : Ev → Option D} {K : Fg} {F0 H0 : Hp}
theorem app_read {i : Nat} {E : Ends} {σ : St} {H : Hp} (q : tS K F0 H0 (sApp i f) E σ H) : tDrop (tBM K "list" rAppend (tVar i) (tCons (tD K f) tNil)) E σ H := by
  obtain ⟨F, sl, o, s, e, k⟩ := q
  obtain ⟨xs, e1, e⟩ := Option.bind_eq_some_iff.mp e
  obtain ⟨d, e2, e⟩ := Option.bind_eq_some_iff.mp e
  split at e
  case isFalse => cases e
  case isTrue z =>
  rw [Bool.and_eq_true, decide_eq_true_eq] at z
  cases e
  have e1 := ownL_eq e1
  obtain ⟨a, vs, ds, q1, q2, q3, q4, q5, q6⟩ := s.ow i _ e1
  cases q1
  obtain ⟨F1, h1, s1⟩ := s.demo
  refine ⟨.ref a, q2, .inl ⟨rfl, _, SqL.of q5⟩, F1, evs sl, d, s1.sub, s1.envD, e2, fun v F2 H2 g2 d2 => ⟨a, vs, v, rfl, rfl, g2.hh _ _ q5, ?_, ?_⟩⟩
  · rw [DpAll.len q6]
    have : cap < sizeLine := cap_lt
    omega
  · exact k σ F _ ((s.grow g2.hh).write e1 q2 (DpAll.app q6 (.cons (Dp.any d2 z.1) .nil)))
theorem appM_read {i : Nat} {E : Ends} {σ : St} {H : Hp} (q : tS K F0 H0 (sAppM i f) E σ H) : tDrop (tBM K "list" rAppend (tVar i) (tCons (tD K f) tNil)) E σ H := by
  obtain ⟨F, sl, o, s, e, k⟩ := q
  obtain ⟨xs, e1, e⟩ := Option.bind_eq_some_iff.mp e
  obtain ⟨d, e2, e⟩ := Option.bind_eq_some_iff.mp e
  split at e
  case isFalse => cases e
  case isTrue z =>
  cases e
  have e1 := ownL_eq e1
  obtain ⟨F1, h1, s1⟩ := s.frz (but i)
  obtain ⟨a, vs, ds, q1, q2, q3, q4, q5, q6⟩ := s1.ow i _ (frz_but e1)
  cases q1
  refine ⟨.ref a, q2, .inl ⟨rfl, _, SqL.of q5⟩, F1, _, d, s1.sub, s1.env, e2, fun v F2 H2 g2 d2 => ⟨a, vs, v, rfl, rfl, g2.hh _ _ q5, ?_, ?_⟩⟩
  · rw [DpAll.len q6]
    have : cap < sizeLine := cap_lt
    omega
  · exact k σ F2 _ ((s1.gr g2).write (frz_but e1) q2 (DpAll.app (DpAll_mono g2.ff q6) (.cons d2 .nil)))
theorem pt_app (i : Nat) {x : Str} {p1 ap cp : Pos} (he : PD X e f) (hN : X.N[i]? = some x := by rfl) (hv : Vis X.env.scope x := by first | exact Or.inl rfl | exact Or.inr (Or.inl rfl) | exact Or.inr (Or.inr rfl)) (hd : (x == ("__debug__" : Str)) = false := by decide) (hcd : (x == ("__classdict__" : Str)) = false := by decide)
    (hst : starEach [e] X.env = (false, eval e X.env) :: starEach [] X.env := by rfl) (hline : (ap.endLine == cp.line) = true := by rfl) (hs : swapsWith (.Call (.Attribute (.Name x p1) "append" ap) [e] [] cp) none pos.line X.env = pure false := by rfl) :
    PT1 X (.Expr (.Call (.Attribute (.Name x p1) "append" ap) [e] [] cp) pos) (sApp i f) := ⟨fun F0 H0 => iPS (ps_expr (pe_bm PySem.F.plainAttrs_list PySem.F.slot_list_append PySem.F.type_list_append mt_append (pe_var hN hv hd hcd) (pa_cons he.out pa_nil hst) (hfew := by rw [hst]; rfl) (hline := hline) (hs := hst)) hs) fun E σ H q => app_read q⟩
theorem pt_appM (i : Nat) {x : Str} {p1 ap cp : Pos} (he : PD X e f) (hN : X.N[i]? = some x := by rfl) (hv : Vis X.env.scope x := by first | exact Or.inl rfl | exact Or.inr (Or.inl rfl) | exact Or.inr (Or.inr rfl)) (hd : (x == ("__debug__" : Str)) = false := by decide) (hcd : (x == ("__classdict__" : Str)) = false := by decide)
    (hst : starEach [e] X.env = (false, eval e X.env) :: starEach [] X.env := by rfl) (hline : (ap.endLine == cp.line) = true := by rfl) (hs : swapsWith (.Call (.Attribute (.Name x p1) "append" ap) [e] [] cp) none pos.line X.env = pure false := by rfl) :
    PT1 X (.Expr (.Call (.Attribute (.Name x p1) "append" ap) [e] [] cp) pos) (sAppM i f) := ⟨fun F0 H0 => iPS (ps_expr (pe_bm PySem.F.plainAttrs_list PySem.F.slot_list_append PySem.F.type_list_append mt_append (pe_var hN hv hd hcd) (pa_cons he.out pa_nil hst) (hfew := by rw [hst]; rfl) (hline := hline) (hs := hst)) hs) fun E σ H q => appM_read q⟩
theorem intOf_eq {d : D} {k : Int} (e : intOf d = some k) : d = .int k := by
  cases d <;> first | (cases e; rfl) | cases e
theorem item_read {i : Nat} {E : Ends} {σ : St} {H : Hp} (q : tS K F0 H0 (sItem i fi f) E σ H) : tAsg (tD K f) (gSub (tVar i) (tD K fi) rSetL) E σ H := by
  obtain ⟨F, sl, o, s, e, k⟩ := q
  obtain ⟨xs, e1, e⟩ := Option.bind_eq_some_iff.mp e
  obtain ⟨d, e2, e⟩ := Option.bind_eq_some_iff.mp e
  obtain ⟨ki, e3, e⟩ := Option.bind_eq_some_iff.mp e
  obtain ⟨n, e4, e⟩ := Option.bind_eq_some_iff.mp e
  obtain ⟨j, e5, e⟩ := Option.bind_eq_some_iff.mp e
  split at e
  case isFalse => cases e
  case isTrue z =>
  cases e
  cases intOf_eq e4
  have e1 := ownL_eq e1
  obtain ⟨a, vs, ds, q1, q2, q3, q4, q5, q6⟩ := s.ow i _ e1
  cases q1
  obtain ⟨F1, h1, s1⟩ := s.demo
  refine ⟨F1, evs sl, d, s1.sub, s1.envD, e2, fun v F2 H2 g2 d2 => ⟨.ref a, q2, F2, evs sl, .int n, g2.sub, s1.envD.mono g2.ff, e3, fun u F3 H3 g3 d3 => ?_⟩⟩
  cases d3
  refine ⟨a, vs, n, j, rfl, rfl, g3.hh _ _ (g2.hh _ _ q5), by rw [DpAll.len q6]; exact e5, ?_⟩
  exact k σ F _ (((s.grow g2.hh).grow g3.hh).write e1 q2 (DpAll.set (Dp.any d2 z) j q6))
theorem itemM_read {i : Nat} {E : Ends} {σ : St} {H : Hp} (q : tS K F0 H0 (sItemM i fi f) E σ H) : tAsg (tD K f) (gSub (tVar i) (tD K fi) rSetL) E σ H := by
  obtain ⟨F, sl, o, s, e, k⟩ := q
  obtain ⟨xs, e1, e⟩ := Option.bind_eq_some_iff.mp e
  obtain ⟨d, e2, e⟩ := Option.bind_eq_some_iff.mp e
  obtain ⟨ki, e3, e⟩ := Option.bind_eq_some_iff.mp e
  obtain ⟨n, e4, e⟩ := Option.bind_eq_some_iff.mp e
  obtain ⟨j, e5, e⟩ := Option.bind_eq_some_iff.mp e
  cases e
  cases intOf_eq e4
  have e1 := ownL_eq e1
  obtain ⟨F1, h1, s1⟩ := s.frz (but i)
  obtain ⟨a, vs, ds, q1, q2, q3, q4, q5, q6⟩ := s1.ow i _ (frz_but e1)
  cases q1
  refine ⟨F1, _, d, s1.sub, s1.env, e2, fun v F2 H2 g2 d2 => ⟨.ref a, q2, F2, _, .int n, g2.sub, s1.env.mono g2.ff, e3, fun u F3 H3 g3 d3 => ?_⟩⟩
  cases d3
  refine ⟨a, vs, n, j, rfl, rfl, g3.hh _ _ (g2.hh _ _ q5), by rw [DpAll.len q6]; exact e5, ?_⟩
  exact k σ F3 _ (((s1.gr g2).gr g3).write (frz_but e1) q2 (DpAll.set (Dp_mono g3.ff d2) j (DpAll_mono (g2.ff.trans g3.ff) q6)))
theorem pt_item (i : Nat) {x : Str} {p1 sp : Pos} (he : PD X e f) (hi : PD X ix fi) (hN : X.N[i]? = some x := by rfl) (hv : Vis X.env.scope x := by first | exact Or.inl rfl | exact Or.inr (Or.inl rfl) | exact Or.inr (Or.inr rfl)) (hd : (x == ("__debug__" : Str)) = false := by decide) (hcd : (x == ("__classdict__" : Str)) = false := by decide)
    (ha : ∀ v, assign (.Subscript (.Name x p1) ix sp) X.env v = (do
      let ov ← holding [v] (eval (.Name x p1) X.env)
      let iv ← holding [v, ov] (eval ix X.env)
      standAt sp
      holding [v, ov, iv] (setItem ov iv v)
      release [v, ov, iv] []) := by intro _; rfl) (hs : swapsWithSole [.Subscript (.Name x p1) ix sp] e pos.line X.env = pure false := by rfl) (hw : swappedStores [.Subscript (.Name x p1) ix sp] e X.env = pure none := by rfl)
    (h1 : (assignEach [.Subscript (.Name x p1) ix sp] X.env).map (·.2) = [assign (.Subscript (.Name x p1) ix sp) X.env] := by rfl) :
    PT1 X (.Assign [.Subscript (.Name x p1) ix sp] e pos) (sItem i fi f) := ⟨fun F0 H0 => iPS (ps_asg he.out (pg_sub (pe_var hN hv hd hcd) hi.out set_list ha) hs hw h1) fun E σ H q => item_read q⟩
theorem pt_itemM (i : Nat) {x : Str} {p1 sp : Pos} (he : PD X e f) (hi : PD X ix fi) (hN : X.N[i]? = some x := by rfl) (hv : Vis X.env.scope x := by first | exact Or.inl rfl | exact Or.inr (Or.inl rfl) | exact Or.inr (Or.inr rfl)) (hd : (x == ("__debug__" : Str)) = false := by decide) (hcd : (x == ("__classdict__" : Str)) = false := by decide)
    (ha : ∀ v, assign (.Subscript (.Name x p1) ix sp) X.env v = (do
      let ov ← holding [v] (eval (.Name x p1) X.env)
      let iv ← holding [v, ov] (eval ix X.env)
      standAt sp
      holding [v, ov, iv] (setItem ov iv v)
      release [v, ov, iv] []) := by intro _; rfl) (hs : swapsWithSole [.Subscript (.Name x p1) ix sp] e pos.line X.env = pure false := by rfl) (hw : swappedStores [.Subscript (.Name x p1) ix sp] e X.env = pure none := by rfl)
    (h1 : (assignEach [.Subscript (.Name x p1) ix sp] X.env).map (·.2) = [assign (.Subscript (.Name x p1) ix sp) X.env] := by rfl) :
    PT1 X (.Assign [.Subscript (.Name x p1) ix sp] e pos) (sItemM i fi f) := ⟨fun F0 H0 => iPS (ps_asg he.out (pg_sub (pe_var hN hv hd hcd) hi.out set_list ha) hs hw h1) fun E σ H q => itemM_read q⟩
end

/-! ### for -/
@[simp] def Tg.putS (t : Tg) (d : D) (sl : Sl) : Option Sl := match t with
  | .one i => some (sl.set i (some (false, d)))
  | .two i j => (pairOf d).bind fun q => some ((sl.set i (some (false, q.1))).set j (some (false, q.2)))
theorem Tg.okS {K : Fg} {F0 H0 F H : Hp} {σ : St} {sl sl' : Sl} {x : V} {d : D} {Q : St → Hp → Prop} {t : Tg} (s : Stt K F0 H0 F H σ sl) (dx : Dp K F x d) (e : t.putS d sl = some sl') (k : ∀ σ', Stt K F0 H0 F H σ' sl' → Q σ' H) : t.g K x σ H Q := by
  cases t with
  | one i =>
    have e : some (sl.set i (some (false, d))) = some sl' := e
    rw [← Option.some.inj e] at k
    exact k _ (s.setS dx)
  | two i j =>
    obtain ⟨⟨a, b⟩, e1, e2⟩ := Option.bind_eq_some_iff.mp e
    cases pairOf_eq e1
    rw [← Option.some.inj e2] at k
    cases dx with
    | tup hs hv =>
      cases hv with
      | cons h1 hv =>
        cases hv with
        | cons h2 hv =>
          cases hv
          refine ⟨_, _, rfl, Same.seqT s.sub hs, rfl, _, _, rfl, _, _, rfl, rfl, ?_⟩
          exact k _ ((s.setS h1).setS h2)
def forL (t : Tg) (g : Sl → Option Out) : List D → Sl → Option Out
  | [], sl => some (.nx sl)
  | x :: xs, sl => (t.putS x sl).bind fun s => (g s).bind fun o => match o with
    | .nx s => forL t g xs s
    | .ct s => forL t g xs s
    | .bk s => some (.nx s)
    | .rt d => some (.rt d)
    | .rl d => some (.rl d)
@[simp] def sFor (src : Sl → Option (List D × Sl)) (t : Tg) (g : Sl → Option Out) : Sl → Option Out := fun sl => (src sl).bind fun q => forL t g q.1 q.2
structure SrcS (X : Cx) (tg iter : Expr) (src : Sl → Option (List D × Sl)) : Prop where
  out : ∃ wi, PI X tg iter wi ∧ ∀ (F0 H0 F H : Hp) (σ : St) (sl : Sl) (xs : List D) (sl1 : Sl) (R : It → Hp → Prop), Stt X.K F0 H0 F H σ sl → src sl = some (xs, sl1) → (∀ J F' H', Stt X.K F0 H0 F' H' σ sl1 → Walk X.K J F' xs → R J H') → wi σ H R
theorem for_read {K : Fg} {F0 H0 : Hp} {src : Sl → Option (List D × Sl)} {t : Tg} {g : Sl → Option Out} {wi : TI} {tb : TS}
    (hwi : ∀ (F0 H0 F H : Hp) (σ : St) (sl : Sl) (xs : List D) (sl1 : Sl) (R : It → Hp → Prop), Stt K F0 H0 F H σ sl → src sl = some (xs, sl1) → (∀ J F' H', Stt K F0 H0 F' H' σ sl1 → Walk K J F' xs → R J H') → wi σ H R)
    (htb : ∀ F0 H0 E σ H, tS K F0 H0 g E σ H → tb E σ H) {E : Ends} {σ : St} {H : Hp} (q : tS K F0 H0 (sFor src t g) E σ H) : tFor wi (t.g K) tb E σ H := by
  obtain ⟨F, sl, o, s, e, k⟩ := q
  obtain ⟨⟨xs, sl1⟩, e1, e2⟩ := Option.bind_eq_some_iff.mp e
  refine hwi F0 H0 F H σ sl xs sl1 _ s e1 fun J F1 H1 s1 wk => ?_
  have up : ∀ {F' H' : Hp} {σ' : St} {s' : Sl}, Stt K F1 H0 F' H' σ' s' → Stt K F0 H0 F' H' σ' s' := fun z =>
    ⟨s1.f0.trans z.f0, z.h0, z.sub, fun b o q => (z.new b o q).elim (fun w => s1.new b o w) .inr, z.len, z.sh, z.ow, z.ap⟩
  have upg : ∀ {F' H' : Hp}, Gr F1 H0 F' H' → Gr F0 H0 F' H' := fun z => ⟨s1.f0.trans z.ff, z.hh, z.sub, fun b o q => (z.new b o q).elim (fun w => s1.new b o w) .inr⟩
  refine ⟨fun i m σ' H' => m = xs.length - i ∧ i ≤ xs.length ∧ ∃ F' s', Stt K F1 H0 F' H' σ' s' ∧ forL t g (xs.drop i) s' = some o,
    ⟨xs.length, by simp, Nat.zero_le _, F1, sl1, ⟨Same.refl _, s1.h0, s1.sub, fun b o q => .inl q, s1.len, s1.sh, s1.ow, s1.ap⟩, by simpa using e2⟩, ?_⟩
  rintro i m σ2 H2 ⟨rfl, hi, F2, s2, st2, er⟩
  by_cases hlt : i < xs.length
  · obtain ⟨_, wh⟩ := wk i H2 (st2.f0.trans st2.sub)
    have ei : xs[i]? = some xs[i] := by simp [hlt]
    have edrop : xs.drop i = xs[i] :: xs.drop (i + 1) := (List.drop_eq_getElem_cons hlt)
    rw [edrop] at er
    unfold forL at er
    obtain ⟨sx, er1, er⟩ := Option.bind_eq_some_iff.mp er
    obtain ⟨o1, er2, er⟩ := Option.bind_eq_some_iff.mp er
    refine .inr ⟨(wh _ ei).1, fun σ' H' => ∃ F' s', Stt K F1 H0 F' H' σ' s' ∧ forL t g (xs.drop (i + 1)) s' = some o, fun σ' H' q => ⟨xs.length - (i + 1), by omega, rfl, hlt, q⟩, fun x H3 y => ?_⟩
    obtain ⟨F3, g3, dx⟩ := wk.item st2.f0 st2.sub ei y
    refine Tg.okS (st2.gr g3) dx er1 fun σ3 st3 => htb F1 H0 _ σ3 H3 ⟨F3, sx, o1, st3, er2, ?_⟩
    cases o1 with
    | nx s => exact fun σ' F' H' z => ⟨F', s, z, er⟩
    | ct s => exact fun σ' F' H' z => ⟨F', s, z, er⟩
    | bk s => cases er; exact fun σ' F' H' z => k σ' F' H' (up z)
    | rt d => cases er; exact fun v F' H' z dv => k v F' H' (upg z) dv
    | rl d => cases er; exact fun a vs F' H' z h1 h2 h3 h4 => k a vs F' H' (upg z) h1 h2 h3 h4
  · have e : i = xs.length := by omega
    subst e
    obtain ⟨wh, _⟩ := wk xs.length H2 (st2.f0.trans st2.sub)
    rw [List.drop_length] at er
    cases er
    exact .inl ⟨wh (by simp), k σ2 F2 H2 (up st2)⟩
section
variable {X : Cx} {pos p : Pos} {tg iter a b : Expr} {body : List Stmt} {t : Tg} {g : Sl → Option Out} {f h : Ev → Option D} {src : Sl → Option (List D × Sl)}
theorem pt_for (hc : X.calm = true) (hi : SrcS X tg iter src) (hg : PTg X tg t) (hb : PTn X body g) (hp : PassesOwn (model X.prog X.w) X.A X.env X.xe := by exact PassesOwn.never) (hs : ∀ x, foldedSetIterable iter X.env x = pure x := by intro _; rfl) : PT1 X (.For tg iter body [] pos) (sFor src t g) := by
  obtain ⟨wi, h1, h2⟩ := hi.out
  refine ⟨fun F0 H0 pins s σ H D I q => ?_⟩
  -- the body's reading is taken at the base of the loop
  refine ps_for (tb := fun E σ H => ∃ F0 H0, tS X.K F0 H0 g E σ H) hp hc h1 hg.out (fun pins s σ H D I ⟨F0, H0, z⟩ => hb.out F0 H0 pins s σ H D I z) hs pins s σ H D I ?_
  exact for_read h2 (fun F0 H0 E σ H z => ⟨F0, H0, z⟩) q
@[simp] def fromE (is : List Nat) (src : Ev → Option (List D)) : Sl → Option (List D × Sl) := fun sl => (src (vis (among is) sl)).map fun xs => (xs, frz (among is) sl)
/-- the names at is stand still through the loop -/
theorem src_e (is : List Nat) {src : Ev → Option (List D)} (h : SrcE X tg iter src) : SrcS X tg iter (fromE is src) := by
  obtain ⟨wi, h1, h2⟩ := h.out
  refine ⟨wi, h1, fun F0 H0 F H σ sl xs sl1 R s e k => ?_⟩
  obtain ⟨ys, e1, e2⟩ := Option.map_eq_some_iff.mp e
  cases e2
  obtain ⟨F1, q1, s1⟩ := s.frz (among is)
  exact h2 σ H F1 _ xs R s1.sub s1.env e1 fun J F2 H2 g2 wk => k J F2 H2 (s1.gr g2) wk
/-- a range: nothing need stand still -/
@[simp] def fromR (src : Ev → Option (List D)) : Sl → Option (List D × Sl) := fun sl => (src (evs sl)).map fun xs => (xs, sl)
theorem srcs_range1 (hg : Gl X "range") (hm : X.mg "range" = none) (ha : PD X a f) (he : starEach [a] X.env = [(false, eval a X.env)] := by rfl) : SrcS X tg (.Call (.Name "range" p) [a] [] pos) (fromR (sRange1 f)) := ⟨_, pi_range1 hg hm (pas_cons ha pas_nil he).out he, fun F0 H0 F H σ sl xs sl1 R s e k => by
  obtain ⟨ys, e0, e2⟩ := Option.map_eq_some_iff.mp e
  cases e2
  obtain ⟨F1, q1, s1⟩ := s.demo
  obtain ⟨d, e1, e2⟩ := Option.bind_eq_some_iff.mp e0
  refine ⟨F1, evs sl, [d], s1.sub, s1.envD, by simp only [aCons, aNil, e1, Option.bind_some, Option.map_some], fun vs F2 H2 g2 d1 => ?_⟩
  cases d1 with
  | cons d1 d2 =>
    cases d2
    cases d1 with
    | int j =>
      have e2 : (if okI j = true then some (rangeD 0 j.toNat) else none) = some xs := e2
      by_cases z : okI j = true
      · rw [if_pos z] at e2
        unfold okI at z; simp only [Bool.and_eq_true, decide_eq_true_eq] at z
        cases e2
        exact ⟨j, rfl, by omega, by omega, k _ F H2 (s.grow g2.hh) (walk_range 0 j.toNat)⟩
      · rw [if_neg z] at e2; cases e2
    | _ => cases e2⟩
theorem srcs_range2 (hg : Gl X "range") (hm : X.mg "range" = none) (ha : PD X a f) (hb : PD X b h) (he : starEach [a, b] X.env = [(false, eval a X.env), (false, eval b X.env)] := by rfl) (he2 : starEach [b] X.env = [(false, eval b X.env)] := by rfl) :
    SrcS X tg (.Call (.Name "range" p) [a, b] [] pos) (fromR (sRange2 f h)) := ⟨_, pi_range2 hg hm (pas_cons ha (pas_cons hb pas_nil he2) (by rw [he, he2])).out he he2, fun F0 H0 F H σ sl xs sl1 R s e k => by
  obtain ⟨ys, e0, e2⟩ := Option.map_eq_some_iff.mp e
  cases e2
  obtain ⟨F1, q1, s1⟩ := s.demo
  obtain ⟨d, e1, e2⟩ := Option.bind_eq_some_iff.mp e0
  obtain ⟨d', e3, e4⟩ := Option.bind_eq_some_iff.mp e2
  refine ⟨F1, evs sl, [d, d'], s1.sub, s1.envD, by simp only [aCons, aNil, e1, e3, Option.bind_some, Option.map_some], fun vs F2 H2 g2 d1 => ?_⟩
  cases d1 with
  | cons d1 d2 =>
    cases d2 with
    | cons d2 d3 =>
      cases d3
      cases d1 with
      | int i =>
        cases d2 with
        | int j =>
          have e4 : (if (okI i && okI j) = true then some (rangeD i (j - i).toNat) else none) = some xs := e4
          by_cases z : (okI i && okI j) = true
          · rw [if_pos z] at e4
            unfold okI at z; simp only [Bool.and_eq_true, decide_eq_true_eq] at z
            cases e4
            exact ⟨i, j, rfl, ⟨by omega, by omega, by omega, by omega⟩, k _ F H2 (s.grow g2.hh) (walk_range i (j - i).toNat)⟩
          · rw [if_neg z] at e4; cases e4
        | _ => cases e4
      | _ => cases e4⟩
/-- a new list, a new tuple of flat things -/
@[simp] def fromL (f : Ev → Option (List D)) : Sl → Option (List D × Sl) := fun sl => (f (evs sl)).bind fun xs => if xs.all flat then some (xs, sl) else none
theorem Stt.lay {K : Fg} {F0 H0 F H H' : Hp} {σ : St} {sl : Sl} {a : Addr} {o : HO} (s : Stt K F0 H0 F H σ sl) (hh : Same H H') (ha : H a = none) (ho : H' a = some o) : Stt K F0 H0 (upd F a o) H' σ sl :=
  ⟨s.f0.trans (same_upd (s.sub.free ha)), s.h0.trans hh, fun b u e => by
    by_cases z : b = a
    · subst z; rw [upd_same] at e; rw [← e]; exact ho
    · rw [upd_ne z] at e; exact hh _ _ (s.sub b u e), fun b u e => by
    by_cases z : b = a
    · subst z; exact .inr (s.h0.free ha)
    · rw [upd_ne z] at e; exact s.new b u e, s.len, fun i d e => by
    obtain ⟨v, h1, h2⟩ := s.sh i d e
    exact ⟨v, h1, Dp_mono (same_upd (s.sub.free ha)) h2⟩, fun i d e => by
    obtain ⟨b, vs, ds, q1, q2, q3, q4, q5, q6⟩ := s.ow i d e
    exact ⟨b, vs, ds, q1, q2, q3, by rw [upd_ne (ne_of_none q5 ha)]; exact q4, hh _ _ q5, DpAll_mono (same_upd (s.sub.free ha)) q6⟩, s.ap⟩
theorem srcs_l {f : Ev → Option (List D)} (ha : PL X a f) : SrcS X tg a (fromL f) := ⟨_, pi_list ha.out, fun F0 H0 F H σ sl xs sl1 R s e k => by
  obtain ⟨ys, e1, e2⟩ := Option.bind_eq_some_iff.mp e
  split at e2
  case isFalse => cases e2
  case isTrue z =>
  cases e2
  obtain ⟨F1, q1, s1⟩ := s.demo
  refine ⟨F1, evs sl, xs, s1.sub, s1.envD, e1, fun l vs F2 H2 g2 h1 h2 h3 h4 => ⟨l, rfl, ⟨_, SqL.of h3⟩, k _ (upd F l (.lst vs)) H2 (s.lay g2.hh h2 h3) fun i H sf => ?_⟩⟩
  have hs : SqL X.K H l vs := SqL.of (sf _ _ upd_same)
  refine ⟨fun e => ⟨_, hs, by rw [DpAll.len h4]; exact List.getElem?_eq_none_iff.mp e⟩, fun y e => ?_⟩
  obtain ⟨v, w1, w2⟩ := DpAll.get (DpAll.any h4 z) e
  exact ⟨⟨_, v, hs, w1⟩, fun x H' ⟨e1, e2⟩ => .inl ⟨e1, by
    have := e2 _ hs
    rw [w1] at this
    cases this
    exact w2⟩⟩⟩
theorem srcs_u {f : Ev → Option (List D)} (ha : PU X a f) : SrcS X tg a (fromL f) := ⟨_, pi_tup ha.out, fun F0 H0 F H σ sl xs sl1 R s e k => by
  obtain ⟨ys, e1, e2⟩ := Option.bind_eq_some_iff.mp e
  split at e2
  case isFalse => cases e2
  case isTrue z =>
  cases e2
  obtain ⟨F1, q1, s1⟩ := s.demo
  refine ⟨F1, evs sl, xs, s1.sub, s1.envD, e1, fun l vs F2 H2 g2 h1 h2 h3 h4 => ⟨l, rfl, ⟨_, SqT.of h3⟩, k _ (upd F l (.tup vs)) H2 (s.lay g2.hh h2 h3) fun i H sf => ?_⟩⟩
  have hs : SqT X.K H l vs := SqT.of (sf _ _ upd_same)
  refine ⟨fun e => ⟨_, hs, by rw [DpAll.len h4]; exact List.getElem?_eq_none_iff.mp e⟩, fun y e => ?_⟩
  obtain ⟨v, w1, w2⟩ := DpAll.get (DpAll.any h4 z) e
  exact ⟨⟨_, v, hs, w1⟩, fun x H' ⟨e1, e2⟩ => .inl ⟨e1, by
    have := e2 _ hs
    rw [w1] at this
    cases this
    exact w2⟩⟩⟩
/-! ### while, by a count of turns that is enough -/
def sWhile (c : Ev → Option Bool) (g : Sl → Option Out) : Nat → Sl → Option Out
  | 0, _ => none
  | n + 1, sl => (c (evs sl)).bind fun b => if b then (g sl).bind fun o => match o with
      | .nx s => sWhile c g n s
      | .ct s => sWhile c g n s
      | .bk s => some (.nx s)
      | .rt d => some (.rt d)
      | .rl d => some (.rl d)
    else some (.nx sl)
theorem pt_while (n : Nat) {c : Expr} {q : Ev → Option Bool} (hc : PB X c q) (hb : PTn X body g) (hp : PassesOwn (model X.prog X.w) X.A X.env X.xe := by exact PassesOwn.never) : PT1 X (.While c body [] pos) (sWhile q g n) := ⟨fun F0 H0 => iPS (ps_while hp hc.out (hb.out F0 H0)) fun E σ H ⟨F, sl, o, s, e, k⟩ => by
  refine ⟨fun m σ H => ∃ F sl, Stt X.K F0 H0 F H σ sl ∧ sWhile q g m sl = some o, ⟨n, F, sl, s, e⟩, ?_⟩
  rintro m σ1 H1 ⟨F1, sl1, s1, e1⟩
  cases m with
  | zero => cases e1
  | succ m =>
    unfold sWhile at e1
    obtain ⟨b, e2, e3⟩ := Option.bind_eq_some_iff.mp e1
    obtain ⟨F2, h2, s2⟩ := s1.demo
    refine ⟨F2, evs sl1, b, s2.sub, s2.envD, e2, fun F3 H3 g3 => ?_⟩
    have s3 := s1.grow g3.hh
    cases b with
    | false => cases e3; exact iteF (k σ1 F1 H3 s3)
    | true =>
      obtain ⟨o1, e4, e5⟩ := Option.bind_eq_some_iff.mp e3
      refine iteT ⟨fun σ H => ∃ F sl, Stt X.K F0 H0 F H σ sl ∧ sWhile q g m sl = some o, fun σ' H' z => ⟨m, Nat.lt_succ_self m, z⟩, F1, sl1, o1, s3, e4, ?_⟩
      cases o1 with
      | nx s => exact fun σ' F' H' z => ⟨F', s, z, e5⟩
      | ct s => exact fun σ' F' H' z => ⟨F', s, z, e5⟩
      | bk s => cases e5; exact k
      | rt d => cases e5; exact k
      | rl d => cases e5; exact k⟩
end

/-! ### a, b = e, f -/
@[simp] def sPar (i j : Nat) (f g : Ev → Option D) : Sl → Option Out := fun sl => (f (evs sl)).bind fun d => (g (evs sl)).bind fun e => some (.nx (((if flat d && flat e then sl else dem sl).set i (some (false, d))).set j (some (false, e))))
@[simp] def sParL (i j : Nat) (f : Ev → Option D) (g : Ev → Option (List D)) : Sl → Option Out := fun sl => (f (evs sl)).bind fun d => (g (evs sl)).bind fun xs => some (.nx (((if flat d && xs.all flat then sl else dem sl).set i (some (false, d))).set j (some (true, .list xs))))
section
variable {X : Cx} {pos : Pos} {a b : Expr} {f g : Ev → Option D} {K : Fg} {F0 H0 : Hp} {i j : Nat} {x y : Str} {px py pt pt2 : Pos} {kt k2 : Nat}
theorem par_read {E : Ends} {σ : St} {H : Hp} {N : V → V → Hp → Prop} (hN : ∀ v w σ' H', σ' = (σ.set i (some v)).set j (some w) → E.nx σ' H' → N v w H') (q : tS K F0 H0 (sPar i j f g) E σ H) : tCons (tD K f) (tCons (tD K g) tNil) σ H fun vs H1 => ∃ v w, vs = [v, w] ∧ N v w H1 := by
  obtain ⟨F, sl, o, s, e, k⟩ := q
  obtain ⟨d, e1, e⟩ := Option.bind_eq_some_iff.mp e
  obtain ⟨d', e2, e⟩ := Option.bind_eq_some_iff.mp e
  cases e
  obtain ⟨F1, h1, s1⟩ := s.demo
  refine ⟨F1, evs sl, d, s1.sub, s1.envD, e1, fun v F2 H2 g2 d2 => ⟨F2, evs sl, d', g2.sub, s1.envD.mono g2.ff, e2, fun w F3 H3 g3 d3 => ⟨v, w, rfl, hN v w _ H3 rfl ?_⟩⟩⟩
  by_cases z : (flat d && flat d') = true
  · refine k _ F H3 ?_
    rw [if_pos z]
    rw [Bool.and_eq_true] at z
    exact (((s.grow g2.hh).grow g3.hh).setS (Dp.any d2 z.1)).setS (Dp.any d3 z.2)
  · refine k _ F3 H3 ?_
    rw [if_neg z]
    exact (((s1.gr g2).gr g3).setS (Dp_mono g3.ff d2)).setS d3
theorem parL_read {g : Ev → Option (List D)} {E : Ends} {σ : St} {H : Hp} {N : V → V → Hp → Prop} (hN : ∀ v w σ' H', σ' = (σ.set i (some v)).set j (some w) → E.nx σ' H' → N v w H') (q : tS K F0 H0 (sParL i j f g) E σ H) : tCons (tD K f) (tCons (tL K g) tNil) σ H fun vs H1 => ∃ v w, vs = [v, w] ∧ N v w H1 := by
  obtain ⟨F, sl, o, s, e, k⟩ := q
  obtain ⟨d, e1, e⟩ := Option.bind_eq_some_iff.mp e
  obtain ⟨d', e2, e⟩ := Option.bind_eq_some_iff.mp e
  cases e
  obtain ⟨F1, h1, s1⟩ := s.demo
  refine ⟨F1, evs sl, d, s1.sub, s1.envD, e1, fun v F2 H2 g2 d2 => ⟨F2, evs sl, d', g2.sub, s1.envD.mono g2.ff, e2, fun a vs F3 H3 g3 q1 q2 q3 q4 => ⟨v, .ref a, rfl, hN v (.ref a) _ H3 rfl ?_⟩⟩⟩
  have ha0 : H a = none := g2.hh.free q2
  by_cases z : (flat d && d'.all flat) = true
  · refine k _ F H3 ?_
    rw [if_pos z]
    rw [Bool.and_eq_true] at z
    have s3 := ((s.grow g2.hh).grow g3.hh).setS (i := i) (Dp.any d2 z.1)
    refine s3.setO (s.h0.free ha0) (s.sub.free ha0) q3 (DpAll.any q4 z.2) fun l x hl e2 e3 => ?_
    obtain ⟨b, ws, ds, _, r2, _, _, r5, _⟩ := s3.ow l x e2
    have zi : i ≠ l := by
      rintro rfl
      by_cases hlen : i < sl.length
      · rw [List.getElem?_set_self hlen] at e2; cases e2
      · rw [List.getElem?_eq_none (by simpa using hlen)] at e2; cases e2
    rw [List.getElem?_set_ne zi] at e2 e3
    obtain ⟨b, ws, ds, _, r2, _, _, r5, _⟩ := s.ow l x e2
    rw [e3] at r2
    cases r2
    rw [ha0] at r5
    cases r5
  · refine k _ F3 H3 ?_
    rw [if_neg z]
    have s3 := ((s1.gr g2).gr g3).setS (i := i) (Dp_mono g3.ff d2)
    refine s3.setO (s.h0.free ha0) q1 q3 q4 fun l x hl e2 e3 => ?_
    by_cases zi : i = l
    · subst zi
      by_cases hlen : i < (dem sl).length
      · rw [List.getElem?_set_self hlen] at e2; cases e2
      · rw [List.getElem?_eq_none (by simpa using hlen)] at e2; cases e2
    · rw [List.getElem?_set_ne zi] at e2
      exact dem_own e2
/-- both names plain locals -/
theorem pt_par (i j : Nat) (hc : X.calm = true) (hN : X.N.Nodup) (ha : PD X a f) (hb : PD X b g) (hij : i ≠ j := by decide) (hi : X.N[i]? = some x := by rfl) (hj : X.N[j]? = some y := by rfl) (hx : X.env.scope.names.lookup x = some .local := by rfl) (hy : X.env.scope.names.lookup y = some .local := by rfl)
    (hst : starEach [a, b] X.env = (false, eval a X.env) :: starEach [b] X.env := by rfl) (hst2 : starEach [b] X.env = (false, eval b X.env) :: starEach [] X.env := by rfl)
    (hw : swappedStores [.Tuple [.Name x px, .Name y py] kt pt] (.Tuple [a, b] k2 pt2) X.env = pure (some [x, y]) := by rfl) (hs : swapsWithSole [.Tuple [.Name x px, .Name y py] kt pt] (.Tuple [a, b] k2 pt2) pos.line X.env = pure false := by rfl) :
    PT1 X (.Assign [.Tuple [.Name x px, .Name y py] kt pt] (.Tuple [a, b] k2 pt2) pos) (sPar i j f g) := ⟨fun F0 H0 => iPS (ps_par hc hN hi hj hij hx hy (pa_cons ha.out (pa_cons hb.out pa_nil hst2) hst) hw hs) fun E σ H q => par_read (fun v w σ' H' e z => by rw [← e]; exact z) q⟩
theorem pt_parL (i j : Nat) {g : Ev → Option (List D)} (hc : X.calm = true) (hN : X.N.Nodup) (ha : PD X a f) (hb : PL X b g) (hij : i ≠ j := by decide) (hi : X.N[i]? = some x := by rfl) (hj : X.N[j]? = some y := by rfl) (hx : X.env.scope.names.lookup x = some .local := by rfl) (hy : X.env.scope.names.lookup y = some .local := by rfl)
    (hst : starEach [a, b] X.env = (false, eval a X.env) :: starEach [b] X.env := by rfl) (hst2 : starEach [b] X.env = (false, eval b X.env) :: starEach [] X.env := by rfl)
    (hw : swappedStores [.Tuple [.Name x px, .Name y py] kt pt] (.Tuple [a, b] k2 pt2) X.env = pure (some [x, y]) := by rfl) (hs : swapsWithSole [.Tuple [.Name x px, .Name y py] kt pt] (.Tuple [a, b] k2 pt2) pos.line X.env = pure false := by rfl) :
    PT1 X (.Assign [.Tuple [.Name x px, .Name y py] kt pt] (.Tuple [a, b] k2 pt2) pos) (sParL i j f g) := ⟨fun F0 H0 => iPS (ps_par hc hN hi hj hij hx hy (pa_cons ha.out (pa_cons hb.out pa_nil hst2) hst) hw hs) fun E σ H q => parL_read (fun v w σ' H' e z => by rw [← e]; exact z) q⟩
end

/-! ### a def -/
@[simp] def runF (n m : Nat) (g : Sl → Option Out) : List D → Option Ret := fun ds => if ds.length = n then (g (ds.map (fun d => some (false, d)) ++ List.replicate m none)).bind fun o => match o with
    | .rt d => some (.d d)
    | .rl xs => some (.l xs)
    | .nx _ => some (.d .none)
    | _ => none
  else none
theorem runF_len {n m : Nat} {g : Sl → Option Out} {ds : List D} {r : Ret} (e : runF n m g ds = some r) : ds.length = n := by
  unfold runF at e
  split at e
  · assumption
  · cases e
theorem start_get {K : Fg} {F : Hp} : ∀ {vs : List V} {ds : List D} {i m m' : Nat} {b : Bool} {d : D}, DpAll K F vs ds → (ds.map (fun d => some (false, d)) ++ List.replicate m (none : Option (Bool × D)))[i]? = some (some (b, d)) → b = false ∧ ∃ v, (vs.map some ++ List.replicate m' none)[i]? = some (some v) ∧ Dp K F v d
  | _, _, i, m, m', b, d, .nil, e => by
    simp only [List.map_nil, List.nil_append] at e
    rw [List.getElem?_replicate] at e
    split at e <;> cases e
  | _, _, 0, m, m', b, d, .cons h t, e => by
    simp at e
    obtain ⟨rfl, rfl⟩ := e
    exact ⟨rfl, _, by simp, h⟩
  | _, _, i + 1, m, m', b, d, .cons h t, e => by
    obtain ⟨h1, v, h2, h3⟩ := start_get (i := i) (m := m) (m' := m') (b := b) (d := d) t (by simpa using e)
    exact ⟨h1, v, by simpa using h2, h3⟩
theorem def_ok {P : Program} {w : World} {K : Fg} {mg : Str → Option Value} {base : Heap} {x qual : Str} {st : Stmt} {f : Addr} {fd : FuncData} {N ps : List Str} {k : Nat} {g : Sl → Option Out} (F : Fun K x qual st f fd) (S : FnScope N ps (defScope st)) (hN : N.length = ps.length + (N.length - ps.length))
    (h : ∀ (cdv : Value) (A : Around) (outer : List PySem.Env) (s : Shared) (H : Hp) (E : XK), Room k (A.deeper (PyProof.Rows.envOfC qual (defScope st) s.heap.objs.size f cdv)) → PTn (cxOf CX0 P w K mg base N qual (defScope st) f cdv A outer s H E).nox (defBody st) g) :
    FnOk P w K mg base CX0 (k + 1) f fd ps (spR K (runF ps.length (N.length - ps.length) g)) := by
  refine F.ok S (fun vs H Q E ⟨F1, ds, r, _, da, e, _⟩ => by rw [DpAll.len da]; exact runF_len e) (fun cdv A outer s H vs Q E hr ⟨F1, ds, r, sf, da, e, kq⟩ => ?_)
  have hl := runF_len e
  unfold runF at e
  rw [if_pos hl] at e
  obtain ⟨o, e1, e2⟩ := Option.bind_eq_some_iff.mp e
  refine ⟨_, (h cdv A outer s H E hr).out F1 H, F1, _, o, ?_, e1, ?_⟩
  · refine ⟨Same.refl _, Same.refl _, sf, fun b o q => .inl q, ?_, fun i d q => ?_, fun i d q => ?_, fun i j d d' a _ q => ?_⟩
    · unfold L2.start
      simp [DpAll.len da, hl]
    · obtain ⟨_, v, h1, h2⟩ := start_get (m' := N.length - vs.length) da q
      exact ⟨v, h1, h2⟩
    · obtain ⟨z, _⟩ := start_get (m' := 0) da q
      cases z
    · obtain ⟨z, _⟩ := start_get (m' := 0) da q
      cases z
  · cases o with
    | nx s => cases e2; exact fun σ' F' H' z => kq _ F' H' z.gr0 .non
    | bk s => cases e2
    | ct s => cases e2
    | rt d => cases e2; exact kq
    | rl d => cases e2; exact kq
end DL
namespace DL
open PySem PySem.Spec L2
section
variable {X : Cx} {pos : Pos} {a b : Expr} {f g : Ev → Option D}
/-- a whole number at the module's top -/
theorem pd_gint {x : Str} {i : Int} (h : ∃ t, X.mg x = some (.int i t)) (hg : Gl X x) (hd : (x == ("__debug__" : Str)) = false := by decide) : PD X (.Name x pos) (xC (.int i)) := by
  obtain ⟨t, h⟩ := h
  exact ⟨iPE (pe_glob (v := .int i) hg h ⟨t, rfl⟩ hd) fun σ H Q ⟨F, ds, d, sf, ev, e, k⟩ => by cases e; exact k _ F H (Gr.refl sf) (.int i)⟩
/-- a value's truth -/
@[simp] def truD : D → Option Bool
  | .none => some false
  | .bool b => some b
  | .int i => some (i != 0)
  | .list xs => some (!xs.isEmpty)
  | .tuple xs => some (!xs.isEmpty)
  | _ => none
@[simp] def bTru (f : Ev → Option D) : Ev → Option Bool := fun ds => (f ds).bind truD
theorem emp_of {K : Fg} {F : Hp} {vs : List V} {ds : List D} (h : DpAll K F vs ds) : vs.isEmpty = ds.isEmpty := by
  cases h <;> rfl
theorem pb_tru (ha : PD X a f) (he : ∀ whole, isTrue a X.env whole = (do let v ← whole; standAt a.pos; holding [v] (truthy v)) := by intro _; rfl) : PB X a (bTru f) := ⟨iPT (pt_truth ha.out he) fun σ H Q ⟨F, ds, b, sf, ev, e, k⟩ => by
  obtain ⟨d, e1, e2⟩ := Option.bind_eq_some_iff.mp e
  refine ⟨F, ds, d, sf, ev, e1, fun v F1 H1 g1 d1 => ⟨b, ?_, k F1 H1 g1⟩⟩
  cases d1 with
  | non => cases e2; rfl
  | bl b => cases e2; rfl
  | int b => cases e2; rfl
  | str b => cases e2
  | lst hs hv => cases e2; exact .inl ⟨_, g1.sub.seq hs, by rw [emp_of hv]⟩
  | tup hs hv => cases e2; exact .inr (.inl ⟨_, Same.seqT g1.sub hs, by rw [emp_of hv]⟩)⟩
variable {i j : Nat} {x y : Str} {px py pt pt2 : Pos} {kt k2 : Nat}
theorem tPairs {K : Fg} {F0 H0 : Hp} {t : TA} {E : Ends} {σ : St} {H : Hp} (q : t σ H fun vs H1 => ∃ v w, vs = [v, w] ∧ ∀ H', Same H1 H' → E.nx ((σ.set i (some v)).set j (some w)) H')
    (mono : ∀ (Q Q' : List V → Hp → Prop), (∀ vs H, Q vs H → Q' vs H) → t σ H Q → t σ H Q') : tAsg (tTup t) (gTup K 2 (gCons (gName i) (gCons (gName j) gNil))) E σ H := by
  refine mono _ _ (fun vs H1 ⟨v, w, e, k⟩ => ?_) q
  subst e
  refine ⟨by show 2 ≤ sizeLine; decide, fun p hp => ⟨p, _, rfl, SqT.of upd_same, rfl, _, _, rfl, _, _, rfl, rfl, ?_⟩⟩
  exact k _ (same_upd hp)
theorem fin_same {K : Fg} {F0 H0 : Hp} {E : Ends} {sl : Sl} (k : Fin K F0 H0 E (.nx sl)) : Fin K F0 H0 { E with nx := fun σ H => ∀ H', Same H H' → E.nx σ H' } (.nx sl) := fun σ F H s H' h => k σ F H' (s.grow h)
/-- one of the names is read by a comprehension -/
theorem pt_parT (i j : Nat) (hc : X.calm = true) (hN : X.N.Nodup) (ha : PD X a f) (hb : PD X b g) (hi : X.N[i]? = some x := by rfl) (hj : X.N[j]? = some y := by rfl) (hx : Loc X.env.scope x := by first | exact Or.inl rfl | exact Or.inr rfl) (hy : Loc X.env.scope y := by first | exact Or.inl rfl | exact Or.inr rfl)
    (hf : X.fn x = true ∨ X.env.scope.names.lookup x = some .local := by first | exact .inl rfl | exact .inr rfl) (hf' : X.fn y = true ∨ X.env.scope.names.lookup y = some .local := by first | exact .inl rfl | exact .inr rfl)
    (hst : starEach [a, b] X.env = (false, eval a X.env) :: starEach [b] X.env := by rfl) (hst2 : starEach [b] X.env = (false, eval b X.env) :: starEach [] X.env := by rfl)
    (hs : swapsWithSole [.Tuple [.Name x px, .Name y py] kt pt] (.Tuple [a, b] k2 pt2) pos.line X.env = pure false := by rfl) (hw : swappedStores [.Tuple [.Name x px, .Name y py] kt pt] (.Tuple [a, b] k2 pt2) X.env = pure none := by rfl)
    (h1 : (assignEach [.Tuple [.Name x px, .Name y py] kt pt] X.env).map (·.2) = [assign (.Tuple [.Name x px, .Name y py] kt pt) X.env] := by rfl) :
    PT1 X (.Assign [.Tuple [.Name x px, .Name y py] kt pt] (.Tuple [a, b] k2 pt2) pos) (sPar i j f g) := ⟨fun F0 H0 => iPS (ps_asg (pe_tup (pa_cons ha.out (pa_cons hb.out pa_nil hst2) hst)) (pg_tup hc (pgs_cons (pg_name hN hi hx hf) (pgs_cons (pg_name hN hj hy hf') pgs_nil))) hs hw h1) fun E σ H q => by
  refine tPairs (F0 := F0) (H0 := H0) ?_ fun Q Q' hQ ⟨F, ds, d, sf, ev, e, k⟩ => ⟨F, ds, d, sf, ev, e, fun v F1 H1 g1 d1 => by
    obtain ⟨F2, ds2, d2, sf2, ev2, e2, k2⟩ := k v F1 H1 g1 d1
    exact ⟨F2, ds2, d2, sf2, ev2, e2, fun w F3 H3 g3 d3 => hQ _ _ (k2 w F3 H3 g3 d3)⟩⟩
  refine par_read (F0 := F0) (H0 := H0) (E := { E with nx := fun σ H => ∀ H', Same H H' → E.nx σ H' }) (N := fun v w H1 => ∀ H', Same H1 H' → E.nx ((σ.set i (some v)).set j (some w)) H') (fun v w σ' H' e z => by rw [← e]; exact z) ?_
  obtain ⟨F, sl, o, s, e, k⟩ := q
  refine ⟨F, sl, o, s, e, ?_⟩
  obtain ⟨d, e1, e2⟩ := Option.bind_eq_some_iff.mp e
  obtain ⟨d', e3, e4⟩ := Option.bind_eq_some_iff.mp e2
  cases e4
  exact fin_same k⟩
end
/-! ### x[i] = a new list, x.append(a new list) of flat things -/
@[simp] def sItemL (i : Nat) (fi : Ev → Option D) (f : Ev → Option (List D)) : Sl → Option Out := fun sl => (ownL sl i).bind fun xs => (f (evs sl)).bind fun ys => (fi (evs sl)).bind fun k => (intOf k).bind fun k => (ixN xs.length k).bind fun j => if ys.all flat then some (.nx (sl.set i (some (true, .list (xs.set j (.list ys)))))) else none
@[simp] def sAppL (i : Nat) (f : Ev → Option (List D)) : Sl → Option Out := fun sl => (ownL sl i).bind fun xs => (f (evs sl)).bind fun ys => if ys.all flat && decide (xs.length < cap) then some (.nx (sl.set i (some (true, .list (xs ++ [.list ys]))))) else none
section
variable {X : Cx} {pos : Pos} {e ix : Expr} {fi : Ev → Option D} {f : Ev → Option (List D)} {K : Fg} {F0 H0 : Hp}
theorem itemL_read {i : Nat} {E : Ends} {σ : St} {H : Hp} (q : tS K F0 H0 (sItemL i fi f) E σ H) : tAsg (tL K f) (gSub (tVar i) (tD K fi) rSetL) E σ H := by
  obtain ⟨F, sl, o, s, e, k⟩ := q
  obtain ⟨xs, e1, e⟩ := Option.bind_eq_some_iff.mp e
  obtain ⟨ys, e2, e⟩ := Option.bind_eq_some_iff.mp e
  obtain ⟨ki, e3, e⟩ := Option.bind_eq_some_iff.mp e
  obtain ⟨n, e4, e⟩ := Option.bind_eq_some_iff.mp e
  obtain ⟨j, e5, e⟩ := Option.bind_eq_some_iff.mp e
  split at e
  case isFalse => cases e
  case isTrue z =>
  cases e
  cases intOf_eq e4
  have e1 := ownL_eq e1
  obtain ⟨F1, h1, s1⟩ := s.demo
  refine ⟨F1, evs sl, ys, s1.sub, s1.envD, e2, fun b ws F2 H2 g2 b1 b2 b3 b4 => ?_⟩
  have s2 : Stt K F0 H0 (upd F b (.lst ws)) H2 σ sl := s.lay g2.hh b2 b3
  obtain ⟨a, vs, ds, q1, q2, q3, q4, q5, q6⟩ := s2.ow i _ e1
  cases q1
  obtain ⟨F3, h3, s3⟩ := s2.demo
  refine ⟨.ref a, q2, F3, evs sl, .int n, s3.sub, s3.envD, e3, fun u F4 H4 g4 d4 => ?_⟩
  cases d4
  refine ⟨a, vs, n, j, rfl, rfl, g4.hh _ _ q5, by rw [DpAll.len q6]; exact e5, ?_⟩
  have dn : Dp K (upd F b (.lst ws)) (.ref b) (.list ys) := .lst (SqL.of upd_same) (DpAll.any b4 z)
  exact k σ _ _ ((s2.grow g4.hh).write e1 q2 (DpAll.set dn j q6))
theorem appL_read {i : Nat} {E : Ends} {σ : St} {H : Hp} (q : tS K F0 H0 (sAppL i f) E σ H) : tDrop (tBM K "list" rAppend (tVar i) (tCons (tL K f) tNil)) E σ H := by
  obtain ⟨F, sl, o, s, e, k⟩ := q
  obtain ⟨xs, e1, e⟩ := Option.bind_eq_some_iff.mp e
  obtain ⟨ys, e2, e⟩ := Option.bind_eq_some_iff.mp e
  split at e
  case isFalse => cases e
  case isTrue z =>
  rw [Bool.and_eq_true, decide_eq_true_eq] at z
  cases e
  have e1 := ownL_eq e1
  obtain ⟨a, vs, ds, q1, q2, q3, q4, q5, q6⟩ := s.ow i _ e1
  cases q1
  obtain ⟨F1, h1, s1⟩ := s.demo
  refine ⟨.ref a, q2, .inl ⟨rfl, _, SqL.of q5⟩, F1, evs sl, ys, s1.sub, s1.envD, e2, fun b ws F2 H2 g2 b1 b2 b3 b4 => ⟨a, vs, .ref b, rfl, rfl, g2.hh _ _ q5, ?_, ?_⟩⟩
  · rw [DpAll.len q6]
    have : cap < sizeLine := cap_lt
    omega
  · have s2 : Stt K F0 H0 (upd F b (.lst ws)) H2 σ sl := s.lay g2.hh b2 b3
    have dn : Dp K (upd F b (.lst ws)) (.ref b) (.list ys) := .lst (SqL.of upd_same) (DpAll.any b4 z.1)
    exact k σ _ _ (s2.write e1 q2 (DpAll.app (DpAll_mono (same_upd (s.sub.free b2)) q6) (.cons dn .nil)))
theorem pt_itemL (i : Nat) {x : Str} {p1 sp : Pos} (he : PL X e f) (hi : PD X ix fi) (hN : X.N[i]? = some x := by rfl) (hv : Vis X.env.scope x := by first | exact Or.inl rfl | exact Or.inr (Or.inl rfl) | exact Or.inr (Or.inr rfl)) (hd : (x == ("__debug__" : Str)) = false := by decide) (hcd : (x == ("__classdict__" : Str)) = false := by decide)
    (ha : ∀ v, assign (.Subscript (.Name x p1) ix sp) X.env v = (do
      let ov ← holding [v] (eval (.Name x p1) X.env)
      let iv ← holding [v, ov] (eval ix X.env)
      standAt sp
      holding [v, ov, iv] (setItem ov iv v)
      release [v, ov, iv] []) := by intro _; rfl) (hs : swapsWithSole [.Subscript (.Name x p1) ix sp] e pos.line X.env = pure false := by rfl) (hw : swappedStores [.Subscript (.Name x p1) ix sp] e X.env = pure none := by rfl)
    (h1 : (assignEach [.Subscript (.Name x p1) ix sp] X.env).map (·.2) = [assign (.Subscript (.Name x p1) ix sp) X.env] := by rfl) :
    PT1 X (.Assign [.Subscript (.Name x p1) ix sp] e pos) (sItemL i fi f) := ⟨fun F0 H0 => iPS (ps_asg he.out (pg_sub (pe_var hN hv hd hcd) hi.out set_list ha) hs hw h1) fun E σ H q => itemL_read q⟩
theorem pt_appL (i : Nat) {x : Str} {p1 ap cp : Pos} (he : PL X e f) (hN : X.N[i]? = some x := by rfl) (hv : Vis X.env.scope x := by first | exact Or.inl rfl | exact Or.inr (Or.inl rfl) | exact Or.inr (Or.inr rfl)) (hd : (x == ("__debug__" : Str)) = false := by decide) (hcd : (x == ("__classdict__" : Str)) = false := by decide)
    (hst : starEach [e] X.env = (false, eval e X.env) :: starEach [] X.env := by rfl) (hline : (ap.endLine == cp.line) = true := by rfl) (hs : swapsWith (.Call (.Attribute (.Name x p1) "append" ap) [e] [] cp) none pos.line X.env = pure false := by rfl) :
    PT1 X (.Expr (.Call (.Attribute (.Name x p1) "append" ap) [e] [] cp) pos) (sAppL i f) := ⟨fun F0 H0 => iPS (ps_expr (pe_bm PySem.F.plainAttrs_list PySem.F.slot_list_append PySem.F.type_list_append mt_append (pe_var hN hv hd hcd) (pa_cons he.out pa_nil hst) (hfew := by rw [hst]; rfl) (hline := hline) (hs := hst)) hs) fun E σ H q => appL_read q⟩
end
end DL
/-! SETS of whole numbers, with their tables' places: made of a list, walked, sorted. -/
namespace DS
open PySem PySem.Spec

def Rise (xs : Array Nat) : Prop := xs.toList.Pairwise (· < ·)
theorem rise_lt {xs : Array Nat} (h : Rise xs) {i j a b : Nat} (hij : i < j) (ha : xs[i]? = some a) (hb : xs[j]? = some b) : a < b := by
  have h1 : i < xs.size := (Array.getElem?_eq_some_iff.mp ha).1
  have h2 : j < xs.size := (Array.getElem?_eq_some_iff.mp hb).1
  have := List.pairwise_iff_getElem.mp h i j (by simpa using h1) (by simpa using h2) hij
  rw [Array.getElem?_eq_getElem h1] at ha
  rw [Array.getElem?_eq_getElem h2] at hb
  simp only [Array.getElem_toList] at this
  rw [Option.some.inj ha, Option.some.inj hb] at this
  exact this
/-- how many stand below j -/
theorem below_go {xs : Array Nat} {j : Nat} (hr : Rise xs) : ∀ (fuel lo hi : Nat), lo ≤ hi → hi ≤ xs.size → hi - lo ≤ fuel → (∀ i v, i < lo → xs[i]? = some v → v < j) → (∀ i v, hi ≤ i → xs[i]? = some v → j ≤ v) →
    SetTable.below.go xs j fuel lo hi ≤ xs.size ∧ (∀ i v, i < SetTable.below.go xs j fuel lo hi → xs[i]? = some v → v < j) ∧ (∀ i v, SetTable.below.go xs j fuel lo hi ≤ i → xs[i]? = some v → j ≤ v)
  | 0, lo, hi, h1, h2, h3, h4, h5 => by
    have e : lo = hi := by omega
    subst e
    exact ⟨h2, h4, h5⟩
  | fuel + 1, lo, hi, h1, h2, h3, h4, h5 => by
    unfold SetTable.below.go
    by_cases hlt : lo < hi
    · rw [if_pos hlt]
      have hm : (lo + hi) / 2 < xs.size := by omega
      have em : xs[(lo + hi) / 2]? = some xs[(lo + hi) / 2] := Array.getElem?_eq_getElem hm
      have eg : xs.getD ((lo + hi) / 2) j = xs[(lo + hi) / 2] := by simp [Array.getD, hm]
      show _ ∧ _ ∧ _
      by_cases hc : xs.getD ((lo + hi) / 2) j < j
      · simp only [hc, if_true]
        refine below_go hr fuel _ hi (by omega) h2 (by omega) (fun i v hi' e => ?_) h5
        by_cases z : i = (lo + hi) / 2
        · subst z; rw [em] at e; rw [← Option.some.inj e, ← eg]; exact hc
        · have := rise_lt hr (show i < (lo + hi) / 2 by omega) e em
          rw [eg] at hc
          omega
      · simp only [hc, if_false]
        refine below_go hr fuel lo _ (by omega) (by omega) (by omega) h4 (fun i v hi' e => ?_)
        by_cases z : i = (lo + hi) / 2
        · subst z; rw [em] at e; rw [← Option.some.inj e]; rw [eg] at hc; omega
        · have := rise_lt hr (show (lo + hi) / 2 < i by omega) em e
          rw [eg] at hc
          omega
    · rw [if_neg hlt]
      have e : lo = hi := by omega
      subst e
      exact ⟨h2, h4, h5⟩
theorem below_spec {xs : Array Nat} (hr : Rise xs) (j : Nat) : SetTable.below xs j ≤ xs.size ∧ (∀ i v, i < SetTable.below xs j → xs[i]? = some v → v < j) ∧ (∀ i v, SetTable.below xs j ≤ i → xs[i]? = some v → j ≤ v) :=
  below_go hr xs.size 0 xs.size (Nat.zero_le _) (Nat.le_refl _) (by omega) (fun i v h => absurd h (Nat.not_lt_zero _)) (fun i v h e => by
    have := (Array.getElem?_eq_some_iff.mp e).1
    omega)
/-- the place behind which i comes is i's own -/
theorem below_at {xs : Array Nat} (hr : Rise xs) {i v : Nat} (e : xs[i]? = some v) : SetTable.below xs v = i := by
  obtain ⟨h1, h2, h3⟩ := below_spec hr v
  rcases Nat.lt_trichotomy (SetTable.below xs v) i with h | h | h
  · have hlt : SetTable.below xs v < xs.size := Nat.lt_trans h (Array.getElem?_eq_some_iff.mp e).1
    have e2 : xs[SetTable.below xs v]? = some xs[SetTable.below xs v] := Array.getElem?_eq_getElem hlt
    have := h3 _ _ (Nat.le_refl _) e2
    have := rise_lt hr h e2 e
    omega
  · exact h
  · have := h2 i v h e
    omega
theorem below_next {xs : Array Nat} (hr : Rise xs) {i v : Nat} (e : xs[i]? = some v) : SetTable.below xs (v + 1) = i + 1 := by
  obtain ⟨h1, h2, h3⟩ := below_spec hr (v + 1)
  have hi := (Array.getElem?_eq_some_iff.mp e).1
  rcases Nat.lt_trichotomy (SetTable.below xs (v + 1)) (i + 1) with h | h | h
  · have := h3 i v (by omega) e
    omega
  · exact h
  · have hlt : i + 1 < xs.size := by omega
    have e2 : xs[i + 1]? = some xs[i + 1] := Array.getElem?_eq_getElem hlt
    have := h2 _ _ h e2
    have := rise_lt hr (Nat.lt_succ_self i) e e2
    omega
theorem below_zero {xs : Array Nat} (hr : Rise xs) : SetTable.below xs 0 = 0 := by
  obtain ⟨h1, h2, h3⟩ := below_spec hr 0
  rcases Nat.eq_zero_or_pos (SetTable.below xs 0) with h | h
  · exact h
  · have hlt : 0 < xs.size := by omega
    have := h2 0 _ h (Array.getElem?_eq_getElem hlt)
    omega
theorem rise_insert {xs : Array Nat} {j : Nat} (hr : Rise xs) (hn : xs[SetTable.below xs j]? ≠ some j) : Rise (SetTable.insertAt xs (SetTable.below xs j) j) := by
  obtain ⟨h1, h2, h3⟩ := below_spec hr j
  unfold Rise
  rw [SetTable.toList_insertAt]
  generalize hp : SetTable.below xs j = p at *
  have at_ : ∀ i v, xs.toList[i]? = some v → xs[i]? = some v := fun i v e => by rw [← Array.getElem?_toList]; exact e
  rw [List.pairwise_append]
  refine ⟨List.Pairwise.sublist (List.take_sublist ..) hr, ?_, fun a ha b hb => ?_⟩
  · rw [List.pairwise_cons]
    refine ⟨fun b hb => ?_, List.Pairwise.sublist (List.drop_sublist ..) hr⟩
    obtain ⟨i, e⟩ := List.getElem?_of_mem hb
    rw [List.getElem?_drop] at e
    have := h3 _ _ (Nat.le_add_right p i) (at_ _ _ e)
    rcases Nat.eq_or_lt_of_le this with z | z
    · subst z
      cases i with
      | zero => exact absurd (at_ _ _ e) hn
      | succ i =>
        have hlt : p < xs.size := Nat.lt_of_le_of_lt (Nat.le_add_right p (i + 1)) (Array.getElem?_eq_some_iff.mp (at_ _ _ e)).1
        have e2 := Array.getElem?_eq_getElem hlt
        have a1 := h3 _ _ (Nat.le_refl p) e2
        have a2 := rise_lt hr (show p < p + (i + 1) by omega) e2 (at_ _ _ e)
        omega
    · exact z
  · obtain ⟨i, e⟩ := List.getElem?_of_mem ha
    have hi : i < p := by
      have := (List.getElem?_eq_some_iff.mp e).1
      rw [List.length_take] at this
      omega
    rw [List.getElem?_take_of_lt hi] at e
    have a1 := h2 i a hi (at_ _ _ e)
    rcases List.mem_cons.mp hb with rfl | hb
    · exact a1
    · obtain ⟨k, e'⟩ := List.getElem?_of_mem hb
      rw [List.getElem?_drop] at e'
      have := h3 _ _ (Nat.le_add_right p k) (at_ _ _ e')
      omega
theorem rise_range (n : Nat) : Rise (Array.range n) := by
  unfold Rise
  rw [Array.toList_range]
  exact List.pairwise_lt_range
/-- a table whose places rise and that is led as L says -/
structure TOk (L : Bool) (t : SetTable) : Prop where
  rise : Rise t.place
  led : t.led = L
theorem TOk.standIn {L : Bool} {t : SetTable} (h : TOk L t) (n : Nat) : TOk L (t.standIn n) := ⟨rise_range n, h.led⟩
theorem TOk.orStandIn {L : Bool} {t : SetTable} (h : TOk L t) (n : Nat) : TOk L (t.orStandIn n) := by
  unfold SetTable.orStandIn
  split
  · exact h
  · exact h.standIn n
theorem slot_free {t : SetTable} {j : Nat} (h : t.slot j = .empty ∨ t.slot j = .dummy) : t.place[SetTable.below t.place j]? ≠ some j := by
  intro e
  unfold SetTable.slot at h
  simp only [e, beq_self_eq_true, if_true] at h
  rcases h with h | h <;> cases h
theorem probe_free {t : SetTable} {hashAt : Nat → Int} {hh : Int} : ∀ (fuel : Nat) (p : SetTable.Probe) (j : Nat) (d : Option Nat), (∀ k, p.dummy = some k → t.slot k = .dummy) → SetTable.probe.go t hashAt hh fuel p = some (.empty j d) → t.slot j = .empty ∧ ∀ k, d = some k → t.slot k = .dummy
  | 0, p, j, d, hd, e => by cases e
  | fuel + 1, p, j, d, hd, e => by
    unfold SetTable.probe.go at e
    have adv : ∀ q : SetTable.Probe, (t.advance q).dummy = q.dummy := fun q => by
      unfold SetTable.advance
      split <;> rfl
    cases hs : t.slot p.j with
    | empty =>
      simp only [hs] at e
      cases e
      exact ⟨hs, hd⟩
    | dummy =>
      simp only [hs] at e
      exact probe_free fuel _ j d (fun k ek => by rw [adv] at ek; cases ek; exact hs) e
    | live i =>
      simp only [hs] at e
      split at e
      · cases e
      · exact probe_free fuel _ j d (fun k ek => by rw [adv] at ek; exact hd k ek) e
theorem TOk.layNew {L : Bool} {t : SetTable} (h : TOk L t) (es : Array (Int × Value)) (hh : Int) (x : Value) : TOk L (layNew t es hh x).2.1 := by
  unfold PySem.layNew
  split
  · rename_i slot wasDummy e
    have hf : t.place[SetTable.below t.place slot]? ≠ some slot := by
      unfold SetTable.freeSlot at e
      split at e
      · rename_i j d q
        cases e
        obtain ⟨h1, h2⟩ := probe_free _ _ _ _ (fun k ek => by cases ek) q
        cases d with
        | none => exact slot_free (.inl h1)
        | some k => exact slot_free (.inr (h2 k rfl))
      · cases e
    have h2 : TOk L (t.put slot).1 := ⟨rise_insert h.rise hf, h.led⟩
    exact h2.orStandIn _
  · exact h.standIn _
theorem TOk.relayAll {L : Bool} {t : SetTable} (h : TOk L t) (es : Array (Int × Value)) (wanted : Nat) : TOk L (relayAll t es wanted).2.1 := by
  unfold PySem.relayAll
  split
  · rename_i t' order e
    have ht : TOk L t' := by
      unfold SetTable.relaid SetTable.laid at e
      obtain ⟨owner, _, e⟩ := Option.bind_eq_some_iff.mp e
      cases e
      refine ⟨?_, h.led⟩
      show List.Pairwise (· < ·) (List.map _ _)
      rw [List.pairwise_map, List.pairwise_filterMap]
      refine List.Pairwise.imp ?_ List.pairwise_lt_range
      intro a b hab x hx y hy
      obtain ⟨_, _, rfl⟩ := Option.map_eq_some_iff.mp hx
      obtain ⟨_, _, rfl⟩ := Option.map_eq_some_iff.mp hy
      exact hab
    dsimp only
    split
    · exact ht
    · exact h.standIn _
  · exact h.standIn _
end DS
namespace DS
open PySem Spec PyProof.Rows

def byText (w : World) : Bool := w.params.followText "set-order"
/-- a set of the ints ms, each once -/
structure SetAt (prog : Program) (w : World) (h : Heap) (a : Addr) (es : Array (Int × Value)) (ep : Nat) (t : SetTable) : Prop where
  ob : ∃ o, h.get? a = some o ∧ o.ExactSet ∧ o.data = .set es ep t
  el : ElemsOf (intKind prog w) es.toList
  sm : es.size < scanBound
  ft : t.fits es.size = true
  tk : TOk (!byText w) t
def Has (es : Array (Int × Value)) (ms : List Int) : Prop := ∃ ns, IntsAre (es.toList.map (·.2)) ns ∧ ns.Perm ms
def SetR (prog : Program) (w : World) (h : Heap) (a : Addr) (ms : List Int) : Prop := ∃ es ep t, SetAt prog w h a es ep t ∧ Has es ms
theorem intsAre_perm {vs ws : List Value} (p : vs.Perm ws) : ∀ {ns : List Int}, IntsAre vs ns → ∃ ms, IntsAre ws ms ∧ ms.Perm ns := by
  induction p with
  | nil =>
    intro ns h
    cases h
    exact ⟨[], .nil, .nil⟩
  | cons x p ih =>
    intro ns h
    cases h with
    | cons n t h =>
      obtain ⟨ms, h1, h2⟩ := ih h
      exact ⟨n :: ms, .cons n t h1, h2.cons n⟩
  | swap x y l =>
    intro ns h
    cases h with
    | cons n t h =>
      cases h with
      | cons m u h => exact ⟨_, .cons m u (.cons n t h), .swap _ _ _⟩
  | trans p q ih1 ih2 =>
    intro ns h
    obtain ⟨ms, h1, h2⟩ := ih1 h
    obtain ⟨ks, h3, h4⟩ := ih2 h1
    exact ⟨ks, h3, h4.trans h2⟩
theorem intsAre_app : ∀ {vs : List Value} {ns : List Int} (n : Int) (t : Tok), IntsAre vs ns → IntsAre (vs ++ [.int n t]) (ns ++ [n])
  | _, _, n, t, .nil => .cons n t .nil
  | _, _, n, t, .cons m u h => .cons m u (intsAre_app n t h)
theorem intsAre_mem : ∀ {vs : List Value} {ns : List Int} {k : Int}, IntsAre vs ns → ((∃ v ∈ vs, Value.isInt k v = true) ↔ k ∈ ns)
  | _, _, k, .nil => by simp
  | _, _, k, .cons n t h => by
    have ih := intsAre_mem (k := k) h
    simp only [List.mem_cons, exists_eq_or_imp, ih]
    constructor
    · rintro (h | h)
      · left; simp [Value.isInt] at h; omega
      · exact .inr h
    · rintro (h | h)
      · left; simp [Value.isInt, h]
      · exact .inr h
theorem Has.perm {es es' : Array (Int × Value)} {ms : List Int} (h : Has es ms) (p : es'.toList.Perm es.toList) : Has es' ms := by
  obtain ⟨ns, h1, h2⟩ := h
  obtain ⟨ks, h3, h4⟩ := intsAre_perm (p.symm.map (·.2)) h1
  exact ⟨ks, h3, h4.trans h2⟩
theorem perm_size {α : Type} {xs ys : Array α} (p : xs.toList.Perm ys.toList) : xs.size = ys.size := p.length_eq
section
variable {P : Program} {w : World} {A : Around} {E : Value → Shared → Prop} {s : Shared}
theorem SetAt.keep {h h' : Heap} {a : Addr} {es : Array (Int × Value)} {ep : Nat} {t : SetTable} (S : SetAt P w h a es ep t) (k : ∀ o, h.get? a = some o → h'.get? a = some o) : SetAt P w h' a es ep t :=
  { S with ob := let ⟨o, e, q⟩ := S.ob; ⟨o, k o e, q⟩ }
theorem SetR.keep {h h' : Heap} {a : Addr} {ms : List Int} (S : SetR P w h a ms) (k : ∀ o, h.get? a = some o → h'.get? a = some o) : SetR P w h' a ms :=
  let ⟨es, ep, t, S, q⟩ := S; ⟨es, ep, t, S.keep k, q⟩
/-- what is stored stands there -/
theorem store_at {a : Addr} {es es' : Array (Int × Value)} {ep : Nat} {t t' : SetTable} {Q : Unit → Shared → Prop} (S : SetAt P w s.heap a es ep t) (el : ElemsOf (intKind P w) es'.toList) (sm : es'.size < scanBound) (ft : t'.fits es'.size = true) (tk : TOk (!byText w) t')
    (k : ∀ h', Heap.SameBut a s.heap h' → SetAt P w h' a es' (ep + 1) t' → Q () { s with heap := h' }) : wpAny (model P w) A (storeSet a es' t') Q E s := by
  obtain ⟨o, e, hx, hd⟩ := S.ob
  have eo := putSet_of es' t' hd
  have z := Heap.get?_update_self (Obj.putSet es' t') e (by rw [eo]; rfl)
  rw [eo] at z
  exact wpAny_storeSet_of e hd (k _ (Heap.SameBut.update _ a _) ⟨⟨_, z, hx, rfl⟩, el, sm, ft, tk⟩) (fits_of_scanBound sm)
/-- stored, and where the table has got too full stored once more, laid anew -/
theorem store_end {a : Addr} {es es1 es2 : Array (Int × Value)} {ep : Nat} {t t1 t2 : SetTable} {ms : List Int} {c : Bool} {g : Sem Unit} {R : Option Bool → Shared → Prop} (S : SetAt P w s.heap a es ep t)
    (el : ElemsOf (intKind P w) es1.toList) (sm : es1.size < scanBound) (ft : t1.fits es1.size = true) (tk : TOk (!byText w) t1) (hm : Has es1 ms) (p2 : es2.toList.Perm es1.toList) (ft2 : t2.fits es2.size = true) (tk2 : TOk (!byText w) t2)
    (hg : ∀ (s₁ : Shared) (Q' : Unit → Shared → Prop), Q' () s₁ → wpAny (model P w) A g Q' E s₁) (k : ∀ h', Heap.SameBut a s.heap h' → SetR P w h' a ms → R (some true) { s with heap := h' }) :
    wpAny (model P w) A (storeSet a es1 t1 >>= fun _ => if c = true then g >>= fun _ => storeSet a es2 t2 >>= fun _ => pure (some true) else pure (some true)) R E s :=
  wpAny_bind (store_at S el sm ft tk fun h1 b1 S1 => by
    by_cases hc : c = true
    · rw [if_pos hc]
      refine wpAny_bind (hg _ _ (wpAny_bind (store_at (s := { s with heap := h1 }) S1 (el.perm p2) (perm_size p2 ▸ sm) ft2 tk2 fun h2 b2 S2 => wpAny_pure (k h2 (b1.trans b2) ⟨_, _, _, S2, hm.perm p2⟩))))
    · rw [if_neg hc]
      exact wpAny_pure (k h1 b1 ⟨_, _, _, S1, hm⟩))
def insL (k : Int) (ms : List Int) : List Int := if k ∈ ms then ms else ms ++ [k]
theorem Has.mem {es : Array (Int × Value)} {ms : List Int} {k : Int} (h : Has es ms) : (∃ e ∈ es.toList, (intKind P w).is k e.2 = true) ↔ k ∈ ms := by
  obtain ⟨ns, h1, h2⟩ := h
  rw [← h2.mem_iff, ← intsAre_mem h1]
  exact ⟨fun ⟨e, x, y⟩ => ⟨e.2, List.mem_map_of_mem x, y⟩, fun ⟨v, x, y⟩ => let ⟨e, z, q⟩ := List.mem_map.mp x; ⟨e, z, q ▸ y⟩⟩
theorem Has.size {es : Array (Int × Value)} {ms : List Int} (h : Has es ms) : es.size = ms.length := by
  obtain ⟨ns, h1, h2⟩ := h
  have := h1.length
  rw [List.length_map] at this
  exact this.trans h2.length_eq
theorem Has.push {es es' : Array (Int × Value)} {ms : List Int} {k h : Int} {tk : Tok} (H : Has es ms) (hk : k ∉ ms) (p : es'.toList.Perm (es.push (h, .int k tk)).toList) : Has es' (insL k ms) := by
  refine Has.perm ?_ p
  obtain ⟨ns, h1, h2⟩ := H
  refine ⟨ns ++ [k], ?_, ?_⟩
  · rw [Array.toList_push, List.map_append]
    exact intsAre_app k tk h1
  · unfold insL
    rw [if_neg hk]
    exact h2.append_right _
/-- one more int for the set -/
theorem set_add {a : Addr} {ms : List Int} {k : Int} {tk : Tok} {Q : Bool → Shared → Prop} (hS : SetR P w s.heap a ms) (room : ms.length + 1 < scanBound) (go : ∀ h' b, Heap.SameBut a s.heap h' → SetR P w h' a (insL k ms) → Q b { s with heap := h' }) :
    wpAny (model P w) A (setAddHashed a (.int k tk) ((intKind P w).hash k)) Q E s := by
  obtain ⟨es, ep, t, S, H⟩ := hS
  obtain ⟨o, ho, -, hd⟩ := S.ob
  have is : (intKind P w).is k (.int k tk) = true := intKind_is _ _ _ _
  have sc : (Value.int k tk).scannable = true := rfl
  have gv : ∀ (b : Bool) (s₁ : Shared) (Q' : Unit → Shared → Prop), Q' () s₁ → wpAny (model P w) A (match b with | true => rule "set.scan.the-table-gave-way" | false => pure ()) Q' E s₁
    | true, _, _, q => wpAny_rule q
    | false, _, _, q => wpAny_pure q
  unfold setAddHashed setAddHashedIn; refine wpAny_holding (wpAny_bind (wpAny_setState_of ho hd S.ft ?_))
  dsimp only; rw [show byScan (.int k tk) es = true from byScan_of sc S.sm S.el, if_pos rfl]
  unfold setAddByScan; refine wpAny_bind (wpAny_bind (wpAny_rule (wpAny_bind (wpAny_setScan_of is ho hd S.ft S.el ?_))))
  cases hf : es.toList.findIdx? (fun e => (intKind P w).is k e.2) with
  | some j =>
    obtain ⟨lt, y, -⟩ := List.findIdx?_eq_some_iff_getElem.mp hf
    have hk : k ∈ ms := H.mem.mp ⟨_, List.getElem_mem lt, y⟩
    exact wpAny_pure (wpAny_pure (go s.heap false (.refl ..) (by unfold insL; rw [if_pos hk]; exact ⟨es, ep, t, S, H⟩)))
  | none =>
    have hk : k ∉ ms := fun z => by
      obtain ⟨e, x, y⟩ := (H.mem (P := P) (w := w)).mpr z
      rw [List.findIdx?_eq_none_iff.mp hf e x] at y
      cases y
    have p1 := layNew_perm t es ((intKind P w).hash k) (.int k tk)
    have f1 := layNew_fits t es ((intKind P w).hash k) (.int k tk)
    have k1 := S.tk.layNew es ((intKind P w).hash k) (.int k tk)
    dsimp only
    generalize layNew t es ((intKind P w).hash k) (.int k tk) = L at p1 f1 k1 ⊢
    obtain ⟨es1, t1, du, ga⟩ := L
    have H1 := H.push hk p1
    have el1 : ElemsOf (intKind P w) es1.toList := (S.el.push is sc).perm (by rw [← Array.toList_push]; exact p1)
    have sm1 : es1.size < scanBound := by
      have := perm_size p1
      rw [Array.size_push] at this
      rw [this, H.size]
      exact room
    have fin : ∀ h', Heap.SameBut a s.heap h' → SetR P w h' a (insL k ms) → Q true { s with heap := h' } := fun h' => go h' true
    refine wpAny_bind (gv ga _ _ ?_)
    split
    · rw [hashByValue_scannable 8 sc]
      refine wpAny_bind (wpAny_pure (store_end S el1 sm1 ?_ ?_ H1 (relayAll_perm _ _ _) (relayAll_fits _ _ _) (TOk.relayAll ?_ _ _) (gv _) fun h' b S' => wpAny_pure (fin h' b S')))
      all_goals split
      all_goals first | exact f1 | exact SetTable.fits_plain_off f1 | exact k1 | exact ⟨k1.rise, k1.led⟩
    · exact wpAny_bind (wpAny_pure (store_end S el1 sm1 f1 k1 H1 (relayAll_perm _ _ _) (relayAll_fits _ _ _) (k1.relayAll _ _) (gv _) fun h' b S' => wpAny_pure (fin h' b S')))
end
def metL (val : Nat → Int) : Nat → List Int
  | 0 => []
  | i + 1 => insL (val i) (metL val i)
theorem metL_len (val : Nat → Int) : ∀ i, (metL val i).length ≤ i
  | 0 => Nat.le_refl _
  | i + 1 => by
    have := metL_len val i
    unfold metL insL
    split
    · omega
    · simp; omega
/-- all of h is still there -/
def Still (h h' : Heap) : Prop := ∀ b o, h.get? b = some o → h'.get? b = some o
section
variable {P : Program} {w : World} {A : Around} {R : Result → Shared → Prop} {h0 : Heap} {I S l : Addr} {items : Array Value} {ns : List Int}
/-- set.update, from the list's item j on -/
theorem fill_from (W : Walks P w A.in1 I [I, l] [I] items.size (fun i v => items[i]? = some v) (fun i h => h.IsListIter I l i ∧ h.IsList l items)) (nI : h0.get? I = none) (nS : h0.get? S = none) (sI : S ≠ I) (ne : l ≠ S) (small : items.size + 1 < scanBound)
    (hv : ∀ (i : Nat) (v : Value), items[i]? = some v → ∃ t, v = .int (ns.getD i 0) t) : ∀ (k j : Nat) (s : Shared), j + k = items.size → Still h0 s.heap → (s.heap.IsListIter I l j ∧ s.heap.IsList l items) → SetR P w s.heap S (metL (fun i => ns.getD i 0) j) →
      (∀ h' tk, Still h0 h' → SetR P w h' S (metL (fun i => ns.getD i 0) items.size) → R (.ok (.ret .none)) { s with heap := h', toks := tk }) → codeAny (model P w) A (.builtin "set.update.loop" ⟨[.ref S, .ref I], []⟩) R s := by
  have away : ∀ {h h' : Heap}, Still h0 h → (∀ b o, b ∉ [I] → h.get? b = some o → h'.get? b = some o) → Still h0 h' := fun x y b o e => y b o (fun z => by rw [List.mem_singleton.mp z, nI] at e; cases e) (x b o e)
  intro k
  induction k with
  | zero =>
    intro j s ej old at_ set go
    refine codeAny_builtin F.entry_set_update_loop (by
      rw [Around.under_plainId F.plain_set_update_loop _]
      refine wpAny_bind (m := pyNext (.ref I)) (W.done _ _ _ (by rw [← ej]; exact at_) fun h1 tk kp => wpAny_pure ?_)
      have z := go h1 tk (away old kp)
      rw [← ej] at z
      exact z (set.keep fun o e => kp S o (fun q => sI (List.mem_singleton.mp q)) e))
  | succ k ih =>
    intro j s ej old at_ set go
    refine codeAny_builtin F.entry_set_update_loop (by
      rw [Around.under_plainId F.plain_set_update_loop _]
      refine wpAny_bind (m := pyNext (.ref I)) (W.item j _ _ _ (by omega) at_ fun v h1 tk iv at1 kp => ?_)
      obtain ⟨t, rfl⟩ := hv j v iv
      have set1 := set.keep fun o e => kp S o (fun q => sI (List.mem_singleton.mp q)) e
      refine wpAny_bind (m := holding _ (setAdd S _)) (wpAny_holding (m := setAdd S _) ?_)
      unfold setAdd; refine wpAny_holding (wpAny_bind ((intKind P w).pyHash (intKind_is _ _ _ _) ?_))
      refine set_add (s := ⟨h1, s.gens, s.drawn, tk + 1, s.os⟩) set1 (by have := metL_len (fun i => ns.getD i 0) j; omega) fun h2 _ sb set2 => wpAny_pure ⟨plainId_quiet F.plain_set_update_loop _, ?_⟩
      have kp2 : ∀ b o, b ≠ S → h1.get? b = some o → h2.get? b = some o := fun b o nb e => (sb.2 b nb).trans e
      refine ih (j + 1) ⟨h2, s.gens, s.drawn, tk + 1, s.os⟩ (by omega) (fun b o e => kp2 b o (fun z => ?_) (away old kp b o e)) ⟨at1.1.at fun o e => kp2 I o (Ne.symm sI) e, at1.2.at fun o e => kp2 l o ne e⟩ set2 go
      rw [z, nS] at e
      cases e)
end
/-- a new set's object -/
abbrev bare (w : World) : Obj := { cls := .type "set", dict := none, data := .set #[] 0 (.fresh 0 0 (!byText w)) }
theorem bare_is {P : Program} {w : World} {h : Heap} {a : Addr} (e : h.get? a = some (bare w)) : SetR P w h a [] :=
  ⟨#[], 0, _, ⟨⟨_, e, ⟨rfl, rfl, rfl⟩, rfl⟩, (fun _ he => nomatch he), by decide, rfl, ⟨.nil, rfl⟩⟩, [], .nil, .nil⟩
section
variable {P : Program} {w : World} {A : Around} {E : Value → Shared → Prop} {s : Shared}
theorem made (x : Value) {Q : Value → Shared → Prop} (k : Q (.ref s.heap.objs.size) { s with heap := s.heap.push (bare w) }) : codeAny (model P w) A (.call (.builtin "set.__new__") ⟨[.type "set", x], []⟩) (wants Q E) s := by
  refine codeAny_of_tree (wpAny_bind (m := checkBuiltinCall "set.__new__" ⟨[.type "set", x], []⟩) (wpAny_of_eq (F.newCall_set_1 x) (wpAny_pure ⟨plainId_quiet F.plain_set_new _, codeAny_builtin F.entry_set_new ?_⟩)))
  rw [Around.under_plainId F.plain_set_new _]; unfold Builtin.«set.__new__» Builtin.Frozenset.newClass
  have sub := sub_set_self
  cases s
  wp_walk
  refine wpAny_askSetting (wpAny_pure ?_)
  dsimp only [newObj]
  exact wpAny_bind (m := alloc _) (wpAny_alloc (wpAny_pure (wpAny_pure k)))
theorem wants_then {c : Code} {Q : Value → Shared → Prop} {R : Result → Shared → Prop} (h : codeAny (model P w) A c (wants Q E) s) (k : ∀ v s', Q v s' → R (.ok (.ret v)) s') (ke : ∀ e s', E e s' → R (.error e) s') : codeAny (model P w) A c R s :=
  codeAny_mono h fun r s' q => match r, q with
    | .ok (.ret v), q => k v s' q
    | .error e, q => ke e s' q
theorem int_items {items : Array Value} {ns : List Int} (hi : IntsAre items.toList ns) (i : Nat) (v : Value) (e : items[i]? = some v) : ∃ t, v = .int (ns.getD i 0) t :=
  IntsAre.int_at hi i v (by rwa [Array.getElem?_toList])
/-- what set.__init__ leaves -/
abbrev Filled (P : Program) (w : World) (s : Shared) (a : Addr) (ns : List Int) (n : Nat) : Value → Shared → Prop := fun r s' => r = .none ∧ ∃ h' tk, s' = { s with heap := h', toks := tk } ∧ SetR P w h' a (metL (fun i => ns.getD i 0) n) ∧ Still s.heap h'
set_option maxHeartbeats 3000000 in
theorem init_from {l : Addr} {items : Array Value} {ns : List Int} (hh : A.handled = none) (hl : s.heap.IsList l items) (hi : IntsAre items.toList ns) (hb : items.size + 1 < scanBound) :
    codeAny (model P w) A (.call (.builtin "set.__init__") ⟨[.ref s.heap.objs.size, .ref l], []⟩) (wants (Filled P w s s.heap.objs.size ns items.size) E) { s with heap := s.heap.push (bare w) } := by
  have eS : (s.heap.push (bare w)).get? s.heap.objs.size = some (bare w) := Heap.get?_push_size _ rfl
  have hT : Shared.TypeIs { s with heap := s.heap.push (bare w) } (.ref s.heap.objs.size) "set" := ⟨_, eS, rfl⟩
  refine codeAny_call_builtin F.called_set.init.plain F.entry_set_init (check_set_init_1 hT ?_)
  have lt : l < s.heap.objs.size := Heap.lt_size (Classical.choose_spec hl).1
  have hl1 : (s.heap.push (bare w)).IsList l items := hl.push _
  obtain ⟨⟨lc, ld, lx, ly⟩, le, lk, ln, lz⟩ := id hl1
  dsimp only at lk lz
  subst lk lz
  have f1 := F.sub_list_set
  have f2 := F.sub_list_frozenset
  have f3 : (Value.type "list" == Value.type "dict") = false := by decide
  have free : ∀ n, s.heap.get? (s.heap.objs.size + n) = none := fun n => by
    cases e : s.heap.get? (s.heap.objs.size + n) with
    | none => rfl
    | some o => exact absurd (Heap.lt_size e) (Nat.not_lt.mpr (Nat.le_add_right _ _))
  have sz : (s.heap.push (bare w)).objs.size = s.heap.objs.size + 1 := Heap.size_push ..
  unfold Builtin.«set.__init__» noKeywords Builtin.Frozenset.updateFrom; generalize ep : pyIter = PI
  wp_walk
  subst ep
  refine wpAny_pyIter_list hl1 (wpAny_bind (m := runValue _) (wpAny_runValue (fill_from (h0 := s.heap) (ns := ns) (Walks.list (by simpa using hh) _ l (by rw [sz]; exact Nat.ne_of_lt (Nat.lt_succ_of_lt lt)) items) (by rw [sz]; exact free 1) (free 0) ?_ (Nat.ne_of_lt lt) hb (int_items hi) items.size 0 _ (Nat.zero_add _) ?_ ?_ (bare_is (Heap.get?_push_of_some _ eS)) fun h' tk st S' => ?_)))
  · rw [sz]; exact Nat.ne_of_lt (Nat.lt_succ_self _)
  · exact fun b o e => Heap.get?_push_of_some _ (Heap.get?_push_of_some _ e)
  · exact ⟨⟨_, Heap.get?_push_size _ rfl, rfl, rfl⟩, hl1.push _⟩
  · exact wpAny_pure (wpAny_pure ⟨rfl, h', tk, rfl, S', st⟩)
set_option maxHeartbeats 3000000 in
theorem set_of_list {l : Addr} {items : Array Value} {ns : List Int} {Q : Value → Shared → Prop} (hh : A.handled = none) (hl : s.heap.IsList l items) (hi : IntsAre items.toList ns) (hb : items.size + 1 < scanBound)
    (k : ∀ (h' : Heap) (tk : Nat), SetR P w h' s.heap.objs.size (metL (fun i => ns.getD i 0) items.size) → (∀ b o, b < s.heap.objs.size → s.heap.get? b = some o → h'.get? b = some o) → Q (.ref s.heap.objs.size) { s with heap := h', toks := tk }) :
    wpAny (model P w) A (call (.type "set") [.ref l]) Q E s := by
  obtain ⟨mc, ml, mm⟩ := F.called_set.mro
  have c1 := F.called_set.made
  have c2 := F.called_set.sub
  have c3 := F.called_set.notType
  have c4 := F.called_set.canCreate
  have c5 := F.typeCall_set_1 (.ref l)
  have c6 := F.called_set.init.lookup
  have c7 := F.called_set.init.bind (.ref s.heap.objs.size)
  have hT : Shared.TypeIs { s with heap := s.heap.push (bare w) } (.ref s.heap.objs.size) "set" := ⟨_, Heap.get?_push_size _ rfl, rfl⟩
  refine wpAny_call (codeAny_of_tree (wpAny_pure ⟨Code.quiet_builtin _ (by decide +kernel), codeAny_builtin F.entry_type_call ?_⟩))
  rw [Around.under_plain (weight_type_call_type "set" [.ref l] []) rfl]
  repeat any_goals first | assumption | wp_step
  refine wants_then (made (E := E) (.ref l) (Q := fun v s' => v = .ref s.heap.objs.size ∧ s' = { s with heap := s.heap.push (bare w) }) ⟨rfl, rfl⟩) (fun v s1 q => ?_) fun _ _ q => q
  obtain ⟨rfl, rfl⟩ := q
  repeat any_goals first | assumption | wp_step
  refine wants_then (init_from (E := E) hh hl hi hb) (fun v s1 q => ?_) fun _ _ q => q
  obtain ⟨rfl, h', tk, rfl, S', st⟩ := q
  repeat any_goals first | assumption | wp_step
  exact k _ _ S' fun b o _ e => st b o e
end
end DS
namespace DS
open PySem PySem.Spec PyProof.Rows

theorem slot_next : Slot "set_iterator" "__next__" "set_iterator.__next__" :=
  .of (owner := "set_iterator") (n := "__next__") (by rw [typeLookup_type, builtinLookup_eq_fast]; kernel_rfl) (by decide +kernel) (by decide +kernel) (by decide +kernel) (by first | exact .inl (by decide +kernel) | exact .inr (by decide +kernel)) (by rw [isSubtype_type]; kernel_rfl)
theorem entry_next : entryFor table "set_iterator.__next__" = some Builtin.«set_iterator.__next__» := entryFor_of_tree (by kernel_rfl)
theorem entry_iter : entryFor table "set.__iter__" = some Builtin.«frozenset.__iter__» := entryFor_alias (id' := "frozenset.__iter__") (by kernel_rfl) rfl (by decide +kernel) (by kernel_rfl)
theorem args_next (a : Value) : argsOk "set_iterator.__next__" ⟨[a], []⟩ := by unfold argsOk; kernel_rfl

/-! ### orders -/
theorem erase_perm {α : Type} : ∀ {l : List α} {i : Nat} (h : i < l.length), (l[i] :: l.eraseIdx i).Perm l
  | a :: l, 0, h => .refl _
  | a :: l, i + 1, h => by
    have h' : i < l.length := by simpa using h
    exact (List.Perm.swap a l[i] (l.eraseIdx i)).trans ((erase_perm h').cons a)
theorem pick_go {α : Type} (next : Nat → Nat) : ∀ (fuel k : Nat) (left : List α) (out : Array α), left.length ≤ fuel → ∃ r : List α, (pickOrder.go next fuel k left out).toList = out.toList ++ r ∧ r.Perm left
  | 0, k, left, out, h => by
    have : left = [] := List.eq_nil_of_length_eq_zero (by omega)
    subst this
    exact ⟨[], by simp [pickOrder.go], .nil⟩
  | fuel + 1, k, left, out, h => by
    unfold pickOrder.go
    cases left with
    | nil => exact ⟨[], by simp, .nil⟩
    | cons a l =>
      have hlt : next k % (a :: l).length < (a :: l).length := Nat.mod_lt _ (by simp)
      generalize hi : next k % (a :: l).length = i at *
      rw [List.getElem?_eq_getElem hlt]
      obtain ⟨r, h1, h2⟩ := pick_go next fuel (k + 1) ((a :: l).eraseIdx i) (out.push (a :: l)[i]) (by rw [List.length_eraseIdx_of_lt hlt]; omega)
      refine ⟨(a :: l)[i] :: r, by simpa using h1, (h2.cons _).trans ?_⟩
      exact (erase_perm hlt)
theorem pick_perm {α : Type} (next : Nat → Nat) (xs : Array α) : (pickOrder next xs).toList.Perm xs.toList := by
  obtain ⟨r, h1, h2⟩ := pick_go next xs.size 0 xs.toList #[] (by simp)
  unfold pickOrder
  rw [h1]
  simpa using h2
section
variable {prog : Program} {w : World} {A : Around} {E : Value → Shared → Prop}
theorem wp_choose {src : Source} {n : Nat} {s : Shared} {Q : Nat → Shared → Prop} (hn : n ≠ 0) (h : ∀ i, i < n → ∀ d, Q i { s with drawn := d }) : wpAny (model prog w) A (choose src n) Q E s := fun Γ p hΓ => by
  show PySem.Sem.wp (model prog w) Γ (.choose src n .pure) _ _ p s
  exact ⟨hn, h _ (Nat.mod_lt _ (Nat.pos_of_ne_zero hn)) _⟩
theorem draw_order {α : Type} : ∀ (n : Nat) (xs : List α) (s : Shared) (Q : List α → Shared → Prop), xs.length = n → (∀ ys d, ys.Perm xs → Q ys { s with drawn := d }) → wpAny (model prog w) A (drawOrder n xs) Q E s
  | 0, xs, s, Q, hl, h => by
    have : xs = [] := List.eq_nil_of_length_eq_zero hl
    subst this
    unfold drawOrder
    exact wpAny_pure (h [] s.drawn .nil)
  | n + 1, [], s, Q, hl, h => by simp at hl
  | n + 1, a :: l, s, Q, hl, h => by
    unfold drawOrder
    refine wpAny_bind (wp_choose (by simp) fun i hi d => ?_)
    rw [List.getElem?_eq_getElem hi]
    refine wpAny_bind (draw_order n ((a :: l).eraseIdx i) _ _ (by rw [List.length_eraseIdx_of_lt hi]; omega) fun ys d' hp => ?_)
    exact wpAny_pure (h _ _ ((hp.cons _).trans (erase_perm hi)))
end
/-! ### the walk: vs is what is handed out, in its order -/
/-- the iterator's record ahead of turn i -/
inductive Rec (w : World) (a : Addr) (es : Array (Int × Value)) (ep : Nat) (t : SetTable) (vs : List Value) : Nat → Heap → Value → Prop
  | text {i : Nat} {h : Heap} : byText w = true → vs = ((pickOrder (w.params.setOrder a ep) es).toList.map (·.2)) → Rec w a es ep t vs i h (.int 0 0)
  | plain {i : Nat} {h : Heap} {k : Nat} : byText w = false → (t.plain = true ∨ es.size ≤ 1) → vs = es.toList.map (·.2) → SetTable.below t.place k = i → Rec w a es ep t vs i h (.int k 0)
  | drawn {i : Nat} {h : Heap} {T : Addr} {ps : List Nat} : h.get? T = some { cls := .type "tuple", data := .seq (ps.map fun (j : Nat) => rawInt j).toArray } → ps.Perm (List.range es.size) → vs = ps.filterMap (fun j => es[j]?.map (·.2)) → Rec w a es ep t vs i h (.ref T)
structure At (w : World) (I a : Addr) (es : Array (Int × Value)) (ep : Nat) (t : SetTable) (vs : List Value) (i : Nat) (h : Heap) : Prop where
  ex : ∃ f, h.get? I = some { cls := .type "set_iterator", data := .fields #[f, .int i 0, .ref a, .int es.size 0, .int ep 0] } ∧ Rec w a es ep t vs i h f
section
variable {prog : Program} {w : World} {A : Around} {E : Value → Shared → Prop} {s : Shared} {a I : Addr} {es : Array (Int × Value)} {ep : Nat} {t : SetTable} {vs : List Value}
theorem state_at {Q : (Array (Int × Value) × Nat × SetTable) → Shared → Prop} (S : SetAt prog w s.heap a es ep t) (h : Q (es, ep, t) s) : wpAny (model prog w) A (setState a) Q E s := by
  obtain ⟨o, ho, _, hd⟩ := S.ob
  exact wpAny_setState_of ho hd S.ft h
theorem text_at {Q : Bool → Shared → Prop} (h : Q (byText w) s) : wpAny (model prog w) A setsByText Q E s := by
  unfold setsByText
  exact wpAny_bind (wpAny_askSetting (wpAny_pure h))
theorem set_iter {Q : Value → Shared → Prop} (S : SetAt prog w s.heap a es ep t)
    (h : ∀ (vs : List Value) (s' : Shared) (I : Addr), s.heap.objs.size ≤ I → s'.gens = s.gens → s'.os = s.os → (∀ b o, s.heap.get? b = some o → s'.heap.get? b = some o) → vs.Perm (es.toList.map (·.2)) → At w I a es ep t vs 0 s'.heap → I < s'.heap.objs.size → (∀ f, s'.heap.get? I = some { cls := .type "set_iterator", data := .fields #[f, .int 0 0, .ref a, .int es.size 0, .int ep 0] } → ∀ T, f = .ref T → T ≠ I ∧ s.heap.objs.size ≤ T) → Q (.ref I) s') :
    wpAny (model prog w) A (pyIter (.ref a)) Q E s := by
  obtain ⟨o, ho, hex, hd⟩ := S.ob
  have hT : s.TypeIs (.ref a) "set" := ⟨o, ho, hex.1⟩
  refine wpAny_pyIter_slot hT PySem.F.slot_set_iter (wpAny_call_entry PySem.F.slot_set_iter hT entry_iter ?_ (PySem.F.args_set_iter_1 _))
  unfold Builtin.«frozenset.__iter__»
  refine wpAny_bind (wpAny_bind (wpAny_pure (wpAny_pure ?_)))
  unfold Builtin.Frozenset.sizeOf setEntries
  refine wpAny_bind (wpAny_bind (wpAny_bind (state_at S (wpAny_pure (wpAny_pure ?_)))))
  unfold setDrawn
  refine wpAny_bind (wpAny_bind (state_at S (wpAny_bind (text_at (wpAny_pure ?_)))))
  dsimp only
  -- what is left: the record is made
  have fin : ∀ (f : Value) (vs : List Value) (s1 : Shared), s1.gens = s.gens → s1.os = s.os → (∀ b o, s.heap.get? b = some o → s1.heap.get? b = some o) → vs.Perm (es.toList.map (·.2)) → (∀ h', (∀ b o, s1.heap.get? b = some o → h'.get? b = some o) → Rec w a es ep t vs 0 h' f) → (∀ T, f = .ref T → T < s1.heap.objs.size ∧ s.heap.objs.size ≤ T) → s.heap.objs.size ≤ s1.heap.objs.size →
      wpAny (model prog w) A.in1 (do
        let e ← setEpoch a
        let r ← newFields "set_iterator" [f, rawInt 0, Value.ref a, rawInt es.size, rawInt e]
        ret r) (fun fin s' => ∃ v, fin = Fin.done (Flow.ret v) ∧ ∃ T' r, s'.TypeIs v T' ∧ typeLookup (Value.type T') (Str.ofString "__next__") = pure (some r) ∧ Q v s') E s1 := by
    intro f vs s1 eg eo kp hp hr hf hsz
    have S1 := S.keep fun o e => kp a o e
    unfold setEpoch
    refine wpAny_bind (wpAny_bind (state_at S1 (wpAny_pure ?_)))
    unfold newFields
    refine wpAny_bind (wpAny_newObj_type ?_ (by size_fits))
    have kp2 : ∀ b o, s1.heap.get? b = some o → (s1.heap.push { cls := .type "set_iterator", data := .fields [f, rawInt 0, Value.ref a, rawInt es.size, rawInt ep].toArray }).get? b = some o := fun b o e => Heap.get?_push_of_some _ e
    refine wpAny_pure ⟨_, rfl, "set_iterator", _, ⟨_, Heap.get?_push_size _ rfl, rfl⟩, slot_next.lookup, ?_⟩
    refine h vs _ _ hsz eg eo (fun b o e => kp2 b o (kp b o e)) hp ⟨f, Heap.get?_push_size _ rfl, hr _ kp2⟩ (by rw [Heap.size_push]; exact Nat.lt_succ_self _) fun f' ef T eT => ?_
    have e1 := Heap.get?_push_size (h := s1.heap) (o := { cls := .type "set_iterator", data := .fields [f, rawInt 0, Value.ref a, rawInt es.size, rawInt ep].toArray }) rfl
    have e2 := Option.some.inj (e1.symm.trans ef)
    injection e2 with _ _ e3 _
    injection e3 with e4
    have e5 := congrArg Array.toList e4
    injection e5 with e6 _
    subst e6
    exact ⟨Nat.ne_of_lt (hf T eT).1, (hf T eT).2⟩
  show wpAny _ _ (if (!byText w && (!t.plain && decide (es.size > 1))) = true then _ else _) _ _ s
  by_cases z : (!byText w && (!t.plain && decide (es.size > 1))) = true
  · rw [if_pos z]
    refine wpAny_bind (draw_order es.size (List.range es.size) s _ (by simp) fun ys d hp => ?_)
    have hl : ys.length = es.size := by rw [hp.length_eq, List.length_range]
    have hle : es.size ≤ sizeLine := fits_of_scanBound S.sm
    refine wpAny_bind (wpAny_newObj_type ?_ (by show (List.map _ ys).toArray.size ≤ sizeLine; rw [List.size_toArray, List.length_map, hl]; exact hle))
    refine fin _ (ys.filterMap fun j => es[j]?.map (·.2)) _ rfl rfl (fun b o e => Heap.get?_push_of_some _ e) ?_ (fun h' kp => .drawn (ps := ys) (kp _ _ (Heap.get?_push_size _ rfl)) hp rfl) (fun T eT => ?_) ?_
    · refine (hp.filterMap _).trans (.of_eq ?_)
      rw [← List.map_filterMap, filterMap_getElem?_range]
    · cases eT
      exact ⟨by rw [Heap.size_push]; exact Nat.lt_succ_self _, Nat.le_refl _⟩
    · rw [Heap.size_push]; exact Nat.le_succ _
  · rw [if_neg z]
    refine wpAny_bind (wpAny_pure ?_)
    cases hb : byText w with
    | true => exact fin _ _ s rfl rfl (fun _ _ e => e) ((pick_perm _ es).map _) (fun h' _ => .text hb rfl) (fun T eT => by cases eT) (Nat.le_refl _)
    | false =>
      refine fin _ _ s rfl rfl (fun _ _ e => e) (.refl _) (fun h' _ => .plain (k := 0) hb ?_ rfl (below_zero S.tk.rise)) (fun T eT => by cases eT) (Nat.le_refl _)
      rw [hb] at z
      by_cases hp : t.plain = true
      · exact .inl hp
      · right
        have hp' : t.plain = false := by simpa using hp
        rw [hp'] at z
        have : ¬ es.size > 1 := by simpa using z
        omega
theorem Rec.keep {h h' : Heap} {i : Nat} {f : Value} (r : Rec w a es ep t vs i h f) (k : ∀ T, f = .ref T → ∀ o, h.get? T = some o → h'.get? T = some o) : Rec w a es ep t vs i h' f := by
  cases r with
  | text h1 h2 => exact .text h1 h2
  | plain h1 h2 h3 h4 => exact .plain h1 h2 h3 h4
  | drawn h1 h2 h3 => exact .drawn (k _ rfl _ h1) h2 h3
end
end DS
namespace DS
open PySem PySem.Spec PyProof.Rows
section
variable {prog : Program} {w : World} {A : Around} {E : Value → Shared → Prop} {s : Shared} {a I : Addr} {es : Array (Int × Value)} {ep : Nat} {t : SetTable} {vs : List Value}
theorem fm_get {β : Type} {f : Nat → Option β} : ∀ {ps : List Nat} {i : Nat} {v : β}, (∀ j ∈ ps, (f j).isSome = true) → (ps.filterMap f)[i]? = some v → ∃ j, ps[i]? = some j ∧ f j = some v
  | [], i, v, _, e => by simp at e
  | p :: ps, i, v, h, e => by
    obtain ⟨x, hx⟩ := Option.isSome_iff_exists.mp (h p (by simp))
    rw [List.filterMap_cons_some hx] at e
    cases i with
    | zero => exact ⟨p, by simp, by rw [hx]; simpa using e⟩
    | succ i =>
      obtain ⟨j, h1, h2⟩ := fm_get (ps := ps) (i := i) (v := v) (fun j hj => h j (by simp [hj])) (by simpa using e)
      exact ⟨j, by simpa using h1, h2⟩
theorem fm_len {β : Type} {f : Nat → Option β} : ∀ {ps : List Nat}, (∀ j ∈ ps, (f j).isSome = true) → (ps.filterMap f).length = ps.length
  | [], _ => rfl
  | p :: ps, h => by
    obtain ⟨x, hx⟩ := Option.isSome_iff_exists.mp (h p (by simp))
    rw [List.filterMap_cons_some hx, List.length_cons, List.length_cons, fm_len fun j hj => h j (by simp [hj])]
theorem range_some {es : Array (Int × Value)} {ps : List Nat} (h : ps.Perm (List.range es.size)) : ∀ j ∈ ps, (es[j]?.map (·.2)).isSome = true := fun j hj => by
  have := List.mem_range.mp (h.mem_iff.mp hj)
  simp [this]
theorem next_text {i k : Nat} {Q : Option (Value × Nat) → Shared → Prop} (S : SetAt prog w s.heap a es ep t) (hb : byText w = true) (h : Q ((pickOrder (w.params.setOrder a ep) es)[i]?.map fun e => (e.2, k)) s) : wpAny (model prog w) A (setNext a k i ep) Q E s := by
  unfold setNext
  refine wpAny_bind (state_at S ?_)
  dsimp only
  refine wpAny_bind (text_at ?_)
  rw [hb, if_pos rfl, if_neg (by simp)]
  unfold setWalk
  refine wpAny_bind (wpAny_bind (state_at S ?_))
  dsimp only
  refine wpAny_bind (text_at ?_)
  rw [hb, if_pos rfl]
  exact wpAny_bind (wpAny_askSetting (wpAny_pure (wpAny_pure h)))
theorem next_plain {i k : Nat} {Q : Option (Value × Nat) → Shared → Prop} (S : SetAt prog w s.heap a es ep t) (hb : byText w = false) (hp : t.plain = true ∨ es.size ≤ 1)
    (h : Q (match es[SetTable.below t.place k]?, t.place[SetTable.below t.place k]? with
      | some (_, x), some j => some (x, j + 1)
      | _, _ => none) s) : wpAny (model prog w) A (setNext a k i ep) Q E s := by
  unfold setNext
  refine wpAny_bind (state_at S ?_)
  dsimp only
  refine wpAny_bind (text_at ?_)
  rw [hb, if_neg Bool.false_ne_true]
  show wpAny _ _ (if (!t.plain && decide (es.size > 1)) = true then _ else _) _ _ s
  have z : ¬ (!t.plain && decide (es.size > 1)) = true := by
    rcases hp with hp | hp
    · simp [hp]
    · simp; omega
  rw [if_neg z]
  have hl : t.led = true := by rw [S.tk.led, hb]; rfl
  show wpAny _ _ ((if (!t.led && !es.isEmpty) = true then unsupported "set:maker-not-led" else pure ()) >>= fun _ => _) _ _ s
  rw [hl, if_neg (by simp)]
  exact wpAny_bind (wpAny_pure (wpAny_pure h))
theorem recI_at {f : Value} {i : Int} {h : Heap} {I a : Addr} {n e : Int} (f' : Value) (i' : Int) (hI : h.get? I = some { cls := .type "set_iterator", data := .fields #[f, .int i 0, .ref a, .int n 0, .int e 0] }) :
    ((h.update I (Obj.mapFields (·.setIfInBounds 0 f'))).update I (Obj.mapFields (·.setIfInBounds 1 (.int i' 0)))).get? I = some { cls := .type "set_iterator", data := .fields #[f', .int i' 0, .ref a, .int n 0, .int e 0] } := by
  have h1 := Heap.get?_update_self (Obj.mapFields (·.setIfInBounds 0 f')) hI rfl
  exact Heap.get?_update_self (Obj.mapFields (·.setIfInBounds 1 (.int i' 0))) h1 rfl
theorem set_next {i : Nat} {v : Value} {Q : Option Value → Shared → Prop} (Ts : List Addr) (hTs : I ∉ Ts) (S : SetAt prog w s.heap a es ep t) (C : At w I a es ep t vs i s.heap) (hIa : I ≠ a) (hv : vs[i]? = some v)
    (hT : ∀ f, s.heap.get? I = some { cls := .type "set_iterator", data := .fields #[f, .int i 0, .ref a, .int es.size 0, .int ep 0] } → ∀ T, f = .ref T → T ∈ Ts)
    (h : ∀ h', (∀ b, b ≠ I → h'.get? b = s.heap.get? b) → At w I a es ep t vs (i + 1) h' → (∀ f, h'.get? I = some { cls := .type "set_iterator", data := .fields #[f, .int (i + 1 : Nat) 0, .ref a, .int es.size 0, .int ep 0] } → ∀ T, f = .ref T → T ∈ Ts) → Q (some v) { s with heap := h' }) :
    wpAny (model prog w) A (pyNext (.ref I)) Q E s := by
  obtain ⟨f, hI, r⟩ := C.ex
  have hTy : s.TypeIs (.ref I) "set_iterator" := ⟨_, hI, rfl⟩
  have uni : ∀ {h' : Heap} {f' : Value} {j : Int}, h'.get? I = some { cls := .type "set_iterator", data := .fields #[f', .int j 0, .ref a, .int es.size 0, .int ep 0] } → (∀ T, f' = .ref T → T ∈ Ts) →
      ∀ g, h'.get? I = some { cls := .type "set_iterator", data := .fields #[g, .int j 0, .ref a, .int es.size 0, .int ep 0] } → ∀ T, g = .ref T → T ∈ Ts := fun {h' f' j} e1 k g e2 T eT => by
    have e3 := Option.some.inj (e1.symm.trans e2)
    injection e3 with _ _ e4 _
    injection e4 with e5
    have e6 := congrArg Array.toList e5
    injection e6 with e7 _
    subst e7
    exact k T eT
  unfold pyNext
  refine wpAny_bind (wpAny_attempt (wpAny_callSpecial?_slot (name := Str.ofString "__next__") hTy slot_next (wpAny_call_entry slot_next hTy entry_next ?_ (args_next _))))
  unfold Builtin.«set_iterator.__next__»
  refine wpAny_bind (wpAny_pure ?_)
  dsimp only
  refine wpAny_bind (wpAny_fieldsOf hI rfl ?_)
  dsimp only
  unfold setEntries
  refine wpAny_bind (wpAny_bind (state_at S (wpAny_pure ?_)))
  rw [if_neg (by simp)]
  refine wpAny_bind (wpAny_pure ?_)
  have two : ∀ (f' : Value) (k : Nat), f' = .int k 0 → (∀ h', Rec w a es ep t vs (i + 1) h' f') → wpAny (model prog w) A.in1 (do
      setField (.ref I) 0 f'
      setField (.ref I) 1 (rawInt (i + 1))
      ret v) (fun fin s' => ∃ v, fin = Fin.done (Flow.ret v) ∧ wpAny (model prog w) A (pure (some v)) Q E s') (fun e s' =>
      wpAny (model prog w) A
        (do
          let __do_lift ← isInstance e (Value.type "StopIteration")
          if __do_lift = true then pure none else throw e)
        Q E s') s := by
    intro f' k ef hr
    refine wpAny_bind (wpAny_setField hI rfl (by simp) ?_)
    have hI1 := Heap.get?_update_self (Obj.mapFields (·.setIfInBounds 0 f')) hI rfl
    refine wpAny_bind (wpAny_setField hI1 rfl (by simp [Obj.mapFields]) ?_)
    refine wpAny_pure ⟨v, rfl, wpAny_pure ?_⟩
    have hI2 := recI_at f' (i + 1 : Nat) hI
    refine h _ (fun b hb => ?_) ⟨f', hI2, hr _⟩ (uni hI2 fun T eT => by rw [ef] at eT; cases eT)
    rw [Heap.get?_update_other _ _ (Ne.symm hb), Heap.get?_update_other _ _ (Ne.symm hb)]
  cases r with
  | text hb he =>
    dsimp only
    refine wpAny_bind (next_text S hb ?_)
    have ev : (pickOrder (w.params.setOrder a ep) es)[i]?.map (·.2) = some v := by
      rw [he, List.getElem?_map, Array.getElem?_toList] at hv
      exact hv
    obtain ⟨e, e1, e2⟩ := Option.map_eq_some_iff.mp ev
    subst e2
    rw [Int.toNat_natCast, Int.toNat_natCast, e1]
    exact two (.int 0 0) 0 rfl fun h' => .text hb he
  | plain hb hp he hk =>
    rename_i k
    dsimp only
    refine wpAny_bind (next_plain S hb hp ?_)
    rw [Int.toNat_natCast, hk]
    have ev : es[i]?.map (·.2) = some v := by
      rw [he, List.getElem?_map, Array.getElem?_toList] at hv
      exact hv
    obtain ⟨⟨e0, e⟩, e1, e2⟩ := Option.map_eq_some_iff.mp ev
    cases e2
    have hlt : i < es.size := (Array.getElem?_eq_some_iff.mp e1).1
    have hps : t.place.size = es.size := by
      have := S.ft
      unfold SetTable.fits at this
      rw [Bool.and_eq_true, beq_iff_eq] at this
      exact this.1
    have hpl : t.place[i]? = some t.place[i] := Array.getElem?_eq_getElem (by rw [hps]; exact hlt)
    rw [e1, hpl]
    exact two (.int (t.place[i] + 1 : Nat) 0) _ rfl fun h' => .plain hb hp he (below_next S.tk.rise hpl)
  | drawn h1 h2 h3 =>
    rename_i T ps
    dsimp only
    refine wpAny_bind (wpAny_seqItems h1 rfl ?_)
    dsimp only
    obtain ⟨j, ej, ev⟩ := fm_get (range_some h2) (by rw [h3] at hv; exact hv)
    have ea : (List.map (fun (j : Nat) => rawInt j) ps).toArray[(i : Int).toNat]? = some (rawInt j) := by
      rw [Int.toNat_natCast, List.getElem?_toArray, List.getElem?_map, ej]
      rfl
    rw [ea]
    show wpAny _ _ (setNextDrawn a (j : Int).toNat (ep : Int).toNat >>= _) _ _ s
    rw [Int.toNat_natCast, Int.toNat_natCast]
    unfold setNextDrawn
    obtain ⟨⟨e0, e⟩, e1, e2⟩ := Option.map_eq_some_iff.mp ev
    cases e2
    refine wpAny_bind (wpAny_bind (state_at S ?_))
    dsimp only
    rw [if_neg (by simp), e1]
    refine wpAny_pure ?_
    refine wpAny_bind (wpAny_setField hI rfl (by simp) ?_)
    refine wpAny_pure ⟨_, rfl, wpAny_pure ?_⟩
    have hI1 := Heap.get?_update_self (Obj.mapFields (·.setIfInBounds 1 (rawInt (i + 1)))) hI rfl
    have hTm := hT _ hI T rfl
    have hTI : T ≠ I := fun z => hTs (z ▸ hTm)
    refine h _ (fun b hb => Heap.get?_update_other _ _ (Ne.symm hb)) ⟨.ref T, hI1, .drawn (by rw [Heap.get?_update_other _ _ (Ne.symm hTI)]; exact h1) h2 h3⟩ (uni hI1 fun T' eT => by cases eT; exact hTm)
end
end DS
namespace DS
open PySem PySem.Spec PyProof.Rows
theorem slot_self : Slot "set_iterator" "__iter__" "set_iterator.__iter__" :=
  .of (owner := "set_iterator") (n := "__iter__") (by rw [typeLookup_type, builtinLookup_eq_fast]; kernel_rfl) (by decide +kernel) (by decide +kernel) (by decide +kernel) (by first | exact .inl (by decide +kernel) | exact .inr (by decide +kernel)) (by rw [isSubtype_type]; kernel_rfl)
theorem entry_self : entryFor table "set_iterator.__iter__" = some Builtin.«dict_keyiterator.__iter__» := entryFor_alias (id' := "dict_keyiterator.__iter__") (by kernel_rfl) rfl (by decide +kernel) (by kernel_rfl)
theorem args_self (a : Value) : argsOk "set_iterator.__iter__" ⟨[a], []⟩ := by unfold argsOk; kernel_rfl
section
variable {prog : Program} {w : World} {A : Around} {E : Value → Shared → Prop} {s : Shared} {a I : Addr} {es : Array (Int × Value)} {ep : Nat} {t : SetTable} {vs : List Value}
/-- StopIteration is made, raised and met by pyNext -/
theorem stop_met {α : Type} {Qd : α → Shared → Prop} {Q : Option Value → Shared → Prop} (hh : A.handled = none) (h : ∀ h', (∀ b o, s.heap.get? b = some o → h'.get? b = some o) → Q none { s with heap := h' }) :
    wpAny (model prog w) A.in1 (newExc (.type "StopIteration") [] >>= fun e => (raiseNew e : Sem α)) Qd (fun e s' => wpAny (model prog w) A (isInstance e (.type "StopIteration") >>= fun b => if b = true then pure none else throw e) Q E s') s := by
  unfold newExc newTuple raiseNew
  refine wpAny_bind (wpAny_bind (wpAny_newObj_type (wpAny_bind (m := firstArgMember _ _) (wpAny_of_eq (a := Value.none) (by first | rfl | (simp only [firstArgMember]; rfl)) (wpAny_newObj_type (wpAny_bind (wpAny_handled ?_))))) (by size_fits)))
  rw [show A.in1.handled = none from hh]; refine wpAny_bind (wpAny_pure (wpAny_throw ?_)); apply wpAny_bind
  refine wpAny_isInstance (T := "StopIteration") (b := true) ⟨_, Heap.get?_push_size _ rfl, rfl⟩ isSubtype_stop ?_
  exact wpAny_pure (h _ fun b o e => Heap.get?_push_of_some _ (Heap.get?_push_of_some _ e))
theorem set_stop {i : Nat} {Q : Option Value → Shared → Prop} (hh : A.handled = none) (S : SetAt prog w s.heap a es ep t) (C : At w I a es ep t vs i s.heap) (hv : vs[i]? = none)
    (h : ∀ h', (∀ b o, b ≠ I → s.heap.get? b = some o → h'.get? b = some o) → Q none { s with heap := h' }) :
    wpAny (model prog w) A (pyNext (.ref I)) Q E s := by
  obtain ⟨f, hI, r⟩ := C.ex
  have hTy : s.TypeIs (.ref I) "set_iterator" := ⟨_, hI, rfl⟩
  unfold pyNext
  refine wpAny_bind (wpAny_attempt (wpAny_callSpecial?_slot (name := Str.ofString "__next__") hTy slot_next (wpAny_call_entry slot_next hTy entry_next ?_ (args_next _))))
  unfold Builtin.«set_iterator.__next__»
  refine wpAny_bind (wpAny_pure ?_)
  dsimp only
  refine wpAny_bind (wpAny_fieldsOf hI rfl ?_)
  dsimp only
  unfold setEntries
  refine wpAny_bind (wpAny_bind (state_at S (wpAny_pure ?_)))
  rw [if_neg (by simp)]
  refine wpAny_bind (wpAny_pure ?_)
  have oth : ∀ (g : Obj → Obj) (h : Heap) b o, b ≠ I → h.get? b = some o → (h.update I g).get? b = some o := fun g h b o hb e => (Heap.get?_update_other _ _ (Ne.symm hb)).trans e
  cases r with
  | text hb he =>
    dsimp only
    refine wpAny_bind (next_text S hb ?_)
    have ev : (pickOrder (w.params.setOrder a ep) es)[i]? = none := by
      rw [he, List.getElem?_map, Array.getElem?_toList] at hv
      exact Option.map_eq_none_iff.mp hv
    rw [Int.toNat_natCast, Int.toNat_natCast, ev]
    refine wpAny_bind (wpAny_setField hI rfl (by simp) ?_)
    exact stop_met hh fun h' k => h h' fun b o hb e => k b o (oth _ _ b o hb e)
  | plain hb hp he hk =>
    dsimp only
    refine wpAny_bind (next_plain S hb hp ?_)
    rw [Int.toNat_natCast, hk]
    have ev : es[i]? = none := by
      rw [he, List.getElem?_map, Array.getElem?_toList] at hv
      exact Option.map_eq_none_iff.mp hv
    rw [ev]
    refine wpAny_bind (wpAny_setField hI rfl (by simp) ?_)
    exact stop_met hh fun h' k => h h' fun b o hb e => k b o (oth _ _ b o hb e)
  | drawn h1 h2 h3 =>
    rename_i T ps
    dsimp only
    refine wpAny_bind (wpAny_seqItems h1 rfl ?_)
    dsimp only
    have ea : (List.map (fun (j : Nat) => rawInt j) ps).toArray[(i : Int).toNat]? = none := by
      have hl := fm_len (range_some h2)
      rw [h3] at hv
      have := List.getElem?_eq_none_iff.mp hv
      rw [Int.toNat_natCast, List.getElem?_toArray, List.getElem?_map, List.getElem?_eq_none (by omega)]
      rfl
    rw [ea]
    refine wpAny_bind (wpAny_setField hI rfl (by simp) ?_)
    have hI1 := Heap.get?_update_self (Obj.mapFields (·.setIfInBounds 0 (rawInt 0))) hI rfl
    refine wpAny_bind (wpAny_setField hI1 rfl (by simp [Obj.mapFields]) ?_)
    exact stop_met hh fun h' k => h h' fun b o hb e => k b o (oth _ _ b o hb (oth _ _ b o hb e))
/-- the walk, by its turns -/
theorem set_walks (hh : A.handled = none) (hIa : I ≠ a) (T : List Addr) (hTI : I ∉ T) :
    Walks prog w A I (I :: a :: T) [I] vs.length (fun i v => vs[i]? = some v) (fun i h => SetAt prog w h a es ep t ∧ At w I a es ep t vs i h ∧ ∀ f, h.get? I = some { cls := .type "set_iterator", data := .fields #[f, .int i 0, .ref a, .int es.size 0, .int ep 0] } → ∀ U, f = .ref U → U ∈ T) where
  sub := fun b hb => by simp at hb; simp [hb]
  frame := fun i h h' ⟨S, C, k⟩ kp => by
    obtain ⟨f, hI, r⟩ := C.ex
    have hI' := kp I (by simp) _ hI
    have same : ∀ g, h'.get? I = some { cls := .type "set_iterator", data := .fields #[g, .int i 0, .ref a, .int es.size 0, .int ep 0] } → g = f := fun g e => by
      have e3 := Option.some.inj (hI'.symm.trans e)
      injection e3 with _ _ e4 _
      injection e4 with e5
      have e6 := congrArg Array.toList e5
      injection e6 with e7 _
      exact e7.symm
    exact ⟨S.keep fun o e => kp a (by simp) o e, ⟨f, hI', r.keep fun U eU o e => kp U (by simp [k f hI U eU]) o e⟩, fun g e U eU => by
      rw [same g e] at eU
      exact k f hI U eU⟩
  item := fun i s Q E hi ⟨S, C, k⟩ hQ => by
    have hv : vs[i]? = some vs[i] := List.getElem?_eq_getElem hi
    refine set_next T hTI S C hIa hv k fun h' oth C' k' => ?_
    exact hQ vs[i] h' s.toks hv ⟨S.keep fun o e => by rw [oth a (Ne.symm hIa)]; exact e, C', k'⟩ fun b o hb e => by
      rw [oth b (by simpa using hb)]; exact e
  done := fun s Q E ⟨S, C, k⟩ hQ => set_stop hh S C (by simp) fun h' kp => hQ h' s.toks fun b o hb e => kp b o (by simpa using hb) e
  self := fun i s Q E ⟨S, C, k⟩ hQ => by
    obtain ⟨f, hI, r⟩ := C.ex
    have hTy : s.TypeIs (.ref I) "set_iterator" := ⟨_, hI, rfl⟩
    refine wpAny_pyIter_slot hTy slot_self (wpAny_call_entry slot_self hTy entry_self ?_ (args_self _))
    unfold Builtin.«dict_keyiterator.__iter__»
    refine wpAny_bind (wpAny_pure ?_)
    exact wpAny_pure ⟨_, rfl, "set_iterator", _, hTy, slot_next.lookup, hQ⟩
end
end DS
namespace DS
open PySem PySem.Spec PyProof.Rows
section
variable {prog : Program} {w : World} {A : Around} {E : Value → Shared → Prop} {s : Shared} {a I : Addr} {es : Array (Int × Value)} {ep : Nat} {t : SetTable} {vs : List Value}
theorem hint_set {r : Addr} {Q : Bool → Shared → Prop} (hT : s.TypeIs (.ref r) "set") (h : Q false s) : wpAny (model prog w) A (Builtin.List.listLengthHint (.ref r)) Q E s := by
  unfold Builtin.List.listLengthHint
  refine wpAny_bind (wpAny_specialOf hT PySem.F.slot_set_len.lookup ?_)
  generalize hid : ("set.__len__" : String) = n0
  wp_delta
  rw [show splitId n0 = some ("set", "__len__") from by subst hid; decide +kernel]
  subst hid
  refine wpAny_bind (wpAny_isInstance (T := "set") (b := true) hT (by rw [isSubtype_type]; kernel_rfl) ?_)
  refine wpAny_ite_split (fun q => absurd q (by decide)) fun _ => wpAny_ite_split (fun _ => ?_) fun q => absurd (by decide +kernel) q
  exact wpAny_bind (wpAny_typeOf hT (wpAny_pure h))
/-- what stays of a state while a set is walked -/
structure Kp (s s' : Shared) : Prop where
  gens : s'.gens = s.gens
  os : s'.os = s.os
  heap : ∀ b o, s.heap.get? b = some o → s'.heap.get? b = some o
  sz : s.heap.objs.size ≤ s'.heap.objs.size
theorem set_collect {R : List Value → Shared → Prop} (hh : A.handled = none) (S : SetAt prog w s.heap a es ep t) (h : ∀ vs s', Kp s s' → vs.Perm (es.toList.map (·.2)) → R vs s') : wpAny (model prog w) A (collect (.ref a)) R E s := by
  obtain ⟨oa, hoa, hexa, _⟩ := S.ob
  have hlt : a < s.heap.objs.size := Heap.lt_size hoa
  unfold collect
  refine wpAny_bind (wpAny_runValue (codeAny_builtin entry_proto_collect' ?_))
  rw [Around.under_plainId PySem.F.plain_proto_collect _]
  show wpAny _ A.in1 (newList [] >>= fun l => again (.builtin "list.__iadd__" ⟨[l, .ref a], []⟩)) _ _ s
  refine wpAny_bind (wpAny_newObj_type (wpAny_pure ⟨plainId_quiet PySem.F.plain_list_iadd _, codeAny_builtin entry_list_iadd' ?_⟩))
  rw [Around.under_plainId PySem.F.plain_list_iadd _]
  -- the new list stands at L
  generalize hL : s.heap.objs.size = L at hlt
  have hS1 : (s.heap.push { cls := .type "list", data := .seq ([] : List Value).toArray }).get? L = some { cls := .type "list", data := .seq #[] } := by rw [← hL]; exact Heap.get?_push_size _ rfl
  have k1 : ∀ b o, s.heap.get? b = some o → (s.heap.push { cls := .type "list", data := .seq ([] : List Value).toArray }).get? b = some o := fun b o e => Heap.get?_push_of_some _ e
  have S1 := S.keep fun o e => k1 a o e
  have hL1 : L < (s.heap.push { cls := .type "list", data := .seq ([] : List Value).toArray }).objs.size := Heap.lt_size hS1
  show wpAny _ A.in1 (Builtin.List.listExtendWith (.ref L) (.ref a) (.ref L)) _ _ { s with heap := s.heap.push { cls := .type "list", data := .seq ([] : List Value).toArray } }
  generalize s.heap.push { cls := .type "list", data := .seq ([] : List Value).toArray } = H1 at *
  have hTy : Shared.TypeIs { s with heap := H1 } (.ref a) "set" := ⟨oa, k1 a oa hoa, hexa.1⟩
  unfold Builtin.List.listExtendWith
  refine wpAny_bind (wpAny_typeOf (T := "set") hTy ?_)
  have hne : L ≠ a := Nat.ne_of_gt hlt
  have e1 : Builtin.List.listSameRef (.ref L) (.ref a) = false := by simp [Builtin.List.listSameRef, hne]
  have e2 : (Value.type "set" == Value.type "list") = false := by decide
  have e3 : (Value.type "set" == Value.type "tuple") = false := by decide
  simp only [e1, e2, e3, Bool.or_false, Bool.false_eq_true, if_false]
  refine wpAny_bind (set_iter S1 fun vs s2 I hI0 eg eo k2 hp C hI2 hT2 => ?_)
  have hLI : L ≠ I := Nat.ne_of_lt (Nat.lt_of_lt_of_le hL1 hI0)
  have hIa : I ≠ a := fun z => absurd (z ▸ hI0) (Nat.not_le.mpr (Nat.lt_trans hlt hL1))
  have S2 := S1.keep fun o e => k2 a o e
  have hS2 := k2 L _ hS1
  refine wpAny_bind (wpAny_holding (hint_set ⟨oa, k2 a oa (k1 a oa hoa), hexa.1⟩ ?_))
  refine wpAny_ite_split (fun _ => ?_) fun q => absurd (by decide +kernel) q
  refine wpAny_bind (wpAny_rule ?_)
  refine wpAny_bind ?_
  show wpAny _ _ (updateSeq L (·.push .none) >>= fun _ => updateSeq L (·.pop)) _ _ _
  refine wpAny_bind (wpAny_updateSeq hS2 rfl ?_)
  have hS3 := Heap.get?_update_self (Obj.mapSeq (·.push Value.none)) hS2 rfl
  refine wpAny_updateSeq (hz := by seq_fits) hS3 rfl ?_
  have hS4 := Heap.get?_update_self (Obj.mapSeq (·.pop)) hS3 rfl
  have k4 : ∀ b o, b ≠ L → s2.heap.get? b = some o → ((s2.heap.update L (Obj.mapSeq (·.push Value.none))).update L (Obj.mapSeq (·.pop))).get? b = some o := fun b o hb e =>
    (Heap.get?_update_other _ _ (Ne.symm hb)).trans ((Heap.get?_update_other _ _ (Ne.symm hb)).trans e)
  -- the places' tuple, if there is one
  obtain ⟨f, hIf, rf⟩ := C.ex
  obtain ⟨Ts, hTs, hLT, hIT⟩ : ∃ Ts : List Addr, (∀ U, f = .ref U → U ∈ Ts) ∧ L ∉ Ts ∧ I ∉ Ts := by
    cases f with
    | ref U =>
      obtain ⟨q1, q2⟩ := hT2 _ hIf U rfl
      exact ⟨[U], fun V e => by cases e; simp, by simp; exact Nat.ne_of_lt (Nat.lt_of_lt_of_le hL1 q2), by simp; exact Ne.symm q1⟩
    | _ => exact ⟨[], fun V e => by (cases e), by simp, by simp⟩
  have W := set_walks (prog := prog) (w := w) (A := A.in1) (a := a) (I := I) (es := es) (ep := ep) (t := t) (vs := vs) hh hIa Ts hIT
  have uniq : ∀ g, s2.heap.get? I = some { cls := .type "set_iterator", data := .fields #[g, .int (0 : Nat) 0, .ref a, .int es.size 0, .int ep 0] } → g = f := fun g e => by
    have e3 := Option.some.inj (hIf.symm.trans e)
    injection e3 with _ _ e4 _
    injection e4 with e5
    have e6 := congrArg Array.toList e5
    injection e6 with e7 _
    exact e7.symm
  refine wpAny_pure ⟨plainId_quiet PySem.F.plain_extend_loop _, codeAny_extend_loopS W.toS (Nat.le_trans (Nat.le_of_eq (by rw [hp.length_eq, List.length_map, Array.length_toList])) (fits_of_scanBound S.sm)) L (by simp [hLI, hne, hLT]) (.ref L) vs.length 0 _ #[] _ rfl (Nat.zero_le _) ?_ hS4 (ItemsOf.nil _) fun s5 acc c5 hm hS5 hacc => ?_⟩
  · refine W.frame 0 s2.heap _ ⟨S2, C, fun g e U eU => hTs U (by rw [← uniq g e]; exact eU)⟩ fun b hb o e => k4 b o ?_ e
    intro z
    subst z
    simp at hb
    rcases hb with z | z | z
    · exact hLI z
    · exact hne z
    · exact hLT z
  · have hav : acc.toList = vs := by
      apply List.ext_getElem?
      intro j
      rw [Array.getElem?_toList]
      cases ej : acc[j]? with
      | none =>
        have := Array.getElem?_eq_none_iff.mp ej
        rw [hacc.1] at this
        rw [List.getElem?_eq_none this]
      | some v => exact (hacc.2 j v ej).symm
    show wpAny _ A (load L >>= _) _ _ _
    refine wpAny_bind (wpAny_load hS5 (wpAny_pure ?_))
    rw [hav]
    refine h vs s5 ⟨?_, ?_, fun b o e => ?_, by rw [hL]; exact Nat.le_of_lt (Heap.lt_size hS5)⟩ hp
    · have : s5.gens = _ := hm.gens
      rw [this]; exact eg
    · rw [hm.os]; exact eo
    · have hbL : b ≠ L := by rw [← hL]; exact Nat.ne_of_lt (Heap.lt_size e)
      refine hm.heap b o ?_ (k4 b o hbL (k2 b o (k1 b o e)))
      intro z
      have z' : b = L ∨ b = I := by simpa using z
      rcases z' with z | z
      · exact hbL z
      · have := Heap.lt_size (k1 b o e)
        subst z
        exact absurd hI0 (Nat.not_le.mpr this)
end
end DS
namespace DS
open PySem PySem.Spec PyProof.Rows
section
variable {prog : Program} {w : World} {A : Around} {E : Value → Shared → Prop} {s : Shared} {a : Addr} {ms : List Int}
theorem sorted_set {Q : Value → Shared → Prop} (hh : A.handled = none) (S : SetR prog w s.heap a ms) (h64 : ms.length < 64)
    (h : ∀ (out : List Value) (ns : List Int) (s' : Shared) (L c : Nat), IntsAre out ns → ns.Perm ms → ns.Pairwise (· ≤ ·) → Kp s s' → s.heap.objs.size ≤ L → s'.heap.get? L = some { cls := .type "list", data := .seq out.toArray c } → Q (.ref L) s') :
    wpAny (model prog w) A (call (.builtin "sorted") [.ref a]) Q E s := by
  obtain ⟨es, ep, t, S, ks, hks, hkp⟩ := S
  refine Calls.call_function_entry kind_sorted plain_sorted entry_sorted (args_sorted1 _) ?_
  unfold Builtin.«sorted»
  refine wpAny_bind (m := checkCount "sorted" 1 1 _) (wpAny_pure ?_)
  refine wpAny_bind (set_collect (A := A.in1) hh S fun vs s2 k2 hp => ?_)
  obtain ⟨ns, hns, hnp⟩ := intsAre_perm hp.symm hks
  have hlen : vs.length < 64 := by rw [hns.length, hnp.length_eq, hkp.length_eq]; exact h64
  refine wpAny_bind (wpAny_newList ?_)
  have hoL : (s2.heap.push (seqObj "list" vs.toArray 0)).get? s2.heap.objs.size = some (seqObj "list" vs.toArray 0) := Heap.get?_push_size _ rfl
  show wpAny _ _ _ _ _ { s2 with heap := s2.heap.push (seqObj "list" vs.toArray 0) }
  refine wpAny_bind (wpAny_holding (wpAny_call_entry slot_list_sort ⟨_, hoL, rfl⟩ entry_list_sort (list_sort_tree hoL hns hlen fun out ns' h1 h2 h3 => ⟨_, rfl, ?_⟩) (args_list_sort _)))
  refine wpAny_pure ⟨_, rfl, ?_⟩
  obtain ⟨c, hc⟩ := sortedHeap_at (vs := vs) (out := out) hoL
  have old : ∀ b o, s.heap.get? b = some o → (sortedHeap (s2.heap.push (seqObj "list" vs.toArray 0)) s2.heap.objs.size vs out).get? b = some o := fun b o e => by
    have e2 := k2.heap b o e
    have hlt := Heap.lt_size e2
    rw [sortedHeap_old (Nat.ne_of_lt hlt) (by rw [size_push']; exact Nat.lt_succ_of_lt hlt)]
    exact Heap.get?_push_of_some _ e2
  refine h out.toList ns' { s2 with heap := sortedHeap (s2.heap.push (seqObj "list" vs.toArray 0)) s2.heap.objs.size vs out } s2.heap.objs.size c h1 (h2.trans (hnp.trans hkp)) h3 ⟨k2.gens, k2.os, old, Nat.le_trans k2.sz (Nat.le_of_lt (Heap.lt_size hc))⟩ k2.sz (by rw [Array.toArray_toList]; exact hc)
end
/-! ### as a rule -/
open L2 DL
section
variable {X : Cx} {pos p p1 p2 : Pos} {e : Expr} {f : Ev → Option D}
def isSet (prog : Program) (w : World) (a : Addr) (ms : List Int) : HO := .ext fun h => SetR prog w h a ms
def rSet (X : Cx) : List V → Hp → VK → Prop := fun xs H Q => ∃ (l : Addr) (ns : List Int), xs = [V.ref l] ∧ SqL X.K H l (ns.map V.int) ∧ ns.length < 64 ∧ ∀ q, H q = none → Q (.ref q) (upd H q (isSet X.prog X.w q (metL (fun i => ns.getD i 0) ns.length)))
theorem cr_set (hc : X.calm = true) : CallR X (.type "set") (rSet X) := by
  intro pins s σ H xs us Q I r hw
  obtain ⟨l, ns, rfl, hs, h64, q⟩ := hw
  obtain ⟨its, rv, hl, _⟩ := I.list hs
  rw [Vals.ref1 r]
  have hi := rv.ints
  have hlen : its.length = ns.length := hi.length
  refine set_of_list (ns := ns) (I.ok.hd hc) hl.isList (by simpa using hi) (by rw [List.size_toArray, hlen]; unfold scanBound; omega) fun h' tk S k => ?_
  have esz : its.toArray.size = ns.length := by rw [List.size_toArray, hlen]
  rw [esz] at S
  have I' : Inv X pins σ (upd H s.heap.objs.size (isSet X.prog X.w s.heap.objs.size (metL (fun i => ns.getD i 0) ns.length))) { s with heap := h', toks := tk } := by
    refine I.laid (fun b o e => k b o (Heap.lt_size e) e) (Nat.le_refl _) ⟨S, ?_, fun h1 h2 S1 k => S1.keep k⟩
    obtain ⟨es, ep, t, S, _⟩ := S
    obtain ⟨o, e, _⟩ := S.ob
    exact ⟨o, e⟩
  exact ⟨.ref _, _, I', rfl, q _ I.fresh⟩
def rSortedSet (X : Cx) : List V → Hp → VK → Prop := fun xs H Q => ∃ (a : Addr) (ms : List Int), xs = [V.ref a] ∧ H a = some (isSet X.prog X.w a ms) ∧ ms.length < 64 ∧ ∀ (ns : List Int) (p : Addr), ns.Perm ms → ns.Pairwise (· ≤ ·) → H p = none → Q (.ref p) (upd H p (.lst (ns.map V.int)))
theorem cr_sortedSet (hc : X.calm = true) : CallR X (.builtin "sorted") (rSortedSet X) := by
  intro pins s σ H xs us Q I r hw
  obtain ⟨a, ms, rfl, ha, h64, q⟩ := hw
  rw [Vals.ref1 r]
  obtain ⟨S, _, _⟩ := I.hok a _ ha
  refine sorted_set (I.ok.hd hc) S h64 fun out ns s' L c h1 h2 h3 k hL ho => ?_
  have hz : (ns.map V.int).length ≤ sizeLine := by rw [List.length_map, h2.length_eq]; exact small64 h64
  have hn : H L = none := I.hok.fresh hL
  have ok : HOk X.prog X.w (upd H L (.lst (ns.map V.int))) s'.heap := I.hok.laid k.heap hL ⟨hz, out, c, vals_of_ints h1, ho⟩
  have un : Un (frs X.stack) [] H (upd H L (.lst (ns.map V.int))) s.heap s'.heap := Un.laid k.heap hL hn
  exact ⟨.ref L, _, I.call' (ch := []) k.os un ok (by rw [k.gens]; exact I.bare) (fun b z => absurd z (by simp)), rfl, q ns L h2 h3 hn⟩
end
end DS
namespace DT
open PySem PySem.Spec L2
open PySem.SeqAt
open PySem.AutoSeq1 (wpAny_loadPart')
open PySem.MeetsSeq PySem.MeetsSeq2 PySem.MeetsSeq3
/-- of two pairs of ints, whether the first is the greater -/
def gtQ (a c x y : Int) : Bool := if a = x then decide (c > y) else decide (a > x)
set_option maxHeartbeats 8000000 in
theorem pair_gt (l b : Addr) (a c x y : Int) (t1 t2 t3 t4 : Tok) (n n2 : Nat) (dd dd2 : Option Addr) (sl sl2 : Array (Option Value)) :
    Meets (Builtin.«tuple.__gt__» ⟨[.ref l, .ref b], []⟩)
      (fun _ R s => s.heap.get? l = some { cls := .type "tuple", dict := dd, data := .seq #[.int a t1, .int c t2] n, slots := sl } ∧
        s.heap.get? b = some { cls := .type "tuple", dict := dd2, data := .seq #[.int x t3, .int y t4] n2, slots := sl2 } ∧ R (.ok (.ret (.bool (gtQ a c x y)))) s) :=
  .of_wp fun prog w A R s h => by
    obtain ⟨hp, g, d, tk, os⟩ := s
    obtain ⟨h1, h2, hR⟩ := h
    have f2 := AutoSeq1.sub_tuple_tuple
    have e1 : SeqAt.EqAt A.in1 ⟨hp, g, d, tk, os⟩ (.int a t1) (.int x t3) (a == x) := SeqAt.EqAt.int_int a t1 x t3
    have e2 : SeqAt.EqAt A.in1 ⟨hp, g, d, tk, os⟩ (.int c t2) (.int y t4) (c == y) := SeqAt.EqAt.int_int c t2 y t4
    have r1 : ∀ (E Q : Value → Shared → Prop), Q (.bool (decide (a > x))) ⟨hp, g, d, tk, os⟩ → wpAny (model prog w) A.in1 (richCompare .Gt (.int a t1) (.int x t3)) Q E ⟨hp, g, d, tk, os⟩ := fun E Q q => PyProof.Rows.gt_int q
    have r2 : ∀ (E Q : Value → Shared → Prop), Q (.bool (decide (c > y))) ⟨hp, g, d, tk, os⟩ → wpAny (model prog w) A.in1 (richCompare .Gt (.int c t2) (.int y t4)) Q E ⟨hp, g, d, tk, os⟩ := fun E Q q => PyProof.Rows.gt_int q
    have e1 := e1 prog w
    have e2 := e2 prog w
    unfold gtQ at hR
    by_cases hx : a = x
    · rw [if_pos hx] at hR
      have hx' : (a == x) = true := by simp [hx]
      rw [hx'] at e1
      by_cases hy : c = y
      · have hy' : (c == y) = true := by simp [hy]
        rw [hy'] at e2
        have hc : decide (c > y) = false := by simp [hy]
        rw [hc] at hR
        wp_walk using wpAny_loadPart' h1, wpAny_loadPart' h2, e1, e2
        exact ⟨_, rfl, hR⟩
      · have hy' : (c == y) = false := by simp [hy]
        rw [hy'] at e2
        wp_walk using wpAny_loadPart' h1, wpAny_loadPart' h2, e1, e2, r2
        exact ⟨_, rfl, hR⟩
    · rw [if_neg hx] at hR
      have hx' : (a == x) = false := by simp [hx]
      rw [hx'] at e1
      wp_walk using wpAny_loadPart' h1, wpAny_loadPart' h2, e1, r1
      exact ⟨_, rfl, hR⟩
end DT
namespace DT
open PySem L2 PyProof.Rows
/-- the value is a pair of ints -/
def Two (h : Heap) (v : Value) (p : Int × Int) : Prop := ∃ a t u, v = .ref a ∧ IsTup h a #[.int p.1 t, .int p.2 u]
/-- all that was there is there -/
def Old (h h' : Heap) : Prop := ∀ b o, h.get? b = some o → h'.get? b = some o
theorem Two.old {h h' : Heap} {v : Value} {p : Int × Int} (T : Two h v p) (k : Old h h') : Two h' v p := by
  obtain ⟨a, t, u, e, o, e1, e2⟩ := T
  exact ⟨a, t, u, e, o, k a o e1, e2⟩
def beats (p q : Int × Int) : Bool := gtQ p.1 p.2 q.1 q.2
def below (p q : Int × Int) : Bool := HT.lexLt [p.1, p.2] [q.1, q.2]
def bestBy (f : Int × Int → Int × Int → Bool) : Int × Int → List (Int × Int) → Int × Int
  | m, [] => m
  | m, p :: r => bestBy f (if f p m then p else m) r
section
variable {P : Program} {w : World} {A : Around} {E : Value → Shared → Prop}
theorem two_gt {s : Shared} {v u : Value} {p q : Int × Int} {Q : Value → Shared → Prop} (hv : Two s.heap v p) (hw : Two s.heap u q) (hu : A.units < cLine) (h : Q (.bool (beats p q)) s) : wpAny (model P w) A (richCompare .Gt v u) Q E s := by
  obtain ⟨a, t1, t2, rfl, ⟨c1, d1, x1, y1⟩, h1, k1, n1, z1⟩ := hv
  obtain ⟨b, t3, t4, rfl, ⟨c2, d2, x2, y2⟩, h2, k2, n2, z2⟩ := hw
  dsimp only at k1 z1 k2 z2
  subst k1 z1 k2 z2
  refine richCompare_meets_room (op := .Gt) ⟨_, h1, rfl⟩ ⟨_, h2, rfl⟩ F.slot_tuple_gt F.entry_tuple_gt (F.args_tuple_gt_2 _ _) (pair_gt a b p.1 p.2 q.1 q.2 t1 t2 t3 t4 n1 n2 d1 d2 y1 y2) ⟨h1, h2, ?_⟩ hu
  exact show Value.bool (beats p q) ≠ Value.notImplemented ∧ Q _ s from ⟨(fun z => nomatch z), h⟩
theorem two_lt {s : Shared} {v u : Value} {p q : Int × Int} {Q : Value → Shared → Prop} (hv : Two s.heap v p) (hw : Two s.heap u q) (hu : A.units < cLine) (h : Q (.bool (below p q)) s) : wpAny (model P w) A (richCompare .Lt v u) Q E s := by
  obtain ⟨a, t1, t2, rfl, k1⟩ := hv
  obtain ⟨b, t3, t4, rfl, k2⟩ := hw
  exact (HT.lt_tupInts k1 k2 (.cons _ _ (.cons _ _ .nil)) (.cons _ _ (.cons _ _ .nil)) hu h : wpAny (model P w) A (compareOp .Lt (.ref a) (.ref b)) Q E s)
end
/-- one of the items, with its pair -/
def Pick (items : Array Value) (qs : List (Int × Int)) (v : Value) (m : Int × Int) : Prop := ∃ i : Nat, items[i]? = some v ∧ qs[i]? = some m
/-- midway: j of the items l are asked, v is the best so far and lies in S -/
structure Mid (h0 h : Heap) (I S l : Addr) (items : Array Value) (j : Nat) (v : Value) : Prop where
  old : Old h0 h
  at_ : h.IsListIter I l j ∧ h.IsList l items
  box : ∃ c, h.get? S = some { cls := .type "list", dict := none, data := .seq #[v, v] c, slots := #[] }
theorem Mid.step {h0 h h' : Heap} {I S l : Addr} {items : Array Value} {j : Nat} {v : Value} (M : Mid h0 h I S l items j v) (nI : h0.get? I = none) (nS : h0.get? S = none) (sI : S ≠ I) (ne : l ≠ S) (hst : h'.IsListIter I l (j + 1) ∧ h'.IsList l items) (k : ∀ b o, b ∉ [I] → h.get? b = some o → h'.get? b = some o) : Mid h0 h' I S l items (j + 1) v where
  old := fun b o e => k b o (fun z => by rw [List.mem_singleton.mp z, nI] at e; cases e) (M.old b o e)
  at_ := hst
  box := by
    obtain ⟨c, e⟩ := M.box
    exact ⟨c, k S _ (fun z => sI (List.mem_singleton.mp z)) e⟩
theorem Mid.put {h0 h : Heap} {I S l : Addr} {items : Array Value} {j : Nat} {v u : Value} (M : Mid h0 h I S l items j v) (nS : h0.get? S = none) (sI : S ≠ I) (ne : l ≠ S) : Mid h0 (h.update S (Obj.mapSeq fun _ => #[u, u])) I S l items j u where
  old := fun b o e => (Heap.get?_update_other _ _ (fun z => by rw [← z, nS] at e; cases e)).trans (M.old b o e)
  at_ := ⟨M.at_.1.at fun o e => (Heap.get?_update_other _ _ sI).trans e, M.at_.2.at fun o e => (Heap.get?_update_other _ _ (Ne.symm ne)).trans e⟩
  box := by
    obtain ⟨c, e⟩ := M.box
    exact ⟨_, Heap.get?_update_self _ e rfl⟩
section
variable {P : Program} {w : World} {A : Around} {R : Result → Shared → Prop} {h0 : Heap} {I S l : Addr} {items : Array Value} {qs : List (Int × Int)}
theorem max_go (W : Walks P w A.in1 I [I, l] [I] items.size (fun i v => items[i]? = some v) (fun i h => h.IsListIter I l i ∧ h.IsList l items)) (nI : h0.get? I = none) (nS : h0.get? S = none) (sI : S ≠ I) (ne : l ≠ S) (hu : A.in1.units < cLine)
    (hq : items.size = qs.length) (hv : ∀ (i : Nat) (v : Value) (p : Int × Int), items[i]? = some v → qs[i]? = some p → Two h0 v p) : ∀ (rest : List (Int × Int)) (j : Nat) (s : Shared) (v : Value) (m : Int × Int), j ≤ qs.length → qs.drop j = rest → Mid h0 s.heap I S l items j v → Pick items qs v m →
      (∀ h' tk u, Pick items qs u (bestBy beats m rest) → Old h0 h' → R (.ok (.ret u)) { s with heap := h', toks := tk }) → codeAny (model P w) A (.builtin "max.loop" ⟨[.ref I, .none, .ref S], []⟩) R s
  | [], j, s, v, m, hj, hd, M, T, k => by
    have en : j = items.size := by
      have := congrArg List.length hd
      simp at this
      omega
    obtain ⟨c, hS⟩ := M.box
    refine codeAny_builtin F.entry_max_loop (by
      rw [Around.under_plainId F.plain_max_loop _]
      show wpAny _ _ (seqItems? (.ref S) >>= _) _ _ _
      refine wpAny_bind (wpAny_seqItems hS rfl (wpAny_bind (m := tryCatch (pyNext (.ref I)) _) (wpAny_tryCatch (W.done _ _ _ (en ▸ M.at_) fun h1 tk hk => ?_))))
      have hS1 := hk S _ (fun z => sI (List.mem_singleton.mp z)) hS
      show wpAny _ _ (updateSeq S (fun _ => #[]) >>= _) _ _ _
      refine wpAny_bind (wpAny_updateSeq hS1 rfl (wpAny_bind (wpAny_letGo (wpAny_pure (k _ tk v T fun b o e => ?_)))))
      refine (Heap.get?_update_other _ _ fun z => ?_).trans (hk b o (fun z => ?_) (M.old b o e))
      · rw [← z, nS] at e; cases e
      · rw [List.mem_singleton.mp z, nI] at e; cases e)
  | p :: rest, j, s, v, m, hj, hd, M, T, k => by
    have hlt : j < qs.length := by
      have := congrArg List.length hd
      simp at this
      omega
    have hp : qs[j]? = some p := by
      have := congrArg List.head? hd
      rwa [List.head?_drop] at this
    have hd2 : qs.drop (j + 1) = rest := by
      rw [← List.tail_drop, hd, List.tail_cons]
    obtain ⟨c, hS⟩ := M.box
    refine codeAny_builtin F.entry_max_loop (by
      rw [Around.under_plainId F.plain_max_loop _]
      show wpAny _ _ (seqItems? (.ref S) >>= _) _ _ _
      refine wpAny_bind (wpAny_seqItems hS rfl (wpAny_bind (m := tryCatch (pyNext (.ref I)) _) (wpAny_tryCatch (W.item j _ _ _ (hq ▸ hlt) M.at_ fun u h1 tk hu1 hst hk => ?_))))
      have M1 := M.step nI nS sI ne hst hk
      have Tu := hv j u p hu1 hp
      have Tv : Two h0 v m := by
        obtain ⟨i, z1, z2⟩ := T
        exact hv i v m z1 z2
      obtain ⟨c1, hS1⟩ := M1.box
      show wpAny _ _ (tryCatch (holding [u, u] (richCompare .Gt u v >>= _)) _ >>= _) _ _ _
      refine wpAny_bind (wpAny_tryCatch (wpAny_holding (wpAny_bind (two_gt (Tu.old M1.old) (Tv.old M1.old) hu (wpAny_bind (wpAny_holding (wpAny_truthy_bool (wpAny_bind (wpAny_letGo (wpAny_pure ?_))))))))))
      by_cases hb : beats p m = true
      · rw [hb]
        show wpAny _ _ (updateSeq S (fun _ => #[u, u]) >>= _) _ _ _
        refine wpAny_bind (wpAny_updateSeq hS1 rfl (wpAny_bind (wpAny_letGo (wpAny_pure ⟨plainId_quiet F.plain_max_loop _, ?_⟩))))
        exact max_go W nI nS sI ne hu hq hv rest (j + 1) _ u p hlt hd2 (M1.put nS sI ne) ⟨j, hu1, hp⟩ fun h' tk' u' T' o' => k h' tk' u' (by unfold bestBy; rw [if_pos hb]; exact T') o'
      · rw [Bool.eq_false_iff.mpr hb]
        show wpAny _ _ (letGo _ >>= _) _ _ _
        refine wpAny_bind (wpAny_letGo (wpAny_pure ⟨plainId_quiet F.plain_max_loop _, ?_⟩))
        exact max_go W nI nS sI ne hu hq hv rest (j + 1) _ v m hlt hd2 M1 T fun h' tk' u' T' o' => k h' tk' u' (by unfold bestBy; rw [if_neg hb]; exact T') o')
theorem max_first {s : Shared} {p : Int × Int} {c : Nat} (W : Walks P w A.in1 I [I, l] [I] items.size (fun i v => items[i]? = some v) (fun i h => h.IsListIter I l i ∧ h.IsList l items)) (nI : h0.get? I = none) (nS : h0.get? S = none) (sI : S ≠ I) (ne : l ≠ S) (hu : A.in1.units < cLine)
    (hq : items.size = (p :: qs).length) (hv : ∀ (i : Nat) (v : Value) (q : Int × Int), items[i]? = some v → (p :: qs)[i]? = some q → Two h0 v q) (ho : Old h0 s.heap) (hst : s.heap.IsListIter I l 0 ∧ s.heap.IsList l items)
    (hS : s.heap.get? S = some { cls := .type "list", dict := none, data := .seq #[] c, slots := #[] })
    (k : ∀ h' tk u, Pick items (p :: qs) u (bestBy beats p qs) → Old h0 h' → R (.ok (.ret u)) { s with heap := h', toks := tk }) : codeAny (model P w) A (.builtin "max.loop" ⟨[.ref I, .none, .ref S], []⟩) R s := by
  have hlt : 0 < items.size := by rw [hq]; exact Nat.succ_pos _
  refine codeAny_builtin F.entry_max_loop (by
    rw [Around.under_plainId F.plain_max_loop _]
    show wpAny _ _ (seqItems? (.ref S) >>= _) _ _ _
    refine wpAny_bind (wpAny_seqItems hS rfl (wpAny_bind (m := tryCatch (pyNext (.ref I)) _) (wpAny_tryCatch (W.item 0 _ _ _ hlt hst fun u h1 tk hu1 hst1 hk => ?_))))
    have hS1 := hk S _ (fun z => sI (List.mem_singleton.mp z)) hS
    have Tu := hv 0 u p hu1 rfl
    show wpAny _ _ (updateSeq S (fun _ => #[u, u]) >>= _) _ _ _
    refine wpAny_bind (wpAny_updateSeq hS1 rfl (wpAny_pure ⟨plainId_quiet F.plain_max_loop _, ?_⟩))
    refine max_go W nI nS sI ne hu hq hv qs 1 _ u p (Nat.succ_le_succ (Nat.zero_le _)) rfl ⟨fun b o e => ?_, ?_, _, Heap.get?_update_self _ hS1 rfl⟩ ⟨0, hu1, rfl⟩ k
    · refine (Heap.get?_update_other _ _ fun z => ?_).trans (hk b o (fun z => ?_) (ho b o e))
      · rw [← z, nS] at e; cases e
      · rw [List.mem_singleton.mp z, nI] at e; cases e
    · exact ⟨hst1.1.at fun o e => (Heap.get?_update_other _ _ sI).trans e, hst1.2.at fun o e => (Heap.get?_update_other _ _ (Ne.symm ne)).trans e⟩)
theorem max_two {s : Shared} {E : Value → Shared → Prop} {Q : Value → Shared → Prop} {p : Int × Int} (hh : A.handled = none) (hu : A.in1.units < cLine) (hl : s.heap.IsList l items) (hq : items.size = (p :: qs).length) (hv : ∀ (i : Nat) (v : Value) (q : Int × Int), items[i]? = some v → (p :: qs)[i]? = some q → Two s.heap v q)
    (k : ∀ h' tk u, Pick items (p :: qs) u (bestBy beats p qs) → Old s.heap h' → Q u { s with heap := h', toks := tk }) : wpAny (model P w) A (call (.builtin "max") [.ref l]) Q E s := by
  refine call_function_tree F.kind_max F.plain_max F.entry_max (F.args_max1 _) (by
    show wpAny _ _ (Builtin.Builtins.bindParams "max" ["key", "default"] 0 ⟨[], []⟩ >>= _) _ _ _
    refine wpAny_bind (wpAny_of_eq (a := [none, none]) rfl (wpAny_bind (wpAny_pure (wpAny_bind (wpAny_pyIter_list hl ?_)))))
    refine wpAny_bind (m := newObj (.type "list") _ _) (wpAny_newObj_type (wpAny_pure ⟨plainId_quiet F.plain_max_loop _, ?_⟩))
    have lt := Heap.lt_size (Classical.choose_spec hl).1
    have nl : l ≠ s.heap.objs.size := Nat.ne_of_lt lt
    have W := Walks.list (prog := P) (w := w) (A := A.in1) hh s.heap.objs.size l nl items
    have free : ∀ n, s.heap.get? (s.heap.objs.size + n) = none := fun n => by
      cases e : s.heap.get? (s.heap.objs.size + n) with
      | none => rfl
      | some o => exact absurd (Heap.lt_size e) (Nat.not_lt.mpr (Nat.le_add_right _ _))
    have e1 : (s.heap.push { cls := .type "list_iterator", data := .fields #[.ref l, .int 0 0] }).objs.size = s.heap.objs.size + 1 := Heap.size_push ..
    refine max_first (h0 := s.heap) W (free 0) (by rw [e1]; exact free 1) (by rw [e1]; exact Nat.succ_ne_self _) (by rw [e1]; exact Nat.ne_of_lt (Nat.lt_succ_of_lt lt)) hu hq hv (fun b o e => Heap.get?_push_of_some _ (Heap.get?_push_of_some _ e)) ?_ (Heap.get?_push_size _ rfl) k
    exact ⟨⟨_, Heap.get?_push_of_some _ (Heap.get?_push_size _ rfl), rfl, rfl⟩, hl.at fun o e => Heap.get?_push_of_some _ (Heap.get?_push_of_some _ e)⟩)
end
section
variable {P : Program} {w : World} {A : Around} {R : Result → Shared → Prop} {h0 : Heap} {I S l : Addr} {items : Array Value} {qs : List (Int × Int)}
theorem min_go (W : Walks P w A.in1 I [I, l] [I] items.size (fun i v => items[i]? = some v) (fun i h => h.IsListIter I l i ∧ h.IsList l items)) (nI : h0.get? I = none) (nS : h0.get? S = none) (sI : S ≠ I) (ne : l ≠ S) (hu : A.in1.units < cLine)
    (hq : items.size = qs.length) (hv : ∀ (i : Nat) (v : Value) (p : Int × Int), items[i]? = some v → qs[i]? = some p → Two h0 v p) : ∀ (rest : List (Int × Int)) (j : Nat) (s : Shared) (v : Value) (m : Int × Int), j ≤ qs.length → qs.drop j = rest → Mid h0 s.heap I S l items j v → Pick items qs v m →
      (∀ h' tk u, Pick items qs u (bestBy below m rest) → Old h0 h' → R (.ok (.ret u)) { s with heap := h', toks := tk }) → codeAny (model P w) A (.builtin "min.loop" ⟨[.ref I, .none, .ref S], []⟩) R s
  | [], j, s, v, m, hj, hd, M, T, k => by
    have en : j = items.size := by
      have := congrArg List.length hd
      simp at this
      omega
    obtain ⟨c, hS⟩ := M.box
    refine codeAny_builtin F.entry_min_loop (by
      rw [Around.under_plainId F.plain_min_loop _]
      show wpAny _ _ (seqItems? (.ref S) >>= _) _ _ _
      refine wpAny_bind (wpAny_seqItems hS rfl (wpAny_bind (m := tryCatch (pyNext (.ref I)) _) (wpAny_tryCatch (W.done _ _ _ (en ▸ M.at_) fun h1 tk hk => ?_))))
      have hS1 := hk S _ (fun z => sI (List.mem_singleton.mp z)) hS
      show wpAny _ _ (updateSeq S (fun _ => #[]) >>= _) _ _ _
      refine wpAny_bind (wpAny_updateSeq hS1 rfl (wpAny_bind (wpAny_letGo (wpAny_pure (k _ tk v T fun b o e => ?_)))))
      refine (Heap.get?_update_other _ _ fun z => ?_).trans (hk b o (fun z => ?_) (M.old b o e))
      · rw [← z, nS] at e; cases e
      · rw [List.mem_singleton.mp z, nI] at e; cases e)
  | p :: rest, j, s, v, m, hj, hd, M, T, k => by
    have hlt : j < qs.length := by
      have := congrArg List.length hd
      simp at this
      omega
    have hp : qs[j]? = some p := by
      have := congrArg List.head? hd
      rwa [List.head?_drop] at this
    have hd2 : qs.drop (j + 1) = rest := by
      rw [← List.tail_drop, hd, List.tail_cons]
    obtain ⟨c, hS⟩ := M.box
    refine codeAny_builtin F.entry_min_loop (by
      rw [Around.under_plainId F.plain_min_loop _]
      show wpAny _ _ (seqItems? (.ref S) >>= _) _ _ _
      refine wpAny_bind (wpAny_seqItems hS rfl (wpAny_bind (m := tryCatch (pyNext (.ref I)) _) (wpAny_tryCatch (W.item j _ _ _ (hq ▸ hlt) M.at_ fun u h1 tk hu1 hst hk => ?_))))
      have M1 := M.step nI nS sI ne hst hk
      have Tu := hv j u p hu1 hp
      have Tv : Two h0 v m := by
        obtain ⟨i, z1, z2⟩ := T
        exact hv i v m z1 z2
      obtain ⟨c1, hS1⟩ := M1.box
      show wpAny _ _ (tryCatch (holding [u, u] (richCompare .Lt u v >>= _)) _ >>= _) _ _ _
      refine wpAny_bind (wpAny_tryCatch (wpAny_holding (wpAny_bind (two_lt (Tu.old M1.old) (Tv.old M1.old) hu (wpAny_bind (wpAny_holding (wpAny_truthy_bool (wpAny_bind (wpAny_letGo (wpAny_pure ?_))))))))))
      by_cases hb : below p m = true
      · rw [hb]
        show wpAny _ _ (updateSeq S (fun _ => #[u, u]) >>= _) _ _ _
        refine wpAny_bind (wpAny_updateSeq hS1 rfl (wpAny_bind (wpAny_letGo (wpAny_pure ⟨plainId_quiet F.plain_min_loop _, ?_⟩))))
        exact min_go W nI nS sI ne hu hq hv rest (j + 1) _ u p hlt hd2 (M1.put nS sI ne) ⟨j, hu1, hp⟩ fun h' tk' u' T' o' => k h' tk' u' (by unfold bestBy; rw [if_pos hb]; exact T') o'
      · rw [Bool.eq_false_iff.mpr hb]
        show wpAny _ _ (letGo _ >>= _) _ _ _
        refine wpAny_bind (wpAny_letGo (wpAny_pure ⟨plainId_quiet F.plain_min_loop _, ?_⟩))
        exact min_go W nI nS sI ne hu hq hv rest (j + 1) _ v m hlt hd2 M1 T fun h' tk' u' T' o' => k h' tk' u' (by unfold bestBy; rw [if_neg hb]; exact T') o')
theorem min_first {s : Shared} {p : Int × Int} {c : Nat} (W : Walks P w A.in1 I [I, l] [I] items.size (fun i v => items[i]? = some v) (fun i h => h.IsListIter I l i ∧ h.IsList l items)) (nI : h0.get? I = none) (nS : h0.get? S = none) (sI : S ≠ I) (ne : l ≠ S) (hu : A.in1.units < cLine)
    (hq : items.size = (p :: qs).length) (hv : ∀ (i : Nat) (v : Value) (q : Int × Int), items[i]? = some v → (p :: qs)[i]? = some q → Two h0 v q) (ho : Old h0 s.heap) (hst : s.heap.IsListIter I l 0 ∧ s.heap.IsList l items)
    (hS : s.heap.get? S = some { cls := .type "list", dict := none, data := .seq #[] c, slots := #[] })
    (k : ∀ h' tk u, Pick items (p :: qs) u (bestBy below p qs) → Old h0 h' → R (.ok (.ret u)) { s with heap := h', toks := tk }) : codeAny (model P w) A (.builtin "min.loop" ⟨[.ref I, .none, .ref S], []⟩) R s := by
  have hlt : 0 < items.size := by rw [hq]; exact Nat.succ_pos _
  refine codeAny_builtin F.entry_min_loop (by
    rw [Around.under_plainId F.plain_min_loop _]
    show wpAny _ _ (seqItems? (.ref S) >>= _) _ _ _
    refine wpAny_bind (wpAny_seqItems hS rfl (wpAny_bind (m := tryCatch (pyNext (.ref I)) _) (wpAny_tryCatch (W.item 0 _ _ _ hlt hst fun u h1 tk hu1 hst1 hk => ?_))))
    have hS1 := hk S _ (fun z => sI (List.mem_singleton.mp z)) hS
    have Tu := hv 0 u p hu1 rfl
    show wpAny _ _ (updateSeq S (fun _ => #[u, u]) >>= _) _ _ _
    refine wpAny_bind (wpAny_updateSeq hS1 rfl (wpAny_pure ⟨plainId_quiet F.plain_min_loop _, ?_⟩))
    refine min_go W nI nS sI ne hu hq hv qs 1 _ u p (Nat.succ_le_succ (Nat.zero_le _)) rfl ⟨fun b o e => ?_, ?_, _, Heap.get?_update_self _ hS1 rfl⟩ ⟨0, hu1, rfl⟩ k
    · refine (Heap.get?_update_other _ _ fun z => ?_).trans (hk b o (fun z => ?_) (ho b o e))
      · rw [← z, nS] at e; cases e
      · rw [List.mem_singleton.mp z, nI] at e; cases e
    · exact ⟨hst1.1.at fun o e => (Heap.get?_update_other _ _ sI).trans e, hst1.2.at fun o e => (Heap.get?_update_other _ _ (Ne.symm ne)).trans e⟩)
theorem min_two {s : Shared} {E : Value → Shared → Prop} {Q : Value → Shared → Prop} {p : Int × Int} (hh : A.handled = none) (hu : A.in1.units < cLine) (hl : s.heap.IsList l items) (hq : items.size = (p :: qs).length) (hv : ∀ (i : Nat) (v : Value) (q : Int × Int), items[i]? = some v → (p :: qs)[i]? = some q → Two s.heap v q)
    (k : ∀ h' tk u, Pick items (p :: qs) u (bestBy below p qs) → Old s.heap h' → Q u { s with heap := h', toks := tk }) : wpAny (model P w) A (call (.builtin "min") [.ref l]) Q E s := by
  refine call_function_tree F.kind_min F.plain_min F.entry_min (F.args_min1 _) (by
    show wpAny _ _ (Builtin.Builtins.bindParams "min" ["key", "default"] 0 ⟨[], []⟩ >>= _) _ _ _
    refine wpAny_bind (wpAny_of_eq (a := [none, none]) rfl (wpAny_bind (wpAny_pure (wpAny_bind (wpAny_pyIter_list hl ?_)))))
    refine wpAny_bind (m := newObj (.type "list") _ _) (wpAny_newObj_type (wpAny_pure ⟨plainId_quiet F.plain_min_loop _, ?_⟩))
    have lt := Heap.lt_size (Classical.choose_spec hl).1
    have nl : l ≠ s.heap.objs.size := Nat.ne_of_lt lt
    have W := Walks.list (prog := P) (w := w) (A := A.in1) hh s.heap.objs.size l nl items
    have free : ∀ n, s.heap.get? (s.heap.objs.size + n) = none := fun n => by
      cases e : s.heap.get? (s.heap.objs.size + n) with
      | none => rfl
      | some o => exact absurd (Heap.lt_size e) (Nat.not_lt.mpr (Nat.le_add_right _ _))
    have e1 : (s.heap.push { cls := .type "list_iterator", data := .fields #[.ref l, .int 0 0] }).objs.size = s.heap.objs.size + 1 := Heap.size_push ..
    refine min_first (h0 := s.heap) W (free 0) (by rw [e1]; exact free 1) (by rw [e1]; exact Nat.succ_ne_self _) (by rw [e1]; exact Nat.ne_of_lt (Nat.lt_succ_of_lt lt)) hu hq hv (fun b o e => Heap.get?_push_of_some _ (Heap.get?_push_of_some _ e)) ?_ (Heap.get?_push_size _ rfl) k
    exact ⟨⟨_, Heap.get?_push_of_some _ (Heap.get?_push_size _ rfl), rfl, rfl⟩, hl.at fun o e => Heap.get?_push_of_some _ (Heap.get?_push_of_some _ e)⟩)
end
end DT
namespace DT
open PySem L2 DL
variable {X : Cx}
/-- a list of pairs of ints -/
def Prs (K : Fg) (H : Hp) (us : List V) (qs : List (Int × Int)) : Prop := us.length = qs.length ∧ ∀ (i : Nat) (u : V) (q : Int × Int), us[i]? = some u → qs[i]? = some q → ∃ b, u = .ref b ∧ SqT K H b [.int q.1, .int q.2]
def rBest (f : Int × Int → Int × Int → Bool) (K : Fg) : List V → Hp → VK → Prop := fun vs H Q => ∃ (a : Addr) (us : List V) (p : Int × Int) (qs : List (Int × Int)), vs = [V.ref a] ∧ SqL K H a us ∧ Prs K H us (p :: qs) ∧
  ∀ (i : Nat) (u : V), us[i]? = some u → (p :: qs)[i]? = some (bestBy f p qs) → Q u H
theorem vals_len : ∀ {xs : List V} {us : List Value}, Vals xs us → us.length = xs.length
  | _, _, .nil => rfl
  | _, _, .cons _ t => by rw [List.length_cons, List.length_cons, vals_len t]
theorem vals_back {xs : List V} {us : List Value} {i : Nat} {u : Value} (r : Vals xs us) (e : us[i]? = some u) : ∃ x, xs[i]? = some x ∧ RelV x u := by
  have hi := (List.getElem?_eq_some_iff.mp e).1
  rw [vals_len r] at hi
  obtain ⟨u', e1, e2⟩ := r.get (List.getElem?_eq_getElem hi)
  rw [e] at e1
  cases e1
  exact ⟨_, List.getElem?_eq_getElem hi, e2⟩
theorem two_of {pins s σ H} (I : Inv X pins σ H s) {b : Addr} {q : Int × Int} (h : SqT X.K H b [.int q.1, .int q.2]) : Two s.heap (.ref b) q := by
  obtain ⟨its, r, ht, _⟩ := I.tuple h
  cases r with
  | cons r1 r =>
    cases r with
    | cons r2 r =>
      cases r
      obtain ⟨t, rfl⟩ := r1
      obtain ⟨u, rfl⟩ := r2
      exact ⟨b, t, u, rfl, ht⟩
theorem cr_maxT {n : Nat} (hr : Room n X.A) (hc : X.calm = true) : CallR X (.builtin "max") (rBest beats X.K) := by
  intro pins s σ H vs us Q I r h
  obtain ⟨a, ws, p, qs, rfl, hs, ⟨hl, hp⟩, q⟩ := h
  obtain ⟨its, rv, hL, _⟩ := I.list hs
  rw [Vals.ref1 r]
  refine max_two (items := its.toArray) (p := p) (qs := qs) (I.ok.hd hc) (by have := hr.un; show X.A.units + 1 < _; omega) hL.isList (by rw [List.size_toArray, vals_len rv, hl]) (fun i v x e1 e2 => ?_) fun h' tk u ⟨i, e1, e2⟩ hk => ?_
  · obtain ⟨y, e3, e4⟩ := vals_back rv (by simpa using e1)
    obtain ⟨b, rfl, hb⟩ := hp i y x e3 e2
    cases e4
    exact two_of I hb
  · obtain ⟨y, e3, e4⟩ := vals_back rv (by simpa using e1)
    exact ⟨y, H, I.kept hk, e4, q i y e3 e2⟩
theorem cr_minT {n : Nat} (hr : Room n X.A) (hc : X.calm = true) : CallR X (.builtin "min") (rBest below X.K) := by
  intro pins s σ H vs us Q I r h
  obtain ⟨a, ws, p, qs, rfl, hs, ⟨hl, hp⟩, q⟩ := h
  obtain ⟨its, rv, hL, _⟩ := I.list hs
  rw [Vals.ref1 r]
  refine min_two (items := its.toArray) (p := p) (qs := qs) (I.ok.hd hc) (by have := hr.un; show X.A.units + 1 < _; omega) hL.isList (by rw [List.size_toArray, vals_len rv, hl]) (fun i v x e1 e2 => ?_) fun h' tk u ⟨i, e1, e2⟩ hk => ?_
  · obtain ⟨y, e3, e4⟩ := vals_back rv (by simpa using e1)
    obtain ⟨b, rfl, hb⟩ := hp i y x e3 e2
    cases e4
    exact two_of I hb
  · obtain ⟨y, e3, e4⟩ := vals_back rv (by simpa using e1)
    exact ⟨y, H, I.kept hk, e4, q i y e3 e2⟩
end DT
namespace DL
open PySem PySem.Spec L2
/-- rising, none twice -/
def insI (n : Int) : List Int → List Int
  | [] => [n]
  | m :: r => if n < m then n :: m :: r else if n = m then m :: r else m :: insI n r
def ssetI (ns : List Int) : List Int := ns.foldr insI []
theorem insI_mem {k n : Int} : ∀ {l : List Int}, k ∈ insI n l ↔ k = n ∨ k ∈ l
  | [] => by simp [insI]
  | m :: r => by
    unfold insI
    split
    · simp
    · split
      · rename_i h; subst h; simp
      · rw [List.mem_cons, insI_mem (l := r), List.mem_cons]
        constructor
        · rintro (h | h | h)
          · exact .inr (.inl h)
          · exact .inl h
          · exact .inr (.inr h)
        · rintro (h | h | h)
          · exact .inr (.inl h)
          · exact .inl h
          · exact .inr (.inr h)
theorem insI_rise {n : Int} : ∀ {l : List Int}, l.Pairwise (· < ·) → (insI n l).Pairwise (· < ·)
  | [], _ => by simp [insI]
  | m :: r, h => by
    rw [List.pairwise_cons] at h
    unfold insI
    split
    · rename_i hn
      rw [List.pairwise_cons]
      refine ⟨fun b hb => ?_, List.pairwise_cons.mpr h⟩
      rcases List.mem_cons.mp hb with rfl | hb
      · exact hn
      · exact Int.lt_trans hn (h.1 b hb)
    · split
      · exact List.pairwise_cons.mpr h
      · rename_i h1 h2
        rw [List.pairwise_cons]
        refine ⟨fun b hb => ?_, insI_rise h.2⟩
        rcases insI_mem.mp hb with rfl | hb
        · omega
        · exact h.1 b hb
theorem ssetI_mem {k : Int} : ∀ {ns : List Int}, k ∈ ssetI ns ↔ k ∈ ns
  | [] => by simp [ssetI]
  | n :: ns => by
    show k ∈ insI n (ssetI ns) ↔ _
    rw [insI_mem, ssetI_mem, List.mem_cons]
theorem ssetI_rise : ∀ {ns : List Int}, (ssetI ns).Pairwise (· < ·)
  | [] => by simp [ssetI]
  | n :: ns => insI_rise (ssetI_rise (ns := ns))
theorem metL_ok (val : Nat → Int) : ∀ n, (DS.metL val n).Nodup ∧ ∀ k, k ∈ DS.metL val n ↔ ∃ i, i < n ∧ val i = k
  | 0 => ⟨List.nodup_nil, fun k => by simp [DS.metL]⟩
  | n + 1 => by
    obtain ⟨h1, h2⟩ := metL_ok val n
    unfold DS.metL DS.insL
    split
    · rename_i h
      refine ⟨h1, fun k => ?_⟩
      rw [h2]
      constructor
      · rintro ⟨i, hi, e⟩; exact ⟨i, by omega, e⟩
      · rintro ⟨i, hi, e⟩
        by_cases z : i = n
        · subst z; subst e; exact (h2 _).mp h
        · exact ⟨i, by omega, e⟩
    · rename_i h
      refine ⟨List.nodup_append.mpr ⟨h1, by simp, fun x hx y hy => ?_⟩, fun k => ?_⟩
      · rw [List.mem_singleton] at hy
        subst hy
        intro z
        subst z
        exact h hx
      · rw [List.mem_append, h2, List.mem_singleton]
        constructor
        · rintro (⟨i, hi, e⟩ | e)
          · exact ⟨i, by omega, e⟩
          · exact ⟨n, by omega, e.symm⟩
        · rintro ⟨i, hi, e⟩
          by_cases z : i = n
          · subst z; exact .inr e.symm
          · exact .inl ⟨i, by omega, e⟩
theorem sset_same {ns ms : List Int} (hp : ms.Perm (DS.metL (fun i => ns.getD i 0) ns.length)) (hle : ms.Pairwise (· ≤ ·)) : ms = ssetI ns := by
  obtain ⟨h1, h2⟩ := metL_ok (fun i => ns.getD i 0) ns.length
  have hr := ssetI_rise (ns := ns)
  refine PySem.W.ksm_same ?_ hle (hr.imp fun h => Int.le_of_lt h)
  refine hp.trans ((List.perm_ext_iff_of_nodup h1 (hr.imp fun h => Int.ne_of_lt h)).mpr fun k => ?_)
  rw [h2, ssetI_mem]
  constructor
  · rintro ⟨i, hi, e⟩
    subst e
    rw [List.getD_eq_getElem?_getD, List.getElem?_eq_getElem hi]
    exact List.getElem_mem hi
  · intro hk
    obtain ⟨i, hi, e⟩ := List.getElem_of_mem hk
    exact ⟨i, hi, by rw [List.getD_eq_getElem?_getD, List.getElem?_eq_getElem hi]; exact e⟩
@[simp] def oSset : D → Option (List D)
  | .list xs => (intsOf xs).bind fun ns => if ns.length < 64 then some ((ssetI ns).map PyData.int) else none
  | _ => none
@[simp] def x1L (o : D → Option (List D)) (f : Ev → Option D) : Ev → Option (List D) := fun ds => (f ds).bind o
@[simp] def oRev : D → Option (List D)
  | .list xs => some xs.reverse
  | _ => none
/-- a pair of ints -/
def pairI : D → Option (Int × Int)
  | .tuple xs => match xs with
    | [.int a, .int b] => some (a, b)
    | _ => none
  | _ => none
def pairsI : List D → Option (List (Int × Int))
  | [] => some []
  | d :: r => (pairI d).bind fun p => (pairsI r).map (p :: ·)
def ltP (p q : Int × Int) : Bool := decide (p.1 < q.1) || (decide (p.1 = q.1) && decide (p.2 < q.2))
/-- the first of the greatest -/
def maxP : Int × Int → List (Int × Int) → Int × Int
  | m, [] => m
  | m, p :: r => maxP (if ltP m p then p else m) r
def minP : Int × Int → List (Int × Int) → Int × Int
  | m, [] => m
  | m, p :: r => minP (if ltP p m then p else m) r
def pD (p : Int × Int) : D := .tuple [.int p.1, .int p.2]
@[simp] def oMaxT : D → Option D
  | .list xs => (pairsI xs).bind fun ps => match ps with
    | [] => none
    | p :: r => some (pD (maxP p r))
  | _ => none
@[simp] def oMinT : D → Option D
  | .list xs => (pairsI xs).bind fun ps => match ps with
    | [] => none
    | p :: r => some (pD (minP p r))
  | _ => none
section
variable {X : Cx} {pos p p1 p2 : Pos} {a b : Expr} {f g : Ev → Option D}
theorem pl_sset (hc : X.calm = true) (hg : Gl X "sorted") (hm : X.mg "sorted" = none) (hg' : Gl X "set") (hm' : X.mg "set" = none) (ha : PD X a f) (he : starEach [a] X.env = (false, eval a X.env) :: starEach [] X.env := by rfl)
    (he2 : starEach [.Call (.Name "set" p1) [a] [] p2] X.env = (false, eval (.Call (.Name "set" p1) [a] [] p2) X.env) :: starEach [] X.env := by rfl) :
    PL X (.Call (.Name "sorted" p) [.Call (.Name "set" p1) [a] [] p2] [] pos) (x1L oSset f) := ⟨iPE (pe_callB (DS.cr_sortedSet hc) hg hm (by decide +kernel) (pa_cons (pe_callTy (DS.cr_set hc) hg' hm' (by decide +kernel) (pa_cons ha.out pa_nil he) (he := he)) pa_nil he2) (he := he2)) fun σ H Q ⟨F, ds, d, sf, ev, e, k⟩ => by
  obtain ⟨y, e1, e2⟩ := Option.bind_eq_some_iff.mp e
  refine ⟨F, ds, y, sf, ev, e1, fun v F1 H1 g1 d1 => ?_⟩
  cases d1 with
  | lst hs hv =>
    obtain ⟨ns, e3, e4⟩ := Option.bind_eq_some_iff.mp e2
    split at e4
    · rename_i h64
      cases e4
      cases intsOf_map e3
      rw [DpAll.toInts hv] at hs
      refine ⟨_, ns, rfl, g1.sub.seq hs, h64, fun q hq => ⟨q, _, rfl, upd_same, Nat.lt_of_le_of_lt (DS.metL_len _ _) h64, fun ms r hp hle hr => ?_⟩⟩
      have em : ms = ssetI ns := sset_same hp hle
      subst em
      have g2 := g1.trans (Gr.hid (o := DS.isSet X.prog X.w q (DS.metL (fun i => ns.getD i 0) ns.length)) g1.sub hq)
      have g3 := g2.trans (Gr.hid (o := .lst ((ssetI ns).map V.int)) g2.sub hr)
      exact k r _ F1 _ g3 (g2.sub.free hr) (g2.hh.free hr) upd_same (DpAll.ints _)
    · cases e4
  | _ => cases e2⟩
theorem beats_is (p m : Int × Int) : DT.beats p m = ltP m p := by
  unfold DT.beats DT.gtQ ltP
  by_cases h : p.1 = m.1
  · simp [h]
  · have h' : ¬ m.1 = p.1 := fun z => h z.symm
    simp [h, h']
theorem below_is (p m : Int × Int) : DT.below p m = ltP p m := by
  unfold DT.below ltP
  rw [HT.lexLt_cons, HT.lexLt_cons, HT.lexLt_nil_nil]
  by_cases h : p.1 = m.1
  · by_cases h2 : p.2 = m.2
    · simp [h, h2]
    · simp [h, h2]
  · simp [h]
theorem best_max : ∀ (l : List (Int × Int)) (m : Int × Int), DT.bestBy DT.beats m l = maxP m l
  | [], _ => rfl
  | p :: l, m => by unfold DT.bestBy maxP; rw [beats_is, best_max l]
theorem best_min : ∀ (l : List (Int × Int)) (m : Int × Int), DT.bestBy DT.below m l = minP m l
  | [], _ => rfl
  | p :: l, m => by unfold DT.bestBy minP; rw [below_is, best_min l]
theorem pairI_eq {d : D} {p : Int × Int} (e : pairI d = some p) : d = pD p := by
  unfold pairI at e
  split at e
  · split at e
    · cases e; rfl
    · cases e
  · cases e
theorem pairsI_map : ∀ {ds : List D} {ps : List (Int × Int)}, pairsI ds = some ps → ds = ps.map pD
  | [], _, e => by cases e; rfl
  | d :: r, ps, e => by
    obtain ⟨p, e1, e2⟩ := Option.bind_eq_some_iff.mp e
    obtain ⟨q, e3, rfl⟩ := Option.map_eq_some_iff.mp e2
    rw [pairI_eq e1, pairsI_map e3, List.map_cons]
theorem dp_get {K : Fg} {F : Hp} : ∀ {vs : List V} {ds : List D} {i : Nat} {v : V}, DpAll K F vs ds → vs[i]? = some v → ∃ d, ds[i]? = some d ∧ Dp K F v d
  | _, _, _, _, .nil, e => by simp at e
  | _, _, 0, _, .cons h _, e => by simp at e; subst e; exact ⟨_, rfl, h⟩
  | _, _, i + 1, v, .cons _ t, e => by
    obtain ⟨d, e1, e2⟩ := dp_get (i := i) (v := v) t (by simpa using e)
    exact ⟨d, by simpa using e1, e2⟩
theorem prs_of {K : Fg} {F H : Hp} {vs : List V} {ps : List (Int × Int)} (sf : Same F H) (h : DpAll K F vs (ps.map pD)) : DT.Prs K H vs ps := by
  refine ⟨by rw [DpAll.len h, List.length_map], fun i u q e1 e2 => ?_⟩
  obtain ⟨d, e3, hd⟩ := dp_get h e1
  rw [List.getElem?_map, e2] at e3
  cases e3
  unfold pD at hd
  cases hd with
  | tup hs hv =>
    cases hv with
    | cons h1 hv =>
      cases hv with
      | cons h2 hv =>
        cases hv
        cases h1
        cases h2
        exact ⟨_, rfl, Same.seqT sf hs⟩
theorem dc_best {K : Fg} {g : Int × Int → Int × Int → Bool} {o : D → Option D} (ho : ∀ d c, o d = some c → ∃ xs p ps, d = .list xs ∧ pairsI xs = some (p :: ps) ∧ c = pD (DT.bestBy g p ps)) : DCall K (DT.rBest g K) (on1 o) := fun F H xs ds c Q sf da eq k => by
  match ds, eq with
  | [d], eq =>
    obtain ⟨ys, p, ps, rfl, e1, rfl⟩ := ho d c eq
    cases da with
    | cons d1 d2 =>
      cases d2
      cases d1 with
      | lst hs hv =>
        cases pairsI_map e1
        refine ⟨_, _, p, ps, rfl, sf.seq hs, prs_of sf hv, fun i u z1 z2 => ?_⟩
        obtain ⟨d, e3, hd⟩ := dp_get hv z1
        rw [List.getElem?_map, z2] at e3
        cases e3
        exact k _ F H (Gr.refl sf) hd
theorem dc_maxT {K : Fg} : DCall K (DT.rBest DT.beats K) (on1 oMaxT) := dc_best fun d c e => by
  unfold oMaxT at e
  split at e
  · obtain ⟨ps, e1, e2⟩ := Option.bind_eq_some_iff.mp e
    cases ps with
    | nil => cases e2
    | cons p ps => cases e2; exact ⟨_, p, ps, rfl, e1, by rw [best_max]⟩
  · cases e
theorem dc_minT {K : Fg} : DCall K (DT.rBest DT.below K) (on1 oMinT) := dc_best fun d c e => by
  unfold oMinT at e
  split at e
  · obtain ⟨ps, e1, e2⟩ := Option.bind_eq_some_iff.mp e
    cases ps with
    | nil => cases e2
    | cons p ps => cases e2; exact ⟨_, p, ps, rfl, e1, by rw [best_min]⟩
  · cases e
theorem pd_maxT {n : Nat} (hr : Room n X.A) (hc : X.calm = true) (hg : Gl X "max") (hm : X.mg "max" = none) (ha : PD X a f) (he : starEach [a] X.env = (false, eval a X.env) :: starEach [] X.env := by rfl) : PD X (.Call (.Name "max" p) [a] [] pos) (xCall (on1 oMaxT) (aCons f aNil)) :=
  pd_callB dc_maxT (DT.cr_maxT hr hc) hg hm (by decide +kernel) (pas_cons ha pas_nil he) (he := he)
theorem pd_minT {n : Nat} (hr : Room n X.A) (hc : X.calm = true) (hg : Gl X "min") (hm : X.mg "min" = none) (ha : PD X a f) (he : starEach [a] X.env = (false, eval a X.env) :: starEach [] X.env := by rfl) : PD X (.Call (.Name "min" p) [a] [] pos) (xCall (on1 oMinT) (aCons f aNil)) :=
  pd_callB dc_minT (DT.cr_minT hr hc) hg hm (by decide +kernel) (pas_cons ha pas_nil he) (he := he)
end
end DL
namespace G
open PySem L2 DL
def top (i : Nat) : Stmt := PySem.Challenge.pw_stonesround_k06_whole_pushed_on.main.body.getD i (.Pass ⟨0, 0, 0, 0⟩)
abbrev d_is_counted : Stmt := top 5
abbrev N_is_counted : List Str := ["value", "many"]
abbrev g_is_counted : Sl → Option Out := (sSeq (sIf (bOr (bNot (bTru (x1 (oIsi "int") (xVar 0)))) (bTru (x1 (oIsi "bool") (xVar 0)))) (sRet (xC (.bool false))) sNil)
  (sRet (xCh oLe oLt (xC (.int 0)) (xVar 0) (xVar 1))))
def m_is_counted : List D → Option Ret := runF 2 0 g_is_counted
abbrev d_are_roads : Stmt := top 6
abbrev N_are_roads : List Str := ["value", "many", "least", "place"]
abbrev b0_are_roads : Sl → Option Out := (sSeq (sIf (bOr (bNot (bTru (xCall (mD m_is_counted) (aCons (xVar 3) (aCons (xVar 1) aNil))))) (bOf (x2 oLt (xVar 3) (xVar 2)))) (sRet (xC (.bool false))) sNil)
  (sSet 2 (x2 oAdd (xVar 3) (xC (.int 1)))))
abbrev g_are_roads : Sl → Option Out := (sSeq (sIf (bNot (bTru (x1 (oIsi "list") (xVar 0)))) (sRet (xC (.bool false))) sNil)
  (sSeq (sSet 2 (xC (.int 0)))
  (sSeq (sFor (fromE [0] (sSeqOf (xVar 0))) (.one 3) b0_are_roads)
  (sRet (xC (.bool true))))))
def m_are_roads : List D → Option Ret := runF 2 2 g_are_roads
abbrev d_check_web : Stmt := top 7
abbrev N_check_web : List Str := ["web", "roads"]
abbrev b0_check_web : Sl → Option Out := (sIf (bNot (bTru (xCall (mD m_are_roads) (aCons (xVar 1) (aCons (xCall (on1 oLen) (aCons (xVar 0) aNil)) aNil))))) sNever sNil)
abbrev g_check_web : Sl → Option Out := (sSeq (sIf (bNot (bTru (x1 (oIsi "list") (xVar 0)))) sNever sNil)
  (sSeq (sIf (bNot (bOf (xCh oLe oLe (xC (.int 1)) (xCall (on1 oLen) (aCons (xVar 0) aNil)) (xC (.int 60))))) sNever sNil)
  (sFor (fromE [0] (sSeqOf (xVar 0))) (.one 1) b0_check_web)))
def m_check_web : List D → Option Ret := runF 1 1 g_check_web
abbrev d_is_won : Stmt := top 9
abbrev N_is_won : List Str := ["told"]
abbrev g_is_won : Sl → Option Out := (sRet (xAnd (x1 (fun d => some (.bool (!isN d))) (xVar 0)) (x2 oEq (x2 oMod (xVar 0) (xC (.int 2))) (xC (.int 1)))))
def m_is_won : List D → Option Ret := runF 1 0 g_is_won
abbrev d_ends_in : Stmt := top 10
abbrev N_ends_in : List Str := ["roads", "known", "count", "place"]
abbrev g_ends_in : Sl → Option Out := (sSeq (sIf (bOf (x2 oEq (x2 oMod (xVar 2) (xC (.int 2))) (xC (.int 1)))) (sRet (xCall (on1 oAny) (aCons (xLst (lComp (sSeqOf (xVar 0)) (.one 3) bYes (x2 oEq (x2 oIx (xVar 1) (xVar 3)) (x2 oSub (xVar 2) (xC (.int 1)))))) aNil))) sNil)
  (sRet (xCall (on1 oAll) (aCons (xLst (lComp (sSeqOf (xVar 0)) (.one 3) bYes (xCall (mD m_is_won) (aCons (x2 oIx (xVar 1) (xVar 3)) aNil)))) aNil))))
def m_ends_in : List D → Option Ret := runF 3 1 g_ends_in
abbrev d_ends : Stmt := top 11
abbrev N_ends : List Str := ["web", "known", "count", "found", "place", "roads"]
abbrev b0_ends : Sl → Option Out := (sItem 1 (xVar 4) (xVar 2))
abbrev b1_ends : Sl → Option Out := (sSeq (sSetL 3 (lComp (sEnum (xVar 0)) (.two 4 5) (bAnd (bOf (x1 (fun d => some (.bool (isN d))) (x2 oIx (xVar 1) (xVar 4)))) (bTru (xCall (mD m_ends_in) (aCons (xVar 5) (aCons (xVar 1) (aCons (xVar 2) aNil)))))) (xVar 4)))
  (sSeq (sFor (fromE [3] (sSeqOf (xVar 3))) (.one 4) b0_ends)
  (sIf (bNot (bTru (xVar 3))) sBreak sNil)))
abbrev g_ends : Sl → Option Out := (sSeq (sExpr (xCall (mD m_check_web) (aCons (xVar 0) aNil)))
  (sSeq (sSetL 1 (lRep (lDisp (aCons (xC .none) aNil)) (xCall (on1 oLen) (aCons (xVar 0) aNil))))
  (sSeq (sFor (fromR (sRange1 (xCall (on1 oLen) (aCons (xVar 0) aNil)))) (.one 2) b1_ends)
  (sRetV 1))))
def m_ends : List D → Option Ret := runF 1 5 g_ends
abbrev d__law_cell_at : Stmt := top 13
abbrev N__law_cell_at : List Str := ["_law_script", "_law_k"]
abbrev g__law_cell_at : Sl → Option Out := (sSeq (sIf (bOf (x2 oLt (xVar 1) (xCall (on1 oLen) (aCons (xVar 0) aNil)))) (sRet (x2 oIx (xVar 0) (xVar 1))) sNil)
  (sRet (xC (.int 0))))
def m__law_cell_at : List D → Option Ret := runF 2 0 g__law_cell_at
abbrev d__law_draw : Stmt := top 14
abbrev N__law_draw : List Str := ["_law_cell", "_law_k", "_law_most", "_law_primes"]
abbrev g__law_draw : Sl → Option Out := (sSeq (sSet 3 (xTup (lDisp (aCons (xC (.int 1000003)) (aCons (xC (.int 1000033)) (aCons (xC (.int 1000037)) (aCons (xC (.int 1000039)) (aCons (xC (.int 1000081)) (aCons (xC (.int 1000099)) (aCons (xC (.int 1000117)) (aCons (xC (.int 1000121)) (aCons (xC (.int 1000133)) (aCons (xC (.int 1000151)) (aCons (xC (.int 1000159)) (aCons (xC (.int 1000171)) (aCons (xC (.int 1000183)) (aCons (xC (.int 1000187)) (aCons (xC (.int 1000193)) (aCons (xC (.int 1000199)) aNil)))))))))))))))))))
  (sRet (x2 oMod (x2 oMod (x2 oAdd (x2 oMul (xVar 0) (xC (.int 48271))) (x2 oMul (xVar 1) (xC (.int 69621)))) (x2 oIx (xVar 3) (x2 oMod (xVar 1) (xC (.int 16))))) (xVar 2))))
def m__law_draw : List D → Option Ret := runF 3 1 g__law_draw
abbrev d__law_number : Stmt := top 15
abbrev N__law_number : List Str := ["_law_cell", "_law_k", "_law_limit", "_law_d"]
abbrev g__law_number : Sl → Option Out := (sSeq (sIf (bOf (x2 oGe (xVar 0) (x2 oPow (xC (.int 10)) (xC (.int 18))))) (sSeq (sSet 3 (x2 oIx (xTup (lDisp (aCons (xC (.int 1)) (aCons (xC (.int 7)) (aCons (xC (.int 49)) (aCons (xC (.int 343)) (aCons (xC (.int 2401)) aNil))))))) (x2 oMod (xVar 1) (xC (.int 5)))))
  (sRet (x2 oDiv (x2 oMod (x2 oSub (xVar 0) (x2 oPow (xC (.int 10)) (xC (.int 18)))) (x2 oMul (xVar 3) (xVar 2))) (xVar 3)))) sNil)
  (sSeq (sIf (bOf (x2 oLt (xVar 0) (x1 oNeg (x2 oPow (xC (.int 10)) (xC (.int 18)))))) (sSet 0 (x2 oMod (xVar 0) (xC (.int 1000811284336359577647248616306026718125307353262274591)))) sNil)
  (sRet (x2 oMod (xCall (mD m__law_draw) (aCons (x2 oMul (x2 oAdd (xVar 0) (x2 oMul (xC (.int 977)) (xVar 1))) (x2 oAdd (x2 oAdd (xVar 0) (x2 oMul (xC (.int 31)) (xVar 1))) (xC (.int 5)))) (aCons (x2 oAdd (x2 oMod (xVar 1) (xC (.int 9))) (xC (.int 1))) (aCons (xC (.int 999983)) aNil)))) (xVar 2)))))
def m__law_number : List D → Option Ret := runF 3 1 g__law_number
abbrev d__law_web : Stmt := top 16
abbrev N__law_web : List Str := ["_law_script", "_law_size_here", "_law_by", "_law_kind", "_law_place", "_law_cells", "_law_web_here", "_law_roads", "_law_other", "_law_at", "_law_cell", "_law_drawn", "_law_good"]
abbrev b0__law_web : Sl → Option Out := (sSeq (sSet 10 (x2 oIx (xVar 5) (x2 oMod (x2 oAdd (xVar 4) (x2 oMul (xVar 8) (x2 oAdd (xC (.int 1)) (xVar 2)))) (xCall (on1 oLen) (aCons (xVar 5) aNil)))))
  (sSeq (sSet 11 (xCall (mD m__law_number) (aCons (xVar 10) (aCons (x2 oAdd (x2 oAdd (x2 oMul (xC (.int 7)) (xVar 4)) (xVar 8)) (xVar 2)) (aCons (xC (.int 60)) aNil)))))
  (sSeq (sSet 12 (x2 oEq (x2 oMod (xVar 11) (x2 oIx (xTup (lDisp (aCons (xC (.int 5)) (aCons (xC (.int 3)) (aCons (xC (.int 2)) (aCons (xC (.int 4)) (aCons (xC (.int 3)) (aCons (xC (.int 9)) aNil)))))))) (xVar 3))) (xC (.int 0))))
  (sSeq (sIf (bOr (bOf (x2 oEq (xVar 3) (xC (.int 3)))) (bAnd (bOf (x2 oEq (xVar 3) (xC (.int 4)))) (bOf (x2 oEq (x2 oMod (xVar 4) (xC (.int 2))) (xC (.int 0)))))) (sSet 12 (xAnd (x2 oEq (x2 oMod (xVar 11) (xC (.int 2))) (xC (.int 0))) (x2 oLt (xVar 8) (xVar 4)))) sNil)
  (sSeq (sIf (bOf (x2 oEq (xVar 3) (xC (.int 5)))) (sSet 12 (xOr (xVar 12) (x2 oEq (x2 oMod (x2 oAdd (xVar 4) (xC (.int 1))) (xVar 1)) (xVar 8)))) sNil)
  (sIf (bTru (xVar 12)) (sApp 7 (xVar 8)) sNil))))))
abbrev b1__law_web : Sl → Option Out := (sSeq (sSetL 7 (lDisp aNil))
  (sSeq (sFor (fromR (sRange1 (xVar 1))) (.one 8) b0__law_web)
  (sAppM 6 (xVar 7))))
abbrev g__law_web : Sl → Option Out := (sSeq (sSet 3 (xCall (mD m__law_draw) (aCons (x2 oAdd (xCall (mD m__law_cell_at) (aCons (xVar 0) (aCons (xC (.int 0)) aNil))) (xVar 2)) (aCons (xC (.int 6)) (aCons (xC (.int 6)) aNil)))))
  (sSeq (sParL 5 6 (xLst (xIf (bOf (x2 oNe (xVar 0) (xLst (lDisp aNil)))) (lSl (xVar 0) pNone (pInt (xC (.int 63)))) (lDisp (aCons (xC (.int 4)) aNil)))) (lDisp aNil))
  (sSeq (sFor (fromR (sRange1 (xVar 1))) (.one 4) b1__law_web)
  (sSeq (sIf (bAnd (bOf (x2 oEq (xVar 3) (xC (.int 4)))) (bOf (x2 oNe (xVar 0) (xLst (lDisp aNil))))) (sSeq (sSet 9 (xCall (mD m__law_draw) (aCons (xCall (mD m__law_cell_at) (aCons (xVar 0) (aCons (xC (.int 2)) aNil))) (aCons (xC (.int 5)) (aCons (xVar 1) aNil)))))
  (sItemL 6 (xVar 9) (x1L oSset (xLst (l2 oCat (x2 oIx (xVar 6) (xVar 9)) (xLst (lDisp (aCons (xCall (mD m__law_draw) (aCons (xCall (mD m__law_cell_at) (aCons (xVar 0) (aCons (xC (.int 1)) aNil))) (aCons (xC (.int 4)) (aCons (xVar 1) aNil)))) aNil)))))))) sNil)
  (sRetV 6)))))
def m__law_web : List D → Option Ret := runF 3 10 g__law_web
abbrev d__law_size : Stmt := top 17
abbrev N__law_size : List Str := ["_law_script", "_law_by", "_law_most"]
abbrev g__law_size : Sl → Option Out := (sRet (x2 oAdd (xC (.int 1)) (xCall (mD m__law_draw) (aCons (x2 oAdd (xCall (mD m__law_cell_at) (aCons (xVar 0) (aCons (xC (.int 0)) aNil))) (x2 oMul (xC (.int 7)) (xVar 1))) (aCons (x2 oAdd (xC (.int 4)) (xVar 1)) (aCons (xVar 2) aNil))))))
def m__law_size : List D → Option Ret := runF 3 0 g__law_size
abbrev d__law_pushed_on : Stmt := top 18
abbrev N__law_pushed_on : List Str := ["_law_web_here", "_law_found", "_law_place", "_law_script", "_law_kind", "_law_many", "_law_lost", "_law_other"]
abbrev b0__law_pushed_on : Sl → Option Out := (sSeq (sIf (bOf (x2 oEq (x2 oMod (xVar 5) (xC (.int 2))) (xC (.int 0)))) (sSeq (sSetL 6 (lComp (sSeqOf (x2 oIx (xVar 0) (xVar 2))) (.one 7) (bAnd (bOf (x1 (fun d => some (.bool (!isN d))) (x2 oIx (xVar 1) (xVar 7)))) (bOf (x2 oEq (x2 oMod (x2 oIx (xVar 1) (xVar 7)) (xC (.int 2))) (xC (.int 0))))) (xVar 7)))
  (sSeq (sIf (bOf (x2 oEq (xVar 6) (xLst (lDisp aNil)))) (sRet (x1 oNeg (xC (.int 1)))) sNil)
  (sSet 2 (x2 oIx (xCall (on1 oMinT) (aCons (xLst (lComp (sSeqOf (xVar 6)) (.one 7) bYes (xTup (lDisp (aCons (x2 oIx (xVar 1) (xVar 7)) (aCons (xVar 7) aNil)))))) aNil)) (xC (.int 1)))))) (sIf (bOf (x2 oEq (xVar 4) (xC (.int 0)))) (sSeq (sIf (bOf (x2 (oIn false) (xC .none) (xLst (lComp (sSeqOf (x2 oIx (xVar 0) (xVar 2))) (.one 7) bYes (x2 oIx (xVar 1) (xVar 7)))))) (sRet (x1 oNeg (xC (.int 1)))) sNil)
  (sSet 2 (x2 oIx (xCall (on1 oMaxT) (aCons (xLst (lComp (sSeqOf (x2 oIx (xVar 0) (xVar 2))) (.one 7) bYes (xTup (lDisp (aCons (x2 oIx (xVar 1) (xVar 7)) (aCons (xVar 7) aNil)))))) aNil)) (xC (.int 1))))) (sSet 2 (x2 oIx (x2 oIx (xVar 0) (xVar 2)) (xCall (mD m__law_draw) (aCons (xCall (mD m__law_cell_at) (aCons (xVar 3) (aCons (xVar 5) aNil))) (aCons (xVar 4) (aCons (xCall (on1 oLen) (aCons (x2 oIx (xVar 0) (xVar 2)) aNil)) aNil))))))))
  (sSet 5 (x2 oAdd (xVar 5) (xC (.int 1)))))
abbrev g__law_pushed_on : Sl → Option Out := (sSeq (sSet 5 (xC (.int 0)))
  (sSeq (sWhile (bAnd (bOf (x2 oNe (x2 oIx (xVar 0) (xVar 2)) (xLst (lDisp aNil)))) (bOf (x2 oLe (xVar 5) (xCall (on1 oLen) (aCons (xVar 0) aNil))))) b0__law_pushed_on 100)
  (sRet (xIf (bOf (x2 oEq (x2 oIx (xVar 0) (xVar 2)) (xLst (lDisp aNil)))) (xVar 5) (x1 oNeg (xC (.int 1)))))))
def m__law_pushed_on : List D → Option Ret := runF 5 3 g__law_pushed_on
abbrev d_law : Stmt := top 19
abbrev N_law : List Str := ["_law_script", "_law_web_here", "_law_found", "_law_place", "_law_one", "_law_kind", "_law_many"]
abbrev b0_law : Sl → Option Out := (sSeq (sSet 6 (xCall (mD m__law_pushed_on) (aCons (xVar 1) (aCons (xVar 2) (aCons (xVar 3) (aCons (xVar 0) (aCons (xVar 5) aNil)))))))
  (sIf (bOr (bOf (x2 oEq (x2 oMod (xVar 6) (xC (.int 2))) (xC (.int 0)))) (bNot (bOf (xCh oLt oLe (xC (.int 0)) (xVar 6) (xVar 4))))) (sRet (xC (.bool false))) sNil))
abbrev b1_law : Sl → Option Out := (sIf (bAnd (bOf (x1 (fun d => some (.bool (!isN d))) (xVar 4))) (bOf (x2 oEq (x2 oMod (xVar 4) (xC (.int 2))) (xC (.int 1))))) (sSeq (sIf (bOf (x2 oNe (xCall (mD m__law_pushed_on) (aCons (xVar 1) (aCons (xVar 2) (aCons (xVar 3) (aCons (xVar 0) (aCons (xC (.int 0)) aNil)))))) (xVar 4))) (sRet (xC (.bool false))) sNil)
  (sFor (fromL (lDisp (aCons (xC (.int 1)) (aCons (xC (.int 2)) aNil)))) (.one 5) b0_law)) sNil)
abbrev g_law : Sl → Option Out := (sSeq (sSetL 1 (xCall (mL m__law_web) (aCons (xVar 0) (aCons (xCall (mD m__law_size) (aCons (xVar 0) (aCons (xC (.int 0)) (aCons (xC (.int 30)) aNil)))) (aCons (xC (.int 0)) aNil)))))
  (sSeq (sSetL 2 (xCall (mL m_ends) (aCons (xVar 1) aNil)))
  (sSeq (sIf (bOr (bNot (bTru (x1 (oIsi "list") (xVar 2)))) (bOf (x2 oNe (xCall (on1 oLen) (aCons (xVar 2) aNil)) (xCall (on1 oLen) (aCons (xVar 1) aNil))))) (sRet (xC (.bool false))) sNil)
  (sSeq (sFor (fromE [2] (sEnum (xVar 2))) (.two 3 4) b1_law)
  (sRet (x2 oEq (xLst (xCall (mL m_ends) (aCons (xLst (lDisp (aCons (xLst (lDisp aNil)) (aCons (xLst (lDisp (aCons (xC (.int 0)) aNil))) (aCons (xLst (lDisp (aCons (xC (.int 1)) aNil))) (aCons (xLst (lDisp (aCons (xC (.int 2)) aNil))) (aCons (xLst (lDisp (aCons (xC (.int 1)) (aCons (xC (.int 3)) aNil)))) aNil))))))) aNil))) (xLst (lDisp (aCons (xC (.int 0)) (aCons (xC (.int 1)) (aCons (xC (.int 2)) (aCons (xC (.int 3)) (aCons (xC (.int 4)) aNil)))))))))))))
def m_law : List D → Option Ret := runF 1 6 g_law
structure Txt (mg : Str → Option Value) : Prop where
  all' : mg "all" = none
  any' : mg "any" = none
  bool' : mg "bool" = none
  enumerate' : mg "enumerate" = none
  int' : mg "int" = none
  isinstance' : mg "isinstance" = none
  len' : mg "len" = none
  list' : mg "list" = none
  max' : mg "max" = none
  min' : mg "min" = none
  range' : mg "range" = none
  set' : mg "set" = none
  sorted' : mg "sorted" = none
  MOST_PLACES' : ∃ t, mg "MOST_PLACES" = some (.int 60 t)
section
variable {P : Program} {w : World} {K : PySem.W.Frag} {mg : Str → Option Value} {base : Heap}
theorem sc_is_counted : FnScope N_is_counted ["value", "many"] (defScope d_is_counted) := ⟨rfl, rfl, rfl, by decide +kernel, rfl, by decide +kernel, by decide +kernel⟩
set_option maxHeartbeats 4000000 in
theorem ok_is_counted {f : Addr} {fd : FuncData} (Fu : Fun K "is_counted" "is_counted" d_is_counted f fd) (T : Txt mg) : FnOk P w K mg base CX0 1 f fd ["value", "many"] (spR K m_is_counted) :=
  have nd := sc_is_counted.nd
  def_ok Fu sc_is_counted rfl fun cdv A outer s H E hr =>
  (ptn_cons (pt_if' (ofW (pw_or' (pb_not (pb_tru (pd_isi (T := "int") rfl T.isinstance' rfl T.int' (by decide +kernel) (pd_var 0)))) (pw_or1' (pb_tru (pd_isi (T := "bool") rfl T.isinstance' rfl T.bool' (by decide +kernel) (pd_var 0)))))) (ptn_one (pt_ret pd_bl)) ptn_nil)
  (ptn_one (pt_ret (pd_lelt pd_int (pd_var 0) (pd_var 1)))))
theorem sc_are_roads : FnScope N_are_roads ["value", "many"] (defScope d_are_roads) := ⟨rfl, rfl, rfl, by decide +kernel, rfl, by decide +kernel, by decide +kernel⟩
set_option maxHeartbeats 4000000 in
theorem ok_are_roads {f : Addr} {fd : FuncData} (Fu : Fun K "are_roads" "are_roads" d_are_roads f fd) (T : Txt mg) (F_is_counted : Fn P w K mg base "is_counted" 1 m_is_counted) : FnOk P w K mg base CX0 2 f fd ["value", "many"] (spR K m_are_roads) :=
  have nd := sc_are_roads.nd
  def_ok Fu sc_are_roads rfl fun cdv A outer s H E hr =>
  (ptn_cons (pt_if' (pb_not (pb_tru (pd_isi (T := "list") rfl T.isinstance' rfl T.list' (by decide +kernel) (pd_var 0)))) (ptn_one (pt_ret pd_bl)) ptn_nil)
  (ptn_cons (pt_set 2 nd pd_int)
  (ptn_cons (pt_for rfl (src_e [0] (src_list (pd_var 0))) (ptg_one 3 nd)
  (ptn_cons (pt_if' (ofW (pw_or' (pb_not (pb_tru (pd_call F_is_counted (hr.mono (by decide)) rfl (pas_cons (pd_var 3) (pas_cons (pd_var 1) pas_nil))))) (pw_or1' (pb_lt (pd_var 3) (pd_var 2))))) (ptn_one (pt_ret pd_bl)) ptn_nil)
  (ptn_one (pt_set 2 nd (pd_add (pd_var 3) pd_int)))))
  (ptn_one (pt_ret pd_bl)))))
theorem sc_check_web : FnScope N_check_web ["web"] (defScope d_check_web) := ⟨rfl, rfl, rfl, by decide +kernel, rfl, by decide +kernel, by decide +kernel⟩
set_option maxHeartbeats 4000000 in
theorem ok_check_web {f : Addr} {fd : FuncData} (Fu : Fun K "check_web" "check_web" d_check_web f fd) (T : Txt mg) (F_are_roads : Fn P w K mg base "are_roads" 2 m_are_roads) : FnOk P w K mg base CX0 3 f fd ["web"] (spR K m_check_web) :=
  have nd := sc_check_web.nd
  def_ok Fu sc_check_web rfl fun cdv A outer s H E hr =>
  (ptn_cons (pt_if' (pb_not (pb_tru (pd_isi (T := "list") rfl T.isinstance' rfl T.list' (by decide +kernel) (pd_var 0)))) (ptn_one pt_never) ptn_nil)
  (ptn_cons (pt_if' (pb_not (pb_lele pd_int (pd_len rfl T.len' (pd_var 0)) (pd_gint T.MOST_PLACES' rfl))) (ptn_one pt_never) ptn_nil)
  (ptn_one (pt_for rfl (src_e [0] (src_list (pd_var 0))) (ptg_one 1 nd)
  (ptn_one (pt_if' (pb_not (pb_tru (pd_call F_are_roads (hr.mono (by decide)) rfl (pas_cons (pd_var 1) (pas_cons (pd_len rfl T.len' (pd_var 0)) pas_nil))))) (ptn_one pt_never) ptn_nil))))))
theorem sc_is_won : FnScope N_is_won ["told"] (defScope d_is_won) := ⟨rfl, rfl, rfl, by decide +kernel, rfl, by decide +kernel, by decide +kernel⟩
set_option maxHeartbeats 4000000 in
theorem ok_is_won {f : Addr} {fd : FuncData} (Fu : Fun K "is_won" "is_won" d_is_won f fd) (T : Txt mg) : FnOk P w K mg base CX0 1 f fd ["told"] (spR K m_is_won) :=
  have nd := sc_is_won.nd
  def_ok Fu sc_is_won rfl fun cdv A outer s H E hr =>
  (ptn_one (pt_ret (pd_and (pd_notN (pd_var 0)) (pd_one (pd_eq hr (pd_mod (pd_var 0) pd_int) pd_int)))))
theorem sc_ends_in : FnScope N_ends_in ["roads", "known", "count"] (defScope d_ends_in) := ⟨rfl, rfl, rfl, by decide +kernel, rfl, by decide +kernel, by decide +kernel⟩
set_option maxHeartbeats 4000000 in
theorem ok_ends_in {f : Addr} {fd : FuncData} (Fu : Fun K "ends_in" "ends_in" d_ends_in f fd) (T : Txt mg) (F_is_won : Fn P w K mg base "is_won" 1 m_is_won) : FnOk P w K mg base CX0 2 f fd ["roads", "known", "count"] (spR K m_ends_in) :=
  have nd := sc_ends_in.nd
  def_ok Fu sc_ends_in rfl fun cdv A outer s H E hr =>
  (ptn_cons (pt_if' (pb_eq hr (pd_mod (pd_var 2) pd_int) pd_int) (ptn_one (pt_ret (pd_any rfl rfl T.any' (pd_ofL (pl_lc [("place", 3)] rfl rfl nd (src_list (pd_var 0)) (blkOk_by (own := [("place", 3)]) (N := N_ends_in) (sc := defScope d_ends_in) (by decide +kernel)) (fun _ _ _ _ _ => ptg_one 3 nd) (fun _ _ _ _ _ => pte_nil) (fun _ _ _ _ _ => (pd_eq hr (pd_ix (pd_var 1) (pd_var 3)) (pd_sub (pd_var 2) pd_int)))))))) ptn_nil)
  (ptn_one (pt_ret (pd_all rfl rfl T.all' (pd_ofL (pl_lc [("place", 3)] rfl rfl nd (src_list (pd_var 0)) (blkOk_by (own := [("place", 3)]) (N := N_ends_in) (sc := defScope d_ends_in) (by decide +kernel)) (fun _ _ _ _ _ => ptg_one 3 nd) (fun _ _ _ _ _ => pte_nil) (fun _ _ _ _ _ => (pd_call F_is_won (hr.mono (by decide)) rfl (pas_cons (pd_ix (pd_var 1) (pd_var 3)) pas_nil)))))))))
theorem sc_ends : FnScope N_ends ["web"] (defScope d_ends) := ⟨rfl, rfl, rfl, by decide +kernel, rfl, by decide +kernel, by decide +kernel⟩
set_option maxHeartbeats 4000000 in
theorem ok_ends {f : Addr} {fd : FuncData} (Fu : Fun K "ends" "ends" d_ends f fd) (T : Txt mg) (F_ends_in : Fn P w K mg base "ends_in" 2 m_ends_in) (F_check_web : Fn P w K mg base "check_web" 3 m_check_web) : FnOk P w K mg base CX0 4 f fd ["web"] (spR K m_ends) :=
  have nd := sc_ends.nd
  def_ok Fu sc_ends rfl fun cdv A outer s H E hr =>
  (ptn_cons (pt_expr (pd_call F_check_web (hr.mono (by decide)) rfl (pas_cons (pd_var 0) pas_nil)))
  (ptn_cons (pt_setL 1 nd (pl_rep (pl_disp (pas_cons pd_non pas_nil)) (pd_len rfl T.len' (pd_var 0))))
  (ptn_cons (pt_for rfl (srcs_range1 rfl T.range' (pd_len rfl T.len' (pd_var 0))) (ptg_one 2 nd)
  (ptn_cons (pt_setC 3 [("place", 4), ("roads", 5)] rfl rfl nd (src_enum rfl T.enumerate' (pd_var 0)) (blkOk_by (own := [("place", 4), ("roads", 5)]) (N := N_ends) (sc := defScope d_ends) (by decide +kernel)) (fun _ _ _ _ _ => ptg_two 4 5 rfl nd) (fun _ _ _ _ _ => (pte_one (ofW (pw_and' (pb_isN (pd_ix (pd_var 1) (pd_var 4))) (pw_and1' (pb_tru (pd_call F_ends_in (hr.mono (by decide)) rfl (pas_cons (pd_var 5) (pas_cons (pd_var 1) (pas_cons (pd_var 2) pas_nil)))))))))) (fun _ _ _ _ _ => (pd_var 4)) (sw_true rfl rfl rfl (by decide +kernel)))
  (ptn_cons (pt_for rfl (src_e [3] (src_list (pd_var 3))) (ptg_one 4 nd)
  (ptn_one (pt_item 1 (pd_var 2) (pd_var 4))))
  (ptn_one (pt_if' (pb_not (pb_tru (pd_var 3))) (ptn_one pt_break) ptn_nil)))))
  (ptn_one (pt_retV 1)))))
theorem sc__law_cell_at : FnScope N__law_cell_at ["_law_script", "_law_k"] (defScope d__law_cell_at) := ⟨rfl, rfl, rfl, by decide +kernel, rfl, by decide +kernel, by decide +kernel⟩
set_option maxHeartbeats 4000000 in
theorem ok__law_cell_at {f : Addr} {fd : FuncData} (Fu : Fun K "_law_cell_at" "_law_cell_at" d__law_cell_at f fd) (T : Txt mg) : FnOk P w K mg base CX0 1 f fd ["_law_script", "_law_k"] (spR K m__law_cell_at) :=
  have nd := sc__law_cell_at.nd
  def_ok Fu sc__law_cell_at rfl fun cdv A outer s H E hr =>
  (ptn_cons (pt_if' (pb_lt (pd_var 1) (pd_len rfl T.len' (pd_var 0))) (ptn_one (pt_ret (pd_ix (pd_var 0) (pd_var 1)))) ptn_nil)
  (ptn_one (pt_ret pd_int)))
theorem sc__law_draw : FnScope N__law_draw ["_law_cell", "_law_k", "_law_most"] (defScope d__law_draw) := ⟨rfl, rfl, rfl, by decide +kernel, rfl, by decide +kernel, by decide +kernel⟩
set_option maxHeartbeats 4000000 in
theorem ok__law_draw {f : Addr} {fd : FuncData} (Fu : Fun K "_law_draw" "_law_draw" d__law_draw f fd) (T : Txt mg) : FnOk P w K mg base CX0 1 f fd ["_law_cell", "_law_k", "_law_most"] (spR K m__law_draw) :=
  have nd := sc__law_draw.nd
  def_ok Fu sc__law_draw rfl fun cdv A outer s H E hr =>
  (ptn_cons (pt_set 3 nd (pd_ofU (pu_disp (pas_cons pd_int (pas_cons pd_int (pas_cons pd_int (pas_cons pd_int (pas_cons pd_int (pas_cons pd_int (pas_cons pd_int (pas_cons pd_int (pas_cons pd_int (pas_cons pd_int (pas_cons pd_int (pas_cons pd_int (pas_cons pd_int (pas_cons pd_int (pas_cons pd_int (pas_cons pd_int pas_nil)))))))))))))))))))
  (ptn_one (pt_ret (pd_mod (pd_mod (pd_add (pd_mul (pd_var 0) pd_int) (pd_mul (pd_var 1) pd_int)) (pd_ix (pd_var 3) (pd_mod (pd_var 1) pd_int))) (pd_var 2)))))
theorem sc__law_number : FnScope N__law_number ["_law_cell", "_law_k", "_law_limit"] (defScope d__law_number) := ⟨rfl, rfl, rfl, by decide +kernel, rfl, by decide +kernel, by decide +kernel⟩
set_option maxHeartbeats 4000000 in
theorem ok__law_number {f : Addr} {fd : FuncData} (Fu : Fun K "_law_number" "_law_number" d__law_number f fd) (T : Txt mg) (F__law_draw : Fn P w K mg base "_law_draw" 1 m__law_draw) : FnOk P w K mg base CX0 2 f fd ["_law_cell", "_law_k", "_law_limit"] (spR K m__law_number) :=
  have nd := sc__law_number.nd
  def_ok Fu sc__law_number rfl fun cdv A outer s H E hr =>
  (ptn_cons (pt_if' (pb_ge (pd_var 0) (pd_pow pd_int pd_int)) (ptn_cons (pt_set 3 nd (pd_ix (pd_ofU (pu_disp (pas_cons pd_int (pas_cons pd_int (pas_cons pd_int (pas_cons pd_int (pas_cons pd_int pas_nil))))))) (pd_mod (pd_var 1) pd_int)))
  (ptn_one (pt_ret (pd_div (pd_mod (pd_sub (pd_var 0) (pd_pow pd_int pd_int)) (pd_mul (pd_var 3) (pd_var 2))) (pd_var 3))))) ptn_nil)
  (ptn_cons (pt_if' (pb_lt (pd_var 0) (pd_neg (pd_pow pd_int pd_int))) (ptn_one (pt_set 0 nd (pd_mod (pd_var 0) pd_int))) ptn_nil)
  (ptn_one (pt_ret (pd_mod (pd_call F__law_draw (hr.mono (by decide)) rfl (pas_cons (pd_mul (pd_add (pd_var 0) (pd_mul pd_int (pd_var 1))) (pd_add (pd_add (pd_var 0) (pd_mul pd_int (pd_var 1))) pd_int)) (pas_cons (pd_add (pd_mod (pd_var 1) pd_int) pd_int) (pas_cons pd_int pas_nil)))) (pd_var 2))))))
theorem sc__law_web : FnScope N__law_web ["_law_script", "_law_size_here", "_law_by"] (defScope d__law_web) := ⟨rfl, rfl, rfl, by decide +kernel, rfl, by decide +kernel, by decide +kernel⟩
set_option maxHeartbeats 4000000 in
theorem ok__law_web {f : Addr} {fd : FuncData} (Fu : Fun K "_law_web" "_law_web" d__law_web f fd) (T : Txt mg) (F__law_cell_at : Fn P w K mg base "_law_cell_at" 1 m__law_cell_at) (F__law_draw : Fn P w K mg base "_law_draw" 1 m__law_draw) (F__law_number : Fn P w K mg base "_law_number" 2 m__law_number) : FnOk P w K mg base CX0 3 f fd ["_law_script", "_law_size_here", "_law_by"] (spR K m__law_web) :=
  have nd := sc__law_web.nd
  def_ok Fu sc__law_web rfl fun cdv A outer s H E hr =>
  (ptn_cons (pt_set 3 nd (pd_call F__law_draw (hr.mono (by decide)) rfl (pas_cons (pd_add (pd_call F__law_cell_at (hr.mono (by decide)) rfl (pas_cons (pd_var 0) (pas_cons pd_int pas_nil))) (pd_var 2)) (pas_cons pd_int (pas_cons pd_int pas_nil)))))
  (ptn_cons (pt_parL 5 6 rfl nd (pd_ofL (pl_if (pb_ne hr (pd_var 0) (pd_ofL (pl_disp pas_nil))) (pl_slice (pd_var 0) pp_none (pp_some pd_int)) (pl_disp (pas_cons pd_int pas_nil)))) (pl_disp pas_nil))
  (ptn_cons (pt_for rfl (srcs_range1 rfl T.range' (pd_var 1)) (ptg_one 4 nd)
  (ptn_cons (pt_setL 7 nd (pl_disp pas_nil))
  (ptn_cons (pt_for rfl (srcs_range1 rfl T.range' (pd_var 1)) (ptg_one 8 nd)
  (ptn_cons (pt_set 10 nd (pd_ix (pd_var 5) (pd_mod (pd_add (pd_var 4) (pd_mul (pd_var 8) (pd_add pd_int (pd_var 2)))) (pd_len rfl T.len' (pd_var 5)))))
  (ptn_cons (pt_set 11 nd (pd_call F__law_number (hr.mono (by decide)) rfl (pas_cons (pd_var 10) (pas_cons (pd_add (pd_add (pd_mul pd_int (pd_var 4)) (pd_var 8)) (pd_var 2)) (pas_cons pd_int pas_nil)))))
  (ptn_cons (pt_set 12 nd (pd_eq hr (pd_mod (pd_var 11) (pd_ix (pd_ofU (pu_disp (pas_cons pd_int (pas_cons pd_int (pas_cons pd_int (pas_cons pd_int (pas_cons pd_int (pas_cons pd_int pas_nil)))))))) (pd_var 3))) pd_int))
  (ptn_cons (pt_if' (ofW (pw_or' (pb_eq hr (pd_var 3) pd_int) (pw_or1' (ofW (pw_and' (pb_eq hr (pd_var 3) pd_int) (pw_and1' (pb_eq hr (pd_mod (pd_var 4) pd_int) pd_int))))))) (ptn_one (pt_set 12 nd (pd_and (pd_eq hr (pd_mod (pd_var 11) pd_int) pd_int) (pd_one (pd_lt (pd_var 8) (pd_var 4)))))) ptn_nil)
  (ptn_cons (pt_if' (pb_eq hr (pd_var 3) pd_int) (ptn_one (pt_set 12 nd (pd_or (pd_var 12) (pd_one (pd_eq hr (pd_mod (pd_add (pd_var 4) pd_int) (pd_var 1)) (pd_var 8)))))) ptn_nil)
  (ptn_one (pt_if' (pb_tru (pd_var 12)) (ptn_one (pt_app 7 (pd_var 8))) ptn_nil))))))))
  (ptn_one (pt_appM 6 (pd_var 7))))))
  (ptn_cons (pt_if' (ofW (pw_and' (pb_eq hr (pd_var 3) pd_int) (pw_and1' (pb_ne hr (pd_var 0) (pd_ofL (pl_disp pas_nil)))))) (ptn_cons (pt_set 9 nd (pd_call F__law_draw (hr.mono (by decide)) rfl (pas_cons (pd_call F__law_cell_at (hr.mono (by decide)) rfl (pas_cons (pd_var 0) (pas_cons pd_int pas_nil))) (pas_cons pd_int (pas_cons (pd_var 1) pas_nil)))))
  (ptn_one (pt_itemL 6 (pl_sset rfl rfl T.sorted' rfl T.set' (pd_ofL (pl_cat (pd_ix (pd_var 6) (pd_var 9)) (pd_ofL (pl_disp (pas_cons (pd_call F__law_draw (hr.mono (by decide)) rfl (pas_cons (pd_call F__law_cell_at (hr.mono (by decide)) rfl (pas_cons (pd_var 0) (pas_cons pd_int pas_nil))) (pas_cons pd_int (pas_cons (pd_var 1) pas_nil)))) pas_nil)))))) (pd_var 9)))) ptn_nil)
  (ptn_one (pt_retV 6))))))
theorem sc__law_size : FnScope N__law_size ["_law_script", "_law_by", "_law_most"] (defScope d__law_size) := ⟨rfl, rfl, rfl, by decide +kernel, rfl, by decide +kernel, by decide +kernel⟩
set_option maxHeartbeats 4000000 in
theorem ok__law_size {f : Addr} {fd : FuncData} (Fu : Fun K "_law_size" "_law_size" d__law_size f fd) (T : Txt mg) (F__law_cell_at : Fn P w K mg base "_law_cell_at" 1 m__law_cell_at) (F__law_draw : Fn P w K mg base "_law_draw" 1 m__law_draw) : FnOk P w K mg base CX0 2 f fd ["_law_script", "_law_by", "_law_most"] (spR K m__law_size) :=
  have nd := sc__law_size.nd
  def_ok Fu sc__law_size rfl fun cdv A outer s H E hr =>
  (ptn_one (pt_ret (pd_add pd_int (pd_call F__law_draw (hr.mono (by decide)) rfl (pas_cons (pd_add (pd_call F__law_cell_at (hr.mono (by decide)) rfl (pas_cons (pd_var 0) (pas_cons pd_int pas_nil))) (pd_mul pd_int (pd_var 1))) (pas_cons (pd_add pd_int (pd_var 1)) (pas_cons (pd_var 2) pas_nil)))))))
theorem sc__law_pushed_on : FnScope N__law_pushed_on ["_law_web_here", "_law_found", "_law_place", "_law_script", "_law_kind"] (defScope d__law_pushed_on) := ⟨rfl, rfl, rfl, by decide +kernel, rfl, by decide +kernel, by decide +kernel⟩
set_option maxHeartbeats 4000000 in
theorem ok__law_pushed_on {f : Addr} {fd : FuncData} (Fu : Fun K "_law_pushed_on" "_law_pushed_on" d__law_pushed_on f fd) (T : Txt mg) (F__law_cell_at : Fn P w K mg base "_law_cell_at" 1 m__law_cell_at) (F__law_draw : Fn P w K mg base "_law_draw" 1 m__law_draw) : FnOk P w K mg base CX0 2 f fd ["_law_web_here", "_law_found", "_law_place", "_law_script", "_law_kind"] (spR K m__law_pushed_on) :=
  have nd := sc__law_pushed_on.nd
  def_ok Fu sc__law_pushed_on rfl fun cdv A outer s H E hr =>
  (ptn_cons (pt_set 5 nd pd_int)
  (ptn_cons (pt_while 100 (ofW (pw_and' (pb_ne hr (pd_ix (pd_var 0) (pd_var 2)) (pd_ofL (pl_disp pas_nil))) (pw_and1' (pb_le (pd_var 5) (pd_len rfl T.len' (pd_var 0)))))) (ptn_cons (pt_if' (pb_eq hr (pd_mod (pd_var 5) pd_int) pd_int) (ptn_cons (pt_setC 6 [("_law_other", 7)] rfl rfl nd (src_list (pd_ix (pd_var 0) (pd_var 2))) (blkOk_by (own := [("_law_other", 7)]) (N := N__law_pushed_on) (sc := defScope d__law_pushed_on) (by decide +kernel)) (fun _ _ _ _ _ => ptg_one 7 nd) (fun _ _ _ _ _ => (pte_one (ofW (pw_and' (pb_notN (pd_ix (pd_var 1) (pd_var 7))) (pw_and1' (pb_eq hr (pd_mod (pd_ix (pd_var 1) (pd_var 7)) pd_int) pd_int)))))) (fun _ _ _ _ _ => (pd_var 7)) (sw_true rfl rfl rfl (by decide +kernel)))
  (ptn_cons (pt_if' (pb_eq hr (pd_var 6) (pd_ofL (pl_disp pas_nil))) (ptn_one (pt_ret (pd_neg pd_int))) ptn_nil)
  (ptn_one (pt_set 2 nd (pd_ix (pd_minT hr rfl rfl T.min' (pd_ofL (pl_lc [("_law_other", 7)] rfl rfl nd (src_list (pd_var 6)) (blkOk_by (own := [("_law_other", 7)]) (N := N__law_pushed_on) (sc := defScope d__law_pushed_on) (by decide +kernel)) (fun _ _ _ _ _ => ptg_one 7 nd) (fun _ _ _ _ _ => pte_nil) (fun _ _ _ _ _ => (pd_ofU (pu_disp (pas_cons (pd_ix (pd_var 1) (pd_var 7)) (pas_cons (pd_var 7) pas_nil)))))))) pd_int))))) (ptn_one (pt_if' (pb_eq hr (pd_var 4) pd_int) (ptn_cons (pt_if' (pb_in pd_non (pd_ofL (pl_lc [("_law_other", 7)] rfl rfl nd (src_list (pd_ix (pd_var 0) (pd_var 2))) (blkOk_by (own := [("_law_other", 7)]) (N := N__law_pushed_on) (sc := defScope d__law_pushed_on) (by decide +kernel)) (fun _ _ _ _ _ => ptg_one 7 nd) (fun _ _ _ _ _ => pte_nil) (fun _ _ _ _ _ => (pd_ix (pd_var 1) (pd_var 7)))))) (ptn_one (pt_ret (pd_neg pd_int))) ptn_nil)
  (ptn_one (pt_set 2 nd (pd_ix (pd_maxT hr rfl rfl T.max' (pd_ofL (pl_lc [("_law_other", 7)] rfl rfl nd (src_list (pd_ix (pd_var 0) (pd_var 2))) (blkOk_by (own := [("_law_other", 7)]) (N := N__law_pushed_on) (sc := defScope d__law_pushed_on) (by decide +kernel)) (fun _ _ _ _ _ => ptg_one 7 nd) (fun _ _ _ _ _ => pte_nil) (fun _ _ _ _ _ => (pd_ofU (pu_disp (pas_cons (pd_ix (pd_var 1) (pd_var 7)) (pas_cons (pd_var 7) pas_nil)))))))) pd_int)))) (ptn_one (pt_set 2 nd (pd_ix (pd_ix (pd_var 0) (pd_var 2)) (pd_call F__law_draw (hr.mono (by decide)) rfl (pas_cons (pd_call F__law_cell_at (hr.mono (by decide)) rfl (pas_cons (pd_var 3) (pas_cons (pd_var 5) pas_nil))) (pas_cons (pd_var 4) (pas_cons (pd_len rfl T.len' (pd_ix (pd_var 0) (pd_var 2))) pas_nil))))))))))
  (ptn_one (pt_set 5 nd (pd_add (pd_var 5) pd_int)))))
  (ptn_one (pt_ret (pd_if (pb_eq hr (pd_ix (pd_var 0) (pd_var 2)) (pd_ofL (pl_disp pas_nil))) (pd_var 5) (pd_neg pd_int))))))
theorem sc_law : FnScope N_law ["_law_script"] (defScope d_law) := ⟨rfl, rfl, rfl, by decide +kernel, rfl, by decide +kernel, by decide +kernel⟩
set_option maxHeartbeats 4000000 in
theorem ok_law {f : Addr} {fd : FuncData} (Fu : Fun K "law" "law" d_law f fd) (T : Txt mg) (F_ends : Fn P w K mg base "ends" 4 m_ends) (F__law_pushed_on : Fn P w K mg base "_law_pushed_on" 2 m__law_pushed_on) (F__law_size : Fn P w K mg base "_law_size" 2 m__law_size) (F__law_web : Fn P w K mg base "_law_web" 3 m__law_web) : FnOk P w K mg base CX0 5 f fd ["_law_script"] (spR K m_law) :=
  have nd := sc_law.nd
  def_ok Fu sc_law rfl fun cdv A outer s H E hr =>
  (ptn_cons (pt_setL 1 nd (pl_call F__law_web (hr.mono (by decide)) rfl (pas_cons (pd_var 0) (pas_cons (pd_call F__law_size (hr.mono (by decide)) rfl (pas_cons (pd_var 0) (pas_cons pd_int (pas_cons pd_int pas_nil)))) (pas_cons pd_int pas_nil)))))
  (ptn_cons (pt_setL 2 nd (pl_call F_ends (hr.mono (by decide)) rfl (pas_cons (pd_var 1) pas_nil)))
  (ptn_cons (pt_if' (ofW (pw_or' (pb_not (pb_tru (pd_isi (T := "list") rfl T.isinstance' rfl T.list' (by decide +kernel) (pd_var 2)))) (pw_or1' (pb_ne hr (pd_len rfl T.len' (pd_var 2)) (pd_len rfl T.len' (pd_var 1)))))) (ptn_one (pt_ret pd_bl)) ptn_nil)
  (ptn_cons (pt_for rfl (src_e [2] (src_enum rfl T.enumerate' (pd_var 2))) (ptg_two 3 4 rfl nd)
  (ptn_one (pt_if' (ofW (pw_and' (pb_notN (pd_var 4)) (pw_and1' (pb_eq hr (pd_mod (pd_var 4) pd_int) pd_int)))) (ptn_cons (pt_if' (pb_ne hr (pd_call F__law_pushed_on (hr.mono (by decide)) rfl (pas_cons (pd_var 1) (pas_cons (pd_var 2) (pas_cons (pd_var 3) (pas_cons (pd_var 0) (pas_cons pd_int pas_nil)))))) (pd_var 4)) (ptn_one (pt_ret pd_bl)) ptn_nil)
  (ptn_one (pt_for rfl (srcs_u (pu_disp (pas_cons pd_int (pas_cons pd_int pas_nil)))) (ptg_one 5 nd)
  (ptn_cons (pt_set 6 nd (pd_call F__law_pushed_on (hr.mono (by decide)) rfl (pas_cons (pd_var 1) (pas_cons (pd_var 2) (pas_cons (pd_var 3) (pas_cons (pd_var 0) (pas_cons (pd_var 5) pas_nil)))))))
  (ptn_one (pt_if' (ofW (pw_or' (pb_eq hr (pd_mod (pd_var 6) pd_int) pd_int) (pw_or1' (pb_not (pb_ltle pd_int (pd_var 6) (pd_var 4)))))) (ptn_one (pt_ret pd_bl)) ptn_nil)))))) ptn_nil)))
  (ptn_one (pt_ret (pd_eq hr (pd_ofL (pl_call F_ends (hr.mono (by decide)) rfl (pas_cons (pd_ofL (pl_disp (pas_cons (pd_ofL (pl_disp pas_nil)) (pas_cons (pd_ofL (pl_disp (pas_cons pd_int pas_nil))) (pas_cons (pd_ofL (pl_disp (pas_cons pd_int pas_nil))) (pas_cons (pd_ofL (pl_disp (pas_cons pd_int pas_nil))) (pas_cons (pd_ofL (pl_disp (pas_cons pd_int (pas_cons pd_int pas_nil)))) pas_nil))))))) pas_nil))) (pd_ofL (pl_disp (pas_cons pd_int (pas_cons pd_int (pas_cons pd_int (pas_cons pd_int (pas_cons pd_int pas_nil))))))))))))))
end
theorem all_mk {l : PySem.W.OpenLaw} {w : World} {K : PySem.W.Frag} {h : Heap} {mg : Str → Option Value} {fa f0 f1 f2 f3 f4 f5 f6 f7 f8 f9 f10 f11 f12 : Addr} (X : K.In h) (G : h.Ns mainGlobals mg) (hfa : mg "law" = some (.ref fa))
    {oc0 kV0 dc0 pm0 cd0 ct0 : Value} {od0 an0 : Option Addr} {sl0 : Array (Option Value)}
    {oc1 kV1 dc1 pm1 cd1 ct1 : Value} {od1 an1 : Option Addr} {sl1 : Array (Option Value)}
    {oc2 kV2 dc2 pm2 cd2 ct2 : Value} {od2 an2 : Option Addr} {sl2 : Array (Option Value)}
    {oc3 kV3 dc3 pm3 cd3 ct3 : Value} {od3 an3 : Option Addr} {sl3 : Array (Option Value)}
    {oc4 kV4 dc4 pm4 cd4 ct4 : Value} {od4 an4 : Option Addr} {sl4 : Array (Option Value)}
    {oc5 kV5 dc5 pm5 cd5 ct5 : Value} {od5 an5 : Option Addr} {sl5 : Array (Option Value)}
    {oc6 kV6 dc6 pm6 cd6 ct6 : Value} {od6 an6 : Option Addr} {sl6 : Array (Option Value)}
    {oc7 kV7 dc7 pm7 cd7 ct7 : Value} {od7 an7 : Option Addr} {sl7 : Array (Option Value)}
    {oc8 kV8 dc8 pm8 cd8 ct8 : Value} {od8 an8 : Option Addr} {sl8 : Array (Option Value)}
    {oc9 kV9 dc9 pm9 cd9 ct9 : Value} {od9 an9 : Option Addr} {sl9 : Array (Option Value)}
    {oc10 kV10 dc10 pm10 cd10 ct10 : Value} {od10 an10 : Option Addr} {sl10 : Array (Option Value)}
    {oc11 kV11 dc11 pm11 cd11 ct11 : Value} {od11 an11 : Option Addr} {sl11 : Array (Option Value)}
    {oc12 kV12 dc12 pm12 cd12 ct12 : Value} {od12 an12 : Option Addr} {sl12 : Array (Option Value)}
    {tk0 : Tok} (c_MOST_PLACES : PySem.W.nsIn K mainGlobals "MOST_PLACES" = some (some (.int 60 tk0)))
    (z_all : PySem.W.nsIn K mainGlobals "all" = some none)
    (z_any : PySem.W.nsIn K mainGlobals "any" = some none)
    (z_bool : PySem.W.nsIn K mainGlobals "bool" = some none)
    (z_enumerate : PySem.W.nsIn K mainGlobals "enumerate" = some none)
    (z_int : PySem.W.nsIn K mainGlobals "int" = some none)
    (z_isinstance : PySem.W.nsIn K mainGlobals "isinstance" = some none)
    (z_len : PySem.W.nsIn K mainGlobals "len" = some none)
    (z_list : PySem.W.nsIn K mainGlobals "list" = some none)
    (z_max : PySem.W.nsIn K mainGlobals "max" = some none)
    (z_min : PySem.W.nsIn K mainGlobals "min" = some none)
    (z_range : PySem.W.nsIn K mainGlobals "range" = some none)
    (z_set : PySem.W.nsIn K mainGlobals "set" = some none)
    (z_sorted : PySem.W.nsIn K mainGlobals "sorted" = some none)
    (a0 : PySem.W.nsIn K mainGlobals "is_counted" = some (some (.ref f0))) (l0 : K.lookup f0 = some ⟨oc0, od0, .func (PySem.W.fnOf "is_counted" "is_counted" (defArgs d_is_counted) (defBody d_is_counted) (defScope d_is_counted) .none kV0 dc0 pm0 an0 cd0 ct0), sl0⟩) (c0 : PySem.W.codeIn K cd0 "is_counted" = true) (k0 : PySem.W.keepIn K (.ref f0) = true)
    (a1 : PySem.W.nsIn K mainGlobals "are_roads" = some (some (.ref f1))) (l1 : K.lookup f1 = some ⟨oc1, od1, .func (PySem.W.fnOf "are_roads" "are_roads" (defArgs d_are_roads) (defBody d_are_roads) (defScope d_are_roads) .none kV1 dc1 pm1 an1 cd1 ct1), sl1⟩) (c1 : PySem.W.codeIn K cd1 "are_roads" = true) (k1 : PySem.W.keepIn K (.ref f1) = true)
    (a2 : PySem.W.nsIn K mainGlobals "check_web" = some (some (.ref f2))) (l2 : K.lookup f2 = some ⟨oc2, od2, .func (PySem.W.fnOf "check_web" "check_web" (defArgs d_check_web) (defBody d_check_web) (defScope d_check_web) .none kV2 dc2 pm2 an2 cd2 ct2), sl2⟩) (c2 : PySem.W.codeIn K cd2 "check_web" = true) (k2 : PySem.W.keepIn K (.ref f2) = true)
    (a3 : PySem.W.nsIn K mainGlobals "is_won" = some (some (.ref f3))) (l3 : K.lookup f3 = some ⟨oc3, od3, .func (PySem.W.fnOf "is_won" "is_won" (defArgs d_is_won) (defBody d_is_won) (defScope d_is_won) .none kV3 dc3 pm3 an3 cd3 ct3), sl3⟩) (c3 : PySem.W.codeIn K cd3 "is_won" = true) (k3 : PySem.W.keepIn K (.ref f3) = true)
    (a4 : PySem.W.nsIn K mainGlobals "ends_in" = some (some (.ref f4))) (l4 : K.lookup f4 = some ⟨oc4, od4, .func (PySem.W.fnOf "ends_in" "ends_in" (defArgs d_ends_in) (defBody d_ends_in) (defScope d_ends_in) .none kV4 dc4 pm4 an4 cd4 ct4), sl4⟩) (c4 : PySem.W.codeIn K cd4 "ends_in" = true) (k4 : PySem.W.keepIn K (.ref f4) = true)
    (a5 : PySem.W.nsIn K mainGlobals "ends" = some (some (.ref f5))) (l5 : K.lookup f5 = some ⟨oc5, od5, .func (PySem.W.fnOf "ends" "ends" (defArgs d_ends) (defBody d_ends) (defScope d_ends) .none kV5 dc5 pm5 an5 cd5 ct5), sl5⟩) (c5 : PySem.W.codeIn K cd5 "ends" = true) (k5 : PySem.W.keepIn K (.ref f5) = true)
    (a6 : PySem.W.nsIn K mainGlobals "_law_cell_at" = some (some (.ref f6))) (l6 : K.lookup f6 = some ⟨oc6, od6, .func (PySem.W.fnOf "_law_cell_at" "_law_cell_at" (defArgs d__law_cell_at) (defBody d__law_cell_at) (defScope d__law_cell_at) .none kV6 dc6 pm6 an6 cd6 ct6), sl6⟩) (c6 : PySem.W.codeIn K cd6 "_law_cell_at" = true) (k6 : PySem.W.keepIn K (.ref f6) = true)
    (a7 : PySem.W.nsIn K mainGlobals "_law_draw" = some (some (.ref f7))) (l7 : K.lookup f7 = some ⟨oc7, od7, .func (PySem.W.fnOf "_law_draw" "_law_draw" (defArgs d__law_draw) (defBody d__law_draw) (defScope d__law_draw) .none kV7 dc7 pm7 an7 cd7 ct7), sl7⟩) (c7 : PySem.W.codeIn K cd7 "_law_draw" = true) (k7 : PySem.W.keepIn K (.ref f7) = true)
    (a8 : PySem.W.nsIn K mainGlobals "_law_number" = some (some (.ref f8))) (l8 : K.lookup f8 = some ⟨oc8, od8, .func (PySem.W.fnOf "_law_number" "_law_number" (defArgs d__law_number) (defBody d__law_number) (defScope d__law_number) .none kV8 dc8 pm8 an8 cd8 ct8), sl8⟩) (c8 : PySem.W.codeIn K cd8 "_law_number" = true) (k8 : PySem.W.keepIn K (.ref f8) = true)
    (a9 : PySem.W.nsIn K mainGlobals "_law_web" = some (some (.ref f9))) (l9 : K.lookup f9 = some ⟨oc9, od9, .func (PySem.W.fnOf "_law_web" "_law_web" (defArgs d__law_web) (defBody d__law_web) (defScope d__law_web) .none kV9 dc9 pm9 an9 cd9 ct9), sl9⟩) (c9 : PySem.W.codeIn K cd9 "_law_web" = true) (k9 : PySem.W.keepIn K (.ref f9) = true)
    (a10 : PySem.W.nsIn K mainGlobals "_law_size" = some (some (.ref f10))) (l10 : K.lookup f10 = some ⟨oc10, od10, .func (PySem.W.fnOf "_law_size" "_law_size" (defArgs d__law_size) (defBody d__law_size) (defScope d__law_size) .none kV10 dc10 pm10 an10 cd10 ct10), sl10⟩) (c10 : PySem.W.codeIn K cd10 "_law_size" = true) (k10 : PySem.W.keepIn K (.ref f10) = true)
    (a11 : PySem.W.nsIn K mainGlobals "_law_pushed_on" = some (some (.ref f11))) (l11 : K.lookup f11 = some ⟨oc11, od11, .func (PySem.W.fnOf "_law_pushed_on" "_law_pushed_on" (defArgs d__law_pushed_on) (defBody d__law_pushed_on) (defScope d__law_pushed_on) .none kV11 dc11 pm11 an11 cd11 ct11), sl11⟩) (c11 : PySem.W.codeIn K cd11 "_law_pushed_on" = true) (k11 : PySem.W.keepIn K (.ref f11) = true)
    (a12 : PySem.W.nsIn K mainGlobals "law" = some (some (.ref f12))) (l12 : K.lookup f12 = some ⟨oc12, od12, .func (PySem.W.fnOf "law" "law" (defArgs d_law) (defBody d_law) (defScope d_law) .none kV12 dc12 pm12 an12 cd12 ct12), sl12⟩) (c12 : PySem.W.codeIn K cd12 "law" = true) (k12 : PySem.W.keepIn K (.ref f12) = true)
    : ∃ fd : FuncData, (∀ (s : Shared) (v : Value), BindsTo s fd ⟨[v], []⟩ [("_law_script", v)]) ∧ ∀ base : Heap, K.In base → base.Ns mainGlobals mg → FnOk l.prog w K mg base CX0 5 fa fd ["_law_script"] (spR K m_law) := by
  have e := hfa.symm.trans (PySem.W.mg_of X G a12)
  cases e
  have T : Txt mg := ⟨PySem.W.mg_none_of X G z_all, PySem.W.mg_none_of X G z_any, PySem.W.mg_none_of X G z_bool, PySem.W.mg_none_of X G z_enumerate, PySem.W.mg_none_of X G z_int, PySem.W.mg_none_of X G z_isinstance, PySem.W.mg_none_of X G z_len, PySem.W.mg_none_of X G z_list, PySem.W.mg_none_of X G z_max, PySem.W.mg_none_of X G z_min, PySem.W.mg_none_of X G z_range, PySem.W.mg_none_of X G z_set, PySem.W.mg_none_of X G z_sorted, ⟨_, PySem.W.mg_of X G c_MOST_PLACES⟩⟩
  have u0 := fun_mk (st := d_is_counted) l0 c0 k0
  have b0 := u0.binds (ps := ["value", "many"]) fun _ _ _ _ _ _ us hl => match us, hl with | [_, _], _ => rfl
  have u1 := fun_mk (st := d_are_roads) l1 c1 k1
  have b1 := u1.binds (ps := ["value", "many"]) fun _ _ _ _ _ _ us hl => match us, hl with | [_, _], _ => rfl
  have u2 := fun_mk (st := d_check_web) l2 c2 k2
  have b2 := u2.binds (ps := ["web"]) fun _ _ _ _ _ _ us hl => match us, hl with | [_], _ => rfl
  have u3 := fun_mk (st := d_is_won) l3 c3 k3
  have b3 := u3.binds (ps := ["told"]) fun _ _ _ _ _ _ us hl => match us, hl with | [_], _ => rfl
  have u4 := fun_mk (st := d_ends_in) l4 c4 k4
  have b4 := u4.binds (ps := ["roads", "known", "count"]) fun _ _ _ _ _ _ us hl => match us, hl with | [_, _, _], _ => rfl
  have u5 := fun_mk (st := d_ends) l5 c5 k5
  have b5 := u5.binds (ps := ["web"]) fun _ _ _ _ _ _ us hl => match us, hl with | [_], _ => rfl
  have u6 := fun_mk (st := d__law_cell_at) l6 c6 k6
  have b6 := u6.binds (ps := ["_law_script", "_law_k"]) fun _ _ _ _ _ _ us hl => match us, hl with | [_, _], _ => rfl
  have u7 := fun_mk (st := d__law_draw) l7 c7 k7
  have b7 := u7.binds (ps := ["_law_cell", "_law_k", "_law_most"]) fun _ _ _ _ _ _ us hl => match us, hl with | [_, _, _], _ => rfl
  have u8 := fun_mk (st := d__law_number) l8 c8 k8
  have b8 := u8.binds (ps := ["_law_cell", "_law_k", "_law_limit"]) fun _ _ _ _ _ _ us hl => match us, hl with | [_, _, _], _ => rfl
  have u9 := fun_mk (st := d__law_web) l9 c9 k9
  have b9 := u9.binds (ps := ["_law_script", "_law_size_here", "_law_by"]) fun _ _ _ _ _ _ us hl => match us, hl with | [_, _, _], _ => rfl
  have u10 := fun_mk (st := d__law_size) l10 c10 k10
  have b10 := u10.binds (ps := ["_law_script", "_law_by", "_law_most"]) fun _ _ _ _ _ _ us hl => match us, hl with | [_, _, _], _ => rfl
  have u11 := fun_mk (st := d__law_pushed_on) l11 c11 k11
  have b11 := u11.binds (ps := ["_law_web_here", "_law_found", "_law_place", "_law_script", "_law_kind"]) fun _ _ _ _ _ _ us hl => match us, hl with | [_, _, _, _, _], _ => rfl
  have u12 := fun_mk (st := d_law) l12 c12 k12
  refine ⟨PySem.W.fnOf "law" "law" (defArgs d_law) (defBody d_law) (defScope d_law) .none kV12 dc12 pm12 an12 cd12 ct12, fun s v => .of_eq rfl, fun base _ _ => ?_⟩
  have F_is_counted : Fn l.prog w K mg base "is_counted" 1 m_is_counted := ⟨f0, _, _, ok_is_counted u0 T, PySem.W.mg_of X G a0, k0, b0⟩
  have F_are_roads : Fn l.prog w K mg base "are_roads" 2 m_are_roads := ⟨f1, _, _, ok_are_roads u1 T F_is_counted, PySem.W.mg_of X G a1, k1, b1⟩
  have F_check_web : Fn l.prog w K mg base "check_web" 3 m_check_web := ⟨f2, _, _, ok_check_web u2 T F_are_roads, PySem.W.mg_of X G a2, k2, b2⟩
  have F_is_won : Fn l.prog w K mg base "is_won" 1 m_is_won := ⟨f3, _, _, ok_is_won u3 T, PySem.W.mg_of X G a3, k3, b3⟩
  have F_ends_in : Fn l.prog w K mg base "ends_in" 2 m_ends_in := ⟨f4, _, _, ok_ends_in u4 T F_is_won, PySem.W.mg_of X G a4, k4, b4⟩
  have F_ends : Fn l.prog w K mg base "ends" 4 m_ends := ⟨f5, _, _, ok_ends u5 T F_ends_in F_check_web, PySem.W.mg_of X G a5, k5, b5⟩
  have F__law_cell_at : Fn l.prog w K mg base "_law_cell_at" 1 m__law_cell_at := ⟨f6, _, _, ok__law_cell_at u6 T, PySem.W.mg_of X G a6, k6, b6⟩
  have F__law_draw : Fn l.prog w K mg base "_law_draw" 1 m__law_draw := ⟨f7, _, _, ok__law_draw u7 T, PySem.W.mg_of X G a7, k7, b7⟩
  have F__law_number : Fn l.prog w K mg base "_law_number" 2 m__law_number := ⟨f8, _, _, ok__law_number u8 T F__law_draw, PySem.W.mg_of X G a8, k8, b8⟩
  have F__law_web : Fn l.prog w K mg base "_law_web" 3 m__law_web := ⟨f9, _, _, ok__law_web u9 T F__law_cell_at F__law_draw F__law_number, PySem.W.mg_of X G a9, k9, b9⟩
  have F__law_size : Fn l.prog w K mg base "_law_size" 2 m__law_size := ⟨f10, _, _, ok__law_size u10 T F__law_cell_at F__law_draw, PySem.W.mg_of X G a10, k10, b10⟩
  have F__law_pushed_on : Fn l.prog w K mg base "_law_pushed_on" 2 m__law_pushed_on := ⟨f11, _, _, ok__law_pushed_on u11 T F__law_cell_at F__law_draw, PySem.W.mg_of X G a11, k11, b11⟩
  exact ok_law u12 T F_ends F__law_pushed_on F__law_size F__law_web
theorem walk {l : PySem.W.OpenLaw} {q : Program} {loose : List Str} {XP : (Str → Option Value) → Heap → Prop} {YP : World → Heap → Prop} {d : DefRec} {K : Params → PySem.W.Frag} (hn : l.most = some 63) (hdf : d.params.defaults = [])
    (hY : ∀ (w : World) (h : Heap), YP w h → (K w.params).In h)
    (F : ∀ (w : World) (mg : Str → Option Value) (fa : Addr) (h : Heap), (K w.params).In h → h.Ns mainGlobals mg → mg d.name = some (.ref fa) →
      ∃ fd : FuncData, (∀ (s : Shared) (u : Value), BindsTo s fd ⟨[u], []⟩ [("_law_script", u)]) ∧ ∀ base : Heap, (K w.params).In base → base.Ns mainGlobals mg → FnOk l.prog w (K w.params) mg base CX0 5 fa fd ["_law_script"] (spR (K w.params) m_law))
    (hlaw : ∀ ns : List Int, ns.length ≤ 63 → m_law [.list (ns.map .int)] = some (.d (.bool true))) :
    PySem.W.WalkO q loose XP YP l.row.toRowW d [] (fun f vs => PySem.call f vs) :=
  L2.walk_of (n := 63) (k := 5) (x := "_law_script") (CX := fun _ => CX0) (sp := fun w => spR (K w.params) m_law) hn (by decide) hdf ⟨rfl, by decide, by decide, rfl⟩ hY F
    (fun _ H a ns hl _ hS => ⟨H, _, _, Same.refl _, .cons (.lst hS (DpAll.ints ns)) .nil, hlaw ns hl, fun v F' H' g d => by cases d; rfl⟩) fun _ _ _ _ _ z => z
end G
namespace G
open PySem DL
theorem mulOk_r (i j : Int) (h : j.natAbs < 2 ^ 64) : mulOk i j = true := by
  unfold mulOk
  rw [decide_eq_true h, Bool.or_true, Bool.true_or]
theorem mulOk_l (i j : Int) (h : i.natAbs < 2 ^ 64) : mulOk i j = true := by
  unfold mulOk
  rw [decide_eq_true h, Bool.true_or, Bool.true_or]
theorem mulOk_b (i j : Int) (h : i.natAbs < 2 ^ 400) (h' : j.natAbs < 2 ^ 400) : mulOk i j = true := by
  unfold mulOk
  rw [decide_eq_true h, decide_eq_true h', Bool.and_true, Bool.or_true]
theorem r_is_counted (v many : Int) : m_is_counted [.int v, .int many] = some (.d (.bool (decide (0 ≤ v) && decide (v < many)))) := by
  simp [m_is_counted]
  by_cases h : 0 ≤ v <;> simp [h]
/-- a cell of the script, 0 beyond -/
def cellI (ns : List Int) (k : Nat) : Int := ns.getD k 0
theorem r_cell_at (ns : List Int) (k : Nat) : m__law_cell_at [.list (ns.map .int), .int k] = some (.d (.int (cellI ns k))) := by
  unfold cellI
  simp [m__law_cell_at]
  by_cases h : k < ns.length
  · simp [h, L2.atI, L2.ixN]
  · simp [h, List.getD_eq_getElem?_getD]
def primes : List Int := [1000003, 1000033, 1000037, 1000039, 1000081, 1000099, 1000117, 1000121, 1000133, 1000151, 1000159, 1000171, 1000183, 1000187, 1000193, 1000199]
/-- what the law draws -/
def drawI (c k m : Int) : Int := (c * 48271 + k * 69621) % (primes.getD (k % 16).toNat 1) % m
theorem primes_pos (i : Nat) : 0 < primes.getD i 1 := by
  unfold primes
  rcases i with _|_|_|_|_|_|_|_|_|_|_|_|_|_|_|_|i <;> simp
theorem r_draw (c k m : Int) (hm : 0 < m) : m__law_draw [.int c, .int k, .int m] = some (.d (.int (drawI c k m))) := by
  have h1 : 0 ≤ k % 16 := Int.emod_nonneg _ (by decide)
  have h2 : k % 16 < 16 := Int.emod_lt_of_pos _ (by decide)
  have hp : L2.atI (primes.map PyData.int) (k % 16) = some (.int (primes.getD (k % 16).toNat 1)) := by
    unfold L2.atI L2.ixN
    have hl : (primes.map PyData.int).length = 16 := rfl
    rw [hl, if_pos h1, if_pos (by simpa using h2)]
    have : (k % 16).toNat < 16 := by omega
    simp only [Option.bind_some, List.getElem?_map]
    rw [List.getElem?_eq_getElem (by exact this)]
    simp [List.getD_eq_getElem?_getD, this, primes]
  have hp2 := primes_pos (k % 16).toNat
  unfold drawI
  generalize primes.getD (k % 16).toNat 1 = q at *
  simp only [primes, List.map] at hp
  have e1 : mulOk c 48271 = true := mulOk_r c _ (by decide)
  have e2 : mulOk k 69621 = true := mulOk_r k _ (by decide)
  simp [m__law_draw, e1, e2, hp, hp2, hm]
theorem draw_nn (c k : Int) {m : Int} (hm : 0 < m) : 0 ≤ drawI c k m := Int.emod_nonneg _ (Int.ne_of_gt hm)
theorem draw_lt (c k : Int) {m : Int} (hm : 0 < m) : drawI c k m < m := Int.emod_lt_of_pos _ hm
def sevens : List Int := [1, 7, 49, 343, 2401]
def bigP : Int := 1000811284336359577647248616306026718125307353262274591
def numI (c k l : Int) : Int :=
  if 1000000000000000000 ≤ c then (c - 1000000000000000000) % (sevens.getD (k % 5).toNat 1 * l) / sevens.getD (k % 5).toNat 1
  else
    let c := if c < -1000000000000000000 then c % bigP else c
    drawI ((c + 977 * k) * (c + 31 * k + 5)) (k % 9 + 1) 999983 % l
theorem sevens_pos (i : Nat) : 0 < sevens.getD i 1 ∧ sevens.getD i 1 ≤ 2401 := by
  unfold sevens
  rcases i with _|_|_|_|_|i <;> simp
theorem small_ok {i : Int} (h1 : -(10 ^ 60) < i) (h2 : i < 10 ^ 60) : i.natAbs < 2 ^ 400 := by
  have : i.natAbs < 10 ^ 60 := by omega
  exact Nat.lt_trans this (Nat.lt_trans (show (10 : Nat) ^ 60 < 2 ^ 250 by decide) (Nat.pow_lt_pow_right (by decide) (by decide)))
theorem r_number (c k l : Int) (hk : 0 ≤ k) (hk2 : k < 100000) (hl : 0 < l) : m__law_number [.int c, .int k, .int l] = some (.d (.int (numI c k l))) := by
  have h1 : 0 ≤ k % 5 := Int.emod_nonneg _ (by decide)
  have h2 : k % 5 < 5 := Int.emod_lt_of_pos _ (by decide)
  have hp : L2.atI (sevens.map PyData.int) (k % 5) = some (.int (sevens.getD (k % 5).toNat 1)) := by
    unfold L2.atI L2.ixN
    have hl : (sevens.map PyData.int).length = 5 := rfl
    rw [hl, if_pos h1, if_pos (by simpa using h2)]
    have : (k % 5).toNat < 5 := by omega
    simp only [Option.bind_some, List.getElem?_map]
    rw [List.getElem?_eq_getElem (by exact this)]
    simp [List.getD_eq_getElem?_getD, this, sevens]
  obtain ⟨hq1, hq2⟩ := sevens_pos (k % 5).toNat
  unfold numI
  generalize sevens.getD (k % 5).toNat 1 = q at *
  simp only [sevens, List.map] at hp
  have e3 : mulOk q l = true := mulOk_l q l (by have : q.natAbs ≤ 2401 := by omega
                                                exact Nat.lt_of_le_of_lt this (by decide))
  have e4 : 0 < q * l := Int.mul_pos hq1 hl
  have e5 : mulOk 977 k = true := mulOk_l _ k (by decide)
  have e6 : mulOk 31 k = true := mulOk_l _ k (by decide)
  have hq3 : q < 1073741824 := by omega
  have hd : ∀ a b, m__law_draw [.int a, .int b, .int 999983] = some (.d (.int (drawI a b 999983))) := fun a b => r_draw a b _ (by decide)
  by_cases hc : 1000000000000000000 ≤ c
  · simp [m__law_number, hc, hp, e3, e4, hq1, hq3]
  · by_cases hn : c < -1000000000000000000
    · have a1 : 0 ≤ c % bigP := Int.emod_nonneg _ (by decide)
      have a2 : c % bigP < bigP := Int.emod_lt_of_pos _ (by decide)
      have e7 : mulOk (c % bigP + 977 * k) (c % bigP + 31 * k + 5) = true := by
        unfold bigP at *
        exact mulOk_b _ _ (small_ok (by omega) (by omega)) (small_ok (by omega) (by omega))
      have e8 : c % 1000811284336359577647248616306026718125307353262274591 = c % bigP := rfl
      simp only [hc, hn, if_true, if_false]
      generalize c % bigP = b at *
      simp [m__law_number, hc, hn, e5, e6, hd, hl, e8, e7]
    · have e7 : mulOk (c + 977 * k) (c + 31 * k + 5) = true := mulOk_b _ _ (small_ok (by omega) (by omega)) (small_ok (by omega) (by omega))
      simp [m__law_number, hc, hn, e5, e6, hd, hl, e7]
theorem num_nn (c k : Int) {l : Int} (hl : 0 < l) : 0 ≤ numI c k l := by
  obtain ⟨hq1, hq2⟩ := sevens_pos (k % 5).toNat
  unfold numI
  split
  · exact Int.ediv_nonneg (Int.emod_nonneg _ (Int.ne_of_gt (Int.mul_pos hq1 hl))) (Int.le_of_lt hq1)
  · exact Int.emod_nonneg _ (Int.ne_of_gt hl)
theorem num_lt (c k : Int) {l : Int} (hl : 0 < l) : numI c k l < l := by
  obtain ⟨hq1, hq2⟩ := sevens_pos (k % 5).toNat
  unfold numI
  split
  · rw [Int.ediv_lt_iff_lt_mul hq1, Int.mul_comm l]
    exact Int.emod_lt_of_pos _ (Int.mul_pos hq1 hl)
  · exact Int.emod_lt_of_pos _ hl
def sizeI (ns : List Int) (b m : Int) : Int := 1 + drawI (cellI ns 0 + 7 * b) (4 + b) m
theorem r_size (ns : List Int) (b m : Int) (hm : 0 < m) : m__law_size [.list (ns.map .int), .int b, .int m] = some (.d (.int (sizeI ns b m))) := by
  have e1 : mulOk 7 b = true := mulOk_l _ b (by decide)
  have hd : ∀ a c, m__law_draw [.int a, .int c, .int m] = some (.d (.int (drawI a c m))) := fun a c => r_draw a c _ hm
  have hc : m__law_cell_at [.list (ns.map .int), .int 0] = some (.d (.int (cellI ns 0))) := r_cell_at ns 0
  simp [m__law_size, e1, hc, hd, sizeI]
end G
namespace G
open PySem DL
/-! ### loops by invariants -/
theorem forL_inv {t : Tg} {g : Sl → Option Out} (Inv : Nat → Sl → Prop) : ∀ (xs : List D) (k : Nat) (s : Sl), (∀ i x s, xs[i]? = some x → Inv (k + i) s → ∃ s1 s2, t.putS x s = some s1 ∧ g s1 = some (.nx s2) ∧ Inv (k + i + 1) s2) → Inv k s → ∃ s', forL t g xs s = some (.nx s') ∧ Inv (k + xs.length) s'
  | [], k, s, h, h0 => ⟨s, rfl, h0⟩
  | x :: xs, k, s, h, h0 => by
    obtain ⟨s1, s2, e1, e2, i2⟩ := h 0 x s rfl h0
    obtain ⟨s', e3, i3⟩ := forL_inv Inv xs (k + 1) s2 (fun i y s e hi => by
      have := h (i + 1) y s (by simpa using e) (by rw [← Nat.add_assoc, Nat.add_right_comm]; exact hi)
      rw [show k + 1 + i + 1 = k + (i + 1) + 1 by omega]
      exact this) i2
    refine ⟨s', ?_, by rw [List.length_cons, ← Nat.add_assoc, Nat.add_right_comm]; exact i3⟩
    unfold forL
    rw [e1, Option.bind_some, e2, Option.bind_some]
    exact e3
theorem range_get {lo : Int} {n i : Nat} {x : D} (e : (rangeD lo n)[i]? = some x) : i < n ∧ x = .int (lo + i) := by
  unfold rangeD at e
  rw [List.getElem?_map] at e
  obtain ⟨j, e1, e2⟩ := Option.map_eq_some_iff.mp e
  have h := List.getElem?_eq_some_iff.mp e1
  obtain ⟨h1, h2⟩ := h
  rw [List.length_range] at h1
  rw [List.getElem_range] at h2
  subst h2
  exact ⟨h1, e2.symm⟩
theorem range_len (lo : Int) (n : Nat) : (rangeD lo n).length = n := by simp [rangeD]
/-- a for over range(n) -/
theorem for_range {t : Tg} {g : Sl → Option Out} {n : Nat} {s : Sl} (Inv : Nat → Sl → Prop) (h : ∀ (i : Nat) s, i < n → Inv i s → ∃ s1 s2, t.putS (.int i) s = some s1 ∧ g s1 = some (.nx s2) ∧ Inv (i + 1) s2) (h0 : Inv 0 s) : ∃ s', forL t g (rangeD 0 n) s = some (.nx s') ∧ Inv n s' := by
  obtain ⟨s', e, i⟩ := forL_inv Inv (rangeD 0 n) 0 s (fun i x s e hi => by
    obtain ⟨hl, rfl⟩ := range_get e
    rw [Nat.zero_add] at hi ⊢
    have := h i s hl hi
    rw [Int.zero_add]
    exact this) h0
  rw [range_len, Nat.zero_add] at i
  exact ⟨s', e, i⟩
def natD (n : Nat) : D := .int n
def rowD (r : List Nat) : D := .list (r.map natD)
def webD (W : List (List Nat)) : D := .list (W.map rowD)
/-- roads: rising, all below n -/
structure RowOk (n : Nat) (r : List Nat) : Prop where
  up : r.Pairwise (· < ·)
  lt : ∀ x ∈ r, x < n
structure WebOk (W : List (List Nat)) : Prop where
  pos : 1 ≤ W.length
  most : W.length ≤ 60
  rows : ∀ r ∈ W, RowOk W.length r
def cellsL (ns : List Int) : List Int := if ns = [] then [4] else ns
theorem flat_nats (r : List Nat) : (r.map natD).all flat = true := by simp [natD]
@[simp] theorem eqv_int (i j : Int) : PyData.eqv (.int i) (.int j) = decide (i = j) := by
  by_cases h : i = j <;> simp [PyData.eqv, h]
@[simp] theorem shaped_int (i : Int) : SeqAt.shaped (.int i) = true := by simp [SeqAt.shaped, PyData.canLay0, PyData.depth]
@[simp] theorem shaped_non : SeqAt.shaped .none = true := by simp [SeqAt.shaped, PyData.canLay0, PyData.depth]
theorem lay_ints : ∀ ns : List Int, PyData.canLayAll0 (ns.map .int) = true ∧ PyData.depthAll (ns.map .int) = 0
  | [] => by simp [PyData.canLayAll0, PyData.depthAll]
  | n :: ns => by simp [PyData.canLayAll0, PyData.depthAll, PyData.canLay0, PyData.depth, lay_ints ns]
@[simp] theorem shaped_ints (ns : List Int) : SeqAt.shaped (.list (ns.map .int)) = true := by simp [SeqAt.shaped, PyData.canLay0, PyData.depth, lay_ints]
@[simp] theorem shaped_nil : SeqAt.shaped (.list []) = true := by simp [SeqAt.shaped, PyData.canLay0, PyData.depth, PyData.canLayAll0, PyData.depthAll]
@[simp] theorem eqv_nil_ints (ns : List Int) : PyData.eqv (.list (ns.map .int)) (.list []) = decide (ns = []) := by
  cases ns <;> simp [PyData.eqv, PyData.eqvAll]
@[simp] theorem eqv_nil : PyData.eqv (.list []) (.list []) = true := by simp [PyData.eqv, PyData.eqvAll]
theorem run_rl {n m : Nat} {g : Sl → Option Out} {ds : List D} {xs : List D} (hl : ds.length = n) (e : g (ds.map (fun d => some (false, d)) ++ List.replicate m none) = some (.rl xs)) : runF n m g ds = some (.l xs) := by
  unfold runF
  rw [if_pos hl, e]
  rfl
theorem run_rt {n m : Nat} {g : Sl → Option Out} {ds : List D} {x : D} (hl : ds.length = n) (e : g (ds.map (fun d => some (false, d)) ++ List.replicate m none) = some (.rt x)) : runF n m g ds = some (.d x) := by
  unfold runF
  rw [if_pos hl, e]
  rfl
theorem run_nx {n m : Nat} {g : Sl → Option Out} {ds : List D} {s : Sl} (hl : ds.length = n) (e : g (ds.map (fun d => some (false, d)) ++ List.replicate m none) = some (.nx s)) : runF n m g ds = some (.d .none) := by
  unfold runF
  rw [if_pos hl, e]
  rfl
theorem seq_nx {g h : Sl → Option Out} {s s' : Sl} (e : g s = some (.nx s')) : sSeq g h s = h s' := by simp [e]
theorem if_t {c : Ev → Option Bool} {g h : Sl → Option Out} {s : Sl} (e : c (evs s) = some true) : sIf c g h s = g s := by
  unfold sIf
  rw [e, Option.bind_some, if_pos rfl]
theorem if_f {c : Ev → Option Bool} {g h : Sl → Option Out} {s : Sl} (e : c (evs s) = some false) : sIf c g h s = h s := by
  unfold sIf
  rw [e, Option.bind_some, if_neg Bool.false_ne_true]
theorem at_nat {α : Type} {xs : List α} {i : Nat} {x : α} (e : xs[i]? = some x) : L2.atI xs (i : Int) = some x := by
  have h := (List.getElem?_eq_some_iff.mp e).1
  unfold L2.atI L2.ixN
  rw [if_pos (by omega), if_pos (by omega)]
  simpa using e
theorem at_int {α : Type} {xs : List α} {i : Int} {x : α} (h : 0 ≤ i) (e : xs[i.toNat]? = some x) : L2.atI xs i = some x := by
  have := at_nat e
  rwa [Int.toNat_of_nonneg h] at this
/-! ### the law's own webs -/
abbrev wIn (ns : List Int) (sz b kind place : Int) (cs : List Int) (W : List D) (r : List Nat) (o8 o9 o10 o11 o12 : Option (Bool × D)) : Sl :=
  [some (false, .list (ns.map .int)), some (false, .int sz), some (false, .int b), some (false, .int kind), some (false, .int place), some (false, .list (cs.map .int)), some (true, .list W), some (true, rowD r), o8, o9, o10, o11, o12]
def kinds : List Int := [5, 3, 2, 4, 3, 9]
theorem kinds_at {k : Int} (h0 : 0 ≤ k) (h1 : k < 6) : ∃ q, L2.atI [PyData.int 5, PyData.int 3, PyData.int 2, PyData.int 4, PyData.int 3, PyData.int 9] k = some (.int q) ∧ 0 < q := by
  have hk : k = 0 ∨ k = 1 ∨ k = 2 ∨ k = 3 ∨ k = 4 ∨ k = 5 := by omega
  rcases hk with rfl | rfl | rfl | rfl | rfl | rfl
  · exact ⟨5, rfl, by decide⟩
  · exact ⟨3, rfl, by decide⟩
  · exact ⟨2, rfl, by decide⟩
  · exact ⟨4, rfl, by decide⟩
  · exact ⟨3, rfl, by decide⟩
  · exact ⟨9, rfl, by decide⟩
end G
namespace G
open PySem DL
/-! ### some answer, whichever -/
theorem seq_any {α β : Type} {g h : Sl → Option Out} {s : Sl} {S : α → Sl} {T : β → Sl} (h1 : ∃ x, g s = some (.nx (S x))) (h2 : ∀ x, ∃ y, h (S x) = some (.nx (T y))) : ∃ y, sSeq g h s = some (.nx (T y)) := by
  obtain ⟨x, e⟩ := h1
  obtain ⟨y, e2⟩ := h2 x
  exact ⟨y, (seq_nx e).trans e2⟩
theorem if_any {α : Type} {c : Ev → Option Bool} {g h : Sl → Option Out} {s : Sl} {S : α → Sl} (hc : ∃ b, c (evs s) = some b) (hg : ∃ x, g s = some (.nx (S x))) (hh : ∃ x, h s = some (.nx (S x))) : ∃ x, sIf c g h s = some (.nx (S x)) := by
  obtain ⟨b, e⟩ := hc
  cases b with
  | true => rw [if_t e]; exact hg
  | false => rw [if_f e]; exact hh
theorem or_any {f g : Ev → Option Bool} {ds : Ev} (h1 : ∃ b, f ds = some b) (h2 : ∃ b, g ds = some b) : ∃ b, bOr f g ds = some b := by
  obtain ⟨a, e1⟩ := h1
  obtain ⟨b, e2⟩ := h2
  cases a <;> simp [e1, e2]
theorem and_any {f g : Ev → Option Bool} {ds : Ev} (h1 : ∃ b, f ds = some b) (h2 : ∃ b, g ds = some b) : ∃ b, bAnd f g ds = some b := by
  obtain ⟨a, e1⟩ := h1
  obtain ⟨b, e2⟩ := h2
  cases a <;> simp [e1, e2]
theorem in_body {ns : List Int} {sz b kind : Int} {place i : Nat} {cs : List Int} {W : List D} {r : List Nat} {o8 o9 o10 o11 o12 : Option (Bool × D)} (hcs : 0 < cs.length) (hk0 : 0 ≤ kind) (hk1 : kind < 6) (hs : 0 < sz) (hp : place < 60) (hi : i < 60) (hb0 : 0 ≤ b) (hb1 : b ≤ 1) (hr : r.length ≤ 60) :
    ∃ x : Bool × D × D, b0__law_web (wIn ns sz b kind place cs W r (some (false, .int i)) o9 o10 o11 o12) = some (.nx (wIn ns sz b kind place cs W (if x.1 then r ++ [i] else r) (some (false, .int i)) o9 (some (false, x.2.1)) (some (false, x.2.2)) (some (false, .bool x.1)))) := by
  obtain ⟨q, hq, hq0⟩ := kinds_at hk0 hk1
  have hm0 : 0 ≤ ((place : Int) + i * (1 + b)) % cs.length := Int.emod_nonneg _ (by omega)
  have hm1 : ((place : Int) + i * (1 + b)) % cs.length < cs.length := Int.emod_lt_of_pos _ (by omega)
  have hlt : (((place : Int) + i * (1 + b)) % cs.length).toNat < cs.length := by omega
  have hc : L2.atI (cs.map PyData.int) (((place : Int) + i * (1 + b)) % cs.length) = some (.int (cs[(((place : Int) + i * (1 + b)) % cs.length).toNat])) := by
    refine at_int hm0 ?_
    rw [List.getElem?_map, List.getElem?_eq_getElem hlt]
    rfl
  generalize cs[(((place : Int) + i * (1 + b)) % cs.length).toNat] = c at hc
  have e1 : mulOk (i : Int) (1 + b) = true := mulOk_l _ _ (by have : (i : Int).natAbs < 60 := by omega
                                                              exact Nat.lt_trans this (by decide))
  have e2 : mulOk 7 (place : Int) = true := mulOk_l _ _ (by decide)
  have hn : m__law_number [.int c, .int (7 * place + i + b), .int 60] = some (.d (.int (numI c (7 * place + i + b) 60))) := r_number _ _ _ (by omega) (by omega) (by decide)
  have hl : ((cs.length : Int)) > 0 := by omega
  refine seq_any (α := Unit) (S := fun _ => wIn ns sz b kind place cs W r (some (false, .int i)) o9 (some (false, .int c)) o11 o12) ⟨(), ?_⟩ fun _ => ?_
  · simp [e1, hc, hl, hcs]
  refine seq_any (α := Unit) (S := fun _ => wIn ns sz b kind place cs W r (some (false, .int i)) o9 (some (false, .int c)) (some (false, .int (numI c (7 * place + i + b) 60))) o12) ⟨(), ?_⟩ fun _ => ?_
  · simp [e2, hn]
  generalize numI c (7 * place + i + b) 60 = v
  refine seq_any (S := fun x : Bool => wIn ns sz b kind place cs W r (some (false, .int i)) o9 (some (false, .int c)) (some (false, .int v)) (some (false, .bool x))) ⟨decide (v % q = 0), ?_⟩ fun x => ?_
  · simp [hq, hq0]
  refine seq_any (S := fun x : Bool => wIn ns sz b kind place cs W r (some (false, .int i)) o9 (some (false, .int c)) (some (false, .int v)) (some (false, .bool x))) (if_any (or_any ⟨decide (kind = 3), by simp⟩ (and_any ⟨decide (kind = 4), by simp⟩ ⟨decide ((place : Int) % 2 = 0), by simp⟩)) ?_ ⟨x, by simp⟩) fun x => ?_
  · by_cases h1 : v % 2 = 0
    · exact ⟨decide ((i : Int) < place), by simp [h1]⟩
    · exact ⟨false, by simp [h1]⟩
  refine seq_any (S := fun x : Bool => wIn ns sz b kind place cs W r (some (false, .int i)) o9 (some (false, .int c)) (some (false, .int v)) (some (false, .bool x))) (if_any ⟨decide (kind = 5), by simp⟩ ?_ ⟨x, by simp⟩) fun x => ?_
  · cases x with
    | true => exact ⟨true, by simp⟩
    | false => exact ⟨decide (((place : Int) + 1) % sz = i), by simp [hs]⟩
  refine ⟨(x, .int c, .int v), ?_⟩
  cases x with
  | true =>
    have : r.length < 1000 := by omega
    simp [rowD, natD, this]
  | false => simp
theorem rise_len : ∀ {r : List Nat} {k i : Nat}, r.Pairwise (· < ·) → (∀ x ∈ r, k ≤ x ∧ x < i) → k ≤ i → r.length + k ≤ i
  | [], k, i, _, _, h => by simpa using h
  | a :: t, k, i, h, hb, hk => by
    rw [List.pairwise_cons] at h
    have ha := hb a (by simp)
    have := rise_len (k := a + 1) (i := i) h.2 (fun x hx => ⟨h.1 x hx, (hb x (by simp [hx])).2⟩) ha.2
    rw [List.length_cons]
    omega
/-- the inner loop: the roads of a place -/
theorem in_loop {ns : List Int} {b kind : Int} {place n : Nat} {cs : List Int} {W : List D} {o8 o9 o10 o11 o12 : Option (Bool × D)} (hcs : 0 < cs.length) (hk0 : 0 ≤ kind) (hk1 : kind < 6) (hn : 0 < n) (hn2 : n ≤ 60) (hp : place < 60) (hb0 : 0 ≤ b) (hb1 : b ≤ 1) :
    ∃ (r : List Nat) (o8' o10' o11' o12' : Option (Bool × D)), RowOk n r ∧ forL (.one 8) b0__law_web (rangeD 0 n) (wIn ns n b kind place cs W [] o8 o9 o10 o11 o12) = some (.nx (wIn ns n b kind place cs W r o8' o9 o10' o11' o12')) := by
  obtain ⟨s', e, r, o8', o10', o11', o12', rfl, h1, h2⟩ := for_range (t := .one 8) (g := b0__law_web) (n := n) (s := wIn ns n b kind place cs W [] o8 o9 o10 o11 o12) (fun i s => ∃ (r : List Nat) (o8' o10' o11' o12' : Option (Bool × D)), s = wIn ns n b kind place cs W r o8' o9 o10' o11' o12' ∧ r.Pairwise (· < ·) ∧ ∀ x ∈ r, x < i)
    (by
      rintro i s hi ⟨r, o8', o10', o11', o12', rfl, h1, h2⟩
      have hl : r.length ≤ 60 := by
        have := rise_len (k := 0) (i := i) h1 (fun x hx => ⟨Nat.zero_le _, h2 x hx⟩) (Nat.zero_le _)
        omega
      obtain ⟨x, hx⟩ := in_body (ns := ns) (sz := n) (b := b) (kind := kind) (place := place) (i := i) (cs := cs) (W := W) (r := r) (o8 := o8') (o9 := o9) (o10 := o10') (o11 := o11') (o12 := o12') hcs hk0 hk1 (by omega) hp (by omega) hb0 hb1 hl
      refine ⟨_, _, rfl, hx, _, _, _, _, _, rfl, ?_, ?_⟩
      · split
        · rw [List.pairwise_append]
          exact ⟨h1, by simp, fun a ha c hc => by simp at hc; subst hc; exact h2 a ha⟩
        · exact h1
      · split
        · intro y hy
          rcases List.mem_append.mp hy with hy | hy
          · exact Nat.lt_succ_of_lt (h2 y hy)
          · simp at hy; omega
        · exact fun y hy => Nat.lt_succ_of_lt (h2 y hy))
    ⟨[], o8, o10, o11, o12, rfl, .nil, by simp⟩
  exact ⟨r, o8', o10', o11', o12', ⟨h1, h2⟩, e⟩

end G
namespace G
open PySem DL
abbrev wOut (ns : List Int) (sz b kind : Int) (o4 : Option (Bool × D)) (cs : List Int) (W : List D) (o7 o8 o9 o10 o11 o12 : Option (Bool × D)) : Sl :=
  [some (false, .list (ns.map .int)), some (false, .int sz), some (false, .int b), some (false, .int kind), o4, some (false, .list (cs.map .int)), some (true, .list W), o7, o8, o9, o10, o11, o12]
theorem p1 {ns : List Int} {b kind : Int} {n i : Nat} {cs : List Int} {W : List (List Nat)} {o7' o8' o10' o11' o12' : Option (Bool × D)} : sSetL 7 (lDisp aNil) (wOut ns n b kind (some (false, .int i)) cs (W.map rowD) o7' o8' none o10' o11' o12') = some (.nx (wIn ns n b kind i cs (W.map rowD) [] o8' none o10' o11' o12')) := by
  simp [rowD]
theorem p3 {ns : List Int} {b kind : Int} {n i : Nat} {cs : List Int} {W : List (List Nat)} {r : List Nat} {p8 p10 p11 p12 : Option (Bool × D)} (h : W.length < 1000) : sAppM 6 (xVar 7) (wIn ns n b kind i cs (W.map rowD) r p8 none p10 p11 p12) = some (.nx (wOut ns n b kind (some (false, .int i)) cs ((W ++ [r]).map rowD) (some (false, rowD r)) (p8.map fun q => (false, q.2)) none (p10.map fun q => (false, q.2)) (p11.map fun q => (false, q.2)) (p12.map fun q => (false, q.2)))) := by
  simp [h, rowD]
theorem src_r1 {i n : Nat} {sl : Sl} {b : Bool} (h : n ≤ 1000) (e : sl[i]? = some (some (b, .int n))) : fromR (sRange1 (xVar i)) sl = some (rangeD 0 n, sl) := by
  have e1 : (evs sl)[i]? = some (some (.int n)) := by
    unfold evs
    rw [List.getElem?_map, e]
    rfl
  have e2 : xVar i (evs sl) = some (.int n) := by
    unfold xVar
    rw [e1]
    rfl
  have e3 : sRange1 (xVar i) (evs sl) = some (rangeD 0 n) := by
    unfold sRange1
    rw [e2, Option.bind_some]
    show (if okI (n : Int) = true then some (rangeD 0 (n : Int).toNat) else none) = some (rangeD 0 n)
    rw [if_pos (okI_nat h), Int.toNat_natCast]
  unfold fromR
  rw [e3]
  rfl
theorem out_loop {ns : List Int} {b kind : Int} {n : Nat} {cs : List Int} {o4 o7 o8 o10 o11 o12 : Option (Bool × D)} (hcs : 0 < cs.length) (hk0 : 0 ≤ kind) (hk1 : kind < 6) (hn : 0 < n) (hn2 : n ≤ 60) (hb0 : 0 ≤ b) (hb1 : b ≤ 1) :
    ∃ (W : List (List Nat)) (o4' o7' o8' o10' o11' o12' : Option (Bool × D)), W.length = n ∧ (∀ r ∈ W, RowOk n r) ∧ forL (.one 4) b1__law_web (rangeD 0 n) (wOut ns n b kind o4 cs [] o7 o8 none o10 o11 o12) = some (.nx (wOut ns n b kind o4' cs (W.map rowD) o7' o8' none o10' o11' o12')) := by
  obtain ⟨s', e, W, o4', o7', o8', o10', o11', o12', rfl, h1, h2⟩ := for_range (t := .one 4) (g := b1__law_web) (n := n) (s := wOut ns n b kind o4 cs [] o7 o8 none o10 o11 o12) (fun i s => ∃ (W : List (List Nat)) (o4' o7' o8' o10' o11' o12' : Option (Bool × D)), s = wOut ns n b kind o4' cs (W.map rowD) o7' o8' none o10' o11' o12' ∧ W.length = i ∧ ∀ r ∈ W, RowOk n r)
    (by
      rintro i s hi ⟨W, o4', o7', o8', o10', o11', o12', rfl, h1, h2⟩
      obtain ⟨r, p8, p10, p11, p12, hr, hx⟩ := in_loop (ns := ns) (b := b) (kind := kind) (place := i) (n := n) (cs := cs) (W := W.map rowD) (o8 := o8') (o9 := none) (o10 := o10') (o11 := o11') (o12 := o12') hcs hk0 hk1 hn hn2 (by omega) hb0 hb1
      have hbody : b1__law_web (wOut ns n b kind (some (false, .int i)) cs (W.map rowD) o7' o8' none o10' o11' o12') = some (.nx (wOut ns n b kind (some (false, .int i)) cs ((W ++ [r]).map rowD) (some (false, rowD r)) (p8.map fun q => (false, q.2)) none (p10.map fun q => (false, q.2)) (p11.map fun q => (false, q.2)) (p12.map fun q => (false, q.2)))) := by
        refine (seq_nx (s' := wIn ns n b kind i cs (W.map rowD) [] o8' none o10' o11' o12') ?_).trans ((seq_nx (s' := wIn ns n b kind i cs (W.map rowD) r p8 none p10 p11 p12) ?_).trans ?_)
        · exact p1
        · unfold sFor
          rw [src_r1 (i := 1) (n := n) (b := false) (by omega) rfl, Option.bind_some]
          exact hx
        · exact p3 (by omega)
      refine ⟨_, _, rfl, hbody, W ++ [r], _, _, _, _, _, _, rfl, by rw [List.length_append, h1]; rfl, ?_⟩
      · intro q hq
        rcases List.mem_append.mp hq with hq | hq
        · exact h2 q hq
        · simp at hq; subst hq; exact hr)
    ⟨[], o4, o7, o8, o10, o11, o12, rfl, rfl, by simp⟩
  exact ⟨W, o4', o7', o8', o10', o11', o12', h1, h2, e⟩

theorem cut63 {ns : List Int} (h : ns.length ≤ 63) : cutD (ns.map PyData.int) none (some 63) = ns.map PyData.int := by
  unfold cutD
  have e1 : HT.sIx (ns.map PyData.int).length 0 none = 0 := rfl
  have e2 : HT.sIx (ns.map PyData.int).length (ns.map PyData.int).length (some 63) = ns.length := by
    unfold HT.sIx
    simp
    omega
  rw [e1, e2, Nat.sub_zero, List.drop_zero]
  exact List.take_of_length_le (by simp)
theorem set_rows {W : List (List Nat)} {n k : Nat} {r : List Nat} (h : ∀ q ∈ W, RowOk n q) (hr : RowOk n r) : ∀ q ∈ W.set k r, RowOk n q := fun q hq => by
  rcases List.mem_or_eq_of_mem_set hq with h1 | h1
  · exact h q h1
  · subst h1; exact hr
theorem intsOf_nats : ∀ r : List Nat, intsOf (r.map natD) = some (r.map fun (n : Nat) => (n : Int))
  | [] => rfl
  | n :: r => by simp [intsOf, natD, intsOf_nats r]
theorem intsOf_app {xs ys : List D} {a b : List Int} (h1 : intsOf xs = some a) (h2 : intsOf ys = some b) : intsOf (xs ++ ys) = some (a ++ b) := by
  cases intsOf_map h1
  cases intsOf_map h2
  rw [← List.map_append]
  generalize a ++ b = c
  induction c with
  | nil => rfl
  | cons n c ih => simp [intsOf, ih]
/-- what sorted(set(..)) makes of roads and one more -/
theorem sset_row {n : Nat} {r : List Nat} {x : Int} (h : RowOk n r) (hx0 : 0 ≤ x) (hx : x < n) : ∃ q : List Nat, RowOk n q ∧ (ssetI (r.map (fun (n : Nat) => (n : Int)) ++ [x])).map PyData.int = q.map natD := by
  have hm : ∀ y ∈ ssetI (r.map (fun (n : Nat) => (n : Int)) ++ [x]), 0 ≤ y ∧ y < n := fun y hy => by
    have := ssetI_mem.mp hy
    rcases List.mem_append.mp this with z | z
    · obtain ⟨k, hk, rfl⟩ := List.mem_map.mp z
      have := h.lt k hk
      omega
    · simp at z; omega
  have hr := ssetI_rise (ns := r.map (fun (n : Nat) => (n : Int)) ++ [x])
  generalize ssetI (r.map (fun (n : Nat) => (n : Int)) ++ [x]) = l at hm hr
  refine ⟨l.map Int.toNat, ⟨?_, fun y hy => ?_⟩, ?_⟩
  · rw [List.pairwise_map]
    refine hr.imp_of_mem fun {a b} ha hb hab => ?_
    have := hm a ha
    have := hm b hb
    omega
  · obtain ⟨k, hk, rfl⟩ := List.mem_map.mp hy
    have := hm k hk
    omega
  · rw [List.map_map]
    refine List.map_congr_left fun y hy => ?_
    have := hm y hy
    show PyData.int y = PyData.int (y.toNat : Int)
    rw [Int.toNat_of_nonneg this.1]
theorem r_web (ns : List Int) (n : Nat) (b : Int) (hn : 0 < n) (hn2 : n ≤ 60) (hb0 : 0 ≤ b) (hb1 : b ≤ 1) (hns : ns.length ≤ 63) : ∃ W : List (List Nat), W.length = n ∧ WebOk W ∧ m__law_web [.list (ns.map .int), .int n, .int b] = some (.l (W.map rowD)) := by
  have hk0 := draw_nn (cellI ns 0 + b) 6 (show (0 : Int) < 6 by decide)
  have hk1 := draw_lt (cellI ns 0 + b) 6 (show (0 : Int) < 6 by decide)
  have hc0 : m__law_cell_at [.list (ns.map .int), .int 0] = some (.d (.int (cellI ns 0))) := r_cell_at ns 0
  have hc1 : m__law_cell_at [.list (ns.map .int), .int 1] = some (.d (.int (cellI ns 1))) := r_cell_at ns 1
  have hc2 : m__law_cell_at [.list (ns.map .int), .int 2] = some (.d (.int (cellI ns 2))) := r_cell_at ns 2
  have hd6 := r_draw (cellI ns 0 + b) 6 6 (by decide)
  have hcl : 0 < (cellsL ns).length := by
    unfold cellsL
    split
    · simp
    · rename_i h; exact List.length_pos_iff.mpr h
  have hg : ∃ W : List (List Nat), W.length = n ∧ WebOk W ∧ g__law_web [some (false, .list (ns.map .int)), some (false, .int n), some (false, .int b), none, none, none, none, none, none, none, none, none, none] = some (.rl (W.map rowD)) := by
    obtain ⟨W, o4, o7, o8, o10, o11, o12, hl, hr, e3⟩ := out_loop (ns := ns) (b := b) (kind := drawI (cellI ns 0 + b) 6 6) (n := n) (cs := cellsL ns) (o4 := none) (o7 := none) (o8 := none) (o10 := none) (o11 := none) (o12 := none) hcl hk0 hk1 hn hn2 hb0 hb1
    -- the last changes
    have hlast : ∃ W2 : List (List Nat), W2.length = n ∧ (∀ r ∈ W2, RowOk n r) ∧ ∃ o9 o10' o11' o12' o4' o7' o8', sIf (bAnd (bOf (x2 oEq (xVar 3) (xC (.int 4)))) (bOf (x2 oNe (xVar 0) (xLst (lDisp aNil))))) (sSeq (sSet 9 (xCall (mD m__law_draw) (aCons (xCall (mD m__law_cell_at) (aCons (xVar 0) (aCons (xC (.int 2)) aNil))) (aCons (xC (.int 5)) (aCons (xVar 1) aNil)))))
        (sItemL 6 (xVar 9) (x1L oSset (xLst (l2 oCat (x2 oIx (xVar 6) (xVar 9)) (xLst (lDisp (aCons (xCall (mD m__law_draw) (aCons (xCall (mD m__law_cell_at) (aCons (xVar 0) (aCons (xC (.int 1)) aNil))) (aCons (xC (.int 4)) (aCons (xVar 1) aNil)))) aNil)))))))) sNil
        (wOut ns n b (drawI (cellI ns 0 + b) 6 6) o4 (cellsL ns) (W.map rowD) o7 o8 none o10 o11 o12) = some (.nx (wOut ns n b (drawI (cellI ns 0 + b) 6 6) o4' (cellsL ns) (W2.map rowD) o7' o8' o9 o10' o11' o12')) := by
      by_cases hk : drawI (cellI ns 0 + b) 6 6 = 4 ∧ ns ≠ []
      · obtain ⟨hk, hne⟩ := hk
        rw [if_t (by simp [hk, hne])]
        have ha0 := draw_nn (cellI ns 2) 5 (show (0 : Int) < n by omega)
        have ha1 := draw_lt (cellI ns 2) 5 (show (0 : Int) < n by omega)
        have hx0 := draw_nn (cellI ns 1) 4 (show (0 : Int) < n by omega)
        have hx1 := draw_lt (cellI ns 1) 4 (show (0 : Int) < n by omega)
        have hda := r_draw (cellI ns 2) 5 n (by omega)
        have hdx := r_draw (cellI ns 1) 4 n (by omega)
        generalize drawI (cellI ns 2) 5 n = a at *
        generalize drawI (cellI ns 1) 4 n = x at *
        have hlt : a.toNat < W.length := by omega
        have hW : W[a.toNat]? = some W[a.toNat] := List.getElem?_eq_getElem hlt
        have hrow := hr _ (List.getElem_mem hlt)
        obtain ⟨q, hq, eq⟩ := sset_row hrow hx0 hx1
        have hrl := rise_len (k := 0) (i := n) hrow.up (fun y hy => ⟨Nat.zero_le _, hrow.lt y hy⟩) (Nat.zero_le _)
        have hat : L2.atI (W.map rowD) a = some (rowD W[a.toNat]) := at_int ha0 (by rw [List.getElem?_map, hW]; rfl)
        have hix : L2.ixN (W.map rowD).length a = some a.toNat := by
          unfold L2.ixN
          rw [if_pos ha0, if_pos (by rw [List.length_map]; omega)]
        have hint : intsOf (W[a.toNat].map natD ++ [.int x]) = some (W[a.toNat].map (fun (n : Nat) => (n : Int)) ++ [x]) := intsOf_app (intsOf_nats _) rfl
        have hl64 : (W[a.toNat].map (fun (n : Nat) => (n : Int)) ++ [x]).length < 64 := by simp; omega
        refine ⟨W.set a.toNat q, by rw [List.length_set]; exact hl, set_rows hr hq, some (false, .int a), o10, o11, o12, o4, o7, o8, ?_⟩
        refine (seq_nx (s' := wOut ns n b (drawI (cellI ns 0 + b) 6 6) o4 (cellsL ns) (W.map rowD) o7 o8 (some (false, .int a)) o10 o11 o12) ?_).trans ?_
        · simp [hc2, hda]
        · have hcat : W[a.toNat].length + 1 ≤ 1000 := by omega
          have hfl : (q.map natD).all flat = true := flat_nats q
          have hss : oSset (.list (W[a.toNat].map natD ++ [.int x])) = some (q.map natD) := by
            show ((intsOf (W[a.toNat].map natD ++ [.int x])).bind fun ns => if ns.length < 64 then some ((ssetI ns).map PyData.int) else none) = _
            rw [hint, Option.bind_some, if_pos hl64, eq]
          have hval : x1L oSset (xLst (l2 oCat (x2 oIx (xVar 6) (xVar 9)) (xLst (lDisp (aCons (xCall (mD m__law_draw) (aCons (xCall (mD m__law_cell_at) (aCons (xVar 0) (aCons (xC (.int 1)) aNil))) (aCons (xC (.int 4)) (aCons (xVar 1) aNil)))) aNil))))) (evs (wOut ns n b (drawI (cellI ns 0 + b) 6 6) o4 (cellsL ns) (W.map rowD) o7 o8 (some (false, .int a)) o10 o11 o12)) = some (q.map natD) := by
            have hx : l2 oCat (x2 oIx (xVar 6) (xVar 9)) (xLst (lDisp (aCons (xCall (mD m__law_draw) (aCons (xCall (mD m__law_cell_at) (aCons (xVar 0) (aCons (xC (.int 1)) aNil))) (aCons (xC (.int 4)) (aCons (xVar 1) aNil)))) aNil))) (evs (wOut ns n b (drawI (cellI ns 0 + b) 6 6) o4 (cellsL ns) (W.map rowD) o7 o8 (some (false, .int a)) o10 o11 o12)) = some (W[a.toNat].map natD ++ [.int x]) := by
              simp [hc1, hdx, hat, rowD, hcat]
            unfold x1L xLst
            unfold xLst at hx
            rw [hx]
            exact hss
          unfold sItemL
          have ho : ownL (wOut ns n b (drawI (cellI ns 0 + b) 6 6) o4 (cellsL ns) (W.map rowD) o7 o8 (some (false, .int a)) o10 o11 o12) 6 = some (W.map rowD) := rfl
          rw [ho, Option.bind_some, hval, Option.bind_some]
          rw [show xVar 9 (evs (wOut ns n b (drawI (cellI ns 0 + b) 6 6) o4 (cellsL ns) (W.map rowD) o7 o8 (some (false, .int a)) o10 o11 o12)) = some (.int a) from rfl, Option.bind_some, show intOf (.int a) = some a from rfl, Option.bind_some, hix, Option.bind_some, if_pos hfl]
          have : (W.set a.toNat q).map rowD = (W.map rowD).set a.toNat (.list (q.map natD)) := by
            rw [List.map_set]
            rfl
          rw [this]
          rfl
      · have hf : bAnd (bOf (x2 oEq (xVar 3) (xC (.int 4)))) (bOf (x2 oNe (xVar 0) (xLst (lDisp aNil)))) (evs (wOut ns n b (drawI (cellI ns 0 + b) 6 6) o4 (cellsL ns) (W.map rowD) o7 o8 none o10 o11 o12)) = some false := by
          by_cases h4 : drawI (cellI ns 0 + b) 6 6 = 4
          · have : ns = [] := by
              rcases Classical.em (ns = []) with z | z
              · exact z
              · exact absurd ⟨h4, z⟩ hk
            simp [h4, this]
          · simp [h4]
        rw [if_f hf]
        exact ⟨W, hl, hr, _, _, _, _, _, _, _, rfl⟩
    obtain ⟨W2, hl2, hr2, o9, o10', o11', o12', o4', o7', o8', e4⟩ := hlast
    refine ⟨W2, hl2, ⟨by omega, by omega, fun r h => by rw [hl2]; exact hr2 r h⟩, ?_⟩
    refine (seq_nx (s' := [some (false, .list (ns.map .int)), some (false, .int n), some (false, .int b), some (false, .int (drawI (cellI ns 0 + b) 6 6)), none, none, none, none, none, none, none, none, none]) ?_).trans ?_
    · simp [hc0, hd6]
    refine (seq_nx (s' := wOut ns n b (drawI (cellI ns 0 + b) 6 6) none (cellsL ns) [] none none none none none none) ?_).trans ?_
    · unfold cellsL
      by_cases h : ns = []
      · simp [h]
      · simp [h, cut63 hns]
    refine (seq_nx (s' := wOut ns n b (drawI (cellI ns 0 + b) 6 6) o4 (cellsL ns) (W.map rowD) o7 o8 none o10 o11 o12) ?_).trans ?_
    · unfold sFor
      rw [src_r1 (i := 1) (n := n) (b := false) (by omega) rfl, Option.bind_some]
      exact e3
    exact (seq_nx e4).trans rfl
  obtain ⟨W, h1, h2, e⟩ := hg
  refine ⟨W, h1, h2, ?_⟩
  exact run_rl rfl e
end G
namespace G
open PySem DL
/-! ### comprehensions -/
theorem comp_fil {α : Type} {t : Tg} {c : Ev → Option Bool} {f : Ev → Option D} {ds : Ev} (enc : α → D) (out : α → D) (p : α → Bool) : ∀ xs : List α, (∀ x ∈ xs, ∃ ds', t.put (enc x) ds = some ds' ∧ c ds' = some (p x) ∧ (p x = true → f ds' = some (out x))) → compL t c f ds (xs.map enc) = some ((xs.filter p).map out)
  | [], _ => rfl
  | x :: xs, h => by
    obtain ⟨ds', h1, h2, h3⟩ := h x (by simp)
    have ih := comp_fil (t := t) (c := c) (f := f) (ds := ds) enc out p xs fun y hy => h y (by simp [hy])
    rw [List.map_cons]
    unfold compL
    rw [h1, Option.bind_some, h2, Option.bind_some]
    cases hp : p x with
    | true => rw [if_pos rfl, h3 hp, Option.bind_some, ih, List.filter_cons_of_pos hp]; rfl
    | false => rw [if_neg Bool.false_ne_true, ih, List.filter_cons_of_neg (by rw [hp]; exact Bool.false_ne_true)]
theorem comp_map {α : Type} {t : Tg} {c : Ev → Option Bool} {f : Ev → Option D} {ds : Ev} (enc : α → D) (out : α → D) (xs : List α) (h : ∀ x ∈ xs, ∃ ds', t.put (enc x) ds = some ds' ∧ c ds' = some true ∧ f ds' = some (out x)) : compL t c f ds (xs.map enc) = some (xs.map out) := by
  rw [comp_fil enc out (fun _ => true) xs fun x hx => by
    obtain ⟨ds', h1, h2, h3⟩ := h x hx
    exact ⟨ds', h1, h2, fun _ => h3⟩, List.filter_eq_self.mpr (by simp)]
theorem bools_map (bs : List Bool) : boolsOf (bs.map PyData.bool) = some bs := by
  induction bs with
  | nil => rfl
  | cons b bs ih => simp [boolsOf, ih]
/-! ### what is known of a place -/
def optD : Option Nat → D
  | none => .none
  | some n => .int n
@[simp] theorem optD_none : optD none = .none := rfl
@[simp] theorem optD_some (n : Nat) : optD (some n) = .int n := rfl
@[simp] theorem isN_opt (o : Option Nat) : isN (optD o) = o.isNone := by cases o <;> rfl
@[simp] theorem flat_opt (o : Option Nat) : flat (optD o) = true := by cases o <;> rfl
@[simp] theorem shaped_opt (o : Option Nat) : SeqAt.shaped (optD o) = true := by cases o <;> simp
def wonO : Option Nat → Bool
  | none => false
  | some k => decide (k % 2 = 1)
theorem odd_int (k : Nat) : ((k : Int) % 2 = 1) = (k % 2 = 1) := by
  apply propext; omega
theorem even_int (k : Nat) : ((k : Int) % 2 = 0) = (k % 2 = 0) := by
  apply propext; omega
theorem r_is_won (o : Option Nat) : m_is_won [optD o] = some (.d (.bool (wonO o))) := by
  cases o with
  | none => simp [m_is_won, wonO]
  | some k => simp [m_is_won, wonO, odd_int]
abbrev ksD (ks : List (Option Nat)) : D := .list (ks.map optD)
def kAt (ks : List (Option Nat)) (p : Nat) : Option Nat := (ks[p]?).getD none
theorem at_ks {ks : List (Option Nat)} {p : Nat} (h : p < ks.length) : L2.atI (ks.map optD) (p : Int) = some (optD (kAt ks p)) := by
  refine at_nat ?_
  unfold kAt
  rw [List.getElem?_map, List.getElem?_eq_getElem h]
  rfl
def endsIn (K : Nat → Option Nat) (r : List Nat) (c : Nat) : Bool :=
  if c % 2 = 1 then r.any fun p => K p == some (c - 1) else r.all fun p => wonO (K p)
/-! ### a value read outside in -/
theorem ret_of {f : Ev → Option D} {sl : Sl} {d : D} (e : f (evs sl) = some d) : sRet f sl = some (.rt d) := by unfold sRet; rw [e]; rfl
theorem seq_rt {g h : Sl → Option Out} {s : Sl} {d : D} (e : g s = some (.rt d)) : sSeq g h s = some (.rt d) := by unfold sSeq; rw [e]; rfl
theorem call1 {α : Type} {o : D → Option α} {f : Ev → Option D} {ds : Ev} {d : D} {y : α} (e : f ds = some d) (e2 : o d = some y) : xCall (on1 o) (aCons f aNil) ds = some y := by
  unfold xCall aCons aNil
  rw [e]
  exact e2
theorem lst_of {f : Ev → Option (List D)} {ds : Ev} {xs : List D} (e : f ds = some xs) : xLst f ds = some (.list xs) := by unfold xLst; rw [e]; rfl
theorem comp_of {src : Ev → Option (List D)} {t : Tg} {c : Ev → Option Bool} {f : Ev → Option D} {ds : Ev} {xs ys : List D} (e1 : src ds = some xs) (hl : xs.length ≤ 1000) (e2 : compL t c f (wipeE ds t.slots) xs = some ys) : lComp src t c f ds = some ys := by
  unfold lComp
  rw [e1, Option.bind_some, if_pos (by simp [hl])]
  exact e2
theorem any_of {α : Type} (p : α → Bool) (r : List α) : oAny (.list (r.map fun x => PyData.bool (p x))) = some (.bool (r.any p)) := by
  have : (r.map fun x => PyData.bool (p x)) = (r.map p).map PyData.bool := by rw [List.map_map]; rfl
  rw [this]
  show (boolsOf ((r.map p).map PyData.bool)).map _ = _
  rw [bools_map, Option.map_some, List.any_map]
  rfl
theorem all_of {α : Type} (p : α → Bool) (r : List α) : oAll (.list (r.map fun x => PyData.bool (p x))) = some (.bool (r.all p)) := by
  have : (r.map fun x => PyData.bool (p x)) = (r.map p).map PyData.bool := by rw [List.map_map]; rfl
  rw [this]
  show (boolsOf ((r.map p).map PyData.bool)).map _ = _
  rw [bools_map, Option.map_some, List.all_map]
  rfl
theorem r_ends_in {ks : List (Option Nat)} {r : List Nat} {c : Nat} (hr : ∀ x ∈ r, x < ks.length) (hl : r.length ≤ 1000) : m_ends_in [rowD r, ksD ks, .int c] = some (.d (.bool (endsIn (kAt ks) r c))) := by
  unfold m_ends_in endsIn
  refine run_rt rfl ?_
  by_cases hc : c % 2 = 1
  · rw [if_pos hc]
    have h0 : sIf (bOf (x2 oEq (x2 oMod (xVar 2) (xC (.int 2))) (xC (.int 1)))) (sRet (xCall (on1 oAny) (aCons (xLst (lComp (sSeqOf (xVar 0)) (.one 3) bYes (x2 oEq (x2 oIx (xVar 1) (xVar 3)) (x2 oSub (xVar 2) (xC (.int 1)))))) aNil))) sNil [some (false, rowD r), some (false, ksD ks), some (false, .int c), none] = some (.rt (.bool (r.any fun p => kAt ks p == some (c - 1)))) := by
      rw [if_t (by simp [odd_int, hc])]
      refine ret_of (call1 (lst_of (comp_of rfl (by simpa using hl) (comp_map natD (fun p => PyData.bool (kAt ks p == some (c - 1))) r fun x hx => ⟨_, rfl, rfl, ?_⟩))) (any_of (fun p => kAt ks p == some (c - 1)) r))
      have hx := at_ks (hr x hx)
      cases hk : kAt ks x with
      | none => rw [hk] at hx; simp [natD, hx, PyData.eqv]
      | some k =>
        rw [hk] at hx
        simp [natD, hx]
        apply Bool.eq_iff_iff.mpr
        simp
        omega
    exact seq_rt h0
  · rw [if_neg hc]
    refine (seq_nx (s' := [some (false, rowD r), some (false, ksD ks), some (false, .int c), none]) ?_).trans ?_
    · exact if_f (by simp [odd_int, hc])
    refine ret_of (call1 (lst_of (comp_of rfl (by simpa using hl) (comp_map natD (fun p => PyData.bool (wonO (kAt ks p))) r fun x hx => ⟨_, rfl, rfl, ?_⟩))) (all_of (fun p => wonO (kAt ks p)) r))
    have hx := at_ks (hr x hx)
    simp [natD, hx, r_is_won]
/-! ### webs are webs -/
theorem r_are_roads {n : Nat} {r : List Nat} (h : RowOk n r) : m_are_roads [rowD r, .int n] = some (.d (.bool true)) := by
  unfold m_are_roads
  refine run_rt rfl ?_
  refine (seq_nx (s' := [some (false, rowD r), some (false, .int n), none, none]) ?_).trans ?_
  · exact if_f (by simp [rowD])
  refine (seq_nx (s' := [some (false, rowD r), some (false, .int n), some (false, .int (0 : Nat)), none]) ?_).trans ?_
  · simp
  obtain ⟨s', e, least, o, rfl, -⟩ := forL_inv (t := .one 3) (g := b0_are_roads) (fun i s => ∃ (least : Nat) (o : Option (Bool × D)), s = [some (false, rowD r), some (false, .int n), some (false, .int least), o] ∧ ∀ j x, i ≤ j → r[j]? = some x → least ≤ x) (r.map natD) 0 [some (false, rowD r), some (false, .int n), some (false, .int (0 : Nat)), none] (by
    rintro i x s hx ⟨least, o, rfl, hl⟩
    rw [Nat.zero_add] at hl
    rw [List.getElem?_map] at hx
    obtain ⟨y, hy, rfl⟩ := Option.map_eq_some_iff.mp hx
    have h1 := hl i y (Nat.le_refl _) hy
    have h2 : y < n := h.lt y (List.mem_of_getElem? hy)
    have hcn := r_is_counted y n
    refine ⟨_, [some (false, rowD r), some (false, .int n), some (false, .int (y + 1 : Nat)), some (false, .int y)], rfl, ?_, y + 1, _, rfl, ?_⟩
    · have h3 : ¬ (y : Int) < least := by omega
      have h4 : (y : Int) < n := by omega
      simp [natD, hcn, h3, h4]
    · intro j z hj hz
      obtain ⟨hi', ei⟩ := List.getElem?_eq_some_iff.mp hy
      obtain ⟨hj', ej⟩ := List.getElem?_eq_some_iff.mp hz
      have := (List.pairwise_iff_getElem.mp h.up) i j hi' hj' (by omega)
      omega) ⟨0, none, rfl, fun _ _ _ _ => Nat.zero_le _⟩
  refine (seq_nx (s' := [some (false, rowD r), some (false, .int n), some (false, .int least), o]) ?_).trans rfl
  exact e
theorem r_check_web {W : List (List Nat)} (h : WebOk W) : m_check_web [webD W] = some (.d .none) := by
  unfold m_check_web
  obtain ⟨s', e, o, rfl⟩ := forL_inv (t := .one 1) (g := b0_check_web) (fun i s => ∃ o : Option (Bool × D), s = [some (false, webD W), o]) (W.map rowD) 0 [some (false, webD W), none] (by
    rintro i x s hx ⟨o, rfl⟩
    rw [List.getElem?_map] at hx
    obtain ⟨y, hy, rfl⟩ := Option.map_eq_some_iff.mp hx
    have hr := r_are_roads (h.rows y (List.mem_of_getElem? hy))
    refine ⟨_, [some (false, webD W), some (false, rowD y)], rfl, ?_, _, rfl⟩
    refine if_f ?_
    simp [webD, hr]) ⟨none, rfl⟩
  refine run_nx (s := [some (false, webD W), o]) rfl ?_
  refine (seq_nx (s' := [some (false, webD W), none]) ?_).trans ?_
  · exact if_f (by simp [webD])
  refine (seq_nx (s' := [some (false, webD W), none]) ?_).trans ?_
  · have h1 := h.pos
    have h2 := h.most
    have h3 : (1 : Int) ≤ W.length := by omega
    have h4 : (W.length : Int) ≤ 60 := by omega
    exact if_f (by simp [webD, h3, h4])
  exact e
end G
namespace G
open PySem DL
def road (W : List (List Nat)) (p : Nat) : List Nat := (W[p]?).getD []
/-- what is known of a place when the counts below c are done -/
def Lv (W : List (List Nat)) : Nat → Nat → Option Nat
  | 0, _ => none
  | c + 1, p => if Lv W c p = none ∧ p < W.length ∧ endsIn (Lv W c) (road W p) c = true then some c else Lv W c p
variable {W : List (List Nat)}
theorem lv_lt : ∀ {c p k : Nat}, Lv W c p = some k → k < c
  | 0, p, k, h => by cases h
  | c + 1, p, k, h => by
    unfold Lv at h
    split at h
    · cases h; omega
    · have := lv_lt h; omega
theorem lv_up1 {c p k : Nat} (h : Lv W c p = some k) : Lv W (c + 1) p = some k := by
  unfold Lv
  rw [if_neg (by rw [h]; simp)]
  exact h
theorem lv_up {c p k : Nat} (h : Lv W c p = some k) : ∀ d, Lv W (c + d) p = some k
  | 0 => h
  | d + 1 => lv_up1 (lv_up h d)
theorem lv_mono {c d p k : Nat} (h : Lv W c p = some k) (hd : c ≤ d) : Lv W d p = some k := by
  have := lv_up h (d - c)
  rwa [Nat.add_sub_cancel' hd] at this
theorem lv_none {c d p : Nat} (h : Lv W d p = none) (hd : c ≤ d) : Lv W c p = none := by
  cases e : Lv W c p with
  | none => rfl
  | some k => rw [lv_mono e hd] at h; cases h
theorem lv_at : ∀ {c p k : Nat}, Lv W c p = some k → Lv W (k + 1) p = some k ∧ Lv W k p = none ∧ p < W.length ∧ endsIn (Lv W k) (road W p) k = true
  | 0, p, k, h => by cases h
  | c + 1, p, k, h => by
    have h0 := h
    unfold Lv at h
    split at h
    · rename_i z
      cases h
      exact ⟨h0, z.1, z.2⟩
    · exact lv_at h
theorem lv_find {c p : Nat} (h : Lv W (c + 1) p = none) (hp : p < W.length) : endsIn (Lv W c) (road W p) c = false := by
  cases e : endsIn (Lv W c) (road W p) c with
  | false => rfl
  | true =>
    unfold Lv at h
    split at h
    · cases h
    · rename_i z
      exact absurd ⟨h, hp, e⟩ z
theorem won_iff {o : Option Nat} : wonO o = true ↔ ∃ j, o = some j ∧ j % 2 = 1 := by
  cases o with
  | none => simp [wonO]
  | some k => simp [wonO]
theorem in_even {K : Nat → Option Nat} {r : List Nat} {c : Nat} (h : c % 2 = 0) : endsIn K r c = true ↔ ∀ q ∈ r, ∃ j, K q = some j ∧ j % 2 = 1 := by
  unfold endsIn
  rw [if_neg (by omega), List.all_eq_true]
  exact ⟨fun h q hq => won_iff.mp (h q hq), fun h q hq => won_iff.mpr (h q hq)⟩
theorem in_odd {K : Nat → Option Nat} {r : List Nat} {c : Nat} (h : c % 2 = 1) : endsIn K r c = true ↔ ∃ q ∈ r, K q = some (c - 1) := by
  unfold endsIn
  rw [if_pos h, List.any_eq_true]
  simp
/-- nothing found at c -/
def Emp (W : List (List Nat)) (c : Nat) : Prop := ∀ p, Lv W (c + 1) p = Lv W c p
theorem emp_succ {c : Nat} (h : Emp W c) : Emp W (c + 1) := fun p => by
  cases e : Lv W (c + 1) p with
  | some k => exact lv_up1 e
  | none =>
    cases e2 : Lv W (c + 1 + 1) p with
    | none => rfl
    | some k =>
      exfalso
      obtain ⟨h1, h2, h3, h4⟩ := lv_at e2
      have hk : k = c + 1 := by
        have := lv_lt e2
        rcases Nat.lt_or_ge k (c + 1) with z | z
        · rw [lv_mono h1 (by omega)] at e; cases e
        · omega
      subst hk
      rcases Nat.mod_two_eq_zero_or_one c with hc | hc
      · -- c even: some road has c
        obtain ⟨q, hq, e3⟩ := (in_odd (by omega)).mp h4
        rw [h q] at e3
        have := lv_lt e3
        omega
      · -- c odd: all roads were won before
        have h5 := (in_even (by omega)).mp h4
        obtain ⟨d, rfl⟩ : ∃ d, c = d + 1 := ⟨c - 1, by omega⟩
        have h6 : endsIn (Lv W d) (road W p) d = true := (in_even (by omega)).mpr fun q hq => by
          obtain ⟨j, e3, hj⟩ := h5 q hq
          rw [h q] at e3
          have := lv_lt e3
          obtain ⟨a, b, _⟩ := lv_at e3
          exact ⟨j, lv_mono a (by omega), hj⟩
        have := lv_find (lv_none h2 (show d + 1 ≤ d + 1 + 1 by omega)) h3
        rw [h6] at this
        cases this
theorem emp_all {c : Nat} (h : Emp W c) : ∀ d, Emp W (c + d)
  | 0 => h
  | d + 1 => emp_succ (emp_all h d)
theorem emp_same {c : Nat} (h : Emp W c) {d : Nat} (hd : c ≤ d) (p : Nat) : Lv W d p = Lv W c p := by
  obtain ⟨e, rfl⟩ := Nat.exists_eq_add_of_le hd
  clear hd
  induction e with
  | zero => rfl
  | succ e ih => rw [← ih]; exact emp_all h e p
/-- counts below n all found something, or one of them nothing -/
def knownN (W : List (List Nat)) (c : Nat) : Nat := ((List.range W.length).filter fun p => (Lv W c p).isSome).length
theorem known_le (c : Nat) : knownN W c ≤ W.length := by
  have := List.length_filter_le (fun p => (Lv W c p).isSome) (List.range W.length)
  unfold knownN
  simpa using this
theorem fil_lt {α : Type} {p q : α → Bool} : ∀ {l : List α}, (∀ x ∈ l, p x = true → q x = true) → (∃ x ∈ l, p x = false ∧ q x = true) → (l.filter p).length < (l.filter q).length
  | [], _, h => by obtain ⟨x, hx, _⟩ := h; cases hx
  | a :: l, h, h2 => by
    have hle : ∀ l' : List α, (∀ x ∈ l', p x = true → q x = true) → (l'.filter p).length ≤ (l'.filter q).length := fun l' => by
      induction l' with
      | nil => intro _; simp
      | cons b l' ih =>
        intro hb
        have := ih fun x hx => hb x (by simp [hx])
        cases e1 : p b with
        | true => rw [List.filter_cons_of_pos e1, List.filter_cons_of_pos (hb b (by simp) e1)]; simpa using this
        | false =>
          rw [List.filter_cons_of_neg (by rw [e1]; simp)]
          cases e2 : q b with
          | true => rw [List.filter_cons_of_pos e2, List.length_cons]; omega
          | false => rw [List.filter_cons_of_neg (by rw [e2]; simp)]; exact this
    obtain ⟨x, hx, e1, e2⟩ := h2
    have hl := hle l fun y hy => h y (by simp [hy])
    rcases List.mem_cons.mp hx with rfl | hx
    · rw [List.filter_cons_of_neg (by rw [e1]; simp), List.filter_cons_of_pos e2, List.length_cons]
      omega
    · have ih := fil_lt (p := p) (q := q) (l := l) (fun y hy => h y (by simp [hy])) ⟨x, hx, e1, e2⟩
      cases e1 : p a with
      | true => rw [List.filter_cons_of_pos e1, List.filter_cons_of_pos (h a (by simp) e1)]; simpa using ih
      | false =>
        rw [List.filter_cons_of_neg (by rw [e1]; simp)]
        cases e2 : q a with
        | true => rw [List.filter_cons_of_pos e2, List.length_cons]; omega
        | false => rw [List.filter_cons_of_neg (by rw [e2]; simp)]; exact ih
theorem known_up {c : Nat} (h : ¬ Emp W c) : knownN W c < knownN W (c + 1) := by
  have : ∃ p, Lv W (c + 1) p ≠ Lv W c p := Classical.not_forall.mp h
  obtain ⟨p, hp⟩ := this
  have e : Lv W c p = none := by
    cases e : Lv W c p with
    | none => rfl
    | some k => exact absurd ((lv_up1 e).trans e.symm) hp
  rw [e] at hp
  obtain ⟨k, e2⟩ := Option.ne_none_iff_exists'.mp hp
  have hl := (lv_at e2).2.2.1
  refine fil_lt (fun x hx hx2 => ?_) ⟨p, by simpa using hl, by simp [e], by simp [e2]⟩
  obtain ⟨k, e3⟩ := Option.isSome_iff_exists.mp hx2
  simp [lv_up1 e3]
theorem known_ge : ∀ c, (∀ d, d < c → ¬ Emp W d) → c ≤ knownN W c
  | 0, _ => Nat.zero_le _
  | c + 1, h => by
    have := known_ge c fun d hd => h d (by omega)
    have := known_up (h c (by omega))
    omega
theorem emp_n : Emp W W.length := by
  by_cases h : ∃ d, d < W.length ∧ Emp W d
  · obtain ⟨d, hd, he⟩ := h
    have := emp_all he (W.length - d)
    rwa [Nat.add_sub_cancel' (by omega)] at this
  · refine Classical.byContradiction fun hn => ?_
    have := known_ge (W := W) (W.length + 1) fun d hd => by
      rcases Nat.lt_or_ge d W.length with z | z
      · exact fun he => h ⟨d, z, he⟩
      · rw [show d = W.length by omega]; exact hn
    have := known_le (W := W) (W.length + 1)
    omega
/-- the ends -/
def Kn (W : List (List Nat)) (p : Nat) : Option Nat := Lv W W.length p
theorem kn_of {c p k : Nat} (h : Lv W c p = some k) : Kn W p = some k := by
  rcases Nat.le_total c W.length with z | z
  · exact lv_mono h z
  · unfold Kn; rw [← emp_same emp_n z p]; exact h
theorem kn_lt {p k : Nat} (h : Kn W p = some k) : k < W.length := lv_lt h
theorem kn_in {p k : Nat} (h : Kn W p = some k) : p < W.length := (lv_at h).2.2.1
theorem kn_even {p k : Nat} (h : Kn W p = some k) (hk : k % 2 = 0) : (∀ q ∈ road W p, ∃ j, Kn W q = some j ∧ j % 2 = 1 ∧ j < k) ∧ (k = 0 ∨ ∃ q ∈ road W p, Kn W q = some (k - 1)) := by
  obtain ⟨h1, h2, h3, h4⟩ := lv_at h
  have h5 := (in_even hk).mp h4
  refine ⟨fun q hq => ?_, ?_⟩
  · obtain ⟨j, e, hj⟩ := h5 q hq
    exact ⟨j, kn_of e, hj, lv_lt e⟩
  · rcases Nat.eq_zero_or_pos k with z | z
    · exact .inl z
    · refine .inr (Classical.byContradiction fun hn => ?_)
      obtain ⟨d, rfl⟩ : ∃ d, k = d + 2 := ⟨k - 2, by omega⟩
      have h6 : endsIn (Lv W d) (road W p) d = true := (in_even (by omega)).mpr fun q hq => by
        obtain ⟨j, e, hj⟩ := h5 q hq
        have := lv_lt e
        have hne : j ≠ d + 1 := fun z => hn ⟨q, hq, by rw [kn_of e, z]; rfl⟩
        exact ⟨j, lv_mono (lv_at e).1 (by omega), hj⟩
      have := lv_find (lv_none h2 (show d + 1 ≤ d + 2 by omega)) h3
      rw [h6] at this
      cases this
theorem kn_odd {p k : Nat} (h : Kn W p = some k) (hk : k % 2 = 1) : (∃ q ∈ road W p, Kn W q = some (k - 1)) ∧ ∀ q ∈ road W p, ∀ j, Kn W q = some j → j % 2 = 0 → k - 1 ≤ j := by
  obtain ⟨h1, h2, h3, h4⟩ := lv_at h
  obtain ⟨q, hq, e⟩ := (in_odd hk).mp h4
  refine ⟨⟨q, hq, kn_of e⟩, fun q hq j e hj => Classical.byContradiction fun hn => ?_⟩
  have h6 : endsIn (Lv W (j + 1)) (road W p) (j + 1) = true := (in_odd (by omega)).mpr ⟨q, hq, (lv_at e).1⟩
  have := lv_find (lv_none h2 (show j + 1 + 1 ≤ k by omega)) h3
  rw [h6] at this
  cases this
theorem kn_none {p : Nat} (h : Kn W p = none) (hp : p < W.length) : (∃ q ∈ road W p, wonO (Kn W q) = false) ∧ ∀ q ∈ road W p, ∀ j, Kn W q = some j → j % 2 = 1 := by
  have ha : ∀ m, Lv W m p = none := fun m => by
    cases e : Lv W m p with
    | none => rfl
    | some k => rw [kn_of e] at h; cases h
  refine ⟨Classical.byContradiction fun hn => ?_, fun q hq j e => Classical.byContradiction fun hj => ?_⟩
  · have hw : ∀ q ∈ road W p, wonO (Kn W q) = true := fun q hq => by
      cases e : wonO (Kn W q) with
      | true => rfl
      | false => exact absurd ⟨q, hq, e⟩ hn
    have h6 : endsIn (Lv W (2 * W.length)) (road W p) (2 * W.length) = true := (in_even (by omega)).mpr fun q hq => by
      obtain ⟨j, e, hj⟩ := won_iff.mp (hw q hq)
      exact ⟨j, lv_mono e (by omega), hj⟩
    have := lv_find (c := 2 * W.length) (ha _) hp
    rw [h6] at this
    cases this
  · have h6 : endsIn (Lv W (j + 1)) (road W p) (j + 1) = true := (in_odd (by omega)).mpr ⟨q, hq, (lv_at e).1⟩
    have := lv_find (c := j + 1) (ha _) hp
    rw [h6] at this
    cases this
end G
namespace G
open PySem DL
theorem forL_brk {t : Tg} {g : Sl → Option Out} (Inv : Nat → Sl → Prop) (Post : Sl → Prop) : ∀ (xs : List D) (k : Nat) (s : Sl), (∀ i x s, xs[i]? = some x → Inv (k + i) s → ∃ s1, t.putS x s = some s1 ∧ ((∃ s2, g s1 = some (.nx s2) ∧ Inv (k + i + 1) s2) ∨ ∃ s2, g s1 = some (.bk s2) ∧ Post s2)) → Inv k s → ∃ s', forL t g xs s = some (.nx s') ∧ (Inv (k + xs.length) s' ∨ Post s')
  | [], k, s, h, h0 => ⟨s, rfl, .inl h0⟩
  | x :: xs, k, s, h, h0 => by
    obtain ⟨s1, e1, ⟨s2, e2, i2⟩ | ⟨s2, e2, i2⟩⟩ := h 0 x s rfl h0
    · obtain ⟨s', e3, i3⟩ := forL_brk (t := t) (g := g) Inv Post xs (k + 1) s2 (fun i y s e hi => by
        have := h (i + 1) y s (by simpa using e) (by rw [← Nat.add_assoc, Nat.add_right_comm]; exact hi)
        rw [show k + 1 + i + 1 = k + (i + 1) + 1 by omega]
        exact this) i2
      refine ⟨s', ?_, by rw [List.length_cons, ← Nat.add_assoc, Nat.add_right_comm]; exact i3⟩
      unfold forL
      rw [e1, Option.bind_some, e2, Option.bind_some]
      exact e3
    · refine ⟨s2, ?_, .inr i2⟩
      unfold forL
      rw [e1, Option.bind_some, e2, Option.bind_some]
theorem src_rf {n : Nat} {sl : Sl} {f : Ev → Option D} (h : n ≤ 1000) (e : f (evs sl) = some (.int n)) : fromR (sRange1 f) sl = some (rangeD 0 n, sl) := by
  have e3 : sRange1 f (evs sl) = some (rangeD 0 n) := by
    unfold sRange1
    rw [e, Option.bind_some]
    show (if okI (n : Int) = true then some (rangeD 0 (n : Int).toNat) else none) = some (rangeD 0 n)
    rw [if_pos (okI_nat h), Int.toNat_natCast]
  unfold fromR
  rw [e3]
  rfl
theorem rep_of {f : Ev → Option (List D)} {g : Ev → Option D} {ds : Ev} {x : D} {n : Nat} (h : n ≤ 1000) (e1 : f ds = some [x]) (e2 : g ds = some (.int n)) : lRep f g ds = some (List.replicate n x) := by
  unfold lRep
  rw [e1, Option.bind_some, e2, Option.bind_some]
  have h1 : (-1152921504606846976 : Int) ≤ n := by omega
  have h2 : (n : Int) < 1152921504606846976 := by omega
  simp [h, h1, h2]
theorem for_of {src : Sl → Option (List D × Sl)} {t : Tg} {g : Sl → Option Out} {s s1 : Sl} {xs : List D} {o : Option Out} (e : src s = some (xs, s1)) (e2 : forL t g xs s1 = o) : sFor src t g s = o := by
  unfold sFor
  rw [e, Option.bind_some]
  exact e2
theorem setL_of {i : Nat} {f : Ev → Option (List D)} {sl : Sl} {xs : List D} (e : f (evs sl) = some xs) (h : xs.all flat = true) : sSetL i f sl = some (.nx (sl.set i (some (true, .list xs)))) := by
  unfold sSetL
  rw [e, Option.map_some, if_pos h]
theorem set_of {i : Nat} {f : Ev → Option D} {sl : Sl} {x : D} (e : f (evs sl) = some x) (h : flat x = true) : sSet i f sl = some (.nx (sl.set i (some (false, x)))) := by
  unfold sSet
  rw [e, Option.map_some, if_pos h]
/-! ### the ends -/
def ksOf (W : List (List Nat)) (c : Nat) : List (Option Nat) := (List.range W.length).map (Lv W c)
theorem ks_len (W : List (List Nat)) (c : Nat) : (ksOf W c).length = W.length := by simp [ksOf]
theorem ks_at (W : List (List Nat)) (c p : Nat) : kAt (ksOf W c) p = Lv W c p := by
  unfold kAt ksOf
  rcases Nat.lt_or_ge p W.length with h | h
  · rw [List.getElem?_map, List.getElem?_range h]; rfl
  · rw [List.getElem?_eq_none (by simpa using h)]
    cases e : Lv W c p with
    | none => rfl
    | some k => have := (lv_at e).2.2.1; omega
theorem ks_ext {W : List (List Nat)} {c : Nat} {ks : List (Option Nat)} (hl : ks.length = W.length) (h : ∀ p, p < W.length → kAt ks p = Lv W c p) : ks = ksOf W c := by
  refine List.ext_getElem (by rw [hl, ks_len]) fun p h1 h2 => ?_
  have h3 := h p (by omega)
  have h4 := ks_at W c p
  unfold kAt at h3 h4
  rw [List.getElem?_eq_getElem h1] at h3
  rw [List.getElem?_eq_getElem h2] at h4
  exact h3.trans h4.symm
def setAll (c : Nat) (ks : List (Option Nat)) : List Nat → List (Option Nat)
  | [] => ks
  | p :: ps => setAll c (ks.set p (some c)) ps
theorem setAll_len (c : Nat) : ∀ (ps : List Nat) (ks : List (Option Nat)), (setAll c ks ps).length = ks.length
  | [], _ => rfl
  | p :: ps, ks => by unfold setAll; rw [setAll_len c ps, List.length_set]
theorem setAll_at (c p : Nat) : ∀ (ps : List Nat) (ks : List (Option Nat)), p < ks.length → kAt (setAll c ks ps) p = if p ∈ ps then some c else kAt ks p
  | [], ks, _ => by simp [setAll]
  | q :: ps, ks, h => by
    unfold setAll
    rw [setAll_at c p ps _ (by rw [List.length_set]; exact h)]
    by_cases h1 : p ∈ ps
    · rw [if_pos h1, if_pos (by simp [h1])]
    · rw [if_neg h1]
      by_cases h2 : p = q
      · subst h2
        rw [if_pos (by simp)]
        unfold kAt
        rw [List.getElem?_set_self h]
        rfl
      · rw [if_neg (by simp [h1, h2])]
        unfold kAt
        rw [List.getElem?_set_ne (by omega)]
theorem set_loop {w : Option (Bool × D)} {c : Nat} {o3 o5 : Option (Bool × D)} : ∀ (ps : List Nat) (ks : List (Option Nat)) (o4 : Option (Bool × D)), (∀ p ∈ ps, p < ks.length) → ∃ o4', forL (.one 4) b0_ends (ps.map natD) [w, some (true, ksD ks), some (false, .int c), o3, o4, o5] = some (.nx [w, some (true, ksD (setAll c ks ps)), some (false, .int c), o3, o4', o5])
  | [], ks, o4, _ => ⟨o4, rfl⟩
  | p :: ps, ks, o4, h => by
    obtain ⟨o4', e⟩ := set_loop (w := w) (c := c) (o3 := o3) (o5 := o5) ps (ks.set p (some c)) (some (false, natD p)) fun q hq => by
      rw [List.length_set]; exact h q (by simp [hq])
    refine ⟨o4', ?_⟩
    rw [List.map_cons]
    unfold forL
    have hp : p < ks.length := h p (by simp)
    have h1 : b0_ends [w, some (true, ksD ks), some (false, .int c), o3, some (false, natD p), o5] = some (.nx [w, some (true, ksD (ks.set p (some c))), some (false, .int c), o3, some (false, natD p), o5]) := by
      have hi : L2.ixN ks.length (p : Int) = some p := by
        unfold L2.ixN
        rw [if_pos (by omega), if_pos (by omega), Int.toNat_natCast]
      simp [natD, hi, List.map_set]
    show ((some _).bind _) = _
    rw [Option.bind_some]
    show ((b0_ends [w, some (true, ksD ks), some (false, .int c), o3, some (false, natD p), o5]).bind _) = _
    rw [h1]
    exact e
theorem enum_web (W : List (List Nat)) : enumD (W.map rowD) = (List.range W.length).map fun (i : Nat) => PyData.tuple [.int i, rowD (road W i)] := by
  unfold enumD
  refine List.ext_getElem (by simp) fun i h1 h2 => ?_
  have hi : i < W.length := by simpa using h1
  simp [road, List.getElem?_eq_getElem hi]
theorem road_ok (h : WebOk W) (p : Nat) : RowOk W.length (road W p) := by
  unfold road
  cases e : W[p]? with
  | none => exact ⟨.nil, by simp⟩
  | some r => exact h.rows r (List.mem_of_getElem? e)
theorem road_len (h : WebOk W) (p : Nat) : (road W p).length ≤ 60 := by
  have h1 := road_ok h p
  have := rise_len (k := 0) (i := W.length) h1.up (fun y hy => ⟨Nat.zero_le _, h1.lt y hy⟩) (Nat.zero_le _)
  have := h.most
  omega
theorem vis3 {w k c o4 o5 : Option (Bool × D)} {xs : List D} (hk : True) : fromE [3] (sSeqOf (xVar 3)) [w, k, c, some (true, .list xs), o4, o5] = some (xs, [w, k, c, some (false, .list xs), o4, o5]) := by
  cases w <;> cases k <;> cases c <;> cases o4 <;> cases o5 <;> simp
theorem ends_body (h : WebOk W) {c : Nat} (hc : c < W.length) {o3 o4 o5 : Option (Bool × D)} : ∃ o3' o4' o5', b1_ends [some (false, webD W), some (true, ksD (ksOf W c)), some (false, .int c), o3, o4, o5] = some (.nx [some (false, webD W), some (true, ksD (ksOf W (c + 1))), some (false, .int c), o3', o4', o5']) ∨ Emp W c ∧ b1_ends [some (false, webD W), some (true, ksD (ksOf W c)), some (false, .int c), o3, o4, o5] = some (.bk [some (false, webD W), some (true, ksD (ksOf W (c + 1))), some (false, .int c), o3', o4', o5']) := by
  let p : Nat → Bool := fun i => (Lv W c i).isNone && endsIn (Lv W c) (road W i) c
  have hlen : W.length ≤ 1000 := by have := h.most; omega
  have hcomp : lComp (sEnum (xVar 0)) (.two 4 5) (bAnd (bOf (x1 (fun d => some (.bool (isN d))) (x2 oIx (xVar 1) (xVar 4)))) (bTru (xCall (mD m_ends_in) (aCons (xVar 5) (aCons (xVar 1) (aCons (xVar 2) aNil)))))) (xVar 4) (evs [some (false, webD W), some (true, ksD (ksOf W c)), some (false, .int c), o3, o4, o5]) = some (((List.range W.length).filter p).map natD) := by
    refine comp_of (xs := (List.range W.length).map fun (i : Nat) => PyData.tuple [.int i, rowD (road W i)]) ?_ (by simpa using hlen) (comp_fil _ natD p _ fun i hi => ⟨_, rfl, ?_, fun _ => rfl⟩)
    · rw [← enum_web]; rfl
    · have hi' : i < (ksOf W c).length := by rw [ks_len]; simpa using hi
      have h1 := at_ks hi'
      rw [ks_at] at h1
      have h2 := r_ends_in (ks := ksOf W c) (r := road W i) (c := c) (fun x hx => by rw [ks_len]; exact (road_ok h i).lt x hx) (by have := road_len h i; omega)
      rw [show kAt (ksOf W c) = Lv W c from funext (ks_at W c)] at h2
      show _ = some ((Lv W c i).isNone && endsIn (Lv W c) (road W i) c)
      cases hv : Lv W c i with
      | none =>
        rw [hv] at h1
        simp [h1, h2]
      | some k =>
        rw [hv] at h1
        simp [h1]
  have hmem : ∀ q, q ∈ (List.range W.length).filter p ↔ Lv W c q = none ∧ q < W.length ∧ endsIn (Lv W c) (road W q) c = true := fun q => by
    simp [p]
    constructor
    · rintro ⟨a, b, c⟩; exact ⟨b, a, c⟩
    · rintro ⟨a, b, c⟩; exact ⟨b, a, c⟩
  have hnew : setAll c (ksOf W c) ((List.range W.length).filter p) = ksOf W (c + 1) := by
    refine ks_ext (by rw [setAll_len, ks_len]) fun q hq => ?_
    rw [setAll_at c q _ _ (by rw [ks_len]; exact hq), ks_at]
    show _ = if _ then _ else _
    by_cases hq2 : q ∈ (List.range W.length).filter p
    · rw [if_pos hq2, if_pos ((hmem q).mp hq2)]
    · rw [if_neg hq2, if_neg (fun z => hq2 ((hmem q).mpr z))]
  generalize hfs : (List.range W.length).filter p = fs at *
  obtain ⟨o4', e4⟩ := set_loop (w := some (false, webD W)) (c := c) (o3 := some (false, .list (fs.map natD))) (o5 := o5) fs (ksOf W c) o4 fun q hq => by
    rw [ks_len]; exact ((hmem q).mp hq).2.1
  rw [hnew] at e4
  have hrun : ∀ r, sIf (bNot (bTru (xVar 3))) sBreak sNil [some (false, webD W), some (true, ksD (ksOf W (c + 1))), some (false, .int c), some (false, .list (fs.map natD)), o4', o5] = r → b1_ends [some (false, webD W), some (true, ksD (ksOf W c)), some (false, .int c), o3, o4, o5] = r := fun r hr => by
    refine (seq_nx (s' := [some (false, webD W), some (true, ksD (ksOf W c)), some (false, .int c), some (true, .list (fs.map natD)), o4, o5]) ?_).trans ((seq_nx (s' := [some (false, webD W), some (true, ksD (ksOf W (c + 1))), some (false, .int c), some (false, .list (fs.map natD)), o4', o5]) ?_).trans hr)
    · exact setL_of hcomp (flat_nats fs)
    · exact for_of (vis3 trivial) e4
  refine ⟨some (false, .list (fs.map natD)), o4', o5, ?_⟩
  by_cases hf : fs = []
  · refine .inr ⟨fun q => ?_, hrun _ ?_⟩
    · show (if _ then _ else _) = _
      exact if_neg fun z => by
        have := (hmem q).mpr z
        rw [hf] at this
        cases this
    · exact (if_t (by simp [hf])).trans rfl
  · refine .inl (hrun _ ?_)
    exact (if_f (by simp [hf])).trans rfl
theorem r_ends (h : WebOk W) : m_ends [webD W] = some (.l ((List.range W.length).map fun p => optD (Kn W p))) := by
  unfold m_ends
  refine run_rl rfl ?_
  have hlen : W.length ≤ 1000 := by have := h.most; omega
  have hL : xCall (on1 oLen) (aCons (xVar 0) aNil) (evs [some (false, webD W), some (true, ksD (ksOf W 0)), none, none, none, none]) = some (.int W.length) := by
    simp [webD]
  have hL0 : xCall (on1 oLen) (aCons (xVar 0) aNil) (evs [some (false, webD W), none, none, none, none, none]) = some (.int W.length) := by
    simp [webD]
  obtain ⟨s', e, hs⟩ := forL_brk (t := .one 2) (g := b1_ends) (fun i s => i ≤ W.length ∧ ∃ o2 o3 o4 o5, s = [some (false, webD W), some (true, ksD (ksOf W i)), o2, o3, o4, o5]) (fun s => ∃ c, c < W.length ∧ Emp W c ∧ ∃ o2 o3 o4 o5, s = [some (false, webD W), some (true, ksD (ksOf W (c + 1))), o2, o3, o4, o5]) (rangeD 0 W.length) 0 [some (false, webD W), some (true, ksD (ksOf W 0)), none, none, none, none] (by
    rintro i x s hx ⟨hi, o2, o3, o4, o5, rfl⟩
    obtain ⟨hl, rfl⟩ := range_get hx
    rw [Nat.zero_add, Int.zero_add] at *
    refine ⟨_, rfl, ?_⟩
    obtain ⟨o3', o4', o5', e | ⟨he, e⟩⟩ := ends_body h hl (o3 := o3) (o4 := o4) (o5 := o5)
    · exact .inl ⟨_, e, hl, _, _, _, _, rfl⟩
    · exact .inr ⟨_, e, i, hl, he, _, _, _, _, rfl⟩) ⟨Nat.zero_le _, _, _, _, _, rfl⟩
  have hend : ∃ o2 o3 o4 o5, s' = [some (false, webD W), some (true, ksD (ksOf W W.length)), o2, o3, o4, o5] := by
    rcases hs with ⟨_, o2, o3, o4, o5, rfl⟩ | ⟨c, hc, he, o2, o3, o4, o5, rfl⟩
    · rw [range_len, Nat.zero_add]; exact ⟨_, _, _, _, rfl⟩
    · have : ksOf W (c + 1) = ksOf W W.length := by
        unfold ksOf
        refine List.map_congr_left fun p _ => ?_
        rw [emp_same he (show c ≤ c + 1 by omega), emp_same he (show c ≤ W.length by omega)]
      rw [this]
      exact ⟨_, _, _, _, rfl⟩
  obtain ⟨o2, o3, o4, o5, rfl⟩ := hend
  refine (seq_nx (s' := [some (false, webD W), none, none, none, none, none]) ?_).trans ?_
  · simp [r_check_web h]
  refine (seq_nx (s' := [some (false, webD W), some (true, ksD (ksOf W 0)), none, none, none, none]) ?_).trans ?_
  · have : ksD (ksOf W 0) = .list (List.replicate W.length .none) := by
      unfold ksD ksOf
      congr 1
      refine List.ext_getElem (by simp) fun i h1 h2 => ?_
      simp [Lv]
    rw [this]
    exact setL_of (rep_of hlen (by simp) hL0) (by simp)
  refine (seq_nx (s' := [some (false, webD W), some (true, ksD (ksOf W W.length)), o2, o3, o4, o5]) ?_).trans ?_
  · exact for_of (src_rf hlen hL) e
  · show some (Out.rl ((ksOf W W.length).map optD)) = _
    unfold ksOf
    rw [List.map_map]
    rfl
end G
namespace G
open PySem DL
theorem rowD_ints (r : List Nat) : rowD r = .list ((r.map fun (n : Nat) => (n : Int)).map .int) := by
  unfold rowD
  rw [List.map_map]
  rfl
@[simp] theorem shaped_row (r : List Nat) : SeqAt.shaped (rowD r) = true := by rw [rowD_ints]; exact shaped_ints _
@[simp] theorem eqv_row_nil (r : List Nat) : PyData.eqv (rowD r) (.list []) = decide (r = []) := by
  rw [rowD_ints, eqv_nil_ints]
  simp
theorem at_web {W : List (List Nat)} {p : Nat} (h : p < W.length) : L2.atI (W.map rowD) (p : Int) = some (rowD (road W p)) := by
  refine at_nat ?_
  unfold road
  rw [List.getElem?_map, List.getElem?_eq_getElem h]
  rfl
/-! ### the least and the greatest of pairs -/
theorem pairs_map {α : Type} (f : α → Int × Int) : ∀ l : List α, pairsI (l.map fun x => pD (f x)) = some (l.map f)
  | [] => rfl
  | a :: l => by
    rw [List.map_cons]
    unfold pairsI
    rw [pairs_map f l]
    rfl
theorem minP_ok : ∀ (l : List (Int × Int)) (m : Int × Int), (minP m l ∈ m :: l) ∧ ∀ q ∈ m :: l, (minP m l).1 ≤ q.1
  | [], m => by simp [minP]
  | p :: l, m => by
    unfold minP
    obtain ⟨h1, h2⟩ := minP_ok l (if ltP p m then p else m)
    generalize minP (if ltP p m then p else m) l = z at *
    have hc : (if ltP p m = true then p else m).1 ≤ p.1 ∧ (if ltP p m = true then p else m).1 ≤ m.1 ∧ ((if ltP p m = true then p else m) = p ∨ (if ltP p m = true then p else m) = m) := by
      by_cases h : ltP p m = true
      · rw [if_pos h]
        unfold ltP at h
        simp at h
        refine ⟨Int.le_refl _, ?_, .inl rfl⟩
        omega
      · rw [if_neg h]
        unfold ltP at h
        simp at h
        refine ⟨?_, Int.le_refl _, .inr rfl⟩
        omega
    obtain ⟨c1, c2, c3⟩ := hc
    have h3 := h2 _ (List.mem_cons_self ..)
    refine ⟨?_, fun q hq => ?_⟩
    · rcases List.mem_cons.mp h1 with h1 | h1
      · rw [h1]
        rcases c3 with c3 | c3 <;> rw [c3] <;> simp
      · simp [h1]
    · rcases List.mem_cons.mp hq with rfl | hq
      · omega
      · rcases List.mem_cons.mp hq with rfl | hq
        · omega
        · exact h2 q (by simp [hq])
theorem maxP_ok : ∀ (l : List (Int × Int)) (m : Int × Int), (maxP m l ∈ m :: l) ∧ ∀ q ∈ m :: l, q.1 ≤ (maxP m l).1
  | [], m => by simp [maxP]
  | p :: l, m => by
    unfold maxP
    obtain ⟨h1, h2⟩ := maxP_ok l (if ltP m p then p else m)
    generalize maxP (if ltP m p then p else m) l = z at *
    have hc : p.1 ≤ (if ltP m p = true then p else m).1 ∧ m.1 ≤ (if ltP m p = true then p else m).1 ∧ ((if ltP m p = true then p else m) = p ∨ (if ltP m p = true then p else m) = m) := by
      by_cases h : ltP m p = true
      · rw [if_pos h]
        unfold ltP at h
        simp at h
        refine ⟨Int.le_refl _, ?_, .inl rfl⟩
        omega
      · rw [if_neg h]
        unfold ltP at h
        simp at h
        refine ⟨?_, Int.le_refl _, .inr rfl⟩
        omega
    obtain ⟨c1, c2, c3⟩ := hc
    have h3 := h2 _ (List.mem_cons_self ..)
    refine ⟨?_, fun q hq => ?_⟩
    · rcases List.mem_cons.mp h1 with h1 | h1
      · rw [h1]
        rcases c3 with c3 | c3 <;> rw [c3] <;> simp
      · simp [h1]
    · rcases List.mem_cons.mp hq with rfl | hq
      · omega
      · rcases List.mem_cons.mp hq with rfl | hq
        · omega
        · exact h2 q (by simp [hq])
theorem min_of {α : Type} (f : α → Int × Int) {l : List α} (h : l ≠ []) : ∃ q ∈ l, oMinT (.list (l.map fun x => pD (f x))) = some (pD (f q)) ∧ ∀ o ∈ l, (f q).1 ≤ (f o).1 := by
  cases l with
  | nil => exact absurd rfl h
  | cons a l =>
    obtain ⟨h1, h2⟩ := minP_ok (l.map f) (f a)
    rw [← List.map_cons] at h1 h2
    obtain ⟨q, hq, e⟩ := List.mem_map.mp h1
    refine ⟨q, hq, ?_, fun o ho => ?_⟩
    · unfold oMinT
      show ((pairsI ((a :: l).map fun x => pD (f x))).bind _) = _
      rw [pairs_map f (a :: l), e]
      rfl
    · rw [e]; exact h2 _ (List.mem_map.mpr ⟨o, ho, rfl⟩)
theorem max_of {α : Type} (f : α → Int × Int) {l : List α} (h : l ≠ []) : ∃ q ∈ l, oMaxT (.list (l.map fun x => pD (f x))) = some (pD (f q)) ∧ ∀ o ∈ l, (f o).1 ≤ (f q).1 := by
  cases l with
  | nil => exact absurd rfl h
  | cons a l =>
    obtain ⟨h1, h2⟩ := maxP_ok (l.map f) (f a)
    rw [← List.map_cons] at h1 h2
    obtain ⟨q, hq, e⟩ := List.mem_map.mp h1
    refine ⟨q, hq, ?_, fun o ho => ?_⟩
    · unfold oMaxT
      show ((pairsI ((a :: l).map fun x => pD (f x))).bind _) = _
      rw [pairs_map f (a :: l), e]
      rfl
    · rw [e]; exact h2 _ (List.mem_map.mpr ⟨o, ho, rfl⟩)
/-! ### pushed on -/
variable {W : List (List Nat)}
abbrev foundD (W : List (List Nat)) : D := .list ((List.range W.length).map fun p => optD (Kn W p))
theorem at_found {p : Nat} (h : p < W.length) : L2.atI ((List.range W.length).map fun p => optD (Kn W p)) (p : Int) = some (optD (Kn W p)) := by
  refine at_nat ?_
  rw [List.getElem?_map, List.getElem?_range h]
  rfl
abbrev pS (W : List (List Nat)) (ns : List Int) (kind : Int) (p m : Nat) (o6 o7 : Option (Bool × D)) : Sl :=
  [some (false, webD W), some (false, foundD W), some (false, .int p), some (false, .list (ns.map .int)), some (false, .int kind), some (false, .int m), o6, o7]
abbrev pC : Ev → Option Bool := bAnd (bOf (x2 oNe (x2 oIx (xVar 0) (xVar 2)) (xLst (lDisp aNil)))) (bOf (x2 oLe (xVar 5) (xCall (on1 oLen) (aCons (xVar 0) aNil))))
theorem pC_f {ns : List Int} {kind : Int} {p m : Nat} {o6 o7 : Option (Bool × D)} (hp : p < W.length) (hr : road W p = []) : pC (evs (pS W ns kind p m o6 o7)) = some false := by
  have h1 := at_web hp
  rw [hr] at h1
  simp [webD, h1]
theorem pC_t {ns : List Int} {kind : Int} {p m : Nat} {o6 o7 : Option (Bool × D)} (hp : p < W.length) (hr : road W p ≠ []) (hm : m ≤ W.length) : pC (evs (pS W ns kind p m o6 o7)) = some true := by
  have h1 := at_web hp
  simp [webD, h1, hr, hm]
def kI (W : List (List Nat)) (o : Nat) : Int := ((Kn W o).getD 0 : Nat)
theorem kI_of {o k : Nat} (h : Kn W o = some k) : kI W o = k := by unfold kI; rw [h]; rfl
def lostB (W : List (List Nat)) (o : Nat) : Bool := (Kn W o).isSome && decide (kI W o % 2 = 0)
theorem lostB_iff {o : Nat} : lostB W o = true ↔ ∃ k, Kn W o = some k ∧ k % 2 = 0 := by
  unfold lostB kI
  cases h : Kn W o with
  | none => simp
  | some k => simp; omega
theorem x2_of {o : D → D → Option D} {f g : Ev → Option D} {ds : Ev} {d e y : D} (e1 : f ds = some d) (e2 : g ds = some e) (e3 : o d e = some y) : x2 o f g ds = some y := by
  unfold x2
  rw [e1, Option.bind_some, e2, Option.bind_some]
  exact e3
theorem cons_of {f : Ev → Option D} {g : Ev → Option (List D)} {ds : Ev} {d : D} {r : List D} (e1 : f ds = some d) (e2 : g ds = some r) : aCons f g ds = some (d :: r) := by
  unfold aCons
  rw [e1, Option.bind_some, e2]
  rfl
theorem call_of {α : Type} {o : List D → Option α} {f : Ev → Option (List D)} {ds : Ev} {as : List D} {y : α} (e1 : f ds = some as) (e2 : o as = some y) : xCall o f ds = some y := by
  unfold xCall
  rw [e1]
  exact e2
theorem mD_of {m : List D → Option Ret} {as : List D} {r : Ret} (e : m as = some r) : mD m as = some r.data := by
  unfold mD
  rw [e]
  rfl
theorem mL_of {m : List D → Option Ret} {as xs : List D} (e : m as = some (.l xs)) : mL m as = some xs := by
  unfold mL
  rw [e]
  rfl
theorem bOf_of {f : Ev → Option D} {ds : Ev} {b : Bool} (e : f ds = some (.bool b)) : bOf f ds = some b := by
  unfold bOf
  rw [e]
  rfl
/-! one push of the first one: to the least of the lost ones -/
theorem sub_lost {ns : List Int} {kind : Int} {p m : Nat} {o6 o7 : Option (Bool × D)} (h : WebOk W) (hp : p < W.length) : lComp (sSeqOf (x2 oIx (xVar 0) (xVar 2))) (.one 7) (bAnd (bOf (x1 (fun d => some (.bool (!isN d))) (x2 oIx (xVar 1) (xVar 7)))) (bOf (x2 oEq (x2 oMod (x2 oIx (xVar 1) (xVar 7)) (xC (.int 2))) (xC (.int 0))))) (xVar 7) (evs (pS W ns kind p m o6 o7)) = some (((road W p).filter (lostB W)).map natD) := by
  have h1 := at_web hp
  have hl := road_len h p
  refine comp_of (xs := (road W p).map natD) ?_ (by rw [List.length_map]; omega) (comp_fil natD natD (lostB W) _ fun x hx => ⟨_, rfl, ?_, fun _ => rfl⟩)
  · show (((seqOf (webD W)).bind fun xs => L2.atI xs (p : Int)).bind _) = _
    show ((L2.atI (W.map rowD) (p : Int)).bind _) = _
    rw [h1]
    rfl
  · have hx2 := at_found ((road_ok h p).lt x hx)
    unfold lostB
    cases hk : Kn W x with
    | none => rw [hk] at hx2; simp [natD, hx2]
    | some k => rw [hk] at hx2; simp [natD, hx2, kI, hk]
theorem sub_pairs {src : Ev → Option D} {ds : Ev} {fs : List Nat} (hs : src ds = some (.list (fs.map natD))) (hd : ds[1]? = some (some (foundD W))) (h8 : ds.length = 8) (hf : ∀ o ∈ fs, o < W.length ∧ ∃ k, Kn W o = some k) (hl : fs.length ≤ 1000) : lComp (sSeqOf src) (.one 7) bYes (xTup (lDisp (aCons (x2 oIx (xVar 1) (xVar 7)) (aCons (xVar 7) aNil)))) ds = some (fs.map fun o => pD (kI W o, (o : Int))) := by
  refine comp_of (xs := fs.map natD) ?_ (by rw [List.length_map]; exact hl) (comp_map natD _ fs fun x hx => ⟨_, rfl, rfl, ?_⟩)
  · unfold sSeqOf
    rw [hs]
    rfl
  · obtain ⟨hx1, k, hk⟩ := hf x hx
    have hx2 := at_found hx1
    rw [hk] at hx2
    have e1 : ((wipeE ds (Tg.one 7).slots).set 7 (some (natD x)))[1]? = some (some (foundD W)) := by
      simp [hd]
    have e7 : ((wipeE ds (Tg.one 7).slots).set 7 (some (natD x)))[7]? = some (some (natD x)) := by
      simp [h8]
    generalize (wipeE ds (Tg.one 7).slots).set 7 (some (natD x)) = ds' at *
    simp [e1, e7, natD, hx2, pD, kI_of hk]
theorem push_first {ns : List Int} {kind : Int} {p m k : Nat} {o6 o7 : Option (Bool × D)} (h : WebOk W) (hp : p < W.length) (hk : Kn W p = some k) (hk2 : k % 2 = 1) (hm : m % 2 = 0) : ∃ q o6', q ∈ road W p ∧ Kn W q = some (k - 1) ∧ b0__law_pushed_on (pS W ns kind p m o6 o7) = some (.nx (pS W ns kind q (m + 1) o6' o7)) := by
  obtain ⟨⟨q0, hq0, e0⟩, hmin⟩ := kn_odd hk hk2
  have hne : (road W p).filter (lostB W) ≠ [] := fun z => by
    have : q0 ∈ (road W p).filter (lostB W) := List.mem_filter.mpr ⟨hq0, lostB_iff.mpr ⟨k - 1, e0, by omega⟩⟩
    rw [z] at this
    cases this
  have hfl := List.length_filter_le (lostB W) (road W p)
  have hrl := road_len h p
  have hmem : ∀ o ∈ (road W p).filter (lostB W), o ∈ road W p ∧ ∃ k, Kn W o = some k ∧ k % 2 = 0 := fun o ho => ⟨(List.mem_filter.mp ho).1, lostB_iff.mp (List.mem_filter.mp ho).2⟩
  obtain ⟨q, hq, e1, h1⟩ := min_of (fun o : Nat => (kI W o, (o : Int))) hne
  obtain ⟨hq1, j, hj, hj2⟩ := hmem q hq
  have hq2 : j = k - 1 := by
    have a := h1 q0 (List.mem_filter.mpr ⟨hq0, lostB_iff.mpr ⟨k - 1, e0, by omega⟩⟩)
    have b := hmin q hq1 j hj hj2
    simp only [kI_of hj, kI_of e0] at a
    omega
  subst hq2
  have hsub := sub_lost (ns := ns) (kind := kind) (m := m) (o6 := o6) (o7 := o7) h hp
  generalize hfs : (road W p).filter (lostB W) = fs at *
  refine ⟨q, some (true, .list (fs.map natD)), hq1, hj, ?_⟩
  have hpairs := sub_pairs (W := W) (src := xVar 6) (ds := evs (pS W ns kind p m (some (true, .list (fs.map natD))) o7)) (fs := fs) rfl rfl rfl (fun o ho => by
    obtain ⟨a, k, b, _⟩ := hmem o ho
    exact ⟨kn_in b, k, b⟩) (by omega)
  refine (seq_nx (s' := pS W ns kind q m (some (true, .list (fs.map natD))) o7) ?_).trans ?_
  · refine (if_t (by simp [even_int, hm])).trans ?_
    refine (seq_nx (s' := pS W ns kind p m (some (true, .list (fs.map natD))) o7) ?_).trans ((seq_nx (s' := pS W ns kind p m (some (true, .list (fs.map natD))) o7) ?_).trans ?_)
    · exact setL_of hsub (flat_nats fs)
    · refine if_f ?_
      have e2 : xVar 6 (evs (pS W ns kind p m (some (true, .list (fs.map natD))) o7)) = some (rowD fs) := rfl
      unfold bOf x2
      rw [e2]
      simp [hne]
    · refine set_of (x := .int q) ?_ rfl
      exact x2_of (call1 (lst_of hpairs) e1) rfl rfl
  · simp

theorem at_row {r : List Nat} {i : Int} (h0 : 0 ≤ i) (h1 : i < r.length) : ∃ q ∈ r, L2.atI (r.map natD) i = some (.int (q : Nat)) := by
  have hlt : i.toNat < r.length := by omega
  refine ⟨r[i.toNat], List.getElem_mem _, at_int h0 ?_⟩
  rw [List.getElem?_map, List.getElem?_eq_getElem hlt]
  rfl
theorem ix_road {ns : List Int} {kind : Int} {p m : Nat} {o6 o7 : Option (Bool × D)} (hp : p < W.length) : x2 oIx (xVar 0) (xVar 2) (evs (pS W ns kind p m o6 o7)) = some (rowD (road W p)) :=
  x2_of (d := webD W) (e := .int p) rfl rfl (at_web hp)
/-- the other one, to the greatest -/
theorem push_great {ns : List Int} {p m k : Nat} {o6 o7 : Option (Bool × D)} (h : WebOk W) (hp : p < W.length) (hk : Kn W p = some k) (hk2 : k % 2 = 0) (hk0 : 0 < k) (hm : m % 2 = 1) : ∃ q, q ∈ road W p ∧ Kn W q = some (k - 1) ∧ b0__law_pushed_on (pS W ns 0 p m o6 o7) = some (.nx (pS W ns 0 q (m + 1) o6 o7)) := by
  obtain ⟨hall, hex⟩ := kn_even hk hk2
  obtain ⟨q0, hq0, e0⟩ : ∃ q ∈ road W p, Kn W q = some (k - 1) := by
    rcases hex with z | z
    · omega
    · exact z
  have hne : road W p ≠ [] := fun z => by rw [z] at hq0; cases hq0
  have hrl := road_len h p
  obtain ⟨q, hq, e1, h1⟩ := max_of (fun o : Nat => (kI W o, (o : Int))) hne
  obtain ⟨j, hj, hj2, hj3⟩ := hall q hq
  have hq2 : j = k - 1 := by
    have a := h1 q0 hq0
    simp only [kI_of hj, kI_of e0] at a
    omega
  subst hq2
  refine ⟨q, hq, hj, ?_⟩
  have hpairs := sub_pairs (W := W) (src := x2 oIx (xVar 0) (xVar 2)) (ds := evs (pS W ns 0 p m o6 o7)) (fs := road W p) (ix_road hp) rfl rfl (fun o ho => by
    obtain ⟨k, b, _⟩ := hall o ho
    exact ⟨kn_in b, k, b⟩) (by omega)
  have hnear : lComp (sSeqOf (x2 oIx (xVar 0) (xVar 2))) (.one 7) bYes (x2 oIx (xVar 1) (xVar 7)) (evs (pS W ns 0 p m o6 o7)) = some ((road W p).map fun o => PyData.int (kI W o)) := by
    refine comp_of (xs := (road W p).map natD) ?_ (by rw [List.length_map]; omega) (comp_map natD _ _ fun x hx => ⟨_, rfl, rfl, ?_⟩)
    · unfold sSeqOf
      rw [ix_road hp]
      rfl
    · obtain ⟨k, b, _⟩ := hall x hx
      have hx2 := at_found (kn_in b)
      rw [b] at hx2
      rw [kI_of b]
      exact x2_of (d := foundD W) (e := .int x) rfl rfl hx2
  have hin : inD .none ((road W p).map fun o => PyData.int (kI W o)) = false := by
    unfold inD
    rw [List.any_map, List.any_eq_false]
    intro x _
    simp [PyData.eqv]
  refine (seq_nx (s' := pS W ns 0 q m o6 o7) ?_).trans ?_
  · refine (if_f (by simp [even_int]; omega)).trans ((if_t (by simp)).trans ?_)
    refine (seq_nx (s' := pS W ns 0 p m o6 o7) ?_).trans ?_
    · refine if_f (bOf_of (x2_of (d := .none) rfl (lst_of hnear) ?_))
      simp [hin]
    · exact set_of (x := .int q) (x2_of (call1 (lst_of hpairs) e1) rfl rfl) rfl
  · simp
/-- the other one, as drawn -/
theorem push_drawn {ns : List Int} {kind : Int} {p m k : Nat} {o6 o7 : Option (Bool × D)} (h : WebOk W) (hp : p < W.length) (hk : Kn W p = some k) (hk2 : k % 2 = 0) (hk0 : 0 < k) (hm : m % 2 = 1) (hkind : kind ≠ 0) : ∃ q j, q ∈ road W p ∧ Kn W q = some j ∧ j < k ∧ j % 2 = 1 ∧ b0__law_pushed_on (pS W ns kind p m o6 o7) = some (.nx (pS W ns kind q (m + 1) o6 o7)) := by
  obtain ⟨hall, hex⟩ := kn_even hk hk2
  obtain ⟨q0, hq0, e0⟩ : ∃ q ∈ road W p, Kn W q = some (k - 1) := by
    rcases hex with z | z
    · omega
    · exact z
  have hpos : 0 < (road W p).length := List.length_pos_of_mem hq0
  have hd := r_draw (cellI ns m) kind (road W p).length (by omega)
  have hd0 := draw_nn (cellI ns m) kind (show (0 : Int) < (road W p).length by omega)
  have hd1 := draw_lt (cellI ns m) kind (show (0 : Int) < (road W p).length by omega)
  have hc := r_cell_at ns m
  obtain ⟨q, hq, eq⟩ := at_row hd0 hd1
  obtain ⟨j, hj, hj2, hj3⟩ := hall q hq
  refine ⟨q, j, hq, hj, hj3, hj2, ?_⟩
  have hlen : xCall (on1 oLen) (aCons (x2 oIx (xVar 0) (xVar 2)) aNil) (evs (pS W ns kind p m o6 o7)) = some (.int (road W p).length) := call1 (ix_road hp) (by simp [rowD])
  refine (seq_nx (s' := pS W ns kind q m o6 o7) ?_).trans ?_
  · refine (if_f (by simp [even_int]; omega)).trans ((if_f (by simp [hkind])).trans ?_)
    refine set_of (x := .int q) (x2_of (ix_road hp) (e := .int (drawI (cellI ns m) kind (road W p).length)) ?_ eq) rfl
    have e1 : aCons (xCall (mD m__law_cell_at) (aCons (xVar 3) (aCons (xVar 5) aNil))) (aCons (xVar 4) (aCons (xCall (on1 oLen) (aCons (x2 oIx (xVar 0) (xVar 2)) aNil)) aNil)) (evs (pS W ns kind p m o6 o7)) = some [.int (cellI ns m), .int kind, .int (road W p).length] := by
      have e2 : xCall (mD m__law_cell_at) (aCons (xVar 3) (aCons (xVar 5) aNil)) (evs (pS W ns kind p m o6 o7)) = some (.int (cellI ns m)) := by
        simp [hc]
      exact cons_of e2 (cons_of rfl (cons_of hlen rfl))
    exact call_of e1 (mD_of hd)
  · simp
theorem push_run {ns : List Int} {kind : Int} {k0 : Nat} (h : WebOk W) (hk0 : k0 < W.length) : ∀ (fuel k p m : Nat) (o6 o7 : Option (Bool × D)), k < fuel → Kn W p = some k → (m + k) % 2 = 1 → m + k ≤ k0 → (kind = 0 → m + k = k0) → ∃ p' m' o6' o7', p' < W.length ∧ sWhile pC b0__law_pushed_on fuel (pS W ns kind p m o6 o7) = some (.nx (pS W ns kind p' m' o6' o7')) ∧ road W p' = [] ∧ m' % 2 = 1 ∧ m' ≤ k0 ∧ (kind = 0 → m' = k0)
  | 0, k, p, m, o6, o7, hf, _, _, _, _ => by omega
  | fuel + 1, k, p, m, o6, o7, hf, hk, hpar, hle, heq => by
    have hp := kn_in hk
    by_cases hr : road W p = []
    · have hk1 : k = 0 := by
        rcases Nat.mod_two_eq_zero_or_one k with z | z
        · rcases (kn_even hk z).2 with y | ⟨q, hq, _⟩
          · exact y
          · rw [hr] at hq; cases hq
        · obtain ⟨q, hq, _⟩ := (kn_odd hk z).1
          rw [hr] at hq; cases hq
      subst hk1
      refine ⟨p, m, o6, o7, hp, ?_, hr, hpar, hle, heq⟩
      unfold sWhile
      rw [pC_f hp hr, Option.bind_some, if_neg Bool.false_ne_true]
    · have hstep : ∃ q j o6' o7', Kn W q = some j ∧ j < k ∧ (m + 1 + j) % 2 = 1 ∧ (kind = 0 → j = k - 1) ∧ b0__law_pushed_on (pS W ns kind p m o6 o7) = some (.nx (pS W ns kind q (m + 1) o6' o7')) := by
        rcases Nat.mod_two_eq_zero_or_one m with hm | hm
        · obtain ⟨q, o6', _, e1, e2⟩ := push_first (ns := ns) (kind := kind) (o6 := o6) (o7 := o7) h hp hk (by omega) hm
          exact ⟨q, k - 1, o6', o7, e1, by omega, by omega, fun _ => rfl, e2⟩
        · have hkp : 0 < k := by
            rcases Nat.eq_zero_or_pos k with z | z
            · subst z
              obtain ⟨q, hq⟩ := List.exists_mem_of_ne_nil _ hr
              obtain ⟨j, _, _, hj⟩ := (kn_even hk rfl).1 q hq
              omega
            · exact z
          by_cases hkd : kind = 0
          · subst hkd
            obtain ⟨q, _, e1, e2⟩ := push_great (ns := ns) (o6 := o6) (o7 := o7) h hp hk (by omega) hkp hm
            exact ⟨q, k - 1, o6, o7, e1, by omega, by omega, fun _ => rfl, e2⟩
          · obtain ⟨q, j, _, e1, hj, hj2, e2⟩ := push_drawn (ns := ns) (o6 := o6) (o7 := o7) h hp hk (by omega) hkp hm hkd
            exact ⟨q, j, o6, o7, e1, hj, by omega, fun z => absurd z hkd, e2⟩
      obtain ⟨q, j, o6', o7', e1, hj, hp2, hz, e2⟩ := hstep
      obtain ⟨p', m', a6, a7, c1, c2, c3⟩ := push_run (ns := ns) (kind := kind) h hk0 fuel j q (m + 1) o6' o7' (by omega) e1 hp2 (by omega) (fun z => by have := heq z; have := hz z; omega)
      refine ⟨p', m', a6, a7, c1, ?_, c3⟩
      unfold sWhile
      rw [pC_t hp hr (by omega), Option.bind_some, if_pos rfl, e2]
      exact c2
theorem r_pushed_on {ns : List Int} {kind : Int} {p k : Nat} (h : WebOk W) (hk : Kn W p = some k) (hk2 : k % 2 = 1) : ∃ m : Nat, m__law_pushed_on [webD W, foundD W, .int p, .list (ns.map .int), .int kind] = some (.d (.int m)) ∧ m % 2 = 1 ∧ m ≤ k ∧ (kind = 0 → m = k) := by
  have h60 := h.most
  have hkl := kn_lt hk
  obtain ⟨p', m', o6, o7, c1, c2, c3, c4, c5, c6⟩ := push_run (ns := ns) (kind := kind) h hkl 100 k p 0 none none (by omega) hk (by omega) (by omega) (by omega)
  refine ⟨m', ?_, c4, c5, c6⟩
  unfold m__law_pushed_on
  refine run_rt rfl ?_
  refine (seq_nx (s' := pS W ns kind p 0 none none) ?_).trans ((seq_nx c2).trans ?_)
  · simp
  · refine ret_of ?_
    have e : bOf (x2 oEq (x2 oIx (xVar 0) (xVar 2)) (xLst (lDisp aNil))) (evs (pS W ns kind p' m' o6 o7)) = some true := by
      refine bOf_of (x2_of (ix_road c1) (e := .list []) (by simp) ?_)
      simp [c3]
    unfold xIf
    rw [e]
    rfl
end G
namespace G
open PySem DL
variable {W : List (List Nat)}
theorem forL_cons {t : Tg} {g : Sl → Option Out} {x : D} {xs : List D} {s s1 s2 : Sl} (e1 : t.putS x s = some s1) (e2 : g s1 = some (.nx s2)) : forL t g (x :: xs) s = forL t g xs s2 := by
  rw [forL, e1, Option.bind_some, e2]
  rfl
theorem flat_opts (l : List Nat) (f : Nat → Option Nat) : (l.map fun p => optD (f p)).all flat = true := by
  rw [List.all_eq_true]
  intro x hx
  obtain ⟨y, _, rfl⟩ := List.mem_map.mp hx
  exact flat_opt _
theorem eqv_ints : ∀ ns : List Int, PyData.eqvAll (ns.map .int) (ns.map .int) = true
  | [] => by simp [PyData.eqvAll]
  | n :: ns => by simp [PyData.eqvAll, eqv_ints ns]
theorem eq_ints (ns : List Int) : oEq (.list (ns.map .int)) (.list (ns.map .int)) = some (.bool true) := by
  simp [PyData.eqv, eqv_ints]
abbrev lS (ns : List Int) (b : Bool) (W : List (List Nat)) (o3 o4 o5 o6 : Option (Bool × D)) : Sl :=
  [some (false, .list (ns.map .int)), some (true, webD W), some (b, foundD W), o3, o4, o5, o6]
theorem kind_body {ns : List Int} {p k : Nat} {kind : Int} {o6 : Option (Bool × D)} (h : WebOk W) (hk : Kn W p = some k) (hk2 : k % 2 = 1) : ∃ o6', b0_law (lS ns false W (some (false, .int p)) (some (false, .int k)) (some (false, .int kind)) o6) = some (.nx (lS ns false W (some (false, .int p)) (some (false, .int k)) (some (false, .int kind)) o6')) := by
  obtain ⟨m, e, h1, h2, _⟩ := r_pushed_on (ns := ns) (kind := kind) h hk hk2
  refine ⟨some (false, .int m), (seq_nx (s' := lS ns false W (some (false, .int p)) (some (false, .int k)) (some (false, .int kind)) (some (false, .int m))) ?_).trans ?_⟩
  · exact set_of (x := .int m) (call_of (cons_of rfl (cons_of rfl (cons_of rfl (cons_of rfl (cons_of rfl rfl))))) (mD_of e)) rfl
  · refine (if_f ?_).trans rfl
    have h3 : ¬ (m % 2 = 0) := by omega
    have h4 : (0 : Int) < m := by omega
    have h5 : (m : Int) ≤ k := by omega
    have h6 : 0 < m := by omega
    simp [even_int, h3, h4, h5, h6, h2]
theorem place_body {ns : List Int} {p : Nat} {o5 o6 : Option (Bool × D)} (h : WebOk W) : ∃ o5' o6', b1_law (lS ns false W (some (false, .int p)) (some (false, optD (Kn W p))) o5 o6) = some (.nx (lS ns false W (some (false, .int p)) (some (false, optD (Kn W p))) o5' o6')) := by
  cases hk : Kn W p with
  | none => exact ⟨o5, o6, (if_f (by simp)).trans rfl⟩
  | some k =>
    by_cases hk2 : k % 2 = 1
    · obtain ⟨m, e, h1, h2, h3⟩ := r_pushed_on (ns := ns) (kind := 0) h hk hk2
      have h4 := h3 rfl
      subst h4
      obtain ⟨a6, e1⟩ := kind_body (ns := ns) (kind := 1) (o6 := o6) h hk hk2
      obtain ⟨b6, e2⟩ := kind_body (ns := ns) (kind := 2) (o6 := a6) h hk hk2
      refine ⟨some (false, .int 2), b6, (if_t (by simp [odd_int, hk2])).trans ?_⟩
      refine (seq_nx (s' := lS ns false W (some (false, .int p)) (some (false, .int m)) o5 o6) ?_).trans ?_
      · refine (if_f (bOf_of (x2_of (call_of (cons_of rfl (cons_of rfl (cons_of rfl (cons_of rfl (cons_of rfl rfl))))) (mD_of e)) (e := .int m) rfl ?_))).trans rfl
        simp
      · refine for_of (xs := [.int 1, .int 2]) (s1 := lS ns false W (some (false, .int p)) (some (false, .int m)) o5 o6) (by simp) ?_
        exact (forL_cons rfl e1).trans ((forL_cons rfl e2).trans rfl)
    · exact ⟨o5, o6, (if_f (by simp [odd_int, hk2])).trans rfl⟩
theorem enum_found : enumD ((List.range W.length).map fun p => optD (Kn W p)) = (List.range W.length).map fun (i : Nat) => PyData.tuple [.int i, optD (Kn W i)] := by
  unfold enumD
  refine List.ext_getElem (by simp) fun i h1 h2 => ?_
  simp
def handW : List (List Nat) := [[], [0], [1], [2], [1, 3]]
theorem hand_ok : WebOk handW := ⟨by decide, by decide, by
  intro r hr
  simp [handW] at hr
  rcases hr with rfl | rfl | rfl | rfl | rfl <;> exact ⟨by decide, by decide⟩⟩
theorem hand_ends : (List.range handW.length).map (fun p => optD (Kn handW p)) = [.int 0, .int 1, .int 2, .int 3, .int 4] := by
  have : (List.range handW.length).map (Kn handW) = [some 0, some 1, some 2, some 3, some 4] := by decide
  have h2 := congrArg (List.map optD) this
  rw [List.map_map] at h2
  exact h2
theorem law_true (ns : List Int) (hns : ns.length ≤ 63) : m_law [.list (ns.map .int)] = some (.d (.bool true)) := by
  have hs := r_size ns 0 30 (by decide)
  have hd0 := draw_nn (cellI ns 0 + 7 * 0) (4 + 0) (show (0 : Int) < 30 by decide)
  have hd1 := draw_lt (cellI ns 0 + 7 * 0) (4 + 0) (show (0 : Int) < 30 by decide)
  obtain ⟨n, hn⟩ : ∃ n : Nat, sizeI ns 0 30 = n := ⟨(sizeI ns 0 30).toNat, by unfold sizeI; omega⟩
  have hn1 : 0 < n ∧ n ≤ 30 := by unfold sizeI at hn; omega
  rw [hn] at hs
  obtain ⟨W, hl, hW, ew⟩ := r_web ns n 0 hn1.1 (by omega) (by decide) (by decide) hns
  have ee := r_ends hW
  have hall : (W.map rowD).all flat = false := by
    have := hW.pos
    cases W with
    | nil => simp at this
    | cons r W => simp [rowD]
  have hgo : ∃ o3 o4 o5 o6, forL (.two 3 4) b1_law (enumD ((List.range W.length).map fun p => optD (Kn W p))) (lS ns false W none none none none) = some (.nx (lS ns false W o3 o4 o5 o6)) := by
    obtain ⟨s', e, o3, o4, o5, o6, rfl⟩ := forL_inv (t := .two 3 4) (g := b1_law) (fun i s => ∃ o3 o4 o5 o6, s = lS ns false W o3 o4 o5 o6) (enumD ((List.range W.length).map fun p => optD (Kn W p))) 0 (lS ns false W none none none none) (by
      rintro i x s hx ⟨o3, o4, o5, o6, rfl⟩
      rw [enum_found, List.getElem?_map] at hx
      obtain ⟨y, hy, rfl⟩ := Option.map_eq_some_iff.mp hx
      obtain ⟨o5', o6', e⟩ := place_body (ns := ns) (p := y) (o5 := o5) (o6 := o6) hW
      exact ⟨_, _, rfl, e, _, _, _, _, rfl⟩) ⟨_, _, _, _, rfl⟩
    exact ⟨o3, o4, o5, o6, e⟩
  obtain ⟨o3, o4, o5, o6, eg⟩ := hgo
  unfold m_law
  refine run_rt rfl ?_
  refine (seq_nx (s' := [some (false, .list (ns.map .int)), some (true, webD W), none, none, none, none, none]) ?_).trans ?_
  · have : xCall (mL m__law_web) (aCons (xVar 0) (aCons (xCall (mD m__law_size) (aCons (xVar 0) (aCons (xC (.int 0)) (aCons (xC (.int 30)) aNil)))) (aCons (xC (.int 0)) aNil))) (evs [some (false, .list (ns.map .int)), none, none, none, none, none, none]) = some (W.map rowD) :=
      call_of (cons_of rfl (cons_of (call_of (cons_of rfl (cons_of rfl (cons_of rfl rfl))) (mD_of hs)) (cons_of rfl rfl))) (mL_of ew)
    show sSetL 1 _ [some (false, .list (ns.map .int)), none, none, none, none, none, none] = _
    unfold sSetL
    rw [this, Option.map_some, if_neg (by rw [hall]; exact Bool.false_ne_true)]
    rfl
  refine (seq_nx (s' := lS ns true W none none none none) ?_).trans ?_
  · exact setL_of (call_of (cons_of rfl rfl) (mL_of ee)) (flat_opts _ _)
  refine (seq_nx (s' := lS ns true W none none none none) ?_).trans ?_
  · refine (if_f ?_).trans rfl
    simp [webD]
  refine (seq_nx (s' := lS ns false W o3 o4 o5 o6) ?_).trans ?_
  · refine for_of (xs := enumD ((List.range W.length).map fun p => optD (Kn W p))) (s1 := lS ns false W none none none none) ?_ eg
    simp [webD]
  · refine ret_of (x2_of (lst_of (call_of (as := [webD handW]) ?_ (mL_of (r_ends hand_ok)))) (e := .list [.int 0, .int 1, .int 2, .int 3, .int 4]) ?_ ?_)
    · simp [webD, handW, rowD, natD]
    · simp
    · rw [hand_ends]
      exact eq_ints [0, 1, 2, 3, 4]
end G
open PySem PySem.W PyProof.Rows
set_option maxRecDepth 100000 in
set_option maxHeartbeats 0 in
theorem PySem.Challenge.cw_stonesround_k06_whole_pushed_on_holds : PySem.Challenge.rw_stonesround_k06_whole_pushed_on.Holds := by
  w_on; o_law; k_head; (case hw => w_witness2)
  k_fill
  refine G.walk (l := PySem.Challenge.rw_stonesround_k06_whole_pushed_on) rfl rfl (fun w h Y => PySem.W.kIn_of Y) ?F G.law_true
  case F =>
    intro w mg fa h KX NG hmg
    refine' G.all_mk KX NG hmg ?c_MOST_PLACES ?z_all ?z_any ?z_bool ?z_enumerate ?z_int ?z_isinstance ?z_len ?z_list ?z_max ?z_min ?z_range ?z_set ?z_sorted ?a0 ?l0 ?c0 ?k0 ?a1 ?l1 ?c1 ?k1 ?a2 ?l2 ?c2 ?k2 ?a3 ?l3 ?c3 ?k3 ?a4 ?l4 ?c4 ?k4 ?a5 ?l5 ?c5 ?k5 ?a6 ?l6 ?c6 ?k6 ?a7 ?l7 ?c7 ?k7 ?a8 ?l8 ?c8 ?k8 ?a9 ?l9 ?c9 ?k9 ?a10 ?l10 ?c10 ?k10 ?a11 ?l11 ?c11 ?k11 ?a12 ?l12 ?c12 ?k12
    (case c_MOST_PLACES => k_is)
    (case z_all => k_is)
    (case z_any => k_is)
    (case z_bool => k_is)
    (case z_enumerate => k_is)
    (case z_int => k_is)
    (case z_isinstance => k_is)
    (case z_len => k_is)
    (case z_list => k_is)
    (case z_max => k_is)
    (case z_min => k_is)
    (case z_range => k_is)
    (case z_set => k_is)
    (case z_sorted => k_is)
    (case a0 => k_is)
    (case l0 => k_is)
    (case c0 => k_is)
    (case k0 => k_is)
    (case a1 => k_is)
    (case l1 => k_is)
    (case c1 => k_is)
    (case k1 => k_is)
    (case a2 => k_is)
    (case l2 => k_is)
    (case c2 => k_is)
    (case k2 => k_is)
    (case a3 => k_is)
    (case l3 => k_is)
    (case c3 => k_is)
    (case k3 => k_is)
    (case a4 => k_is)
    (case l4 => k_is)
    (case c4 => k_is)
    (case k4 => k_is)
    (case a5 => k_is)
    (case l5 => k_is)
    (case c5 => k_is)
    (case k5 => k_is)
    (case a6 => k_is)
    (case l6 => k_is)
    (case c6 => k_is)
    (case k6 => k_is)
    (case a7 => k_is)
    (case l7 => k_is)
    (case c7 => k_is)
    (case k7 => k_is)
    (case a8 => k_is)
    (case l8 => k_is)
    (case c8 => k_is)
    (case k8 => k_is)
    (case a9 => k_is)
    (case l9 => k_is)
    (case c9 => k_is)
    (case k9 => k_is)
    (case a10 => k_is)
    (case l10 => k_is)
    (case c10 => k_is)
    (case k10 => k_is)
    (case a11 => k_is)
    (case l11 => k_is)
    (case c11 => k_is)
    (case k11 => k_is)
    (case a12 => k_is)
    (case l12 => k_is)
    (case c12 => k_is)
    (case k12 => k_is)

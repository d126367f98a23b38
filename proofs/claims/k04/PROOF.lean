import PyProof.Rows.All
import Wide.All
import OpenK.AllK
import Wide.FinOn
import Lean
import PyProof.EqAt
import PyProof.EqKinds
import PyProof.TupleCall
import PySem.Challenge.RW_wordhedge_k04_whole_all_with
set_option Elab.async false
set_option linter.all false
set_option maxRecDepth 100000
namespace L2
open PySem PySem.Spec PyProof.Rows

/-- a key: an int or a str -/
abbrev Key := Sum Int Str
def keyIs : Key → Value → Bool
  | .inl k, v => Value.isInt k v
  | .inr x, v => Value.isStrOf x v
def keyH (w : World) : Key → Int
  | .inl k => hashInt k
  | .inr x => hashStr w x
theorem keyIs_shape : ∀ {k : Key} {v : Value}, keyIs k v = true → (∃ i t, k = Sum.inl i ∧ v = Value.int i t) ∨ (∃ x t, k = Sum.inr x ∧ v = Value.str x t)
  | .inl i, v, h => by
    obtain ⟨t, e⟩ := Value.isInt_shape (k := i) (v := v) h
    exact .inl ⟨i, t, rfl, e⟩
  | .inr x, v, h => by
    obtain ⟨t, e⟩ := Value.isStrOf_shape (x := x) (v := v) h
    exact .inr ⟨x, t, rfl, e⟩
theorem keyIs_int (i : Int) (t : Tok) : keyIs (.inl i) (.int i t) = true := by simp [keyIs, Value.isInt]
theorem keyIs_str (x : Str) (t : Tok) : keyIs (.inr x) (.str x t) = true := by simp [keyIs, Value.isStrOf]
theorem key_ll (a b : Int) : decide ((Sum.inl a : Key) = Sum.inl b) = (a == b) := by
  by_cases e : a = b
  · subst e; simp
  · have h : ¬ (Sum.inl a : Key) = Sum.inl b := fun q => e (Sum.inl.inj q)
    rw [decide_eq_false h]
    exact (beq_eq_false_iff_ne.mpr e).symm
theorem key_rr (a b : Str) : decide ((Sum.inr a : Key) = Sum.inr b) = decide (a = b) := by
  by_cases e : a = b
  · subst e; simp
  · have h : ¬ (Sum.inr a : Key) = Sum.inr b := fun q => e (Sum.inr.inj q)
    rw [decide_eq_false h, decide_eq_false e]
theorem key_lr (a : Int) (b : Str) : decide ((Sum.inl a : Key) = Sum.inr b) = false := decide_eq_false (fun q => nomatch q)
theorem key_rl (a : Str) (b : Int) : decide ((Sum.inr a : Key) = Sum.inl b) = false := decide_eq_false (fun q => nomatch q)

def mixKind (prog : Program) (w : World) : PySem.KeyKind prog w Key where
  is := keyIs
  hash := keyH w
  inj := fun v a b ha hb => by
    rcases keyIs_shape ha with ⟨i, t, rfl, rfl⟩ | ⟨x, t, rfl, rfl⟩
    · rcases keyIs_shape hb with ⟨j, u, rfl, e⟩ | ⟨y, u, rfl, e⟩
      · injection e with e1 _; rw [e1]
      · exact nomatch e
    · rcases keyIs_shape hb with ⟨j, u, rfl, e⟩ | ⟨y, u, rfl, e⟩
      · exact nomatch e
      · injection e with e1 _; rw [e1]
  byValue := fun k v h => by
    rcases keyIs_shape h with ⟨i, t, rfl, rfl⟩ | ⟨x, t, rfl, rfl⟩ <;> rfl
  pyHash := fun hv h => by
    rcases keyIs_shape hv with ⟨i, t, rfl, rfl⟩ | ⟨x, t, rfl, rfl⟩
    · exact wpAny_pyHash_int h
    · exact wpAny_pyHash_str h
  eqBool := fun hu hv h => by
    rcases keyIs_shape hu with ⟨i, t, rfl, rfl⟩ | ⟨x, t, rfl, rfl⟩
    · rcases keyIs_shape hv with ⟨j, u, rfl, rfl⟩ | ⟨y, u, rfl, rfl⟩
      · rw [key_ll] at h; exact wpAny_eqBool_int h
      · rw [key_lr] at h; exact SeqAt.EqAt.int_str i t y u _ _ _ _ h
    · rcases keyIs_shape hv with ⟨j, u, rfl, rfl⟩ | ⟨y, u, rfl, rfl⟩
      · rw [key_rl] at h; exact SeqAt.EqAt.str_int x t j u _ _ _ _ h
      · rw [key_rr] at h; exact wpAny_eqBool_str h
  «strs» := fun k x t v h => by
    rcases keyIs_shape h with ⟨i, u, rfl, e⟩ | ⟨y, u, rfl, e⟩
    · exact nomatch e
    · injection e with e1 _
      subst e1
      cases v <;> rfl

theorem mixKind_is (prog : Program) (w : World) (k : Key) (v : Value) : (mixKind prog w).is k v = keyIs k v := rfl
theorem mixKind_int (prog : Program) (w : World) (i : Int) (t : Tok) : (mixKind prog w).is (.inl i) (.int i t) = true := keyIs_int i t
theorem mixKind_str (prog : Program) (w : World) (x : Str) (t : Tok) : (mixKind prog w).is (.inr x) (.str x t) = true := keyIs_str x t
end L2

namespace L2
open PySem PySem.Spec PyProof.Rows

/-- a value, without the heap -/
inductive V where
  | non | bl (b : Bool) | int (i : Int) | str (x : Str) | byt (b : Array UInt8) | flt (b : UInt64) | ref (a : Addr) | ty (n : String)
  deriving DecidableEq

def RelV : V → Value → Prop
  | .non, u => u = Value.none
  | .bl b, u => u = Value.bool b
  | .int i, u => ∃ t, u = Value.int i t
  | .str x, u => ∃ t, u = Value.str x t
  | .byt b, u => ∃ t, u = Value.bytes b t
  | .flt b, u => ∃ t, u = Value.float b t
  | .ref a, u => u = Value.ref a
  | .ty n, u => u = Value.type n

abbrev Vals : List V → List Value → Prop := Paired RelV
theorem Vals.length {xs : List V} {us : List Value} (r : Vals xs us) : xs.length = us.length := Paired.length r
theorem Vals.get : ∀ {xs : List V} {us : List Value} {i : Nat} {x : V}, Vals xs us → xs[i]? = some x → ∃ u, us[i]? = some u ∧ RelV x u
  | _, _, _, _, .nil, e => by simp at e
  | _, _, 0, _, .cons r _, e => by simp at e; subst e; exact ⟨_, rfl, r⟩
  | _, _, i + 1, x, .cons _ t, e => by
    obtain ⟨u, h1, h2⟩ := Vals.get (i := i) (x := x) t (by simpa using e)
    exact ⟨u, by simpa using h1, h2⟩
theorem Vals.set {x : V} {u : Value} (r : RelV x u) : ∀ {xs : List V} {us : List Value} (i : Nat), Vals xs us → Vals (xs.set i x) (us.set i u)
  | _, _, _, .nil => .nil
  | _, _, 0, .cons _ t => .cons r t
  | _, _, i + 1, .cons q t => .cons q (Vals.set r i t)
theorem Vals.append : ∀ {xs ys : List V} {us ws : List Value}, Vals xs us → Vals ys ws → Vals (xs ++ ys) (us ++ ws)
  | _, _, _, _, .nil, s => s
  | _, _, _, _, .cons r t, s => .cons r (Vals.append t s)
theorem Vals.take : ∀ {xs : List V} {us : List Value} (n : Nat), Vals xs us → Vals (xs.take n) (us.take n)
  | _, _, 0, _ => .nil
  | _, _, _ + 1, .nil => .nil
  | _, _, n + 1, .cons r t => .cons r (Vals.take n t)
theorem Vals.drop : ∀ {xs : List V} {us : List Value} (n : Nat), Vals xs us → Vals (xs.drop n) (us.drop n)
  | _, _, 0, r => r
  | _, _, _ + 1, .nil => .nil
  | _, _, n + 1, .cons _ t => Vals.drop n t
theorem Vals.none_of : ∀ {xs : List V} {us : List Value} {i : Nat}, Vals xs us → xs[i]? = none → us[i]? = none := fun {xs us i} r e => by
  have h1 := r.length
  have h2 : xs.length ≤ i := List.getElem?_eq_none_iff.mp e
  exact List.getElem?_eq_none_iff.mpr (by omega)

def RelO : Option V → Option Value → Prop
  | some v, some u => RelV v u
  | none, none => True
  | _, _ => False
def KV {κ : Type} : List (κ × V) → List (κ × Value) → Prop := Paired fun (p : κ × V) (q : κ × Value) => p.1 = q.1 ∧ RelV p.2 q.2

/-- a key of a dict (00_mix): an int or a text -/
def kV : Key → V
  | .inl i => .int i
  | .inr x => .str x

/-- what stands at a tracked address -/
inductive HO where
  /-- a list -/
  | lst (xs : List V)
  /-- a tuple (never changes) -/
  | tup (xs : List V)
  /-- a dict whose keys are ints and texts; one whose keys are tuples of ints and texts (the empty one is both) -/
  | dK (kvs : List (Key × V)) | dT (kvs : List (List Key × V))
  /-- a set of ints: its members, its size -/
  | set (S : Int → Bool) (n : Nat)
  /-- an instance of the class at C, its dict at dx, its attributes -/
  | ins (C dx : Addr) (fs : List (Str × V))
  /-- the dict of the instance at x -/
  | own (x : Addr)
  /-- the dict of an exception -/
  | xd (fs : List (Str × V))
  /-- a bound method, f of x -/
  | met (f x : Addr)
  /-- a range object lo, lo + 1, .. below hi -/
  | rng (lo hi : Int)
  /-- a thing that is known to the object (the script; a dict while a loop walks it): read, never written while it is so -/
  | frz (o : Obj) (u : HO)
  /-- a code object's table -/
  | tbl (ps : Array Value)
  /-- any other thing, by what is true of its one object (a def of one's own: SetO a S n := HO.ext fun h => ..) -/
  | ext (φ : Heap → Prop)

abbrev Hp := Addr → Option HO
def upd (H : Hp) (a : Addr) (o : HO) : Hp := fun b => if b = a then some o else H b
theorem upd_same {H : Hp} {a : Addr} {o : HO} : upd H a o a = some o := by unfold upd; rw [if_pos rfl]
theorem upd_ne {H : Hp} {a b : Addr} {o : HO} (h : b ≠ a) : upd H a o b = H b := by unfold upd; rw [if_neg h]
theorem upd_upd {H : Hp} {a : Addr} {o u : HO} : upd (upd H a o) a u = upd H a u := by
  funext b; unfold upd; split <;> rfl
/-- two objects of different content stand apart -/
theorem ne_of {H : Hp} {a b : Addr} {o u : HO} (h : H a = some o) (h' : H b = some u) (d : o ≠ u) : a ≠ b := by
  intro e; subst e; rw [h] at h'; exact d (Option.some.inj h')
theorem ne_of_none {H : Hp} {a b : Addr} {o : HO} (h : H a = some o) (h' : H b = none) : a ≠ b := by
  intro e; subst e; rw [h] at h'; cases h'

section
variable (P : Program) (w : World)
def ObjOk (H : Hp) (h : Heap) (a : Addr) : HO → Prop
  | .lst xs => xs.length ≤ sizeLine ∧ ∃ (its : List Value) (n : Nat), Vals xs its ∧ h.get? a = some { cls := .type "list", data := .seq its.toArray n }
  | .tup xs => xs.length ≤ sizeLine ∧ ∃ its : List Value, Vals xs its ∧ IsTup h a its.toArray
  | .dK kvs => kvs.length ≤ sizeLine ∧ (a == sysModules) = false ∧ ∃ vs, KV kvs vs ∧ h.DictOf (mixKind P w) a vs
  | .dT kvs => kvs.length ≤ sizeLine ∧ (a == sysModules) = false ∧ ∃ xs : List (List Key × Addr × Value),
      Paired (fun (p : List Key × V) (q : List Key × Addr × Value) => p.1 = q.1 ∧ H q.2.1 = some (.tup (p.1.map kV)) ∧ RelV p.2 q.2.2) kvs xs ∧
      ∃ o es ep, h.get? a = some o ∧ o.ExactDict ∧ o.data = .dict es ep ∧ es.toList = xs.map (entryOfKey (tupleKind (mixKind P w))) ∧ (xs.map (·.1)).Nodup
  | .set S n => h.SetOf (intKind P w) a S n
  | .ins C dx fs => H dx = some (.own a) ∧ fs.length ≤ 1000 ∧ dx ≠ a ∧ h.get? a = some (PySem.W.instObj C dx) ∧
      ∃ mA, h.Ns1 dx mA ∧ (∀ f, RelO (fs.lookup f) (mA f)) ∧ PySem.Within mA (fs.map (·.1))
  | .own _ => ∃ o, h.get? a = some o
  | .xd fs => ∃ mA, h.Ns1 a mA ∧ ∀ f, RelO (fs.lookup f) (mA f)
  | .rng lo hi => ∃ t u v, h.get? a = some { cls := .type "range", data := .fields #[.int lo t, .int hi u, .int 1 v] }
  | .frz o u => h.get? a = some o ∧ ObjOk H h a u
  | .tbl ps => h.get? a = some { cls := .none, data := .fields ps }
  | .met f x => h.get? a = some (PySem.W.methodObj (.ref f) (.ref x))
  | .ext φ => φ h ∧ (∃ o, h.get? a = some o) ∧ ∀ h1 h2 : Heap, φ h1 → (∀ o, h1.get? a = some o → h2.get? a = some o) → φ h2
/-- the abstract heap is held -/
def HOk (H : Hp) (h : Heap) : Prop := ∀ a o, H a = some o → ObjOk P w H h a o
end

section
variable {P : Program} {w : World} {H H' : Hp} {h h' : Heap} {a : Addr} {o : HO}
theorem ObjOk.lt (x : ObjOk P w H h a o) : a < h.objs.size := by
  cases o with
  | lst xs => obtain ⟨_, _, _, _, e⟩ := x; exact Heap.lt_size e
  | tup xs => obtain ⟨_, _, _, p⟩ := x; exact p.lt
  | dK kvs => obtain ⟨_, _, _, _, o, _, _, e, _⟩ := x; exact Heap.lt_size e
  | dT kvs => obtain ⟨_, _, _, _, o, _, _, e, _⟩ := x; exact Heap.lt_size e
  | set S n => obtain ⟨o, _, _, _, e, _⟩ := x; exact Heap.lt_size e
  | ins C dx fs => obtain ⟨_, _, _, e, _⟩ := x; exact Heap.lt_size e
  | own y => obtain ⟨_, e⟩ := x; exact Heap.lt_size e
  | xd fs => obtain ⟨_, ⟨_, _, _, e, _⟩, _⟩ := x; exact Heap.lt_size e
  | rng lo hi => obtain ⟨_, _, _, e⟩ := x; exact Heap.lt_size e
  | frz ob u => obtain ⟨e, _⟩ := x; exact Heap.lt_size e
  | tbl ps => exact Heap.lt_size (show h.get? a = some _ from x)
  | met f y => exact Heap.lt_size (show h.get? a = some _ from x)
  | ext φ => obtain ⟨_, ⟨_, e⟩, _⟩ := x; exact Heap.lt_size e
theorem Paired.mapP {α β : Type} {F G : α → β → Prop} : ∀ {l₁ : List α} {l₂ : List β}, Paired F l₁ l₂ → (∀ a b, F a b → G a b) → Paired G l₁ l₂
  | _, _, .nil, _ => .nil
  | _, _, .cons r t, f => .cons (f _ _ r) (Paired.mapP t f)
theorem Paired.imp' {α β : Type} {F G : α → β → Prop} (f : ∀ a b, F a b → G a b) {l₁ : List α} {l₂ : List β} (r : Paired F l₁ l₂) : Paired G l₁ l₂ := Paired.mapP r f
/-- what an object's description leans on: its own object, its own dict, the tuples -/
theorem ObjOk.stay (x : ObjOk P w H h a o) (k : ∀ b u, (b = a ∨ H b = some (.own a)) → h.get? b = some u → h'.get? b = some u)
    (ho : ∀ b, H b = some (.own a) → H' b = some (.own a)) (ht : ∀ b xs, H b = some (.tup xs) → H' b = some (.tup xs)) : ObjOk P w H' h' a o := by
  induction o with
  | lst xs => obtain ⟨z, its, n, r, e⟩ := x; exact ⟨z, its, n, r, k _ _ (.inl rfl) e⟩
  | tup xs => obtain ⟨z, its, r, ob, e, c⟩ := x; exact ⟨z, its, r, ob, k _ _ (.inl rfl) e, c⟩
  | dK kvs => obtain ⟨z, y, vs, r, ob, es, ep, e, c⟩ := x; exact ⟨z, y, vs, r, ob, es, ep, k _ _ (.inl rfl) e, c⟩
  | dT kvs =>
    obtain ⟨z, y, xs, r, ob, es, ep, e, c⟩ := x
    exact ⟨z, y, xs, Paired.mapP r fun p q z => ⟨z.1, ht _ _ z.2.1, z.2.2⟩, ob, es, ep, k _ _ (.inl rfl) e, c⟩
  | set S n => obtain ⟨ob, es, ep, t, e, c⟩ := x; exact ⟨ob, es, ep, t, k _ _ (.inl rfl) e, c⟩
  | ins C dx fs =>
    obtain ⟨d, z, ne, e, mA, ⟨od, es, ep, e2, c⟩, r⟩ := x
    exact ⟨ho _ d, z, ne, k _ _ (.inl rfl) e, mA, ⟨od, es, ep, k _ _ (.inr d) e2, c⟩, r⟩
  | own y => obtain ⟨ob, e⟩ := x; exact ⟨ob, k _ _ (.inl rfl) e⟩
  | xd fs => obtain ⟨mA, ⟨od, es, ep, e, c⟩, r⟩ := x; exact ⟨mA, ⟨od, es, ep, k _ _ (.inl rfl) e, c⟩, r⟩
  | rng lo hi => obtain ⟨t, u, v, e⟩ := x; exact ⟨t, u, v, k _ _ (.inl rfl) e⟩
  | frz ob u ih => obtain ⟨e, q⟩ := x; exact ⟨k _ _ (.inl rfl) e, ih q⟩
  | tbl ps =>
    have e : h.get? a = some { cls := .none, data := .fields ps } := x
    show h'.get? a = some { cls := .none, data := .fields ps }
    exact k a _ (.inl rfl) e
  | met f y =>
    have e : h.get? a = some (PySem.W.methodObj (.ref f) (.ref y)) := x
    show h'.get? a = some (PySem.W.methodObj (.ref f) (.ref y))
    exact k a _ (.inl rfl) e
  | ext φ => obtain ⟨p, ⟨o, e⟩, st⟩ := x; exact ⟨st _ _ p fun o q => k _ _ (.inl rfl) q, ⟨o, k _ _ (.inl rfl) e⟩, st⟩
theorem HOk.lt (x : HOk P w H h) (e : H a = some o) : a < h.objs.size := (x a o e).lt
theorem HOk.fresh (x : HOk P w H h) (e : h.objs.size ≤ a) : H a = none := by
  cases q : H a with
  | none => rfl
  | some u => exact absurd (Nat.lt_of_lt_of_le (x.lt q) e) (Nat.lt_irrefl _)
/-- every object of the heap is kept -/
theorem HOk.kept (x : HOk P w H h) (k : ∀ b u, h.get? b = some u → h'.get? b = some u) : HOk P w H h' := fun a o e =>
  (x a o e).stay (fun b u _ q => k b u q) (fun _ q => q) fun _ _ q => q
/-- a new object is laid and tracked -/
theorem HOk.laid (x : HOk P w H h) (k : ∀ b u, h.get? b = some u → h'.get? b = some u) (hp : h.objs.size ≤ a) (new : ObjOk P w (upd H a o) h' a o) : HOk P w (upd H a o) h' := fun b u e => by
  have hn := x.fresh hp
  by_cases hb : b = a
  · subst hb; rw [upd_same] at e; cases e; exact new
  · rw [upd_ne hb] at e
    exact (x b u e).stay (fun c v _ q => k c v q) (fun c q => by rw [upd_ne (ne_of_none q hn)]; exact q) fun c xs q => by rw [upd_ne (ne_of_none q hn)]; exact q
end

/-- what may be read as u: it is u, or a known u -/
def Rd (H : Hp) (a : Addr) (u : HO) : Prop := H a = some u ∨ ∃ o, H a = some (.frz o u)
theorem Rd.of {H : Hp} {a : Addr} {u : HO} (h : H a = some u) : Rd H a u := .inl h
theorem Rd.ok {P : Program} {w : World} {H : Hp} {h : Heap} {a : Addr} {u : HO} (r : Rd H a u) (x : HOk P w H h) : ObjOk P w H h a u := by
  rcases r with r | ⟨o, r⟩
  · exact x a u r
  · obtain ⟨_, q⟩ := x a _ r
    exact q
/-- what may be written -/
def Mut : Option HO → Prop
  | some (.lst _) => True
  | some (.dK _) => True
  | some (.dT _) => True
  | some (.set _ _) => True
  | some (.ins _ _ _) => True
  | some (.ext _) => True
  | _ => False
section
variable {P : Program} {w : World} {H : Hp} {h h' : Heap} {x e : Addr} {o' : HO}
/-- the object at e is changed: x itself, or the dict of the instance x -/
theorem HOk.write (ok : HOk P w H h) (mu : Mut (H x)) (he : e = x ∨ H e = some (.own x)) (k : ∀ b u, b ≠ e → h.get? b = some u → h'.get? b = some u) (heo : ∃ u, h'.get? e = some u)
    (new : ObjOk P w (upd H x o') h' x o') : HOk P w (upd H x o') h' := fun b u q => by
  have nown : ∀ c y, H c = some (.own y) → c ≠ x := fun c y r z => by subst z; rw [r] at mu; exact mu
  have ntup : ∀ c xs, H c = some (.tup xs) → c ≠ x := fun c xs r z => by subst z; rw [r] at mu; exact mu
  by_cases hb : b = x
  · subst hb; rw [upd_same] at q; cases q; exact new
  · rw [upd_ne hb] at q
    by_cases hbe : b = e
    · have q' : H b = some (.own x) := by
        rcases he with z | z
        · exact absurd (hbe.trans z) hb
        · rw [hbe]; exact z
      rw [q] at q'; cases q'
      obtain ⟨v, hv⟩ := heo
      exact ⟨v, by rw [hbe]; exact hv⟩
    · refine (ok b u q).stay (fun c v hc r => k c v ?_ r) (fun c r => by rw [upd_ne (nown c b r)]; exact r) fun c xs r => by rw [upd_ne (ntup c xs r)]; exact r
      rcases hc with rfl | hc
      · exact hbe
      · rintro rfl
        rcases he with z | z
        · exact nown c b hc z
        · rw [hc] at z; cases z; exact hb rfl
end

/-! ### kept unless tracked; of the frames at fs (the callers') the slots may change (an exception that passes writes there); of the records at ex (iterators) nothing is said -/
structure Un (fs ex : List Addr) (H H' : Hp) (h h' : Heap) : Prop where
  keep : ∀ b o, h.get? b = some o → H b = none → b ∉ fs → b ∉ ex → h'.get? b = some o
  slot : ∀ b o, h.get? b = some o → H b = none → b ∈ fs → b ∉ ex → ∃ sl, h'.get? b = some { o with slots := sl }
  free : ∀ b o, h.get? b = some o → H b = none → b ∉ ex → H' b = none
  there : ∀ b o, h.get? b = some o → b ∉ ex → ∃ o', h'.get? b = some o'
  tups : ∀ b xs, H b = some (.tup xs) → H' b = some (.tup xs)
  frzs : ∀ b o u, H b = some (.frz o u) → H' b = some (.frz o u)
  tbls : ∀ b ps, H b = some (.tbl ps) → ∃ more, H' b = some (.tbl (ps ++ more))
section
variable {fs fs' ex ex' : List Addr} {H H1 H2 : Hp} {h h1 h2 h' : Heap} {a x e : Addr} {o : HO}
theorem Un.any (u : Un fs ex H H1 h h1) {b : Addr} {ob : Obj} (q : h.get? b = some ob) (n : H b = none) (hx : b ∉ ex) : ∃ sl, h1.get? b = some { ob with slots := sl } := by
  by_cases hb : b ∈ fs
  · exact u.slot b ob q n hb hx
  · exact ⟨ob.slots, u.keep b ob q n hb hx⟩
theorem Un.trans (a : Un fs ex H H1 h h1) (b : Un fs ex H1 H2 h1 h2) : Un fs ex H H2 h h2 where
  keep := fun c ob q n hc hx => b.keep c ob (a.keep c ob q n hc hx) (a.free c ob q n hx) hc hx
  slot := fun c ob q n hc hx => by
    obtain ⟨sl, e1⟩ := a.slot c ob q n hc hx
    obtain ⟨sl', e2⟩ := b.slot c _ e1 (a.free c ob q n hx) hc hx
    exact ⟨sl', e2⟩
  free := fun c ob q n hx => by
    obtain ⟨o', e1⟩ := a.there c ob q hx
    exact b.free c o' e1 (a.free c ob q n hx) hx
  there := fun c ob q hx => by
    obtain ⟨o', e1⟩ := a.there c ob q hx
    exact b.there c o' e1 hx
  tups := fun c xs q => b.tups c xs (a.tups c xs q)
  frzs := fun c ob xs q => b.frzs c ob xs (a.frzs c ob xs q)
  tbls := fun c ps q => by
    obtain ⟨m1, e1⟩ := a.tbls c ps q
    obtain ⟨m2, e2⟩ := b.tbls c _ e1
    exact ⟨m1 ++ m2, by rw [e2, Array.append_assoc]⟩
theorem Un.kept (k : ∀ b u, h.get? b = some u → h'.get? b = some u) : Un fs ex H H h h' :=
  ⟨fun b ob q _ _ _ => k b ob q, fun b ob q _ _ _ => ⟨ob.slots, k b ob q⟩, fun _ _ _ n _ => n, fun b ob q _ => ⟨ob, k b ob q⟩, fun _ _ q => q, fun _ _ _ q => q, fun _ ps q => ⟨#[], by rw [q]; simp⟩⟩
theorem Un.refl : Un fs ex H H h h := Un.kept fun _ _ q => q
theorem Un.laid (k : ∀ b u, h.get? b = some u → h'.get? b = some u) (hp : h.objs.size ≤ a) (hn : H a = none) : Un fs ex H (upd H a o) h h' where
  keep := fun b u q _ _ _ => k b u q
  slot := fun b u q _ _ _ => ⟨u.slots, k b u q⟩
  free := fun b u q n _ => by rw [upd_ne (Nat.ne_of_lt (Nat.lt_of_lt_of_le (Heap.lt_size q) hp))]; exact n
  there := fun b u q _ => ⟨u, k b u q⟩
  tups := fun b xs q => by rw [upd_ne (ne_of_none q hn)]; exact q
  frzs := fun b u xs q => by rw [upd_ne (ne_of_none q hn)]; exact q
  tbls := fun b ps q => ⟨#[], by rw [upd_ne (ne_of_none q hn), q]; simp⟩
theorem Un.write (mu : Mut (H x)) (he : e = x ∨ H e = some (.own x)) (k : ∀ b u, b ≠ e → h.get? b = some u → h'.get? b = some u) (heo : ∃ u, h'.get? e = some u) : Un fs ex H (upd H x o) h h' := by
  have hx : ∀ b, H b = none → b ≠ x := fun b n z => by subst z; rw [n] at mu; exact mu
  have hb : ∀ b, H b = none → b ≠ e := fun b n z => by
    subst z
    rcases he with r | r
    · exact hx b n r
    · rw [n] at r; cases r
  have hm : ∀ b u, H b = some u → ¬ Mut (some u) → b ≠ x := fun b u q nm z => by subst z; rw [q] at mu; exact nm mu
  refine ⟨fun b u q n _ _ => k b u (hb b n) q, fun b u q n _ _ => ⟨u.slots, k b u (hb b n) q⟩, fun b u q n _ => by rw [upd_ne (hx b n)]; exact n, fun b u q _ => ?_,
    fun b xs q => by rw [upd_ne (hm b _ q fun z => z)]; exact q, fun b u xs q => by rw [upd_ne (hm b _ q fun z => z)]; exact q, fun b ps q => ⟨#[], by rw [upd_ne (hm b _ q fun z => z), q]; simp⟩⟩
  by_cases hbe : b = e
  · subst hbe; exact heo
  · exact ⟨u, k b u hbe q⟩
theorem Un.mono (u : Un fs ex H H1 h h1) (hs : ∀ b ∈ fs, b ∈ fs') (hx : ∀ b ∈ ex, b ∈ ex') : Un fs' ex' H H1 h h1 :=
  ⟨fun b ob q n hb he => u.keep b ob q n (fun z => hb (hs b z)) fun z => he (hx b z), fun _ _ q n _ he => u.any q n fun z => he (hx _ z), fun b ob q n he => u.free b ob q n fun z => he (hx b z), fun b ob q he => u.there b ob q fun z => he (hx b z), u.tups, u.frzs, u.tbls⟩
end

/-! ### the heap without what is tracked -/
def trk (h : Heap) (H : Hp) : List Addr := (List.range h.objs.size).filter fun a => (H a).isSome
def hidT (h : Heap) (H : Hp) : Heap := PySem.W.hideAll h (trk h H)
theorem hidT_size (h : Heap) (H : Hp) : (hidT h H).objs.size = h.objs.size := PySem.W.hideAll_size _ _
theorem hidT_get {h : Heap} {H : Hp} {b : Addr} {o : Obj} (e : h.get? b = some o) (n : H b = none) : (hidT h H).get? b = some o :=
  PySem.W.hideAll_get _ e fun hm => by
    have q : (H b).isSome = true := (List.mem_filter.mp hm).2
    rw [n] at q; simp at q
theorem of_hidT {h : Heap} {H : Hp} {b : Addr} {o : Obj} (e : (hidT h H).get? b = some o) : h.get? b = some o ∧ H b = none := by
  have e' : h.get? b = some o := PySem.W.of_hideAll (trk h H) e
  refine ⟨e', ?_⟩
  cases q : H b with
  | none => rfl
  | some x =>
    have hm : b ∈ trk h H := List.mem_filter.mpr ⟨List.mem_range.mpr (Heap.lt_size e'), by simp [q]⟩
    have z : (hidT h H).get? b = none := PySem.W.hideAll_none (trk h H) hm
    rw [z] at e; cases e

/-! ### OpenK's ledger, filled with every new object but one -/
def allNews (g h : Heap) (L : Addr) : List (Addr × Obj) := (List.range h.objs.size).filterMap fun a => if a = L ∨ (g.get? a).isSome = true then none else (h.get? a).map fun o => (a, o)
theorem mem_allNews {g h : Heap} {L a : Addr} {o : Obj} (h1 : a ≠ L) (h2 : g.get? a = none) (h3 : h.get? a = some o) : (a, o) ∈ allNews g h L :=
  List.mem_filterMap.mpr ⟨a, List.mem_range.mpr (Heap.lt_size h3), by simp [h1, h2, h3]⟩
theorem of_mem_allNews {g h : Heap} {L : Addr} {p : Addr × Obj} (hp : p ∈ allNews g h L) : p.1 ≠ L ∧ g.get? p.1 = none ∧ h.get? p.1 = some p.2 := by
  obtain ⟨b, _, e⟩ := List.mem_filterMap.mp hp
  split at e
  · cases e
  · rename_i hn
    cases q : h.get? b with
    | none => rw [q] at e; simp at e
    | some u =>
      rw [q] at e
      simp only [Option.map_some, Option.some.injEq] at e
      subst e
      refine ⟨fun z => hn (.inl z), ?_, q⟩
      show g.get? b = none
      cases r : g.get? b with
      | none => rfl
      | some v => exact (hn (.inr (by simp [r]))).elim
def rest (g h : Heap) (L d : Addr) : List (Addr × Obj) := (allNews g h L).filter fun p => decide (p.1 ≠ d)
theorem rest_ne {g h : Heap} {L d : Addr} : ∀ p ∈ rest g h L d, p.1 ≠ d := fun p hp => of_decide_eq_true (List.mem_filter.mp hp).2
theorem mem_rest {g h : Heap} {L d a : Addr} {o : Obj} (h1 : a ≠ L) (h2 : g.get? a = none) (h3 : h.get? a = some o) (h4 : a ≠ d) : (a, o) ∈ rest g h L d :=
  List.mem_filter.mpr ⟨mem_allNews h1 h2 h3, decide_eq_true h4⟩
theorem news_all {g h : Heap} {L : Addr} : News g L h (allNews g h L) := fun p hp => let ⟨a, b, c⟩ := of_mem_allNews hp; ⟨c, a, b⟩
theorem news_at {g h : Heap} {L d : Addr} {o : Obj} (h1 : d ≠ L) (h2 : g.get? d = none) (h3 : h.get? d = some o) : News g L h ((d, o) :: rest g h L d) := fun p hp => by
  rcases List.mem_cons.mp hp with rfl | hp
  · exact ⟨h3, h1, h2⟩
  · exact news_all p (List.mem_filter.mp hp).1
/-- behind a rule that changed d alone: all else but the frame is kept -/
theorem kept_of_news {g h h' : Heap} {L d : Addr} {m : Str → Option Value} (k : ∀ b o, g.get? b = some o → h.get? b = some o) (F : Fr g L h' m) (N : News g L h' (rest g h L d)) :
    ∀ b o, b ≠ L → b ≠ d → h.get? b = some o → h'.get? b = some o := fun b o h1 h2 e => by
  cases q : g.get? b with
  | some u =>
    have := k b u q
    rw [e] at this; cases this
    exact F.keep b _ q
  | none => exact (N (b, o) (mem_rest h1 q e h2)).1
end L2

namespace L2
open PySem PySem.Spec PyProof.Rows

/-- the module's facts, over the base: the heap at the law's entry without what is tracked there -/
structure Mod (K : PySem.W.Frag) (mg : Str → Option Value) (base : Heap) : Prop where
  kin : K.In base
  glob : base.Ns mainGlobals mg
  blt : ∃ mb, base.Ns builtinsNs mb ∧ ∀ x : Str, x ≠ "__name__" → mb x = bootBuiltins x
  nolimit : base.NoLimit

/-- the context: a def's body (or a comprehension's block) running. base: fixed through the whole law; s₀, H₀: the entry; outer: the frames whose slots others may change (a def's callers); stack: all frames that run;
   ex: iterators that were made ahead of the entry and are walked here (a comprehension's); fn: the names whose cells were made at the entry (a def: all; a comprehension's block: its own); calm: not within an except suite; pn: pins that every state bears; xe: what is wanted of an exception that leaves the code -/
structure Cx where
  prog : Program
  w : World
  K : PySem.W.Frag
  mg : Str → Option Value
  base : Heap
  A : Around
  N : List Str
  s₀ : Shared
  H₀ : Hp
  env : Env
  outer : List Env
  stack : List Env
  ex : List Addr
  fn : Str → Bool
  calm : Bool
  pn : List (Addr × Obj)
  xe : Value → Shared → Prop
/-- the callers' frames -/
def frs (l : List Env) : List Addr := l.filterMap (·.frame)
abbrev Cx.fs (X : Cx) : List Addr := frs X.outer

def Vis (sc : Scope) (x : Str) : Prop := sc.names.lookup x = some .local ∨ sc.names.lookup x = some .cell ∨ sc.names.lookup x = some .free
def Loc (sc : Scope) (x : Str) : Prop := sc.names.lookup x = some .local ∨ sc.names.lookup x = some .cell
def Look (env : Env) (h : Heap) (m : Str → Option Value) (x : Str) (u : Value) : Prop :=
  (env.kindOf x = some .local ∧ m x = some u) ∨ ((env.kindOf x = some .cell ∨ env.kindOf x = some .free) ∧ ∃ c, env.cells.lookup x = some c ∧ h.IsCell c (some u))

structure Cx.Ok (X : Cx) : Prop where
  mod : Mod X.K X.mg X.base
  kind : X.env.scope.kind = .function
  glob : X.env.globals = mainGlobals
  blt : X.env.builtins = builtinsNs
  above : X.s₀.heap.objs.size ≤ X.env.locals
  inj : ∀ x y c, X.env.cells.lookup x = some c → X.env.cells.lookup y = some c → x = y
  has : ∀ x, (X.env.kindOf x = some .cell ∨ X.env.kindOf x = some .free) → ∃ c, X.env.cells.lookup x = some c
  cab : ∀ x c, X.fn x = true → X.env.cells.lookup x = some c → X.s₀.heap.objs.size ≤ c
  hd : X.calm = true → X.A.handled = none
  frames : X.A.frames = some X.stack
  stk : X.stack = X.outer ∨ (X.stack = X.env :: X.outer ∧ X.env.frame = some X.env.locals)
  exf : ∀ b ∈ X.ex, b ≠ X.env.locals ∧ ∀ x c, X.env.cells.lookup x = some c → c ≠ b
  bs : ∀ b o, X.base.get? b = some o → X.s₀.heap.get? b = some o ∧ X.H₀ b = none
  bsz : X.base.objs.size ≤ X.s₀.heap.objs.size
  noex : ∀ b o, X.base.get? b = some o → b ∉ X.ex
  exfs : ∀ b ∈ X.ex, b ∉ X.fs
  funs : X.s₀.heap.FunFrames X.base X.outer
  frf : ∀ b ∈ X.fs, X.H₀ b = none

structure Inv (X : Cx) (pins : List (Addr × Obj)) (σ : List (Option V)) (H : Hp) (s : Shared) : Prop where
  ok : X.Ok
  os : s.os = X.s₀.os
  bare : AllBare s.gens
  base : Un X.fs X.ex X.H₀ H X.s₀.heap s.heap
  loc : ∃ m, s.heap.Ns X.env.locals m ∧ ∀ (i : Nat) (x : Str) (v : V), X.N[i]? = some x → σ[i]? = some (some v) → Vis X.env.scope x → ∃ u, RelV v u ∧ Look X.env s.heap m x u
  cell : ∀ x c, X.env.cells.lookup x = some c → ∃ v, s.heap.IsCell c v
  free : H X.env.locals = none
  freeC : ∀ x c, X.env.cells.lookup x = some c → H c = none
  pin : ∀ p ∈ X.pn ++ pins, s.heap.get? p.1 = some p.2 ∧ H p.1 = none ∧ p.1 ≠ X.env.locals ∧ p.1 ∉ X.fs ∧ ∀ v, p.2.data ≠ .cell v
  hok : HOk X.prog X.w H s.heap
  len : σ.length = X.N.length

section
variable {X : Cx} {pins : List (Addr × Obj)} {σ : List (Option V)} {H H' : Hp} {s : Shared} {h' : Heap}

theorem Cx.Ok.nofr (ok : X.Ok) {b : Addr} {o : Obj} (e : X.base.get? b = some o) : b ∉ X.fs := fun hb => by
  have := (ok.funs.mem hb).1
  rw [e] at this; cases this
theorem Inv.bs (I : Inv X pins σ H s) : ∀ b o, X.base.get? b = some o → s.heap.get? b = some o ∧ H b = none := fun b o e =>
  ⟨I.base.keep b o (I.ok.bs b o e).1 (I.ok.bs b o e).2 (I.ok.nofr e) (I.ok.noex b o e), I.base.free b o (I.ok.bs b o e).1 (I.ok.bs b o e).2 (I.ok.noex b o e)⟩
theorem Inv.bk (I : Inv X pins σ H s) : ∀ b o, X.base.get? b = some o → s.heap.get? b = some o := fun b o e => (I.bs b o e).1
theorem Inv.mod (I : Inv X pins σ H s) : Mod X.K X.mg X.base := I.ok.mod
theorem Inv.kIn (I : Inv X pins σ H s) : X.K.In s.heap := I.ok.mod.kin.keeps I.bk
theorem Inv.nolimit (I : Inv X pins σ H s) : s.heap.NoLimit := I.ok.mod.nolimit.keeps I.bk
/-- the frame over the base: for OpenK's rules (K.In X.base is I.mod.kin) -/
theorem Inv.fr (I : Inv X pins σ H s) : ∃ m, Fr X.base X.env.locals s.heap m :=
  let ⟨m, hn, _⟩ := I.loc
  ⟨m, hn, I.bk, Nat.le_trans I.ok.bsz I.ok.above⟩
theorem Inv.lt (I : Inv X pins σ H s) : X.env.locals < s.heap.objs.size := let ⟨_, hn, _⟩ := I.loc; hn.lt
theorem Inv.sz (I : Inv X pins σ H s) : X.s₀.heap.objs.size ≤ s.heap.objs.size := Nat.le_trans I.ok.above (Nat.le_of_lt I.lt)
theorem Inv.nofs (I : Inv X pins σ H s) {a : Addr} (h : s.heap.objs.size ≤ a) : a ∉ X.fs := fun hb => by
  obtain ⟨_, o, ho, _⟩ := I.ok.funs.mem hb
  exact absurd (Nat.lt_of_lt_of_le (Heap.lt_size ho) (Nat.le_trans I.sz h)) (Nat.lt_irrefl _)
theorem Inv.cne (I : Inv X pins σ H s) : ∀ x c, X.env.cells.lookup x = some c → c ≠ X.env.locals := fun x c e z => by
  obtain ⟨v, o, ho, hd⟩ := I.cell x c e
  obtain ⟨m, ⟨o', es, ep, ho', hd', _⟩, _⟩ := I.loc
  rw [z, ho'] at ho; cases ho; rw [hd'] at hd; cases hd
theorem Inv.funs (I : Inv X pins σ H s) : s.heap.FunFrames X.base X.outer := by
  have all : ∀ (l : List Env), (∀ b ∈ frs l, b ∈ X.fs) → X.s₀.heap.FunFrames X.base l → s.heap.FunFrames X.base l := by
    intro l
    induction l with
    | nil => intro _ _; trivial
    | cons env r ih =>
      intro hs hl
      obtain ⟨hk, ⟨L, o, hf, hn, ho, hd⟩, hr⟩ := hl
      have hL : L ∈ X.fs := hs L (by unfold frs; rw [List.filterMap_cons, hf]; exact List.mem_cons_self)
      obtain ⟨sl, e⟩ := I.base.slot L o ho (I.ok.frf L hL) hL fun z => I.ok.exfs L z hL
      exact ⟨hk, ⟨L, _, hf, hn, e, hd⟩, ih (fun b hb => hs b (by unfold frs; rw [List.filterMap_cons, hf]; exact List.mem_cons_of_mem _ hb)) hr⟩
  exact all X.outer (fun _ hb => hb) I.ok.funs

/-- the frames that run, for a call -/
theorem Inv.stack (I : Inv X pins σ H s) : s.heap.FunFrames X.base X.stack := by
  rcases I.ok.stk with e | ⟨e, hf⟩
  · rw [e]; exact I.funs
  · rw [e]
    obtain ⟨m, hn, _⟩ := I.loc
    refine .cons (by rw [I.ok.kind]; decide) hf hn ?_ I.funs
    exact Heap.get?_none_of_le (Nat.le_trans I.ok.bsz I.ok.above)
theorem Inv.stkSub (I : Inv X pins σ H s) : ∀ b ∈ frs X.stack, b ∈ X.env.locals :: X.fs := fun b hb => by
  rcases I.ok.stk with e | ⟨e, hf⟩
  · rw [e] at hb; exact List.mem_cons_of_mem _ hb
  · rw [e] at hb
    unfold frs at hb
    rw [List.filterMap_cons, hf] at hb
    exact hb
theorem Inv.stkFree (I : Inv X pins σ H s) : ∀ b ∈ frs X.stack, H b = none := fun b hb => by
  rcases List.mem_cons.mp (I.stkSub b hb) with e | hb
  · rw [e]; exact I.free
  · obtain ⟨_, o, ho, _⟩ := I.ok.funs.mem hb
    exact I.base.free b o ho (I.ok.frf b hb) fun z => I.ok.exfs b z hb

/-- THE STEP: the untracked objects but the frame and the records at ch are kept (the callers' frames up to slots), the frame's map is kept, the new abstract heap is held -/
theorem Inv.step {g' : Array GenState} {t' : Nat} {d' : Drawn} {ch : List Addr} (I : Inv X pins σ H s)
    (hch : ∀ b ∈ ch, (b ∈ X.ex ∨ X.s₀.heap.objs.size ≤ b) ∧ b ≠ X.env.locals ∧ (∀ x c, X.env.cells.lookup x = some c → c ≠ b) ∧ ∀ p ∈ X.pn ++ pins, p.1 ≠ b)
    (keep : ∀ b o, b ≠ X.env.locals → b ∉ X.fs → b ∉ ch → s.heap.get? b = some o → H b = none → h'.get? b = some o)
    (slot : ∀ b o, b ≠ X.env.locals → b ∈ X.fs → b ∉ ch → s.heap.get? b = some o → H b = none → ∃ sl, h'.get? b = some { o with slots := sl }) (free : ∀ b o, b ∉ ch → s.heap.get? b = some o → H b = none → H' b = none)
    (there : ∀ b o, b ∉ ch → s.heap.get? b = some o → ∃ o', h'.get? b = some o')
    (tups : ∀ b xs, H b = some (.tup xs) → H' b = some (.tup xs)) (frzs : ∀ b o u, H b = some (.frz o u) → H' b = some (.frz o u)) (tbls : ∀ b ps, H b = some (.tbl ps) → ∃ more, H' b = some (.tbl (ps ++ more)))
    (ns : ∀ m, s.heap.Ns X.env.locals m → h'.Ns X.env.locals m) (hok : HOk X.prog X.w H' h') (hg : AllBare g') :
    Inv X pins σ H' { s with heap := h', gens := g', drawn := d', toks := t' } := by
  have neL : ∀ b o, X.s₀.heap.get? b = some o → b ≠ X.env.locals := fun b o e => Nat.ne_of_lt (Nat.lt_of_lt_of_le (Heap.lt_size e) I.ok.above)
  have neC : ∀ b o, X.s₀.heap.get? b = some o → b ∉ X.ex → b ∉ ch := fun b o e hx hb => by
    rcases (hch b hb).1 with z | z
    · exact hx z
    · exact absurd (Nat.lt_of_lt_of_le (Heap.lt_size e) z) (Nat.lt_irrefl _)
  have cellK : ∀ x c, X.env.cells.lookup x = some c → ∀ v, s.heap.IsCell c v → h'.IsCell c v := fun x c e v ⟨o, ho, hd⟩ => by
    have nch : c ∉ ch := fun z => (hch c z).2.2.1 x c e rfl
    by_cases hc : c ∈ X.fs
    · obtain ⟨sl, q⟩ := slot c o (I.cne x c e) hc nch ho (I.freeC x c e)
      exact ⟨_, q, hd⟩
    · exact ⟨o, keep c o (I.cne x c e) hc nch ho (I.freeC x c e), hd⟩
  refine ⟨I.ok, I.os, hg, ⟨fun b o e n hb hx => ?_, fun b o e n hb hx => ?_, fun b o e n hx => ?_, fun b o e hx => ?_, fun b xs e => tups b xs (I.base.tups b xs e), fun b o xs e => frzs b o xs (I.base.frzs b o xs e), fun b ps e => ?_⟩, ?_, fun x c e => ?_, ?_, fun x c e => ?_, fun p hp => ?_, hok, I.len⟩
  · exact keep b o (neL b o e) hb (neC b o e hx) (I.base.keep b o e n hb hx) (I.base.free b o e n hx)
  · obtain ⟨sl, e1⟩ := I.base.slot b o e n hb hx
    obtain ⟨sl', e2⟩ := slot b _ (neL b o e) hb (neC b o e hx) e1 (I.base.free b o e n hx)
    exact ⟨sl', e2⟩
  · obtain ⟨o', e1⟩ := I.base.there b o e hx
    exact free b o' (neC b o e hx) e1 (I.base.free b o e n hx)
  · obtain ⟨o', e1⟩ := I.base.there b o e hx
    exact there b o' (neC b o e hx) e1
  · obtain ⟨m1, e1⟩ := I.base.tbls b ps e
    obtain ⟨m2, e2⟩ := tbls b _ e1
    exact ⟨m1 ++ m2, by rw [e2, Array.append_assoc]⟩
  · obtain ⟨m, hn, hl⟩ := I.loc
    refine ⟨m, ns m hn, fun i x v e1 e2 e3 => ?_⟩
    obtain ⟨u, r, l⟩ := hl i x v e1 e2 e3
    refine ⟨u, r, ?_⟩
    rcases l with l | ⟨k, c, e, z⟩
    · exact .inl l
    · exact .inr ⟨k, c, e, cellK x c e _ z⟩
  · obtain ⟨v, z⟩ := I.cell x c e
    exact ⟨v, cellK x c e v z⟩
  · obtain ⟨m, ⟨o, _, _, ho, _⟩, _⟩ := I.loc
    exact free _ o (fun z => (hch _ z).2.1 rfl) ho I.free
  · obtain ⟨v, o, ho, hd⟩ := I.cell x c e
    exact free c o (fun z => (hch c z).2.2.1 x c e rfl) ho (I.freeC x c e)
  · obtain ⟨e, n, ne, nf, d⟩ := I.pin p hp
    have nch : p.1 ∉ ch := fun z => (hch p.1 z).2.2.2 p hp rfl
    exact ⟨keep p.1 p.2 ne nf nch e n, free p.1 p.2 nch e n, ne, nf, d⟩
/-- .. where the frame's own object is kept too -/
theorem Inv.un {t' : Nat} (I : Inv X pins σ H s) (u : Un X.fs [] H H' s.heap h') (hok : HOk X.prog X.w H' h') : Inv X pins σ H' { s with heap := h', toks := t' } := by
  obtain ⟨m, ⟨o, es, ep, ho, r⟩, _⟩ := id I.loc
  obtain ⟨sl, hL⟩ := u.any ho I.free (by simp)
  exact I.step (g' := s.gens) (d' := s.drawn) (ch := []) (fun _ z => nomatch z) (fun b o _ hb _ e n => u.keep b o e n hb (by simp)) (fun b o _ hb _ e n => u.slot b o e n hb (by simp)) (fun b o _ e n => u.free b o e n (by simp)) (fun b o _ e => u.there b o e (by simp)) u.tups u.frzs u.tbls (fun m' hm => by
    obtain ⟨o', es', ep', ho', r'⟩ := hm
    rw [ho] at ho'; cases ho'
    exact ⟨_, es', ep', hL, r'⟩) hok I.bare
/-- behind a call (or a comprehension's block): the slots of this frame may have changed too, the records at ch may have turned -/
theorem Inv.call {g' : Array GenState} {t' : Nat} {d' : Drawn} {ch : List Addr} (I : Inv X pins σ H s) (u : Un (frs X.stack) ch H H' s.heap h') (hok : HOk X.prog X.w H' h') (hg : AllBare g')
    (hch : ∀ b ∈ ch, (b ∈ X.ex ∨ X.s₀.heap.objs.size ≤ b) ∧ b ≠ X.env.locals ∧ (∀ x c, X.env.cells.lookup x = some c → c ≠ b) ∧ ∀ p ∈ X.pn ++ pins, p.1 ≠ b) :
    Inv X pins σ H' { s with heap := h', gens := g', drawn := d', toks := t' } := by
  obtain ⟨m, ⟨o, es, ep, ho, r⟩, _⟩ := id I.loc
  obtain ⟨sl, hL⟩ := u.any ho I.free fun z => (hch _ z).2.1 rfl
  exact I.step (ch := ch) hch (fun b o hL hb hc e n => u.keep b o e n (fun z => (List.mem_cons.mp (I.stkSub b z)).elim hL hb) hc) (fun b o _ _ hc e n => u.any e n hc) (fun b o hc e n => u.free b o e n hc) (fun b o hc e => u.there b o e hc) u.tups u.frzs u.tbls (fun m' hm => by
    obtain ⟨o', es', ep', ho', r'⟩ := hm
    rw [ho] at ho'; cases ho'
    exact ⟨_, es', ep', hL, r'⟩) hok hg
/-- an untracked record of ours (an iterator) has turned -/
theorem Inv.turned {t' : Nat} {it : Addr} (I : Inv X pins σ H s) (k : ∀ b o, b ≠ it → s.heap.get? b = some o → h'.get? b = some o) (hn : H it = none) (hL : it ≠ X.env.locals)
    (h1 : it ∈ X.ex ∨ X.s₀.heap.objs.size ≤ it) (h2 : ∀ x c, X.env.cells.lookup x = some c → c ≠ it) (h3 : ∀ p ∈ X.pn ++ pins, p.1 ≠ it) : Inv X pins σ H { s with heap := h', toks := t' } := by
  have nit : ∀ b u, H b = some u → b ≠ it := fun b u e z => by rw [z, hn] at e; cases e
  refine I.step (g' := s.gens) (d' := s.drawn) (ch := [it]) (fun b hb => ?_) (fun b o _ _ hc e _ => k b o (fun z => hc (by simp [z])) e) (fun b o _ _ hc e _ => ⟨o.slots, k b o (fun z => hc (by simp [z])) e⟩) (fun _ _ _ _ n => n)
    (fun b o hc e => ⟨o, k b o (fun z => hc (by simp [z])) e⟩) (fun _ _ e => e) (fun _ _ _ e => e) (fun b ps e => ⟨#[], by rw [e]; simp⟩) (fun m hm => ?_) (fun b u e => ?_) I.bare
  · have e : b = it := by simpa using hb
    subst e
    exact ⟨h1, hL, h2, h3⟩
  · obtain ⟨o, es, ep, ho, r⟩ := hm
    exact ⟨o, es, ep, k _ o (Ne.symm hL) ho, r⟩
  · refine (I.hok b u e).stay (fun c v hc q => k c v ?_ q) (fun _ q => q) fun _ _ q => q
    rcases hc with z | z
    · rw [z]; exact nit b u e
    · exact nit c _ z
theorem Inv.tok (I : Inv X pins σ H s) (t : Nat) : Inv X pins σ H { s with toks := t } := I.un (h' := s.heap) (t' := t) Un.refl I.hok
/-- all objects kept -/
theorem Inv.kept {t' : Nat} (I : Inv X pins σ H s) (k : ∀ b u, s.heap.get? b = some u → h'.get? b = some u) : Inv X pins σ H { s with heap := h', toks := t' } := I.un (Un.kept k) (I.hok.kept k)
/-- a new object laid and tracked -/
theorem Inv.laid {a : Addr} {o : HO} {t' : Nat} (I : Inv X pins σ H s) (k : ∀ b u, s.heap.get? b = some u → h'.get? b = some u) (hp : s.heap.objs.size ≤ a) (new : ObjOk X.prog X.w (upd H a o) h' a o) :
    Inv X pins σ (upd H a o) { s with heap := h', toks := t' } := I.un (Un.laid k hp (I.hok.fresh hp)) (I.hok.laid k hp new)
/-- an object written -/
theorem Inv.write {x e : Addr} {o : HO} {t' : Nat} (I : Inv X pins σ H s) (mu : Mut (H x)) (he : e = x ∨ H e = some (.own x)) (k : ∀ b u, b ≠ e → s.heap.get? b = some u → h'.get? b = some u) (heo : ∃ u, h'.get? e = some u)
    (new : ObjOk X.prog X.w (upd H x o) h' x o) : Inv X pins σ (upd H x o) { s with heap := h', toks := t' } := I.un (Un.write mu he k heo) (I.hok.write mu he k heo new)
/-- forgetting slots, pins -/
theorem Inv.weak {σ' : List (Option V)} (I : Inv X pins σ H s) (hl : σ'.length = σ.length) (w : ∀ (i : Nat) v, σ'[i]? = some (some v) → σ[i]? = some (some v)) : Inv X pins σ' H s :=
  ⟨I.ok, I.os, I.bare, I.base, let ⟨m, hn, hl'⟩ := I.loc; ⟨m, hn, fun i x v e1 e2 e3 => hl' i x v e1 (w i v e2) e3⟩, I.cell, I.free, I.freeC, I.pin, I.hok, hl.trans I.len⟩
theorem Inv.pins_of {pins' : List (Addr × Obj)} (I : Inv X pins σ H s) (h : ∀ p ∈ pins', s.heap.get? p.1 = some p.2 ∧ H p.1 = none ∧ p.1 ≠ X.env.locals ∧ p.1 ∉ X.fs ∧ ∀ v, p.2.data ≠ .cell v) : Inv X pins' σ H s :=
  ⟨I.ok, I.os, I.bare, I.base, I.loc, I.cell, I.free, I.freeC, fun p hp => (List.mem_append.mp hp).elim (fun z => I.pin p (List.mem_append_left _ z)) (h p), I.hok, I.len⟩

theorem nodup_ix {N : List Str} (hN : N.Nodup) {i j : Nat} {x : Str} (a : N[i]? = some x) (b : N[j]? = some x) : i = j := by
  obtain ⟨h1, e1⟩ := List.getElem?_eq_some_iff.mp a
  obtain ⟨h2, e2⟩ := List.getElem?_eq_some_iff.mp b
  exact (List.getElem_inj hN).mp (e1.trans e2.symm)

/-- a name is stored; what changed -/
theorem store_ok2 {M : Model} {A : Around} {E : Value → Shared → Prop} {i : Nat} {x : Str} {v : V} {u : Value} {Q : Unit → Shared → Prop} (I : Inv X pins σ H s) (hN : X.N.Nodup) (hi : X.N[i]? = some x) (hx : Loc X.env.scope x) (r : RelV v u)
    (h : ∀ s', Inv X pins (σ.set i (some v)) H s' → (∃ a, Heap.SameBut a s.heap s'.heap ∧ (a = X.env.locals ∨ X.env.cells.lookup x = some a)) → Q () s') (hf : X.fn x = true ∨ X.env.scope.names.lookup x = some .local := by first | exact .inl rfl | exact .inr rfl | assumption) : wpAny M A (storeName X.env x u) Q E s := by
  obtain ⟨m, hn, hl⟩ := id I.loc
  have hcls : (X.env.scope.kind == .class || (X.env.scope.kind == .module && X.env.locals != X.env.globals)) = false := by rw [I.ok.kind]; rfl
  have hiσ : i < σ.length := by rw [I.len]; exact (List.getElem?_eq_some_iff.mp hi).1
  have cne := I.cne
  have tracked : ∀ {a : Addr} {h' : Heap}, (∃ o, s.heap.get? a = some o ∧ H a = none) → Heap.SameBut a s.heap h' → HOk X.prog X.w H h' := fun {a h'} ha hs b ob e => by
    obtain ⟨_, _, hfree⟩ := ha
    refine (I.hok b ob e).stay (fun c w' hc q => (hs.2 c ?_).trans q) (fun _ q => q) fun _ _ q => q
    rintro rfl
    rcases hc with rfl | hc
    · rw [hfree] at e; cases e
    · rw [hfree] at hc; cases hc
  rcases hx with hk | hk
  · refine wpAny_storeName_local hk hn (fun h' hn' hs => ?_) hcls
    obtain ⟨oL, _, _, hoL, _⟩ := id hn
    refine h _ ⟨I.ok, I.os, I.bare, ⟨fun b o e n hb hx => ?_, fun b o e n hb hx => ?_, I.base.free, fun b o e hx => ?_, I.base.tups, I.base.frzs, I.base.tbls⟩, ⟨_, hn', fun j y v' e1 e2 e3 => ?_⟩, fun y c e => ?_, I.free, I.freeC, fun p hp => ?_, tracked ⟨oL, hoL, I.free⟩ hs, by simpa using I.len⟩ ⟨_, hs, .inl rfl⟩
    · exact (hs.2 b (Nat.ne_of_lt (Nat.lt_of_lt_of_le (Heap.lt_size e) I.ok.above))).trans (I.base.keep b o e n hb hx)
    · obtain ⟨sl, e1⟩ := I.base.slot b o e n hb hx
      exact ⟨sl, (hs.2 b (Nat.ne_of_lt (Nat.lt_of_lt_of_le (Heap.lt_size e) I.ok.above))).trans e1⟩
    · obtain ⟨o', e1⟩ := I.base.there b o e hx
      exact ⟨o', (hs.2 b (Nat.ne_of_lt (Nat.lt_of_lt_of_le (Heap.lt_size e) I.ok.above))).trans e1⟩
    · by_cases hj : j = i
      · subst hj
        rw [hi] at e1; cases e1
        rw [List.getElem?_set_self hiσ] at e2
        cases e2
        exact ⟨u, r, .inl ⟨hk, by simp⟩⟩
      · rw [List.getElem?_set_ne (Ne.symm hj)] at e2
        obtain ⟨u', r', q⟩ := hl j y v' e1 e2 e3
        refine ⟨u', r', ?_⟩
        rcases q with ⟨k, e⟩ | ⟨k, c, e, z⟩
        · refine .inl ⟨k, ?_⟩
          have : y ≠ x := fun e => hj (nodup_ix hN e1 (e ▸ hi))
          simp [this, e]
        · exact .inr ⟨k, c, e, z.sameBut hs (cne y c e)⟩
    · obtain ⟨w', z⟩ := I.cell y c e
      exact ⟨w', z.sameBut hs (cne y c e)⟩
    · obtain ⟨e, n, ne, nf, d⟩ := I.pin p hp
      exact ⟨(hs.2 p.1 ne).trans e, n, ne, nf, d⟩
  · have hfn : X.fn x = true := by
      rcases hf with z | z
      · exact z
      · rw [z] at hk; cases hk
    obtain ⟨c, hc⟩ := I.ok.has x (.inl hk)
    obtain ⟨w', z⟩ := I.cell x c hc
    refine wpAny_storeName_cell I.ok.kind hk hc z (fun h' hc' hs => ?_)
    obtain ⟨oc, hoc, hocd⟩ := id z
    refine h { s with heap := h' } ⟨I.ok, I.os, I.bare, ⟨fun b o e n hb hx => ?_, fun b o e n hb hx => ?_, I.base.free, fun b o e hx => ?_, I.base.tups, I.base.frzs, I.base.tbls⟩, ⟨m, hn.sameBut hs (Ne.symm (cne x c hc)), fun j y v' e1 e2 e3 => ?_⟩, fun y c' e => ?_, I.free, I.freeC, fun p hp => ?_, tracked ⟨oc, hoc, I.freeC x c hc⟩ hs, by simpa using I.len⟩ ⟨c, hs, .inr hc⟩
    · exact (hs.2 b (Nat.ne_of_lt (Nat.lt_of_lt_of_le (Heap.lt_size e) (I.ok.cab x c hfn hc)))).trans (I.base.keep b o e n hb hx)
    · obtain ⟨sl, e1⟩ := I.base.slot b o e n hb hx
      exact ⟨sl, (hs.2 b (Nat.ne_of_lt (Nat.lt_of_lt_of_le (Heap.lt_size e) (I.ok.cab x c hfn hc)))).trans e1⟩
    · obtain ⟨o', e1⟩ := I.base.there b o e hx
      exact ⟨o', (hs.2 b (Nat.ne_of_lt (Nat.lt_of_lt_of_le (Heap.lt_size e) (I.ok.cab x c hfn hc)))).trans e1⟩
    · by_cases hj : j = i
      · subst hj
        rw [hi] at e1; cases e1
        rw [List.getElem?_set_self hiσ] at e2
        cases e2
        exact ⟨u, r, .inr ⟨.inl hk, c, hc, hc'⟩⟩
      · rw [List.getElem?_set_ne (Ne.symm hj)] at e2
        obtain ⟨u', r', q⟩ := hl j y v' e1 e2 e3
        refine ⟨u', r', ?_⟩
        rcases q with q | ⟨k, c', e, z'⟩
        · exact .inl q
        · refine .inr ⟨k, c', e, z'.sameBut hs ?_⟩
          rintro rfl
          exact hj (nodup_ix hN e1 (I.ok.inj _ _ _ e hc ▸ hi))
    · by_cases hcc : c' = c
      · subst hcc; exact ⟨_, hc'⟩
      · obtain ⟨w2, z2⟩ := I.cell y c' e
        exact ⟨w2, z2.sameBut hs hcc⟩
    · obtain ⟨e, n, ne, nf, d⟩ := I.pin p hp
      refine ⟨(hs.2 p.1 ?_).trans e, n, ne, nf, d⟩
      intro q
      rw [q, hoc] at e
      have q' : oc = p.2 := Option.some.inj e
      exact d w' (by rw [← q']; exact hocd)
theorem store_ok {M : Model} {A : Around} {E : Value → Shared → Prop} {i : Nat} {x : Str} {v : V} {u : Value} {Q : Unit → Shared → Prop} (I : Inv X pins σ H s) (hN : X.N.Nodup) (hi : X.N[i]? = some x) (hx : Loc X.env.scope x) (r : RelV v u)
    (h : ∀ s', Inv X pins (σ.set i (some v)) H s' → Q () s') (hf : X.fn x = true ∨ X.env.scope.names.lookup x = some .local := by first | exact .inl rfl | exact .inr rfl | assumption) : wpAny M A (storeName X.env x u) Q E s :=
  store_ok2 I hN hi hx r (fun s' I' _ => h s' I') hf
/-- behind a call or a block, the state as it is -/
theorem Inv.call' {s' : Shared} {ch : List Addr} (I : Inv X pins σ H s) (ho : s'.os = s.os) (u : Un (frs X.stack) ch H H' s.heap s'.heap) (hok : HOk X.prog X.w H' s'.heap) (hg : AllBare s'.gens)
    (hch : ∀ b ∈ ch, (b ∈ X.ex ∨ X.s₀.heap.objs.size ≤ b) ∧ b ≠ X.env.locals ∧ (∀ x c, X.env.cells.lookup x = some c → c ≠ b) ∧ ∀ p ∈ X.pn ++ pins, p.1 ≠ b) : Inv X pins σ H' s' := by
  obtain ⟨h', g', d', t', o'⟩ := s'
  have e : o' = s.os := ho
  subst e
  exact I.call (g' := g') (t' := t') (d' := d') u hok hg hch
end

/-! ### the judgements -/
/-- an exception: its class, its own dict's address (where it has one), the abstract heap behind it -/
abbrev XK := Value → Option Addr → Hp → Prop
abbrev St := List (Option V)
abbrev VK := V → Hp → Prop
/-- an expression's reading; a test's; an argument list's -/
abbrev TE := St → Hp → VK → Prop
abbrev TT := St → Hp → (Bool → Hp → Prop) → Prop
abbrev TA := St → Hp → (List V → Hp → Prop) → Prop
/-- what is wanted behind a statement -/
structure Ends where
  nx : St → Hp → Prop
  rt : VK
  bk : St → Hp → Prop := fun _ _ => False
  ct : St → Hp → Prop := fun _ _ => False
abbrev TS := Ends → St → Hp → Prop

def EP (X : Cx) (pins : List (Addr × Obj)) (σ : St) (Q : VK) (u : Value) (s' : Shared) : Prop := ∃ v H', Inv X pins σ H' s' ∧ RelV v u ∧ Q v H'
def TP (X : Cx) (pins : List (Addr × Obj)) (σ : St) (Q : Bool → Hp → Prop) (b : Bool) (s' : Shared) : Prop := ∃ H', Inv X pins σ H' s' ∧ Q b H'
def AP (X : Cx) (pins : List (Addr × Obj)) (σ : St) (Q : List V → Hp → Prop) (us : List Value) (s' : Shared) : Prop := ∃ vs H', Inv X pins σ H' s' ∧ Vals vs us ∧ Q vs H'
def SP (X : Cx) (pins : List (Addr × Obj)) (D : Ends) (f : Flow) (s' : Shared) : Prop :=
  match f with
  | .next => ∃ σ' H', Inv X pins σ' H' s' ∧ D.nx σ' H'
  | .brk => ∃ σ' H', Inv X pins σ' H' s' ∧ D.bk σ' H'
  | .cont => ∃ σ' H', Inv X pins σ' H' s' ∧ D.ct σ' H'
  | .ret u => ∃ v σ' H', Inv X pins σ' H' s' ∧ RelV v u ∧ D.rt v H'

def PE (X : Cx) (e : Expr) (t : TE) : Prop :=
  ∀ (pins : List (Addr × Obj)) (s : Shared) (σ : St) (H : Hp) (Q : VK), Inv X pins σ H s → t σ H Q → wpAny (model X.prog X.w) X.A (eval e X.env) (EP X pins σ Q) X.xe s
def PT (X : Cx) (e : Expr) (t : TT) : Prop :=
  ∀ (pins : List (Addr × Obj)) (s : Shared) (σ : St) (H : Hp) (Q : Bool → Hp → Prop), Inv X pins σ H s → t σ H Q → wpAny (model X.prog X.w) X.A (isTrue e X.env (eval e X.env)) (TP X pins σ Q) X.xe s
/-- a test whatever its 'whole' is (and, or) -/
def PW (X : Cx) (e : Expr) (t : TT) : Prop :=
  ∀ (whole : Sem Value) (pins : List (Addr × Obj)) (s : Shared) (σ : St) (H : Hp) (Q : Bool → Hp → Prop), Inv X pins σ H s → t σ H Q → wpAny (model X.prog X.w) X.A (isTrue e X.env whole) (TP X pins σ Q) X.xe s
theorem PW.pt {X : Cx} {e : Expr} {t : TT} (h : PW X e t) : PT X e t := h _
/-- an argument list (no star), from the left -/
def PA (X : Cx) (es : List Expr) (t : TA) : Prop :=
  ∀ (pos : Pos) (pins : List (Addr × Obj)) (s : Shared) (σ : St) (H : Hp) (Q : List V → Hp → Prop), Inv X pins σ H s → t σ H Q → wpAny (model X.prog X.w) X.A (spliced (backTo pos (starEach es X.env))) (AP X pins σ Q) X.xe s
def PS (X : Cx) (st : Stmt) (t : TS) : Prop :=
  ∀ (pins : List (Addr × Obj)) (s : Shared) (σ : St) (H : Hp) (D : Ends), Inv X pins σ H s → t D σ H → wpAny (model X.prog X.w) X.A (exec st X.env) (SP X pins D) X.xe s
def PSs (X : Cx) (st : List Stmt) (t : TS) : Prop :=
  ∀ (pins : List (Addr × Obj)) (s : Shared) (σ : St) (H : Hp) (D : Ends), Inv X pins σ H s → t D σ H → wpAny (model X.prog X.w) X.A (execs st X.env) (SP X pins D) X.xe s
/-- weaken the end -/
theorem thn {α : Type} {t : Sem α} {Q Q' : α → Shared → Prop} {M : Model} {A : Around} {E : Value → Shared → Prop} {s : Shared} (h : wpAny M A t Q E s) (hQ : ∀ a s, Q a s → Q' a s) : wpAny M A t Q' E s := wpAny_mono h hQ fun _ _ x => x
end L2

namespace L2
open PySem PySem.Spec PyProof.Rows
section
variable {X : Cx}

/-- two expressions in a row -/
theorem bin {a b : Expr} {ta tb : TE} (ha : PE X a ta) (hb : PE X b tb) {pins : List (Addr × Obj)} {s : Shared} {σ : St} {H : Hp} {R : V → V → Hp → Prop} (I : Inv X pins σ H s) (h : ta σ H fun x H1 => tb σ H1 fun y H2 => R x y H2)
    {α : Type} {Q : α → Shared → Prop} {f : Value → Value → Sem α}
    (hf : ∀ v u s2 x y H2, Inv X pins σ H2 s2 → RelV x v → RelV y u → R x y H2 → wpAny (model X.prog X.w) X.A (f v u) Q X.xe s2) :
    wpAny (model X.prog X.w) X.A (eval a X.env) (fun v s₁ => wpAny (model X.prog X.w) X.A (eval b X.env) (fun u s₂ => wpAny (model X.prog X.w) X.A (f v u) Q X.xe s₂) X.xe s₁) X.xe s := by
  refine thn (ha pins s σ H _ I h) fun v s1 ⟨x, H1, I1, r1, q1⟩ => ?_
  refine thn (hb pins s1 σ H1 _ I1 q1) fun u s2 ⟨y, H2, I2, r2, q2⟩ => ?_
  exact hf v u s2 x y H2 I2 r1 r2 q2

/-! ### names and constants -/
def tVar (i : Nat) : TE := fun σ H Q => ∃ v, σ[i]? = some (some v) ∧ Q v H
def tC (v : V) : TE := fun _ H Q => Q v H
theorem pe_var {i : Nat} {x : Str} {pos : Pos} (hN : X.N[i]? = some x) (hv : Vis X.env.scope x) (hd : (x == ("__debug__" : Str)) = false := by decide) (hcd : (x == ("__classdict__" : Str)) = false := by decide) : PE X (.Name x pos) (tVar i) := by
  intro pins s σ H Q I h
  obtain ⟨v, e, h⟩ := h
  obtain ⟨m, hn, hl⟩ := I.loc
  obtain ⟨u, r, l⟩ := hl i x v hN e hv
  have fin : EP X pins σ Q u s := ⟨v, H, I, r, h⟩
  rcases l with ⟨hk, hm⟩ | ⟨hk, c, hc, hcell⟩
  · exact wpAny_Name (wpAny_loadName_local I.ok.kind hk hn hm fin) hd
  · rcases hk with hk | hk
    · exact wpAny_Name (wpAny_loadName_cell I.ok.kind hk hc hcell fin) hd
    · exact wpAny_Name (wpAny_loadName_free I.ok.kind hk hc hcell fin hcd) hd
theorem pe_int {i j pos} : PE X (.Constant (.int i) j pos) (tC (.int i)) := fun _ _ _ H _ I h => wpAny_Constant_int ⟨.int i, H, I.tok _, ⟨_, rfl⟩, h⟩
theorem pe_bl {b j pos} : PE X (.Constant (.bool b) j pos) (tC (.bl b)) := fun _ _ _ H _ I h => Constant_bool ⟨.bl b, H, I, rfl, h⟩
theorem pe_non {j pos} : PE X (.Constant .none j pos) (tC .non) := fun _ _ _ H _ I h => Constant_none ⟨.non, H, I, rfl, h⟩
theorem pe_str {x j pos} : PE X (.Constant (.str x) j pos) (tC (.str x)) := fun _ _ _ H _ I h => Calls.Constant_str ⟨.str x, H, I.tok _, ⟨_, rfl⟩, h⟩

/-- a global name of the def -/
def Gl (X : Cx) (x : Str) : Prop := X.env.kindOf x = some .globalImplicit
theorem ld_glob {E : Value → Shared → Prop} {pins : List (Addr × Obj)} {s : Shared} {σ : St} {H : Hp} {x : Str} {u : Value} {pos : Pos} {Q : Value → Shared → Prop} (I : Inv X pins σ H s) (hg : Gl X x) (hm : X.mg x = some u) (h : Q u s)
    (hd : (x == ("__debug__" : Str)) = false := by decide) : wpAny (model X.prog X.w) X.A (eval (.Name x pos) X.env) Q E s :=
  Calls.Name_function_global I.ok.kind hg (Calls.loadGlobal_global (by rw [I.ok.glob]; exact I.mod.glob.keeps I.bk) hm h) hd
theorem ld_blt {E : Value → Shared → Prop} {pins : List (Addr × Obj)} {s : Shared} {σ : St} {H : Hp} {x : Str} {u : Value} {pos : Pos} {Q : Value → Shared → Prop} (I : Inv X pins σ H s) (hg : Gl X x) (hm : X.mg x = none) (hv : bootBuiltins x = some u) (h : Q u s)
    (hn : x ≠ "__name__" := by decide) (hd : (x == ("__debug__" : Str)) = false := by decide) : wpAny (model X.prog X.w) X.A (eval (.Name x pos) X.env) Q E s := by
  obtain ⟨mb, h1, h2⟩ := I.mod.blt
  exact Calls.Name_function_global I.ok.kind hg (Calls.loadGlobal_builtin (by rw [I.ok.glob]; exact I.mod.glob.keeps I.bk) hm (by rw [I.ok.blt]; exact h1.keeps I.bk) ((h2 x hn).trans hv) h) hd
/-- a module's constant, a class, a function, as a value -/
theorem pe_glob {x : Str} {v : V} {u : Value} {pos : Pos} (hg : Gl X x) (hm : X.mg x = some u) (r : RelV v u) (hd : (x == ("__debug__" : Str)) = false := by decide) : PE X (.Name x pos) (tC v) :=
  fun _ _ _ H _ I h => ld_glob I hg hm ⟨v, H, I, r, h⟩ hd
theorem pe_bltn {x : Str} {v : V} {u : Value} {pos : Pos} (hg : Gl X x) (hm : X.mg x = none) (hv : bootBuiltins x = some u) (r : RelV v u) (hn : x ≠ "__name__" := by decide) (hd : (x == ("__debug__" : Str)) = false := by decide) : PE X (.Name x pos) (tC v) :=
  fun _ _ _ H _ I h => ld_blt I hg hm hv ⟨v, H, I, r, h⟩ hn hd

/-! ### arithmetic -/
/-- two ints -/
def t2I (ta tb : TE) (k : Int → Int → Hp → Prop) : St → Hp → Prop := fun σ H => ta σ H fun x H1 => tb σ H1 fun y H2 => ∃ i j, x = .int i ∧ y = .int j ∧ k i j H2
def tAdd (ta tb : TE) : TE := fun σ H Q => t2I ta tb (fun i j H2 => Q (.int (i + j)) H2) σ H
def tSub (ta tb : TE) : TE := fun σ H Q => t2I ta tb (fun i j H2 => Q (.int (i - j)) H2) σ H
/-- the left factor below 2^64 -/
def tMul (ta tb : TE) : TE := fun σ H Q => t2I ta tb (fun i j H2 => (-(2 ^ 64) < i ∧ i < 2 ^ 64) ∧ Q (.int (i * j)) H2) σ H
variable {a b : Expr} {ta tb : TE} {pos : Pos}
theorem pe_add (ha : PE X a ta) (hb : PE X b tb) : PE X (.BinOp a .Add b pos) (tAdd ta tb) := by
  intro pins s σ H Q I h
  refine wpAny_BinOp (bin ha hb I h fun v u s2 x y H2 I2 rx ry q => ?_)
  obtain ⟨i, j, rfl, rfl, q⟩ := q
  obtain ⟨t, rfl⟩ := rx
  obtain ⟨t', rfl⟩ := ry
  exact add_int ⟨.int _, H2, I2.tok _, ⟨_, rfl⟩, q⟩
theorem pe_sub (ha : PE X a ta) (hb : PE X b tb) : PE X (.BinOp a .Sub b pos) (tSub ta tb) := by
  intro pins s σ H Q I h
  refine wpAny_BinOp (bin ha hb I h fun v u s2 x y H2 I2 rx ry q => ?_)
  obtain ⟨i, j, rfl, rfl, q⟩ := q
  obtain ⟨t, rfl⟩ := rx
  obtain ⟨t', rfl⟩ := ry
  exact sub_int ⟨.int _, H2, I2.tok _, ⟨_, rfl⟩, q⟩
theorem pe_mul (ha : PE X a ta) (hb : PE X b tb) : PE X (.BinOp a .Mult b pos) (tMul ta tb) := by
  intro pins s σ H Q I h
  refine wpAny_BinOp (bin ha hb I h fun v u s2 x y H2 I2 rx ry q => ?_)
  obtain ⟨i, j, rfl, rfl, ⟨q1, q2⟩, q⟩ := q
  obtain ⟨t, rfl⟩ := rx
  obtain ⟨t', rfl⟩ := ry
  exact mul_int ⟨.int _, H2, I2.tok _, ⟨_, rfl⟩, q⟩ (.of_left (intBits_le_64 q1 q2))

/-! ### comparisons -/
def PC (X : Cx) (op : CmpOp) (a b : Expr) (t : TE) : Prop :=
  ∀ (pins : List (Addr × Obj)) (s : Shared) (σ : St) (H : Hp) (Q : VK), Inv X pins σ H s → t σ H Q →
    wpAny (model X.prog X.w) X.A (eval a X.env) (fun v s₁ => wpAny (model X.prog X.w) X.A (eval b X.env) (fun u s₂ => wpAny (model X.prog X.w) X.A (compareOp op v u) (EP X pins σ Q) X.xe s₂) X.xe s₁) X.xe s
theorem nobehind (b : Expr) {op : CmpOp} (h : op ≠ .In) (h2 : op ≠ .NotIn) : behindInMarks op b = false := by
  have e1 : (op == CmpOp.In) = false := by cases op <;> first | rfl | exact absurd rfl h
  have e2 : (op == CmpOp.NotIn) = false := by cases op <;> first | rfl | exact absurd rfl h2
  cases b <;> simp [behindInMarks, e1, e2]
def tCmp (p : Int → Int → Bool) (ta tb : TE) : TE := fun σ H Q => t2I ta tb (fun i j H2 => Q (.bl (p i j)) H2) σ H
abbrev tLt : TE → TE → TE := tCmp fun i j => decide (i < j)
abbrev tLe : TE → TE → TE := tCmp fun i j => decide (i ≤ j)
abbrev tGt : TE → TE → TE := tCmp fun i j => decide (j < i)
abbrev tGe : TE → TE → TE := tCmp fun i j => decide (j ≤ i)
abbrev tEqI : TE → TE → TE := tCmp fun i j => decide (i = j)
abbrev tNeI : TE → TE → TE := tCmp fun i j => !decide (i = j)
/-- a comparison of two ints, by its rule -/
theorem pc_int {op : CmpOp} {p : Int → Int → Bool} (ha : PE X a ta) (hb : PE X b tb)
    (rule : ∀ (i j : Int) (t u : Tok) (Q : Value → Shared → Prop) (s : Shared), Q (.bool (p i j)) s → wpAny (model X.prog X.w) X.A (compareOp op (.int i t) (.int j u)) Q X.xe s) : PC X op a b (tCmp p ta tb) := by
  intro pins s σ H Q I h
  refine bin ha hb I h fun v u s2 x y H2 I2 rx ry q => ?_
  obtain ⟨i, j, rfl, rfl, q⟩ := q
  obtain ⟨t, rfl⟩ := rx
  obtain ⟨t', rfl⟩ := ry
  exact rule i j t t' _ s2 ⟨.bl _, H2, I2, rfl, q⟩
theorem pc_lt (ha : PE X a ta) (hb : PE X b tb) : PC X .Lt a b (tLt ta tb) := pc_int ha hb fun _ _ _ _ _ _ h => lt_int h
theorem pc_le (ha : PE X a ta) (hb : PE X b tb) : PC X .LtE a b (tLe ta tb) := pc_int ha hb fun _ _ _ _ _ _ h => le_int h
theorem pc_gt (ha : PE X a ta) (hb : PE X b tb) : PC X .Gt a b (tGt ta tb) := pc_int ha hb fun _ _ _ _ _ _ h => gt_int h
theorem pc_ge (ha : PE X a ta) (hb : PE X b tb) : PC X .GtE a b (tGe ta tb) := pc_int ha hb fun _ _ _ _ _ _ h => ge_int h
theorem pc_eqI (ha : PE X a ta) (hb : PE X b tb) : PC X .Eq a b (tEqI ta tb) := pc_int ha hb fun _ _ _ _ _ _ h => eq_int (by rw [Bool.beq_eq_decide_eq]; exact h)
theorem pc_neI (ha : PE X a ta) (hb : PE X b tb) : PC X .NotEq a b (tNeI ta tb) := pc_int ha hb fun _ _ _ _ _ _ h => ne_int (by rw [bne, Bool.beq_eq_decide_eq]; exact h)
/-- is None -/
def tIsN (ta : TE) : TE := fun σ H Q => ta σ H fun x H1 => Q (.bl (decide (x = .non))) H1
def tNotN (ta : TE) : TE := fun σ H Q => ta σ H fun x H1 => Q (.bl (!decide (x = .non))) H1
theorem RelV.none_iff {x : V} {v : Value} (r : RelV x v) : (v == Value.none) = decide (x = .non) := by
  cases x with
  | non => cases r; rfl
  | bl _ => cases r; rfl
  | int _ => obtain ⟨t, rfl⟩ := r; rfl
  | str _ => obtain ⟨t, rfl⟩ := r; rfl
  | byt _ => obtain ⟨t, rfl⟩ := r; rfl
  | flt _ => obtain ⟨t, rfl⟩ := r; rfl
  | ref _ => cases r; rfl
  | ty _ => cases r; rfl
theorem pc_isN {j pos'} (ha : PE X a ta) : PC X .Is a (.Constant .none j pos') (tIsN ta) := by
  intro pins s σ H Q I h
  refine thn (ha pins s σ H _ I h) fun v s1 ⟨x, H1, I1, r1, q1⟩ => ?_
  exact Constant_none (is_none_gen ⟨.bl _, H1, I1, by rw [r1.none_iff]; rfl, q1⟩)
theorem pc_notN {j pos'} (ha : PE X a ta) : PC X .IsNot a (.Constant .none j pos') (tNotN ta) := by
  intro pins s σ H Q I h
  refine thn (ha pins s σ H _ I h) fun v s1 ⟨x, H1, I1, r1, q1⟩ => ?_
  exact Constant_none (isnot_none_gen ⟨.bl _, H1, I1, by rw [r1.none_iff]; rfl, q1⟩)
/-- a comparison as a value, as a test -/
def tB (t : TE) : TT := fun σ H Q => t σ H fun x H1 => ∃ c, x = .bl c ∧ Q c H1
theorem pe_cmp {op : CmpOp} {t : TE} (h : PC X op a b t) (h1 : behindInMarks op b = false := by first | exact nobehind _ (by decide) (by decide) | rfl) : PE X (.Compare a [op] [b] pos) t := fun pins s σ H Q I hw => wpAny_Compare1 (h pins s σ H Q I hw) h1
theorem pt_cmp {op : CmpOp} {t : TE} (h : PC X op a b t) (h1 : behindInMarks op b = false := by first | exact nobehind _ (by decide) (by decide) | rfl) : PT X (.Compare a [op] [b] pos) (tB t) := by
  intro pins s σ H Q I hw
  refine wpAny_isTrue_Compare1 (thn (h pins s σ H _ I hw) fun v s1 h1 => thn h1 fun u s2 h2 => thn h2 fun c s3 ⟨x, H1, I1, r1, q1⟩ => ?_) h1
  obtain ⟨d, rfl, q⟩ := q1
  cases r1
  exact wpAny_truthy_bool ⟨H1, I1, q⟩
/-- an expression whose value is a bool, as a test -/
theorem pt_val {e : Expr} {t : TE} (h : PE X e t) (he : ∀ whole, isTrue e X.env whole = (do let v ← whole; standAt e.pos; holding [v] (truthy v)) := by intro _; rfl) : PT X e (tB t) := by
  intro pins s σ H Q I hw
  refine isTrue_plain (thn (h pins s σ H _ I hw) fun v s1 ⟨x, H1, I1, r1, q1⟩ => ?_) (he _)
  obtain ⟨d, rfl, q⟩ := q1
  cases r1
  exact wpAny_truthy_bool ⟨H1, I1, q⟩

/-! ### and, or, not -/
variable {tA tB' : TT} {rest : List Expr}
def tAnd (t u : TT) : TT := fun σ H Q => t σ H fun c H1 => if c = true then u σ H1 Q else Q false H1
def tOr (t u : TT) : TT := fun σ H Q => t σ H fun c H1 => if c = true then Q true H1 else u σ H1 Q
def tNot (t : TT) : TT := fun σ H Q => t σ H fun c H1 => Q (!c) H1
theorem pw_and1 (ha : PT X a tA) : PW X (.BoolOp .And [a] pos) tA := by
  intro wh pins s σ H Q I h
  refine isTrue_and (thn (ha pins s σ H Q I h) fun c s1 e => ?_)
  cases c with
  | true => exact isTrue_and_nil e
  | false => exact e
theorem pw_or1 (ha : PT X a tA) : PW X (.BoolOp .Or [a] pos) tA := by
  intro wh pins s σ H Q I h
  refine isTrue_or (thn (ha pins s σ H Q I h) fun c s1 e => ?_)
  cases c with
  | false => exact isTrue_or_nil e
  | true => exact e
theorem pw_and (ha : PT X a tA) (hb : PW X (.BoolOp .And (b :: rest) pos) tB') : PW X (.BoolOp .And (a :: b :: rest) pos) (tAnd tA tB') := by
  intro wh pins s σ H Q I h
  refine isTrue_and (thn (ha pins s σ H _ I h) fun c s1 ⟨H1, I1, q1⟩ => ?_)
  cases c with
  | true => exact hb wh pins s1 σ H1 Q I1 q1
  | false => exact ⟨H1, I1, q1⟩
theorem pw_or (ha : PT X a tA) (hb : PW X (.BoolOp .Or (b :: rest) pos) tB') : PW X (.BoolOp .Or (a :: b :: rest) pos) (tOr tA tB') := by
  intro wh pins s σ H Q I h
  refine isTrue_or (thn (ha pins s σ H _ I h) fun c s1 ⟨H1, I1, q1⟩ => ?_)
  cases c with
  | true => exact ⟨H1, I1, q1⟩
  | false => exact hb wh pins s1 σ H1 Q I1 q1
theorem pt_not (ha : PT X a tA) : PT X (.UnaryOp .Not a pos) (tNot tA) := by
  intro pins s σ H Q I h
  exact isTrue_not (ha pins s σ H (fun c H1 => Q (!c) H1) I h)
/-- .. as values (bools) -/
def tAndV (ta tb : TE) : TE := fun σ H Q => ta σ H fun x H1 => ∃ c, x = .bl c ∧ if c = true then tb σ H1 Q else Q (.bl false) H1
def tOrV (ta tb : TE) : TE := fun σ H Q => ta σ H fun x H1 => ∃ c, x = .bl c ∧ if c = true then Q (.bl true) H1 else tb σ H1 Q
def tNotV (ta : TE) : TE := fun σ H Q => ta σ H fun x H1 => ∃ c, x = .bl c ∧ Q (.bl (!c)) H1
theorem pe_one {op} {t : TE} (h : PE X a t) : PE X (.BoolOp op [a] pos) t := fun pins s σ H Q I hw => BoolOp_one (h pins s σ H Q I hw)
theorem pe_and (ha : PE X a ta) (hb : PE X (.BoolOp .And (b :: rest) pos) tb) : PE X (.BoolOp .And (a :: b :: rest) pos) (tAndV ta tb) := by
  intro pins s σ H Q I h
  refine BoolOp_and (thn (ha pins s σ H _ I h) fun v s1 ⟨x, H1, I1, r1, q1⟩ => ?_)
  obtain ⟨c, rfl, q1⟩ := q1
  cases r1
  refine wpAny_truthy_bool ?_
  cases c with
  | true => exact hb pins s1 σ H1 Q I1 q1
  | false => exact ⟨.bl false, H1, I1, rfl, q1⟩
theorem pe_or (ha : PE X a ta) (hb : PE X (.BoolOp .Or (b :: rest) pos) tb) : PE X (.BoolOp .Or (a :: b :: rest) pos) (tOrV ta tb) := by
  intro pins s σ H Q I h
  refine BoolOp_or (thn (ha pins s σ H _ I h) fun v s1 ⟨x, H1, I1, r1, q1⟩ => ?_)
  obtain ⟨c, rfl, q1⟩ := q1
  cases r1
  refine wpAny_truthy_bool ?_
  cases c with
  | false => exact hb pins s1 σ H1 Q I1 q1
  | true => exact ⟨.bl true, H1, I1, rfl, q1⟩
theorem pe_not (ha : PE X a ta) : PE X (.UnaryOp .Not a pos) (tNotV ta) := by
  intro pins s σ H Q I h
  refine UnaryOp_ (thn (ha pins s σ H _ I h) fun v s1 ⟨x, H1, I1, r1, q1⟩ => ?_)
  obtain ⟨c, rfl, q1⟩ := q1
  cases r1
  exact not_of (wpAny_truthy_bool ⟨.bl (!c), H1, I1, rfl, q1⟩)
/-- a if t else b -/
def tIf (t : TT) (ta tb : TE) : TE := fun σ H Q => t σ H fun c H1 => if c = true then ta σ H1 Q else tb σ H1 Q
theorem pe_ifExp {c : Expr} (hc : PT X c tA) (ha : PE X a ta) (hb : PE X b tb) : PE X (.IfExp c a b pos) (tIf tA ta tb) := by
  intro pins s σ H Q I h
  refine wpAny_IfExp (thn (hc pins s σ H _ I h) fun d s1 ⟨H1, I1, q1⟩ => ?_)
  cases d with
  | true => exact ha pins s1 σ H1 Q I1 q1
  | false => exact hb pins s1 σ H1 Q I1 q1
end
end L2

namespace L2
open PySem PySem.Spec PyProof.Rows

/-! ### a list, a tuple that is read: tracked, frozen, or an object of the module -/
def SqL (K : PySem.W.Frag) (H : Hp) (a : Addr) (xs : List V) : Prop :=
  Rd H a (.lst xs) ∨
    ∃ (o : Obj) (its : Array Value) (n : Nat), K.lookup a = some o ∧ o.cls = .type "list" ∧ o.dict = none ∧ o.data = .seq its n ∧ its.size ≤ sizeLine ∧ Vals xs its.toList
def SqT (K : PySem.W.Frag) (H : Hp) (a : Addr) (xs : List V) : Prop :=
  Rd H a (.tup xs) ∨
    ∃ (o : Obj) (its : Array Value) (n : Nat), K.lookup a = some o ∧ o.cls = .type "tuple" ∧ o.data = .seq its n ∧ its.size ≤ sizeLine ∧ Vals xs its.toList
def absV : Value → Option V
  | .none => some .non
  | .bool b => some (.bl b)
  | .int i _ => some (.int i)
  | .str x _ => some (.str x)
  | .bytes b _ => some (.byt b)
  | .float b _ => some (.flt b)
  | .ref a => some (.ref a)
  | .type n => some (.ty n)
  | _ => none
theorem RelV.abs {x : V} {u : Value} (r : RelV x u) : absV u = some x := by
  cases x with
  | non => cases r; rfl
  | bl _ => cases r; rfl
  | int _ => obtain ⟨t, rfl⟩ := r; rfl
  | str _ => obtain ⟨t, rfl⟩ := r; rfl
  | byt _ => obtain ⟨t, rfl⟩ := r; rfl
  | flt _ => obtain ⟨t, rfl⟩ := r; rfl
  | ref _ => cases r; rfl
  | ty _ => cases r; rfl
theorem RelV.inj {x y : V} {u : Value} (r : RelV x u) (q : RelV y u) : x = y := Option.some.inj (r.abs.symm.trans q.abs)
theorem Vals.inj : ∀ {xs ys : List V} {us : List Value}, Vals xs us → Vals ys us → xs = ys
  | _, _, _, .nil, .nil => rfl
  | _, _, _, .cons r t, .cons r' t' => by rw [r.inj r', Vals.inj t t']
section
variable {X : Cx} {pins : List (Addr × Obj)} {σ : St} {H : Hp} {s : Shared} {a : Addr} {xs ys : List V}
theorem SqL.of {K : PySem.W.Frag} (h : H a = some (.lst xs)) : SqL K H a xs := .inl (.inl h)
theorem SqT.of {K : PySem.W.Frag} (h : H a = some (.tup xs)) : SqT K H a xs := .inl (.inl h)
theorem Inv.list (I : Inv X pins σ H s) (h : SqL X.K H a xs) : ∃ its : List Value, Vals xs its ∧ PlainL s.heap a its.toArray ∧ xs.length ≤ sizeLine := by
  rcases h with h | ⟨o, its, n, hk, hc, hd, hs, hz, r⟩
  · obtain ⟨z, its, n, r, e⟩ := h.ok I.hok
    exact ⟨its, r, ⟨_, n, e, rfl, rfl, rfl⟩, z⟩
  · refine ⟨its.toList, r, ⟨o, n, I.kIn a o hk, hc, hd, by simpa using hs⟩, ?_⟩
    have e := r.length
    simp only [Array.length_toList] at e
    omega
theorem Inv.tuple (I : Inv X pins σ H s) (h : SqT X.K H a xs) : ∃ its : List Value, Vals xs its ∧ IsTup s.heap a its.toArray ∧ xs.length ≤ sizeLine := by
  rcases h with h | ⟨o, its, n, hk, hc, hs, hz, r⟩
  · obtain ⟨z, its, r, p⟩ := h.ok I.hok
    exact ⟨its, r, p, z⟩
  · refine ⟨its.toList, r, ⟨o, I.kIn a o hk, hc, n, by simpa using hs⟩, ?_⟩
    have e := r.length
    simp only [Array.length_toList] at e
    omega
theorem Inv.list_inj (I : Inv X pins σ H s) (h : SqL X.K H a xs) (h' : SqL X.K H a ys) : xs = ys := by
  obtain ⟨its, r, ⟨o, n, e, _, _, d⟩, _⟩ := I.list h
  obtain ⟨its', r', ⟨o', n', e', _, _, d'⟩, _⟩ := I.list h'
  rw [e] at e'; cases e'
  rw [d] at d'
  injection d' with d1 _
  have : its = its' := by simpa using congrArg Array.toList d1
  subst this
  exact r.inj r'
theorem Inv.tuple_inj (I : Inv X pins σ H s) (h : SqT X.K H a xs) (h' : SqT X.K H a ys) : xs = ys := by
  obtain ⟨its, r, ⟨o, e, _, n, d⟩, _⟩ := I.tuple h
  obtain ⟨its', r', ⟨o', e', _, n', d'⟩, _⟩ := I.tuple h'
  rw [e] at e'; cases e'
  rw [d] at d'
  injection d' with d1 _
  have : its = its' := by simpa using congrArg Array.toList d1
  subst this
  exact r.inj r'
end

/-! ### another wish about exceptions -/
abbrev Cx.wish (X : Cx) (E : Value → Shared → Prop) : Cx := { X with xe := E }
/-- no exception leaves -/
abbrev Cx.nox (X : Cx) : Cx := X.wish fun _ _ => False
theorem Cx.Ok.wish {X : Cx} (ok : X.Ok) (E : Value → Shared → Prop) : (X.wish E).Ok :=
  ⟨ok.mod, ok.kind, ok.glob, ok.blt, ok.above, ok.inj, ok.has, ok.cab, ok.hd, ok.frames, ok.stk, ok.exf, ok.bs, ok.bsz, ok.noex, ok.exfs, ok.funs, ok.frf⟩
theorem Cx.Ok.unwish {X : Cx} {E : Value → Shared → Prop} (ok : (X.wish E).Ok) : X.Ok :=
  ⟨ok.mod, ok.kind, ok.glob, ok.blt, ok.above, ok.inj, ok.has, ok.cab, ok.hd, ok.frames, ok.stk, ok.exf, ok.bs, ok.bsz, ok.noex, ok.exfs, ok.funs, ok.frf⟩
section
variable {X : Cx} {pins : List (Addr × Obj)} {σ : St} {H : Hp} {s : Shared} {E : Value → Shared → Prop}
theorem Inv.wish (I : Inv X pins σ H s) (E : Value → Shared → Prop) : Inv (X.wish E) pins σ H s := ⟨I.ok.wish E, I.os, I.bare, I.base, I.loc, I.cell, I.free, I.freeC, I.pin, I.hok, I.len⟩
theorem Inv.unwish (I : Inv (X.wish E) pins σ H s) : Inv X pins σ H s := ⟨I.ok.unwish, I.os, I.bare, I.base, I.loc, I.cell, I.free, I.freeC, I.pin, I.hok, I.len⟩
theorem SP.unwish {D : Ends} {f : Flow} {s' : Shared} (h : SP (X.wish E) pins D f s') : SP X pins D f s' := by
  cases f with
  | next => obtain ⟨σ', H', I, q⟩ := h; exact ⟨σ', H', I.unwish, q⟩
  | brk => obtain ⟨σ', H', I, q⟩ := h; exact ⟨σ', H', I.unwish, q⟩
  | cont => obtain ⟨σ', H', I, q⟩ := h; exact ⟨σ', H', I.unwish, q⟩
  | ret u => obtain ⟨v, σ', H', I, r, q⟩ := h; exact ⟨v, σ', H', I.unwish, r, q⟩
theorem PE.nox {e : Expr} {t : TE} (h : PE X.nox e t) : PE X e t := fun pins s σ H Q I hw =>
  wpAny_mono (h pins s σ H Q (I.wish _) hw) (fun _ _ ⟨v, H', I', r, q⟩ => ⟨v, H', I'.unwish, r, q⟩) fun _ _ z => False.elim z
theorem PT.nox {e : Expr} {t : TT} (h : PT X.nox e t) : PT X e t := fun pins s σ H Q I hw =>
  wpAny_mono (h pins s σ H Q (I.wish _) hw) (fun _ _ ⟨H', I', q⟩ => ⟨H', I'.unwish, q⟩) fun _ _ z => False.elim z
theorem PSs.nox {st : List Stmt} {t : TS} (h : PSs X.nox st t) : PSs X st t := fun pins s σ H D I hw =>
  wpAny_mono (h pins s σ H D (I.wish _) hw) (fun _ _ q => q.unwish) fun _ _ z => False.elim z
end

/-! ### blocks and small statements -/
section
variable {X : Cx} {st : Stmt} {rest : List Stmt} {t u : TS} {e : Expr} {te : TE} {pos : Pos}
def tNext : TS := fun D σ H => D.nx σ H
def tSeq (t u : TS) : TS := fun D σ H => t { D with nx := u D } σ H
theorem pss_nil : PSs X [] tNext := fun _ _ σ H _ I h => wpAny_execs_nil ⟨σ, H, I, h⟩
theorem pss_cons (h1 : PS X st t) (h2 : PSs X rest u) : PSs X (st :: rest) (tSeq t u) := by
  intro pins s σ H D I h
  refine wpAny_execs_cons (thn (h1 pins s σ H { D with nx := u D } I h) fun f s1 q => ?_)
  cases f with
  | next =>
    obtain ⟨σ', H', I', q⟩ := q
    exact h2 pins s1 σ' H' D I' q
  | ret v => exact q
  | brk => exact q
  | cont => exact q
theorem pss_one (h1 : PS X st t) : PSs X [st] t := by
  intro pins s σ H D I h
  refine wpAny_execs_cons (thn (h1 pins s σ H D I h) fun f s1 q => ?_)
  cases f with
  | next => exact wpAny_execs_nil q
  | ret v => exact q
  | brk => exact q
  | cont => exact q
def tBreak : TS := fun D σ H => D.bk σ H
def tCont : TS := fun D σ H => D.ct σ H
theorem ps_pass : PS X (.Pass pos) tNext := fun _ _ σ H _ I h => wpAny_Pass ⟨σ, H, I, h⟩
theorem ps_break : PS X (.Break pos) tBreak := fun _ _ σ H _ I h => wpAny_Break ⟨σ, H, I, h⟩
theorem ps_continue : PS X (.Continue pos) tCont := fun _ _ σ H _ I h => wpAny_Continue ⟨σ, H, I, h⟩
/-- in a def's body nothing is shown -/
theorem Inv.quiet {pins : List (Addr × Obj)} {σ : St} {H : Hp} {s : Shared} (I : Inv X pins σ H s) : interactive X.env = false := by simp [interactive, I.ok.kind]
/-- a docstring -/
theorem ps_doc {x j pos pos'} : PS X (.Expr (.Constant (.str x) j pos) pos') tNext := fun _ s σ H _ I h => wpAny_Expr (Calls.Constant_str (show SP X _ _ .next { s with toks := s.toks + 1 } from ⟨σ, H, I.tok _, h⟩)) I.quiet
/-- an expression whose value is dropped -/
def tDrop (te : TE) : TS := fun D σ H => te σ H fun _ H1 => D.nx σ H1
theorem ps_expr (he : PE X e te) (hs : swapsWith e none pos.line X.env = pure false := by rfl) : PS X (.Expr e pos) (tDrop te) := by
  intro pins s σ H D I h
  exact wpAny_Expr_any (thn (he pins s σ H _ I h) fun v s1 ⟨x, H1, I1, r1, q1⟩ => ⟨σ, H1, I1, q1⟩) I.quiet hs
def tRet (te : TE) : TS := fun D σ H => te σ H D.rt
theorem ps_ret (he : PE X e te) : PS X (.Return (some e) pos) (tRet te) := by
  intro pins s σ H D I h
  exact wpAny_Return_some (thn (he pins s σ H _ I h) fun v s1 ⟨x, H1, I1, r1, q1⟩ => ⟨x, σ, H1, I1, r1, q1⟩)
def tRetN : TS := fun D _ H => D.rt .non H
theorem ps_retN : PS X (.Return none pos) tRetN := fun _ _ σ H _ I h => wpAny_Return_none ⟨.non, σ, H, I, rfl, h⟩
def tIfS (c : TT) (t u : TS) : TS := fun D σ H => c σ H fun b H1 => if b = true then t D σ H1 else u D σ H1
theorem ps_if {c : Expr} {a b : List Stmt} {tc : TT} (hc : PT X c tc) (ha : PSs X a t) (hb : PSs X b u) : PS X (.If c a b pos) (tIfS tc t u) := by
  intro pins s σ H D I h
  refine wpAny_If (thn (hc pins s σ H _ I h) fun d s1 ⟨H1, I1, q1⟩ => ?_)
  cases d with
  | true => exact ha pins s1 σ H1 D I1 q1
  | false => exact hb pins s1 σ H1 D I1 q1
/-- code that the proof never comes to -/
def tNever : TS := fun _ _ _ => False
theorem ps_never : PS X st tNever := fun _ _ _ _ _ _ h => h.elim
theorem pss_never {sts : List Stmt} : PSs X sts tNever := fun _ _ _ _ _ _ h => h.elim
end

/-! ### targets -/
abbrev TG := V → St → Hp → (St → Hp → Prop) → Prop
abbrev TGs := List V → St → Hp → (St → Hp → Prop) → Prop
def PG (X : Cx) (target : Expr) (t : TG) : Prop :=
  ∀ (pins : List (Addr × Obj)) (s : Shared) (σ : St) (H : Hp) (v : V) (u : Value) (Q : St → Hp → Prop), Inv X pins σ H s → RelV v u → t v σ H Q →
    wpAny (model X.prog X.w) X.A (assign target X.env u) (fun _ s' => ∃ σ' H', Inv X pins σ' H' s' ∧ Q σ' H') X.xe s
/-- several targets, one after another -/
def PGs (X : Cx) (ts : List Expr) (t : TGs) : Prop :=
  ∀ (pins : List (Addr × Obj)) (s : Shared) (σ : St) (H : Hp) (vs : List V) (us : List Value) (Q : St → Hp → Prop), Inv X pins σ H s → Vals vs us → t vs σ H Q →
    wpAny (model X.prog X.w) X.A (assignInOrder ((assignEach ts X.env).map (·.2)) us) (fun _ s' => ∃ σ' H', Inv X pins σ' H' s' ∧ Q σ' H') X.xe s
/-- o[i] = v, by values -/
abbrev TSet := V → V → V → Hp → (Hp → Prop) → Prop
def PSet (X : Cx) (t : TSet) : Prop :=
  ∀ (pins : List (Addr × Obj)) (s : Shared) (σ : St) (H : Hp) (o i v : V) (ov iv u : Value) (Q : Hp → Prop), Inv X pins σ H s → RelV o ov → RelV i iv → RelV v u → t o i v H Q →
    wpAny (model X.prog X.w) X.A (setItem ov iv u) (fun _ s' => ∃ H', Inv X pins σ H' s' ∧ Q H') X.xe s
/-- a op= b, by values -/
abbrev TIp := V → V → Hp → VK → Prop
def PIp (X : Cx) (op : Operator) (t : TIp) : Prop :=
  ∀ (pins : List (Addr × Obj)) (s : Shared) (σ : St) (H : Hp) (x y : V) (v u : Value) (Q : VK), Inv X pins σ H s → RelV x v → RelV y u → t x y H Q →
    wpAny (model X.prog X.w) X.A (inplaceOp op v u) (EP X pins σ Q) X.xe s
section
variable {X : Cx} {pos : Pos}
def gName (i : Nat) : TG := fun v σ H Q => Q (σ.set i (some v)) H
theorem pg_name {i : Nat} {x : Str} (hN : X.N.Nodup) (hi : X.N[i]? = some x) (hx : Loc X.env.scope x) (hf : X.fn x = true ∨ X.env.scope.names.lookup x = some .local := by first | exact .inl rfl | exact .inr rfl | assumption) : PG X (.Name x pos) (gName i) := by
  intro pins s σ H v u Q I r h
  exact wpAny_assign_Name (store_ok I hN hi hx r (fun s' I' => ⟨_, H, I', h⟩) hf)
def gNil : TGs := fun vs σ H Q => vs = [] ∧ Q σ H
def gCons (t : TG) (u : TGs) : TGs := fun vs σ H Q => ∃ v r, vs = v :: r ∧ t v σ H fun σ' H' => u r σ' H' Q
theorem pgs_nil : PGs X [] gNil := by
  intro pins s σ H vs us Q I r h
  obtain ⟨e, h⟩ := h
  subst e
  cases r
  exact assignInOrder_nil ⟨σ, H, I, h⟩
theorem pgs_cons {e : Expr} {es : List Expr} {t : TG} {u : TGs} (h1 : PG X e t) (h2 : PGs X es u)
    (hs : (assignEach (e :: es) X.env).map (·.2) = assign e X.env :: (assignEach es X.env).map (·.2) := by rfl) : PGs X (e :: es) (gCons t u) := by
  intro pins s σ H vs us Q I r h
  obtain ⟨v, vr, e1, h⟩ := h
  subst e1
  cases r with
  | cons r rr =>
    rw [hs]
    refine assignInOrder_cons (thn (h1 pins s σ H _ _ _ I r h) fun _ s1 ⟨σ1, H1, I1, q1⟩ => ?_)
    exact h2 pins s1 σ1 H1 _ _ Q I1 rr q1
/-- (a, b, ..) = a tuple of that length -/
def gTup (K : PySem.W.Frag) (n : Nat) (t : TGs) : TG := fun v σ H Q => ∃ a xs, v = .ref a ∧ SqT K H a xs ∧ xs.length = n ∧ t xs σ H Q
theorem pg_tup {es : List Expr} {k : Nat} {t : TGs} {n : Nat} (hc : X.calm = true) (h : PGs X es t)
    (hn : (assignEach es X.env).length = n := by rfl) (hst : (assignEach es X.env).findIdx? (·.1) = none := by rfl) : PG X (.Tuple es k pos) (gTup X.K n t) := by
  intro pins s σ H v u Q I r hw
  obtain ⟨a, xs, e1, hq, hl, hw⟩ := hw
  subst e1
  cases r
  obtain ⟨its, rv, ht, hz⟩ := I.tuple hq
  refine assign_Tuple_tuple (I.ok.hd hc) ht (by simp [hn, ← hl, rv.length]) hst fun h' hx => ?_
  have I1 : Inv X pins σ H { s with heap := h' } := I.kept (t' := s.toks) fun b o e => hx b o (Nat.ne_of_lt (Heap.lt_size e)) e
  exact h pins _ σ H xs _ Q I1 (by simpa using rv) hw
/-- o[i] = .. -/
def gSub (to ti : TE) (t : TSet) : TG := fun v σ H Q => to σ H fun o H1 => ti σ H1 fun i H2 => t o i v H2 fun H3 => Q σ H3
theorem pg_sub {o i : Expr} {to ti : TE} {t : TSet} (ho : PE X o to) (hi : PE X i ti) (hs : PSet X t)
    (ha : ∀ v, assign (.Subscript o i pos) X.env v = (do
      let ov ← holding [v] (eval o X.env)
      let iv ← holding [v, ov] (eval i X.env)
      standAt pos
      holding [v, ov, iv] (setItem ov iv v)
      release [v, ov, iv] []) := by intro _; rfl) : PG X (.Subscript o i pos) (gSub to ti t) := by
  intro pins s σ H v u Q I r h
  rw [ha]
  refine wpAny_bind (wpAny_holding (thn (ho pins s σ H _ I h) fun ov s1 ⟨x, H1, I1, r1, q1⟩ => ?_))
  refine wpAny_bind (wpAny_holding (thn (hi pins s1 σ H1 _ I1 q1) fun iv s2 ⟨y, H2, I2, r2, q2⟩ => ?_))
  refine wpAny_bind (wpAny_standAt (wpAny_bind (wpAny_holding (thn (hs pins s2 σ H2 x y v ov iv u _ I2 r1 r2 r q2) fun _ s3 ⟨H3, I3, q3⟩ => ?_))))
  exact wpAny_release ⟨σ, H3, I3, q3⟩
/-- target = value -/
def tAsg (te : TE) (g : TG) : TS := fun D σ H => te σ H fun x H1 => g x σ H1 D.nx
theorem ps_asg {tg e : Expr} {te : TE} {g : TG} (he : PE X e te) (hg : PG X tg g) (hs : swapsWithSole [tg] e pos.line X.env = pure false := by rfl) (hw : swappedStores [tg] e X.env = pure none := by rfl)
    (h1 : (assignEach [tg] X.env).map (·.2) = [assign tg X.env] := by rfl) : PS X (.Assign [tg] e pos) (tAsg te g) := by
  intro pins s σ H D I h
  refine wpAny_Assign_stores (thn (he pins s σ H _ I h) fun v s1 ⟨x, H1, I1, r1, q1⟩ => ?_) hs hw
  rw [h1]
  exact thn (hg pins s1 σ H1 x v _ I1 r1 q1) fun _ s2 q => q
/-- name = value -/
theorem ps_set {i : Nat} {x : Str} {e : Expr} {te : TE} {pos' : Pos} (hN : X.N.Nodup) (hi : X.N[i]? = some x) (hx : Loc X.env.scope x) (he : PE X e te) (hs : swapsWith e (some (.Name x pos')) pos.line X.env = pure false := by rfl) (hf : X.fn x = true ∨ X.env.scope.names.lookup x = some .local := by first | exact .inl rfl | exact .inr rfl | assumption) :
    PS X (.Assign [.Name x pos'] e pos) (tAsg te (gName i)) := by
  intro pins s σ H D I h
  refine wpAny_Assign_Name (thn (he pins s σ H _ I h) fun v s1 ⟨y, H1, I1, r1, q1⟩ => ?_) hs
  exact store_ok I1 hN hi hx r1 (fun s2 I2 => ⟨_, H1, I2, q1⟩) hf
/-- a, b = x, y with plain local names: stored from the right; the pair itself is not tracked (the opening rows as in PyProof/Rows/TupAssign.lean:23) -/
def tPar (i j : Nat) (ta : TA) : TS := fun D σ H => ta σ H fun vs H1 => ∃ v w, vs = [v, w] ∧ D.nx ((σ.set i (some v)).set j (some w)) H1
theorem ps_par {i j : Nat} {x y : Str} {a b : Expr} {ta : TA} {px py pt : Pos} {kt k2 pt2} (hc : X.calm = true) (hN : X.N.Nodup) (hi : X.N[i]? = some x) (hj : X.N[j]? = some y) (hij : i ≠ j)
    (hx : X.env.scope.names.lookup x = some .local) (hy : X.env.scope.names.lookup y = some .local) (ha : PA X [a, b] ta)
    (hw : swappedStores [.Tuple [.Name x px, .Name y py] kt pt] (.Tuple [a, b] k2 pt2) X.env = pure (some [x, y]))
    (hs : swapsWithSole [.Tuple [.Name x px, .Name y py] kt pt] (.Tuple [a, b] k2 pt2) pos.line X.env = pure false := by rfl) :
    PS X (.Assign [.Tuple [.Name x px, .Name y py] kt pt] (.Tuple [a, b] k2 pt2) pos) (tPar i j ta) := by
  intro pins s σ H D I h
  rw [exec_Assign_arm]
  refine wpAny_bind (wpAny_standAt ?_)
  rw [hs]
  refine wpAny_bind (wpAny_pure ?_)
  rw [if_neg (by decide)]
  refine wpAny_bind (Tuple_ (thn (ha _ pins s σ H _ I h) fun us s1 ⟨vs, H1, I1, r1, q1⟩ => ?_))
  obtain ⟨v, w, e1, q1⟩ := q1
  subst e1
  obtain ⟨u1, u2, rfl, rv, rw'⟩ : ∃ u1 u2, us = [u1, u2] ∧ RelV v u1 ∧ RelV w u2 := by
    cases r1 with
    | cons p q =>
      cases q with
      | cons p' q' =>
        cases q'
        exact ⟨_, _, rfl, p, p'⟩
  refine wpAny_newObj_type ?_ (by show 2 ≤ sizeLine; decide)
  have I2 : Inv X pins σ H1 { s1 with heap := s1.heap.push { cls := .type "tuple", data := .seq [u1, u2].toArray } } := I1.kept (t' := s1.toks) fun b o e => Heap.get?_push_of_some _ e
  rw [hw]
  refine wpAny_bind (wpAny_pure ?_)
  show wpAny (model X.prog X.w) X.A (do rule "assign.swapped-stores"; let items ← unpackItems (.ref s1.heap.objs.size) 2 none; assignInOrder [fun v => bindName X.env y v, fun v => bindName X.env x v] items.reverse; pure Flow.next) _ _ _
  refine wpAny_bind (wpAny_rule (wpAny_bind (unpackItems_tuple (items := #[u1, u2]) (I.ok.hd hc) (IsTup.new s1.heap _) fun h' hx' => ?_)))
  have I3 := I2.kept (h' := h') (t' := s1.toks) fun b o e => hx' b o (Nat.ne_of_lt (Heap.lt_size e)) e
  show wpAny _ _ (assignInOrder [fun v => bindName X.env y v, fun v => bindName X.env x v] [u2, u1] >>= fun _ => pure Flow.next) _ _ _
  refine wpAny_bind (assignInOrder_cons (wpAny_bindName (store_ok I3 hN hj (.inl hy) rw' (fun s2 I4 => ?_) (.inr hy))))
  refine assignInOrder_cons (wpAny_bindName (store_ok I4 hN hi (.inl hx) rv (fun s3 I5 => assignInOrder_nil (wpAny_pure ?_)) (.inr hx)))
  rw [List.set_comm _ _ (Ne.symm hij)] at I5
  exact ⟨_, H1, I5, q1⟩
/-- name op= e -/
def tAug (i : Nat) (te : TE) (ti : TIp) : TS := fun D σ H => ∃ x, σ[i]? = some (some x) ∧ te σ H fun y H1 => ti x y H1 fun z H2 => D.nx (σ.set i (some z)) H2
theorem ps_aug {i : Nat} {x : Str} {e : Expr} {te : TE} {op : Operator} {ti : TIp} {pos' : Pos} (hN : X.N.Nodup) (hi : X.N[i]? = some x) (hx : Loc X.env.scope x) (he : PE X e te) (ho : PIp X op ti) (hf : X.fn x = true ∨ X.env.scope.names.lookup x = some .local := by first | exact .inl rfl | exact .inr rfl | assumption) :
    PS X (.AugAssign (.Name x pos') op e pos) (tAug i te ti) := by
  intro pins s σ H D I h
  obtain ⟨v, e1, h⟩ := h
  obtain ⟨m, hn, hl⟩ := I.loc
  have vis : Vis X.env.scope x := by rcases hx with k | k; exact .inl k; exact .inr (.inl k)
  obtain ⟨u, r, l⟩ := hl i x v hi e1 vis
  refine wpAny_AugAssign_Name ?_
  have go : wpAny (model X.prog X.w) X.A (eval e X.env) (fun w s₂ => wpAny (model X.prog X.w) X.A (inplaceOp op u w) (fun r s₃ => wpAny (model X.prog X.w) X.A (storeName X.env x r) (fun _ => SP X pins D .next) X.xe s₃) X.xe s₂) X.xe s := by
    refine thn (he pins s σ H _ I h) fun w s1 ⟨y, H1, I1, r1, q1⟩ => ?_
    refine thn (ho pins s1 σ H1 v y u w _ I1 r r1 q1) fun z s2 ⟨zv, H2, I2, r2, q2⟩ => ?_
    exact store_ok I2 hN hi hx r2 (fun s3 I3 => ⟨_, H2, I3, q2⟩) hf
  rcases l with ⟨hk, hm⟩ | ⟨hk, c, hc, hcell⟩
  · exact wpAny_loadName_local I.ok.kind hk hn hm go
  · rcases hk with hk | hk
    · exact wpAny_loadName_cell I.ok.kind hk hc hcell go
    · rcases hx with k | k
      · have : X.env.scope.names.lookup x = some .free := hk
        rw [k] at this; cases this
      · have : X.env.scope.names.lookup x = some .free := hk
        rw [k] at this; cases this
/-- o[i] op= e -/
def tAugS (to ti te : TE) (tget : V → V → Hp → VK → Prop) (tip : TIp) (tset : TSet) : TS := fun D σ H => to σ H fun o H1 => ti σ H1 fun i H2 => tget o i H2 fun x H3 => te σ H3 fun y H4 => tip x y H4 fun z H5 => tset o i z H5 fun H6 => D.nx σ H6
/-- o[i], by values -/
def PGet (X : Cx) (t : V → V → Hp → VK → Prop) : Prop :=
  ∀ (pins : List (Addr × Obj)) (s : Shared) (σ : St) (H : Hp) (o i : V) (ov iv : Value) (Q : VK), Inv X pins σ H s → RelV o ov → RelV i iv → t o i H Q →
    wpAny (model X.prog X.w) X.A (getItem ov iv) (EP X pins σ Q) X.xe s
theorem ps_augS {o i e : Expr} {to ti te : TE} {tget : V → V → Hp → VK → Prop} {tip : TIp} {tset : TSet} {op : Operator} {tpos : Pos} (ho : PE X o to) (hi : PE X i ti) (hg : PGet X tget) (he : PE X e te) (hp : PIp X op tip) (hs : PSet X tset)
    (ha : ∀ ov iv new, augStore i ov iv new = (do holding [new, ov, iv] (setItem ov iv new); release [new, ov, iv] []; pure .next) := by intros; rfl) : PS X (.AugAssign (.Subscript o i tpos) op e pos) (tAugS to ti te tget tip tset) := by
  intro pins s σ H D I h
  refine wpAny_AugAssign_SubscriptAny (thn (ho pins s σ H _ I h) fun ov s1 ⟨x1, H1, I1, r1, q1⟩ => ?_) ha
  refine thn (hi pins s1 σ H1 _ I1 q1) fun iv s2 ⟨x2, H2, I2, r2, q2⟩ => ?_
  refine thn (hg pins s2 σ H2 x1 x2 ov iv _ I2 r1 r2 q2) fun old s3 ⟨x3, H3, I3, r3, q3⟩ => ?_
  refine thn (he pins s3 σ H3 _ I3 q3) fun v s4 ⟨x4, H4, I4, r4, q4⟩ => ?_
  refine thn (hp pins s4 σ H4 x3 x4 old v _ I4 r3 r4 q4) fun new s5 ⟨x5, H5, I5, r5, q5⟩ => ?_
  exact thn (hs pins s5 σ H5 x1 x2 x5 ov iv new _ I5 r1 r2 r5 q5) fun _ s6 ⟨H6, I6, q6⟩ => ⟨σ, H6, I6, q6⟩
/-- ints -/
def ipI (f : Int → Int → Int) : TIp := fun x y H Q => ∃ i j, x = .int i ∧ y = .int j ∧ Q (.int (f i j)) H
theorem ip_add : PIp X .Add (ipI fun i j => i + j) := by
  intro pins s σ H x y v u Q I r1 r2 h
  obtain ⟨i, j, e1, e2, q⟩ := h
  subst e1; subst e2
  obtain ⟨t, rfl⟩ := r1
  obtain ⟨t', rfl⟩ := r2
  exact iadd_int ⟨.int _, H, I.tok _, ⟨_, rfl⟩, q⟩
theorem ip_sub : PIp X .Sub (ipI fun i j => i - j) := by
  intro pins s σ H x y v u Q I r1 r2 h
  obtain ⟨i, j, e1, e2, q⟩ := h
  subst e1; subst e2
  obtain ⟨t, rfl⟩ := r1
  obtain ⟨t', rfl⟩ := r2
  exact isub_int ⟨.int _, H, I.tok _, ⟨_, rfl⟩, q⟩
end

/-! ### while -/
section
variable {X : Cx} {pos : Pos}
/-- the invariant W with its measure -/
def tWhile (c : TT) (tb : TS) : TS := fun D σ H => ∃ W : Nat → St → Hp → Prop, (∃ m, W m σ H) ∧ ∀ m σ H, W m σ H →
  c σ H fun b H1 => if b = true then ∃ N : St → Hp → Prop, (∀ σ' H', N σ' H' → ∃ m', m' < m ∧ W m' σ' H') ∧ tb { D with nx := N, ct := N, bk := D.nx } σ H1 else D.nx σ H1
theorem ps_while {c : Expr} {body : List Stmt} {tc : TT} {tb : TS} (hp : PassesOwn (model X.prog X.w) X.A X.env X.xe) (hc : PT X c tc) (hb : PSs X body tb) : PS X (.While c body [] pos) (tWhile tc tb) := by
  intro pins s σ H D I h
  obtain ⟨W, ⟨m0, w0⟩, turn⟩ := h
  refine wpAny_While (codeAny_whileLoop (fun n s' => ∃ σ' H', Inv X pins σ' H' s' ∧ W n σ' H') ?_ m0 ⟨σ, H, I, w0⟩)
  rintro n s1 ⟨σ1, H1, I1, w1⟩
  refine wpAny_passesOwn hp (thn (hc pins s1 σ1 H1 _ I1 (turn n σ1 H1 w1)) fun b s2 ⟨H2, I2, q2⟩ => ?_)
  cases b with
  | true =>
    obtain ⟨N, hN, q2⟩ := q2
    rw [if_pos rfl]
    refine wpAny_passesOwn hp (thn (hb pins s2 σ1 H2 _ I2 q2) fun f s3 q3 => ?_)
    cases f with
    | next =>
      obtain ⟨σ3, H3, I3, n3⟩ := q3
      obtain ⟨m', hm, w3⟩ := hN σ3 H3 n3
      exact ⟨m', hm, σ3, H3, I3, w3⟩
    | cont =>
      obtain ⟨σ3, H3, I3, n3⟩ := q3
      obtain ⟨m', hm, w3⟩ := hN σ3 H3 n3
      exact ⟨m', hm, σ3, H3, I3, w3⟩
    | brk => exact q3
    | ret v => exact q3
  | false =>
    rw [if_neg Bool.false_ne_true]
    exact wpAny_execs_nil ⟨σ1, H2, I2, q2⟩
end

/-! ### what a loop or a comprehension walks -/
/-- at turn i: it yields x (the heap may grow), or it stops -/
structure It where
  go : Nat → Hp → Prop
  yld : Nat → Hp → V → Hp → Prop
  stop : Nat → Hp → Prop
/-- the iterator's own objects may turn: they are not the frame's, not pinned, younger than the entry (or a comprehension's own) -/
def FpOk (X : Cx) (pins : List (Addr × Obj)) (H : Hp) (b : Addr) : Prop :=
  H b = none ∧ b ≠ X.env.locals ∧ b ∉ X.fs ∧ (b ∈ X.ex ∨ X.s₀.heap.objs.size ≤ b) ∧ (∀ x c, X.env.cells.lookup x = some c → c ≠ b) ∧ ∀ p ∈ X.pn ++ pins, p.1 ≠ b
theorem Inv.fpOk {X : Cx} {pins : List (Addr × Obj)} {σ : St} {H H' : Hp} {s : Shared} {b : Addr} (I : Inv X pins σ H s) (hb : s.heap.objs.size ≤ b) (hn : H' b = none) : FpOk X pins H' b := by
  refine ⟨hn, Nat.ne_of_gt (Nat.lt_of_lt_of_le I.lt hb), I.nofs hb, .inr (Nat.le_trans I.sz hb), fun x c e z => ?_, fun p hp z => ?_⟩
  · obtain ⟨v, q⟩ := I.cell x c e
    exact absurd (Nat.lt_of_lt_of_le q.lt (by rw [z]; exact hb)) (Nat.lt_irrefl _)
  · exact absurd (Nat.lt_of_lt_of_le (Heap.lt_size (I.pin p hp).1) (by rw [z]; exact hb)) (Nat.lt_irrefl _)
structure Turn (P : Program) (w : World) (K : PySem.W.Frag) (tg : Expr) (J : It) (fp : List Addr) (it : Addr) (tn : Nat → Heap → Prop) : Prop where
  mem : it ∈ fp
  obj : ∀ i h, tn i h → ∀ b ∈ fp, ∃ o, h.get? b = some o ∧ ∀ v, o.data ≠ .cell v
  keep : ∀ i h h', tn i h → (∀ b ∈ fp, ∀ o, h.get? b = some o → h'.get? b = some o) → tn i h'
  item : ∀ (X : Cx), X.prog = P → X.w = w → X.K = K → X.calm = true → ∀ (i : Nat) (pins : List (Addr × Obj)) (s : Shared) (σ : St) (H : Hp) (E : Value → Shared → Prop), Inv X pins σ H s → (∀ b ∈ fp, FpOk X pins H b) → tn i s.heap → J.go i H →
    wpAny (model P w) X.A (pyNext (.ref it)) (fun r s1 => ∃ u, r = some u ∧
      wpAny (model P w) X.A (letOwnedTupleGo tg (.ref it) u) (fun _ s2 => ∃ x H', Inv X pins σ H' s2 ∧ RelV x u ∧ J.yld i H x H' ∧ tn (i + 1) s2.heap ∧ ∀ b ∈ fp, H' b = none) E s1) E s
  done : ∀ (X : Cx), X.prog = P → X.w = w → X.K = K → X.calm = true → ∀ (i : Nat) (pins : List (Addr × Obj)) (s : Shared) (σ : St) (H : Hp) (E : Value → Shared → Prop), Inv X pins σ H s → (∀ b ∈ fp, FpOk X pins H b) → tn i s.heap → J.stop i H →
    wpAny (model P w) X.A (pyNext (.ref it)) (fun r s1 => r = none ∧ Inv X pins σ H s1) E s
  self : ∀ (A : Around) (i : Nat) (s : Shared) (Q : Value → Shared → Prop) (E : Value → Shared → Prop), tn i s.heap → Q (.ref it) s → wpAny (model P w) A (pyIter (.ref it)) Q E s
abbrev TI := St → Hp → (It → Hp → Prop) → Prop
/-- an iterator has come -/
def PIE (X : Cx) (pins : List (Addr × Obj)) (σ : St) (tg : Expr) (R : It → Hp → Prop) (itv : Value) (s2 : Shared) : Prop :=
  ∃ (it : Addr) (fp : List Addr) (tn : Nat → Heap → Prop) (J : It) (H' : Hp), itv = .ref it ∧ Inv X pins σ H' s2 ∧ Turn X.prog X.w X.K tg J fp it tn ∧ tn 0 s2.heap ∧ (∀ b ∈ fp, FpOk X pins H' b) ∧ R J H'
def PI (X : Cx) (tg iter : Expr) (wi : TI) : Prop :=
  ∀ (pins : List (Addr × Obj)) (s : Shared) (σ : St) (H : Hp) (R : It → Hp → Prop), Inv X pins σ H s → wi σ H R →
    wpAny (model X.prog X.w) X.A (eval iter X.env) (fun v s1 => wpAny (model X.prog X.w) X.A (pyIter v) (PIE X pins σ tg R) X.xe s1) X.xe s

/-- the step ahead of the store is nothing for an iterator that keeps no tuple -/
theorem go_of {M : Model} {A : Around} {E : Value → Shared → Prop} {s : Shared} {tg : Expr} {it : Addr} {u : Value} {o : Obj} {n : String} {vs : Array Value} {Q : Unit → Shared → Prop} (ho : s.heap.get? it = some o) (hc : o.cls = .type n) (hd : o.data = .fields vs)
    (hn : ["enumerate", "zip", "dict_itemiterator", "dict_reverseitemiterator", "odict_iterator", "itertools.zip_longest", "itertools.pairwise"].contains n = false) (hQ : Q () s) : wpAny M A (letOwnedTupleGo tg (.ref it) u) Q E s := by
  unfold letOwnedTupleGo
  cases tg <;> first
    | exact wpAny_pure hQ
    | (cases u <;> first
        | exact wpAny_pure hQ
        | (refine wpAny_bind (wpAny_load ho ?_)
           rw [hc, hd]
           show wpAny M A (if (["enumerate", "zip", "dict_itemiterator", "dict_reverseitemiterator", "odict_iterator", "itertools.zip_longest", "itertools.pairwise"].contains n && vs[0]? == some (rawInt _)) = true then _ else _) Q E s
           rw [if_neg (by intro h; rw [hn, Bool.false_and] at h; cases h)]
           exact wpAny_pure hQ))

/-- the list at a, as it stands at each turn (a loop may append to it) -/
def Itl (K : PySem.W.Frag) (a : Addr) : It :=
  ⟨fun i H => ∃ xs x, SqL K H a xs ∧ xs[i]? = some x, fun i H x H' => H' = H ∧ ∀ xs, SqL K H a xs → xs[i]? = some x, fun i H => ∃ xs, SqL K H a xs ∧ xs.length ≤ i⟩
def Itt (K : PySem.W.Frag) (a : Addr) : It :=
  ⟨fun i H => ∃ xs x, SqT K H a xs ∧ xs[i]? = some x, fun i H x H' => H' = H ∧ ∀ xs, SqT K H a xs → xs[i]? = some x, fun i H => ∃ xs, SqT K H a xs ∧ xs.length ≤ i⟩
/-- lo, lo + 1, .. (n of them) -/
def Itr (lo : Int) (n : Nat) : It := ⟨fun i _ => i < n, fun i H x H' => H' = H ∧ x = .int (lo + i), fun i _ => n ≤ i⟩
theorem turn_list {P : Program} {w : World} {K : PySem.W.Frag} {tg : Expr} (a it : Addr) : Turn P w K tg (Itl K a) [it] it (fun i h => h.IsListIter it a i) where
  mem := by simp
  obj := fun i h st b hb => by
    have e : b = it := by simpa using hb
    subst e
    obtain ⟨o, e, c, d⟩ := st
    exact ⟨o, e, fun v z => by rw [d] at z; cases z⟩
  keep := fun i h h' st k => st.at fun o e => k it (by simp) o e
  item := by
    intro X hP hw hK hc i pins s σ H E I hf st hg
    subst hP hw hK
    obtain ⟨xs, x, hq, hx⟩ := hg
    obtain ⟨its, rv, p, hz⟩ := I.list hq
    obtain ⟨u, hu, ru⟩ := rv.get hx
    obtain ⟨f0, f1, f2, f3, f4, f5⟩ := hf it (by simp)
    refine wpAny_pyNext_list_item st p.isList (x := u) (by simpa using hu) fun h' st' sb => ?_
    have I1 : Inv X pins σ H { s with heap := h' } := I.turned (t' := s.toks) (fun b o hb e => (sb.2 b hb).trans e) f0 f1 f3 f4 f5
    obtain ⟨o, e, c, d⟩ := id st'
    exact ⟨u, rfl, go_of (s := { s with heap := h' }) e c d (by decide) ⟨x, H, I1, ru, ⟨rfl, fun ys hy => by rw [I.list_inj hy hq]; exact hx⟩, st', fun b hb => (hf b hb).1⟩⟩
  done := by
    intro X hP hw hK hc i pins s σ H E I hf st hg
    subst hP hw hK
    obtain ⟨xs, hq, hx⟩ := hg
    obtain ⟨its, rv, p, hz⟩ := I.list hq
    obtain ⟨f0, f1, f2, f3, f4, f5⟩ := hf it (by simp)
    have hl := rv.length
    exact wpAny_pyNext_list_end (I.ok.hd hc) st p.isList (by simp; omega) fun h' eb => ⟨rfl, I.turned (t' := s.toks) (fun b o hb e => eb b o hb e) f0 f1 f3 f4 f5⟩
  self := fun _ _ _ _ _ st h => wpAny_pyIter_listiter st h
theorem turn_tuple {P : Program} {w : World} {K : PySem.W.Frag} {tg : Expr} (a it : Addr) : Turn P w K tg (Itt K a) [it] it (fun i h => h.IsTupleIter it a i) where
  mem := by simp
  obj := fun i h st b hb => by
    have e : b = it := by simpa using hb
    subst e
    obtain ⟨o, e, c, d⟩ := st
    exact ⟨o, e, fun v z => by rw [d] at z; cases z⟩
  keep := fun i h h' st k => st.at fun o e => k it (by simp) o e
  item := by
    intro X hP hw hK hc i pins s σ H E I hf st hg
    subst hP hw hK
    obtain ⟨xs, x, hq, hx⟩ := hg
    obtain ⟨its, rv, p, hz⟩ := I.tuple hq
    obtain ⟨u, hu, ru⟩ := rv.get hx
    obtain ⟨f0, f1, f2, f3, f4, f5⟩ := hf it (by simp)
    refine wpAny_pyNext_tuple_item st (show s.heap.IsTuple a its.toArray from p) (x := u) (by simpa using hu) fun h' st' sb => ?_
    have I1 : Inv X pins σ H { s with heap := h' } := I.turned (t' := s.toks) (fun b o hb e => (sb.2 b hb).trans e) f0 f1 f3 f4 f5
    obtain ⟨o, e, c, d⟩ := id st'
    exact ⟨u, rfl, go_of (s := { s with heap := h' }) e c d (by decide) ⟨x, H, I1, ru, ⟨rfl, fun ys hy => by rw [I.tuple_inj hy hq]; exact hx⟩, st', fun b hb => (hf b hb).1⟩⟩
  done := by
    intro X hP hw hK hc i pins s σ H E I hf st hg
    subst hP hw hK
    obtain ⟨xs, hq, hx⟩ := hg
    obtain ⟨its, rv, p, hz⟩ := I.tuple hq
    obtain ⟨f0, f1, f2, f3, f4, f5⟩ := hf it (by simp)
    have hl := rv.length
    exact wpAny_pyNext_tuple_end (I.ok.hd hc) st (show s.heap.IsTuple a its.toArray from p) (by simp; omega) fun h' eb => ⟨rfl, I.turned (t' := s.toks) (fun b o hb e => eb b o hb e) f0 f1 f3 f4 f5⟩
  self := fun _ _ _ _ _ st h => wpAny_pyIter_tupleiter st h
theorem turn_range {P : Program} {w : World} {K : PySem.W.Frag} {tg : Expr} (it : Addr) (lo : Int) (n : Nat) : Turn P w K tg (Itr lo n) [it] it (fun i h => IsRangeIter h it (lo + (i : Nat) * 1) ((n : Int) - (i : Nat)) 1) where
  mem := by simp
  obj := fun i h st b hb => by
    have e : b = it := by simpa using hb
    subst e
    exact ⟨_, st, fun v z => by
      have z' : Data.fields _ = Data.cell v := z
      cases z'⟩
  keep := fun i h h' st k => k it (by simp) _ st
  item := by
    intro X hP hw hK hc i pins s σ H E I hf st hg
    subst hP hw hK
    obtain ⟨f0, f1, f2, f3, f4, f5⟩ := hf it (by simp)
    have W := Walks.range (prog := X.prog) (w := X.w) (I.ok.hd hc) it lo 1 n
    refine W.item i s _ _ hg st fun v h' tk hv st' kk => ?_
    obtain ⟨t, rfl⟩ := hv
    have I1 : Inv X pins σ H { s with heap := h', toks := tk } := I.turned (fun b o hb e => kk b o (by simpa using hb) e) f0 f1 f3 f4 f5
    refine ⟨_, rfl, go_of (s := { s with heap := h', toks := tk }) (n := "range_iterator") st' rfl rfl (by decide) ⟨.int (lo + i), H, I1, ⟨t, ?_⟩, ⟨rfl, rfl⟩, st', fun b hb => (hf b hb).1⟩⟩
    rw [Int.mul_one]
  done := by
    intro X hP hw hK hc i pins s σ H E I hf st hg
    subst hP hw hK
    obtain ⟨f0, f1, f2, f3, f4, f5⟩ := hf it (by simp)
    exact wpAny_pyNext_range_end (I.ok.hd hc) st (by have : n ≤ i := hg; omega) fun h' eb => ⟨rfl, I.turned (t' := s.toks) (fun b o hb e => eb b o hb e) f0 f1 f3 f4 f5⟩
  self := fun _ _ _ _ _ st h => wpAny_pyIter_rangeiter st h
end L2

namespace L2
open PySem PySem.Spec PyProof.Rows
section
variable {X : Cx} {tg : Expr}
def iList (K : PySem.W.Frag) (tl : TE) : TI := fun σ H R => tl σ H fun x H1 => ∃ a, x = .ref a ∧ (∃ xs, SqL K H1 a xs) ∧ R (Itl K a) H1
def iTup (K : PySem.W.Frag) (tl : TE) : TI := fun σ H R => tl σ H fun x H1 => ∃ a, x = .ref a ∧ (∃ xs, SqT K H1 a xs) ∧ R (Itt K a) H1
theorem pi_list {l : Expr} {tl : TE} (hl : PE X l tl) : PI X tg l (iList X.K tl) := by
  intro pins s σ H R I h
  refine thn (hl pins s σ H _ I h) fun v s1 ⟨x, H1, I1, r1, q1⟩ => ?_
  obtain ⟨a, e, ⟨xs, hq⟩, q⟩ := q1
  subst e
  cases r1
  obtain ⟨its, rv, p, hz⟩ := I1.list hq
  refine wpAny_pyIter_list p.isList ?_
  refine ⟨s1.heap.objs.size, [s1.heap.objs.size], _, _, H1, rfl, I1.kept (t' := s1.toks) fun b o e => Heap.get?_push_of_some _ e, turn_list a _, ⟨_, Heap.get?_push_size _ rfl, rfl, rfl⟩, fun b hb => ?_, q⟩
  have e : b = s1.heap.objs.size := by simpa using hb
  subst e
  exact I1.fpOk (Nat.le_refl _) (I1.hok.fresh (Nat.le_refl _))
theorem pi_tup {l : Expr} {tl : TE} (hl : PE X l tl) : PI X tg l (iTup X.K tl) := by
  intro pins s σ H R I h
  refine thn (hl pins s σ H _ I h) fun v s1 ⟨x, H1, I1, r1, q1⟩ => ?_
  obtain ⟨a, e, ⟨xs, hq⟩, q⟩ := q1
  subst e
  cases r1
  obtain ⟨its, rv, p, hz⟩ := I1.tuple hq
  refine wpAny_pyIter_tuple (show s1.heap.IsTuple a its.toArray from p) ?_
  refine ⟨s1.heap.objs.size, [s1.heap.objs.size], _, _, H1, rfl, I1.kept (t' := s1.toks) fun b o e => Heap.get?_push_of_some _ e, turn_tuple a _, ⟨_, Heap.get?_push_size _ rfl, rfl, rfl⟩, fun b hb => ?_, q⟩
  have e : b = s1.heap.objs.size := by simpa using hb
  subst e
  exact I1.fpOk (Nat.le_refl _) (I1.hok.fresh (Nat.le_refl _))
/-- a range object just made, walked -/
theorem range_it {pins : List (Addr × Obj)} {σ : St} {H : Hp} {s : Shared} {R : It → Hp → Prop} {E : Value → Shared → Prop} {lo hi : Int} {t u v : Tok} {tk : Nat} (I : Inv X pins σ H s) (h1 : -(2 ^ 62) ≤ lo) (h2 : lo < 2 ^ 62) (h3 : -(2 ^ 62) ≤ hi) (h4 : hi < 2 ^ 62)
    (q : R (Itr lo (hi - lo).toNat) H) : wpAny (model X.prog X.w) X.A (pyIter (.ref s.heap.objs.size)) (PIE X pins σ tg R) E { s with heap := s.heap.push { cls := .type "range", data := .fields #[.int lo t, .int hi u, .int 1 v] }, toks := tk } := by
  refine wpAny_pyIter_range (IsRange.new ..) (small_one h1 h2 h3 h4) ?_
  have I1 : Inv X pins σ H { s with heap := s.heap.push { cls := .type "range", data := .fields #[.int lo t, .int hi u, .int 1 v] }, toks := tk } := I.kept fun b o e => Heap.get?_push_of_some _ e
  refine ⟨(s.heap.push { cls := .type "range", data := .fields #[.int lo t, .int hi u, .int 1 v] }).objs.size, [(s.heap.push { cls := .type "range", data := .fields #[.int lo t, .int hi u, .int 1 v] }).objs.size], _, _, H, rfl,
    I1.kept (t' := tk) fun b o e => Heap.get?_push_of_some _ e, turn_range _ lo (hi - lo).toNat, ?_, fun b hb => ?_, q⟩
  · have e1 : lo + ((0 : Nat) : Int) * 1 = lo := by simp
    have e2 : (((hi - lo).toNat : Nat) : Int) - ((0 : Nat) : Int) = Builtin.Range.rangeSize lo hi 1 := by rw [rangeSize_one]; split <;> omega
    show IsRangeIter _ _ (lo + ((0 : Nat) : Int) * 1) ((((hi - lo).toNat : Nat) : Int) - ((0 : Nat) : Int)) 1
    rw [e1, e2]
    exact Heap.get?_push_size _ rfl
  · have e : b = (s.heap.push { cls := .type "range", data := .fields #[.int lo t, .int hi u, .int 1 v] }).objs.size := by simpa using hb
    subst e
    exact I1.fpOk (Nat.le_refl _) (I1.hok.fresh (Nat.le_refl _))
def iRng1 (ta : TA) : TI := fun σ H R => ta σ H fun vs H1 => ∃ j : Int, vs = [.int j] ∧ -(2 ^ 62) ≤ j ∧ j < 2 ^ 62 ∧ R (Itr 0 j.toNat) H1
def iRng2 (ta : TA) : TI := fun σ H R => ta σ H fun vs H1 => ∃ i j : Int, vs = [.int i, .int j] ∧ (-(2 ^ 62) ≤ i ∧ i < 2 ^ 62 ∧ -(2 ^ 62) ≤ j ∧ j < 2 ^ 62) ∧ R (Itr i (j - i).toNat) H1
theorem pi_range1 {a : Expr} {ta : TA} {p pos : Pos} (hg : Gl X "range") (hm : X.mg "range" = none) (ha : PA X [a] ta) (hs : starEach [a] X.env = [(false, eval a X.env)] := by rfl) : PI X tg (.Call (.Name "range" p) [a] [] pos) (iRng1 ta) := by
  intro pins s σ H R I h
  refine Call_ (ld_blt I hg hm boot_range (PyProof.Rows.callWith_type1 (thn (ha pos pins s σ H _ I h) fun us s1 ⟨vs, H1, I1, r1, q1⟩ => ?_) hs rfl))
  obtain ⟨j, e, q1, q2, q⟩ := q1
  subst e
  cases r1 with
  | cons r rr =>
    cases rr
    obtain ⟨t, rfl⟩ := r
    exact call_range_1 (range_it I1 (by omega) (by omega) q1 q2 (by simpa using q))
theorem pi_range2 {a b : Expr} {ta : TA} {p pos : Pos} (hg : Gl X "range") (hm : X.mg "range" = none) (ha : PA X [a, b] ta) (hs : starEach [a, b] X.env = [(false, eval a X.env), (false, eval b X.env)] := by rfl) (hs2 : starEach [b] X.env = [(false, eval b X.env)] := by rfl) :
    PI X tg (.Call (.Name "range" p) [a, b] [] pos) (iRng2 ta) := by
  intro pins s σ H R I h
  refine Call_ (ld_blt I hg hm boot_range (PyProof.Rows.callWith_type1 (thn (ha pos pins s σ H _ I h) fun us s1 ⟨vs, H1, I1, r1, q1⟩ => ?_) (by rw [hs, hs2]) (by rw [hs2]; rfl)))
  obtain ⟨i, j, e, ⟨q1, q2, q3, q4⟩, q⟩ := q1
  subst e
  cases r1 with
  | cons r rr =>
    cases rr with
    | cons r' rr =>
      cases rr
      obtain ⟨t, rfl⟩ := r
      obtain ⟨t', rfl⟩ := r'
      exact call_range_2 (range_it I1 q1 q2 q3 q4 q)

/-! ### for -/
/-- W: the invariant by the turn and a measure; N: what the body is to reach -/
def tFor (wi : TI) (g : TG) (tb : TS) : TS := fun D σ H => wi σ H fun J H1 => ∃ W : Nat → Nat → St → Hp → Prop, (∃ m, W 0 m σ H1) ∧ ∀ i m σ H, W i m σ H →
  (J.stop i H ∧ D.nx σ H) ∨ (J.go i H ∧ ∃ N : St → Hp → Prop, (∀ σ' H', N σ' H' → ∃ m', m' < m ∧ W (i + 1) m' σ' H') ∧ ∀ x H', J.yld i H x H' → g x σ H' fun σ2 H2 => tb { D with nx := N, ct := N, bk := D.nx } σ2 H2)
/-- the records at fp as they stand -/
def pinsAt (fp : List Addr) (h : Heap) : List (Addr × Obj) := fp.filterMap fun b => (h.get? b).map fun o => (b, o)
theorem mem_pinsAt {fp : List Addr} {h : Heap} {b : Addr} {o : Obj} (hb : b ∈ fp) (e : h.get? b = some o) : (b, o) ∈ pinsAt fp h := List.mem_filterMap.mpr ⟨b, hb, by rw [e]; rfl⟩
theorem of_pinsAt {fp : List Addr} {h : Heap} {p : Addr × Obj} (hp : p ∈ pinsAt fp h) : p.1 ∈ fp ∧ h.get? p.1 = some p.2 := by
  obtain ⟨b, hb, e⟩ := List.mem_filterMap.mp hp
  cases q : h.get? b with
  | none => rw [q] at e; cases e
  | some o =>
    rw [q] at e
    have e' : (b, o) = p := Option.some.inj e
    subst e'
    exact ⟨hb, q⟩
theorem Inv.pinned {pins : List (Addr × Obj)} {σ : St} {H : Hp} {s : Shared} {fp : List Addr} (I : Inv X pins σ H s) (hf : ∀ b ∈ fp, FpOk X pins H b) (ho : ∀ b ∈ fp, ∃ o, s.heap.get? b = some o ∧ ∀ v, o.data ≠ .cell v) : Inv X (pins ++ pinsAt fp s.heap) σ H s :=
  I.pins_of fun p hp => (List.mem_append.mp hp).elim (fun z => I.pin p (List.mem_append_right _ z)) fun z => by
    obtain ⟨hb, e⟩ := of_pinsAt z
    obtain ⟨f0, f1, f2, _⟩ := hf p.1 hb
    obtain ⟨o, e', d⟩ := ho p.1 hb
    rw [e] at e'; cases e'
    exact ⟨e, f0, f1, f2, d⟩
theorem Inv.unpinned {pins pl : List (Addr × Obj)} {σ : St} {H : Hp} {s : Shared} (I : Inv X (pins ++ pl) σ H s) : Inv X pins σ H s := I.pins_of fun p hp => I.pin p (List.mem_append_right _ (List.mem_append_left _ hp))
theorem ps_for {iter : Expr} {body : List Stmt} {wi : TI} {g : TG} {tb : TS} {pos : Pos} (hp : PassesOwn (model X.prog X.w) X.A X.env X.xe) (hc : X.calm = true) (hi : PI X tg iter wi) (hg : PG X tg g) (hb : PSs X body tb)
    (hs : ∀ x, foldedSetIterable iter X.env x = pure x := by intro _; rfl) : PS X (.For tg iter body [] pos) (tFor wi g tb) := by
  intro pins s σ H D I h
  refine wpAny_For (thn (hi pins s σ H _ I h) fun v s1 h1 => thn h1 fun itv s2 h2 => ?_) hs
  obtain ⟨it, fp, tn, J, H2, e, I2, T, st2, f2, W, ⟨m0, w0⟩, turn⟩ := h2
  subst e
  -- what stays true of the iterator's objects through the loop
  have stat : ∀ {H' : Hp}, (∀ b ∈ fp, H' b = none) → ∀ b ∈ fp, FpOk X pins H' b := fun hn b hb => ⟨hn b hb, (f2 b hb).2⟩
  refine codeAny_forLoop_any (fun n s' => ∃ i σ' H', Inv X pins σ' H' s' ∧ tn i s'.heap ∧ (∀ b ∈ fp, H' b = none) ∧ W i n σ' H') ?_ m0 ⟨0, σ, H2, I2, st2, fun b hb => (f2 b hb).1, w0⟩
  rintro n s3 ⟨i, σ3, H3, I3, st3, fr3, w3⟩
  rcases turn i n σ3 H3 w3 with ⟨stop, qn⟩ | ⟨go, N, hN, step⟩
  · refine wpAny_passesOwn hp (thn (T.done X rfl rfl rfl hc i pins s3 σ3 H3 X.xe I3 (stat fr3) st3 stop) fun r s4 ⟨hr, I4⟩ => ?_)
    subst hr
    exact wpAny_execs_nil ⟨σ3, H3, I4, qn⟩
  · refine wpAny_passesOwn hp (thn (T.item X rfl rfl rfl hc i pins s3 σ3 H3 X.xe I3 (stat fr3) st3 go) fun r s4 ⟨u, hr, h4⟩ => ?_)
    subst hr
    refine wpAny_passesOwn hp (thn h4 fun _ s5 ⟨x, H5, I5, r5, y5, st5, fr5⟩ => ?_)
    have I5' := I5.pinned (stat fr5) (T.obj _ _ st5)
    refine wpAny_passesOwn hp (thn (hg _ s5 σ3 H5 x u _ I5' r5 (step x H5 y5)) fun _ s6 ⟨σ6, H6, I6, q6⟩ => ?_)
    refine wpAny_passesOwn hp (thn (hb _ s6 σ6 H6 _ I6 q6) fun f s7 q7 => ?_)
    have again : ∀ {σ7 : St} {H7 : Hp}, Inv X (pins ++ pinsAt fp s5.heap) σ7 H7 s7 → N σ7 H7 → ∃ m, m < n ∧ ∃ i σ' H', Inv X pins σ' H' s7 ∧ tn i s7.heap ∧ (∀ b ∈ fp, H' b = none) ∧ W i m σ' H' := fun {σ7 H7} I7 n7 => by
      obtain ⟨m', hm, w7⟩ := hN σ7 H7 n7
      refine ⟨m', hm, i + 1, σ7, H7, I7.unpinned, T.keep _ _ _ st5 fun b hb o e => (I7.pin (b, o) (List.mem_append_right _ (List.mem_append_right _ (mem_pinsAt hb e)))).1, fun b hb => ?_, w7⟩
      obtain ⟨o, e, d⟩ := T.obj _ _ st5 b hb
      exact (I7.pin (b, o) (List.mem_append_right _ (List.mem_append_right _ (mem_pinsAt hb e)))).2.1
    cases f with
    | next => obtain ⟨σ7, H7, I7, n7⟩ := q7; exact again I7 n7
    | cont => obtain ⟨σ7, H7, I7, n7⟩ := q7; exact again I7 n7
    | brk => obtain ⟨σ7, H7, I7, q7⟩ := q7; exact ⟨σ7, H7, I7.unpinned, q7⟩
    | ret v => obtain ⟨x7, σ7, H7, I7, r7, q7⟩ := q7; exact ⟨x7, σ7, H7, I7.unpinned, r7, q7⟩
end

/-! ### the forms one uses -/
/-- over a list that the body leaves as it is -/
theorem for_list {K : PySem.W.Frag} {a : Addr} {xs : List V} {g : TG} {tb : TS} {D : Ends} {σ : St} {H : Hp} (Pv : Nat → St → Hp → Prop) (h0 : Pv 0 σ H) (hl : ∀ i σ H, i ≤ xs.length → Pv i σ H → SqL K H a xs)
    (hs : ∀ i x σ H, xs[i]? = some x → Pv i σ H → g x σ H fun σ2 H2 => tb { D with nx := Pv (i + 1), ct := Pv (i + 1), bk := D.nx } σ2 H2) (hd : ∀ σ H, Pv xs.length σ H → D.nx σ H) :
    ∃ W : Nat → Nat → St → Hp → Prop, (∃ m, W 0 m σ H) ∧ ∀ i m σ H, W i m σ H →
      ((Itl K a).stop i H ∧ D.nx σ H) ∨ ((Itl K a).go i H ∧ ∃ N : St → Hp → Prop, (∀ σ' H', N σ' H' → ∃ m', m' < m ∧ W (i + 1) m' σ' H') ∧ ∀ x H', (Itl K a).yld i H x H' → g x σ H' fun σ2 H2 => tb { D with nx := N, ct := N, bk := D.nx } σ2 H2) := by
  refine ⟨fun i m σ H => m = xs.length - i ∧ i ≤ xs.length ∧ Pv i σ H, ⟨xs.length, by simp, Nat.zero_le _, h0⟩, ?_⟩
  rintro i m σ H ⟨rfl, hi, p⟩
  have q := hl i σ H hi p
  by_cases hlt : i < xs.length
  · refine .inr ⟨⟨xs, xs[i], q, by simp [hlt]⟩, Pv (i + 1), fun σ' H' p' => ⟨xs.length - (i + 1), by omega, rfl, hlt, p'⟩, fun x H' y => ?_⟩
    obtain ⟨e, y⟩ := y
    subst e
    exact hs i x σ _ (y xs q) p
  · have e : i = xs.length := by omega
    subst e
    exact .inl ⟨⟨xs, q, Nat.le_refl _⟩, hd σ H p⟩
theorem for_tup {K : PySem.W.Frag} {a : Addr} {xs : List V} {g : TG} {tb : TS} {D : Ends} {σ : St} {H : Hp} (Pv : Nat → St → Hp → Prop) (h0 : Pv 0 σ H) (hl : ∀ i σ H, i ≤ xs.length → Pv i σ H → SqT K H a xs)
    (hs : ∀ i x σ H, xs[i]? = some x → Pv i σ H → g x σ H fun σ2 H2 => tb { D with nx := Pv (i + 1), ct := Pv (i + 1), bk := D.nx } σ2 H2) (hd : ∀ σ H, Pv xs.length σ H → D.nx σ H) :
    ∃ W : Nat → Nat → St → Hp → Prop, (∃ m, W 0 m σ H) ∧ ∀ i m σ H, W i m σ H →
      ((Itt K a).stop i H ∧ D.nx σ H) ∨ ((Itt K a).go i H ∧ ∃ N : St → Hp → Prop, (∀ σ' H', N σ' H' → ∃ m', m' < m ∧ W (i + 1) m' σ' H') ∧ ∀ x H', (Itt K a).yld i H x H' → g x σ H' fun σ2 H2 => tb { D with nx := N, ct := N, bk := D.nx } σ2 H2) := by
  refine ⟨fun i m σ H => m = xs.length - i ∧ i ≤ xs.length ∧ Pv i σ H, ⟨xs.length, by simp, Nat.zero_le _, h0⟩, ?_⟩
  rintro i m σ H ⟨rfl, hi, p⟩
  have q := hl i σ H hi p
  by_cases hlt : i < xs.length
  · refine .inr ⟨⟨xs, xs[i], q, by simp [hlt]⟩, Pv (i + 1), fun σ' H' p' => ⟨xs.length - (i + 1), by omega, rfl, hlt, p'⟩, fun x H' y => ?_⟩
    obtain ⟨e, y⟩ := y
    subst e
    exact hs i x σ _ (y xs q) p
  · have e : i = xs.length := by omega
    subst e
    exact .inl ⟨⟨xs, q, Nat.le_refl _⟩, hd σ H p⟩
theorem for_range {lo : Int} {n : Nat} {g : TG} {tb : TS} {D : Ends} {σ : St} {H : Hp} (Pv : Nat → St → Hp → Prop) (h0 : Pv 0 σ H)
    (hs : ∀ i σ H, i < n → Pv i σ H → g (.int (lo + i)) σ H fun σ2 H2 => tb { D with nx := Pv (i + 1), ct := Pv (i + 1), bk := D.nx } σ2 H2) (hd : ∀ σ H, Pv n σ H → D.nx σ H) :
    ∃ W : Nat → Nat → St → Hp → Prop, (∃ m, W 0 m σ H) ∧ ∀ i m σ H, W i m σ H →
      ((Itr lo n).stop i H ∧ D.nx σ H) ∨ ((Itr lo n).go i H ∧ ∃ N : St → Hp → Prop, (∀ σ' H', N σ' H' → ∃ m', m' < m ∧ W (i + 1) m' σ' H') ∧ ∀ x H', (Itr lo n).yld i H x H' → g x σ H' fun σ2 H2 => tb { D with nx := N, ct := N, bk := D.nx } σ2 H2) := by
  refine ⟨fun i m σ H => m = n - i ∧ i ≤ n ∧ Pv i σ H, ⟨n, by simp, Nat.zero_le _, h0⟩, ?_⟩
  rintro i m σ H ⟨rfl, hi, p⟩
  by_cases hlt : i < n
  · refine .inr ⟨hlt, Pv (i + 1), fun σ' H' p' => ⟨n - (i + 1), by omega, rfl, hlt, p'⟩, fun x H' y => ?_⟩
    obtain ⟨e, y⟩ := y
    subst e y
    exact hs i σ _ hlt p
  · have e : i = n := by omega
    subst e
    exact .inl ⟨Nat.le_refl _, hd σ H p⟩
/-- while, by a word and a measure of the state -/
theorem while_by {c : TT} {tb : TS} {D : Ends} {σ : St} {H : Hp} (Pv : St → Hp → Prop) (μ : St → Hp → Nat) (h0 : Pv σ H)
    (hs : ∀ σ H, Pv σ H → c σ H fun b H1 => if b = true then tb { D with nx := fun σ' H' => Pv σ' H' ∧ μ σ' H' < μ σ H, ct := fun σ' H' => Pv σ' H' ∧ μ σ' H' < μ σ H, bk := D.nx } σ H1 else D.nx σ H1)
    (mono : ∀ σ H Q Q', (∀ b H1, Q b H1 → Q' b H1) → c σ H Q → c σ H Q') : tWhile c tb D σ H := by
  refine ⟨fun m σ H => m = μ σ H ∧ Pv σ H, ⟨_, rfl, h0⟩, ?_⟩
  rintro m σ H ⟨rfl, p⟩
  refine mono σ H _ _ (fun b H1 q => ?_) (hs σ H p)
  cases b with
  | true => exact ⟨_, fun σ' H' ⟨p', l⟩ => ⟨_, l, rfl, p'⟩, q⟩
  | false => exact q
end L2

namespace L2
open PySem PySem.Spec PyProof.Rows

abbrev R2 := V → V → Hp → VK → Prop
/-- a two-place operation on values: f is binaryOp op, inplaceOp op or compareOp op -/
def OpR (X : Cx) (f : Value → Value → Sem Value) (r : R2) : Prop :=
  ∀ (pins : List (Addr × Obj)) (s : Shared) (σ : St) (H : Hp) (x y : V) (v u : Value) (Q : VK), Inv X pins σ H s → RelV x v → RelV y u → r x y H Q →
    wpAny (model X.prog X.w) X.A (f v u) (EP X pins σ Q) X.xe s
/-- a one-place operation -/
def UnR (X : Cx) (f : Value → Sem Value) (r : V → Hp → VK → Prop) : Prop :=
  ∀ (pins : List (Addr × Obj)) (s : Shared) (σ : St) (H : Hp) (x : V) (v : Value) (Q : VK), Inv X pins σ H s → RelV x v → r x H Q →
    wpAny (model X.prog X.w) X.A (f v) (EP X pins σ Q) X.xe s
/-- a call of a value that is known (a builtin, a type) with values -/
def CallR (X : Cx) (f : Value) (r : List V → Hp → VK → Prop) : Prop :=
  ∀ (pins : List (Addr × Obj)) (s : Shared) (σ : St) (H : Hp) (xs : List V) (us : List Value) (Q : VK), Inv X pins σ H s → Vals xs us → r xs H Q →
    wpAny (model X.prog X.w) X.A (call f us) (EP X pins σ Q) X.xe s
/-- a value's truth -/
def TruR (X : Cx) (r : V → Hp → (Bool → Hp → Prop) → Prop) : Prop :=
  ∀ (pins : List (Addr × Obj)) (s : Shared) (σ : St) (H : Hp) (x : V) (v : Value) (Q : Bool → Hp → Prop), Inv X pins σ H s → RelV x v → r x H Q →
    wpAny (model X.prog X.w) X.A (truthy v) (TP X pins σ Q) X.xe s

def tOp (r : R2) (ta tb : TE) : TE := fun σ H Q => ta σ H fun x H1 => tb σ H1 fun y H2 => r x y H2 Q
def tUn (r : V → Hp → VK → Prop) (ta : TE) : TE := fun σ H Q => ta σ H fun x H1 => r x H1 Q
/-- ints in, under C, and a value out -/
def rI (C : Int → Int → Prop) (g : Int → Int → V) : R2 := fun x y H Q => ∃ i j, x = .int i ∧ y = .int j ∧ C i j ∧ Q (g i j) H
def rI0 (g : Int → Int → V) : R2 := fun x y H Q => ∃ i j, x = .int i ∧ y = .int j ∧ Q (g i j) H
def rU (g : Int → V) : V → Hp → VK → Prop := fun x H Q => ∃ i, x = .int i ∧ Q (g i) H

section
variable {X : Cx} {a b c : Expr} {ta tb tc : TE} {pos : Pos}

theorem binT (ha : PE X a ta) (hb : PE X b tb) {pins : List (Addr × Obj)} {s : Shared} {σ : St} {H : Hp} {R : V → V → Hp → Prop} (I : Inv X pins σ H s)
    (h : ta σ H fun x H1 => tb σ H1 fun y H2 => R x y H2) {Q : Value → Shared → Prop} {f : Value → Value → Sem Value}
    (hf : ∀ v u s2 x y H2, Inv X pins σ H2 s2 → RelV x v → RelV y u → R x y H2 → wpAny (model X.prog X.w) X.A (f v u) Q X.xe s2) :
    wpAny (model X.prog X.w) X.A (eval a X.env) (fun v s₁ => wpAny (model X.prog X.w) X.A (eval b X.env) (fun u s₂ => wpAny (model X.prog X.w) X.A (f v u) Q X.xe s₂) X.xe s₁) X.xe s := by
  refine thn (ha pins s σ H _ I h) fun v s1 ⟨x, H1, I1, r1, q1⟩ => ?_
  refine thn (hb pins s1 σ H1 _ I1 q1) fun u s2 ⟨y, H2, I2, r2, q2⟩ => ?_
  exact hf v u s2 x y H2 I2 r1 r2 q2

theorem pe_op {op : Operator} {r : R2} (ho : OpR X (binaryOp op) r) (ha : PE X a ta) (hb : PE X b tb) : PE X (.BinOp a op b pos) (tOp r ta tb) := by
  intro pins s σ H Q I h
  exact wpAny_BinOp (binT ha hb I h fun v u s2 x y H2 I2 rx ry q => ho pins s2 σ H2 x y v u Q I2 rx ry q)
theorem pe_un {op : UnaryOp} {r : V → Hp → VK → Prop} (ho : UnR X (unaryOp op) r) (ha : PE X a ta) : PE X (.UnaryOp op a pos) (tUn r ta) := by
  intro pins s σ H Q I h
  exact UnaryOp_ (thn (ha pins s σ H _ I h) fun v s1 ⟨x, H1, I1, r1, q1⟩ => ho pins s1 σ H1 x v Q I1 r1 q1)
/-- a op= e at a name: the name's slot i -/
theorem augR {op : Operator} {r : R2} (ho : OpR X (inplaceOp op) r) {pins : List (Addr × Obj)} {s : Shared} {σ : St} {H : Hp} {x y : V} {v u : Value} {Q : VK} (I : Inv X pins σ H s)
    (rx : RelV x v) (ry : RelV y u) (q : r x y H Q) : wpAny (model X.prog X.w) X.A (inplaceOp op v u) (EP X pins σ Q) X.xe s := ho pins s σ H x y v u Q I rx ry q

/-! ### ints -/
theorem opI {f : Value → Value → Sem Value} {C : Int → Int → Prop} {g : Int → Int → Int}
    (rule : ∀ (i j : Int) (t u : Tok) (s : Shared) (Q : Value → Shared → Prop) (E : Value → Shared → Prop), C i j → Q (.int (g i j) s.toks) { s with toks := s.toks + 1 } → wpAny (model X.prog X.w) X.A (f (.int i t) (.int j u)) Q E s) :
    OpR X f (rI C fun i j => .int (g i j)) := by
  intro pins s σ H x y v u Q I rx ry h
  obtain ⟨i, j, rfl, rfl, hc, q⟩ := h
  obtain ⟨t, rfl⟩ := rx
  obtain ⟨t', rfl⟩ := ry
  exact rule i j t t' s _ _ hc ⟨.int (g i j), H, I.tok _, ⟨_, rfl⟩, q⟩
theorem opI0 {f : Value → Value → Sem Value} {g : Int → Int → Int}
    (rule : ∀ (i j : Int) (t u : Tok) (s : Shared) (Q : Value → Shared → Prop) (E : Value → Shared → Prop), Q (.int (g i j) s.toks) { s with toks := s.toks + 1 } → wpAny (model X.prog X.w) X.A (f (.int i t) (.int j u)) Q E s) :
    OpR X f (rI0 fun i j => .int (g i j)) := by
  intro pins s σ H x y v u Q I rx ry h
  obtain ⟨i, j, rfl, rfl, q⟩ := h
  obtain ⟨t, rfl⟩ := rx
  obtain ⟨t', rfl⟩ := ry
  exact rule i j t t' s _ _ ⟨.int (g i j), H, I.tok _, ⟨_, rfl⟩, q⟩
theorem opB0 {f : Value → Value → Sem Value} {g : Int → Int → Bool}
    (rule : ∀ (i j : Int) (t u : Tok) (s : Shared) (Q : Value → Shared → Prop) (E : Value → Shared → Prop), Q (.bool (g i j)) s → wpAny (model X.prog X.w) X.A (f (.int i t) (.int j u)) Q E s) :
    OpR X f (rI0 fun i j => .bl (g i j)) := by
  intro pins s σ H x y v u Q I rx ry h
  obtain ⟨i, j, rfl, rfl, q⟩ := h
  obtain ⟨t, rfl⟩ := rx
  obtain ⟨t', rfl⟩ := ry
  exact rule i j t t' s _ _ ⟨.bl (g i j), H, I, rfl, q⟩

def CDiv (i j : Int) : Prop := 0 < j ∧ j < 1073741824
def CDivN (i j : Int) : Prop := j ≠ 0 ∧ j.natAbs < 1073741824
def CPow (i j : Int) : Prop := 0 ≤ j ∧ j ≤ 1000000 ∧ i.natAbs < 2 ^ 64
def CMul (i j : Int) : Prop := (-(2 ^ 64) < i ∧ i < 2 ^ 64) ∨ (-(2 ^ 64) < j ∧ j < 2 ^ 64)
theorem CMul.ok {i j : Int} (h : CMul i j) : IntMulOk i j := by
  rcases h with ⟨h1, h2⟩ | ⟨h1, h2⟩
  · exact .of_left (intBits_le_64 h1 h2)
  · exact .of_right (intBits_le_64 h1 h2)
theorem two_pow_nn (k : Nat) : (0 : Int) ≤ 2 ^ k := by
  rw [two_pow_cast]
  exact Int.natCast_nonneg _

theorem op_add : OpR X (binaryOp .Add) (rI0 fun i j => .int (i + j)) := opI0 fun _ _ _ _ _ _ _ q => add_int q
theorem op_sub : OpR X (binaryOp .Sub) (rI0 fun i j => .int (i - j)) := opI0 fun _ _ _ _ _ _ _ q => sub_int q
theorem op_mul : OpR X (binaryOp .Mult) (rI CMul fun i j => .int (i * j)) := opI fun _ _ _ _ _ _ _ hc q => mul_int q hc.ok
/-- // by a positive divisor -/
theorem op_fdiv : OpR X (binaryOp .FloorDiv) (rI CDiv fun i j => .int (i / j)) := opI fun i j _ _ _ _ _ hc q => by
  have h1 : (0 : Int) < j := hc.1
  have h2 : j < 1073741824 := hc.2
  exact floordiv_int (by omega) (by rw [Int.fdiv_eq_ediv_of_nonneg i (by omega)]; exact q) (.inl (PyProof.noPylong_small (by omega)))
theorem op_fdivN : OpR X (binaryOp .FloorDiv) (rI CDivN fun i j => .int (i.fdiv j)) := opI fun _ _ _ _ _ _ _ hc q => floordiv_int hc.1 q (.inl (PyProof.noPylong_small hc.2))
/-- % by a positive divisor of any size -/
theorem op_mod : OpR X (binaryOp .Mod) (rI (fun _ j => 0 < j) fun i j => .int (i % j)) := opI fun i j _ _ _ _ _ hc q => by
  have h1 : (0 : Int) < j := hc
  exact mod_int' (by omega) (by rw [Int.fmod_eq_emod_of_nonneg i (by omega)]; exact q)
theorem op_modN : OpR X (binaryOp .Mod) (rI (fun _ j => j ≠ 0) fun i j => .int (i.fmod j)) := opI fun _ _ _ _ _ _ _ hc q => mod_int' hc q
theorem op_pow : OpR X (binaryOp .Pow) (rI CPow fun i j => .int (i ^ j.toNat)) := opI fun _ _ _ _ _ _ _ hc q => pow_int_small hc.1 hc.2.1 hc.2.2 q
theorem op_shl : OpR X (binaryOp .LShift) (rI CPow fun i j => .int (i * 2 ^ j.toNat)) := opI fun _ _ _ _ _ _ _ hc q => lshift_int_small hc.1 hc.2.1 hc.2.2 q
theorem op_shr : OpR X (binaryOp .RShift) (rI (fun _ j => 0 ≤ j) fun i j => .int (i / 2 ^ j.toNat)) := opI fun i j _ _ _ _ _ hc q =>
  rshift_int hc (by rw [Int.fdiv_eq_ediv_of_nonneg i (two_pow_nn _)]; exact q)
theorem op_and : OpR X (binaryOp .BitAnd) (rI0 fun i j => .int (Builtin.bitAnd i j)) := opI0 fun _ _ _ _ _ _ _ q => and_int q
theorem op_or : OpR X (binaryOp .BitOr) (rI0 fun i j => .int (Builtin.bitOr i j)) := opI0 fun _ _ _ _ _ _ _ q => or_int q
theorem op_xor : OpR X (binaryOp .BitXor) (rI0 fun i j => .int (Builtin.bitXor i j)) := opI0 fun _ _ _ _ _ _ _ q => xor_int q

theorem iop_add : OpR X (inplaceOp .Add) (rI0 fun i j => .int (i + j)) := opI0 fun _ _ _ _ _ _ _ q => iadd_int q
theorem iop_sub : OpR X (inplaceOp .Sub) (rI0 fun i j => .int (i - j)) := opI0 fun _ _ _ _ _ _ _ q => isub_int q
theorem iop_mul : OpR X (inplaceOp .Mult) (rI CMul fun i j => .int (i * j)) := opI fun _ _ _ _ _ _ _ hc q => imul_int q hc.ok
theorem iop_fdiv : OpR X (inplaceOp .FloorDiv) (rI CDiv fun i j => .int (i / j)) := opI fun i j _ _ _ _ _ hc q => by
  have h1 : (0 : Int) < j := hc.1
  have h2 : j < 1073741824 := hc.2
  exact ifloordiv_int (by omega) (by rw [Int.fdiv_eq_ediv_of_nonneg i (by omega)]; exact q) (.inl (PyProof.noPylong_small (by omega)))
theorem iop_mod : OpR X (inplaceOp .Mod) (rI (fun _ j => 0 < j) fun i j => .int (i % j)) := opI fun i j _ _ _ _ _ hc q => by
  have h1 : (0 : Int) < j := hc
  exact imod_int (by omega) (by rw [Int.fmod_eq_emod_of_nonneg i (by omega)]; exact q)
theorem iop_shl : OpR X (inplaceOp .LShift) (rI CPow fun i j => .int (i * 2 ^ j.toNat)) := opI fun _ _ _ _ _ _ _ hc q => ilshift_int_small hc.1 hc.2.1 hc.2.2 q
theorem iop_shr : OpR X (inplaceOp .RShift) (rI (fun _ j => 0 ≤ j) fun i j => .int (i / 2 ^ j.toNat)) := opI fun i j _ _ _ _ _ hc q =>
  irshift_int hc (by rw [Int.fdiv_eq_ediv_of_nonneg i (two_pow_nn _)]; exact q)
theorem iop_and : OpR X (inplaceOp .BitAnd) (rI0 fun i j => .int (Builtin.bitAnd i j)) := opI0 fun _ _ _ _ _ _ _ q => iand_int q
theorem iop_or : OpR X (inplaceOp .BitOr) (rI0 fun i j => .int (Builtin.bitOr i j)) := opI0 fun _ _ _ _ _ _ _ q => ior_int q
theorem iop_xor : OpR X (inplaceOp .BitXor) (rI0 fun i j => .int (Builtin.bitXor i j)) := opI0 fun _ _ _ _ _ _ _ q => ixor_int q

theorem unI {f : Value → Sem Value} {g : Int → Int}
    (rule : ∀ (i : Int) (t : Tok) (s : Shared) (Q : Value → Shared → Prop) (E : Value → Shared → Prop), Q (.int (g i) s.toks) { s with toks := s.toks + 1 } → wpAny (model X.prog X.w) X.A (f (.int i t)) Q E s) :
    UnR X f (rU fun i => .int (g i)) := by
  intro pins s σ H x v Q I rx h
  obtain ⟨i, rfl, q⟩ := h
  obtain ⟨t, rfl⟩ := rx
  exact rule i t s _ _ ⟨.int (g i), H, I.tok _, ⟨_, rfl⟩, q⟩
theorem un_neg : UnR X (unaryOp .USub) (rU fun i => .int (-i)) := unI fun _ _ _ _ _ q => neg_int q
theorem un_inv : UnR X (unaryOp .Invert) (rU fun i => .int (Builtin.bitNot i)) := unI fun _ _ _ _ _ q => invert_int q

/-! ### bools among ints: n += (a < b) -/
theorem op_add_ib : OpR X (binaryOp .Add) (fun x y H Q => ∃ i k, x = .int i ∧ y = .bl k ∧ Q (.int (i + b2i k)) H) := by
  intro pins s σ H x y v u Q I rx ry h
  obtain ⟨i, k, rfl, rfl, q⟩ := h
  obtain ⟨t, rfl⟩ := rx
  cases ry
  exact add_int_bool ⟨.int (i + b2i k), H, I.tok _, ⟨_, rfl⟩, q⟩
end

/-! ### comparisons -/
/-- the scalars that == tells apart as data does -/
def scal : V → V → Bool
  | .non, .non => true | .non, .int _ => true | .int _, .non => true | .non, .bl _ => true | .bl _, .non => true | .non, .str _ => true | .str _, .non => true
  | .int _, .int _ => true | .bl _, .bl _ => true | .str _, .str _ => true | .byt _, .byt _ => true
  | .int _, .str _ => true | .str _, .int _ => true | .bl _, .str _ => true | .str _, .bl _ => true
  | _, _ => false
def rEq : R2 := fun x y H Q => scal x y = true ∧ Q (.bl (decide (x = y))) H
def rNe : R2 := fun x y H Q => scal x y = true ∧ Q (.bl (!decide (x = y))) H

theorem dec_int {i j : Int} : decide (V.int i = V.int j) = (i == j) := by
  rw [Bool.eq_iff_iff]
  simp
theorem dec_bl {i j : Bool} : decide (V.bl i = V.bl j) = (i == j) := by
  rw [Bool.eq_iff_iff]
  simp
theorem dec_str {i j : Str} : decide (V.str i = V.str j) = (i == j) := by
  rw [Bool.eq_iff_iff]
  simp
theorem dec_byt {i j : Array UInt8} : decide (V.byt i = V.byt j) = (i.toList == j.toList) := by
  rw [Bool.eq_iff_iff]
  cases i
  cases j
  simp

section
variable {X : Cx} {a b c : Expr} {ta tb tc : TE} {pos : Pos}
theorem fin_bl {pins : List (Addr × Obj)} {σ : St} {H : Hp} {s : Shared} {Q : VK} {k k' : Bool} (I : Inv X pins σ H s) (q : Q (.bl k) H) (e : k = k') : EP X pins σ Q (.bool k') s := by
  subst e
  exact ⟨.bl k, H, I, rfl, q⟩
theorem op_eq : OpR X (compareOp .Eq) rEq := by
  intro pins s σ H x y v u Q I rx ry h
  obtain ⟨hs, q⟩ := h
  cases x with
  | non =>
    cases rx
    cases y with
    | non => cases ry; exact PySem.EqNone.eq_none_none (fin_bl I q (by simp))
    | bl j => cases ry; exact PySem.EqNone.eq_none_bool (fin_bl I q (by simp))
    | int j => obtain ⟨t', rfl⟩ := ry; exact PySem.EqNone.eq_none_int (fin_bl I q (by simp))
    | str j => obtain ⟨t', rfl⟩ := ry; exact PySem.EqNone.eq_none_str (fin_bl I q (by simp))
    | _ => exact absurd (show false = true from hs) Bool.false_ne_true
  | bl i =>
    cases rx
    cases y with
    | non => cases ry; exact PySem.EqNone.eq_bool_none (fin_bl I q (by simp))
    | bl j => cases ry; exact eq_bool (fin_bl I q dec_bl)
    | str j => obtain ⟨t', rfl⟩ := ry; exact PySem.EqMixed.eq_bool_str (fin_bl I q (by simp))
    | _ => exact absurd (show false = true from hs) Bool.false_ne_true
  | int i =>
    obtain ⟨t, rfl⟩ := rx
    cases y with
    | non => cases ry; exact PySem.EqNone.eq_int_none (fin_bl I q (by simp))
    | int j => obtain ⟨t', rfl⟩ := ry; exact eq_int (fin_bl I q dec_int)
    | str j => obtain ⟨t', rfl⟩ := ry; exact PySem.EqMixed.eq_int_str (fin_bl I q (by simp))
    | _ => exact absurd (show false = true from hs) Bool.false_ne_true
  | str i =>
    obtain ⟨t, rfl⟩ := rx
    cases y with
    | non => cases ry; exact PySem.EqNone.eq_str_none (fin_bl I q (by simp))
    | bl j => cases ry; exact PySem.EqMixed.eq_str_bool (fin_bl I q (by simp))
    | int j => obtain ⟨t', rfl⟩ := ry; exact PySem.EqMixed.eq_str_int (fin_bl I q (by simp))
    | str j => obtain ⟨t', rfl⟩ := ry; exact eq_str (fin_bl I q dec_str)
    | _ => exact absurd (show false = true from hs) Bool.false_ne_true
  | byt i =>
    obtain ⟨t, rfl⟩ := rx
    cases y with
    | byt j => obtain ⟨t', rfl⟩ := ry; exact PySem.W.eq_bytes (fin_bl I q dec_byt)
    | _ => exact absurd (show false = true from hs) Bool.false_ne_true
  | _ => cases y <;> exact absurd (show false = true from hs) Bool.false_ne_true
theorem op_ne : OpR X (compareOp .NotEq) rNe := by
  intro pins s σ H x y v u Q I rx ry h
  obtain ⟨hs, q⟩ := h
  cases x with
  | non =>
    cases rx
    cases y with
    | non => cases ry; exact PySem.EqNone.ne_none_none (fin_bl I q (by simp))
    | bl j => cases ry; exact PySem.EqNone.ne_none_bool (fin_bl I q (by simp))
    | int j => obtain ⟨t', rfl⟩ := ry; exact PySem.EqNone.ne_none_int (fin_bl I q (by simp))
    | str j => obtain ⟨t', rfl⟩ := ry; exact PySem.EqNone.ne_none_str (fin_bl I q (by simp))
    | _ => exact absurd (show false = true from hs) Bool.false_ne_true
  | bl i =>
    cases rx
    cases y with
    | non => cases ry; exact PySem.EqNone.ne_bool_none (fin_bl I q (by simp))
    | bl j => cases ry; exact ne_bool (fin_bl I q (congrArg not dec_bl))
    | str j => obtain ⟨t', rfl⟩ := ry; exact PySem.EqMixed.ne_bool_str (fin_bl I q (by simp))
    | _ => exact absurd (show false = true from hs) Bool.false_ne_true
  | int i =>
    obtain ⟨t, rfl⟩ := rx
    cases y with
    | non => cases ry; exact PySem.EqNone.ne_int_none (fin_bl I q (by simp))
    | int j => obtain ⟨t', rfl⟩ := ry; exact ne_int (fin_bl I q (congrArg not dec_int))
    | str j => obtain ⟨t', rfl⟩ := ry; exact PySem.EqMixed.ne_int_str (fin_bl I q (by simp))
    | _ => exact absurd (show false = true from hs) Bool.false_ne_true
  | str i =>
    obtain ⟨t, rfl⟩ := rx
    cases y with
    | non => cases ry; exact PySem.EqNone.ne_str_none (fin_bl I q (by simp))
    | bl j => cases ry; exact PySem.EqMixed.ne_str_bool (fin_bl I q (by simp))
    | int j => obtain ⟨t', rfl⟩ := ry; exact PySem.EqMixed.ne_str_int (fin_bl I q (by simp))
    | str j => obtain ⟨t', rfl⟩ := ry; exact ne_str (fin_bl I q (congrArg not dec_str))
    | _ => exact absurd (show false = true from hs) Bool.false_ne_true
  | byt i =>
    obtain ⟨t, rfl⟩ := rx
    cases y with
    | byt j => obtain ⟨t', rfl⟩ := ry; exact PySem.W.ne_bytes (fin_bl I q (congrArg not dec_byt))
    | _ => exact absurd (show false = true from hs) Bool.false_ne_true
  | _ => cases y <;> exact absurd (show false = true from hs) Bool.false_ne_true

theorem op_lt : OpR X (compareOp .Lt) (rI0 fun i j => .bl (decide (i < j))) := opB0 fun _ _ _ _ _ _ _ q => lt_int q
theorem op_le : OpR X (compareOp .LtE) (rI0 fun i j => .bl (decide (i ≤ j))) := opB0 fun _ _ _ _ _ _ _ q => le_int q
theorem op_gt : OpR X (compareOp .Gt) (rI0 fun i j => .bl (decide (j < i))) := opB0 fun _ _ _ _ _ _ _ q => gt_int q
theorem op_ge : OpR X (compareOp .GtE) (rI0 fun i j => .bl (decide (j ≤ i))) := opB0 fun _ _ _ _ _ _ _ q => ge_int q
theorem op_lt_str : OpR X (compareOp .Lt) (fun x y H Q => ∃ i j, x = .str i ∧ y = .str j ∧ Q (.bl (decide (i.cps.toList < j.cps.toList))) H) := by
  intro pins s σ H x y v u Q I rx ry h
  obtain ⟨i, j, rfl, rfl, q⟩ := h
  obtain ⟨t, rfl⟩ := rx
  obtain ⟨t', rfl⟩ := ry
  exact lt_str (fin_bl I q rfl)
/-- the one string within the other -/
theorem op_in_str : OpR X (compareOp .In) (fun x y H Q => ∃ i j, x = .str i ∧ y = .str j ∧ Q (.bl (!(Builtin.Str.occurrences j i 0 j.length 1).isEmpty)) H) := by
  intro pins s σ H x y v u Q I rx ry h
  obtain ⟨i, j, rfl, rfl, q⟩ := h
  obtain ⟨t, rfl⟩ := rx
  obtain ⟨t', rfl⟩ := ry
  exact in_str (fin_bl I q rfl)

/-- is None, is not None: the right side a value none -/
theorem op_isN : OpR X (compareOp .Is) (fun x y H Q => y = .non ∧ Q (.bl (decide (x = .non))) H) := by
  intro pins s σ H x y v u Q I rx ry h
  obtain ⟨rfl, q⟩ := h
  cases ry
  refine is_none_gen (fin_bl I q ?_)
  cases x <;> first
    | (cases rx; rfl)
    | (obtain ⟨t, rfl⟩ := rx; rfl)
theorem op_notN : OpR X (compareOp .IsNot) (fun x y H Q => y = .non ∧ Q (.bl (!decide (x = .non))) H) := by
  intro pins s σ H x y v u Q I rx ry h
  obtain ⟨rfl, q⟩ := h
  cases ry
  refine isnot_none_gen (fin_bl I q ?_)
  cases x <;> first
    | (cases rx; rfl)
    | (obtain ⟨t, rfl⟩ := rx; rfl)

theorem op_notin_str : OpR X (compareOp .NotIn) (fun x y H Q => ∃ i j, x = .str i ∧ y = .str j ∧ Q (.bl (!(!(Builtin.Str.occurrences j i 0 j.length 1).isEmpty))) H) := by
  intro pins s σ H x y v u Q I rx ry h
  obtain ⟨i, j, rfl, rfl, q⟩ := h
  obtain ⟨t, rfl⟩ := rx
  obtain ⟨t', rfl⟩ := ry
  exact notIn_str (fin_bl I q rfl)
/-- is, is not of two objects that are tracked lists or instances -/
def isObj : HO → Bool
  | .lst _ => true
  | .ins _ _ _ => true
  | _ => false
theorem obj_there {pins : List (Addr × Obj)} {s : Shared} {σ : St} {H : Hp} {a : Addr} {o : HO} (I : Inv X pins σ H s) (h : H a = some o) (p : isObj o = true) : ∃ ob, s.heap.get? a = some ob ∧ ob.cls ≠ .type "tuple" := by
  cases o with
  | lst xs =>
    obtain ⟨_, its, n, _, e⟩ : xs.length ≤ sizeLine ∧ ∃ (its : List Value) (n : Nat), Vals xs its ∧ s.heap.get? a = some { cls := .type "list", data := .seq its.toArray n } := I.hok a _ h
    exact ⟨_, e, (by show Value.type "list" ≠ .type "tuple"; decide +kernel)⟩
  | ins C dx fs =>
    have x := I.hok a _ h
    obtain ⟨_, _, _, e, _⟩ := x
    exact ⟨_, e, (by show Value.ref C ≠ .type "tuple"; exact fun z => by cases z)⟩
  | _ => exact absurd (show false = true from p) Bool.false_ne_true
theorem op_is_ref : OpR X (compareOp .Is) (fun x y H Q => ∃ a b oa ob, x = .ref a ∧ y = .ref b ∧ H a = some oa ∧ isObj oa = true ∧ H b = some ob ∧ isObj ob = true ∧ Q (.bl (decide (a = b))) H) := by
  intro pins s σ H x y v u Q I rx ry h
  obtain ⟨a, b, oa, ob, rfl, rfl, ha, pa, hb, pb, q⟩ := h
  cases rx
  cases ry
  obtain ⟨o1, e1, n1⟩ := obj_there I ha pa
  obtain ⟨o2, e2, _⟩ := obj_there I hb pb
  by_cases z : a = b
  · subst z
    exact wpAny_is_ref_self (fin_bl I q (by simp))
  · exact wpAny_is_ref_other z e1 e2 n1 (fin_bl I q (by simp [z]))
theorem op_isnot_ref : OpR X (compareOp .IsNot) (fun x y H Q => ∃ a b oa ob, x = .ref a ∧ y = .ref b ∧ H a = some oa ∧ isObj oa = true ∧ H b = some ob ∧ isObj ob = true ∧ Q (.bl (!decide (a = b))) H) := by
  intro pins s σ H x y v u Q I rx ry h
  obtain ⟨a, b, oa, ob, rfl, rfl, ha, pa, hb, pb, q⟩ := h
  cases rx
  cases ry
  obtain ⟨o1, e1, n1⟩ := obj_there I ha pa
  obtain ⟨o2, e2, _⟩ := obj_there I hb pb
  by_cases z : a = b
  · subst z
    exact wpAny_isNot_ref_self (fin_bl I q (by simp))
  · exact wpAny_isNot_ref_other z e1 e2 n1 (fin_bl I q (by simp [z]))

/-- two rules for one operation: by cases -/
theorem OpR.or {f : Value → Value → Sem Value} {r r' : R2} (h : OpR X f r) (h' : OpR X f r') : OpR X f (fun x y H Q => r x y H Q ∨ r' x y H Q) := by
  intro pins s σ H x y v u Q I rx ry q
  rcases q with q | q
  · exact h pins s σ H x y v u Q I rx ry q
  · exact h' pins s σ H x y v u Q I rx ry q

theorem nomark (b : Expr) {op : CmpOp} (h : op ≠ .In := by decide) (h2 : op ≠ .NotIn := by decide) : behindInMarks op b = false := by
  have e1 : (op == CmpOp.In) = false := by cases op <;> first | rfl | exact absurd rfl h
  have e2 : (op == CmpOp.NotIn) = false := by cases op <;> first | rfl | exact absurd rfl h2
  cases b <;> simp [behindInMarks, e1, e2]
/-- a comparison as a value; hm: nomark b, or (for in, not in) by with_unfolding_all rfl -/
theorem pe_cmpR {op : CmpOp} {r : R2} (ho : OpR X (compareOp op) r) (ha : PE X a ta) (hb : PE X b tb) (hm : behindInMarks op b = false) : PE X (.Compare a [op] [b] pos) (tOp r ta tb) := by
  intro pins s σ H Q I h
  exact wpAny_Compare1 (binT ha hb I h fun v u s2 x y H2 I2 rx ry q => ho pins s2 σ H2 x y v u Q I2 rx ry q) hm
/-- a reading of a value as a test -/
def tTest (t : TE) : TT := fun σ H Q => t σ H fun x H' => ∃ k, x = .bl k ∧ Q k H'
theorem pt_cmpR {op : CmpOp} {r : R2} (ho : OpR X (compareOp op) r) (ha : PE X a ta) (hb : PE X b tb) (hm : behindInMarks op b = false) : PT X (.Compare a [op] [b] pos) (tTest (tOp r ta tb)) := by
  intro pins s σ H Q I h
  refine wpAny_isTrue_Compare1 (thn (ha pins s σ H _ I h) fun v s1 ⟨x, H1, I1, r1, q1⟩ => thn (hb pins s1 σ H1 _ I1 q1) fun u s2 ⟨y, H2, I2, r2, q2⟩ =>
    thn (ho pins s2 σ H2 x y v u _ I2 r1 r2 q2) fun c s3 ⟨z, H3, I3, r3, k, e, q3⟩ => ?_) hm
  subst e
  cases r3
  exact wpAny_truthy_bool ⟨H3, I3, q3⟩
/-- a op1 b op2 c -/
def tChain (r r' : R2) (ta tb tc : TE) : TE := fun σ H Q => ta σ H fun x H1 => tb σ H1 fun y H2 => r x y H2 fun z H3 => ∃ k, z = .bl k ∧
  (if k = true then tc σ H3 fun w' H4 => r' y w' H4 Q else Q (.bl false) H3)
theorem pe_chain {op op' : CmpOp} {r r' : R2} (ho : OpR X (compareOp op) r) (ho' : OpR X (compareOp op') r') (ha : PE X a ta) (hb : PE X b tb) (hc : PE X c tc)
    (hm : lastMarks [op, op'] [b, c] = false := by with_unfolding_all rfl) : PE X (.Compare a [op, op'] [b, c] pos) (tChain r r' ta tb tc) := by
  intro pins s σ H Q I h
  refine Compare_chain (thn (ha pins s σ H _ I h) fun v s1 ⟨x, H1, I1, r1, q1⟩ => chain_link (thn (hb pins s1 σ H1 _ I1 q1) fun u s2 ⟨y, H2, I2, r2, q2⟩ =>
    thn (ho pins s2 σ H2 x y v u _ I2 r1 r2 q2) fun d s3 ⟨z, H3, I3, r3, k, e, q3⟩ => ?_)) hm
  subst e
  cases r3
  refine wpAny_truthy_bool ?_
  cases k with
  | false => exact ite_ff ⟨.bl false, H3, I3, rfl, q3⟩
  | true => exact ite_tt (chain_last (thn (hc pins s3 σ H3 _ I3 q3) fun w' s4 ⟨z', H4, I4, r4, q4⟩ => ho' pins s4 σ H4 y z' u w' Q I4 r2 r4 q4))
theorem pt_chain {op op' : CmpOp} {r r' : R2} (ho : OpR X (compareOp op) r) (ho' : OpR X (compareOp op') r') (ha : PE X a ta) (hb : PE X b tb) (hc : PE X c tc)
    (hm : lastMarks [op, op'] [b, c] = false := by with_unfolding_all rfl) : PT X (.Compare a [op, op'] [b, c] pos) (tTest (tChain r r' ta tb tc)) := by
  intro pins s σ H Q I h
  refine isTrue_chain (thn (ha pins s σ H _ I h) fun v s1 ⟨x, H1, I1, r1, q1⟩ => test_link (thn (hb pins s1 σ H1 _ I1 q1) fun u s2 ⟨y, H2, I2, r2, q2⟩ =>
    thn (ho pins s2 σ H2 x y v u _ I2 r1 r2 q2) fun d s3 ⟨z, H3, I3, r3, k, e, q3⟩ => ?_)) hm
  subst e
  cases r3
  refine wpAny_truthy_bool ?_
  cases k with
  | false =>
    obtain ⟨k', e', q'⟩ := q3
    cases e'
    exact ite_ff ⟨H3, I3, q'⟩
  | true =>
    refine ite_tt (test_last (thn (hc pins s3 σ H3 _ I3 q3) fun w' s4 ⟨z', H4, I4, r4, q4⟩ => thn (ho' pins s4 σ H4 y z' u w' _ I4 r2 r4 q4) fun d' s5 ⟨z2, H5, I5, r5, k2, e2, q5⟩ => ?_))
    subst e2
    cases r5
    exact wpAny_truthy_bool ⟨H5, I5, q5⟩

/-! ### truth -/
/-- a value's truth by the abstract heap -/
def TruV (K : PySem.W.Frag) (x : V) (H : Hp) (k : Bool) : Prop :=
  match x with
  | .non => k = false
  | .bl b => k = b
  | .int i => k = (i != 0)
  | .str y => y.length ≤ sizeLine ∧ k = ((y.length : Int) != 0)
  | .byt y => y.size ≤ sizeLine ∧ k = ((y.size : Int) != 0)
  | .ref p => (∃ xs, SqL K H p xs ∧ k = !xs.isEmpty) ∨ (∃ xs, SqT K H p xs ∧ k = !xs.isEmpty) ∨ ∃ kvs, H p = some (.dK kvs) ∧ k = !kvs.isEmpty
  | _ => False
theorem isEmpty_kv {κ : Type} {kvs : List (κ × V)} {vs : List (κ × Value)} (r : KV kvs vs) : (!vs.isEmpty) = !kvs.isEmpty := by
  cases r <;> rfl
theorem isEmpty_of {xs : List V} {its : List Value} (r : Vals xs its) : (!its.toArray.isEmpty) = !xs.isEmpty := by
  cases r <;> simp
theorem line63 : (sizeLine : Nat) < 2 ^ 63 := by rw [sizeLine_eq]; decide
theorem tru_ok : TruR X (fun x H Q => ∃ k, TruV X.K x H k ∧ Q k H) := by
  intro pins s σ H x v Q I rx h
  obtain ⟨k, e, q⟩ := h
  have hl := line63
  have hs : sizeLine = 16777216 := sizeLine_eq
  cases x with
  | non =>
    cases rx
    have e' : k = false := e
    subst e'
    exact truthy_none ⟨H, I, q⟩
  | bl b =>
    cases rx
    have e' : k = b := e
    subst e'
    exact wpAny_truthy_bool ⟨H, I, q⟩
  | int i =>
    obtain ⟨t, rfl⟩ := rx
    have e' : k = (i != 0) := e
    subst e'
    exact PySem.P.truthy_int ⟨H, I, q⟩
  | str y =>
    obtain ⟨t, rfl⟩ := rx
    obtain ⟨hy, e'⟩ : y.length ≤ sizeLine ∧ k = ((y.length : Int) != 0) := e
    subst e'
    exact PySem.P.truthy_str (by omega) ⟨H, I.tok _, q⟩
  | byt y =>
    obtain ⟨t, rfl⟩ := rx
    obtain ⟨hy, e'⟩ : y.size ≤ sizeLine ∧ k = ((y.size : Int) != 0) := e
    subst e'
    exact PySem.W.truthy_bytes (by omega) ⟨H, I.tok _, q⟩
  | ref p =>
    cases rx
    have e' : (∃ xs, SqL X.K H p xs ∧ k = !xs.isEmpty) ∨ (∃ xs, SqT X.K H p xs ∧ k = !xs.isEmpty) ∨ ∃ kvs, H p = some (.dK kvs) ∧ k = !kvs.isEmpty := e
    rcases e' with ⟨xs, hx, e'⟩ | ⟨xs, hx, e'⟩ | ⟨kvs, hx, e'⟩
    · subst e'
      obtain ⟨its, r, pl, hz⟩ := I.list hx
      have hlen := r.length
      exact wpAny_truthy_list pl.isList (by simp only [List.size_toArray]; omega) ⟨H, I.tok _, by rw [isEmpty_of r]; exact q⟩
    · subst e'
      obtain ⟨its, r, pl, hz⟩ := I.tuple hx
      have hlen := r.length
      exact truthy_tuple pl (by simp only [List.size_toArray]; omega) ⟨H, I.tok _, by rw [isEmpty_of r]; exact q⟩
    · subst e'
      obtain ⟨hz, hS, vs, r, m⟩ : kvs.length ≤ sizeLine ∧ (p == sysModules) = false ∧ ∃ vs, KV kvs vs ∧ s.heap.DictOf (mixKind X.prog X.w) p vs := I.hok p _ hx
      have hlen : kvs.length = vs.length := Paired.length r
      exact wpAny_truthy_dict hS m (by omega) ⟨H, I.tok _, by rw [isEmpty_kv r]; exact q⟩
  | _ => exact (show False from e).elim
/-- any expression whose test is its value's truth (a name, a call, a subscript, a field ..: he by fun _ => rfl) -/
theorem pt_truth (ha : PE X a ta) (he : ∀ whole, isTrue a X.env whole = (do let v ← whole; standAt a.pos; holding [v] (truthy v))) :
    PT X a (fun σ H Q => ta σ H fun x H' => ∃ k, TruV X.K x H' k ∧ Q k H') := by
  intro pins s σ H Q I h
  exact isTrue_plain (thn (ha pins s σ H _ I h) fun v s1 ⟨x, H1, I1, r1, q1⟩ => tru_ok pins s1 σ H1 x v Q I1 r1 q1) (he _)

/-! ### strs and bytes -/
theorem pe_byt {x : List UInt8} {k : Nat} : PE X (.Constant (.bytes x) k pos) (fun _ H Q => Q (.byt x.toArray) H) := fun _ _ _ H _ I h => PySem.W.Constant_bytes ⟨.byt x.toArray, H, I.tok _, ⟨_, rfl⟩, h⟩
theorem op_add_str : OpR X (binaryOp .Add) (fun x y H Q => ∃ i j, x = .str i ∧ y = .str j ∧ i.length + j.length ≤ sizeLine ∧ Q (.str (i ++ j)) H) := by
  intro pins s σ H x y v u Q I rx ry h
  obtain ⟨i, j, rfl, rfl, hz, q⟩ := h
  obtain ⟨t, rfl⟩ := rx
  obtain ⟨t', rfl⟩ := ry
  exact add_str (fun t' tk => ⟨.str (i ++ j), H, I.tok _, ⟨_, rfl⟩, q⟩) hz
theorem iop_add_str : OpR X (inplaceOp .Add) (fun x y H Q => ∃ i j, x = .str i ∧ y = .str j ∧ i.length + j.length ≤ sizeLine ∧ Q (.str (i ++ j)) H) := by
  intro pins s σ H x y v u Q I rx ry h
  obtain ⟨i, j, rfl, rfl, hz, q⟩ := h
  obtain ⟨t, rfl⟩ := rx
  obtain ⟨t', rfl⟩ := ry
  exact iadd_str (fun t' tk => ⟨.str (i ++ j), H, I.tok _, ⟨_, rfl⟩, q⟩) hz
theorem op_add_byt : OpR X (binaryOp .Add) (fun x y H Q => ∃ i j, x = .byt i ∧ y = .byt j ∧ i.size + j.size ≤ 16777216 ∧ Q (.byt (i ++ j)) H) := by
  intro pins s σ H x y v u Q I rx ry h
  obtain ⟨i, j, rfl, rfl, hz, q⟩ := h
  obtain ⟨t, rfl⟩ := rx
  obtain ⟨t', rfl⟩ := ry
  exact PySem.W.KBy.add_bytes hz (fun t' tk => ⟨.byt (i ++ j), H, I.tok _, ⟨_, rfl⟩, q⟩)

def PlainIxT (b : Expr) : Prop := ∀ o i, subscripted b false o i = operate [o, i] (getItem o i)
/-- s[i], 0 ≤ i < len -/
theorem pe_item_str (ha : PE X a ta) (hb : PE X b tb) (hs : PlainIxT b) :
    PE X (.Subscript a b pos) (tOp (fun x y H Q => ∃ z i c, x = .str z ∧ y = .int i ∧ 0 ≤ i ∧ i < 2 ^ 63 ∧ i < z.length ∧ z.cps[i.toNat]? = some c ∧ Q (.str ⟨#[c]⟩) H) ta tb) := by
  intro pins s σ H Q I h
  refine Subscript_ (binT ha hb I h fun v u s2 x y H2 I2 rx ry q => ?_)
  obtain ⟨z, i, c, rfl, rfl, h0, h63, h1, hc, q⟩ := q
  obtain ⟨t, rfl⟩ := rx
  obtain ⟨t', rfl⟩ := ry
  have e : seqIndex? i z.length = some i.toNat := PySem.StrLaws.seqIndex_nonneg h0 h1
  exact tail_any (typeIs_str s2 z t) slot_str_getitem.lookup (getItem_str (c := c) (by
    have e1 : decide (i < -(2 ^ 63 : Int)) = false := decide_eq_false (by omega)
    have e2 : decide (i ≥ 2 ^ 63) = false := decide_eq_false (by omega)
    rw [e1, e2] <;> rfl) (by rw [e]; exact hc) ⟨.str ⟨#[c]⟩, H2, I2.tok _, ⟨_, rfl⟩, q⟩) (hs _ _)
/-- b[i], 0 ≤ i < len -/
theorem pe_item_byt (ha : PE X a ta) (hb : PE X b tb) (hs : PlainIxT b) :
    PE X (.Subscript a b pos) (tOp (fun x y H Q => ∃ (z : List UInt8) (i : Int), x = .byt z.toArray ∧ y = .int i ∧ z.length ≤ sizeLine ∧ 0 ≤ i ∧ i < z.length ∧ Q (.int ((z.getD i.toNat 0).toNat : Nat)) H) ta tb) := by
  intro pins s σ H Q I h
  refine Subscript_ (binT ha hb I h fun v u s2 x y H2 I2 rx ry q => ?_)
  obtain ⟨z, i, rfl, rfl, hz, h0, h1, q⟩ := q
  obtain ⟨t, rfl⟩ := rx
  obtain ⟨t', rfl⟩ := ry
  have hl : sizeLine = 16777216 := sizeLine_eq
  exact tail_any (PySem.W.typeIs_bytes s2 z.toArray t) PySem.W.FB.slot_bytes_getitem.lookup (PySem.W.getItem_bytes (by omega) h0 h1 ⟨.int ((z.getD i.toNat 0).toNat : Nat), H2, I2.tok _, ⟨_, rfl⟩, q⟩) (hs _ _)

/-! ### scalar builtins, by CallR -/
theorem vals1 {x : V} {us : List Value} (r : Vals [x] us) : ∃ u, us = [u] ∧ RelV x u := by
  cases r with
  | cons r1 r2 => cases r2; exact ⟨_, rfl, r1⟩
theorem vals2 {x y : V} {us : List Value} (r : Vals [x, y] us) : ∃ u w', us = [u, w'] ∧ RelV x u ∧ RelV y w' := by
  cases r with
  | cons r1 r2 =>
    cases r2 with
    | cons r3 r4 => cases r4; exact ⟨_, _, rfl, r1, r3⟩
theorem call_abs : CallR X (.builtin "abs") (fun xs H Q => ∃ i, xs = [.int i] ∧ Q (.int (if i < 0 then -i else i)) H) := by
  intro pins s σ H xs us Q I r h
  obtain ⟨i, rfl, q⟩ := h
  obtain ⟨u, rfl, t, rfl⟩ := vals1 r
  exact call_abs_int fun u tk => ⟨.int (if i < 0 then -i else i), H, I.tok _, ⟨_, rfl⟩, q⟩
theorem call_max2 (hc : X.calm = true) : CallR X (.builtin "max") (fun xs H Q => ∃ i j, xs = [.int i, .int j] ∧ Q (.int (if j > i then j else i)) H) := by
  intro pins s σ H xs us Q I r h
  obtain ⟨i, j, rfl, q⟩ := h
  obtain ⟨u, w', rfl, ⟨t, rfl⟩, ⟨t', rfl⟩⟩ := vals2 r
  refine max_two_ints (I.ok.hd hc) fun h' tk k => ⟨_, H, I.kept k, ?_, q⟩
  by_cases hj : j > i
  · rw [if_pos hj, if_pos hj]; exact ⟨_, rfl⟩
  · rw [if_neg hj, if_neg hj]; exact ⟨_, rfl⟩
theorem call_min2 (hc : X.calm = true) : CallR X (.builtin "min") (fun xs H Q => ∃ i j, xs = [.int i, .int j] ∧ Q (.int (if j < i then j else i)) H) := by
  intro pins s σ H xs us Q I r h
  obtain ⟨i, j, rfl, q⟩ := h
  obtain ⟨u, w', rfl, ⟨t, rfl⟩, ⟨t', rfl⟩⟩ := vals2 r
  refine min_two_ints (I.ok.hd hc) fun h' tk k => ⟨_, H, I.kept k, ?_, q⟩
  by_cases hj : j < i
  · rw [if_pos hj, if_pos hj]; exact ⟨_, rfl⟩
  · rw [if_neg hj, if_neg hj]; exact ⟨_, rfl⟩
theorem call_int1 : CallR X (.type "int") (fun xs H Q => (∃ i, xs = [.int i] ∧ Q (.int i) H) ∨ ∃ k, xs = [.bl k] ∧ Q (.int (if k then 1 else 0)) H) := by
  intro pins s σ H xs us Q I r h
  rcases h with ⟨i, rfl, q⟩ | ⟨k, rfl, q⟩
  · obtain ⟨u, rfl, t, rfl⟩ := vals1 r
    exact call_int_int ⟨.int i, H, I, ⟨_, rfl⟩, q⟩
  · obtain ⟨u, rfl, r1⟩ := vals1 r
    cases r1
    exact call_int_bool ⟨.int (if k then 1 else 0), H, I.tok _, ⟨_, rfl⟩, q⟩
theorem call_bool1 : CallR X (.type "bool") (fun xs H Q => (∃ i, xs = [.int i] ∧ Q (.bl (i != 0)) H) ∨ ∃ k, xs = [.bl k] ∧ Q (.bl k) H) := by
  intro pins s σ H xs us Q I r h
  rcases h with ⟨i, rfl, q⟩ | ⟨k, rfl, q⟩
  · obtain ⟨u, rfl, t, rfl⟩ := vals1 r
    exact call_bool_int ⟨.bl (i != 0), H, I, rfl, q⟩
  · obtain ⟨u, rfl, r1⟩ := vals1 r
    cases r1
    exact call_bool_bool ⟨.bl k, H, I, rfl, q⟩
theorem call_str_int : CallR X (.type "str") (fun xs H Q => ∃ i, xs = [.int i] ∧ i.natAbs.log2 < 1920 ∧ Q (.str (toString i)) H) := by
  intro pins s σ H xs us Q I r h
  obtain ⟨i, rfl, hz, q⟩ := h
  obtain ⟨u, rfl, t, rfl⟩ := vals1 r
  exact PySem.P.str_of_int hz ⟨.str _, H, I.tok _, ⟨_, rfl⟩, q⟩
theorem call_ord : CallR X (.builtin "ord") (fun xs H Q => ∃ x, xs = [.str x] ∧ x.length = 1 ∧ Q (.int (x.cps.getD 0 0 : Nat)) H) := by
  intro pins s σ H xs us Q I r h
  obtain ⟨x, rfl, hz, q⟩ := h
  obtain ⟨u, rfl, t, rfl⟩ := vals1 r
  exact ord_of_one hz ⟨.int _, H, I.tok _, ⟨_, rfl⟩, q⟩
theorem call_chr : CallR X (.builtin "chr") (fun xs H Q => ∃ i, xs = [.int i] ∧ 0 ≤ i ∧ i ≤ 1114111 ∧ Q (.str ⟨#[i.toNat]⟩) H) := by
  intro pins s σ H xs us Q I r h
  obtain ⟨i, rfl, h0, h1, q⟩ := h
  obtain ⟨u, rfl, t, rfl⟩ := vals1 r
  exact chr_of_range h0 h1 ⟨.str _, H, I.tok _, ⟨_, rfl⟩, q⟩
/-- len of a str, a bytes, a list, a tuple -/
def LenV (K : PySem.W.Frag) (x : V) (H : Hp) (n : Nat) : Prop :=
  match x with
  | .str y => y.length ≤ sizeLine ∧ n = y.length
  | .byt y => y.size ≤ sizeLine ∧ n = y.size
  | .ref p => (∃ xs, SqL K H p xs ∧ n = xs.length) ∨ ∃ xs, SqT K H p xs ∧ n = xs.length
  | _ => False
theorem call_len : CallR X (.builtin "len") (fun xs H Q => ∃ x n, xs = [x] ∧ LenV X.K x H n ∧ Q (.int n) H) := by
  intro pins s σ H xs us Q I r h
  obtain ⟨x, n, rfl, e, q⟩ := h
  obtain ⟨u, rfl, rx⟩ := vals1 r
  have hl := line63
  have hs : sizeLine = 16777216 := sizeLine_eq
  cases x with
  | str y =>
    obtain ⟨t, rfl⟩ := rx
    obtain ⟨hy, e'⟩ : y.length ≤ sizeLine ∧ n = y.length := e
    subst e'
    exact len_str (by omega) ⟨.int _, H, I.tok _, ⟨_, rfl⟩, q⟩
  | byt y =>
    obtain ⟨t, rfl⟩ := rx
    obtain ⟨hy, e'⟩ : y.size ≤ sizeLine ∧ n = y.size := e
    subst e'
    exact PySem.W.len_bytes (by omega) ⟨.int _, H, I.tok _, ⟨_, rfl⟩, q⟩
  | ref p =>
    cases rx
    have e' : (∃ xs, SqL X.K H p xs ∧ n = xs.length) ∨ ∃ xs, SqT X.K H p xs ∧ n = xs.length := e
    rcases e' with ⟨xs, hx, e'⟩ | ⟨xs, hx, e'⟩
    · subst e'
      obtain ⟨its, r', pl, hz⟩ := I.list hx
      have hlen := r'.length
      exact Calls.call_len_list pl.isList (by simp only [List.size_toArray]; omega) ⟨.int xs.length, H, I.tok _, ⟨_, by simp only [List.size_toArray]; rw [hlen]⟩, q⟩
    · subst e'
      obtain ⟨its, r', pl, hz⟩ := I.tuple hx
      have hlen := r'.length
      exact len_tuple pl (by simp only [List.size_toArray]; omega) ⟨.int xs.length, H, I.tok _, ⟨_, by simp only [List.size_toArray]; rw [hlen]⟩, q⟩
  | _ => exact (show False from e).elim
/-- divmod: a new tuple -/
theorem call_divmod : CallR X (.builtin "divmod") (fun xs H Q => ∃ i j, xs = [.int i, .int j] ∧ CDiv i j ∧ ∀ p, H p = none → Q (.ref p) (upd H p (.tup [.int (i / j), .int (i % j)]))) := by
  intro pins s σ H xs us Q I r h
  obtain ⟨i, j, rfl, ⟨h1, h2⟩, q⟩ := h
  obtain ⟨u, w', rfl, ⟨t, rfl⟩, ⟨t', rfl⟩⟩ := vals2 r
  refine divmod_int (by omega) ?_ (.inl (PyProof.noPylong_small (by omega)))
  rw [Int.fdiv_eq_ediv_of_nonneg i (by omega), Int.fmod_eq_emod_of_nonneg i (by omega)]
  have hn : H s.heap.objs.size = none := I.hok.fresh (Nat.le_refl _)
  refine ⟨.ref s.heap.objs.size, _, ?_, rfl, q _ hn⟩
  refine I.laid (fun b o e => Heap.get?_push_of_some _ e) (Nat.le_refl _) ⟨by simp only [List.length_cons, List.length_nil]; rw [sizeLine_eq]; decide, [.int (i / j) s.toks, .int (i % j) (s.toks + 1)], .cons ⟨_, rfl⟩ (.cons ⟨_, rfl⟩ .nil), ?_⟩
  exact ⟨_, Heap.get?_push_size s.heap rfl, rfl, 0, rfl⟩
end
end L2

namespace L2
open PySem PySem.Spec PyProof.Rows

/-! ### an instance, its attributes a map -/
structure ObjM (h : Heap) (x dx C : Addr) (mA : Str → Option Value) : Prop where
  obj : h.get? x = some (PySem.W.instObj C dx)
  ns : h.Ns1 dx mA
  ne : dx ≠ x

theorem lookIn_ns {h : Heap} {dx : Addr} {mA : Str → Option Value} (n : h.Ns1 dx mA) : ∃ od, h.get? dx = some od ∧ ∀ name, PySem.W.lookIn name od = some (mA name) := by
  obtain ⟨o, es, ep, ho, hd, hk, _, hm⟩ := n
  refine ⟨o, ho, fun name => ?_⟩
  have e := hm name
  unfold nsFind findBy at e
  rw [← Array.find?_toList] at e
  unfold PySem.W.lookIn
  rw [hd]
  dsimp only
  split
  · rename_i y q
    rw [q] at e
    exact congrArg some e
  · rename_i q
    rw [q] at e
    have a : es.toList.any (·.refKey) = false := by
      rw [List.any_eq_false]
      intro y hy
      obtain ⟨z, t, hkey⟩ := hk y (Array.mem_toList_iff.mp hy)
      simp [DictEntry.refKey, hkey]
    have a' : ¬ es.toList.any (·.refKey) = true := by rw [a]; exact Bool.false_ne_true
    rw [if_neg a']
    exact congrArg some e

theorem ObjM.look {h : Heap} {x dx C : Addr} {mA : Str → Option Value} (I : ObjM h x dx C mA) : ∃ od, PySem.W.InstAt h x (PySem.W.instObj C dx) C (some od) ∧ ∀ name, PySem.W.lookIn name od = some (mA name) :=
  let ⟨od, ho, hl⟩ := lookIn_ns I.ns
  ⟨od, ⟨I.obj, rfl, rfl, ho⟩, hl⟩

section
variable {prog : Program} {w : World} {A : Around} {E : Value → Shared → Prop} {s : Shared} {K : PySem.W.Frag} {x dx C f : Addr} {mA : Str → Option Value} {name : Str} {v : Value}

theorem get_map {expr : Bool} {Q : Value → Shared → Prop} (X : K.In s.heap) (I : ObjM s.heap x dx C mA) (hg : PySem.W.plainGet K C name = true) (hh : PySem.W.hasDictIn K C = true)
    (ha : PySem.W.findIn K (.ref C) name = some none) (hv : mA name = some v) (hv' : PySem.W.handedIn v = true) (h : Q v { s with toks := s.toks + 1 }) :
    wpAny (model prog w) A (getAttr (.ref x) name expr) Q E s := by
  obtain ⟨od, J, hl⟩ := I.look
  exact PySem.W.get_value X J (PySem.W.plainGet_of hg).1 (PySem.W.findObj_own hh ha rfl (by rw [hl, hv])) hv' h

theorem get_const {expr : Bool} {a : Value} {Q : Value → Shared → Prop} (X : K.In s.heap) (I : ObjM s.heap x dx C mA) (hg : PySem.W.plainGet K C name = true) (hh : PySem.W.hasDictIn K C = true)
    (ha : PySem.W.findIn K (.ref C) name = some (some a)) (hn : PySem.W.specialIn K a "__get__" = some none) (hc : PySem.W.copiedNames.contains name = false) (hv : mA name = none) (hv' : PySem.W.handedIn a = true)
    (h : Q a { s with toks := s.toks + 1 }) : wpAny (model prog w) A (getAttr (.ref x) name expr) Q E s := by
  obtain ⟨od, J, hl⟩ := I.look
  exact PySem.W.get_value X J (PySem.W.plainGet_of hg).1 (PySem.W.findObj_cls hh ha hn hv' hc (by rw [hl, hv])) hv' h

theorem get_meth {pl : Sem Bool} {Q : Value × List Value → Shared → Prop} (X : K.In s.heap) (I : ObjM s.heap x dx C mA) (hg : PySem.W.plainGet K C name = true)
    (hf : PySem.W.findIn K (.ref C) name = some (some (.ref f))) (ht : PySem.W.isFn K (.ref f) = true) (hv : mA name = none) (h : Q (.ref f, [.ref x]) s) :
    wpAny (model prog w) A (getMethod (.ref x) name pl) Q E s := by
  obtain ⟨od, J, hl⟩ := I.look
  exact PySem.W.method_fn X J (PySem.W.plainGet_of hg).1 (PySem.W.plainGet_of hg).2 hf (beq_iff_eq.mp ht) (by show (PySem.W.lookIn name od).map (·.isSome) = some false; rw [hl, hv]; rfl) h

theorem set_map {ns : List Str} {Q : Unit → Shared → Prop} (X : K.In s.heap) (I : ObjM s.heap x dx C mA)
    (hs : PySem.W.findIn K (.ref C) "__setattr__" = some (some (.builtin "object.__setattr__"))) (hp : PySem.W.plainOver K C = true) (ht : PySem.W.takerIn K C name = some none) (hh : PySem.W.hasDictIn K C = true)
    (hw : PySem.Within mA ns) (hsz : ns.length ≤ sizeLine)
    (h : ∀ h', ObjM h' x dx C (fun y => if y = name then some v else mA y) → Heap.SameBut dx s.heap h' → Q () { s with heap := h', toks := s.toks + 2 }) :
    wpAny (model prog w) A (setAttr (.ref x) name v) Q E s := by
  obtain ⟨od, J, hl⟩ := I.look
  refine PySem.W.set_plain X J hs (PySem.W.osa_open (s := { s with toks := s.toks + 1 }) (r := none) X J hp ht fun b => ?_)
  obtain ⟨cd, hc, hd'⟩ := PySem.W.any_some hh
  have hx : s.heap.get? x = some ⟨.ref C, some dx, .plain, #[]⟩ := I.obj
  refine wpAny_bind (wpAny_pure (wpAny_bind (wpAny_bind (wpAny_loadPart hx (wpAny_bind (PySem.W.Looks.here (s := { s with toks := s.toks + 1 }) (PySem.W.looks_clsIn X hc) ?_))))))
  rw [hd']
  refine wpAny_pure (a := some dx) (wpAny_bind (wpAny_pure (wpAny_bind ?_)))
  refine wpAny_nsSet1 (s := { s with toks := s.toks + 1 }) I.ns fun h' hn2 hs2 => ?_
  obtain ⟨oD, esD, epD, hoD, hdD, hcD⟩ := hn2.count (PySem.Within.cons name v hw)
  refine wpAny_bind (wpAny_lookBehind hoD (by rw [hdD]; exact pastItsLine_dict (Nat.le_trans hcD (by rw [List.length_cons]; omega))) ?_)
  exact wpAny_pure (h _ ⟨(hs2.2 _ (Ne.symm I.ne)).trans I.obj, hn2, I.ne⟩ hs2)

/-- C(..): the dict at the heap's end, the instance behind it; then its __init__ -/
theorem make_map {R : Result → Shared → Prop} {vs : List Value} {kw : List (Str × Value)} (X : K.In s.heap) (hm : PySem.W.makesIn K C = true)
    (hi : PySem.W.findIn K (.ref C) "__init__" = some (some (.ref f))) (hf : PySem.W.typeIn K (.ref f) = some (.type "function"))
    (h : codeAny (model prog w) (A.under (.builtin "type.__call__" ⟨.ref C :: vs, kw⟩)) (.call (.ref f) ⟨.ref (s.heap.objs.size + 1) :: vs, kw⟩) (PySem.W.InitBack (s.heap.objs.size + 1) R)
      { s with heap := (s.heap.push PySem.W.emptyDict).push (PySem.W.instObj C s.heap.objs.size) }) :
    codeAny (model prog w) A (.call (.ref C) ⟨vs, kw⟩) R s := by
  obtain ⟨hh, g, d, t, os⟩ := s
  exact PySem.W.make_core (PySem.W.makes_of X hm) (PySem.W.looks_findIn X hi) (fun self => PySem.W.bind_fn X self hf) (.inl rfl) h
/-- C() where there is no __init__ but object's -/
theorem make_map0 {R : Result → Shared → Prop} (X : K.In s.heap) (hm : PySem.W.makesIn K C = true)
    (hi : PySem.W.findIn K (.ref C) "__init__" = some (some (.builtin "object.__init__")))
    (hb : ∀ self, PySem.W.Looks (model prog w) s.heap (bindSpecial (.builtin "object.__init__") self) (.builtin "object.__init__", [self]))
    (h : codeAny (model prog w) (A.under (.builtin "type.__call__" ⟨[.ref C], []⟩)) (.call (.builtin "object.__init__") ⟨[.ref (s.heap.objs.size + 1)], []⟩) (PySem.W.InitBack (s.heap.objs.size + 1) R)
      { s with heap := (s.heap.push PySem.W.emptyDict).push (PySem.W.instObj C s.heap.objs.size) }) :
    codeAny (model prog w) A (.call (.ref C) ⟨[], []⟩) R s := by
  obtain ⟨hh, g, d, t, os⟩ := s
  exact PySem.W.make_core (PySem.W.makes_of X hm) (PySem.W.looks_findIn X hi) hb (.inr ⟨rfl, rfl⟩) h
end

/-! ### the attributes as a list of pairs -/
def putF (f : Str) (v : V) : List (Str × V) → List (Str × V)
  | [] => [(f, v)]
  | (g, x) :: r => if g = f then (g, v) :: r else (g, x) :: putF f v r
theorem lookup_putF (f g : Str) (v : V) : ∀ fs : List (Str × V), (putF f v fs).lookup g = if g = f then some v else fs.lookup g
  | [] => by
    show List.lookup g [(f, v)] = _
    by_cases h : g = f
    · have hb : (g == f) = true := beq_iff_eq.mpr h
      simp only [List.lookup, hb, if_pos h]
    · have hb : (g == f) = false := beq_eq_false_iff_ne.mpr h
      simp only [List.lookup, hb, if_neg h]
  | (k, x) :: r => by
    have ih := lookup_putF f g v r
    rw [show putF f v ((k, x) :: r) = (if k = f then (k, v) :: r else (k, x) :: putF f v r) from rfl]
    by_cases hk : k = f
    · rw [if_pos hk]
      by_cases h : g = k
      · have hb : (g == k) = true := beq_iff_eq.mpr h
        simp only [List.lookup, hb, if_pos (h.trans hk)]
      · have hb : (g == k) = false := beq_eq_false_iff_ne.mpr h
        simp only [List.lookup, hb, if_neg (fun e : g = f => h (e.trans hk.symm))]
    · rw [if_neg hk]
      by_cases h : g = k
      · have hb : (g == k) = true := beq_iff_eq.mpr h
        simp only [List.lookup, hb, if_neg (fun e : g = f => hk (h.symm.trans e))]
      · have hb : (g == k) = false := beq_eq_false_iff_ne.mpr h
        simp only [List.lookup, hb]
        exact ih
theorem keys_putF (f : Str) (v : V) : ∀ fs : List (Str × V), f ∈ (putF f v fs).map (·.1) ∧ ∀ g, g ∈ fs.map (·.1) → g ∈ (putF f v fs).map (·.1)
  | [] => ⟨by simp [putF], fun g h => by simp at h⟩
  | (k, x) :: r => by
    obtain ⟨i1, i2⟩ := keys_putF f v r
    rw [show putF f v ((k, x) :: r) = (if k = f then (k, v) :: r else (k, x) :: putF f v r) from rfl]
    by_cases hk : k = f
    · rw [if_pos hk]
      subst hk
      exact ⟨by simp, fun g h => by simpa using h⟩
    · rw [if_neg hk]
      refine ⟨?_, fun g h => ?_⟩
      · rw [List.map_cons]
        exact List.mem_cons_of_mem _ i1
      · rw [List.map_cons] at h ⊢
        rcases List.mem_cons.mp h with e | e
        · exact List.mem_cons.mpr (.inl e)
        · exact List.mem_cons_of_mem _ (i2 g e)
theorem length_putF (f : Str) (v : V) : ∀ fs : List (Str × V), (putF f v fs).length ≤ fs.length + 1
  | [] => by simp [putF]
  | (k, x) :: r => by
    have ih := length_putF f v r
    rw [show putF f v ((k, x) :: r) = (if k = f then (k, v) :: r else (k, x) :: putF f v r) from rfl]
    by_cases hk : k = f
    · rw [if_pos hk, List.length_cons, List.length_cons]; omega
    · rw [if_neg hk, List.length_cons, List.length_cons]; omega

theorem RelO.some_of {v : V} {o : Option Value} (r : RelO (some v) o) : ∃ u, o = some u ∧ RelV v u := by
  cases o with
  | none => exact (show False from r).elim
  | some u => exact ⟨u, rfl, r⟩
theorem RelO.none_of {o : Option Value} (r : RelO none o) : o = none := by
  cases o with
  | none => rfl
  | some u => exact (show False from r).elim
theorem handed_of {v : V} {u : Value} (r : RelV v u) : PySem.W.handedIn u = true := by
  cases v with
  | non => cases (show u = Value.none from r); rfl
  | bl b => cases (show u = Value.bool b from r); rfl
  | int i => obtain ⟨t, e⟩ := (show ∃ t, u = Value.int i t from r); cases e; rfl
  | str x => obtain ⟨t, e⟩ := (show ∃ t, u = Value.str x t from r); cases e; rfl
  | byt b => obtain ⟨t, e⟩ := (show ∃ t, u = Value.bytes b t from r); cases e; rfl
  | flt b => obtain ⟨t, e⟩ := (show ∃ t, u = Value.float b t from r); cases e; rfl
  | ref a => cases (show u = Value.ref a from r); rfl
  | ty n => cases (show u = Value.type n from r); rfl

section
variable {P : Program} {w : World} {H H' : Hp} {h h' : Heap} {a C dx : Addr} {fs fs' : List (Str × V)}
theorem ins_get (hok : HOk P w H h) (e : H a = some (.ins C dx fs)) : ∃ mA, ObjM h a dx C mA ∧ (∀ f, RelO (fs.lookup f) (mA f)) ∧ PySem.Within mA (fs.map (·.1)) ∧ fs.length ≤ 1000 ∧ H dx = some (.own a) := by
  obtain ⟨d, z, ne, ob, mA, n, r, q⟩ := (show ObjOk P w H h a (.ins C dx fs) from hok a _ e)
  exact ⟨mA, ⟨ob, n, ne⟩, r, q, z, d⟩
end

/-! ### what of the text a class must have -/
structure Cls (K : PySem.W.Frag) (C : Addr) : Prop where
  pg : PySem.W.plainGet K C Str.empty = true
  hd : PySem.W.hasDictIn K C = true
  po : PySem.W.plainOver K C = true
  sa : PySem.W.findIn K (.ref C) "__setattr__" = some (some (.builtin "object.__setattr__"))
theorem Cls.get {K : PySem.W.Frag} {C : Addr} (c : Cls K C) (f : Str) : PySem.W.plainGet K C f = true := c.pg
/-- no class of it has the name -/
def NoAttr (K : PySem.W.Frag) (C : Addr) (f : Str) : Prop := PySem.W.findIn K (.ref C) f = some none
theorem NoAttr.taker {K : PySem.W.Frag} {C : Addr} {f : Str} (n : NoAttr K C f) : PySem.W.takerIn K C f = some none := by
  unfold PySem.W.takerIn
  rw [show PySem.W.findIn K (.ref C) f = some none from n]
  rfl
/-- a constant of the class -/
structure Con (K : PySem.W.Frag) (C : Addr) (f : Str) (v : V) (u : Value) : Prop where
  at_ : PySem.W.findIn K (.ref C) f = some (some u)
  rel : RelV v u
  get : PySem.W.specialIn K u "__get__" = some none
  cp : PySem.W.copiedNames.contains f = false
/-- a method: a plain def of the class or of one above it -/
structure Meth (K : PySem.W.Frag) (C : Addr) (m : Str) (f : Addr) : Prop where
  at_ : PySem.W.findIn K (.ref C) m = some (some (.ref f))
  fn : PySem.W.isFn K (.ref f) = true
  kp : PySem.W.keepIn K (.ref f) = true

section
variable {X : Cx} {pins : List (Addr × Obj)} {σ : St} {H : Hp} {s : Shared} {a C dx : Addr} {fs : List (Str × V)} {f : Str} {v : V} {A : Around} {E : Value → Shared → Prop}

theorem getattr_ok {b : Bool} {Q : Value → Shared → Prop} (I : Inv X pins σ H s) (e : H a = some (.ins C dx fs)) (c : Cls X.K C) (n : NoAttr X.K C f) (l : fs.lookup f = some v)
    (h : ∀ u s', Inv X pins σ H s' → RelV v u → Q u s') : wpAny (model X.prog X.w) A (getAttr (.ref a) f b) Q E s := by
  obtain ⟨mA, O, r, _, _, _⟩ := ins_get I.hok e
  obtain ⟨u, hu, ru⟩ := RelO.some_of (v := v) (o := mA f) (by rw [← l]; exact r f)
  exact get_map I.kIn O (c.get f) c.hd n hu (handed_of ru) (h u _ (I.tok _) ru)

theorem getcon_ok {b : Bool} {u : Value} {Q : Value → Shared → Prop} (I : Inv X pins σ H s) (e : H a = some (.ins C dx fs)) (c : Cls X.K C) (k : Con X.K C f v u) (l : fs.lookup f = none)
    (h : ∀ s', Inv X pins σ H s' → Q u s') : wpAny (model X.prog X.w) A (getAttr (.ref a) f b) Q E s := by
  obtain ⟨mA, O, r, _, _, _⟩ := ins_get I.hok e
  have hn : mA f = none := RelO.none_of (by rw [← l]; exact r f)
  exact get_const I.kIn O (c.get f) c.hd k.at_ k.get k.cp hn (handed_of k.rel) (h _ (I.tok _))

theorem getmeth_ok {m : Str} {g : Addr} {pl : Sem Bool} {Q : Value × List Value → Shared → Prop} (I : Inv X pins σ H s) (e : H a = some (.ins C dx fs)) (c : Cls X.K C) (k : Meth X.K C m g) (l : fs.lookup m = none)
    (h : Q (.ref g, [.ref a]) s) : wpAny (model X.prog X.w) A (getMethod (.ref a) m pl) Q E s := by
  obtain ⟨mA, O, r, _, _, _⟩ := ins_get I.hok e
  have hn : mA m = none := RelO.none_of (by rw [← l]; exact r m)
  exact get_meth I.kIn O (c.get m) k.at_ k.fn hn h

theorem setattr_ok {y : V} {u : Value} {Q : Unit → Shared → Prop} (I : Inv X pins σ H s) (e : H a = some (.ins C dx fs)) (c : Cls X.K C) (n : NoAttr X.K C f) (hl : fs.length < 1000) (ry : RelV y u)
    (h : ∀ s', Inv X pins σ (upd H a (.ins C dx (putF f y fs))) s' → Q () s') : wpAny (model X.prog X.w) A (setAttr (.ref a) f u) Q E s := by
  obtain ⟨mA, O, r, wi, _, ho⟩ := ins_get I.hok e
  have hz : (fs.map (·.1)).length ≤ sizeLine := by rw [List.length_map, sizeLine_eq]; omega
  refine set_map I.kIn O c.sa c.po n.taker c.hd wi hz fun h' O' sb => h _ ?_
  have hd : ∃ o, h'.get? dx = some o := let ⟨o, _, _, e', _⟩ := O'.ns; ⟨o, e'⟩
  refine I.write (x := a) (e := dx) (by rw [e]; exact True.intro) (.inr ho) (fun b q hb z => (sb.2 b hb).trans z) hd ?_
  refine ⟨by rw [upd_ne O.ne]; exact ho, ?_, O.ne, O'.obj, _, O'.ns, fun g => ?_, fun g hg => ?_⟩
  · have := length_putF f y fs; omega
  · show RelO ((putF f y fs).lookup g) (if g = f then some u else mA g)
    rw [lookup_putF]
    by_cases q : g = f
    · rw [if_pos q, if_pos q]; exact ry
    · rw [if_neg q, if_neg q]; exact r g
  · by_cases q : g = f
    · rw [q]; exact (keys_putF f y fs).1
    · refine (keys_putF f y fs).2 g (wi g fun z => hg ?_)
      show (if g = f then some u else mA g) = none
      rw [if_neg q]; exact z

/-- a new instance, tracked, without attributes -/
theorem Inv.made (I : Inv X pins σ H s) : Inv X pins σ (upd (upd H s.heap.objs.size (.own (s.heap.objs.size + 1))) (s.heap.objs.size + 1) (.ins C s.heap.objs.size []))
    { s with heap := (s.heap.push PySem.W.emptyDict).push (PySem.W.instObj C s.heap.objs.size) } := by
  have e1 : (s.heap.push PySem.W.emptyDict).get? s.heap.objs.size = some PySem.W.emptyDict := Heap.get?_push_size s.heap rfl
  have e2 : ((s.heap.push PySem.W.emptyDict).push (PySem.W.instObj C s.heap.objs.size)).get? (s.heap.objs.size + 1) = some (PySem.W.instObj C s.heap.objs.size) := by
    have := Heap.get?_push_size (s.heap.push PySem.W.emptyDict) (o := PySem.W.instObj C s.heap.objs.size) rfl
    rwa [Heap.size_push] at this
  have e3 : (s.heap.push PySem.W.emptyDict).Ns s.heap.objs.size (fun _ => none) := ⟨PySem.W.emptyDict, #[], _, e1, rfl, (fun e he => absurd he (by simp)), fun _ => rfl⟩
  have I1 := I.laid (a := s.heap.objs.size) (o := .own (s.heap.objs.size + 1)) (h' := s.heap.push PySem.W.emptyDict) (t' := s.toks) (fun b u q => Heap.get?_push_of_some _ q) (Nat.le_refl _) ⟨_, e1⟩
  refine I1.laid (a := s.heap.objs.size + 1) (o := .ins C s.heap.objs.size []) (t' := s.toks) (fun b u q => Heap.get?_push_of_some _ q) (Nat.le_of_eq (Heap.size_push _ _)) ?_
  have ne : s.heap.objs.size ≠ s.heap.objs.size + 1 := Nat.ne_of_lt (Nat.lt_succ_self _)
  refine ⟨by rw [upd_ne ne, upd_same], Nat.zero_le _, ne, e2, fun _ => none, (Heap.Ns1.of_empty e3).at fun o q => Heap.get?_push_of_some _ q, fun _ => True.intro, fun y hy => absurd rfl hy⟩

/-- e.f where nothing but the object is asked: through attributeBase (super) and the last hold -/
theorem attr_of {prog : Program} {w : World} {env : Env} {e : Expr} {f : Str} {pos : Pos} {s : Shared} {Q : Value → Shared → Prop} (hb : attributeBase e f env (eval e env) = eval e env)
    (h : wpAny (model prog w) A (eval e env) (fun o s₁ => wpAny (model prog w) A (getAttr o f true) Q E s₁) E s) : wpAny (model prog w) A (eval (.Attribute e f pos) env) Q E s :=
  Attribute_any_ h (by rw [arm_eval_Attribute, hb])
end

/-! ### readings and rules -/
/-- e.f, an attribute of the instance -/
def tFld (K : PySem.W.Frag) (ta : TE) (f : Str) : TE := fun σ H Q => ta σ H fun x H1 => ∃ a C dx fs v, x = .ref a ∧ H1 a = some (.ins C dx fs) ∧ Cls K C ∧ NoAttr K C f ∧ fs.lookup f = some v ∧ Q v H1
/-- e.f, a constant of the class -/
def tCon (K : PySem.W.Frag) (ta : TE) (f : Str) : TE := fun σ H Q => ta σ H fun x H1 => ∃ a C dx fs v u, x = .ref a ∧ H1 a = some (.ins C dx fs) ∧ Cls K C ∧ Con K C f v u ∧ fs.lookup f = none ∧ Q v H1
/-- e.f = value -/
def sFld (K : PySem.W.Frag) (ta tv : TE) (f : Str) : TS := fun D σ H => tv σ H fun y H1 => ta σ H1 fun x H2 => ∃ a C dx fs, x = .ref a ∧ H2 a = some (.ins C dx fs) ∧ Cls K C ∧ NoAttr K C f ∧ fs.length < 1000 ∧
  D.nx σ (upd H2 a (.ins C dx (putF f y fs)))
/-- an augmented operator on two values -/
def InOp (X : Cx) (op : Operator) (rd : V → V → Hp → VK → Prop) : Prop :=
  ∀ (pins : List (Addr × Obj)) (s : Shared) (σ : St) (H : Hp) (x y : V) (u v : Value) (Q : VK), Inv X pins σ H s → RelV x u → RelV y v → rd x y H Q → wpAny (model X.prog X.w) X.A (inplaceOp op u v) (EP X pins σ Q) X.xe s
/-- e.f op= value -/
def sFldAug (K : PySem.W.Frag) (ta tv : TE) (rd : V → V → Hp → VK → Prop) (f : Str) : TS := fun D σ H => ta σ H fun x H1 => ∃ a C dx fs v, x = .ref a ∧ H1 a = some (.ins C dx fs) ∧ Cls K C ∧ NoAttr K C f ∧ fs.lookup f = some v ∧
  tv σ H1 fun y H2 => rd v y H2 fun z H3 => ∃ dx' fs', H3 a = some (.ins C dx' fs') ∧ fs'.length < 1000 ∧ D.nx σ (upd H3 a (.ins C dx' (putF f z fs')))

section
variable {X : Cx} {o e value : Expr} {f : Str} {pos pos' tpos : Pos} {ta tv : TE}
theorem pe_fld (he : PE X e ta) (hb : attributeBase e f X.env (eval e X.env) = eval e X.env) : PE X (.Attribute e f pos) (tFld X.K ta f) := by
  intro pins s σ H Q I h
  refine attr_of hb (thn (he pins s σ H _ I h) fun u s1 ⟨x, H1, I1, rx, a, C, dx, fs, v, ex, ea, c, n, l, q⟩ => ?_)
  subst ex
  obtain rfl : u = Value.ref a := rx
  exact getattr_ok I1 ea c n l fun u' s2 I2 ru => ⟨v, H1, I2, ru, q⟩
theorem pe_con (he : PE X e ta) (hb : attributeBase e f X.env (eval e X.env) = eval e X.env) : PE X (.Attribute e f pos) (tCon X.K ta f) := by
  intro pins s σ H Q I h
  refine attr_of hb (thn (he pins s σ H _ I h) fun u s1 ⟨x, H1, I1, rx, a, C, dx, fs, v, u0, ex, ea, c, k, l, q⟩ => ?_)
  subst ex
  obtain rfl : u = Value.ref a := rx
  exact getcon_ok I1 ea c k l fun s2 I2 => ⟨v, H1, I2, k.rel, q⟩
theorem ps_fld (ha : PE X o ta) (hv : PE X value tv) (hs : swapsWith value (some (.Attribute o f pos')) pos.line X.env = pure false) : PS X (.Assign [.Attribute o f pos'] value pos) (sFld X.K ta tv f) := by
  intro pins s σ H D I h
  refine plainObj_wpAny_Assign_Attribute (thn (hv pins s σ H _ I h) fun u s1 ⟨y, H1, I1, ry, q⟩ => thn (ha pins s1 σ H1 _ I1 q) fun ov s2 ⟨x, H2, I2, rx, a, C, dx, fs, ex, ea, c, n, l, q2⟩ => ?_) hs
  subst ex
  obtain rfl : ov = Value.ref a := rx
  exact setattr_ok I2 ea c n l ry fun s3 I3 => ⟨σ, _, I3, q2⟩
theorem ps_fldaug {op : Operator} {rd : V → V → Hp → VK → Prop} (ha : PE X o ta) (hv : PE X value tv) (hop : InOp X op rd) : PS X (.AugAssign (.Attribute o f tpos) op value pos) (sFldAug X.K ta tv rd f) := by
  intro pins s σ H D I h
  refine wpAny_AugAssign_AttributeAny (thn (ha pins s σ H _ I h) fun ov s1 ⟨x, H1, I1, rx, a, C, dx, fs, v, ex, ea, c, n, l, q⟩ => ?_)
  subst ex
  obtain rfl : ov = Value.ref a := rx
  refine getattr_ok I1 ea c n l fun u s2 I2 ru => thn (hv pins s2 σ H1 _ I2 q) fun w3 s3 ⟨y, H2, I3, ry, q3⟩ => thn (hop pins s3 σ H2 v y u w3 _ I3 ru ry q3) fun w4 s4 ⟨z, H3, I4, rz, dx', fs', ea', l', q4⟩ => ?_
  exact setattr_ok I4 ea' c n l' rz fun s5 I5 => ⟨σ, _, I5, q4⟩
def rAdd : V → V → Hp → VK → Prop := fun x y H Q => ∃ i j, x = .int i ∧ y = .int j ∧ Q (.int (i + j)) H
def rSub : V → V → Hp → VK → Prop := fun x y H Q => ∃ i j, x = .int i ∧ y = .int j ∧ Q (.int (i - j)) H
theorem in_add : InOp X .Add rAdd := by
  rintro pins s σ H x y u v Q I rx ry ⟨i, j, rfl, rfl, q⟩
  obtain ⟨t, rfl⟩ := (show ∃ t, u = Value.int i t from rx)
  obtain ⟨t', rfl⟩ := (show ∃ t', v = Value.int j t' from ry)
  exact PyProof.Rows.iadd_int ⟨.int (i + j), H, I.tok _, ⟨_, rfl⟩, q⟩
theorem in_sub : InOp X .Sub rSub := by
  rintro pins s σ H x y u v Q I rx ry ⟨i, j, rfl, rfl, q⟩
  obtain ⟨t, rfl⟩ := (show ∃ t, u = Value.int i t from rx)
  obtain ⟨t', rfl⟩ := (show ∃ t', v = Value.int j t' from ry)
  exact PyProof.Rows.isub_int ⟨.int (i - j), H, I.tok _, ⟨_, rfl⟩, q⟩

/-- what is between an instance and its method: the tree of a method call -/
theorem methcall_of {pl : Sem Bool} {m : Str} {apos : Pos} {args : List Expr} {pins : List (Addr × Obj)} {s : Shared} {σ : St} {H : Hp} {Q : Value → Shared → Prop} {te : TE} (he : PE X e te) (I : Inv X pins σ H s)
    (h : te σ H fun x H1 => ∃ a C dx fs g, x = .ref a ∧ H1 a = some (.ins C dx fs) ∧ Cls X.K C ∧ Meth X.K C m g ∧ fs.lookup m = none ∧
      ∀ s1, Inv X pins σ H1 s1 → wpAny (model X.prog X.w) X.A (callWith pos (.ref g) [.ref a] (backTo pos (starEach args X.env)) (backToKw pos (keywordEach [] X.env))) Q X.xe s1)
    (ht : eval (.Call (.Attribute e m apos) args [] pos) X.env = (do
      let ov ← eval e X.env
      standAt apos.atName
      let (f, first) ← holding [ov] (getMethod ov m pl)
      callWith pos f first (backTo pos (starEach args X.env)) (backToKw pos (keywordEach [] X.env)))) :
    wpAny (model X.prog X.w) X.A (eval (.Call (.Attribute e m apos) args [] pos) X.env) Q X.xe s := by
  refine PySem.W.methodCall_KW (pl := pl) (thn (he pins s σ H _ I h) fun u s1 ⟨x, H1, I1, rx, a, C, dx, fs, g, ex, ea, c, k, l, q⟩ => ?_) ht
  subst ex
  obtain rfl : u = Value.ref a := rx
  exact getmeth_ok I1 ea c k l (q s1 I1)
end

/-! ### isinstance -/
section
variable {X : Cx} {pins : List (Addr × Obj)} {σ : St} {H : Hp} {s : Shared} {A : Around} {E : Value → Shared → Prop} {Q : Value → Shared → Prop} {c : Value} {b : Bool}
/-- the type of a value, as the fragment's deciders take it; for an instance its class -/
inductive TyOf (K : PySem.W.Frag) (H : Hp) : V → Value → Prop where
  | non : TyOf K H .non (.type "NoneType")
  | bl (x : Bool) : TyOf K H (.bl x) (.type "bool")
  | int (i : Int) : TyOf K H (.int i) (.type "int")
  | str (x : Str) : TyOf K H (.str x) (.type "str")
  | flt (x : UInt64) : TyOf K H (.flt x) (.type "float")
  | lst {a : Addr} {xs : List V} (e : H a = some (.lst xs)) : TyOf K H (.ref a) (.type "list")
  | frz {a : Addr} {o : Obj} {xs : List V} (e : H a = some (.frz o (.lst xs))) : TyOf K H (.ref a) (.type "list")
  | tup {a : Addr} {xs : List V} (e : H a = some (.tup xs)) : TyOf K H (.ref a) (.type "tuple")
  | dK {a : Addr} {kvs : List (Key × V)} (e : H a = some (.dK kvs)) : TyOf K H (.ref a) (.type "dict")
  | dT {a : Addr} {kvs : List (List Key × V)} (e : H a = some (.dT kvs)) : TyOf K H (.ref a) (.type "dict")
  | ins {a C dx : Addr} {fs : List (Str × V)} (e : H a = some (.ins C dx fs)) (cl : Cls K C) (ha : PySem.W.findIn K (.ref C) "__class__" = some (some (.builtin "object.__class__")))
      (hn : PySem.W.specialIn K (.builtin "object.__class__") "__get__" = some (some (.builtin "getset_descriptor.__get__"))) (htk : PySem.W.takesIn K (.builtin "object.__class__") = some true)
      (hm : PySem.W.mroIn K C (.type "object") = some true) : TyOf K H (.ref a) (.ref C)
/-- isinstance(x, c) for one class c, a built-in or an own one: kitOne's answer -/
theorem isinst_ok {x : V} {u t : Value} (I : Inv X pins σ H s) (rx : RelV x u) (ty : TyOf X.K H x t) (e : PySem.W.kitOne X.K t c = some b) (h : ∀ tk, Q (.bool b) { s with toks := tk }) :
    wpAny (model X.prog X.w) A (call (.builtin "isinstance") [u, c]) Q E s := by
  cases ty with
  | non => cases (show u = Value.none from rx); exact PySem.W.kia_one PySem.W.kitx_none I.kIn True.intro e (fun z => nomatch z) h
  | bl y => cases (show u = Value.bool y from rx); exact PySem.W.kia_one PySem.W.kitx_bool I.kIn True.intro e (fun z => nomatch z) h
  | int i => obtain ⟨t, q⟩ := (show ∃ t, u = Value.int i t from rx); cases q; exact PySem.W.kia_one PySem.W.kitx_int I.kIn True.intro e (fun z => nomatch z) h
  | str y => obtain ⟨t, q⟩ := (show ∃ t, u = Value.str y t from rx); cases q; exact PySem.W.kia_one PySem.W.kitx_str I.kIn True.intro e (fun z => nomatch z) h
  | flt y => obtain ⟨t, q⟩ := (show ∃ t, u = Value.float y t from rx); cases q; exact PySem.W.kia_one PySem.W.kitx_float I.kIn True.intro e (fun z => nomatch z) h
  | @lst a xs ea =>
    cases (show u = Value.ref a from rx)
    obtain ⟨_, _, n, _, h1⟩ := (show ObjOk X.prog X.w H s.heap a (.lst xs) from I.hok a _ ea)
    exact PySem.W.kia_one PySem.W.kitx_list I.kIn ⟨_, h1, rfl⟩ e (fun z => nomatch z) h
  | @frz a ob xs ea =>
    cases (show u = Value.ref a from rx)
    obtain ⟨_, _, _, n, _, h1⟩ := (show ObjOk X.prog X.w H s.heap a (.frz ob (.lst xs)) from I.hok a _ ea)
    exact PySem.W.kia_one PySem.W.kitx_list I.kIn ⟨_, h1, rfl⟩ e (fun z => nomatch z) h
  | @tup a xs ea =>
    cases (show u = Value.ref a from rx)
    obtain ⟨_, _, _, p⟩ := (show ObjOk X.prog X.w H s.heap a (.tup xs) from I.hok a _ ea)
    obtain ⟨o, h1, h2, _⟩ := p
    exact PySem.W.kia_one PySem.W.kitx_tuple I.kIn ⟨o, h1, h2⟩ e (fun z => nomatch z) h
  | @dK a kvs ea =>
    cases (show u = Value.ref a from rx)
    obtain ⟨_, _, vs, _, p⟩ := (show ObjOk X.prog X.w H s.heap a (.dK kvs) from I.hok a _ ea)
    obtain ⟨o, es, ep, h1, h2, _⟩ := p
    exact PySem.W.kia_one PySem.W.kitx_dict I.kIn ⟨o, h1, h2.1⟩ e (fun z => nomatch z) h
  | @dT a kvs ea =>
    cases (show u = Value.ref a from rx)
    obtain ⟨_, _, xs, _, o, es, ep, h1, h2, _⟩ := (show ObjOk X.prog X.w H s.heap a (.dT kvs) from I.hok a _ ea)
    exact PySem.W.kia_one PySem.W.kitx_dict I.kIn ⟨o, h1, h2.1⟩ e (fun z => nomatch z) h
  | @ins a C dx fs ea cl ha hn htk hm =>
    cases (show u = Value.ref a from rx)
    obtain ⟨mA, O, _⟩ := ins_get I.hok ea
    obtain ⟨od, J, _⟩ := O.look
    exact PySem.W.kia_one (PySem.W.kitx_own (cl.get _) cl.hd ha hn htk hm) I.kIn J e (fun z => nomatch z) h
end
end L2

namespace L2
open PySem PySem.Spec PyProof.Rows

/-! ### room -/
structure Room (k : Nat) (A : Around) : Prop where
  hd : A.handled = none
  dp : A.depth + 3 * k + 5 < recursionLimit
  un : A.units + 16 * k + 200 < cLine
theorem Room.mono {j k : Nat} {A : Around} (r : Room k A) (h : j ≤ k) : Room j A := ⟨r.hd, by have := r.dp; omega, by have := r.un; omega⟩
theorem Room.deeper {k : Nat} {A : Around} (r : Room (k + 1) A) (env : Env) : Room k (A.deeper env) :=
  ⟨r.hd, by have := r.dp; show A.depth + 1 + 3 * k + 5 < _; omega, by have := r.un; show A.units + 3 + 16 * k + 200 < _; omega⟩
theorem Room.in1 {k : Nat} {A : Around} (r : Room (k + 1) A) : Room k A.in1 :=
  ⟨r.hd, by have := r.dp; show A.depth + 3 * k + 5 < _; omega, by have := r.un; show A.units + 1 + 16 * k + 200 < _; omega⟩
theorem make_depth {A : Around} {C : Addr} {us : List Value} {kw : List (Str × Value)} : (A.under (.builtin "type.__call__" ⟨.ref C :: us, kw⟩)).depth = A.depth + 1 := by
  first | rfl | simp [Around.under, Code.weight, Code.isCreation, Code.isGuard, Code.isCaller, Code.frames, Code.isFrame, guardIds]
theorem make_units {A : Around} {C : Addr} {us : List Value} {kw : List (Str × Value)} : (A.under (.builtin "type.__call__" ⟨.ref C :: us, kw⟩)).units = A.units + 1 := by
  first | rfl | simp [Around.under, Code.cUnits, Code.frames, Code.isFrame]
theorem Room.make {k : Nat} {A : Around} (r : Room (k + 1) A) (C : Addr) (us : List Value) (kw : List (Str × Value)) : Room k (A.under (.builtin "type.__call__" ⟨.ref C :: us, kw⟩)) :=
  ⟨r.hd, by have := r.dp; rw [make_depth]; omega, by have := r.un; rw [make_units]; omega⟩
theorem Room.depth {k : Nat} {A : Around} (r : Room k A) : A.depth < recursionLimit := by have := r.dp; omega
theorem Room.units {k : Nat} {A : Around} (r : Room k A) : A.units + 64 < cLine := by have := r.un; omega
theorem Room.units0 {k : Nat} {A : Around} (r : Room k A) : A.units < cLine := by have := r.un; omega

/-! ### argument lists and displays -/
def tNil : TA := fun _ H Q => Q [] H
def tCons (ta : TE) (tr : TA) : TA := fun σ H Q => ta σ H fun x H1 => tr σ H1 fun xs H2 => Q (x :: xs) H2
section
variable {X : Cx} {e : Expr} {es : List Expr} {te : TE} {t : TA} {pos : Pos}
theorem pa_nil : PA X [] tNil := fun _ _ _ _ H Q I h => Calls.spliced_nil ⟨[], H, I, .nil, h⟩
theorem pa_cons (ha : PE X e te) (hr : PA X es t) (hs : starEach (e :: es) X.env = (false, eval e X.env) :: starEach es X.env := by rfl) : PA X (e :: es) (tCons te t) := by
  intro pos pins s σ H Q I h
  rw [hs]
  show wpAny _ _ (spliced ((false, eval e X.env) :: backTo pos (starEach es X.env))) _ _ s
  refine Calls.spliced_cons (thn (ha pins s σ H _ I h) fun u s1 ⟨x, H1, I1, r1, q1⟩ => ?_)
  exact thn (hr pos pins s1 σ H1 _ I1 q1) fun us s2 ⟨xs, H2, I2, r2, q2⟩ => ⟨x :: xs, H2, I2, .cons r1 r2, q2⟩

/-- a tuple, a list of written items -/
def tTup (t : TA) : TE := fun σ H Q => t σ H fun xs H1 => xs.length ≤ sizeLine ∧ ∀ p, H1 p = none → Q (.ref p) (upd H1 p (.tup xs))
def tLst (t : TA) : TE := fun σ H Q => t σ H fun xs H1 => xs.length ≤ sizeLine ∧ ∀ p, H1 p = none → Q (.ref p) (upd H1 p (.lst xs))
theorem pe_tup {x1} (h : PA X es t) : PE X (.Tuple es x1 pos) (tTup t) := by
  intro pins s σ H Q I hq
  refine wpAny_Tuple_spliced (thn (h pos pins s σ H _ I hq) fun us s1 ⟨xs, H1, I1, r, z, q⟩ => ⟨by rw [← r.length]; exact z, ?_⟩)
  have hf : H1 s1.heap.objs.size = none := I1.hok.fresh (Nat.le_refl _)
  refine ⟨.ref s1.heap.objs.size, upd H1 s1.heap.objs.size (.tup xs), I1.laid (t' := s1.toks) (fun b u e => Heap.get?_push_of_some _ e) (Nat.le_refl _) ?_, rfl, q _ hf⟩
  exact ⟨z, us, r, ⟨_, Heap.get?_push_size _ rfl, rfl, _, rfl⟩⟩
theorem pe_lst (h : PA X es t) : PE X (.List es pos) (tLst t) := by
  intro pins s σ H Q I hq
  refine wpAny_List_spliced (thn (h pos pins s σ H _ I hq) fun us s1 ⟨xs, H1, I1, r, z, q⟩ => ⟨by rw [← r.length]; exact z, ?_⟩)
  have hf : H1 s1.heap.objs.size = none := I1.hok.fresh (Nat.le_refl _)
  refine ⟨.ref s1.heap.objs.size, upd H1 s1.heap.objs.size (.lst xs), I1.laid (t' := s1.toks) (fun b u e => Heap.get?_push_of_some _ e) (Nat.le_refl _) ?_, rfl, q _ hf⟩
  exact ⟨z, us, 0, r, Heap.get?_push_size _ rfl⟩
end

/-! ### what a def promises -/
/-- a def's promise: the bound arguments in the parameters' order, the heap, the wanted end, the wanted exception -/
abbrev Sp := List V → Hp → VK → XK → Prop
/-- how an exception lies behind a call (file 08 gives it): the callers' frames, abstract heap and state ahead of the call, the wish, the exception, the state -/
abbrev CXT := List Env → Hp → Shared → XK → Value → Shared → Prop

/-- the state at a call -/
structure Env0 (P : Program) (w : World) (K : PySem.W.Frag) (mg : Str → Option Value) (base : Heap) (A : Around) (outer : List Env) (s : Shared) (H : Hp) : Prop where
  frames : A.frames = some outer
  mod : Mod K mg base
  bs : ∀ b o, base.get? b = some o → s.heap.get? b = some o ∧ H b = none
  bsz : base.objs.size ≤ s.heap.objs.size
  funs : s.heap.FunFrames base outer
  frf : ∀ b ∈ frs outer, H b = none
  hok : HOk P w H s.heap
  bare : AllBare s.gens
/-- a call's end -/
def CE (outer : List Env) (P : Program) (w : World) (H : Hp) (s : Shared) (Q : VK) (u : Value) (s' : Shared) : Prop :=
  ∃ v H', s'.os = s.os ∧ AllBare s'.gens ∧ Un (frs outer) [] H H' s.heap s'.heap ∧ HOk P w H' s'.heap ∧ RelV v u ∧ Q v H'
def CR (CX : CXT) (outer : List Env) (P : Program) (w : World) (H : Hp) (s : Shared) (Q : VK) (E : XK) (r : Result) (s' : Shared) : Prop :=
  match r with
  | .ok (.ret u) => CE outer P w H s Q u s'
  | .ok _ => False
  | .error e => CX outer H s E e s'
structure FnOk (P : Program) (w : World) (K : PySem.W.Frag) (mg : Str → Option Value) (base : Heap) (CX : CXT) (k : Nat) (f : Addr) (fd : FuncData) (ps : List Str) (sp : Sp) : Prop where
  len : ∀ vs H Q E, sp vs H Q E → vs.length = ps.length
  run : ∀ (A : Around) (outer : List Env) (s : Shared) (H : Hp) (args : Args) (us : List Value) (vs : List V) (Q : VK) (E : XK), Room k A → Env0 P w K mg base A outer s H → BindsTo s fd args (ps.zip us) → Vals vs us → sp vs H Q E →
    codeAny (model P w) A (.call (.ref f) args) (CR CX outer P w H s Q E) s
theorem FnOk.mono {P : Program} {w : World} {K : PySem.W.Frag} {mg : Str → Option Value} {base : Heap} {CX : CXT} {j k : Nat} {f : Addr} {fd : FuncData} {ps : List Str} {sp : Sp} (F : FnOk P w K mg base CX j f fd ps sp) (h : j ≤ k) :
    FnOk P w K mg base CX k f fd ps sp := ⟨F.len, fun A outer s H args us vs Q E hr => F.run A outer s H args us vs Q E (hr.mono h)⟩
/-- a weaker promise -/
theorem FnOk.imp {P : Program} {w : World} {K : PySem.W.Frag} {mg : Str → Option Value} {base : Heap} {CX : CXT} {k : Nat} {f : Addr} {fd : FuncData} {ps : List Str} {sp sp' : Sp} (F : FnOk P w K mg base CX k f fd ps sp)
    (h : ∀ vs H Q E, sp' vs H Q E → sp vs H Q E) : FnOk P w K mg base CX k f fd ps sp' :=
  ⟨fun vs H Q E q => F.len vs H Q E (h _ _ _ _ q), fun A outer s H args us vs Q E hr he hb hv hs => F.run A outer s H args us vs Q E hr he hb hv (h _ _ _ _ hs)⟩

theorem Env0.make {P : Program} {w : World} {K : PySem.W.Frag} {mg : Str → Option Value} {base : Heap} {A : Around} {outer : List Env} {s : Shared} {H : Hp} (e : Env0 P w K mg base A outer s H) (C : Addr) (us : List Value) (kw : List (Str × Value)) :
    Env0 P w K mg base (A.under (.builtin "type.__call__" ⟨.ref C :: us, kw⟩)) outer s H := ⟨by first | exact e.frames | (simpa [Around.under, Code.envs, Code.isFrame, pushEnvs] using e.frames), e.mod, e.bs, e.bsz, e.funs, e.frf, e.hok, e.bare⟩
theorem Env0.in1 {P : Program} {w : World} {K : PySem.W.Frag} {mg : Str → Option Value} {base : Heap} {A : Around} {outer : List Env} {s : Shared} {H : Hp} (e : Env0 P w K mg base A outer s H) :
    Env0 P w K mg base A.in1 outer s H := ⟨e.frames, e.mod, e.bs, e.bsz, e.funs, e.frf, e.hok, e.bare⟩

section
variable {X : Cx} {pins : List (Addr × Obj)} {σ : St} {H : Hp} {s s' : Shared}
/-- from a body: what a callee wants -/
theorem Inv.env0 (I : Inv X pins σ H s) : Env0 X.prog X.w X.K X.mg X.base X.A X.stack s H :=
  ⟨I.ok.frames, I.ok.mod, I.bs, Nat.le_trans I.ok.bsz I.sz, I.stack, I.stkFree, I.hok, I.bare⟩
/-- behind a call -/
theorem Inv.after {Q : VK} {u : Value} (I : Inv X pins σ H s) (h : CE X.stack X.prog X.w H s Q u s') : EP X pins σ Q u s' := by
  obtain ⟨v, H', os, bare, un, hok, r, q⟩ := h
  obtain ⟨hh, g, d, t, os'⟩ := s'
  obtain rfl : os' = s.os := os
  exact ⟨v, H', I.call (h' := hh) (g' := g) (d' := d) (t' := t) (ch := []) un hok bare (fun b z => absurd z (by simp)), r, q⟩
end

/-! ### calls -/
/-- f(..): the written arguments, then the defaults dvs; E: what is wanted of an exception -/
def tCall (sp : Sp) (dvs : List V) (E : XK) (t : TA) : TE := fun σ H Q => t σ H fun vs H1 => sp (vs ++ dvs) H1 Q E
/-- o.m(..) of an instance of the class at C -/
def tMeth (C : Addr) (m : Str) (sp : Sp) (dvs : List V) (E : XK) (ta : TE) (t : TA) : TE := fun σ H Q => ta σ H fun x H1 => ∃ a dx fs, x = .ref a ∧ H1 a = some (.ins C dx fs) ∧ fs.lookup m = none ∧
  t σ H1 fun vs H2 => sp (x :: (vs ++ dvs)) H2 Q E
/-- C(..): a new instance and its dict, then __init__ -/
def tMake (C : Addr) (sp : Sp) (dvs : List V) (E : XK) (t : TA) : TE := fun σ H Q => t σ H fun vs H1 => ∀ x dx, H1 x = none → H1 dx = none → dx ≠ x →
  sp (.ref x :: (vs ++ dvs)) (upd (upd H1 dx (.own x)) x (.ins C dx [])) (fun v H2 => v = .non ∧ Q (.ref x) H2) E

/-- how the parameters are bound: us the positional arguments, kw the keywords' values by name, ds the defaults that fill up -/
def Binds (K : PySem.W.Frag) (fd : FuncData) (ps : List Str) (ds : List Value) : Prop :=
  ∀ (s : Shared) (us : List Value), K.In s.heap → (us ++ ds).length = ps.length → BindsTo s fd ⟨us, []⟩ (ps.zip (us ++ ds))
/-- every parameter is given -/
theorem Binds.all {K : PySem.W.Frag} {fd : FuncData} {ps : List Str} (h : ∀ us : List Value, us.length = ps.length → bindArgs fd ⟨us, []⟩ = pure (ps.zip us)) : Binds K fd ps [] := fun s us _ hl => by
  rw [List.append_nil] at hl ⊢
  exact .of_eq (h us hl)

/-- an exception of a callee reaches what this body wants of exceptions -/
def Passes (CX : CXT) (X : Cx) (E : XK) : Prop := ∀ (pins : List (Addr × Obj)) (σ : St) (H : Hp) (s : Shared) (e : Value) (s' : Shared), Inv X pins σ H s → CX X.stack H s E e s' → X.xe e s'

section
variable {X : Cx} {CX : CXT} {k : Nat} {f C : Addr} {fd : FuncData} {ps : List Str} {sp : Sp} {dvs : List V} {ds : List Value} {E : XK} {x m : Str} {p pos apos : Pos} {e o : Expr} {es : List Expr} {ta : TE} {t : TA}

/-- the callee runs -/
theorem run_fn {pins : List (Addr × Obj)} {σ : St} {H : Hp} {s : Shared} {Q : VK} {us : List Value} {vs : List V} (F : FnOk X.prog X.w X.K X.mg X.base CX k f fd ps sp) (hr : Room k X.A) (hb : Binds X.K fd ps ds) (hd : Vals dvs ds) (hx : Passes CX X E)
    (I : Inv X pins σ H s) (r : Vals vs us) (h : sp (vs ++ dvs) H Q E) : wpAny (model X.prog X.w) X.A (call (.ref f) us) (EP X pins σ Q) X.xe s := by
  have r2 : Vals (vs ++ dvs) (us ++ ds) := r.append hd
  have hl : (us ++ ds).length = ps.length := by rw [← r2.length]; exact F.len _ _ _ _ h
  refine wpAny_call (codeAny_mono (F.run X.A X.stack s H ⟨us, []⟩ (us ++ ds) (vs ++ dvs) Q E hr I.env0 (hb s us I.kIn hl) r2 h) fun r s' hq => ?_)
  cases r with
  | error e => exact hx pins σ H s e s' I hq
  | ok fl =>
    cases fl with
    | ret u => exact I.after hq
    | next => exact False.elim hq
    | brk => exact False.elim hq
    | cont => exact False.elim hq

theorem pe_call (F : FnOk X.prog X.w X.K X.mg X.base CX k f fd ps sp) (hr : Room k X.A) (hg : Gl X x) (hm : X.mg x = some (.ref f)) (hk : PySem.W.keepIn X.K (.ref f) = true) (hb : Binds X.K fd ps ds) (hd : Vals dvs ds) (hx : Passes CX X E)
    (ha : PA X (e :: es) t) (hdb : (x == ("__debug__" : Str)) = false := by decide) (he : starEach (e :: es) X.env = (false, eval e X.env) :: starEach es X.env := by rfl) (hpl : (backTo pos (starEach es X.env)).any (·.1) = false := by rfl) :
    PE X (.Call (.Name x p) (e :: es) [] pos) (tCall sp dvs E t) := by
  intro pins s σ H Q I h
  refine wpAny_Call_Name_kw (ld_glob I hg hm ?_ hdb)
  refine PySem.W.callWith_K (h₀ := X.base) I.ok.mod.kin hk (thn (ha pos pins s σ H _ I h) fun us s1 ⟨vs, H1, I1, r, q⟩ => ⟨I1.kIn, ?_⟩) he hpl
  exact run_fn F hr hb hd hx I1 r q
theorem pe_call0 (F : FnOk X.prog X.w X.K X.mg X.base CX k f fd ps sp) (hr : Room k X.A) (hg : Gl X x) (hm : X.mg x = some (.ref f)) (hk : PySem.W.keepIn X.K (.ref f) = true) (hb : Binds X.K fd ps ds) (hd : Vals dvs ds) (hx : Passes CX X E)
    (hdb : (x == ("__debug__" : Str)) = false := by decide) : PE X (.Call (.Name x p) [] [] pos) (tCall sp dvs E tNil) := by
  intro pins s σ H Q I h
  refine wpAny_Call_Name_kw (ld_glob I hg hm ?_ hdb)
  exact PySem.W.callWith_K0 I.kIn hk (run_fn (us := []) F hr hb hd hx I .nil h)

/-- o.m(e, ..) -/
theorem pe_meth {pl : Sem Bool} (he : PE X o ta) (c : Cls X.K C) (hm : Meth X.K C m f) (F : FnOk X.prog X.w X.K X.mg X.base CX k f fd ps sp) (hr : Room k X.A) (hb : Binds X.K fd ps ds) (hd : Vals dvs ds) (hx : Passes CX X E) (ha : PA X (e :: es) t)
    (hst : starEach (e :: es) X.env = (false, eval e X.env) :: starEach es X.env := by rfl) (hpl : (backTo pos (starEach es X.env)).any (·.1) = false := by rfl)
    (ht : eval (.Call (.Attribute o m apos) (e :: es) [] pos) X.env = (do
      let ov ← eval o X.env
      standAt apos.atName
      let (f, first) ← holding [ov] (getMethod ov m pl)
      callWith pos f first (backTo pos (starEach (e :: es) X.env)) (backToKw pos (keywordEach [] X.env))) := by rfl) :
    PE X (.Call (.Attribute o m apos) (e :: es) [] pos) (tMeth C m sp dvs E ta t) := by
  intro pins s σ H Q I h
  refine PySem.W.methodCall_KW (pl := pl) (thn (he pins s σ H _ I h) fun u s1 ⟨x, H1, I1, rx, a, dx, fs, ex, ea, l, q⟩ => ?_) ht
  subst ex
  obtain rfl : u = Value.ref a := rx
  refine getmeth_ok I1 ea c hm l ?_
  refine PySem.W.callWith_K (first := [.ref a]) (h₀ := X.base) I.ok.mod.kin hm.kp (thn (ha pos pins s1 σ H1 _ I1 q) fun us s2 ⟨vs, H2, I2, r, q2⟩ => ⟨I2.kIn, ?_⟩) hst hpl
  exact run_fn (us := .ref a :: us) (vs := .ref a :: vs) F hr hb hd hx I2 (.cons rfl r) q2
/-- o.m() -/
theorem pe_meth0 {pl : Sem Bool} (he : PE X o ta) (c : Cls X.K C) (hm : Meth X.K C m f) (F : FnOk X.prog X.w X.K X.mg X.base CX k f fd ps sp) (hr : Room k X.A) (hb : Binds X.K fd ps ds) (hd : Vals dvs ds) (hx : Passes CX X E)
    (ht : eval (.Call (.Attribute o m apos) [] [] pos) X.env = (do
      let ov ← eval o X.env
      standAt apos.atName
      let (f, first) ← holding [ov] (getMethod ov m pl)
      callWith pos f first (backTo pos (starEach [] X.env)) (backToKw pos (keywordEach [] X.env))) := by rfl) :
    PE X (.Call (.Attribute o m apos) [] [] pos) (tMeth C m sp dvs E ta tNil) := by
  intro pins s σ H Q I h
  refine PySem.W.methodCall_KW (pl := pl) (thn (he pins s σ H _ I h) fun u s1 ⟨x, H1, I1, rx, a, dx, fs, ex, ea, l, q⟩ => ?_) ht
  subst ex
  obtain rfl : u = Value.ref a := rx
  refine getmeth_ok I1 ea c hm l ?_
  exact PySem.W.callWith_K0 (first := [.ref a]) I1.kIn hm.kp (run_fn (us := [.ref a]) (vs := [.ref a]) F hr hb hd hx I1 (.cons rfl .nil) q)

/-- what a class must have to be made -/
structure Mk (K : PySem.W.Frag) (C f : Addr) : Prop where
  makes : PySem.W.makesIn K C = true
  init : PySem.W.findIn K (.ref C) "__init__" = some (some (.ref f))
  fn : PySem.W.isFn K (.ref f) = true
  kp : PySem.W.keepIn K (.ref C) = true

theorem run_make {pins : List (Addr × Obj)} {σ : St} {H : Hp} {s : Shared} {Q : VK} {us : List Value} {vs : List V} (M : Mk X.K C f) (F : FnOk X.prog X.w X.K X.mg X.base CX k f fd ps sp) (hr : Room (k + 1) X.A) (hb : Binds X.K fd ps ds) (hd : Vals dvs ds)
    (hx : Passes CX X E) (I : Inv X pins σ H s) (r : Vals vs us)
    (h : ∀ x dx, H x = none → H dx = none → dx ≠ x → sp (.ref x :: (vs ++ dvs)) (upd (upd H dx (.own x)) x (.ins C dx [])) (fun v H2 => v = .non ∧ Q (.ref x) H2) E) :
    wpAny (model X.prog X.w) X.A (call (.ref C) us) (EP X pins σ Q) X.xe s := by
  have hq := h (s.heap.objs.size + 1) s.heap.objs.size (I.hok.fresh (Nat.le_succ _)) (I.hok.fresh (Nat.le_refl _)) (Nat.ne_of_lt (Nat.lt_succ_self _))
  have I2 := Inv.made (C := C) I
  have r2 : Vals (V.ref (s.heap.objs.size + 1) :: (vs ++ dvs)) (Value.ref (s.heap.objs.size + 1) :: (us ++ ds)) := .cons rfl (r.append hd)
  have hl : (Value.ref (s.heap.objs.size + 1) :: us ++ ds).length = ps.length := by
    have e := r2.length
    rw [F.len _ _ _ _ hq] at e
    exact e.symm
  refine wpAny_call (make_map (f := f) I.kIn M.makes M.init (beq_iff_eq.mp M.fn) (codeAny_mono (F.run _ X.stack _ _ ⟨Value.ref (s.heap.objs.size + 1) :: us, []⟩ (Value.ref (s.heap.objs.size + 1) :: (us ++ ds)) _ _ E (hr.make C us [])
    (I2.env0.make C us []) (hb _ (Value.ref (s.heap.objs.size + 1) :: us) I2.kIn hl) r2 hq) fun r s' hq' => ?_))
  cases r with
  | error e => exact hx pins σ _ _ e s' I2 hq'
  | ok fl =>
    cases fl with
    | ret u =>
      obtain ⟨v, H', I3, rv, ev, q3⟩ := I2.after hq'
      subst ev
      exact ⟨rv, ⟨V.ref (s.heap.objs.size + 1), H', I3, rfl, q3⟩⟩
    | next => exact False.elim hq'
    | brk => exact False.elim hq'
    | cont => exact False.elim hq'
theorem pe_make (M : Mk X.K C f) (F : FnOk X.prog X.w X.K X.mg X.base CX k f fd ps sp) (hr : Room (k + 1) X.A) (hg : Gl X x) (hm : X.mg x = some (.ref C)) (hb : Binds X.K fd ps ds) (hd : Vals dvs ds) (hx : Passes CX X E)
    (ha : PA X (e :: es) t) (hdb : (x == ("__debug__" : Str)) = false := by decide) (he : starEach (e :: es) X.env = (false, eval e X.env) :: starEach es X.env := by rfl) (hpl : (backTo pos (starEach es X.env)).any (·.1) = false := by rfl) :
    PE X (.Call (.Name x p) (e :: es) [] pos) (tMake C sp dvs E t) := by
  intro pins s σ H Q I h
  refine wpAny_Call_Name_kw (ld_glob I hg hm ?_ hdb)
  refine PySem.W.callWith_K (h₀ := X.base) I.ok.mod.kin M.kp (thn (ha pos pins s σ H _ I h) fun us s1 ⟨vs, H1, I1, r, q⟩ => ⟨I1.kIn, ?_⟩) he hpl
  exact run_make M F hr hb hd hx I1 r q
theorem pe_make0 (M : Mk X.K C f) (F : FnOk X.prog X.w X.K X.mg X.base CX k f fd ps sp) (hr : Room (k + 1) X.A) (hg : Gl X x) (hm : X.mg x = some (.ref C)) (hb : Binds X.K fd ps ds) (hd : Vals dvs ds) (hx : Passes CX X E)
    (hdb : (x == ("__debug__" : Str)) = false := by decide) : PE X (.Call (.Name x p) [] [] pos) (tMake C sp dvs E tNil) := by
  intro pins s σ H Q I h
  refine wpAny_Call_Name_kw (ld_glob I hg hm ?_ hdb)
  exact PySem.W.callWith_K0 I.kIn M.kp (run_make (us := []) M F hr hb hd hx I .nil h)
end

/-! ### keywords -/
/-- the values of the keywords, from the left -/
def PK (X : Cx) (kws : List Keyword) (t : TA) : Prop :=
  ∀ (pos : Pos) (pins : List (Addr × Obj)) (s : Shared) (σ : St) (H : Hp) (Q : List V → Hp → Prop), Inv X pins σ H s → t σ H Q → wpAny (model X.prog X.w) X.A (evalAll ((backToKw pos (keywordEach kws X.env)).map (·.2))) (AP X pins σ Q) X.xe s
section
variable {X : Cx} {CX : CXT} {k : Nat} {f C : Addr} {fd : FuncData} {ps ks : List Str} {sp : Sp} {E : XK} {x m : Str} {p pos apos kpos : Pos} {e o : Expr} {es : List Expr} {kws : List Keyword} {te ta : TE} {t tk : TA} {nm : Option Str}
theorem pk_nil : PK X [] tNil := fun _ _ _ _ H Q I h => wpAny_evalAll_nil ⟨[], H, I, .nil, h⟩
theorem pk_cons (ha : PE X e te) (hr : PK X kws t) : PK X (⟨nm, e, kpos⟩ :: kws) (tCons te t) := by
  intro pos pins s σ H Q I h
  show wpAny _ _ (evalAll ((do let v ← eval e X.env; standAt pos; pure v) :: (backToKw pos (keywordEach kws X.env)).map (·.2))) _ _ s
  refine wpAny_evalAll_cons (wpAny_bind (thn (ha pins s σ H _ I h) fun u s1 ⟨x, H1, I1, r1, q1⟩ => wpAny_bind (wpAny_standAt (wpAny_pure ?_))))
  exact thn (hr pos pins s1 σ H1 _ I1 q1) fun us s2 ⟨xs, H2, I2, r2, q2⟩ => ⟨x :: xs, H2, I2, .cons r1 r2, q2⟩

/-- how a call with keywords binds: g puts the positional values us and the keywords' values ws (names ks) in the parameters' order, defaults among them -/
structure KBinds (K : PySem.W.Frag) (fd : FuncData) (ps ks : List Str) (g : List Value → List Value → List Value) (gV : List V → List V → List V) : Prop where
  to : ∀ (s : Shared) (us ws : List Value), K.In s.heap → (g us ws).length = ps.length → BindsTo s fd ⟨us, ks.zip ws⟩ (ps.zip (g us ws))
  rel : ∀ {vs : List V} {us : List Value} {zs : List V} {ws : List Value}, Vals vs us → Vals zs ws → Vals (gV vs zs) (g us ws)
def tCallK (sp : Sp) (gV : List V → List V → List V) (E : XK) (t tk : TA) : TE := fun σ H Q => t σ H fun vs H1 => tk σ H1 fun zs H2 => sp (gV vs zs) H2 Q E
variable {g : List Value → List Value → List Value} {gV : List V → List V → List V}
theorem run_fnk {pins : List (Addr × Obj)} {σ : St} {H : Hp} {s : Shared} {Q : VK} {us ws : List Value} {vs zs : List V} (F : FnOk X.prog X.w X.K X.mg X.base CX k f fd ps sp) (hr : Room k X.A) (hb : KBinds X.K fd ps ks g gV) (hx : Passes CX X E)
    (I : Inv X pins σ H s) (r : Vals vs us) (rz : Vals zs ws) (h : sp (gV vs zs) H Q E) : wpAny (model X.prog X.w) X.A (call (.ref f) us (ks.zip ws)) (EP X pins σ Q) X.xe s := by
  have r2 := hb.rel r rz
  have hl : (g us ws).length = ps.length := by rw [← r2.length]; exact F.len _ _ _ _ h
  refine wpAny_call (codeAny_mono (F.run X.A X.stack s H ⟨us, ks.zip ws⟩ (g us ws) (gV vs zs) Q E hr I.env0 (hb.to s us ws I.kIn hl) r2 h) fun r s' hq => ?_)
  cases r with
  | error e => exact hx pins σ H s e s' I hq
  | ok fl =>
    cases fl with
    | ret u => exact I.after hq
    | next => exact False.elim hq
    | brk => exact False.elim hq
    | cont => exact False.elim hq
/-- f(e, .., k = v, ..) -/
theorem pe_callK (F : FnOk X.prog X.w X.K X.mg X.base CX k f fd ps sp) (hr : Room k X.A) (hg : Gl X x) (hm : X.mg x = some (.ref f)) (hk : PySem.W.keepIn X.K (.ref f) = true) (hb : KBinds X.K fd ps ks g gV) (hx : Passes CX X E)
    (ha : PA X (e :: es) t) (hkw : PK X kws tk) (hall : (backToKw pos (keywordEach kws X.env)).all (·.1.isSome) = true := by rfl) (hks : (backToKw pos (keywordEach kws X.env)).filterMap (·.1) = ks := by rfl)
    (hdb : (x == ("__debug__" : Str)) = false := by decide) (he : starEach (e :: es) X.env = (false, eval e X.env) :: starEach es X.env := by rfl)
    (hpl : ((backTo pos (starEach (e :: es) X.env)).any (·.1) || (backToKw pos (keywordEach kws X.env)).any (·.1.isNone)) = false := by rfl) :
    PE X (.Call (.Name x p) (e :: es) kws pos) (tCallK sp gV E t tk) := by
  intro pins s σ H Q I h
  refine wpAny_Call_Name_kw (ld_glob I hg hm ?_ hdb)
  refine PySem.W.callWith_KW (h₀ := X.base) I.ok.mod.kin hk hall (thn (ha pos pins s σ H _ I h) fun us s1 ⟨vs, H1, I1, r, q⟩ => ?_) hpl he
  refine thn (hkw pos pins s1 σ H1 _ I1 q) fun ws s2 ⟨zs, H2, I2, rz, q2⟩ => ⟨I2.kIn, ?_⟩
  rw [hks]
  exact run_fnk F hr hb hx I2 r rz q2
end

/-! ### a def's body keeps its promise -/
/-- names: the parameters first -/
structure FnScope (N P : List Str) (sc : Scope) : Prop where
  kind : sc.kind = .function
  co : sc.isCoroutine = false
  gen : sc.isGenerator = false
  nd : N.Nodup
  pre : N.take P.length = P
  par : ∀ x ∈ P, sc.names.lookup x = some .local ∨ sc.names.lookup x = some .cell
  nofree : ∀ y ∈ sc.names, y.2 ≠ .free

theorem bindL_out {kindOf : Str → Option NameKind} {x : Str} : ∀ {binds : List (Str × Value)} {m : Str → Option Value}, (∀ v, (x, v) ∉ binds) → bindL kindOf binds m x = m x
  | [], _, _ => rfl
  | (n, v) :: r, m, h => by
    unfold bindL
    rw [bindL_out fun w hw => h w (List.mem_cons_of_mem _ hw)]
    split
    · have : x ≠ n := by rintro rfl; exact h v List.mem_cons_self
      simp [this]
    · rfl
theorem bindC_out {kindOf : Str → Option NameKind} {x : Str} : ∀ {binds : List (Str × Value)} {m : Str → Option Value}, (∀ v, (x, v) ∉ binds) → bindC kindOf binds m x = m x
  | [], _, _ => rfl
  | (n, v) :: r, m, h => by
    unfold bindC
    rw [bindC_out fun w hw => h w (List.mem_cons_of_mem _ hw)]
    split
    · rfl
    · have : x ≠ n := by rintro rfl; exact h v List.mem_cons_self
      simp [this]
theorem bindL_get {kindOf : Str → Option NameKind} {x : Str} {v : Value} : ∀ {P : List Str} {vs : List Value} {i : Nat} {m : Str → Option Value}, P.Nodup → P[i]? = some x → vs[i]? = some v → kindOf x = some .local →
    bindL kindOf (P.zip vs) m x = some v
  | [], _, _, _, _, h, _, _ => by simp at h
  | _ :: _, [], _, _, _, _, h, _ => by simp at h
  | p :: P, w :: vs, 0, m, nd, h1, h2, hk => by
    simp at h1 h2; subst h1; subst h2
    show bindL kindOf ((p, w) :: P.zip vs) m p = _
    unfold bindL
    rw [bindL_out fun v hv => (List.nodup_cons.mp nd).1 (List.of_mem_zip hv).1, if_pos hk]
    simp
  | p :: P, w :: vs, i + 1, m, nd, h1, h2, hk => by
    show bindL kindOf ((p, w) :: P.zip vs) m x = _
    unfold bindL
    exact bindL_get (i := i) (List.nodup_cons.mp nd).2 (by simpa using h1) (by simpa using h2) hk
theorem bindC_get {kindOf : Str → Option NameKind} {x : Str} {v : Value} : ∀ {P : List Str} {vs : List Value} {i : Nat} {m : Str → Option Value}, P.Nodup → P[i]? = some x → vs[i]? = some v → kindOf x ≠ some .local →
    bindC kindOf (P.zip vs) m x = some v
  | [], _, _, _, _, h, _, _ => by simp at h
  | _ :: _, [], _, _, _, _, h, _ => by simp at h
  | p :: P, w :: vs, 0, m, nd, h1, h2, hk => by
    simp at h1 h2; subst h1; subst h2
    show bindC kindOf ((p, w) :: P.zip vs) m p = _
    unfold bindC
    rw [bindC_out fun v hv => (List.nodup_cons.mp nd).1 (List.of_mem_zip hv).1, if_neg hk]
    simp
  | p :: P, w :: vs, i + 1, m, nd, h1, h2, hk => by
    show bindC kindOf ((p, w) :: P.zip vs) m x = _
    unfold bindC
    exact bindC_get (i := i) (List.nodup_cons.mp nd).2 (by simpa using h1) (by simpa using h2) hk

/-- the names' values at the entry -/
def start (N : List Str) (vs : List V) : St := vs.map some ++ List.replicate (N.length - vs.length) none

/-- the context of a def's body, at its entry; an exception leaves the frame, then lies as CX says -/
def cxOf (CX : CXT) (P : Program) (w : World) (K : PySem.W.Frag) (mg : Str → Option Value) (base : Heap) (N : List Str) (qual : Str) (scope : Scope) (f : Addr) (cd : Value) (A : Around) (outer : List Env) (s : Shared) (H : Hp) (E : XK) : Cx where
  prog := P
  w := w
  K := K
  mg := mg
  base := base
  A := A.deeper (envOfC qual scope s.heap.objs.size f cd)
  N := N
  s₀ := s
  H₀ := H
  env := envOfC qual scope s.heap.objs.size f cd
  outer := outer
  stack := envOfC qual scope s.heap.objs.size f cd :: outer
  ex := []
  calm := true
  fn := fun _ => true
  pn := []
  xe := fun e s' => wpAny (model P w) (A.deeper (envOfC qual scope s.heap.objs.size f cd)) (leaving (envOfC qual scope s.heap.objs.size f cd) e) (fun _ s'' => CX outer H s E e s'') (fun e' s'' => CX outer H s E e' s'') s'

theorem cell_has {sc : Scope} {n : Nat} {x : Str} (h : sc.names.lookup x = some .cell) : ∃ c, (cellsFrom n sc.names []).lookup x = some c := by
  have q := PySem.W.cellsFrom_some sc.names n [] (.inl h)
  exact Option.isSome_iff_exists.mp q

theorem inv_start {CX : CXT} {P : Program} {w : World} {K : PySem.W.Frag} {mg : Str → Option Value} {base : Heap} {N ps : List Str} {qual : Str} {scope : Scope} {f : Addr} {cd : Value} {A : Around} {outer : List Env} {s s1 : Shared} {H : Hp} {E : XK} {us : List Value} {vs : List V}
    (S : FnScope N ps scope) (hd : A.handled = none) (e0 : Env0 P w K mg base A outer s H) (hl : vs.length = ps.length) (r : Vals vs us)
    (x : InCallC s s.heap.objs.size (bindL (envOfC qual scope s.heap.objs.size f cd).kindOf (ps.zip us) fun _ => none) (cellsFrom (s.heap.objs.size + 1) scope.names []) (bindC (envOfC qual scope s.heap.objs.size f cd).kindOf (ps.zip us) fun _ => none) s1) :
    Inv (cxOf CX P w K mg base N qual scope f cd A outer s H E) [] (start N vs) H s1 := by
  have hpl : ps.length ≤ N.length := by have := congrArg List.length S.pre; rw [List.length_take] at this; omega
  obtain ⟨h1, tk, rfl, hk⟩ := x.done
  have noA : ∀ b : Addr, b ∉ (cxOf CX P w K mg base N qual scope f cd A outer s H E).ex := fun b z => absurd (show b ∈ ([] : List Addr) from z) (by simp)
  refine ⟨⟨e0.mod, S.kind, rfl, rfl, Nat.le_refl _, fun y z c h1 h2 => ?_, fun y hy => ?_, fun y c _ h => ?_, fun _ => hd, Around.frames_deeper e0.frames, .inr ⟨rfl, rfl⟩, fun b z => absurd z (noA b), e0.bs, e0.bsz, fun b _ _ => noA b, fun b z => absurd z (noA b), e0.funs, e0.frf⟩,
    rfl, e0.bare, Un.kept hk, ⟨_, x.toInCall.ns, fun i y v h1 h2 h3 => ?_⟩, fun y c h => ⟨_, x.cell y c h⟩, e0.hok.fresh (Nat.le_refl _), fun y c h => ?_, fun p hp => absurd (show p ∈ ([] : List (Addr × Obj)) from hp) (by simp), e0.hok.kept hk, ?_⟩
  · exact name_of_addr x.apart (PySem.mem_of_lookup h1) (PySem.mem_of_lookup h2)
  · have hy : scope.names.lookup y = some .cell ∨ scope.names.lookup y = some .free := hy
    rcases hy with hy | hy
    · exact cell_has hy
    · exact absurd rfl (S.nofree _ (PySem.mem_of_lookup hy))
  · exact Nat.le_of_lt (x.above y c (PySem.mem_of_lookup h))
  · have hi : i < vs.length := by
      unfold start at h2
      by_cases hi : i < vs.length
      · exact hi
      · rw [List.getElem?_append_right (by simpa using hi)] at h2
        rw [List.getElem?_replicate] at h2
        split at h2 <;> cases h2
    have ha : vs[i]? = some v := by
      unfold start at h2
      rw [List.getElem?_append_left (by simpa using hi), List.getElem?_map] at h2
      cases e : vs[i]? with
      | none => rw [e] at h2; cases h2
      | some a => rw [e] at h2; cases h2; rfl
    obtain ⟨u, hu, rv⟩ := r.get ha
    have hp : ps[i]? = some y := by
      rw [← S.pre, List.getElem?_take_of_lt (by omega)]; exact h1
    have ndP : ps.Nodup := by rw [← S.pre]; exact S.nd.sublist (List.take_sublist _ _)
    refine ⟨u, rv, ?_⟩
    rcases S.par y (List.mem_of_getElem? hp) with k | k
    · exact .inl ⟨k, bindL_get ndP hp hu k⟩
    · obtain ⟨c, e⟩ := cell_has (n := s.heap.objs.size + 1) k
      refine .inr ⟨.inl k, c, e, ?_⟩
      have q := x.cell y c e
      rw [bindC_get ndP hp hu (by show scope.names.lookup y ≠ _; rw [k]; decide)] at q
      exact q
  · exact e0.hok.fresh (Nat.le_of_lt (x.above y c (PySem.mem_of_lookup h)))
  · unfold start
    show _ = N.length
    rw [List.length_append, List.length_map, List.length_replicate]
    omega

/-- THE RULE: a def (or a method) of the text, by its body. The body's reading t is chosen for each entry; it is run at the parameters' values -/
theorem fn_of {CX : CXT} {P : Program} {w : World} {K : PySem.W.Frag} {mg : Str → Option Value} {base : Heap} {k : Nat} {f : Addr} {name qual : Str} {params : Arguments} {body : List Stmt} {scope : Scope} {dV kV doc pm cdv ct oc : Value} {an od : Option Addr}
    {osl : Array (Option Value)} {N ps : List Str} {sp : Sp} (lk : K.lookup f = some ⟨oc, od, .func (PySem.W.fnOf name qual params body scope dV kV doc pm an cdv ct), osl⟩) (hcd : PySem.W.codeIn K cdv qual = true) (S : FnScope N ps scope)
    (len : ∀ vs H Q E, sp vs H Q E → vs.length = ps.length)
    (hbody : ∀ (A : Around) (outer : List Env) (s : Shared) (H : Hp) (vs : List V) (Q : VK) (E : XK), Room k (A.deeper (envOfC qual scope s.heap.objs.size f cdv)) → sp vs H Q E →
      ∃ t, PSs (cxOf CX P w K mg base N qual scope f cdv A outer s H E) body t ∧ t { nx := fun _ H' => Q .non H', rt := Q } (start N vs) H) :
    FnOk P w K mg base CX (k + 1) f (PySem.W.fnOf name qual params body scope dV kV doc pm an cdv ct) ps sp := by
  refine ⟨len, fun A outer s H args us vs Q E hr e0 hb r hsp => ?_⟩
  have hl := len _ _ _ _ hsp
  have KX : K.In s.heap := e0.mod.kin.keeps fun b o e => (e0.bs b o e).1
  have lim : s.heap.NoLimit := e0.mod.nolimit.keeps fun b o e => (e0.bs b o e).1
  have hkind : ∀ y ∈ ps.zip us, scope.names.lookup y.1 = some .local ∨ (scope.names.lookup y.1 = some .cell ∧ ((cellsFrom (s.heap.objs.size + 1) scope.names []).lookup y.1).isSome = true) := fun ⟨n, v⟩ hy => by
    rcases S.par n (List.of_mem_zip hy).1 with q | q
    · exact .inl q
    · exact .inr ⟨q, PySem.W.cellsFrom_some _ _ _ (.inl q)⟩
  refine codeAny_call_function hr.depth (KX _ _ lk) rfl S.co S.gen rfl (PySem.W.codeRec_of KX hcd) (hb _ _ _ _ ?_)
  refine wpAny_newFunctionEnv_cells S.kind hkind fun env he s1 x => ?_
  subst he
  refine ⟨lim.keeps x.toInCall.keep, codeAny_func ?_⟩
  obtain ⟨t, ht, hq⟩ := hbody A outer s H vs Q E (hr.deeper _) hsp
  have I : Inv (cxOf CX P w K mg base N qual scope f cdv A outer s H E) [] (start N vs) H s1 := inv_start S hr.hd e0 hl r x
  refine wpAny_mono (ht [] s1 (start N vs) H _ I hq) (fun fl s' hs => ?_) fun e s' hs => hs
  have fin : ∀ {σ' : St} {H' : Hp} {v : V} {u : Value}, Inv (cxOf CX P w K mg base N qual scope f cdv A outer s H E) [] σ' H' s' → RelV v u → Q v H' → CE outer P w H s Q u s' :=
    fun {σ' H' v u} J rv q => ⟨v, H', J.os, J.bare, J.base, J.hok, rv, q⟩
  cases fl with
  | ret u =>
    obtain ⟨v, σ', H', J, rv, q⟩ := hs
    exact fin J rv q
  | next =>
    obtain ⟨σ', H', J, q⟩ := hs
    exact fin (v := V.non) (u := Value.none) J rfl q
  | brk =>
    obtain ⟨_, _, _, q⟩ := hs
    exact False.elim q
  | cont =>
    obtain ⟨_, _, _, q⟩ := hs
    exact False.elim q
end L2

namespace L2
open PySem PySem.Spec PyProof.Rows
section
variable {X : Cx} {x : Str} {p pos : Pos} {e : Expr} {es : List Expr} {t : TA} {id T : String} {r : List V → Hp → VK → Prop}

def tCB (r : List V → Hp → VK → Prop) (t : TA) : TE := fun σ H Q => t σ H fun vs H1 => r vs H1 Q
/-- f(e, ..), f a built-in function -/
theorem pe_callB (hc : CallR X (.builtin id) r) (hg : Gl X x) (hm : X.mg x = none) (hv : bootBuiltins x = some (.builtin id)) (ha : PA X (e :: es) t) (hn : x ≠ "__name__" := by decide) (hdb : (x == ("__debug__" : Str)) = false := by decide)
    (he : starEach (e :: es) X.env = (false, eval e X.env) :: starEach es X.env := by rfl) (hpl : (backTo pos (starEach es X.env)).any (·.1) = false := by rfl) : PE X (.Call (.Name x p) (e :: es) [] pos) (tCB r t) := by
  intro pins s σ H Q I h
  refine wpAny_Call_Name_kw (ld_blt I hg hm hv ?_ hn hdb)
  exact PyProof.Rows.callWith_builtin1 (thn (ha pos pins s σ H _ I h) fun us s1 ⟨vs, H1, I1, r1, q1⟩ => hc pins s1 σ H1 vs us Q I1 r1 q1) he hpl
/-- T(e, ..), T a built-in type -/
theorem pe_callTy (hc : CallR X (.type T) r) (hg : Gl X x) (hm : X.mg x = none) (hv : bootBuiltins x = some (.type T)) (ha : PA X (e :: es) t) (hn : x ≠ "__name__" := by decide) (hdb : (x == ("__debug__" : Str)) = false := by decide)
    (he : starEach (e :: es) X.env = (false, eval e X.env) :: starEach es X.env := by rfl) (hpl : (backTo pos (starEach es X.env)).any (·.1) = false := by rfl) : PE X (.Call (.Name x p) (e :: es) [] pos) (tCB r t) := by
  intro pins s σ H Q I h
  refine wpAny_Call_Name_kw (ld_blt I hg hm hv ?_ hn hdb)
  exact PyProof.Rows.callWith_type1 (thn (ha pos pins s σ H _ I h) fun us s1 ⟨vs, H1, I1, r1, q1⟩ => hc pins s1 σ H1 vs us Q I1 r1 q1) he hpl
/-- T() -/
theorem pe_callTy0 (hc : CallR X (.type T) r) (hg : Gl X x) (hm : X.mg x = none) (hv : bootBuiltins x = some (.type T)) (hn : x ≠ "__name__" := by decide) (hdb : (x == ("__debug__" : Str)) = false := by decide) :
    PE X (.Call (.Name x p) [] [] pos) (tCB r tNil) := by
  intro pins s σ H Q I h
  refine wpAny_Call_Name_kw (ld_blt I hg hm hv ?_ hn hdb)
  exact PyProof.Rows.callWith_type0 (hc pins s σ H [] [] Q I .nil h)
end
end L2

namespace HT
open PySem PyProof.Rows

/-- t < u of tuples of ints -/
def lexLt : List Int → List Int → Bool
  | [], [] => false
  | [], _ :: _ => true
  | _ :: _, [] => false
  | x :: xs, y :: ys => if x = y then lexLt xs ys else decide (x < y)
theorem lexLt_cons (x y : Int) (xs ys : List Int) : lexLt (x :: xs) (y :: ys) = if x = y then lexLt xs ys else decide (x < y) := rfl
theorem lexLt_nil_nil : lexLt [] [] = false := rfl
theorem lexLt_nil_cons (y : Int) (ys : List Int) : lexLt [] (y :: ys) = true := rfl
theorem lexLt_cons_nil (x : Int) (xs : List Int) : lexLt (x :: xs) [] = false := rfl

theorem eqAt_int (A : Around) (s : Shared) (a : Int) (t : Tok) (c : Int) (u : Tok) : ∃ e, SeqAt.EqAt A s (.int a t) (.int c u) e ∧ (e = true ↔ a = c) :=
  ⟨(a == c), SeqAt.EqAt.int_int a t c u, by simp⟩
theorem rcLt_int (A : Around) (s : Shared) (a : Int) (t : Tok) (c : Int) (u : Tok) (prog : Program) (w : World) (E : Value → Shared → Prop) (Q : Value → Shared → Prop) (h : Q (.bool (decide (a < c))) s) :
    wpAny (model prog w) A (richCompare .Lt (.int a t) (.int c u)) Q E s :=
  (PyProof.Rows.lt_int h : wpAny (model prog w) A (compareOp .Lt (.int a t) (.int c u)) Q E s)

section
open PySem.SeqAt
open PySem.AutoSeq1 (wpAny_loadPart')
open PySem.MeetsSeq PySem.MeetsSeq2 PySem.MeetsSeq3

theorem tuple_lt_ints (l b : Addr) (items items2 : Array Value) (n n2 : Nat) (dd dd2 : Option Addr) (sl sl2 : Array (Option Value)) (ns ms : List Int) (hi : IntsAre items.toList ns) (hj : IntsAre items2.toList ms) :
    Meets (Builtin.«tuple.__lt__» ⟨[.ref l, .ref b], []⟩)
      (fun _ R s => s.heap.get? l = some { cls := .type "tuple", dict := dd, data := .seq items n, slots := sl } ∧ s.heap.get? b = some { cls := .type "tuple", dict := dd2, data := .seq items2 n2, slots := sl2 } ∧
        R (.ok (.ret (.bool (lexLt ns ms)))) s) :=
  .of_wp fun prog w A R s h => by
    obtain ⟨hp, g, d, tk, os⟩ := s; obtain ⟨hl, hb, h⟩ := h
    have f2 := AutoSeq1.sub_tuple_tuple
    have z1 : items.size = ns.length := by rw [← hi.length]; simp
    have z2 : items2.size = ms.length := by rw [← hj.length]; simp
    wp_walk using wpAny_loadPart' hl, wpAny_loadPart' hb, wpAny_forIn_list _ (fun rest b s' => b.1 = none ∧ s' = ⟨hp, g, d, tk, os⟩ ∧ ∃ (vs ws : List Value) (ns' ms' : List Int), rest = vs.zip ws ∧
      IntsAre vs ns' ∧ IntsAre ws ms' ∧ ns'.length + items2.size = ms'.length + items.size ∧ R (.ok (.ret (.bool (lexLt ns' ms')))) ⟨hp, g, d, tk, os⟩) _
    case turn =>
      rintro ⟨y, x⟩ rest b s' ⟨hb', rfl, vs, ws, ns', ms', hz, hvi, hwi, hlen, hR⟩
      cases hvi with
      | nil => rw [List.zip_nil_left] at hz; cases hz
      | cons a t hvi' =>
        cases hwi with
        | nil => rw [List.zip_nil_right] at hz; cases hz
        | cons c u hwi' =>
          rw [List.zip_cons_cons] at hz
          injection hz with hyx hrest
          injection hyx with hy hx
          subst hy hx
          rw [lexLt_cons] at hR
          simp only [List.length_cons] at hlen
          obtain ⟨e, he, hiff⟩ := eqAt_int A.in1 ⟨hp, g, d, tk, os⟩ a t c u
          refine wpAny_bind (he prog w _ _ ?_)
          cases e with
          | true =>
            rw [if_pos (hiff.mp rfl)] at hR
            wp_walk
            exact ⟨rfl, rfl, _, _, _, _, hrest, hvi', hwi', by omega, hR⟩
          | false =>
            rw [if_neg (fun q => absurd (hiff.mpr q) Bool.false_ne_true)] at hR
            have hri := rcLt_int A.in1 ⟨hp, g, d, tk, os⟩ a t c u prog w
            wp_walk using hri
            exact ⟨_, rfl, by simpa using hR⟩
    case fin =>
      rintro ⟨b1, b2⟩ s' ⟨hb', rfl, vs, ws, ns', ms', hz, hvi, hwi, hlen, hR⟩
      simp only at hb'
      subst hb'
      have hv : lexLt ns' ms' = decide (items.size < items2.size) := by
        cases hvi with
        | nil =>
          cases hwi with
          | nil =>
            simp only [List.length_nil] at hlen
            rw [lexLt_nil_nil]
            exact (decide_eq_false (by omega)).symm
          | cons c u hw =>
            simp only [List.length_nil, List.length_cons] at hlen
            rw [lexLt_nil_cons]
            exact (decide_eq_true (by omega)).symm
        | cons a t hv =>
          cases hwi with
          | nil =>
            simp only [List.length_nil, List.length_cons] at hlen
            rw [lexLt_cons_nil]
            exact (decide_eq_false (by omega)).symm
          | cons c u hw =>
            rw [List.zip_cons_cons] at hz
            cases hz
      rw [hv] at hR
      wp_walk
      exact ⟨_, rfl, by simpa [Builtin.Tuple.tupleCompareSizes] using hR⟩
    case h =>
      exact ⟨rfl, rfl, items.toList, items2.toList, ns, ms, rfl, hi, hj, by omega, h⟩
end

section
variable {prog : Program} {w : World} {A : Around} {E : Value → Shared → Prop} {s : Shared}

theorem lt_tupInts {l b : Addr} {items items2 : Array Value} {ns ms : List Int} {Q : Value → Shared → Prop} (hl : IsTup s.heap l items) (hb : IsTup s.heap b items2) (hi : IntsAre items.toList ns) (hj : IntsAre items2.toList ms)
    (hu : A.units < cLine) (h : Q (.bool (lexLt ns ms)) s) : wpAny (model prog w) A (compareOp .Lt (.ref l) (.ref b)) Q E s := by
  obtain ⟨⟨cls, dd, data, sl⟩, ho, hc, n, hd⟩ := id hl
  obtain ⟨⟨cls2, dd2, data2, sl2⟩, ho2, hc2, n2, hd2⟩ := id hb
  simp only at hc hd hc2 hd2
  subst hc hd hc2 hd2
  exact richCompare_meets_room (op := .Lt) ⟨_, ho, rfl⟩ ⟨_, ho2, rfl⟩ PySem.F.slot_tuple_lt PySem.F.entry_tuple_lt (PySem.F.args_tuple_lt_2 _ _) (tuple_lt_ints l b items items2 n n2 dd dd2 sl sl2 ns ms hi hj)
    ⟨ho, ho2, show Value.bool (lexLt ns ms) ≠ Value.notImplemented ∧ Q (.bool (lexLt ns ms)) s from ⟨(fun x => nomatch x), h⟩⟩ hu

/-- t + u, t not empty -/
theorem cat_tup {t b : Addr} {vs ws : List Value} {Q : Value → Shared → Prop} (ht : IsTup s.heap t vs.toArray) (hb : IsTup s.heap b ws.toArray) (hv : vs ≠ [])
    (h1 : ws = [] → Q (.ref t) s) (h2 : ws ≠ [] → Q (.ref s.heap.objs.size) { s with heap := s.heap.push { cls := .type "tuple", data := .seq (vs ++ ws).toArray } })
    (hsz : vs.length + ws.length ≤ sizeLine) : wpAny (model prog w) A (binaryOp .Add (.ref t) (.ref b)) Q E s := by
  obtain ⟨⟨cls, dd, data, sl⟩, ho, hc, n, hd⟩ := id ht
  obtain ⟨⟨cls2, dd2, data2, sl2⟩, ho2, hc2, n2, hd2⟩ := id hb
  simp only at hc hd hc2 hd2
  subst hc hd hc2 hd2
  have e : vs.toArray ++ ws.toArray = (vs ++ ws).toArray := by simp
  by_cases hw : ws = []
  · exact concat_meets ⟨_, ho, rfl⟩ ⟨_, ho2, rfl⟩ noFill_tuple_add seq_tuple_add PySem.F.slot_tuple_add PySem.F.entry_tuple_add (PySem.F.args_tuple_add_2 _ _)
      (tuple_addW1 t b vs.toArray ws.toArray n n2 dd dd2 sl sl2 (by simpa using hv) (by simp [hw])) ⟨ho, ho2, h1 hw⟩
  · refine concat_meets ⟨_, ho, rfl⟩ ⟨_, ho2, rfl⟩ noFill_tuple_add seq_tuple_add PySem.F.slot_tuple_add PySem.F.entry_tuple_add (PySem.F.args_tuple_add_2 _ _)
      (tuple_addW2 t b vs.toArray ws.toArray n n2 dd dd2 sl sl2 (by simpa using hv) (by simpa using hw) (by rw [List.size_toArray, List.size_toArray]; exact hsz)) ⟨ho, ho2, ?_⟩
    rw [e]
    exact h2 hw

/-! ### t[a:b], not the whole -/
/-- a slice's bound as a place among n (d where it is left out) -/
def sIx (n d : Nat) : Option Int → Nat
  | none => d
  | some v => if v < 0 then (v + (n : Int)).toNat else min v.toNat n
theorem sIx_none (n d : Nat) : sIx n d none = d := rfl
theorem sIx_nat (n d k : Nat) : sIx n d (some (k : Int)) = min k n := by
  show (if (k : Int) < 0 then ((k : Int) + (n : Int)).toNat else min (k : Int).toNat n) = min k n
  rw [if_neg (by omega), Int.toNat_natCast]
theorem sIx_le (n d : Nat) (hd : d ≤ n) (o : Option Int) : sIx n d o ≤ n := by
  cases o with
  | none => exact hd
  | some v =>
    show (if v < 0 then (v + (n : Int)).toNat else min v.toNat n) ≤ n
    by_cases hv : v < 0
    · rw [if_pos hv]; omega
    · rw [if_neg hv]; exact Nat.min_le_right _ _
theorem clip_eq (v : Int) (n d : Nat) : (if v < 0 then max (v + (n : Int)) 0 else min v (n : Int)) = ((sIx n d (some v) : Nat) : Int) := by
  show (if v < 0 then max (v + (n : Int)) 0 else min v (n : Int)) = (((if v < 0 then (v + (n : Int)).toNat else min v.toNat n) : Nat) : Int)
  by_cases hv : v < 0
  · simp only [if_pos hv]; omega
  · simp only [if_neg hv]; omega
theorem adjust_gen (lo hi : Option Int) (n : Nat) : Builtin.Slice.sliceAdjust lo hi 1 (n : Int) = (((sIx n 0 lo : Nat) : Int), ((sIx n n hi : Nat) : Int)) := by
  have h1 : ¬ ((1 : Int) < 0) := by omega
  unfold Builtin.Slice.sliceAdjust
  simp only [h1, if_false]
  refine Prod.ext ?_ ?_
  · cases lo with
    | none => rfl
    | some v => exact clip_eq v n 0
  · cases hi with
    | none => rfl
    | some v => exact clip_eq v n n
theorem places_gen (i j : Nat) : Builtin.Slice.slicePlaces (i : Int) (j : Int) 1 = j - i := by
  unfold Builtin.Slice.slicePlaces
  have h1 : (1 : Int) > 0 := by omega
  simp only [h1, if_true, Int.ediv_one]
  split <;> omega
theorem slicePart_ {v : Value} {o : Option Int} {Q : Option Int → Shared → Prop} (p : IsPart v o) (h : Q o s) : wpAny (model prog w) A (Builtin.Slice.slicePartIndex v) Q E s := by
  cases p with
  | none => exact slicePart_none h
  | int i t => exact slicePart_int h
theorem sliceApplied_gen {sl : Addr} {vl vu : Value} {lo hi : Option Int} {n : Nat} {Q : Int × Int × Nat → Shared → Prop} (hs : s.heap.IsSliceOf sl vl vu .none) (pl : IsPart vl lo) (pu : IsPart vu hi)
    (h : Q (((sIx n 0 lo : Nat) : Int), 1, sIx n n hi - sIx n 0 lo) s) : wpAny (model prog w) A (Builtin.Slice.sliceApplied (.ref sl) (pure (n : Int))) Q E s := by
  obtain ⟨os, hos, hcs, hds⟩ := id hs
  unfold Builtin.Slice.sliceApplied Builtin.Slice.sliceFields
  refine wpAny_bind (wpAny_bind (wpAny_field hos hds (x := vl) rfl (wpAny_bind (wpAny_field hos hds (x := vu) rfl (wpAny_bind (wpAny_field hos hds (x := .none) rfl (wpAny_pure ?_)))))))
  refine wpAny_bind (slicePart_none ?_)
  show wpAny _ _ (if ((1 : Int) == 0) = true then _ else _) _ _ s
  rw [if_neg (by decide)]
  refine wpAny_bind (slicePart_ pl (wpAny_bind (slicePart_ pu (wpAny_bind (wpAny_pure ?_)))))
  show wpAny _ _ (match Builtin.Slice.sliceAdjust lo hi 1 (n : Int) with | (lo, hi) => pure (lo, (1 : Int), Builtin.Slice.slicePlaces lo hi 1)) _ _ s
  rw [adjust_gen lo hi n]
  show wpAny _ _ (pure (((sIx n 0 lo : Nat) : Int), (1 : Int), Builtin.Slice.slicePlaces ((sIx n 0 lo : Nat) : Int) ((sIx n n hi : Nat) : Int) 1)) _ _ s
  rw [places_gen]
  exact wpAny_pure h
theorem pick_gen (xs : Array Value) (i k : Nat) : ((List.range k).filterMap fun (m : Nat) => xs[((i : Int) + (m : Int) * 1).toNat]?).toArray = ((xs.toList.drop i).take k).toArray := by
  have e : (fun (m : Nat) => xs[((i : Int) + (m : Int) * 1).toNat]?) = fun m => xs[i + m]? := by
    funext m
    have : ((i : Int) + (m : Int) * 1).toNat = i + m := by omega
    rw [this]
  rw [e]
  have := pick_run xs i k
  rw [List.filterMap_map] at this
  have e2 : ((fun x => xs[x]?) ∘ fun x => i + x) = fun m => xs[i + m]? := rfl
  rw [e2] at this
  rw [this]

theorem getItem_tuple_cut {t sl : Addr} {items : Array Value} {vl vu : Value} {lo hi : Option Int} {Q : Value → Shared → Prop} (ht : IsTup s.heap t items) (hs : s.heap.IsSliceOf sl vl vu .none) (pl : IsPart vl lo) (pu : IsPart vu hi)
    (hw : ¬ (sIx items.size 0 lo = 0 ∧ sIx items.size items.size hi = items.size))
    (h : Q (.ref s.heap.objs.size) { s with heap := s.heap.push { cls := .type "tuple", data := .seq ((items.toList.drop (sIx items.size 0 lo)).take (sIx items.size items.size hi - sIx items.size 0 lo)).toArray } })
    (hsz : items.size ≤ sizeLine) : wpAny (model prog w) A (getItem (.ref t) (.ref sl)) Q E s := by
  have htake : sizeOk (.seq ((items.toList.drop (sIx items.size 0 lo)).take (sIx items.size items.size hi - sIx items.size 0 lo)).toArray) := by
    show ((items.toList.drop (sIx items.size 0 lo)).take (sIx items.size items.size hi - sIx items.size 0 lo)).toArray.size ≤ sizeLine
    rw [List.size_toArray, List.length_take, List.length_drop, Array.length_toList]
    omega
  have hj : sIx items.size items.size hi ≤ items.size := sIx_le _ _ (Nat.le_refl _) hi
  obtain ⟨os, hos, hcs, hds⟩ := id hs
  have hTs : s.TypeIs (.ref sl) "slice" := ⟨os, hos, hcs⟩
  unfold getItem
  try with_reducible refine wpAny_holding ?_
  first | refine wpAny_bind (wpAny_pure ?_) | skip
  refine wpAny_bind (wpAny_sequenceKey ht.typeIs (by decide) ?_)
  refine wpAny_bind (wpAny_callSpecial?_slot (name := Str.ofString "__getitem__") ht.typeIs PyProof.Rows.slot_tuple_getitem
    (wpAny_call_entry PyProof.Rows.slot_tuple_getitem ht.typeIs entry_tuple_getitem ?_ (args_tuple_getitem _ _)))
  show wpAny _ _ (Builtin.Tuple.tupleItemsOf (.ref t) >>= _) _ _ s
  refine wpAny_bind (tupleItemsOf_ ht ?_)
  refine wpAny_bind (wpAny_typeOf hTs ?_)
  rw [if_pos (by decide)]
  refine wpAny_bind (sliceApplied_gen hs pl pu ?_)
  have hno : ¬ ((((sIx items.size 0 lo : Nat) : Int) == 0 && (1 : Int) == 1 && (sIx items.size items.size hi - sIx items.size 0 lo) == items.size) = true) := by
    intro q
    rw [Bool.and_eq_true, Bool.and_eq_true] at q
    have q1 : ((sIx items.size 0 lo : Nat) : Int) = 0 := eq_of_beq q.1.1
    have q2 : sIx items.size items.size hi - sIx items.size 0 lo = items.size := eq_of_beq q.2
    exact hw ⟨by omega, by omega⟩
  show wpAny _ _ (if (((sIx items.size 0 lo : Nat) : Int) == 0 && (1 : Int) == 1 && (sIx items.size items.size hi - sIx items.size 0 lo) == items.size) = true then _ else _) _ _ s
  rw [if_neg hno, pick_gen]
  first
    | exact wpAny_bind (m := Builtin.Tuple.tupleExact _) (wpAny_newObj_type (wpAny_pure ⟨_, rfl, wpAny_pure h⟩) htake)
    | exact wpAny_bind (m := Builtin.Tuple.tupleExact _) (wpAny_newObj_type (wpAny_bind (wpAny_pure (wpAny_pure ⟨_, rfl, wpAny_pure h⟩))) htake)
    | exact wpAny_bind (wpAny_bind (m := Builtin.Tuple.tupleExact _) (wpAny_newObj_type (wpAny_pure (wpAny_pure ⟨_, rfl, wpAny_pure h⟩)) htake))
    | exact wpAny_bind (wpAny_bind (m := Builtin.Tuple.tupleExact _) (wpAny_newObj_type (wpAny_pure ⟨_, rfl, wpAny_pure h⟩) htake))
end
end HT

namespace L2
open PySem PySem.Spec PyProof.Rows

/-! ### the parts of a slice -/
abbrev TO := St → Hp → (Option Int → Hp → Prop) → Prop
/-- a slice's part (left out, or an int) -/
def PO (X : Cx) (e : Option Expr) (t : TO) : Prop :=
  ∀ (pins : List (Addr × Obj)) (s : Shared) (σ : St) (H : Hp) (Q : Option Int → Hp → Prop), Inv X pins σ H s → t σ H Q →
    wpAny (model X.prog X.w) X.A (evalPart e X.env) (fun u s' => ∃ o H', Inv X pins σ H' s' ∧ IsPart u o ∧ Q o H') X.xe s
def tNoPart : TO := fun _ H Q => Q none H
def tPart (t : TE) : TO := fun σ H Q => t σ H fun x H1 => ∃ i, x = .int i ∧ Q (some i) H1

theorem intsAre_of {ns : List Int} : ∀ {us : List Value}, Vals (ns.map V.int) us → IntsAre us ns := by
  induction ns with
  | nil => intro us r; rw [List.map_nil] at r; cases r; exact .nil
  | cons n ns ih =>
    intro us r
    rw [List.map_cons] at r
    cases r with
    | cons r1 r2 =>
      obtain ⟨t, e⟩ := r1
      subst e
      exact .cons n t (ih r2)

section
variable {X : Cx} {e : Expr} {te : TE} {lo hi : Option Expr} {tl th : TO} {pos p2 : Pos}

theorem po_none : PO X none tNoPart := by
  intro pins s σ H Q I h
  rw [evalPart_none]
  exact wpAny_pure ⟨none, H, I, .none, h⟩
theorem po_some (h : PE X e te) : PO X (some e) (tPart te) := by
  intro pins s σ H Q I hw
  rw [evalPart_some]
  refine thn (h pins s σ H _ I hw) fun u s1 ⟨x, H1, I1, r1, q1⟩ => ?_
  obtain ⟨i, rfl, q⟩ := q1
  obtain ⟨t, rfl⟩ := r1
  exact ⟨some i, H1, I1, .int i t, q⟩

/-- what a slice of a value is, by values: the slice object stands at sl -/
def SlR (X : Cx) (r : V → Option Int → Option Int → Hp → VK → Prop) : Prop :=
  ∀ (pins : List (Addr × Obj)) (s : Shared) (σ : St) (H : Hp) (x : V) (v vl vu : Value) (lo hi : Option Int) (sl : Addr) (Q : VK), Inv X pins σ H s → RelV x v → s.heap.IsSliceOf sl vl vu .none → IsPart vl lo → IsPart vu hi → r x lo hi H Q →
    ∃ T id, typeLookup (.type T) "__getitem__" = pure (some (.builtin id)) ∧ s.TypeIs v T ∧ wpAny (model X.prog X.w) X.A (getItem v (.ref sl)) (EP X pins σ Q) X.xe s
theorem SlR.or {r r' : V → Option Int → Option Int → Hp → VK → Prop} (h : SlR X r) (h' : SlR X r') : SlR X (fun x lo hi H Q => r x lo hi H Q ∨ r' x lo hi H Q) := by
  intro pins s σ H x v vl vu lo hi sl Q I rx hs pl pu q
  rcases q with q | q
  · exact h pins s σ H x v vl vu lo hi sl Q I rx hs pl pu q
  · exact h' pins s σ H x v vl vu lo hi sl Q I rx hs pl pu q
def tSl (r : V → Option Int → Option Int → Hp → VK → Prop) (te : TE) (tl th : TO) : TE := fun σ H Q => te σ H fun x H1 => tl σ H1 fun l H2 => th σ H2 fun u H3 => r x l u H3 Q
/-- a[lo:hi], any a -/
theorem pe_slice {r : V → Option Int → Option Int → Hp → VK → Prop} (hr : SlR X r) (he : PE X e te) (hl : PO X lo tl) (hu : PO X hi th) : PE X (.Subscript e (.Slice lo hi none p2) pos) (tSl r te tl th) := by
  intro pins s σ H Q I h
  refine Subscript_ (thn (he pins s σ H _ I h) fun v s1 ⟨x, H1, I1, r1, q1⟩ => ?_)
  refine wpAny_Slice (thn (hl pins s1 σ H1 _ I1 q1) fun vl s2 ⟨l, H2, I2, pl, q2⟩ => thn (hu pins s2 σ H2 _ I2 q2) fun vu s3 ⟨u, H3, I3, pu, q3⟩ => ?_)
  rw [evalPart_none]
  refine wpAny_pure ?_
  have I4 : Inv X pins σ H3 { s3 with heap := s3.heap.push { cls := .type "slice", data := .fields #[vl, vu, .none] } } := I3.kept (t' := s3.toks) fun b ob q => Heap.get?_push_of_some _ q
  obtain ⟨T, id, hT, ht, hg⟩ := hr pins { s3 with heap := s3.heap.push { cls := .type "slice", data := .fields #[vl, vu, .none] } } σ H3 x v vl vu l u s3.heap.objs.size Q I4 r1 (Heap.IsSliceOf.new ..) pl pu q3
  show wpAny (model X.prog X.w) X.A (subscriptTail e (.Slice lo hi none p2) v (.ref s3.heap.objs.size)) (EP X pins σ Q) X.xe { s3 with heap := s3.heap.push { cls := .type "slice", data := .fields #[vl, vu, .none] } }
  exact tail_any (ops := [.ref s3.heap.objs.size, v]) ht hT hg (by with_unfolding_all rfl)

/-- the items of xs[lo:hi] -/
def cutV (xs : List V) (lo hi : Option Int) : List V := (xs.drop (HT.sIx xs.length 0 lo)).take (HT.sIx xs.length xs.length hi - HT.sIx xs.length 0 lo)
theorem cutV_length (xs : List V) (lo hi : Option Int) : (cutV xs lo hi).length ≤ xs.length := by
  unfold cutV
  rw [List.length_take, List.length_drop]
  omega
/-- t[lo:hi], not the whole of it (the whole would be t itself) -/
def rSlT (K : PySem.W.Frag) : V → Option Int → Option Int → Hp → VK → Prop := fun x lo hi H Q => ∃ a xs, x = .ref a ∧ SqT K H a xs ∧
  ¬ (HT.sIx xs.length 0 lo = 0 ∧ HT.sIx xs.length xs.length hi = xs.length) ∧ ∀ p, H p = none → Q (.ref p) (upd H p (.tup (cutV xs lo hi)))
theorem sl_tup : SlR X (rSlT X.K) := by
  intro pins s σ H x v vl vu lo hi sl Q I rx hs pl pu h
  obtain ⟨a, xs, rfl, hx, hw, q⟩ := h
  cases rx
  obtain ⟨its, r, ht, hz⟩ := I.tuple hx
  have hlen : its.toArray.size = xs.length := by rw [List.size_toArray]; exact r.length.symm
  refine ⟨"tuple", _, PyProof.Rows.slot_tuple_getitem.lookup, ht.typeIs, ?_⟩
  refine HT.getItem_tuple_cut ht hs pl pu (by rw [hlen]; exact hw) ?_ (by rw [hlen]; exact hz)
  rw [hlen]
  refine ⟨.ref s.heap.objs.size, _, I.laid (t' := s.toks) (o := .tup (cutV xs lo hi)) (fun b ob q => Heap.get?_push_of_some _ q) (Nat.le_refl _) ?_, rfl, q _ (I.hok.fresh (Nat.le_refl _))⟩
  exact ⟨Nat.le_trans (cutV_length xs lo hi) hz, _, (r.drop (HT.sIx xs.length 0 lo)).take (HT.sIx xs.length xs.length hi - HT.sIx xs.length 0 lo), IsTup.new _ _⟩

/-! ### t < u, t + u -/
def rLtT (K : PySem.W.Frag) : R2 := fun x y H Q => ∃ a b ns ms, x = .ref a ∧ y = .ref b ∧ SqT K H a (ns.map V.int) ∧ SqT K H b (ms.map V.int) ∧ Q (.bl (HT.lexLt ns ms)) H
theorem op_ltT (hu : X.A.units < cLine) : OpR X (compareOp .Lt) (rLtT X.K) := by
  intro pins s σ H x y v u Q I rx ry h
  obtain ⟨a, b, ns, ms, rfl, rfl, ha, hb, q⟩ := h
  cases rx
  cases ry
  obtain ⟨its, r1, p1, _⟩ := I.tuple ha
  obtain ⟨its2, r2, p2, _⟩ := I.tuple hb
  have i1 : IntsAre its.toArray.toList ns := intsAre_of r1
  have i2 : IntsAre its2.toArray.toList ms := intsAre_of r2
  exact HT.lt_tupInts p1 p2 i1 i2 hu ⟨.bl (HT.lexLt ns ms), H, I, rfl, q⟩
/-- t + u, t not empty: u empty gives t itself -/
def rCatT (K : PySem.W.Frag) : R2 := fun x y H Q => ∃ a b xs ys, x = .ref a ∧ y = .ref b ∧ SqT K H a xs ∧ SqT K H b ys ∧ xs ≠ [] ∧ xs.length + ys.length ≤ sizeLine ∧
  (ys = [] → Q (.ref a) H) ∧ (ys ≠ [] → ∀ p, H p = none → Q (.ref p) (upd H p (.tup (xs ++ ys))))
theorem Vals.nil_iff {xs : List V} {us : List Value} (r : Vals xs us) : us = [] ↔ xs = [] := by
  cases r with
  | nil => simp
  | cons _ _ => simp
theorem op_catT : OpR X (binaryOp .Add) (rCatT X.K) := by
  intro pins s σ H x y v u Q I rx ry h
  obtain ⟨a, b, xs, ys, rfl, rfl, ha, hb, hx, hz, q1, q2⟩ := h
  cases rx
  cases ry
  obtain ⟨its, r1, p1, _⟩ := I.tuple ha
  obtain ⟨its2, r2, p2, _⟩ := I.tuple hb
  refine HT.cat_tup p1 p2 (fun z => hx (r1.nil_iff.mp z)) (fun z => ⟨.ref a, H, I, rfl, q1 (r2.nil_iff.mp z)⟩) (fun z => ?_) (by rw [← r1.length, ← r2.length]; exact hz)
  refine ⟨.ref s.heap.objs.size, _, I.laid (t' := s.toks) (o := .tup (xs ++ ys)) (fun b ob q => Heap.get?_push_of_some _ q) (Nat.le_refl _) ?_, rfl, q2 (fun w => z (r2.nil_iff.mpr w)) _ (I.hok.fresh (Nat.le_refl _))⟩
  exact ⟨by rw [List.length_append]; exact hz, _, r1.append r2, IsTup.new _ _⟩
/-- tuple(t) -/
theorem call_tupleT : CallR X (.type "tuple") (fun xs H Q => ∃ a ys, xs = [.ref a] ∧ SqT X.K H a ys ∧ Q (.ref a) H) := by
  intro pins s σ H xs us Q I r h
  obtain ⟨a, ys, rfl, ha, q⟩ := h
  obtain ⟨u, rfl, ru⟩ := vals1 r
  cases ru
  obtain ⟨its, _, p1, _⟩ := I.tuple ha
  exact call_tuple_same (items := its.toArray) p1 ⟨.ref a, H, I, rfl, q⟩
end
end L2

namespace L2
open PySem PySem.Spec PyProof.Rows

/-! ### places -/
/-- the place that an index of any sign means -/
def ixN (n : Nat) (i : Int) : Option Nat := if 0 ≤ i then (if i < n then some i.toNat else none) else if -(n : Int) ≤ i then some (i + n).toNat else none
def atI {α : Type} (xs : List α) (i : Int) : Option α := (ixN xs.length i).bind fun j => xs[j]?
theorem ixN_seq {n : Nat} {i : Int} {j : Nat} (h : ixN n i = some j) : seqIndex? i n = some j ∧ j < n ∧ -(n : Int) ≤ i ∧ i < n := by
  unfold ixN at h
  by_cases h0 : 0 ≤ i
  · rw [if_pos h0] at h
    by_cases h1 : i < n
    · rw [if_pos h1] at h
      have e : i.toNat = j := Option.some.inj h
      exact ⟨by rw [seqIndex_of h0 h1, e], by omega, by omega, h1⟩
    · rw [if_neg h1] at h; cases h
  · rw [if_neg h0] at h
    by_cases h1 : -(n : Int) ≤ i
    · rw [if_pos h1] at h
      have e : (i + n).toNat = j := Option.some.inj h
      exact ⟨by rw [seqIndex_neg (by omega) h1, e], by omega, h1, by omega⟩
    · rw [if_neg h1] at h; cases h
theorem atI_get {α : Type} {xs : List α} {i : Int} {v : α} (h : atI xs i = some v) : ∃ j, seqIndex? i xs.length = some j ∧ xs[j]? = some v ∧ j < xs.length ∧ -(xs.length : Int) ≤ i ∧ i < xs.length := by
  unfold atI at h
  cases e : ixN xs.length i with
  | none => rw [e] at h; cases h
  | some j =>
    rw [e] at h
    obtain ⟨h1, h2, h3, h4⟩ := ixN_seq e
    exact ⟨j, h1, h, h2, h3, h4⟩
theorem atI_nat {α : Type} {xs : List α} {j : Nat} {v : α} (h : xs[j]? = some v) : atI xs (j : Int) = some v := by
  have hj : j < xs.length := (List.getElem?_eq_some_iff.mp h).1
  have e : ixN xs.length (j : Int) = some j := by
    unfold ixN
    rw [if_pos (by omega), if_pos (by omega)]; simp
  unfold atI; rw [e]; exact h
theorem atI_last {α : Type} (xs : List α) (v : α) : atI (xs ++ [v]) (-1) = some v := by
  have hl : (xs ++ [v]).length = xs.length + 1 := by simp
  have e : ixN (xs ++ [v]).length (-1) = some xs.length := by
    unfold ixN
    rw [hl, if_neg (by decide), if_pos (by omega)]
    congr 1
    omega
  unfold atI
  rw [e]
  show (xs ++ [v])[xs.length]? = some v
  simp

/-! ### what may be subscripted -/
/-- what stands as an index of a plain subscript -/
def PlainIx (b : Expr) : Prop := ∀ o i, subscripted b false o i = operate [o, i] (getItem o i)
/-- a subscript by values -/
def IxR (X : Cx) (r : R2) : Prop :=
  ∀ (value slice : Expr) (pins : List (Addr × Obj)) (s : Shared) (σ : St) (H : Hp) (x y : V) (v u : Value) (Q : VK), Inv X pins σ H s → RelV x v → RelV y u → r x y H Q →
    subscripted slice false v u = operate [v, u] (getItem v u) → wpAny (model X.prog X.w) X.A (subscriptTail value slice v u) (EP X pins σ Q) X.xe s
/-- a call of a builtin's method by values: the receiver, the arguments -/
def MtR (X : Cx) (id : String) (r : V → List V → Hp → VK → Prop) : Prop :=
  ∀ (pins : List (Addr × Obj)) (s : Shared) (σ : St) (H : Hp) (x : V) (xs : List V) (v : Value) (us : List Value) (Q : VK), Inv X pins σ H s → RelV x v → Vals xs us → r x xs H Q →
    wpAny (model X.prog X.w) X.A (call (.builtin id) (v :: us)) (EP X pins σ Q) X.xe s
section
variable {X : Cx} {a b : Expr} {ta tb : TE} {pos : Pos}
theorem IxR.or {r r' : R2} (h : IxR X r) (h' : IxR X r') : IxR X (fun x y H Q => r x y H Q ∨ r' x y H Q) := by
  intro value slice pins s σ H x y v u Q I rx ry q hs
  rcases q with q | q
  · exact h value slice pins s σ H x y v u Q I rx ry q hs
  · exact h' value slice pins s σ H x y v u Q I rx ry q hs
theorem MtR.or {id : String} {r r' : V → List V → Hp → VK → Prop} (h : MtR X id r) (h' : MtR X id r') : MtR X id (fun x xs H Q => r x xs H Q ∨ r' x xs H Q) := by
  intro pins s σ H x xs v us Q I rx rs q
  rcases q with q | q
  · exact h pins s σ H x xs v us Q I rx rs q
  · exact h' pins s σ H x xs v us Q I rx rs q
/-- a[b] -/
theorem pe_ix {r : R2} (hr : IxR X r) (ha : PE X a ta) (hb : PE X b tb) (hs : PlainIx b) : PE X (.Subscript a b pos) (tOp r ta tb) := by
  intro pins s σ H Q I h
  exact Subscript_ (binT ha hb I h fun v u s2 x y H2 I2 rx ry q => hr a b pins s2 σ H2 x y v u Q I2 rx ry q (hs _ _))

def rIxL (K : PySem.W.Frag) : R2 := fun x y H Q => ∃ p xs i v, x = .ref p ∧ y = .int i ∧ SqL K H p xs ∧ atI xs i = some v ∧ Q v H
def rIxT (K : PySem.W.Frag) : R2 := fun x y H Q => ∃ p xs i v, x = .ref p ∧ y = .int i ∧ SqT K H p xs ∧ atI xs i = some v ∧ Q v H
def rIxS : R2 := fun x y H Q => ∃ z i c, x = .str z ∧ y = .int i ∧ z.length ≤ sizeLine ∧ atI z.cps.toList i = some c ∧ Q (.str ⟨#[c]⟩) H
theorem ix_list : IxR X (rIxL X.K) := by
  intro value slice pins s σ H x y v u Q I rx ry h hs
  obtain ⟨p, xs, i, z, rfl, rfl, hq, he, q⟩ := h
  cases rx
  obtain ⟨t, rfl⟩ := ry
  obtain ⟨its, r, pl, hz⟩ := I.list hq
  obtain ⟨j, h1, h2, h3, h4, h5⟩ := atI_get he
  obtain ⟨w, ew, rw'⟩ := r.get h2
  have hl := r.length
  have hn := line63
  have fin : EP X pins σ Q w s := ⟨z, H, I, rw', q⟩
  by_cases h0 : 0 ≤ i
  · have hj : i.toNat = j := by
      rw [seqIndex_of h0 h5] at h1
      exact Option.some.inj h1
    exact item_listR pl.isList h0 (by omega) (by rw [hj]; simpa using ew) fin hs
  · have hj : (i + (its.toArray.size : Int)).toNat = j := by
      rw [seqIndex_neg (by omega) h4] at h1
      rw [List.size_toArray, ← hl]
      exact Option.some.inj h1
    exact subscriptTail_builtinR (x := w) pl.isList.typeIs slot_list_getitem.lookup
      (wpAny_getItem_list_neg (Q := fun r s' => r = w ∧ EP X pins σ Q r s') pl.isList (by omega) (by rw [List.size_toArray] <;> omega) (by omega) (by rw [hj]; simpa using ew) ⟨rfl, fin⟩) hs
theorem ix_tup : IxR X (rIxT X.K) := by
  intro value slice pins s σ H x y v u Q I rx ry h hs
  obtain ⟨p, xs, i, z, rfl, rfl, hq, he, q⟩ := h
  cases rx
  obtain ⟨t, rfl⟩ := ry
  obtain ⟨its, r, pl, hz⟩ := I.tuple hq
  obtain ⟨j, h1, h2, h3, h4, h5⟩ := atI_get he
  obtain ⟨w, ew, rw'⟩ := r.get h2
  have hl := r.length
  have hn := line63
  have fin : EP X pins σ Q w s := ⟨z, H, I, rw', q⟩
  exact subscriptTail_builtinR (x := w) pl.typeIs slot_tuple_getitem.lookup
    (getItem_tuple (j := j) (Q := fun r s' => r = w ∧ EP X pins σ Q r s') pl (by omega) (by omega) (by rw [List.size_toArray, ← hl]; exact h1) (by simpa using ew) ⟨rfl, fin⟩) hs
theorem ix_str : IxR X rIxS := by
  intro value slice pins s σ H x y v u Q I rx ry h hs
  obtain ⟨z, i, c, rfl, rfl, hz, he, q⟩ := h
  obtain ⟨t, rfl⟩ := rx
  obtain ⟨t', rfl⟩ := ry
  obtain ⟨j, h1, h2, h3, h4, h5⟩ := atI_get he
  have hl : z.cps.toList.length = z.length := by simp [Str.length]
  rw [hl] at h1 h4 h5
  have hn := line63
  exact tail_any (typeIs_str s z t) slot_str_getitem.lookup (getItem_str (c := c) (by
    have e1 : decide (i < -(2 ^ 63 : Int)) = false := decide_eq_false (by omega)
    have e2 : decide (i ≥ 2 ^ 63) = false := decide_eq_false (by omega)
    rw [e1, e2, Bool.or_false]) (by rw [h1]; simpa using h2) ⟨.str ⟨#[c]⟩, H, I.tok _, ⟨_, rfl⟩, q⟩) hs
/-- list, tuple or str -/
def rIx (K : PySem.W.Frag) : R2 := fun x y H Q => rIxL K x y H Q ∨ rIxT K x y H Q ∨ rIxS x y H Q
theorem ix_seq : IxR X (rIx X.K) := ix_list.or (ix_tup.or ix_str)

/-! ### xs[i] = v, any sign -/
/-- the list's object behind a store -/
theorem mapSeq_set (its : List Value) (n j : Nat) (u : Value) : Obj.mapSeq (·.setIfInBounds j u) { cls := .type "list", data := .seq its.toArray n } = { cls := .type "list", data := .seq (its.set j u).toArray n } := by
  simp [Obj.mapSeq]
theorem Inv.lst {pins : List (Addr × Obj)} {σ : St} {H : Hp} {s : Shared} {p : Addr} {xs : List V} (I : Inv X pins σ H s) (h : H p = some (.lst xs)) :
    ∃ (its : List Value) (n : Nat), Vals xs its ∧ s.heap.get? p = some { cls := .type "list", data := .seq its.toArray n } ∧ xs.length ≤ sizeLine := by
  obtain ⟨z, its, n, r, e⟩ := I.hok p _ h
  exact ⟨its, n, r, e, z⟩
/-- the list at p is written by an update of its object -/
theorem Inv.lstUpd {pins : List (Addr × Obj)} {σ : St} {H : Hp} {s : Shared} {p : Addr} {xs ys : List V} {its its' : List Value} {n n' : Nat} {f : Obj → Obj} (I : Inv X pins σ H s) (h : H p = some (.lst xs))
    (ho : s.heap.get? p = some { cls := .type "list", data := .seq its.toArray n }) (hf : f { cls := .type "list", data := .seq its.toArray n } = { cls := .type "list", data := .seq its'.toArray n' }) (r : Vals ys its') (hz : ys.length ≤ sizeLine) (t : Nat) :
    Inv X pins σ (upd H p (.lst ys)) { s with heap := s.heap.update p f, toks := t } := by
  have e : (s.heap.update p f).get? p = some { cls := .type "list", data := .seq its'.toArray n' } := by
    rw [Heap.get?_update_self f ho (by rw [hf] <;> rfl), hf]
  refine I.write (x := p) (e := p) (by rw [h]; trivial) (.inl rfl) (fun b u hb q => (Heap.get?_update_other _ _ (Ne.symm hb)).trans q) ⟨_, e⟩ ?_
  exact ⟨hz, its', n', r, e⟩
def rSetL : V → V → V → Hp → (Hp → Prop) → Prop := fun o i v H Q => ∃ p xs k j, o = .ref p ∧ i = .int k ∧ H p = some (.lst xs) ∧ ixN xs.length k = some j ∧ Q (upd H p (.lst (xs.set j v)))
theorem set_list : PSet X rSetL := by
  intro pins s σ H o i v ov iv u Q I ro ri rv h
  obtain ⟨p, xs, k, j, rfl, rfl, hp, hj, q⟩ := h
  cases ro
  obtain ⟨t, rfl⟩ := ri
  obtain ⟨its, n, r, ho, hz⟩ := I.lst hp
  obtain ⟨h1, h2, h3, h4⟩ := ixN_seq hj
  have hl := r.length
  have hn := line63
  have I' : Inv X pins σ (upd H p (.lst (xs.set j v))) { s with heap := s.heap.update p (Obj.mapSeq (·.setIfInBounds j u)) } :=
    I.lstUpd hp ho (mapSeq_set its n j u) (r.set rv j) (by rw [List.length_set]; exact hz) s.toks
  by_cases h0 : 0 ≤ k
  · have hk : k.toNat = j := by
      rw [seqIndex_of h0 h4] at h1
      exact Option.some.inj h1
    exact PySem.W.ki_setAt ho h0 (by omega) (by rw [List.size_toArray, ← hl]; exact h4) (by rw [hk]; exact ⟨_, I', q⟩)
  · have hk : (k + (its.toArray.size : Int)).toNat = j := by
      rw [seqIndex_neg (by omega) h3] at h1
      rw [List.size_toArray, ← hl]
      exact Option.some.inj h1
    exact PySem.W.ki_setBack ho (by omega) (by rw [List.size_toArray, ← hl]; exact h3) (by omega) (by rw [hk]; exact ⟨_, I', q⟩)

/-! ### slices -/
theorem slice_bounds (lo hi : Option Int) (n : Nat) : (sliceBounds lo hi none n).1 = ((HT.sIx n 0 lo : Nat) : Int) ∧ (sliceBounds lo hi none n).2.1 = ((HT.sIx n n hi : Nat) : Int) ∧ (sliceBounds lo hi none n).2.2 = 1 := by
  refine ⟨?_, ?_, rfl⟩
  · cases lo with
    | none => simp [sliceBounds, HT.sIx]
    | some i =>
      simp only [sliceBounds, HT.sIx, Option.getD_none, show (1 : Int) > 0 by decide, if_true]
      by_cases h : i < 0
      · simp only [h, if_true] <;> omega
      · simp only [h, if_false] <;> omega
  · cases hi with
    | none => simp [sliceBounds, HT.sIx]
    | some i =>
      simp only [sliceBounds, HT.sIx, Option.getD_none, show (1 : Int) > 0 by decide, if_true]
      by_cases h : i < 0
      · simp only [h, if_true] <;> omega
      · simp only [h, if_false] <;> omega
theorem slicePick_cut (its : List Value) (lo hi : Option Int) : slicePick its.toArray lo hi none = ((its.drop (HT.sIx its.length 0 lo)).take (HT.sIx its.length its.length hi - HT.sIx its.length 0 lo)).toArray := by
  obtain ⟨h1, h2, h3⟩ := slice_bounds lo hi its.toArray.size
  unfold slicePick
  rw [h1, h2, h3]
  simp only [sliceRange_one, pick_run, List.size_toArray] <;> rfl
/-- xs[lo:hi] of a list: a new list -/
def rSlL (K : PySem.W.Frag) : V → Option Int → Option Int → Hp → VK → Prop := fun x lo hi H Q => ∃ a xs, x = .ref a ∧ SqL K H a xs ∧ ∀ p, H p = none → Q (.ref p) (upd H p (.lst (cutV xs lo hi)))
theorem sl_list : SlR X (rSlL X.K) := by
  intro pins s σ H x v vl vu lo hi sl Q I rx hs pl pu h
  obtain ⟨a, xs, rfl, hx, q⟩ := h
  cases rx
  obtain ⟨its, r, ht, hz⟩ := I.list hx
  have hlen := r.length
  refine ⟨"list", _, slot_list_getitem.lookup, ht.isList.typeIs, ?_⟩
  refine wpAny_getItem_list_slice ht.isList hs pl pu .none (by simp) ?_ (by rw [List.size_toArray] <;> omega)
  rw [slicePick_cut, ← hlen]
  refine ⟨.ref s.heap.objs.size, _, I.laid (t' := s.toks) (o := .lst (cutV xs lo hi)) (fun b ob q => Heap.get?_push_of_some _ q) (Nat.le_refl _) ?_, rfl, q _ (I.hok.fresh (Nat.le_refl _))⟩
  exact ⟨Nat.le_trans (cutV_length xs lo hi) hz, _, 0, (r.drop (HT.sIx xs.length 0 lo)).take (HT.sIx xs.length xs.length hi - HT.sIx xs.length 0 lo), Heap.get?_push_size _ rfl⟩

/-! ### in, not in: flat items -/
def flatV : V → Bool
  | .non => true
  | .bl _ => true
  | .int _ => true
  | .str _ => true
  | _ => false
/-- == of flat values -/
def eqV : V → V → Bool
  | .non, .non => true
  | .bl a, .bl b => a == b
  | .bl a, .int b => (if a then 1 else 0) == b
  | .int a, .bl b => a == (if b then 1 else 0)
  | .int a, .int b => a == b
  | .str a, .str b => a == b
  | _, _ => false
theorem eqAt_V {A : Around} {s : Shared} {y x : V} {u v : Value} (ry : RelV y u) (rx : RelV x v) (fy : flatV y = true) (fx : flatV x = true) : SeqAt.EqAt A s u v (eqV y x) := by
  cases y with
  | non =>
    cases ry
    cases x with
    | non => cases rx; exact SeqAt.EqAt.same _
    | bl b => cases rx; exact SeqAt.EqAt.none_bool b
    | int b => obtain ⟨t, rfl⟩ := rx; exact SeqAt.EqAt.none_int b t
    | str b => obtain ⟨t, rfl⟩ := rx; exact SeqAt.EqAt.none_str b t
    | _ => exact absurd (show false = true from fx) Bool.false_ne_true
  | bl a =>
    cases ry
    cases x with
    | non => cases rx; exact SeqAt.EqAt.bool_none a
    | bl b => cases rx; exact SeqAt.EqAt.bool_bool a b
    | int b => obtain ⟨t, rfl⟩ := rx; exact SeqAt.EqAt.bool_int a b t
    | str b => obtain ⟨t, rfl⟩ := rx; exact SeqAt.EqAt.bool_str a b t
    | _ => exact absurd (show false = true from fx) Bool.false_ne_true
  | int a =>
    obtain ⟨t', rfl⟩ := ry
    cases x with
    | non => cases rx; exact SeqAt.EqAt.int_none a t'
    | bl b => cases rx; exact SeqAt.EqAt.int_bool a t' b
    | int b => obtain ⟨t, rfl⟩ := rx; exact SeqAt.EqAt.int_int a t' b t
    | str b => obtain ⟨t, rfl⟩ := rx; exact SeqAt.EqAt.int_str a t' b t
    | _ => exact absurd (show false = true from fx) Bool.false_ne_true
  | str a =>
    obtain ⟨t', rfl⟩ := ry
    cases x with
    | non => cases rx; exact SeqAt.EqAt.str_none a t'
    | bl b => cases rx; exact SeqAt.EqAt.str_bool a t' b
    | int b => obtain ⟨t, rfl⟩ := rx; exact SeqAt.EqAt.str_int a t' b t
    | str b => obtain ⟨t, rfl⟩ := rx; exact SeqAt.EqAt.str_str a t' b t
    | _ => exact absurd (show false = true from fx) Bool.false_ne_true
  | _ => exact absurd (show false = true from fy) Bool.false_ne_true
/-- the items' answers, read off the values (a value's own answer does not lean on its token) -/
def eqU (x : V) (u : Value) : Bool := match u with
  | .none => eqV .non x
  | .bool b => eqV (.bl b) x
  | .int i _ => eqV (.int i) x
  | .str z _ => eqV (.str z) x
  | _ => false
theorem eqU_of {x y : V} {u : Value} (r : RelV y u) (f : flatV y = true) : eqU x u = eqV y x := by
  cases y with
  | non => cases r; rfl
  | bl b => cases r; rfl
  | int i => obtain ⟨t, rfl⟩ := r; rfl
  | str z => obtain ⟨t, rfl⟩ := r; rfl
  | _ => exact absurd (show false = true from f) Bool.false_ne_true
theorem any_eqU {x : V} : ∀ {xs : List V} {us : List Value}, Vals xs us → xs.all flatV = true → us.any (eqU x) = xs.any fun y => eqV y x
  | _, _, .nil, _ => rfl
  | y :: xs, u :: us, .cons r t, f => by
    rw [List.all_cons, Bool.and_eq_true] at f
    rw [List.any_cons, List.any_cons, eqU_of r f.1, any_eqU t f.2]
theorem mem_eqAt {A : Around} {s : Shared} {x : V} {v : Value} (rx : RelV x v) (fx : flatV x = true) : ∀ {xs : List V} {us : List Value}, Vals xs us → xs.all flatV = true → ∀ u ∈ us, SeqAt.EqAt A s u v (eqU x u)
  | _, _, .nil, _ => fun u hu => by cases hu
  | y :: xs, u :: us, .cons r t, f => fun u' hu => by
    rw [List.all_cons, Bool.and_eq_true] at f
    rcases List.mem_cons.mp hu with rfl | hu
    · rw [eqU_of r f.1]; exact eqAt_V r rx f.1 fx
    · exact mem_eqAt rx fx t f.2 u' hu
def inV (x : V) (xs : List V) : Bool := xs.any fun y => eqV y x
/-- x in a list or tuple of flat items -/
def rIn (K : PySem.W.Frag) (neg : Bool) : R2 := fun x y H Q => ∃ p xs, y = .ref p ∧ (SqL K H p xs ∨ SqT K H p xs) ∧ flatV x = true ∧ xs.all flatV = true ∧ Q (.bl (if neg then !inV x xs else inV x xs)) H
theorem op_in_seq : OpR X (compareOp .In) (rIn X.K false) := by
  intro pins s σ H x y v u Q I rx ry h
  obtain ⟨p, xs, rfl, hq, fx, fs, q⟩ := h
  cases ry
  rcases hq with hq | hq
  · obtain ⟨its, r, pl, hz⟩ := I.list hq
    refine SeqAt.in_listAt (eqU x) pl.isList (fun w hw => mem_eqAt rx fx r fs w (by simpa using hw)) ⟨.bl _, H, I, rfl, ?_⟩
    rw [show its.toArray.any (eqU x) = its.any (eqU x) by simp, any_eqU r fs]
    exact q
  · obtain ⟨its, r, pl, hz⟩ := I.tuple hq
    refine SeqAt.in_tupleAt (eqU x) pl (fun w hw => mem_eqAt rx fx r fs w (by simpa using hw)) ⟨.bl _, H, I, rfl, ?_⟩
    rw [show its.toArray.any (eqU x) = its.any (eqU x) by simp, any_eqU r fs]
    exact q
theorem op_notIn_seq : OpR X (compareOp .NotIn) (rIn X.K true) := by
  intro pins s σ H x y v u Q I rx ry h
  obtain ⟨p, xs, rfl, hq, fx, fs, q⟩ := h
  cases ry
  rcases hq with hq | hq
  · obtain ⟨its, r, pl, hz⟩ := I.list hq
    refine SeqAt.notIn_listAt (eqU x) pl.isList (fun w hw => mem_eqAt rx fx r fs w (by simpa using hw)) ⟨.bl _, H, I, rfl, ?_⟩
    rw [show its.toArray.any (eqU x) = its.any (eqU x) by simp, any_eqU r fs]
    exact q
  · obtain ⟨its, r, pl, hz⟩ := I.tuple hq
    refine SeqAt.notIn_tupleAt (eqU x) pl (fun w hw => mem_eqAt rx fx r fs w (by simpa using hw)) ⟨.bl _, H, I, rfl, ?_⟩
    rw [show its.toArray.any (eqU x) = its.any (eqU x) by simp, any_eqU r fs]
    exact q
theorem op_notIn_str : OpR X (compareOp .NotIn) (fun x y H Q => ∃ i j, x = .str i ∧ y = .str j ∧ Q (.bl (!(!(Builtin.Str.occurrences j i 0 j.length 1).isEmpty))) H) := by
  intro pins s σ H x y v u Q I rx ry h
  obtain ⟨i, j, rfl, rfl, q⟩ := h
  obtain ⟨t, rfl⟩ := rx
  obtain ⟨t', rfl⟩ := ry
  exact notIn_str ⟨.bl _, H, I, rfl, q⟩

/-! ### len, list(x), tuple(x) of any list or tuple that is read -/
theorem call_len_seq : CallR X (.builtin "len") (fun xs H Q => ∃ p ys, xs = [.ref p] ∧ (SqL X.K H p ys ∨ SqT X.K H p ys) ∧ Q (.int ys.length) H) := by
  intro pins s σ H xs us Q I r h
  obtain ⟨p, ys, rfl, hq, q⟩ := h
  obtain ⟨u, rfl, rx⟩ := vals1 r
  cases rx
  have hn := line63
  rcases hq with hq | hq
  · obtain ⟨its, r', pl, hz⟩ := I.list hq
    have hlen := r'.length
    exact Calls.call_len_list pl.isList (by simp only [List.size_toArray] <;> omega) ⟨.int ys.length, H, I.tok _, ⟨s.toks + 1, by rw [List.size_toArray, hlen]⟩, q⟩
  · obtain ⟨its, r', pl, hz⟩ := I.tuple hq
    have hlen := r'.length
    exact len_tuple pl (by simp only [List.size_toArray] <;> omega) ⟨.int ys.length, H, I.tok _, ⟨s.toks + 1, by rw [List.size_toArray, hlen]⟩, q⟩
theorem call_len_str : CallR X (.builtin "len") (fun xs H Q => ∃ z, xs = [.str z] ∧ z.length ≤ sizeLine ∧ Q (.int z.length) H) := by
  intro pins s σ H xs us Q I r h
  obtain ⟨z, rfl, hz, q⟩ := h
  obtain ⟨u, rfl, t, rfl⟩ := vals1 r
  have hn := line63
  exact len_str (by omega) ⟨.int z.length, H, I.tok _, ⟨_, rfl⟩, q⟩
theorem CallR.or {f : Value} {r r' : List V → Hp → VK → Prop} (h : CallR X f r) (h' : CallR X f r') : CallR X f (fun xs H Q => r xs H Q ∨ r' xs H Q) := by
  intro pins s σ H xs us Q I rs q
  rcases q with q | q
  · exact h pins s σ H xs us Q I rs q
  · exact h' pins s σ H xs us Q I rs q
theorem call_list_of : CallR X (.type "list") (fun xs H Q => ∃ p ys, xs = [.ref p] ∧ (SqL X.K H p ys ∨ SqT X.K H p ys) ∧ ∀ l, H l = none → Q (.ref l) (upd H l (.lst ys))) := by
  intro pins s σ H xs us Q I r h
  obtain ⟨p, ys, rfl, hq, q⟩ := h
  obtain ⟨u, rfl, rx⟩ := vals1 r
  cases rx
  have fin : ∀ (its : List Value), Vals ys its → ys.length ≤ sizeLine → ∀ (h' : Heap) (c' : Nat), (∀ b o', s.heap.get? b = some o' → h'.get? b = some o') →
      h'.get? s.heap.objs.size = some { cls := .type "list", dict := none, data := .seq its.toArray c', slots := #[] } → EP X pins σ Q (.ref s.heap.objs.size) { s with heap := h' } := fun its r' hz h' c' kp e =>
    ⟨.ref s.heap.objs.size, _, I.laid (t' := s.toks) kp (Nat.le_refl _) (show ObjOk X.prog X.w _ h' _ (.lst ys) from ⟨hz, its, c', r', e⟩), rfl, q _ (I.hok.fresh (Nat.le_refl _))⟩
  rcases hq with hq | hq
  · obtain ⟨its, r', pl, hz⟩ := I.list hq
    have hlen := r'.length
    obtain ⟨o, ho, hc, n, hd⟩ := pl.isList
    exact call_list_seq p (.inl rfl) ho hc hd (fun h' c' kp e => fin its r' hz h' c' kp e) (by simp only [List.size_toArray] <;> omega)
  · obtain ⟨its, r', pl, hz⟩ := I.tuple hq
    have hlen := r'.length
    obtain ⟨o, ho, hc, n, hd⟩ := pl
    exact call_list_seq p (.inr rfl) ho hc hd (fun h' c' kp e => fin its r' hz h' c' kp e) (by simp only [List.size_toArray] <;> omega)
theorem call_tuple_of : CallR X (.type "tuple") (fun xs H Q => ∃ p ys, xs = [.ref p] ∧ ((SqL X.K H p ys ∧ ∀ l, H l = none → Q (.ref l) (upd H l (.tup ys))) ∨ (SqT X.K H p ys ∧ Q (.ref p) H))) := by
  intro pins s σ H xs us Q I r h
  obtain ⟨p, ys, rfl, h⟩ := h
  obtain ⟨u, rfl, rx⟩ := vals1 r
  cases rx
  rcases h with ⟨hq, q⟩ | ⟨hq, q⟩
  · obtain ⟨its, r', pl, hz⟩ := I.list hq
    have hlen := r'.length
    refine call_tuple_list pl.isList (fun h' kp => ?_) (by simp only [List.size_toArray] <;> omega)
    have I1 : Inv X pins σ H { s with heap := h' } := I.kept (t' := s.toks) kp
    have I2 : Inv X pins σ (upd H h'.objs.size (.tup ys)) { s with heap := h'.push { cls := .type "tuple", data := .seq its.toArray } } :=
      I1.laid (t' := s.toks) (fun b o e => Heap.get?_push_of_some _ e) (Nat.le_refl _) (show ObjOk X.prog X.w _ _ _ (.tup ys) from ⟨hz, its, r', IsTup.new _ _⟩)
    exact ⟨.ref h'.objs.size, _, I2, rfl, q _ (I1.hok.fresh (Nat.le_refl _))⟩
  · obtain ⟨its, r', pl, hz⟩ := I.tuple hq
    exact call_tuple_same pl ⟨.ref p, H, I, rfl, q⟩

/-! ### the call of a builtin's method: o.m(..) -/
/-- the value is of that builtin type -/
def tyV (K : PySem.W.Frag) (T : String) (x : V) (H : Hp) : Prop := match x with
  | .str _ => T = "str"
  | .int _ => T = "int"
  | .ref p => (T = "list" ∧ ∃ xs, SqL K H p xs) ∨ (T = "tuple" ∧ ∃ o, K.lookup p = some o ∧ o.cls = .type "tuple" ∧ o.dict = none) ∨
      (T = "dict" ∧ ((∃ kvs, H p = some (.dK kvs)) ∨ ∃ kvs, H p = some (.dT kvs))) ∨ (T = "set" ∧ ∃ S n, H p = some (.set S n))
  | _ => False
theorem tyV_is {pins : List (Addr × Obj)} {σ : St} {H : Hp} {s : Shared} {T : String} {x : V} {v : Value} (I : Inv X pins σ H s) (r : RelV x v) (ty : tyV X.K T x H) :
    s.TypeIs v T ∧ ∀ a, v = .ref a → ∃ ob, s.heap.get? a = some ob ∧ ob.dict = none := by
  cases x with
  | str z =>
    obtain ⟨t, rfl⟩ := r
    cases (show T = "str" from ty)
    exact ⟨typeIs_str s z t, fun _ e => nomatch e⟩
  | int i =>
    obtain ⟨t, rfl⟩ := r
    cases (show T = "int" from ty)
    exact ⟨typeIs_int s i t, fun _ e => nomatch e⟩
  | ref p =>
    cases r
    rcases ty with ⟨rfl, xs, hq⟩ | ⟨rfl, o, hk, hc, hd⟩ | ⟨rfl, hk⟩ | ⟨rfl, S, n, hk⟩
    · obtain ⟨its, _, pl, _⟩ := I.list hq
      refine ⟨pl.isList.typeIs, fun a e => ?_⟩
      cases e
      obtain ⟨o, n, e, c, hd, _⟩ := pl
      exact ⟨o, e, hd⟩
    · refine ⟨⟨o, I.kIn p o hk, hc⟩, fun a e => ?_⟩
      cases e
      exact ⟨o, I.kIn _ o hk, hd⟩
    · have z : ∃ o, s.heap.get? p = some o ∧ o.ExactDict := by
        rcases hk with ⟨kvs, hk⟩ | ⟨kvs, hk⟩
        · obtain ⟨_, _, _, _, o, _, _, e, ex, _⟩ := I.hok p _ hk
          exact ⟨o, e, ex⟩
        · obtain ⟨_, _, _, _, o, _, _, e, ex, _⟩ := I.hok p _ hk
          exact ⟨o, e, ex⟩
      obtain ⟨o, e, ex⟩ := z
      refine ⟨⟨o, e, ex.1⟩, fun a e2 => ?_⟩
      cases e2
      exact ⟨o, e, ex.2.1⟩
    · obtain ⟨o, _, _, _, e, ex, _⟩ := I.hok p _ hk
      refine ⟨⟨o, e, ex.1⟩, fun a e2 => ?_⟩
      cases e2
      exact ⟨o, e, ex.2.1⟩
  | _ => exact False.elim ty
def tBM0 (K : PySem.W.Frag) (T : String) (r : V → List V → Hp → VK → Prop) (to : TE) : TE := fun σ H Q => to σ H fun x H1 => tyV K T x H1 ∧ r x [] H1 Q
def tBM (K : PySem.W.Frag) (T : String) (r : V → List V → Hp → VK → Prop) (to : TE) (t : TA) : TE := fun σ H Q => to σ H fun x H1 => tyV K T x H1 ∧ t σ H1 fun xs H2 => r x xs H2 Q
variable {o e : Expr} {es : List Expr} {to : TE} {t : TA} {name : Str} {apos cpos : Pos} {T id : String} {r : V → List V → Hp → VK → Prop}
theorem pe_bm0 (pa : PlainAttrs T) (slot : Slot T name id) (hty : typeOf (.builtin id) = pure (.type "method_descriptor")) (hm : MtR X id r) (ho : PE X o to)
    (hbase : attributeBase o name X.env (eval o X.env) = eval o X.env := by rfl) (hline : (apos.endLine == cpos.line) = true := by rfl) : PE X (.Call (.Attribute o name apos) [] [] cpos) (tBM0 X.K T r to) := by
  intro pins s σ H Q I h
  refine wpAny_Call_method0_late hbase hline (thn (ho pins s σ H _ I h) fun v s1 ⟨x, H1, I1, r1, ty, q1⟩ => ?_)
  obtain ⟨h1, h2⟩ := tyV_is I1 r1 ty
  exact ⟨T, id, pa, slot, hty, h1, h2, Calls.callWith_builtin rfl (PySem.evalArgs_none (hm pins s1 σ H1 x [] v [] Q I1 r1 .nil q1))⟩
theorem pe_bm (pa : PlainAttrs T) (slot : Slot T name id) (hty : typeOf (.builtin id) = pure (.type "method_descriptor")) (hm : MtR X id r) (ho : PE X o to) (ha : PA X (e :: es) t)
    (hbase : attributeBase o name X.env (eval o X.env) = eval o X.env := by rfl)
    (hfew : ((backTo cpos (starEach (e :: es) X.env)).all (fun x => !x.1) && (backToKw cpos (keywordEach [] X.env)).all (fun x => x.1.isSome)
      && decide ((e :: es).length + ([] : List Keyword).length + (if ([] : List Keyword).isEmpty then 0 else 1) < 30)) = true := by rfl)
    (hline : (apos.endLine == cpos.line) = true := by rfl) (hs : starEach (e :: es) X.env = (false, eval e X.env) :: starEach es X.env := by rfl) (hplain : (backTo cpos (starEach es X.env)).any (·.1) = false := by rfl) :
    PE X (.Call (.Attribute o name apos) (e :: es) [] cpos) (tBM X.K T r to t) := by
  intro pins s σ H Q I h
  refine wpAny_Call_method_late hbase hfew hline rfl (thn (ho pins s σ H _ I h) fun v s1 ⟨x, H1, I1, r1, ty, q1⟩ => ?_)
  obtain ⟨h1, h2⟩ := tyV_is I1 r1 ty
  refine ⟨T, id, pa, slot, hty, h1, h2, ?_⟩
  have hA := ha cpos pins s1 σ H1 _ I1 q1
  rw [hs] at hA ⊢
  refine Calls.callWith_builtin (by show (false || (backTo cpos (starEach es X.env)).any (·.1)) = false; rw [hplain] <;> rfl) (Calls.evalArgs_plain ?_)
  exact thn hA fun us s2 ⟨vs, H2, I2, r2, q2⟩ => hm pins s2 σ H2 x vs v us Q I2 r1 r2 q2
/- xs.append(e), list.index on a module's tuple .. are MtR facts of 06m -/
end
end L2

namespace L2
open PySem PySem.Spec PyProof.Rows

def MtM (X : Cx) (id : String) (r : V → List V → Hp → VK → Prop) : Prop :=
  ∀ (pins : List (Addr × Obj)) (s : Shared) (σ : St) (H : Hp) (x : V) (xs : List V) (v : Value) (us : List Value) (Q : VK), Inv X pins σ H s → RelV x v → Vals xs us → r x xs H Q →
    wpAny (model X.prog X.w) X.A (call (.builtin id) (v :: us)) (EP X pins σ Q) X.xe s

/-! ### lists of values -/
theorem Vals.one : ∀ {x : V} {us : List Value}, Vals [x] us → ∃ u, us = [u] ∧ RelV x u
  | _, _, .cons r .nil => ⟨_, rfl, r⟩
theorem Vals.two : ∀ {x y : V} {us : List Value}, Vals [x, y] us → ∃ u v, us = [u, v] ∧ RelV x u ∧ RelV y v
  | _, _, _, .cons r (.cons q .nil) => ⟨_, _, rfl, r, q⟩
theorem Vals.zero : ∀ {us : List Value}, Vals [] us → us = []
  | _, .nil => rfl
theorem Vals.dropLast {xs : List V} {us : List Value} (h : Vals xs us) : Vals xs.dropLast us.dropLast := by
  induction h with
  | nil => exact .nil
  | cons r t ih =>
    cases t with
    | nil => exact .nil
    | cons q t' => exact .cons r ih
theorem Vals.eraseIdx : ∀ {xs : List V} {us : List Value} (i : Nat), Vals xs us → Vals (xs.eraseIdx i) (us.eraseIdx i)
  | _, _, _, .nil => .nil
  | _, _, 0, .cons _ t => t
  | _, _, i + 1, .cons r t => .cons r (Vals.eraseIdx i t)
theorem Vals.reverse {xs : List V} {us : List Value} (h : Vals xs us) : Vals xs.reverse us.reverse := by
  induction h with
  | nil => exact .nil
  | cons r t ih => rw [List.reverse_cons, List.reverse_cons]; exact Vals.append ih (.cons r .nil)
theorem Vals.rep {xs : List V} {us : List Value} (h : Vals xs us) : ∀ k : Nat, Vals (List.replicate k xs).flatten (List.replicate k us).flatten
  | 0 => .nil
  | k + 1 => by
    rw [List.replicate_succ, List.replicate_succ, List.flatten_cons, List.flatten_cons]
    exact Vals.append h (Vals.rep h k)
theorem erase_last {α : Type} (l : List α) : l.eraseIdx (l.length - 1) = l.dropLast := by
  induction l with
  | nil => rfl
  | cons a r ih =>
    cases r with
    | nil => rfl
    | cons b r =>
      have e : (a :: b :: r).length - 1 = ((b :: r).length - 1) + 1 := by
        have h1 : (a :: b :: r).length = r.length + 2 := rfl
        have h2 : (b :: r).length = r.length + 1 := rfl
        omega
      rw [e, List.eraseIdx_cons_succ, ih]
      all_goals rfl
theorem len_erase {α : Type} : ∀ (l : List α) (i : Nat), (l.eraseIdx i).length ≤ l.length
  | [], _ => Nat.le_refl _
  | _ :: _, 0 => Nat.le_succ _
  | _ :: r, i + 1 => Nat.succ_le_succ (len_erase r i)
theorem foldl_rep (its : List Value) : ∀ (k : Nat) (acc : List Value),
    List.foldl (fun x1 x2 => x1 ++ x2) acc.toArray (List.replicate k its.toArray) = (acc ++ (List.replicate k its).flatten).toArray
  | 0, acc => by simp
  | k + 1, acc => by
    have e : acc.toArray ++ its.toArray = (acc ++ its).toArray := by simp
    have e2 : (acc ++ its) ++ (List.replicate k its).flatten = acc ++ (List.replicate (k + 1) its).flatten := by
      rw [List.replicate_succ, List.flatten_cons, List.append_assoc]
    rw [← e2, ← foldl_rep its k (acc ++ its), ← e, List.replicate_succ, List.foldl_cons]

section
variable {X : Cx} {pins : List (Addr × Obj)} {σ : St} {H : Hp} {s : Shared} {l b : Addr} {xs ys zs : List V}

/-! ### the two steps: a tracked list is rewritten, a new list is laid -/
theorem Inv.lset {its its' : List Value} {n : Nat} {f : Array Value → Array Value} {t' : Nat} (I : Inv X pins σ H s) (hH : H l = some (.lst xs))
    (e : s.heap.get? l = some { cls := .type "list", data := .seq its.toArray n }) (hf : f its.toArray = its'.toArray) (hv : Vals ys its') (hz : ys.length ≤ sizeLine) :
    Inv X pins σ (upd H l (.lst ys)) { s with heap := s.heap.update l (Obj.mapSeq f), toks := t' } := by
  have q := PySem.IsL.update e f
  rw [hf] at q
  refine I.write (x := l) (e := l) (by rw [hH]; exact trivial) (.inl rfl) (fun b' u hb hu => (Heap.get?_update_other s.heap (Obj.mapSeq f) (Ne.symm hb)).trans hu) ⟨_, q⟩ ?_
  exact ⟨hz, its', _, hv, q⟩
theorem Inv.lnew {its : List Value} {t' : Nat} (I : Inv X pins σ H s) (hv : Vals ys its) (hz : ys.length ≤ sizeLine) :
    Inv X pins σ (upd H s.heap.objs.size (.lst ys)) { s with heap := s.heap.push { cls := .type "list", data := .seq its.toArray }, toks := t' } :=
  I.laid (fun _ _ q => Heap.get?_push_of_some _ q) (Nat.le_refl _) ⟨hz, its, 0, hv, Heap.get?_push_size _ rfl⟩
theorem Inv.fresh (I : Inv X pins σ H s) : H s.heap.objs.size = none := I.hok.fresh (Nat.le_refl _)
theorem Inv.lstM (I : Inv X pins σ H s) (hH : H l = some (.lst xs)) : xs.length ≤ sizeLine ∧ ∃ (its : List Value) (n : Nat), Vals xs its ∧ xs.length = its.length ∧ s.heap.get? l = some { cls := .type "list", data := .seq its.toArray n } := by
  obtain ⟨z, its, n, r, e⟩ := I.hok l _ hH
  exact ⟨z, its, n, r, r.length, e⟩

theorem notLongL {n : Nat} (h : n ≤ sizeLine) : Builtin.List.listTooLong n = false := by
  unfold Builtin.List.listTooLong
  exact decide_eq_false (by omega)
end

section
variable {X : Cx}

/-! ### methods -/
def rAppend : V → List V → Hp → VK → Prop := fun x vs H Q => ∃ l xs y, x = .ref l ∧ vs = [y] ∧ H l = some (.lst xs) ∧ xs.length < sizeLine ∧ Q .non (upd H l (.lst (xs ++ [y])))
theorem mt_append : MtM X "list.append" rAppend := by
  intro pins s σ H x vs v us Q I rx rv h
  obtain ⟨l, xs, y, rfl, rfl, hH, hz, q⟩ := h
  cases rx
  obtain ⟨u, rfl, ru⟩ := rv.one
  obtain ⟨z, its, n, r, hl, e⟩ := I.lstM hH
  refine call_meets F.slot_list_append ⟨_, e, rfl⟩ F.entry_list_append (F.args_list_append_2 _ _) (PySem.list_append l its.toArray n u (by rw [List.size_toArray]; omega)) ⟨e, ?_⟩
  refine ⟨.non, _, I.lset (its' := its ++ [u]) hH e (by simp) (r.append (.cons ru .nil)) ?_, rfl, q⟩
  rw [List.length_append, List.length_singleton]
  omega

def rExtend : V → List V → Hp → VK → Prop := fun x vs H Q => ∃ l b xs zs, x = .ref l ∧ vs = [.ref b] ∧ H l = some (.lst xs) ∧ H b = some (.lst zs) ∧ xs.length + zs.length ≤ sizeLine ∧ Q .non (upd H l (.lst (xs ++ zs)))
theorem mt_extend : MtM X "list.extend" rExtend := by
  intro pins s σ H x vs v us Q I rx rv h
  obtain ⟨l, b, xs, zs, rfl, rfl, hH, hB, hz, q⟩ := h
  cases rx
  obtain ⟨u, rfl, ru⟩ := rv.one
  cases ru
  obtain ⟨z, its, n, r, hl, e⟩ := I.lstM hH
  obtain ⟨z2, its2, n2, r2, hl2, e2⟩ := I.lstM hB
  have hsz : its.toArray.size + its2.toArray.size ≤ sizeLine := by rw [List.size_toArray, List.size_toArray]; omega
  have hlong : ¬ (!its.toArray.isEmpty && Builtin.List.listTooLong (its.toArray.size + its2.toArray.size)) = true := by
    rw [notLongL hsz, Bool.and_false]
    exact Bool.false_ne_true
  refine call_meets F.slot_list_extend ⟨_, e, rfl⟩ F.entry_list_extend (F.args_list_extend_2 _ _)
    (AutoSeq1.list_extend_list_list_0 l its.toArray n b its2.toArray n2 hlong (by rw [List.size_toArray]; omega) (by omega)) ⟨e, e2, ?_⟩
  refine ⟨.non, _, I.lset (its' := its ++ its2) hH e (by simp) (r.append r2) ?_, rfl, q⟩
  rw [List.length_append]
  omega

def rPop : V → List V → Hp → VK → Prop := fun x vs H Q => ∃ l xs y, x = .ref l ∧ vs = [] ∧ H l = some (.lst xs) ∧ xs[xs.length - 1]? = some y ∧ Q y (upd H l (.lst xs.dropLast))
theorem mt_pop : MtM X "list.pop" rPop := by
  intro pins s σ H x vs v us Q I rx rv h
  obtain ⟨l, xs, y, rfl, rfl, hH, hy, q⟩ := h
  cases rx
  have hus := rv.zero
  subst hus
  obtain ⟨z, its, n, r, hl, e⟩ := I.lstM hH
  obtain ⟨u, hu, ru⟩ := r.get hy
  have hy' : its.toArray[its.toArray.size - 1]? = some u := by
    show its.toArray[its.length - 1]? = some u
    rw [← Array.getElem?_toList, ← hl]
    exact hu
  refine call_meets F.slot_list_pop ⟨_, e, rfl⟩ F.entry_list_pop (F.args_list_pop_1 _) (MeetsSeq.list_pop_last l its.toArray n u hy' (by rw [List.size_toArray]; omega)) ⟨e, ?_⟩
  refine ⟨y, _, I.lset (its' := its.dropLast) hH e ?_ r.dropLast ?_, ru, q⟩
  · show its.toArray.eraseIdxIfInBounds (its.toArray.size - 1) = its.dropLast.toArray
    rw [List.size_toArray, List.eraseIdxIfInBounds_toArray, erase_last]
  · rw [List.length_dropLast]
    omega

def rPopAt : V → List V → Hp → VK → Prop := fun x vs H Q => ∃ l xs i k y, x = .ref l ∧ vs = [.int i] ∧ H l = some (.lst xs) ∧ -(2 ^ 63) ≤ i ∧ i < 2 ^ 63 ∧ seqIndex? i xs.length = some k ∧ xs[k]? = some y ∧ Q y (upd H l (.lst (xs.eraseIdx k)))
theorem mt_popAt : MtM X "list.pop" rPopAt := by
  intro pins s σ H x vs v us Q I rx rv h
  obtain ⟨l, xs, i, k, y, rfl, rfl, hH, h1, h2, hk, hy, q⟩ := h
  cases rx
  obtain ⟨u, rfl, ru⟩ := rv.one
  obtain ⟨t, rfl⟩ := ru
  obtain ⟨z, its, n, r, hl, e⟩ := I.lstM hH
  obtain ⟨w, hw, rw'⟩ := r.get hy
  refine call_meets F.slot_list_pop ⟨_, e, rfl⟩ F.entry_list_pop (F.args_list_pop_2 _ _)
    (MeetsSeq.list_pop_at l its.toArray n i t k w (fitsIndex_both h1 h2) (by rw [List.size_toArray, ← hl]; exact hk) (by rw [← Array.getElem?_toList]; exact hw) (by rw [List.size_toArray]; omega)) ⟨e, ?_⟩
  refine ⟨y, _, I.lset (its' := its.eraseIdx k) hH e ?_ (r.eraseIdx k) ?_, rw', q⟩
  · show its.toArray.eraseIdxIfInBounds k = (its.eraseIdx k).toArray
    rw [List.eraseIdxIfInBounds_toArray]
  · have := len_erase xs k
    omega

def rReverse : V → List V → Hp → VK → Prop := fun x vs H Q => ∃ l xs, x = .ref l ∧ vs = [] ∧ H l = some (.lst xs) ∧ Q .non (upd H l (.lst xs.reverse))
theorem mt_reverse : MtM X "list.reverse" rReverse := by
  intro pins s σ H x vs v us Q I rx rv h
  obtain ⟨l, xs, rfl, rfl, hH, q⟩ := h
  cases rx
  have hus := rv.zero
  subst hus
  obtain ⟨z, its, n, r, hl, e⟩ := I.lstM hH
  refine call_meets F.slot_list_reverse ⟨_, e, rfl⟩ F.entry_list_reverse (F.args_list_reverse_1 _) (AutoSeq1.list_reverse_list_0 l its.toArray n (by rw [List.size_toArray]; omega)) ⟨e, ?_⟩
  refine ⟨.non, _, I.lset (its' := its.reverse) hH e (by simp) r.reverse ?_, rfl, q⟩
  rw [List.length_reverse]
  omega

def rClear : V → List V → Hp → VK → Prop := fun x vs H Q => ∃ l xs, x = .ref l ∧ vs = [] ∧ H l = some (.lst xs) ∧ Q .non (upd H l (.lst []))
theorem mt_clear : MtM X "list.clear" rClear := by
  intro pins s σ H x vs v us Q I rx rv h
  obtain ⟨l, xs, rfl, rfl, hH, q⟩ := h
  cases rx
  have hus := rv.zero
  subst hus
  obtain ⟨z, its, n, r, hl, e⟩ := I.lstM hH
  refine call_meets F.slot_list_clear ⟨_, e, rfl⟩ F.entry_list_clear (F.args_list_clear_1 _) (AutoSeq1.list_clear_list_0 l its.toArray n (by rw [List.size_toArray]; omega)) ⟨e, ?_⟩
  exact ⟨.non, _, I.lset (its' := []) (ys := []) hH e rfl .nil (Nat.zero_le _), rfl, q⟩

/-! ### list + list, list += list, list * int -/
def rCat : R2 := fun x y H Q => ∃ l b xs zs, x = .ref l ∧ y = .ref b ∧ H l = some (.lst xs) ∧ H b = some (.lst zs) ∧ xs.length + zs.length ≤ sizeLine ∧ ∀ p, H p = none → Q (.ref p) (upd H p (.lst (xs ++ zs)))
theorem op_cat : OpR X (binaryOp .Add) rCat := by
  intro pins s σ H x y v u Q I rx ry h
  obtain ⟨l, b, xs, zs, rfl, rfl, hH, hB, hz, q⟩ := h
  cases rx
  cases ry
  obtain ⟨z, its, n, r, hl, e⟩ := I.lstM hH
  obtain ⟨z2, its2, n2, r2, hl2, e2⟩ := I.lstM hB
  refine PySem.P.add_list e e2 ?_ (by rw [List.size_toArray, List.size_toArray]; omega)
  have ea : its.toArray ++ its2.toArray = (its ++ its2).toArray := by simp
  rw [ea]
  exact ⟨.ref _, _, I.lnew (t' := s.toks) (r.append r2) (by rw [List.length_append]; omega), rfl, q _ I.fresh⟩
/-- a list times an int (a negative one is nothing) -/
def rRep : R2 := fun x y H Q => ∃ l k xs, x = .ref l ∧ y = .int k ∧ H l = some (.lst xs) ∧ -(2 ^ 63) ≤ k ∧ k < 2 ^ 63 ∧ xs.length * k.toNat ≤ sizeLine ∧
  ∀ p, H p = none → Q (.ref p) (upd H p (.lst (List.replicate k.toNat xs).flatten))
theorem len_rep {α : Type} (xs : List α) (k : Nat) : (List.replicate k xs).flatten.length = k * xs.length := by
  induction k with
  | zero => simp
  | succ k ih => rw [List.replicate_succ, List.flatten_cons, List.length_append, ih, Nat.succ_mul, Nat.add_comm]
theorem op_rep : OpR X (binaryOp .Mult) rRep := by
  intro pins s σ H x y v u Q I rx ry h
  obtain ⟨l, k, xs, rfl, rfl, hH, h1, h2, hz, q⟩ := h
  cases rx
  obtain ⟨t, rfl⟩ := ry
  obtain ⟨z, its, n, r, hl, e⟩ := I.lstM hH
  have hlen : its.toArray.size * k.toNat ≤ sizeLine := by rw [List.size_toArray, ← hl]; exact hz
  have hcap : ¬ its.toArray.size * k.toNat > (2 ^ 63 - 1) / 8 := by
    have : (sizeLine : Nat) ≤ (2 ^ 63 - 1) / 8 := by decide
    omega
  have hfit : ¬ (!Builtin.List.listFitsIndex k) = true := by
    rw [fitsIndex_both h1 h2]
    exact Bool.false_ne_true
  have hlong : ¬ Builtin.List.listTooLong (its.toArray.size * k.toNat) = true := by
    rw [notLongL hlen]
    exact Bool.false_ne_true
  have hnew : List.foldl (fun x1 x2 => x1 ++ x2) #[] (List.replicate (if its.toArray.isEmpty = true then 0 else k.toNat) its.toArray) = (List.replicate k.toNat its).flatten.toArray := by
    have f0 : ∀ m : Nat, List.foldl (fun x1 x2 => x1 ++ x2) #[] (List.replicate m its.toArray) = (List.replicate m its).flatten.toArray := fun m => by
      have := foldl_rep its m []
      rw [List.nil_append] at this
      exact this
    rw [f0]
    cases its with
    | nil => simp
    | cons a r' => rw [if_neg (by simp)]
  refine wpAny_binaryOp_repeat_ref (T := "list") (U := "int") (by decide) ⟨_, e, rfl⟩ (fun s' => typeIs_int s' k t) noFill_list_mul F.fills_int_mul F.slot_int_rmul repeat_list F.slot_int_index.lookup
    (call_meets F.slot_int_rmul (typeIs_int s k t) F.entry_int_rmul (F.args_int_rmul_2 _ _) (int___rmul___int_list k t l its.toArray n)
      ⟨e, rfl, ⟨_, e, rfl⟩, call_meets F.slot_list_mul ⟨_, e, rfl⟩ F.entry_list_mul (F.args_list_mul_2 _ _) (AutoListH.list___mul___list_int_3 l its.toArray n k t hfit hcap hlong) ⟨e, ?_⟩⟩)
  rw [hnew]
  exact ⟨.ref _, _, I.lnew (t' := s.toks) (r.rep k.toNat) (by rw [len_rep, Nat.mul_comm]; exact hz), rfl, q _ I.fresh⟩

/-! ### del xs[i] -/
theorem del_list {pins : List (Addr × Obj)} {s : Shared} {σ : St} {H : Hp} {l : Addr} {xs : List V} {i : Int} {t : Tok} {k : Nat} {Q : Unit → Shared → Prop} (I : Inv X pins σ H s) (hH : H l = some (.lst xs))
    (h1 : -(2 ^ 63) ≤ i) (h2 : i < 2 ^ 63) (hk : seqIndex? i xs.length = some k) (h : ∀ s', Inv X pins σ (upd H l (.lst (xs.eraseIdx k))) s' → Q () s') :
    wpAny (model X.prog X.w) X.A (delItem (.ref l) (.int i t)) Q X.xe s := by
  obtain ⟨z, its, n, r, hl, e⟩ := I.lstM hH
  refine PySem.P.delItem_list (k := k) e (fitsIndex_both h1 h2) (by rw [List.size_toArray, ← hl]; exact hk) (h _ ?_) (by rw [List.size_toArray]; omega)
  refine I.lset (its' := its.eraseIdx k) (t' := s.toks) hH e ?_ (r.eraseIdx k) ?_
  · show its.toArray.eraseIdxIfInBounds k = (its.eraseIdx k).toArray
    rw [List.eraseIdxIfInBounds_toArray]
  · have := len_erase xs k
    omega
end

/-! ### xs[a:b] = ys -/
section
variable {prog : Program} {w : World} {A : Around} {E : Value → Shared → Prop} {s : Shared}
theorem splice_eq (its its2 : List Value) (a c : Nat) : its.toArray.extract 0 a ++ its2.toArray ++ its.toArray.extract c its.toArray.size = (its.take a ++ its2 ++ its.drop c).toArray := by
  apply Array.toList_inj.mp
  first
    | (simp
       exact List.take_of_length_le (by simp))
    | simp [List.take_of_length_le]
    | simp
theorem bounds_run {a c n : Nat} (hac : a ≤ c) (hc : c ≤ n) : sliceBounds (some (a : Int)) (some (c : Int)) none n = ((a : Int), (c : Int), 1) := by
  simp only [sliceBounds, Option.getD_none]
  have h1 : ¬ ((a : Int) < 0) := by omega
  have h2 : ¬ ((c : Int) < 0) := by omega
  simp only [h1, h2, if_false, show (1 : Int) > 0 by decide, if_true]
  congr 1
  · omega
  · congr 1; omega
set_option maxRecDepth 100000 in
/-- list.__setitem__ with a slice of step one and another list -/
theorem setItem_slice {l b sl : Addr} {items new : Array Value} {n n2 : Nat} {vl vu : Value} {a c : Nat} {Q : Unit → Shared → Prop}
    (e : s.heap.get? l = some { cls := .type "list", data := .seq items n }) (e2 : s.heap.get? b = some { cls := .type "list", data := .seq new n2 }) (hne : l ≠ b)
    (hs : s.heap.IsSliceOf sl vl vu .none) (pl : IsPart vl (some (a : Int))) (pu : IsPart vu (some (c : Int))) (hac : a ≤ c) (hc : c ≤ items.size)
    (hsz : items.size + new.size ≤ sizeLine) (h : Q () { s with heap := s.heap.update l (Obj.mapSeq fun xs => xs.extract 0 a ++ new ++ xs.extract c xs.size) }) :
    wpAny (model prog w) A (setItem (.ref l) (.ref sl) (.ref b)) Q E s := by
  have hl : s.heap.IsList l items := PySem.IsL.isList e
  have hb : s.heap.IsList b new := PySem.IsL.isList e2
  obtain ⟨os, hos, hcs, hds⟩ := id hs
  have hTs : s.TypeIs (.ref sl) "slice" := ⟨os, hos, hcs⟩
  have hstep : ¬ ((rawPart none == rawInt 0) = true) := Bool.false_ne_true
  have hsame : Builtin.List.listSameRef (.ref l) (.ref b) = false := by
    unfold Builtin.List.listSameRef
    exact beq_eq_false_iff_ne.mpr hne
  have hmax : (max (a : Int) (c : Int)).toNat = c := by omega
  have hz' : ((fun xs : Array Value => xs.extract 0 a ++ new ++ xs.extract c xs.size) items).size ≤ sizeLine + 1 := by
    simp only [Array.size_append, Array.size_extract]
    omega
  unfold setItem
  try with_reducible refine wpAny_holding ?_
  first | refine wpAny_bind (wpAny_pure ?_) | skip
  refine wpAny_bind (wpAny_sequenceKey hl.typeIs (by decide) ?_)
  refine wpAny_bind (wpAny_callSpecial?_slot (name := Str.ofString "__setitem__") hl.typeIs slot_list_setitem
    (wpAny_call_entry slot_list_setitem hl.typeIs entry_list_setitem ?_ (args_list_setitem _ _ _)))
  show wpAny _ _ (Builtin.List.listSubscript? (.ref sl) >>= _) _ _ s
  refine wpAny_bind ?_
  unfold Builtin.List.listSubscript?
  refine wpAny_bind (wpAny_specialOf hTs slice_no_index ?_)
  simp only [Option.isNone_none, if_true]
  refine wpAny_pure ?_
  show wpAny _ _ (typeOf (.ref sl) >>= _) _ _ s
  refine wpAny_bind (wpAny_typeOf hTs ?_)
  first
    | rw [if_neg (by decide)]
    | refine PySem.W.KFB.if_not (by decide) ?_
  rw [listSliceParts_eq]
  refine wpAny_bind (wpAny_bind (wpAny_field hos hds (x := .none) rfl (wpAny_bind (wpAny_listPart .none ?_))))
  rw [if_neg hstep]
  refine wpAny_bind (wpAny_field hos hds (x := vl) rfl (wpAny_bind (wpAny_listPart pl ?_)))
  refine wpAny_bind (wpAny_field hos hds (x := vu) rfl (wpAny_bind (wpAny_listPart pu (wpAny_pure ?_))))
  first
    | simp only [hsame, Bool.false_eq_true, if_false]
    | refine PySem.W.KFB.if_not hsame ?_
    | (dsimp only
       rw [if_neg (by rw [hsame]; exact Bool.false_ne_true)])
  refine wpAny_bind (m := Builtin.List.listAllItems (.ref b) "must assign iterable to extended slice") ?_
  unfold Builtin.List.listAllItems
  refine wpAny_bind (wpAny_typeOf hb.typeIs ?_)
  first
    | refine PySem.W.KFB.if_so (by decide) ?_
    | rw [if_pos (by decide)]
    | simp only [beq_self_eq_true, Bool.true_or, if_true]
  unfold Builtin.List.listItems
  refine wpAny_bind (wpAny_seqItems e2 rfl (wpAny_pure ?_))
  refine wpAny_bind (wpAny_bind (wpAny_seqItems e rfl (wpAny_pure ?_)))
  refine wpAny_bind (wpAny_of_eq ((sliceIndices_raw (some (a : Int)) (some (c : Int)) none items.size (by simp)).trans (congrArg (pure : Int × Int × Int → Sem (Int × Int × Int)) (bounds_run hac hc))) ?_)
  show wpAny _ _ (if ((1 : Int) == 1) = true then _ else _) _ _ s
  rw [if_pos (by decide)]
  refine wpAny_bind (wpAny_rule ?_)
  first
    | simp only [notLongL hsz, Bool.false_eq_true, if_false]
    | refine PySem.W.KFB.if_not (notLongL hsz) ?_
  first | refine wpAny_bind (wpAny_pure ?_) | skip
  show wpAny _ _ (updateSeq l (fun xs => xs.extract 0 ((a : Int)).toNat ++ new ++ xs.extract (max (a : Int) (c : Int)).toNat xs.size) >>= _) _ _ s
  rw [hmax, Int.toNat_natCast]
  refine wpAny_bind (wpAny_updateSeq (hz := Nat.le_trans (Nat.le_add_right _ _) hsz) (_hz' := hz') e rfl ?_)
  refine wpAny_bind (wpAny_letGo ?_)
  first
    | exact wpAny_bind (wpAny_pure (wpAny_pure ⟨.none, rfl, wpAny_pure h⟩))
    | exact wpAny_pure ⟨.none, rfl, wpAny_pure h⟩
end

section
variable {X : Cx}
/-- xs[a:c] = ys of another list, at the value level: sl is the slice object that was just made -/
theorem set_slice {pins : List (Addr × Obj)} {s : Shared} {σ : St} {H : Hp} {l b sl : Addr} {xs ys : List V} {a c : Int} {vl vu : Value} {Q : Unit → Shared → Prop} (I : Inv X pins σ H s)
    (hH : H l = some (.lst xs)) (hB : H b = some (.lst ys)) (hne : l ≠ b) (hs : s.heap.IsSliceOf sl vl vu .none) (ra : RelV (.int a) vl) (rc : RelV (.int c) vu) (h0 : 0 ≤ a) (hac : a ≤ c) (hc : c ≤ xs.length)
    (hz : xs.length + ys.length ≤ sizeLine) (h : ∀ s', Inv X pins σ (upd H l (.lst (xs.take a.toNat ++ ys ++ xs.drop c.toNat))) s' → Q () s') :
    wpAny (model X.prog X.w) X.A (setItem (.ref l) (.ref sl) (.ref b)) Q X.xe s := by
  obtain ⟨ta, rfl⟩ := ra
  obtain ⟨tc, rfl⟩ := rc
  obtain ⟨z, its, n, r, hl, e⟩ := I.lstM hH
  obtain ⟨z2, its2, n2, r2, hl2, e2⟩ := I.lstM hB
  obtain ⟨a', rfl⟩ := Int.eq_ofNat_of_zero_le h0
  obtain ⟨c', rfl⟩ := Int.eq_ofNat_of_zero_le (Int.le_trans h0 hac)
  simp only [Int.toNat_natCast] at h
  refine setItem_slice (a := a') (c := c') e e2 hne hs (.int _ _) (.int _ _) (by omega) (by rw [List.size_toArray]; omega) (by rw [List.size_toArray, List.size_toArray]; omega) (h _ ?_)
  refine I.lset (its' := its.take a' ++ its2 ++ its.drop c') (t' := s.toks) hH e ?_ (Vals.append (Vals.append (r.take _) r2) (r.drop _)) ?_
  · exact splice_eq its its2 a' c'
  · rw [List.length_append, List.length_append, List.length_take, List.length_drop]
    omega
end
end L2

namespace L2
open PySem PySem.Spec PyProof.Rows

/-! ### lists of pairs as tables -/
section
variable {κ : Type} [DecidableEq κ]
def valV (kvs : List (κ × V)) (k : κ) : Option V := (kvs.find? fun kv => decide (kv.1 = k)).map (·.2)
/-- in its place, or at the end -/
def putK (kvs : List (κ × V)) (k : κ) (v : V) : List (κ × V) :=
  if (kvs.any fun kv => decide (kv.1 = k)) = true then kvs.map (fun kv => if kv.1 = k then (kv.1, v) else kv) else kvs ++ [(k, v)]
def dropK (kvs : List (κ × V)) (k : κ) : List (κ × V) := kvs.filter fun kv => decide (kv.1 ≠ k)

theorem valV_nil {k : κ} : valV ([] : List (κ × V)) k = none := rfl
theorem valV_pos {p : κ × V} {r : List (κ × V)} {k : κ} (e : p.1 = k) : valV (p :: r) k = some p.2 := by simp [valV, List.find?_cons, e]
theorem valV_neg {p : κ × V} {r : List (κ × V)} {k : κ} (e : ¬ p.1 = k) : valV (p :: r) k = valV r k := by simp [valV, List.find?_cons, e]
theorem valV_any (k : κ) : ∀ kvs : List (κ × V), (kvs.any fun kv => decide (kv.1 = k)) = (valV kvs k).isSome
  | [] => rfl
  | p :: r => by
    rw [List.any_cons]
    by_cases e : p.1 = k
    · simp only [valV_pos e, decide_eq_true e, Bool.true_or, Option.isSome_some]
    · rw [valV_neg e, decide_eq_false e, Bool.false_or]; exact valV_any k r
theorem valV_map (k j : κ) (y : V) : ∀ kvs : List (κ × V), valV (kvs.map fun kv => if kv.1 = k then (kv.1, y) else kv) j = (valV kvs j).map fun x => if j = k then y else x
  | [] => rfl
  | p :: r => by
    have ih := valV_map k j y r
    rw [List.map_cons]
    by_cases h : p.1 = k
    · rw [if_pos h]
      by_cases e : p.1 = j
      · rw [valV_pos (p := (p.1, y)) e, valV_pos e, Option.map_some, if_pos (e.symm.trans h)]
      · rw [valV_neg (p := (p.1, y)) e, valV_neg e, ih]
    · rw [if_neg h]
      by_cases e : p.1 = j
      · rw [valV_pos (p := p) e, valV_pos e, Option.map_some, if_neg (fun z => h (e.trans z))]
      · rw [valV_neg (p := p) e, valV_neg e, ih]
theorem valV_snoc (k j : κ) (y : V) : ∀ kvs : List (κ × V), valV kvs k = none → valV (kvs ++ [(k, y)]) j = if j = k then some y else valV kvs j
  | [], _ => by
    by_cases e : k = j
    · rw [if_pos e.symm]; exact valV_pos (p := (k, y)) e
    · rw [if_neg (fun z => e z.symm)]; exact valV_neg (p := (k, y)) e
  | p :: r, hn => by
    rw [List.cons_append]
    have hk : ¬ p.1 = k := fun z => by rw [valV_pos z] at hn; cases hn
    rw [valV_neg hk] at hn
    have ih := valV_snoc k j y r hn
    by_cases e : p.1 = j
    · rw [valV_pos e, valV_pos e, if_neg (fun z => hk (e.trans z))]
    · rw [valV_neg e, valV_neg e, ih]
theorem valV_put (kvs : List (κ × V)) (k j : κ) (y : V) : valV (putK kvs k y) j = if j = k then some y else valV kvs j := by
  unfold putK
  by_cases a : (kvs.any fun kv => decide (kv.1 = k)) = true
  · rw [if_pos a, valV_map]
    rw [valV_any] at a
    by_cases e : j = k
    · obtain ⟨x, hx⟩ := Option.isSome_iff_exists.mp a
      rw [if_pos e, e, hx, Option.map_some, if_pos rfl]
    · rw [if_neg e]
      cases valV kvs j with
      | none => rfl
      | some x => rw [Option.map_some, if_neg e]
  · rw [if_neg a]
    refine valV_snoc k j y kvs ?_
    rw [valV_any] at a
    cases q : valV kvs k with
    | none => rfl
    | some x => rw [q] at a; exact (a rfl).elim
theorem length_putK (kvs : List (κ × V)) (k : κ) (v : V) : (putK kvs k v).length ≤ kvs.length + 1 := by
  unfold putK
  split
  · rw [List.length_map]; omega
  · rw [List.length_append, List.length_cons, List.length_nil]; omega
theorem putK_new {kvs : List (κ × V)} {k : κ} (v : V) (h : valV kvs k = none) : putK kvs k v = kvs ++ [(k, v)] := by
  unfold putK
  rw [valV_any, h]
  exact if_neg (by decide)

theorem RelO.isSome_eq {o : Option V} {u : Option Value} (r : RelO o u) : o.isSome = u.isSome := by
  cases o with
  | none => cases u with
    | none => rfl
    | some _ => exact (show False from r).elim
  | some _ => cases u with
    | none => exact (show False from r).elim
    | some _ => rfl
theorem RelO.getD {o : Option V} {u : Option Value} {d : V} {d' : Value} (r : RelO o u) (rd : RelV d d') : RelV (o.getD d) (u.getD d') := by
  cases o with
  | none => cases u with
    | none => exact rd
    | some _ => exact (show False from r).elim
  | some _ => cases u with
    | none => exact (show False from r).elim
    | some _ => exact r

/-- raw tables of the same keys -/
theorem KV.val {kvs : List (κ × V)} {vs : List (κ × Value)} (r : KV kvs vs) (k : κ) : RelO (valV kvs k) (valueAt vs k) := by
  unfold KV at r
  induction r with
  | nil => exact True.intro
  | @cons p q ps qs h t ih =>
    obtain ⟨h1, h2⟩ := h
    by_cases e : p.1 = k
    · have e' : q.1 = k := h1.symm.trans e
      have b : valueAt (q :: qs) k = some q.2 := by simp [valueAt, List.find?_cons, e']
      rw [valV_pos e, b]; exact h2
    · have e' : ¬ q.1 = k := fun z => e (h1.trans z)
      have b : valueAt (q :: qs) k = valueAt qs k := by simp [valueAt, List.find?_cons, e']
      rw [valV_neg e, b]; exact ih
theorem KV.any {kvs : List (κ × V)} {vs : List (κ × Value)} (r : KV kvs vs) (k : κ) : (kvs.any fun kv => decide (kv.1 = k)) = vs.any fun kv => decide (kv.1 = k) := by
  unfold KV at r
  induction r with
  | nil => rfl
  | cons h t ih => rw [List.any_cons, List.any_cons, ih, h.1]
theorem KV.repl {kvs : List (κ × V)} {vs : List (κ × Value)} (r : KV kvs vs) (k : κ) {y : V} {u : Value} (ry : RelV y u) :
    KV (kvs.map fun kv => if kv.1 = k then (kv.1, y) else kv) (vs.map fun kv => if kv.1 = k then (kv.1, u) else kv) := by
  unfold KV at r ⊢
  induction r with
  | nil => exact .nil
  | @cons p q ps qs h t ih =>
    rw [List.map_cons, List.map_cons]
    refine .cons ?_ ih
    obtain ⟨h1, h2⟩ := h
    by_cases e : p.1 = k
    · rw [if_pos e, if_pos (h1.symm.trans e)]; exact ⟨h1, ry⟩
    · rw [if_neg e, if_neg (fun z => e (h1.trans z))]; exact ⟨h1, h2⟩
theorem KV.put {kvs : List (κ × V)} {vs : List (κ × Value)} (r : KV kvs vs) (k : κ) {y : V} {u : Value} (ry : RelV y u) : KV (putK kvs k y) (stored vs k u) := by
  unfold putK stored
  rw [r.any k]
  by_cases e : (vs.any fun kv => decide (kv.1 = k)) = true
  · rw [if_pos e, if_pos e]; exact r.repl k ry
  · rw [if_neg e, if_neg e]; exact Paired.snoc r ⟨rfl, ry⟩
theorem KV.drop {kvs : List (κ × V)} {vs : List (κ × Value)} (r : KV kvs vs) (k : κ) : KV (dropK kvs k) (without vs k) := by
  unfold KV at r ⊢
  unfold dropK without
  induction r with
  | nil => exact .nil
  | @cons p q ps qs h t ih =>
    obtain ⟨h1, h2⟩ := h
    rw [List.filter_cons, List.filter_cons]
    by_cases e : p.1 = k
    · have a : ¬ decide (p.1 ≠ k) = true := by simp [e]
      have b : ¬ decide (q.1 ≠ k) = true := by simp [h1.symm.trans e]
      rw [if_neg a, if_neg b]; exact ih
    · have e' : ¬ q.1 = k := fun z => e (h1.trans z)
      have a : decide (p.1 ≠ k) = true := by simp [e]
      have b : decide (q.1 ≠ k) = true := by simp [e']
      rw [if_pos a, if_pos b]; exact .cons ⟨h1, h2⟩ ih
theorem KV.keys {kvs : List (κ × V)} {vs : List (κ × Value)} (r : KV kvs vs) : kvs.map (·.1) = vs.map (·.1) := by
  unfold KV at r
  induction r with
  | nil => rfl
  | cons h t ih => rw [List.map_cons, List.map_cons, ih, h.1]
theorem KV.length {kvs : List (κ × V)} {vs : List (κ × Value)} (r : KV kvs vs) : kvs.length = vs.length := Paired.length r
theorem dropK_le (kvs : List (κ × V)) (k : κ) : (dropK kvs k).length ≤ kvs.length := List.length_filter_le _ _
end


/-! ### a tracked dict, its keys ints and texts or tuples of these -/
theorem kV_is {P : Program} {w : World} {k : Key} {u : Value} (r : RelV (kV k) u) : (mixKind P w).is k u = true := by
  cases k with
  | inl i => obtain ⟨t, e⟩ := (show ∃ t, u = Value.int i t from r); subst e; exact mixKind_int P w i t
  | inr x => obtain ⟨t, e⟩ := (show ∃ t, u = Value.str x t from r); subst e; exact mixKind_str P w x t
theorem kV_inj {a b : Key} (e : kV a = kV b) : a = b := by
  cases a with
  | inl i => cases b with
    | inl j => have e' : V.int i = V.int j := e; injection e' with e'; rw [e']
    | inr y => exact nomatch (show V.int i = V.str y from e)
  | inr x => cases b with
    | inl j => exact nomatch (show V.str x = V.int j from e)
    | inr y => have e' : V.str x = V.str y := e; injection e' with e'; rw [e']
theorem kVs_inj : ∀ {a b : List Key}, a.map kV = b.map kV → a = b
  | [], [], _ => rfl
  | [], _ :: _, e => by simp at e
  | _ :: _, [], e => by simp at e
  | x :: xs, y :: ys, e => by
    rw [List.map_cons, List.map_cons] at e
    injection e with e1 e2
    rw [kV_inj e1, kVs_inj e2]
theorem items_are {P : Program} {w : World} : ∀ {ks : List Key} {us : List Value}, Vals (ks.map kV) us → ItemsAre (mixKind P w) ks us
  | [], _, r => by rw [List.map_nil] at r; cases r; exact .nil
  | k :: ks, _, r => by
    rw [List.map_cons] at r
    cases r with
    | cons h t => exact .cons (kV_is h) (items_are t)

/-- raw entries of a dict with tuple keys -/
abbrev KT (H : Hp) : List (List Key × V) → List (List Key × Addr × Value) → Prop := Paired fun p q => p.1 = q.1 ∧ H q.2.1 = some (.tup (p.1.map kV)) ∧ RelV p.2 q.2.2
theorem KT.val {H : Hp} {kvs : List (List Key × V)} {xs : List (List Key × Addr × Value)} (r : KT H kvs xs) (k : List Key) : RelO (valV kvs k) ((atKey xs k).map (·.2)) := by
  induction r with
  | nil => exact True.intro
  | @cons p q ps qs h t ih =>
    obtain ⟨h1, _, h2⟩ := h
    by_cases e : p.1 = k
    · have e' : q.1 = k := h1.symm.trans e
      have b : atKey (q :: qs) k = some q.2 := by simp [atKey, List.find?_cons, e']
      rw [valV_pos e, b]; exact h2
    · have e' : ¬ q.1 = k := fun z => e (h1.trans z)
      have b : atKey (q :: qs) k = atKey qs k := by simp [atKey, List.find?_cons, e']
      rw [valV_neg e, b]; exact ih
theorem KT.repl {H : Hp} {kvs : List (List Key × V)} {xs : List (List Key × Addr × Value)} (r : KT H kvs xs) (k : List Key) {y : V} {u : Value} (ry : RelV y u) :
    KT H (kvs.map fun kv => if kv.1 = k then (kv.1, y) else kv) (xs.map (putAt k u)) := by
  induction r with
  | nil => exact .nil
  | @cons p q ps qs h t ih =>
    rw [List.map_cons, List.map_cons]
    refine .cons ?_ ih
    obtain ⟨h1, h2, h3⟩ := h
    unfold putAt
    by_cases e : p.1 = k
    · rw [if_pos e, if_pos (h1.symm.trans e)]; exact ⟨h1, h2, ry⟩
    · rw [if_neg e, if_neg (fun z => e (h1.trans z))]; exact ⟨h1, h2, h3⟩
theorem KT.put {H : Hp} {kvs : List (List Key × V)} {xs : List (List Key × Addr × Value)} (r : KT H kvs xs) (k : List Key) {b : Addr} {y : V} {u : Value} (hb : H b = some (.tup (k.map kV))) (ry : RelV y u) :
    KT H (putK kvs k y) (storedH xs k b u) := by
  have e : (kvs.any fun kv => decide (kv.1 = k)) = (atKey xs k).isSome := by
    rw [valV_any, (r.val k).isSome_eq, Option.isSome_map]
  unfold putK storedH
  rw [e]
  by_cases q : (atKey xs k).isSome = true
  · rw [if_pos q, if_pos q]; exact r.repl k ry
  · rw [if_neg q, if_neg q]; exact Paired.snoc r ⟨rfl, hb, ry⟩
theorem KT.keeps {H H' : Hp} {kvs : List (List Key × V)} {xs : List (List Key × Addr × Value)} (r : KT H kvs xs) (ht : ∀ b ys, H b = some (.tup ys) → H' b = some (.tup ys)) : KT H' kvs xs :=
  Paired.mapP r fun _ _ z => ⟨z.1, ht _ _ z.2.1, z.2.2⟩

section
variable {P : Program} {w : World} {H : Hp} {h : Heap} {a : Addr}
theorem rd_of {u : HO} (ok : HOk P w H h) (e : Rd H a u) : ObjOk P w H h a u := e.ok ok
theorem dk_rd {kvs : List (Key × V)} (ok : HOk P w H h) (e : Rd H a (.dK kvs)) : kvs.length ≤ sizeLine ∧ (a == sysModules) = false ∧ ∃ vs, KV kvs vs ∧ h.DictOf (mixKind P w) a vs :=
  show ObjOk P w H h a (.dK kvs) from rd_of ok e
theorem dk_of {kvs : List (Key × V)} (ok : HOk P w H h) (e : H a = some (.dK kvs)) : kvs.length ≤ sizeLine ∧ (a == sysModules) = false ∧ ∃ vs, KV kvs vs ∧ h.DictOf (mixKind P w) a vs := dk_rd ok (.inl e)
/-- a tracked tuple of ints and texts is a key -/
theorem key_of {ks : List Key} (ok : HOk P w H h) (e : H a = some (.tup (ks.map kV))) : (tupleKind (mixKind P w)).is h ks a := by
  obtain ⟨_, its, r, o, h1, h2, n, h3⟩ := (show ObjOk P w H h a (.tup (ks.map kV)) from ok a _ e)
  exact ⟨o, its.toArray, n, h1, h2, h3, by simpa using items_are r⟩
theorem dt_rd {kvs : List (List Key × V)} (ok : HOk P w H h) (e : Rd H a (.dT kvs)) : kvs.length ≤ sizeLine ∧ (a == sysModules) = false ∧
    ∃ xs, KT H kvs xs ∧ h.DictOfH (tupleKind (mixKind P w)) a xs := by
  obtain ⟨z, y, xs, r, o, es, ep, h1, h2, h3, h4, h5⟩ := (show ObjOk P w H h a (.dT kvs) from rd_of ok e)
  refine ⟨z, y, xs, r, o, es, ep, h1, h2, h3, h4, fun x hx => ?_, h5⟩
  have all : ∀ {l : List (List Key × V)} {m : List (List Key × Addr × Value)}, KT H l m → ∀ x ∈ m, (tupleKind (mixKind P w)).is h x.1 x.2.1 := by
    intro l m q
    induction q with
    | nil => intro x hx; exact nomatch hx
    | @cons p q ps qs hq t ih =>
      intro x hx
      rcases List.mem_cons.mp hx with e | hx
      · subst e
        exact key_of ok (by rw [← hq.1]; exact hq.2.1)
      · exact ih x hx
  exact all r x hx
theorem dt_of {kvs : List (List Key × V)} (ok : HOk P w H h) (e : H a = some (.dT kvs)) : kvs.length ≤ sizeLine ∧ (a == sysModules) = false ∧
    ∃ xs, KT H kvs xs ∧ h.DictOfH (tupleKind (mixKind P w)) a xs := dt_rd ok (.inl e)
end

/-- what the dict at a holds at the key y -/
def DGet (H : Hp) (a : Addr) (y : V) (r : Option V) : Prop :=
  (∃ kvs k, Rd H a (.dK kvs) ∧ y = kV k ∧ r = valV kvs k) ∨ ∃ kvs k b, Rd H a (.dT kvs) ∧ y = .ref b ∧ H b = some (.tup (k.map kV)) ∧ r = valV kvs k
/-- the heap behind a[y] = v -/
def DPut (H : Hp) (a : Addr) (y v : V) (H' : Hp) : Prop :=
  (∃ kvs k, H a = some (.dK kvs) ∧ y = kV k ∧ kvs.length < sizeLine ∧ H' = upd H a (.dK (putK kvs k v))) ∨
  ∃ kvs k b, H a = some (.dT kvs) ∧ y = .ref b ∧ H b = some (.tup (k.map kV)) ∧ kvs.length < sizeLine ∧ H' = upd H a (.dT (putK kvs k v))
theorem DGet.k {H : Hp} {a : Addr} {kvs : List (Key × V)} {k : Key} (e : H a = some (.dK kvs)) : DGet H a (kV k) (valV kvs k) := .inl ⟨kvs, k, .inl e, rfl, rfl⟩
theorem DGet.t {H : Hp} {a b : Addr} {kvs : List (List Key × V)} {k : List Key} (e : H a = some (.dT kvs)) (eb : H b = some (.tup (k.map kV))) : DGet H a (.ref b) (valV kvs k) := .inr ⟨kvs, k, b, .inl e, rfl, eb, rfl⟩
theorem DPut.k {H : Hp} {a : Addr} {kvs : List (Key × V)} {k : Key} {v : V} (e : H a = some (.dK kvs)) (hl : kvs.length < sizeLine) : DPut H a (kV k) v (upd H a (.dK (putK kvs k v))) := .inl ⟨kvs, k, e, rfl, hl, rfl⟩
theorem DPut.t {H : Hp} {a b : Addr} {kvs : List (List Key × V)} {k : List Key} {v : V} (e : H a = some (.dT kvs)) (eb : H b = some (.tup (k.map kV))) (hl : kvs.length < sizeLine) :
    DPut H a (.ref b) v (upd H a (.dT (putK kvs k v))) := .inr ⟨kvs, k, b, e, rfl, eb, hl, rfl⟩


section
variable {X : Cx} {pins : List (Addr × Obj)} {σ : St} {H : Hp} {s : Shared} {a : Addr} {y v : V} {u r : Value} {o : Option V} {A : Around} {E : Value → Shared → Prop}

theorem Inv.big (I : Inv X pins σ H s) : sysModules < s.heap.objs.size := by
  have h : mainGlobals < s.heap.objs.size := (I.mod.glob.keeps I.bk).lt
  exact Nat.lt_trans (by decide) h

/-- d[y], there -/
theorem d_getItem {Q : Value → Shared → Prop} (hu : A.units + 1 < cLine) (I : Inv X pins σ H s) (g : DGet H a y (some v)) (ry : RelV y u) (h : ∀ w' s', Inv X pins σ H s' → RelV v w' → Q w' s') :
    wpAny (model X.prog X.w) A (getItem (.ref a) u) Q E s := by
  rcases g with ⟨kvs, k, e, ey, l⟩ | ⟨kvs, k, b, e, ey, eb, l⟩
  · subst ey
    obtain ⟨z, hd, vs, rel, dd⟩ := dk_rd I.hok e
    obtain ⟨w', hw, rw'⟩ := RelO.some_of (v := v) (o := valueAt vs k) (by rw [l]; exact rel.val k)
    exact wpAny_getItem_of (kV_is ry) dd.mapOf hw (h w' _ (I.tok _) rw')
  · subst ey
    cases (show u = Value.ref b from ry)
    obtain ⟨z, hd, xs, rel, dd⟩ := dt_rd I.hok e
    obtain ⟨w', hw, rw'⟩ := RelO.some_of (v := v) (o := (atKey xs k).map (·.2)) (by rw [l]; exact rel.val k)
    obtain ⟨p, hp, hp2⟩ := Option.map_eq_some_iff.mp hw
    refine wpAny_getItem_heap (tupleKind_room_in1 hu) (key_of I.hok eb) dd hp ?_
    rw [hp2]
    exact h w' _ (I.tok _) rw'
/-- y in d -/
theorem d_in {Q : Value → Shared → Prop} (hu : A.units + 1 < cLine) (I : Inv X pins σ H s) (g : DGet H a y o) (ry : RelV y u) (h : ∀ s', Inv X pins σ H s' → Q (.bool o.isSome) s') :
    wpAny (model X.prog X.w) A (compareOp .In u (.ref a)) Q E s := by
  rcases g with ⟨kvs, k, e, ey, l⟩ | ⟨kvs, k, b, e, ey, eb, l⟩
  · subst ey
    obtain ⟨z, hd, vs, rel, dd⟩ := dk_rd I.hok e
    refine wpAny_in_of (kV_is ry) hd dd.mapOf ?_
    rw [← (rel.val k).isSome_eq, ← l]
    exact h _ (I.tok _)
  · subst ey
    cases (show u = Value.ref b from ry)
    obtain ⟨z, hd, xs, rel, dd⟩ := dt_rd I.hok e
    refine wpAny_in_heap (tupleKind_room_in1 hu) (key_of I.hok eb) hd dd ?_
    have q := (rel.val k).isSome_eq
    rw [Option.isSome_map] at q
    rw [← q, ← l]
    exact h _ (I.tok _)
theorem d_notIn {Q : Value → Shared → Prop} (hu : A.units + 1 < cLine) (I : Inv X pins σ H s) (g : DGet H a y o) (ry : RelV y u) (h : ∀ s', Inv X pins σ H s' → Q (.bool (!o.isSome)) s') :
    wpAny (model X.prog X.w) A (compareOp .NotIn u (.ref a)) Q E s := by
  rcases g with ⟨kvs, k, e, ey, l⟩ | ⟨kvs, k, b, e, ey, eb, l⟩
  · subst ey
    obtain ⟨z, hd, vs, rel, dd⟩ := dk_rd I.hok e
    refine wpAny_notIn_of (kV_is ry) hd dd.mapOf ?_
    rw [← (rel.val k).isSome_eq, ← l]
    exact h _ (I.tok _)
  · subst ey
    cases (show u = Value.ref b from ry)
    obtain ⟨z, hd, xs, rel, dd⟩ := dt_rd I.hok e
    refine wpAny_notIn_heap (tupleKind_room_in1 hu) (key_of I.hok eb) hd dd ?_
    have q := (rel.val k).isSome_eq
    rw [Option.isSome_map] at q
    rw [← q, ← l]
    exact h _ (I.tok _)
/-- a dict's object is replaced -/
theorem d_write {h' : Heap} {t' : Nat} {ob : HO} (I : Inv X pins σ H s) (mu : Mut (H a)) (hs : Heap.SameBut a s.heap h') (he : ∃ q, h'.get? a = some q) (new : ObjOk X.prog X.w (upd H a ob) h' a ob) :
    Inv X pins σ (upd H a ob) { s with heap := h', toks := t' } :=
  I.write (x := a) (e := a) mu (.inl rfl) (fun b q hb z => (hs.2 b hb).trans z) he new
theorem dk_new {P : Program} {w : World} {H' : Hp} {h' : Heap} {kvs : List (Key × V)} {vs : List (Key × Value)} (z : kvs.length ≤ sizeLine) (hd : (a == sysModules) = false) (rel : KV kvs vs) (dd : h'.DictOf (mixKind P w) a vs) :
    ObjOk P w H' h' a (.dK kvs) := ⟨z, hd, vs, rel, dd⟩
/-- d[y] = v -/
theorem d_setItem {H' : Hp} {Q : Unit → Shared → Prop} (hu : A.units + 1 < cLine) (I : Inv X pins σ H s) (g : DPut H a y v H') (ry : RelV y u) (rv : RelV v r) (h : ∀ s', Inv X pins σ H' s' → Q () s') :
    wpAny (model X.prog X.w) A (setItem (.ref a) u r) Q E s := by
  rcases g with ⟨kvs, k, e, ey, l, eH⟩ | ⟨kvs, k, b, e, ey, eb, l, eH⟩
  · subst ey eH
    obtain ⟨z, hd, vs, rel, dd⟩ := dk_of I.hok e
    have hz : vs.length ≤ sizeLine := by rw [← rel.length]; exact z
    have hl : (putK kvs k v).length ≤ sizeLine := by have := length_putK kvs k v; omega
    refine wpAny_setItem_pairs (hsz := hz) (kV_is ry) dd fun h' dd' hs => h _ ?_
    have he : ∃ q, h'.get? a = some q := let ⟨q, _, _, hq, _⟩ := dd'; ⟨q, hq⟩
    exact d_write I (by rw [e]; exact True.intro) hs he (dk_new hl hd (rel.put k rv) dd')
  · subst ey eH
    cases (show u = Value.ref b from ry)
    obtain ⟨z, hd, xs, rel, dd⟩ := dt_of I.hok e
    have hz : xs.length ≤ sizeLine := by rw [← Paired.length rel]; exact z
    have hl : (putK kvs k v).length ≤ sizeLine := by have := length_putK kvs k v; omega
    refine wpAny_setItem_heap (hsz := hz) (tupleKind_room_in1 hu) (key_of I.hok eb) dd fun h' dd' hs => h _ ?_
    obtain ⟨q, es, ep, hq, h2, h3, h4, _, h5⟩ := dd'
    refine d_write I (by rw [e]; exact True.intro) hs ⟨q, hq⟩ ⟨hl, hd, _, (rel.put k eb rv).keeps fun c ys ec => ?_, q, es, ep, hq, h2, h3, h4, h5⟩
    rw [upd_ne (ne_of ec e (fun z => nomatch z))]
    exact ec
end

section
variable {X : Cx} {pins : List (Addr × Obj)} {σ : St} {H : Hp} {s : Shared} {a : Addr} {kvs : List (Key × V)} {k : Key} {u : Value} {A : Around} {E : Value → Shared → Prop}
/-- del d[k] -/
theorem d_delItem {Q : Unit → Shared → Prop} (I : Inv X pins σ H s) (e : H a = some (.dK kvs)) (ry : RelV (kV k) u) (l : (valV kvs k).isSome = true) (h : ∀ s', Inv X pins σ (upd H a (.dK (dropK kvs k))) s' → Q () s') :
    wpAny (model X.prog X.w) A (delItem (.ref a) u) Q E s := by
  obtain ⟨z, hd, vs, rel, dd⟩ := dk_of I.hok e
  refine wpAny_delItem_slot dd.typeIs (by decide) PySem.F.slot_dict_delitem
    (call_meetsIn PySem.F.slot_dict_delitem dd.typeIs PySem.F.entry_dict_delitem (PySem.F.args_dict_delitem_2 _ _) (meets_dict_delitem_pairs (mixKind X.prog X.w) a (kV_is ry)) ⟨vs, dd, by rw [← rel.length]; exact z, by rw [← (rel.val k).isSome_eq]; exact l, fun h' dd' hs => h _ ?_⟩)
  have he : ∃ q, h'.get? a = some q := let ⟨q, _, _, hq, _⟩ := dd'; ⟨q, hq⟩
  exact d_write I (by rw [e]; exact True.intro) hs he (dk_new (Nat.le_trans (dropK_le kvs k) z) hd (rel.drop k) dd')
/-- d.pop(k[, x]), there -/
theorem d_pop {v : V} {more : List Value} {Q : Value → Shared → Prop} (I : Inv X pins σ H s) (e : H a = some (.dK kvs)) (ry : RelV (kV k) u) (l : valV kvs k = some v) (hm : more = [] ∨ ∃ x, more = [x])
    (h : ∀ w' s', Inv X pins σ (upd H a (.dK (dropK kvs k))) s' → RelV v w' → Q w' s') : wpAny (model X.prog X.w) A (call (.builtin "dict.pop") (.ref a :: u :: more)) Q E s := by
  obtain ⟨z, hd, vs, rel, dd⟩ := dk_of I.hok e
  obtain ⟨w', hw, rw'⟩ := RelO.some_of (v := v) (o := valueAt vs k) (by rw [← l]; exact rel.val k)
  have hp : (keyPart u).isSome = true := by
    cases k with
    | inl i => obtain ⟨t, q⟩ := (show ∃ t, u = Value.int i t from ry); subst q; rfl
    | inr x => obtain ⟨t, q⟩ := (show ∃ t, u = Value.str x t from ry); subst q; rfl
  have ha : argsOk "dict.pop" ⟨.ref a :: u :: more, []⟩ := by
    rcases hm with q | ⟨x, q⟩
    · subst q; exact PySem.F.args_dict_pop_2 _ _
    · subst q; exact PySem.F.args_dict_pop_3 _ _ _
  refine call_meetsIn PySem.F.slot_dict_pop dd.typeIs PySem.F.entry_dict_pop ha (meets_dict_pop_there (mixKind X.prog X.w) a (kV_is ry) more hm hp)
    ⟨vs, w', dd, by rw [← rel.length]; exact z, hw, fun h' dd' hs => h w' _ ?_ rw'⟩
  have he : ∃ q, h'.get? a = some q := let ⟨q, _, _, hq, _⟩ := dd'; ⟨q, hq⟩
  exact d_write I (by rw [e]; exact True.intro) hs he (dk_new (Nat.le_trans (dropK_le kvs k) z) hd (rel.drop k) dd')
/-- d.pop(k, x), not there -/
theorem d_popD {r : Value} {Q : Value → Shared → Prop} (I : Inv X pins σ H s) (e : H a = some (.dK kvs)) (ry : RelV (kV k) u) (l : valV kvs k = none) (h : ∀ s', Inv X pins σ H s' → Q r s') :
    wpAny (model X.prog X.w) A (call (.builtin "dict.pop") [.ref a, u, r]) Q E s := by
  obtain ⟨z, hd, vs, rel, dd⟩ := dk_of I.hok e
  have hn : valueAt vs k = none := RelO.none_of (by rw [← l]; exact rel.val k)
  have hp : (keyPart u).isSome = true := by
    cases k with
    | inl i => obtain ⟨t, q⟩ := (show ∃ t, u = Value.int i t from ry); subst q; rfl
    | inr x => obtain ⟨t, q⟩ := (show ∃ t, u = Value.str x t from ry); subst q; rfl
  exact call_meetsIn PySem.F.slot_dict_pop dd.typeIs PySem.F.entry_dict_pop (PySem.F.args_dict_pop_3 _ _ _) (meets_dict_pop_default (mixKind X.prog X.w) a (kV_is ry) hd hp r) ⟨vs, dd, hn, h _ (I.tok _)⟩
/-- d.clear() -/
theorem d_clear {Q : Value → Shared → Prop} (I : Inv X pins σ H s) (e : H a = some (.dK kvs)) (h : ∀ s', Inv X pins σ (upd H a (.dK [])) s' → Q .none s') : wpAny (model X.prog X.w) A (call (.builtin "dict.clear") [.ref a]) Q E s := by
  obtain ⟨z, hd, vs, rel, dd⟩ := dk_of I.hok e
  refine call_meetsIn PySem.F.slot_dict_clear dd.typeIs PySem.F.entry_dict_clear (PySem.F.args_dict_clear_1 _) (meets_dict_clear (mixKind X.prog X.w) a) ⟨vs, dd, by rw [← rel.length]; exact z, fun h' dd' hs => h _ ?_⟩
  have he : ∃ q, h'.get? a = some q := let ⟨q, _, _, hq, _⟩ := dd'; ⟨q, hq⟩
  exact d_write (t' := s.toks) I (by rw [e]; exact True.intro) hs he (dk_new (Nat.zero_le _) hd .nil dd')
/-- len(d) -/
theorem d_len {Q : Value → Shared → Prop} (I : Inv X pins σ H s) (e : Rd H a (.dK kvs)) (h : ∀ t s', Inv X pins σ H s' → Q (.int kvs.length t) s') : wpAny (model X.prog X.w) A (call (.builtin "len") [.ref a]) Q E s := by
  obtain ⟨z, hd, vs, rel, dd⟩ := dk_rd I.hok e
  refine call_len_dict hd dd (by rw [← rel.length]; rw [sizeLine_eq] at z; omega) ?_
  rw [← rel.length]
  exact h _ _ (I.tok _)
/-- if d -/
theorem d_truth {Q : Bool → Shared → Prop} (I : Inv X pins σ H s) (e : Rd H a (.dK kvs)) (h : ∀ s', Inv X pins σ H s' → Q (!kvs.isEmpty) s') : wpAny (model X.prog X.w) A (truthy (.ref a)) Q E s := by
  obtain ⟨z, hd, vs, rel, dd⟩ := dk_rd I.hok e
  refine wpAny_truthy_dict hd dd (by rw [← rel.length]; rw [sizeLine_eq] at z; omega) ?_
  have q : kvs.isEmpty = vs.isEmpty := by cases rel <;> rfl
  rw [← q]
  exact h _ (I.tok _)
end


/-! ### readings and rules -/
/-- the element of a subscription, not a slice -/
def NoSl (i : Expr) : Prop := ∀ ov iv, subscripted i false ov iv = operate [ov, iv] (getItem ov iv)
theorem subD_of {prog : Program} {w : World} {A : Around} {E : Value → Shared → Prop} {s : Shared} {env : Env} {value slice : Expr} {pos : Pos} {T id : String} {Q : Value → Shared → Prop}
    (hl : typeLookup (.type T) "__getitem__" = pure (some (.builtin id))) (hs : NoSl slice)
    (h : wpAny (model prog w) A (eval value env) (fun o s₁ => wpAny (model prog w) A (eval slice env) (fun i s₂ => s₂.TypeIs o T ∧ wpAny (model prog w) A (getItem o i) Q E s₂) E s₁) E s) :
    wpAny (model prog w) A (eval (.Subscript value slice pos) env) Q E s := by
  refine Subscript_ (wpAny_mono h (fun o s₁ h₁ => wpAny_mono h₁ (fun i s₂ h₂ => ?_) fun _ _ x => x) fun _ _ x => x)
  obtain ⟨hT, h₂⟩ := h₂
  unfold subscriptTail
  refine wpAny_bind ?_
  rw [getitemInPython_of_ne hT.not_modules]
  refine wpAny_bind (wpAny_specialOf hT hl ?_)
  have fin : wpAny (model prog w) A (subscripted slice false o i) (fun r s₃ => wpAny (model prog w) A (letTemporaryGo value o r >>= fun _ => pure r) Q E s₃) E s₂ := by
    rw [hs o i]
    exact wpAny_operating (wpAny_mono h₂ (fun r s₃ h₃ => wpAny_bind (wpAny_letTemporaryGo (wpAny_pure h₃))) fun _ _ x => x)
  first
    | exact wpAny_pure (wpAny_bind fin)
    | exact wpAny_bind (wpAny_pure (wpAny_bind fin))
    | exact wpAny_bind fin

theorem dict_typeIs {X : Cx} {pins : List (Addr × Obj)} {σ : St} {H : Hp} {s : Shared} {a : Addr} {y : V} {o : Option V} (I : Inv X pins σ H s) (g : DGet H a y o) : s.TypeIs (.ref a) "dict" := by
  rcases g with ⟨kvs, k, e, _, _⟩ | ⟨kvs, k, b, e, _, _, _⟩
  · obtain ⟨_, _, vs, _, dd⟩ := dk_rd I.hok e
    exact dd.typeIs
  · obtain ⟨_, _, xs, _, dd⟩ := dt_rd I.hok e
    exact dd.typeIs
theorem dict_noDict {X : Cx} {pins : List (Addr × Obj)} {σ : St} {H : Hp} {s : Shared} {a : Addr} {y : V} {o : Option V} (I : Inv X pins σ H s) (g : DGet H a y o) :
    ∀ b, Value.ref a = .ref b → ∃ ob, s.heap.get? b = some ob ∧ ob.dict = none := fun b q => by
  cases q
  rcases g with ⟨kvs, k, e, _, _⟩ | ⟨kvs, k, b, e, _, _, _⟩
  · obtain ⟨_, _, vs, _, ob, _, _, h1, h2, _⟩ := dk_rd I.hok e
    exact ⟨ob, h1, h2.2.1⟩
  · obtain ⟨_, _, xs, _, ob, _, _, h1, h2, _⟩ := dt_rd I.hok e
    exact ⟨ob, h1, h2.2.1⟩

/-- d[y] -/
def tDGet (td ty : TE) : TE := fun σ H Q => td σ H fun x H1 => ty σ H1 fun y H2 => ∃ a v, x = .ref a ∧ DGet H2 a y (some v) ∧ Q v H2
/-- y in d, y not in d -/
def tDIn (ty td : TE) : TE := fun σ H Q => ty σ H fun y H1 => td σ H1 fun x H2 => ∃ a o, x = .ref a ∧ DGet H2 a y o ∧ Q (.bl o.isSome) H2
def tDNotIn (ty td : TE) : TE := fun σ H Q => ty σ H fun y H1 => td σ H1 fun x H2 => ∃ a o, x = .ref a ∧ DGet H2 a y o ∧ Q (.bl (!o.isSome)) H2
/-- d[y] = v -/
def sDPut (td ty tv : TE) : TS := fun D σ H => tv σ H fun v H1 => td σ H1 fun x H2 => ty σ H2 fun y H3 => ∃ a H4, x = .ref a ∧ DPut H3 a y v H4 ∧ D.nx σ H4
/-- d[y] op= v -/
def sDAug (td ty tv : TE) (rd : V → V → Hp → VK → Prop) : TS := fun D σ H => td σ H fun x H1 => ty σ H1 fun y H2 => ∃ a v, x = .ref a ∧ DGet H2 a y (some v) ∧
  tv σ H2 fun y2 H3 => rd v y2 H3 fun z H4 => ∃ H5, DPut H4 a y z H5 ∧ D.nx σ H5
/-- del d[y] -/
def sDDel (td ty : TE) : TS := fun D σ H => td σ H fun x H1 => ty σ H1 fun y H2 => ∃ a kvs k, x = .ref a ∧ H2 a = some (.dK kvs) ∧ y = kV k ∧ (valV kvs k).isSome = true ∧ D.nx σ (upd H2 a (.dK (dropK kvs k)))

section
variable {X : Cx} {o i e value : Expr} {pos pos' tpos : Pos} {td ty tv : TE}
theorem pe_dget (hu : X.A.units + 1 < cLine) (ho : PE X o td) (hi : PE X i ty) (hs : NoSl i) : PE X (.Subscript o i pos) (tDGet td ty) := by
  intro pins s σ H Q I h
  refine subD_of PySem.F.slot_dict_getitem.lookup hs (thn (ho pins s σ H _ I h) fun u s1 ⟨x, H1, I1, rx, q1⟩ => thn (hi pins s1 σ H1 _ I1 q1) fun iv s2 ⟨y, H2, I2, ry, a, v, ex, g, q2⟩ => ?_)
  subst ex
  obtain rfl : u = Value.ref a := rx
  exact ⟨dict_typeIs I2 g, d_getItem hu I2 g ry fun w' s3 I3 rw' => ⟨v, H2, I3, rw', q2⟩⟩
theorem pc_din (hu : X.A.units + 1 < cLine) (hi : PE X i ty) (ho : PE X o td) : PC X .In i o (tDIn ty td) := by
  intro pins s σ H Q I h
  refine thn (hi pins s σ H _ I h) fun iv s1 ⟨y, H1, I1, ry, q1⟩ => thn (ho pins s1 σ H1 _ I1 q1) fun u s2 ⟨x, H2, I2, rx, a, ov, ex, g, q2⟩ => ?_
  subst ex
  obtain rfl : u = Value.ref a := rx
  exact d_in hu I2 g ry fun s3 I3 => ⟨.bl ov.isSome, H2, I3, rfl, q2⟩
theorem pc_dnotin (hu : X.A.units + 1 < cLine) (hi : PE X i ty) (ho : PE X o td) : PC X .NotIn i o (tDNotIn ty td) := by
  intro pins s σ H Q I h
  refine thn (hi pins s σ H _ I h) fun iv s1 ⟨y, H1, I1, ry, q1⟩ => thn (ho pins s1 σ H1 _ I1 q1) fun u s2 ⟨x, H2, I2, rx, a, ov, ex, g, q2⟩ => ?_
  subst ex
  obtain rfl : u = Value.ref a := rx
  exact d_notIn hu I2 g ry fun s3 I3 => ⟨.bl (!ov.isSome), H2, I3, rfl, q2⟩
theorem ps_dput (hu : X.A.units + 1 < cLine) (ho : PE X o td) (hi : PE X i ty) (hv : PE X value tv) (hs : swapsWith value (some (.Subscript o i pos')) pos.line X.env = pure false) :
    PS X (.Assign [.Subscript o i pos'] value pos) (sDPut td ty tv) := by
  intro pins s σ H D I h
  refine wpAny_Assign_Subscript (thn (hv pins s σ H _ I h) fun r s1 ⟨v, H1, I1, rv, q1⟩ => thn (ho pins s1 σ H1 _ I1 q1) fun u s2 ⟨x, H2, I2, rx, q2⟩ => thn (hi pins s2 σ H2 _ I2 q2) fun iv s3 ⟨y, H3, I3, ry, a, H4, ex, g, q3⟩ => ?_) hs
  subst ex
  obtain rfl : u = Value.ref a := rx
  exact d_setItem hu I3 g ry rv fun s4 I4 => ⟨σ, H4, I4, q3⟩
theorem ps_daug {op : Operator} {rd : V → V → Hp → VK → Prop} (hu : X.A.units + 1 < cLine) (ho : PE X o td) (hi : PE X i ty) (hv : PE X value tv) (hop : InOp X op rd)
    (ha : ∀ ov iv new, augStore i ov iv new = (do holding [new, ov, iv] (setItem ov iv new); release [new, ov, iv] []; pure .next)) : PS X (.AugAssign (.Subscript o i tpos) op value pos) (sDAug td ty tv rd) := by
  intro pins s σ H D I h
  refine wpAny_AugAssign_SubscriptAny (thn (ho pins s σ H _ I h) fun u s1 ⟨x, H1, I1, rx, q1⟩ => thn (hi pins s1 σ H1 _ I1 q1) fun iv s2 ⟨y, H2, I2, ry, a, v, ex, g, q2⟩ => ?_) ha
  subst ex
  obtain rfl : u = Value.ref a := rx
  refine d_getItem hu I2 g ry fun w' s3 I3 rw' => thn (hv pins s3 σ H2 _ I3 q2) fun w2 s4 ⟨y2, H3, I4, ry2, q3⟩ => thn (hop pins s4 σ H3 v y2 w' w2 _ I4 rw' ry2 q3) fun w3 s5 ⟨z, H4, I5, rz, H5, g5, q4⟩ => ?_
  exact d_setItem hu I5 g5 ry rz fun s6 I6 => ⟨σ, H5, I6, q4⟩
theorem ps_ddel (ho : PE X o td) (hi : PE X i ty) : PS X (.Delete [.Subscript o i tpos] pos) (sDDel td ty) := by
  intro pins s σ H D I h
  refine wpAny_Delete (wpAny_deleteEach_cons (wpAny_delete_Subscript (thn (ho pins s σ H _ I h) fun u s1 ⟨x, H1, I1, rx, q1⟩ => thn (hi pins s1 σ H1 _ I1 q1) fun iv s2 ⟨y, H2, I2, ry, a, kvs, k, ex, e, ey, l, q2⟩ => ?_)))
  subst ex ey
  obtain rfl : u = Value.ref a := rx
  exact d_delItem I2 e ry l fun s3 I3 => wpAny_deleteEach_nil ⟨σ, _, I3, q2⟩
end


/-! ### displays -/
theorem dk_empty {P : Program} {w : World} {H : Hp} (h : Heap) (hb : sysModules < h.objs.size) : ObjOk P w H (h.push { cls := .type "dict", data := .dict #[] }) h.objs.size (.dK []) :=
  ⟨Nat.zero_le _, beq_eq_false_iff_ne.mpr (Ne.symm (Nat.ne_of_lt hb)), [], .nil, Heap.DictOf.new h⟩
theorem dt_empty {P : Program} {w : World} {H : Hp} (h : Heap) (hb : sysModules < h.objs.size) : ObjOk P w H (h.push { cls := .type "dict", data := .dict #[] }) h.objs.size (.dT []) :=
  ⟨Nat.zero_le _, beq_eq_false_iff_ne.mpr (Ne.symm (Nat.ne_of_lt hb)), [], .nil, _, #[], 0, Heap.get?_push_size _ rfl, ⟨rfl, rfl, rfl⟩, rfl, rfl, List.nodup_nil⟩
/-- {}, to be a dict of the kind that is wanted -/
def tDNewK : TE := fun _ H Q => ∀ p, H p = none → Q (.ref p) (upd H p (.dK []))
def tDNewT : TE := fun _ H Q => ∀ p, H p = none → Q (.ref p) (upd H p (.dT []))
section
variable {X : Cx} {pos : Pos}
theorem pe_dnewK : PE X (.Dict [] [] pos) tDNewK := fun pins s σ H Q I h =>
  wpAny_Dict_empty ⟨.ref s.heap.objs.size, _, I.laid (a := s.heap.objs.size) (o := .dK []) (t' := s.toks) (fun _ _ q => Heap.get?_push_of_some _ q) (Nat.le_refl _) (dk_empty s.heap I.big), rfl, h _ (I.hok.fresh (Nat.le_refl _))⟩
theorem pe_dnewT : PE X (.Dict [] [] pos) tDNewT := fun pins s σ H Q I h =>
  wpAny_Dict_empty ⟨.ref s.heap.objs.size, _, I.laid (a := s.heap.objs.size) (o := .dT []) (t' := s.toks) (fun _ _ q => Heap.get?_push_of_some _ q) (Nat.le_refl _) (dt_empty s.heap I.big), rfl, h _ (I.hok.fresh (Nat.le_refl _))⟩
end

/-- the pairs of a display, from the left -/
def tPairs : List (TE × TE) → St → Hp → (List (V × V) → Hp → Prop) → Prop
  | [], _, H, Q => Q [] H
  | (tk, tv) :: r, σ, H, Q => tk σ H fun x H1 => tv σ H1 fun y H2 => tPairs r σ H2 fun ps H3 => Q ((x, y) :: ps) H3
abbrev VV : List (V × V) → List (Value × Value) → Prop := Paired fun p q => RelV p.1 q.1 ∧ RelV p.2 q.2
def PPs (X : Cx) (pos : Pos) (keys : List (Option Expr)) (values : List Expr) (trs : List (TE × TE)) : Prop :=
  ∀ (pins : List (Addr × Obj)) (s : Shared) (σ : St) (H : Hp) (Q : List (V × V) → Hp → Prop), Inv X pins σ H s → tPairs trs σ H Q →
    wpAny (model X.prog X.w) X.A (evalPairs (pairTrees keys values X.env pos)) (fun vs s' => ∃ ps H', Inv X pins σ H' s' ∧ VV ps vs ∧ Q ps H') X.xe s
theorem pps_nil {X : Cx} {pos : Pos} : PPs X pos [] [] [] := fun pins s σ H Q I h => pairTrees_nil_walk ⟨[], H, I, .nil, h⟩
theorem pps_cons {X : Cx} {pos : Pos} {k v : Expr} {ks : List (Option Expr)} {vs : List Expr} {tk tv : TE} {trs : List (TE × TE)} (hk : PE X k tk) (hv : PE X v tv) (hr : PPs X pos ks vs trs) :
    PPs X pos (some k :: ks) (v :: vs) ((tk, tv) :: trs) := fun pins s σ H Q I h =>
  pairTrees_cons_walk (thn (hk pins s σ H _ I h) fun u s1 ⟨x, H1, I1, rx, q1⟩ => thn (hv pins s1 σ H1 _ I1 q1) fun w2 s2 ⟨y, H2, I2, ry, q2⟩ =>
    thn (hr pins s2 σ H2 _ I2 q2) fun ws s3 ⟨ps, H3, I3, rel, q3⟩ => ⟨(x, y) :: ps, H3, I3, .cons ⟨rx, ry⟩ rel, q3⟩)

def mergeK (kvs more : List (Key × V)) : List (Key × V) := more.foldl (fun acc kv => putK acc kv.1 kv.2) kvs
theorem KV.merge : ∀ {more : List (Key × V)} {rs : List (Key × Value)} {kvs : List (Key × V)} {vs : List (Key × Value)}, KV more rs → KV kvs vs → KV (mergeK kvs more) (merged vs rs) := by
  intro more rs kvs vs r
  unfold KV at r
  induction r generalizing kvs vs with
  | nil => intro q; exact q
  | @cons p q ps qs h t ih =>
    intro r0
    have e : KV (putK kvs p.1 p.2) (stored vs q.1 q.2) := by
      have := r0.put p.1 h.2
      rw [← h.1]; exact this
    exact ih e
theorem length_mergeK : ∀ (more kvs : List (Key × V)), (mergeK kvs more).length ≤ kvs.length + more.length
  | [], kvs => by show kvs.length ≤ kvs.length + 0; omega
  | p :: r, kvs => by
    have h1 := length_mergeK r (putK kvs p.1 p.2)
    have h2 := length_putK kvs p.1 p.2
    show (mergeK (putK kvs p.1 p.2) r).length ≤ _
    rw [List.length_cons]; omega
theorem carries_of {P : Program} {w : World} : ∀ {kvs : List (Key × V)} {ws : List (Value × Value)}, VV (kvs.map fun kv => (kV kv.1, kv.2)) ws → ∃ rs, Carries (mixKind P w) ws rs ∧ KV kvs rs
  | [], _, r => by rw [List.map_nil] at r; cases r; exact ⟨[], True.intro, .nil⟩
  | p :: kvs, _, r => by
    rw [List.map_cons] at r
    cases r with
    | @cons a b as bs h t =>
      obtain ⟨rs, c, q⟩ := carries_of (P := P) (w := w) t
      obtain ⟨b1, b2⟩ := b
      exact ⟨(p.1, b2) :: rs, ⟨kV_is h.1, rfl, c⟩, .cons ⟨rfl, h.2⟩ q⟩
/-- {k: v, ..} with keys ints and texts; the new dict stands empty while the pairs are made -/
def tDisp (trs : List (TE × TE)) : TE := fun σ H Q => ∀ p, H p = none → tPairs trs σ (upd H p (.dK [])) fun ps H2 => H2 p = some (.dK []) ∧ ∃ kvs : List (Key × V), ps = kvs.map (fun kv => (kV kv.1, kv.2)) ∧ kvs.length ≤ 15 ∧ Q (.ref p) (upd H2 p (.dK (mergeK [] kvs)))
theorem pe_disp {X : Cx} {pos : Pos} {keys : List (Option Expr)} {values : List Expr} {trs : List (TE × TE)} (h : PPs X pos keys values trs) (hall : keys.all (·.isSome) = true) (hl : keys.length = values.length) (h0 : keys ≠ [])
    (h15 : keys.length ≤ 15) : PE X (.Dict keys values pos) (tDisp trs) := by
  intro pins s σ H Q I q
  have hn := I.hok.fresh (Nat.le_refl s.heap.objs.size)
  have I1 := I.laid (a := s.heap.objs.size) (o := .dK []) (h' := s.heap.push { cls := .type "dict", data := .dict #[] }) (t' := s.toks) (fun _ _ q => Heap.get?_push_of_some _ q) (Nat.le_refl _) (dk_empty s.heap I.big)
  refine wpAny_Dict_walk (knd := mixKind X.prog X.w) hall hl h0 h15 (thn (h pins _ σ _ _ I1 (q _ hn)) fun ws s2 ⟨ps, H2, I2, rel, e, kvs, ep, lk, q2⟩ => ?_)
  subst ep
  obtain ⟨rs, c, rk⟩ := carries_of (P := X.prog) (w := X.w) rel
  obtain ⟨z, hd, vs0, r0, dd⟩ := dk_of I2.hok e
  cases r0
  refine ⟨rs, c, dd, fun h' dd' hs => ⟨.ref s.heap.objs.size, _, ?_, rfl, q2⟩⟩
  have hz : (mergeK [] kvs).length ≤ sizeLine := by
    have h1 := length_mergeK kvs []
    rw [List.length_nil] at h1
    rw [sizeLine_eq]; omega
  have he : ∃ q, h'.get? s.heap.objs.size = some q := let ⟨q, _, _, hq, _⟩ := dd'; ⟨q, hq⟩
  exact d_write I2 (by rw [e]; exact True.intro) hs he (dk_new hz hd (rk.merge .nil) dd')


/-! ### methods -/
/-- a method call o.m(e) of a built-in, with one argument: what must be seen of the text -/
structure M1 (X : Cx) (o : Expr) (m : Str) (apos : Pos) (e : Expr) (cpos : Pos) : Prop where
  base : attributeBase o m X.env (eval o X.env) = eval o X.env
  few : ((backTo cpos (starEach [e] X.env)).all (fun x => !x.1) && (backToKw cpos (keywordEach [] X.env)).all (fun x => x.1.isSome)
    && decide (([e] : List Expr).length + ([] : List Keyword).length + (if ([] : List Keyword).isEmpty then 0 else 1) < 30)) = true
  line : (apos.endLine == cpos.line) = true
  trees : backTo cpos (starEach [e] X.env) = [(false, eval e X.env)]
structure M2 (X : Cx) (o : Expr) (m : Str) (apos : Pos) (e f : Expr) (cpos : Pos) : Prop where
  base : attributeBase o m X.env (eval o X.env) = eval o X.env
  few : ((backTo cpos (starEach [e, f] X.env)).all (fun x => !x.1) && (backToKw cpos (keywordEach [] X.env)).all (fun x => x.1.isSome)
    && decide (([e, f] : List Expr).length + ([] : List Keyword).length + (if ([] : List Keyword).isEmpty then 0 else 1) < 30)) = true
  line : (apos.endLine == cpos.line) = true
  trees : backTo cpos (starEach [e, f] X.env) = [(false, eval e X.env), (false, eval f X.env)]

/-- a is a dict, whatever its keys -/
def IsD (H : Hp) (a : Addr) : Prop := (∃ kvs, Rd H a (.dK kvs)) ∨ ∃ kvs, Rd H a (.dT kvs)
theorem isD_at {X : Cx} {pins : List (Addr × Obj)} {σ : St} {H : Hp} {s : Shared} {a : Addr} (I : Inv X pins σ H s) (d : IsD H a) :
    s.TypeIs (.ref a) "dict" ∧ (∀ b, Value.ref a = .ref b → ∃ ob, s.heap.get? b = some ob ∧ ob.dict = none) ∧ (a == sysModules) = false := by
  rcases d with ⟨kvs, e⟩ | ⟨kvs, e⟩
  · obtain ⟨_, hd, vs, _, dd⟩ := dk_rd I.hok e
    refine ⟨dd.typeIs, fun b q => ?_, hd⟩
    cases q
    obtain ⟨ob, _, _, h1, h2, _⟩ := dd
    exact ⟨ob, h1, h2.2.1⟩
  · obtain ⟨_, hd, xs, _, dd⟩ := dt_rd I.hok e
    refine ⟨dd.typeIs, fun b q => ?_, hd⟩
    cases q
    obtain ⟨ob, _, _, h1, h2, _⟩ := dd
    exact ⟨ob, h1, h2.2.1⟩

section
variable {X : Cx} {pins : List (Addr × Obj)} {σ : St} {H : Hp} {s : Shared} {a : Addr} {y d : V} {u r : Value} {o : Option V} {A : Around} {E : Value → Shared → Prop}
/-- d.get(y) -/
theorem d_get1 {Q : Value → Shared → Prop} (hu : A.units + 1 < cLine) (I : Inv X pins σ H s) (g : DGet H a y o) (ry : RelV y u) (h : ∀ w' s', Inv X pins σ H s' → RelV (o.getD .non) w' → Q w' s') :
    wpAny (model X.prog X.w) A (call (.builtin "dict.get") [.ref a, u]) Q E s := by
  rcases g with ⟨kvs, k, e, ey, l⟩ | ⟨kvs, k, b, e, ey, eb, l⟩
  · subst ey
    obtain ⟨z, hd, vs, rel, dd⟩ := dk_rd I.hok e
    refine call_meetsIn PySem.F.slot_dict_get dd.typeIs PySem.F.entry_dict_get (PySem.F.args_dict_get_2 _ _) (meets_dict_get (mixKind X.prog X.w) a (kV_is ry) hd) ⟨_, dd.mapOf, h _ _ (I.tok _) ?_⟩
    rw [l]
    exact (rel.val k).getD rfl
  · subst ey
    cases (show u = Value.ref b from ry)
    obtain ⟨z, hd, xs, rel, dd⟩ := dt_rd I.hok e
    refine call_meetsIn PySem.F.slot_dict_get dd.typeIs PySem.F.entry_dict_get (PySem.F.args_dict_get_2 _ _) (meetsH_dict_get (tupleKind (mixKind X.prog X.w)) a b hd) ⟨tupleKind_room_in1 hu, k, xs, key_of I.hok eb, dd, h _ _ (I.tok _) ?_⟩
    rw [l]
    exact (rel.val k).getD rfl
/-- d.get(y, x) -/
theorem d_get2 {Q : Value → Shared → Prop} (hu : A.units + 1 < cLine) (I : Inv X pins σ H s) (g : DGet H a y o) (ry : RelV y u) (rd : RelV d r) (h : ∀ w' s', Inv X pins σ H s' → RelV (o.getD d) w' → Q w' s') :
    wpAny (model X.prog X.w) A (call (.builtin "dict.get") [.ref a, u, r]) Q E s := by
  rcases g with ⟨kvs, k, e, ey, l⟩ | ⟨kvs, k, b, e, ey, eb, l⟩
  · subst ey
    obtain ⟨z, hd, vs, rel, dd⟩ := dk_rd I.hok e
    refine call_meetsIn PySem.F.slot_dict_get dd.typeIs PySem.F.entry_dict_get (PySem.F.args_dict_get_3 _ _ _) (meets_dict_get_default (mixKind X.prog X.w) a (kV_is ry) hd r) ⟨_, dd.mapOf, h _ _ (I.tok _) ?_⟩
    rw [l]
    exact (rel.val k).getD rd
  · subst ey
    cases (show u = Value.ref b from ry)
    obtain ⟨z, hd, xs, rel, dd⟩ := dt_rd I.hok e
    refine call_meetsIn PySem.F.slot_dict_get dd.typeIs PySem.F.entry_dict_get (PySem.F.args_dict_get_3 _ _ _) (meetsH_dict_get_default (tupleKind (mixKind X.prog X.w)) a b hd r) ⟨tupleKind_room_in1 hu, k, xs, key_of I.hok eb, dd, h _ _ (I.tok _) ?_⟩
    rw [l]
    exact (rel.val k).getD rd
end

def tDGet1 (td ty : TE) : TE := fun σ H Q => td σ H fun x H1 => ∃ a, x = .ref a ∧ IsD H1 a ∧ ty σ H1 fun y H2 => ∃ o, DGet H2 a y o ∧ Q (o.getD .non) H2
def tDGet2 (td ty tx : TE) : TE := fun σ H Q => td σ H fun x H1 => ∃ a, x = .ref a ∧ IsD H1 a ∧ ty σ H1 fun y H2 => tx σ H2 fun z H3 => ∃ o, DGet H3 a y o ∧ Q (o.getD z) H3
/-- d.pop(k): there; d.pop(k, x): there or not -/
def tDPop1 (td ty : TE) : TE := fun σ H Q => td σ H fun x H1 => ∃ a, x = .ref a ∧ IsD H1 a ∧ ty σ H1 fun y H2 => ∃ kvs k v, H2 a = some (.dK kvs) ∧ y = kV k ∧ valV kvs k = some v ∧ Q v (upd H2 a (.dK (dropK kvs k)))
def tDPop2 (td ty tx : TE) : TE := fun σ H Q => td σ H fun x H1 => ∃ a, x = .ref a ∧ IsD H1 a ∧ ty σ H1 fun y H2 => tx σ H2 fun z H3 => ∃ kvs k, H3 a = some (.dK kvs) ∧ y = kV k ∧
  (∀ v, valV kvs k = some v → Q v (upd H3 a (.dK (dropK kvs k)))) ∧ (valV kvs k = none → Q z H3)
section
variable {X : Cx} {o e f : Expr} {apos cpos : Pos} {td ty tx : TE}
theorem pe_dget1 (hu : X.A.units + 1 < cLine) (ho : PE X o td) (he : PE X e ty) (m : M1 X o "get" apos e cpos) : PE X (.Call (.Attribute o "get" apos) [e] [] cpos) (tDGet1 td ty) := by
  intro pins s σ H Q I h
  refine wpAny_Call_method m.base m.few m.line PySem.F.plainAttrs_dict PySem.F.slot_dict_get PySem.F.type_dict_get (thn (ho pins s σ H _ I h) fun u s1 ⟨x, H1, I1, rx, a, ex, d, q1⟩ => ?_)
  subst ex
  obtain rfl : u = Value.ref a := rx
  obtain ⟨t1, t2, _⟩ := isD_at I1 d
  refine ⟨t1, t2, ?_⟩
  rw [m.trees]
  refine Calls.callWith_builtin rfl (Calls.evalArgs_plain (Calls.spliced_cons (thn (he pins s1 σ H1 _ I1 q1) fun iv s2 ⟨y, H2, I2, ry, ov, g, q2⟩ => Calls.spliced_nil ?_)))
  exact d_get1 hu I2 g ry fun w' s3 I3 rw' => ⟨_, H2, I3, rw', q2⟩
theorem pe_dget2 (hu : X.A.units + 1 < cLine) (ho : PE X o td) (he : PE X e ty) (hf : PE X f tx) (m : M2 X o "get" apos e f cpos) : PE X (.Call (.Attribute o "get" apos) [e, f] [] cpos) (tDGet2 td ty tx) := by
  intro pins s σ H Q I h
  refine wpAny_Call_method m.base m.few m.line PySem.F.plainAttrs_dict PySem.F.slot_dict_get PySem.F.type_dict_get (thn (ho pins s σ H _ I h) fun u s1 ⟨x, H1, I1, rx, a, ex, d, q1⟩ => ?_)
  subst ex
  obtain rfl : u = Value.ref a := rx
  obtain ⟨t1, t2, _⟩ := isD_at I1 d
  refine ⟨t1, t2, ?_⟩
  rw [m.trees]
  refine Calls.callWith_builtin rfl (Calls.evalArgs_plain (Calls.spliced_cons (thn (he pins s1 σ H1 _ I1 q1) fun iv s2 ⟨y, H2, I2, ry, q2⟩ =>
    Calls.spliced_cons (thn (hf pins s2 σ H2 _ I2 q2) fun fv s3 ⟨z, H3, I3, rz, ov, g, q3⟩ => Calls.spliced_nil ?_))))
  exact d_get2 hu I3 g ry rz fun w' s4 I4 rw' => ⟨_, H3, I4, rw', q3⟩
theorem pe_dpop1 (ho : PE X o td) (he : PE X e ty) (m : M1 X o "pop" apos e cpos) : PE X (.Call (.Attribute o "pop" apos) [e] [] cpos) (tDPop1 td ty) := by
  intro pins s σ H Q I h
  refine wpAny_Call_method m.base m.few m.line PySem.F.plainAttrs_dict PySem.F.slot_dict_pop PySem.F.type_dict_pop (thn (ho pins s σ H _ I h) fun u s1 ⟨x, H1, I1, rx, a, ex, d, q1⟩ => ?_)
  subst ex
  obtain rfl : u = Value.ref a := rx
  obtain ⟨t1, t2, _⟩ := isD_at I1 d
  refine ⟨t1, t2, ?_⟩
  rw [m.trees]
  refine Calls.callWith_builtin rfl (Calls.evalArgs_plain (Calls.spliced_cons (thn (he pins s1 σ H1 _ I1 q1) fun iv s2 ⟨y, H2, I2, ry, kvs, k, v, ea, ey, l, q2⟩ => Calls.spliced_nil ?_)))
  subst ey
  exact d_pop I2 ea ry l (.inl rfl) fun w' s3 I3 rw' => ⟨v, _, I3, rw', q2⟩
theorem pe_dpop2 (ho : PE X o td) (he : PE X e ty) (hf : PE X f tx) (m : M2 X o "pop" apos e f cpos) : PE X (.Call (.Attribute o "pop" apos) [e, f] [] cpos) (tDPop2 td ty tx) := by
  intro pins s σ H Q I h
  refine wpAny_Call_method m.base m.few m.line PySem.F.plainAttrs_dict PySem.F.slot_dict_pop PySem.F.type_dict_pop (thn (ho pins s σ H _ I h) fun u s1 ⟨x, H1, I1, rx, a, ex, d, q1⟩ => ?_)
  subst ex
  obtain rfl : u = Value.ref a := rx
  obtain ⟨t1, t2, _⟩ := isD_at I1 d
  refine ⟨t1, t2, ?_⟩
  rw [m.trees]
  refine Calls.callWith_builtin rfl (Calls.evalArgs_plain (Calls.spliced_cons (thn (he pins s1 σ H1 _ I1 q1) fun iv s2 ⟨y, H2, I2, ry, q2⟩ =>
    Calls.spliced_cons (thn (hf pins s2 σ H2 _ I2 q2) fun fv s3 ⟨z, H3, I3, rz, kvs, k, ea, ey, q3, q4⟩ => Calls.spliced_nil ?_))))
  subst ey
  cases l : valV kvs k with
  | some v => exact d_pop I3 ea ry l (.inr ⟨fv, rfl⟩) fun w' s4 I4 rw' => ⟨v, _, I4, rw', q3 v l⟩
  | none => exact d_popD I3 ea ry l fun s4 I4 => ⟨z, H3, I4, rz, q4 l⟩
end

/-! ### dict(d): a copy -/
section
variable {X : Cx} {pins : List (Addr × Obj)} {σ : St} {H : Hp} {s : Shared} {a : Addr} {kvs : List (Key × V)} {A : Around} {E : Value → Shared → Prop}
theorem d_copyOf {Q : Value → Shared → Prop} (I : Inv X pins σ H s) (e : Rd H a (.dK kvs)) (h : ∀ p s', H p = none → Inv X pins σ (upd H p (.dK kvs)) s' → Q (.ref p) s') : wpAny (model X.prog X.w) A (call (.type "dict") [.ref a]) Q E s := by
  obtain ⟨z, hd, vs, rel, dd⟩ := dk_rd I.hok e
  refine kt_call_dict hd dd (by rw [← rel.length]; exact z) fun h' dd' hs => ?_
  refine h _ _ (I.hok.fresh (Nat.le_refl _)) (I.laid (a := s.heap.objs.size) (o := .dK kvs) (t' := s.toks) (fun b q hq => ?_) (Nat.le_refl _) (dk_new z (beq_eq_false_iff_ne.mpr (Ne.symm (Nat.ne_of_lt I.big))) rel dd'))
  exact (hs.2 b (Nat.ne_of_lt (Heap.lt_size hq))).trans (Heap.get?_push_of_some _ hq)
end


section
variable {X : Cx} {pins : List (Addr × Obj)} {σ : St} {H : Hp} {s : Shared} {a : Addr} {y : V} {u : Value} {A : Around} {E : Value → Shared → Prop}
/-- d[y], not there: a KeyError -/
theorem d_missing {Q : Value → Shared → Prop} (hu : A.units + 1 < cLine) (hh : A.handled = none) (I : Inv X pins σ H s) (g : DGet H a y none) (ry : RelV y u)
    (h : ∀ h' e t', Heap.NewExc s.heap h' e "KeyError" → E (.ref e) { s with heap := h', toks := t' }) : wpAny (model X.prog X.w) A (getItem (.ref a) u) Q E s := by
  rcases g with ⟨kvs, k, e, ey, l⟩ | ⟨kvs, k, b, e, ey, eb, l⟩
  · subst ey
    obtain ⟨z, hd, vs, rel, dd⟩ := dk_rd I.hok e
    have hn : valueAt vs k = none := RelO.none_of (by rw [l]; exact rel.val k)
    exact wpAny_getItem_missing_of (kV_is ry) hd hh dd.mapOf hn fun h' ex ne => h h' ex _ ne
  · subst ey
    cases (show u = Value.ref b from ry)
    obtain ⟨z, hd, xs, rel, dd⟩ := dt_rd I.hok e
    have hn : (atKey xs k).map (·.2) = none := RelO.none_of (by rw [l]; exact rel.val k)
    exact wpAny_getItem_missing_heap (tupleKind_room_in1 hu) (key_of I.hok eb) hd hh dd (Option.map_eq_none_iff.mp hn) fun h' ex ne => h h' ex _ ne
end
end L2

namespace Att
open PySem PySem.W PySem.Calls PyProof.Rows

/-! ### the script -/
theorem ints_of_wellAll {P : Params} {h : Heap} : ∀ (ns : List Int) (vs : List Value), WellAll P h vs (ns.map WData.int) → IntsAre vs ns := by
  intro ns
  induction ns with
  | nil =>
    intro vs w
    rw [List.map_nil] at w
    cases w
    exact .nil
  | cons n ns ih =>
    intro vs w
    rw [List.map_cons] at w
    cases w with
    | cons a b =>
      cases a
      exact .cons _ _ (ih _ b)

theorem script_of {l : OpenLaw} {n : Nat} (hn : l.most = some n) {P : Params} {h : Heap} {args : List WData} {vals : List Value}
    (hpre : l.row.toRowW.claim.pre args = true) (hwl : WellAll P h vals args) :
    ∃ a vs ns, vals = [Value.ref a] ∧ args = [WData.list (ns.map WData.int)] ∧ h.get? a = some { cls := .type "list", data := .seq vs.toArray } ∧ IntsAre vs ns ∧ ns.length ≤ n := by
  have hsh : WShape.hasAll [] args [.list .int] = true := (pre_splitW hpre).1
  have hc : l.pre.holds [] { args := args } = true := (pre_splitW hpre).2
  obtain ⟨d, r, rfl, h1, h2⟩ := hasAllW_cons hsh
  obtain rfl := hasAllW_nil h2
  obtain ⟨xs, rfl, h3⟩ := hasW_list h1
  obtain ⟨ns, rfl⟩ := items_int h3
  have hlen : ns.length ≤ n := by
    unfold OpenLaw.pre at hc
    have h4 : (WTm.not (.lt (.lit (.int (n : Int))) (.len (.arg 0)))).holds [] { args := [.list (ns.map .int)] } = true := by
      have h4 := (holds_andW hc).1
      rw [hn] at h4
      exact h4
    have h5 := condW_of h4 (w_not (w_lt w_lit (w_len_list (w_arg rfl))))
    rw [List.length_map] at h5
    refine Nat.le_of_not_lt fun q => ?_
    have q' : (n : Int) < ((ns.length : Nat) : Int) := by omega
    first
      | (rw [decide_eq_true q'] at h5; exact absurd h5 (by decide))
      | (simp at h5; omega)
  cases hwl with
  | cons w1 w2 =>
    cases w2
    cases w1 with
    | list ho hall => exact ⟨_, _, ns, rfl, rfl, ho, ints_of_wellAll ns _ hall, hlen⟩

theorem post_true (l : OpenLaw) (args : List WData) : l.row.toRowW.claim.post args (.bool true) args = true :=
  postW_of (r := l.row.toRowW) (X := (true == true))
    (show WShape.has [] (.bool true) .bool = true by first | rfl | decide | simp [WShape.has, WShape.arms, WShape.armsAll])
    (show (WTm.eq .res (.lit (.bool true))).value [] { args := args, res := some (.bool true), after := args } = some (.bool (true == true)) from w_eq_bool (w_res rfl) w_lit) rfl

/-! ### the attachment: holds_open's last premise (the goal 'hc' behind k_head) from a wpAny of the law's body -/
theorem attach {l : OpenLaw} {n : Nat} {q : Program} {loose : List Str} {XP : (Str → Option Value) → Heap → Prop} {YP : World → Heap → Prop} {d : DefRec} {x : Str}
    (hn : l.most = some n) (hdf : d.params.defaults = [])
    (hbind : ∀ pm cd doc v : Value, bindArgs (docDef d.name d.params d.body d.scope pm cd doc) ⟨[v], []⟩ = pure [(x, v)])
    (hx : d.scope.names.lookup x = some .local ∨ d.scope.names.lookup x = some .cell)
    (hk : d.scope.kind = .function) (hco : d.scope.isCoroutine = false) (hgen : d.scope.isGenerator = false)
    (body : ∀ (w : World) (s₀ s₁ s : Shared) (mg mb : Str → Option Value) (fa : Addr) (o : Obj) (pm cd doc : Value) (a : Addr) (vs : List Value) (ns : List Int),
      Ground q loose [] XP w s₀ mg mb s₁.heap → YP w s₁.heap →
      s₁.heap.get? fa = some o → o.data = .func (docDef d.name d.params d.body d.scope pm cd doc) → s₁.heap.CodeRec cd d.name → mg d.name = some (.ref fa) →
      s₁.heap.get? a = some { cls := .type "list", data := .seq vs.toArray } → IntsAre vs ns → ns.length ≤ n →
      s.gens = #[] → s.os = s₁.os →
      Fr s₁.heap s₁.heap.objs.size s.heap (bindL (envOfC d.name d.scope s₁.heap.objs.size fa cd).kindOf [(x, .ref a)] fun _ => none) →
      Cl s₁.heap.objs.size (cellsFrom (s₁.heap.objs.size + 1) d.scope.names []) s.heap (bindC (envOfC d.name d.scope s₁.heap.objs.size fa cd).kindOf [(x, .ref a)] fun _ => none) →
      wpAny (model l.prog w) (callerA.deeper (envOfC d.name d.scope s₁.heap.objs.size fa cd)) (execs d.body (envOfC d.name d.scope s₁.heap.objs.size fa cd))
        (fun f s' => f = .ret (.bool true) ∧ OldK s₁.heap s'.heap ∧ s'.os = s₁.os ∧ AllBare s'.gens) (fun _ _ => False) s) :
    WalkO q loose XP YP l.row.toRowW d [] (fun f vs => PySem.call f vs) := by
  intro w s₀ s₁ mg mb G Y fa o pm cd doc dV kV ho hd hcd hD hmg hg args vals as hpre hlay hrd hwl hlo
  obtain rfl : dV = .none := Dflts.none hD hdf
  obtain rfl : kV = .none := Dflts.noKw hD
  obtain ⟨a, vs, ns, rfl, rfl, hobj, hints, hlen⟩ := script_of hn hpre hwl
  refine enter_call ?_
  refine call_cells_ret (o := o) (by rw [depth_caller]; decide) ho (fd_plain hd) G.T.nolimit hcd (hbind pm cd doc (.ref a)) (fun y hy => ?_) (fun h₁ tk F X => ?_) hco hgen hk
  · obtain rfl : y = (x, Value.ref a) := List.mem_singleton.mp hy
    rcases hx with e | e
    · exact .inl e
    · exact .inr ⟨e, cellsFrom_some _ _ _ (.inl e)⟩
  · refine wpAny_mono (body w s₀ s₁ { s₁ with heap := h₁, toks := tk } mg mb fa o pm cd doc a vs ns G Y ho (fd_plain hd) hcd hmg hobj hints hlen hg rfl F X) (fun f s' hq => ?_) (fun _ _ hq => hq)
    obtain ⟨rfl, h2, h3, h4⟩ := hq
    exact ⟨.inl ⟨.bool true, .bool true, [], rfl, fun _ => rfl, .bool true, post_true l _, fun _ => ⟨List.Pairwise.nil, fun _ hm => (nomatch hm)⟩⟩, h2, h3, h4⟩

/-- the same from a codeAny of the CALL (for a layer whose function contracts speak of calls) -/
theorem attach_call {l : OpenLaw} {n : Nat} {q : Program} {loose : List Str} {XP : (Str → Option Value) → Heap → Prop} {YP : World → Heap → Prop} {d : DefRec}
    (hn : l.most = some n) (hdf : d.params.defaults = [])
    (call : ∀ (w : World) (s₀ s₁ : Shared) (mg mb : Str → Option Value) (fa : Addr) (o : Obj) (pm cd doc : Value) (a : Addr) (vs : List Value) (ns : List Int),
      Ground q loose [] XP w s₀ mg mb s₁.heap → YP w s₁.heap →
      s₁.heap.get? fa = some o → o.data = .func (docDef d.name d.params d.body d.scope pm cd doc) → s₁.heap.CodeRec cd d.name → mg d.name = some (.ref fa) →
      s₁.heap.get? a = some { cls := .type "list", data := .seq vs.toArray } → IntsAre vs ns → ns.length ≤ n → s₁.gens = #[] →
      codeAny (model l.prog w) callerA (.call (.ref fa) ⟨[.ref a], []⟩) (fun r s' => r = .ok (.ret (.bool true)) ∧ OldK s₁.heap s'.heap ∧ s'.os = s₁.os ∧ AllBare s'.gens) s₁) :
    WalkO q loose XP YP l.row.toRowW d [] (fun f vs => PySem.call f vs) := by
  intro w s₀ s₁ mg mb G Y fa o pm cd doc dV kV ho hd hcd hD hmg hg args vals as hpre hlay hrd hwl hlo
  obtain rfl : dV = .none := Dflts.none hD hdf
  obtain rfl : kV = .none := Dflts.noKw hD
  obtain ⟨a, vs, ns, rfl, rfl, hobj, hints, hlen⟩ := script_of hn hpre hwl
  refine enter_call (codeAny_mono (call w s₀ s₁ mg mb fa o pm cd doc a vs ns G Y ho (fd_plain hd) hcd hmg hobj hints hlen hg) fun r s' hq => ?_)
  obtain ⟨rfl, h2, h3, h4⟩ := hq
  exact ⟨.inl ⟨.bool true, .bool true, [], rfl, fun _ => rfl, .bool true, post_true l _, fun _ => ⟨List.Pairwise.nil, fun _ hm => (nomatch hm)⟩⟩, h2, h3, h4⟩

/-- the same where the top left finished generators (o_head chose holds_openN): nothing may have changed at all and no generator may be left -/
theorem attachN {l : OpenLaw} {n : Nat} {q : Program} {loose : List Str} {XP : (Str → Option Value) → Heap → Prop} {YP : World → Heap → Prop} {d : DefRec} {x : Str}
    (hn : l.most = some n) (hdf : d.params.defaults = [])
    (hbind : ∀ pm cd doc v : Value, bindArgs (docDef d.name d.params d.body d.scope pm cd doc) ⟨[v], []⟩ = pure [(x, v)])
    (hx : d.scope.names.lookup x = some .local ∨ d.scope.names.lookup x = some .cell)
    (hk : d.scope.kind = .function) (hco : d.scope.isCoroutine = false) (hgen : d.scope.isGenerator = false)
    (body : ∀ (w : World) (s₀ s₁ s : Shared) (mg mb : Str → Option Value) (fa : Addr) (o : Obj) (pm cd doc : Value) (a : Addr) (vs : List Value) (ns : List Int),
      Ground q loose [] XP w s₀ mg mb s₁.heap → YP w s₁.heap →
      s₁.heap.get? fa = some o → o.data = .func (docDef d.name d.params d.body d.scope pm cd doc) → s₁.heap.CodeRec cd d.name → mg d.name = some (.ref fa) →
      s₁.heap.get? a = some { cls := .type "list", data := .seq vs.toArray } → IntsAre vs ns → ns.length ≤ n →
      s.gens = #[] → s.os = s₁.os →
      Fr s₁.heap s₁.heap.objs.size s.heap (bindL (envOfC d.name d.scope s₁.heap.objs.size fa cd).kindOf [(x, .ref a)] fun _ => none) →
      Cl s₁.heap.objs.size (cellsFrom (s₁.heap.objs.size + 1) d.scope.names []) s.heap (bindC (envOfC d.name d.scope s₁.heap.objs.size fa cd).kindOf [(x, .ref a)] fun _ => none) →
      wpAny (model l.prog w) (callerA.deeper (envOfC d.name d.scope s₁.heap.objs.size fa cd)) (execs d.body (envOfC d.name d.scope s₁.heap.objs.size fa cd))
        (fun f s' => f = .ret (.bool true) ∧ (∀ b o, s₁.heap.get? b = some o → s'.heap.get? b = some o) ∧ s'.os = s₁.os ∧ s'.gens = #[]) (fun _ _ => False) s) :
    WalkN q loose XP YP l.row.toRowW d [] (fun f vs => PySem.call f vs) := by
  intro w s₀ s₁ mg mb G Y fa o pm cd doc dV kV ho hd hcd hD hmg hg args vals as hpre hlay hrd hwl hlo
  obtain rfl : dV = .none := Dflts.none hD hdf
  obtain rfl : kV = .none := Dflts.noKw hD
  obtain ⟨a, vs, ns, rfl, rfl, hobj, hints, hlen⟩ := script_of hn hpre hwl
  refine enter_callW ?_
  refine call_cells_ret (o := o) (by rw [depth_caller]; decide) ho (fd_plain hd) G.T.nolimit hcd (hbind pm cd doc (.ref a)) (fun y hy => ?_) (fun h₁ tk F X => ?_) hco hgen hk
  · obtain rfl : y = (x, Value.ref a) := List.mem_singleton.mp hy
    rcases hx with e | e
    · exact .inl e
    · exact .inr ⟨e, cellsFrom_some _ _ _ (.inl e)⟩
  · refine wpAny_mono (body w s₀ s₁ { s₁ with heap := h₁, toks := tk } mg mb fa o pm cd doc a vs ns G Y ho (fd_plain hd) hcd hmg hobj hints hlen hg rfl F X) (fun f s' hq => ?_) (fun _ _ hq => hq)
    obtain ⟨rfl, h2, h3, h4⟩ := hq
    exact ⟨.inl ⟨.bool true, .bool true, [], rfl, fun _ => rfl, .bool true, post_true l _, fun _ => ⟨List.Pairwise.nil, fun _ hm => (nomatch hm)⟩⟩, h2, h3, h4⟩

/-! ### rules over ANY heap (no ledger) from facts about the written part K: the library's own take a ledger (News) for what they write -/
section
variable {prog : Program} {w : World} {A : Around} {E : Value → Shared → Prop} {s : Shared} {K : Frag}

/-- a def of the module, or a method (qual 'C.m'), entered: the frame is the next address; cells behind it -/
theorem call_fn {R : Result → Shared → Prop} {name qual : Str} {params : Arguments} {body : List Stmt} {scope : Scope} {dV kV doc pm cdv ct oc : Value} {an od : Option Addr} {osl : Array (Option Value)} {f : Addr} {args : Args} {binds : List (Str × Value)}
    (X : K.In s.heap) (hlim : s.heap.NoLimit) (ho : K.lookup f = some ⟨oc, od, .func (fnOf name qual params body scope dV kV doc pm an cdv ct), osl⟩) (hcd : codeIn K cdv qual = true) (hroom : A.depth < recursionLimit)
    (hbind : BindsTo s (fnOf name qual params body scope dV kV doc pm an cdv ct) args binds)
    (hkind : (binds.all fun y => scope.names.lookup y.1 == some .local || scope.names.lookup y.1 == some .cell) = true)
    (h : ∀ s₁, InCallC s s.heap.objs.size (bindL (envOfC qual scope s.heap.objs.size f cdv).kindOf binds fun _ => none) (cellsFrom (s.heap.objs.size + 1) scope.names [])
        (bindC (envOfC qual scope s.heap.objs.size f cdv).kindOf binds fun _ => none) s₁ →
      wpAny (model prog w) (A.deeper (envOfC qual scope s.heap.objs.size f cdv)) (execs body (envOfC qual scope s.heap.objs.size f cdv))
        (fun fl s' => R (.ok (.ret (match fl with | .ret v => v | _ => .none))) s')
        (fun e s' => wpAny (model prog w) (A.deeper (envOfC qual scope s.heap.objs.size f cdv)) (leaving (envOfC qual scope s.heap.objs.size f cdv) e) (fun _ s'' => R (.error e) s'') (fun e' s'' => R (.error e') s'') s') s₁)
    (hco : scope.isCoroutine = false) (hgen : scope.isGenerator = false) (hk : scope.kind = .function) : codeAny (model prog w) A (.call (.ref f) args) R s := by
  refine codeAny_call_function hroom (X _ _ ho) rfl hco hgen rfl (codeRec_of X hcd) (hbind _ _ _ _ ?_)
  refine wpAny_newFunctionEnv_cells hk (kindsX hkind _) fun env he s₁ x => ?_
  subst he
  exact ⟨hlim.keeps x.toInCall.keep, codeAny_func (h s₁ x)⟩

/-- C(..): dict at size, instance at size + 1, then __init__ -/
theorem make_obj {R : Result → Shared → Prop} {C fI : Addr} {rest : List Value} {kw : List (Str × Value)}
    (X : K.In s.heap) (hm : makesIn K C = true) (hi : findIn K (.ref C) "__init__" = some (some (.ref fI))) (hf : isFn K (.ref fI) = true)
    (h : codeAny (model prog w) (A.under (.builtin "type.__call__" ⟨.ref C :: rest, kw⟩)) (.call (.ref fI) ⟨.ref (s.heap.objs.size + 1) :: rest, kw⟩) (InitBack (s.heap.objs.size + 1) R)
      { s with heap := (s.heap.push emptyDict).push (instObj C s.heap.objs.size) }) : codeAny (model prog w) A (.call (.ref C) ⟨rest, kw⟩) R s := by
  obtain ⟨hh, g, d, t, os⟩ := s
  exact make_core (makes_of X hm) (looks_findIn X hi) (fun self => bind_fn X self (beq_iff_eq.mp hf)) (.inl rfl) h

/-- x.name where the instance's dict holds the name and the class does not -/
theorem get_field {x C : Addr} {ox : Obj} {es : List DictEntry} {n : Nat} {name : Str} {expr : Bool} {v : Value} {Q : Value → Shared → Prop}
    (X : K.In s.heap) (I : PySem.W.InstAt s.heap x ox C (some (dictOf es n))) (hg : plainGet K C name = true) (hh : hasDictIn K C = true) (ha : findIn K (.ref C) name = some none)
    (hl : getL name es = some (some v)) (hv : handedIn v = true) (h : Q v { s with toks := s.toks + 1 }) : wpAny (model prog w) A (getAttr (.ref x) name expr) Q E s :=
  get_value X I (plainGet_of hg).1 (findObj_own hh ha rfl hl) hv h

/-- x.m(..): the method found in the class -/
theorem get_method {x C f : Addr} {ox : Obj} {es : List DictEntry} {n : Nat} {name : Str} {pl : Sem Bool} {Q : Value × List Value → Shared → Prop}
    (X : K.In s.heap) (I : PySem.W.InstAt s.heap x ox C (some (dictOf es n))) (hg : plainGet K C name = true) (hf : findIn K (.ref C) name = some (some (.ref f))) (ht : isFn K (.ref f) = true)
    (hl : getL name es = some none) (h : Q (.ref f, [.ref x]) s) : wpAny (model prog w) A (getMethod (.ref x) name pl) Q E s :=
  method_fn X I (plainGet_of hg).1 (plainGet_of hg).2 hf (beq_iff_eq.mp ht) (by show (lookIn name (dictOf es n)).map _ = _; rw [lookIn_dict, hl]; rfl) h

/-! the whole heap as the ledger: makes every rule that writes through a ledger a rule over any heap -/
def noObjs (h : Heap) : Heap := { h with objs := #[] }
theorem noObjs_get (h : Heap) (b : Addr) : (noObjs h).get? b = none := by
  cases e : (noObjs h).get? b with
  | none => rfl
  | some o => exact absurd (Heap.lt_size e) (Nat.not_lt_zero _)
def ledger (h : Heap) (L d : Addr) : List (Addr × Obj) := (List.range h.objs.size).filterMap fun a => if a = L ∨ a = d then none else (h.get? a).map fun o => (a, o)
theorem mem_ledger {h : Heap} {L d a : Addr} {o : Obj} : (a, o) ∈ ledger h L d ↔ a ≠ L ∧ a ≠ d ∧ h.get? a = some o := by
  unfold ledger
  rw [List.mem_filterMap]
  constructor
  · rintro ⟨b, _, e⟩
    split at e
    · cases e
    · rename_i hb
      obtain ⟨o', ho, e'⟩ := Option.map_eq_some_iff.mp e
      cases e'
      exact ⟨fun q => hb (.inl q), fun q => hb (.inr q), ho⟩
  · rintro ⟨n1, n2, ho⟩
    refine ⟨a, List.mem_range.mpr (Heap.lt_size ho), ?_⟩
    rw [if_neg (show ¬ (a = L ∨ a = d) from fun q => q.elim n1 n2), ho] <;> rfl
theorem news_ledger {h : Heap} {L d : Addr} {od : Obj} (hne : d ≠ L) (ho : h.get? d = some od) : News (noObjs h) L h ([] ++ (d, od) :: ledger h L d) := by
  rintro ⟨a, o⟩ hp
  rcases List.mem_cons.mp hp with e | hp
  · cases e
    exact ⟨ho, hne, noObjs_get _ _⟩
  · obtain ⟨n1, n2, e⟩ := mem_ledger.mp hp
    exact ⟨e, n1, noObjs_get _ _⟩
theorem fr_all {h : Heap} {L : Addr} {m : Str → Option Value} (n : h.Ns L m) : Fr (noObjs h) L h m :=
  ⟨n, fun b o e => (by rw [noObjs_get] at e; cases e), Nat.zero_le _⟩
/-- Upd of the head entry (for append_K, setItem_K ..) -/
theorem upd_ledger {h : Heap} {L d : Addr} {o o' : Obj} : Upd d o o' ((d, o) :: ledger h L d) ((d, o') :: ledger h L d) :=
  .head fun ⟨_, _⟩ hp => (mem_ledger.mp hp).2.1

/-- x.name = v over any heap: L is any namespace of the heap (the frame's, say): its map stays, its object is not told; all else but the dict stays -/
theorem set_field {x C dx L : Addr} {ox : Obj} {m : Str → Option Value} {es es' : List DictEntry} {n n' : Nat} {name : Str} {v : Value} {Q : Unit → Shared → Prop}
    (X : K.In s.heap) (I : PySem.W.InstAt s.heap x ox C (some (dictOf es n))) (hd : ox.dict = some dx) (hL : s.heap.Ns L m) (hne : dx ≠ L)
    (hs : findIn K (.ref C) "__setattr__" = some (some (.builtin "object.__setattr__"))) (hp : plainOver K C = true) (ht : takerIn K C name = some none) (hh : hasDictIn K C = true) (hl : (getL name es).isSome = true)
    (e : (putL name (PyData.keyHash w.params name) (.str name (s.toks + 1)) v es, putN name es n) = (es', n')) (hz : es'.length ≤ 1000)
    (h : ∀ h' : Heap, h'.Ns L m → h'.get? dx = some (dictOf es' n') → (∀ b o, b ≠ dx → b ≠ L → s.heap.get? b = some o → h'.get? b = some o) → Q () { s with heap := h', toks := s.toks + 2 }) :
    wpAny (model prog w) A (setAttr (.ref x) name v) Q E s := by
  obtain ⟨e1, e2⟩ := Prod.mk.inj e
  have hdx : s.heap.get? dx = some (dictOf es n) := by
    have := I.dict
    rw [hd] at this
    exact this
  refine set_plain X I hs (osa_dict (s := { s with toks := s.toks + 1 }) (h₀ := noObjs s.heap) (L := L) (m := m) (od := dictOf es n) (od' := dictOf es' n') (es := es') (n := n') (pre := []) (post := ledger s.heap L dx)
    (fr_all hL) (news_ledger hne hdx) X I hd hp ht hh hl (fun _ q => nomatch q) (fun ⟨_, _⟩ q => (mem_ledger.mp q).2.1) (by rw [putName_dict, e1, e2]) rfl hz fun h' F' N' => ?_)
  exact h h' F'.ns (N'.get (List.Mem.head _)) fun b o n1 n2 ho => N'.get (List.Mem.tail _ (mem_ledger.mpr ⟨n2, n1, ho⟩))
end
end Att

namespace L2
open PySem PySem.Spec PyProof.Rows

theorem vals_ints : ∀ {vs : List Value} {ns : List Int}, IntsAre vs ns → Vals (ns.map V.int) vs
  | _, _, .nil => .nil
  | _, _, .cons n t h => .cons ⟨t, rfl⟩ (vals_ints h)

/-- nothing is tracked but the script, known to the object (or it is an object of the module) -/
def Only (H : Hp) : Prop := ∀ b, H b = none ∨ ∃ o xs, H b = some (.frz o (.lst xs))

/-- THE HEAD: the law's promise, at the heap behind the top. F, the promise of the law's def, may use that base is part of the heap (so K.In base, base.Ns mainGlobals mg stand in Mod) -/
theorem law_call {P : Program} {w : World} {K : PySem.W.Frag} {mg mb : Str → Option Value} {CX : CXT} {k : Nat} {fa a : Addr} {fd : FuncData} {x : Str} {sp : Sp} {s₁ : Shared} {vs : List Value} {ns : List Int}
    (KX : K.In s₁.heap) (hns : s₁.heap.Ns mainGlobals mg) (hb : s₁.heap.Ns builtinsNs mb) (hbb : ∀ x : Str, x ≠ "__name__" → mb x = bootBuiltins x) (hlim : s₁.heap.NoLimit) (hg : s₁.gens = #[])
    (ha : s₁.heap.get? a = some { cls := .type "list", data := .seq vs.toArray }) (hi : IntsAre vs ns) (hl : ns.length ≤ sizeLine) (hr : Room k callerA)
    (F : ∀ base : Heap, K.In base → base.Ns mainGlobals mg → FnOk P w K mg base CX k fa fd [x] sp) (hbind : ∀ (s : Shared) (u : Value), BindsTo s fd ⟨[u], []⟩ [(x, u)])
    (hsp : ∀ H : Hp, Only H → SqL K H a (ns.map V.int) → sp [.ref a] H (fun v _ => v = .bl true) fun _ _ _ => False)
    (hCX : ∀ H e s', CX [] H s₁ (fun _ _ _ => False) e s' → False) :
    codeAny (model P w) callerA (.call (.ref fa) ⟨[.ref a], []⟩) (fun r s' => r = .ok (.ret (.bool true)) ∧ OldK s₁.heap s'.heap ∧ s'.os = s₁.os ∧ AllBare s'.gens) s₁ := by
  have rv := vals_ints hi
  have lenV := hi.length
  -- from an abstract heap in which nothing but the script may be tracked
  have core : ∀ H : Hp, Only H → SqL K H a (ns.map V.int) → HOk P w H s₁.heap → (∀ b, H b ≠ none → b = a) → (H a ≠ none → K.lookup a = none) →
      codeAny (model P w) callerA (.call (.ref fa) ⟨[.ref a], []⟩) (fun r s' => r = .ok (.ret (.bool true)) ∧ OldK s₁.heap s'.heap ∧ s'.os = s₁.os ∧ AllBare s'.gens) s₁ := by
    intro H hO hS hok hA hK
    have base_of : ∀ {b : Addr} {o : Obj}, s₁.heap.get? b = some o → H b = none → (hidT s₁.heap H).get? b = some o := fun e n => hidT_get e n
    have noA : ∀ {b : Addr} {o : Obj} {es : Array DictEntry} {ep : Nat}, s₁.heap.get? b = some o → o.data = .dict es ep → H b = none := fun {b o es ep} e d => by
      cases q : H b with
      | none => rfl
      | some u =>
        have e' : b = a := hA b (by rw [q]; simp)
        subst e'
        rw [ha] at e; cases e
        have d' : Data.seq vs.toArray _ = Data.dict es ep := d
        cases d'
    have nsK : ∀ {b : Addr} {m : Str → Option Value}, s₁.heap.Ns b m → (hidT s₁.heap H).Ns b m := fun {b m} ⟨o, es, ep, e, d, r⟩ => ⟨o, es, ep, base_of e (noA e d), d, r⟩
    have hKb : K.In (hidT s₁.heap H) := fun b o e => base_of (KX b o e) (by
      cases q : H b with
      | none => rfl
      | some u =>
        have e' : b = a := hA b (by rw [q]; simp)
        subst e'
        rw [hK (by rw [q]; simp)] at e; cases e)
    have hM : Mod K mg (hidT s₁.heap H) := ⟨hKb, nsK hns, ⟨mb, nsK hb, hbb⟩, let ⟨mc, h1, h2⟩ := hlim; ⟨mc, nsK h1, h2⟩⟩
    have e0 : Env0 P w K mg (hidT s₁.heap H) callerA [] s₁ H := ⟨rfl, hM, fun b o e => of_hidT e, Nat.le_of_eq (hidT_size _ _), trivial, fun b hb => absurd (show b ∈ ([] : List Addr) from hb) (by simp), hok, .of_eq hg⟩
    refine codeAny_mono ((F _ hKb (nsK hns)).run callerA [] s₁ H ⟨[.ref a], []⟩ [.ref a] [.ref a] _ _ hr e0 (hbind s₁ (.ref a)) (.cons rfl .nil) (hsp H hO hS)) fun r s' h => ?_
    cases r with
    | error e => exact (hCX H e s' h).elim
    | ok fl =>
      cases fl with
      | next => exact False.elim h
      | brk => exact False.elim h
      | cont => exact False.elim h
      | ret u =>
        obtain ⟨v, H', os, bare, un, hok', r', q⟩ := h
        have q' : v = .bl true := q
        subst q'
        obtain rfl : u = Value.bool true := r'
        refine ⟨rfl, OldK.of_keep fun b o e => ?_, os, bare⟩
        cases q : H b with
        | none => exact un.keep b o e q (by intro z; exact absurd (show b ∈ ([] : List Addr) from z) (by simp)) (by simp)
        | some u =>
          rcases hO b with z | ⟨ob, xs, z⟩
          · rw [q] at z; cases z
          · have z2 := un.frzs b ob _ z
            obtain ⟨e1, _⟩ := hok b _ z
            obtain ⟨e2, _⟩ := hok' b _ z2
            rw [e] at e1; cases e1
            exact e2
  cases hk : K.lookup a with
  | some o =>
    -- the script is one of the module's own objects
    have e := KX a o hk
    rw [ha] at e
    cases e
    refine core (fun _ => none) (fun _ => .inl rfl) (.inr ⟨_, vs.toArray, _, hk, rfl, rfl, rfl, by rw [List.size_toArray, lenV]; exact hl, by simpa using rv⟩) (fun b u z => by have z' : (none : Option HO) = some u := z; cases z') (fun b z => absurd rfl z) fun z => absurd rfl z
  | none =>
    refine core (fun b => if b = a then some (.frz { cls := .type "list", data := .seq vs.toArray } (.lst (ns.map V.int))) else none) (fun b => ?_) (.inl (.inr ⟨{ cls := .type "list", data := .seq vs.toArray }, if_pos rfl⟩)) (fun b u z => ?_) (fun b z => ?_) fun _ => hk
    · by_cases hb : b = a
      · exact .inr ⟨_, _, if_pos hb⟩
      · exact .inl (if_neg hb)
    · by_cases hb : b = a
      · have z' := (if_pos hb).symm.trans z
        cases z'
        subst hb
        exact ⟨ha, by rw [List.length_map]; exact hl, vs, _, rv, ha⟩
      · have z' := (if_neg hb).symm.trans z
        cases z'
    · by_cases hb : b = a
      · exact hb
      · exact absurd (if_neg hb) z
end L2

namespace L2
open PySem PySem.Spec PyProof.Rows

abbrev KOf {K : PySem.W.Frag} {h : Heap} (_ : K.In h) : PySem.W.Frag := K

/-- the goal that k_head leaves (case hc), from the law's promise. F gives the function object fd (K's own) once, then the promise over every base -/
theorem walk_of {l : PySem.W.OpenLaw} {n k : Nat} {q : Program} {loose : List Str} {XP : (Str → Option Value) → Heap → Prop} {YP : World → Heap → Prop} {d : DefRec} {K : Params → PySem.W.Frag} {CX : World → CXT} {sp : World → Sp} {x : Str}
    (hn : l.most = some n) (hn2 : n ≤ sizeLine) (hdf : d.params.defaults = []) (hr : Room k callerA)
    (hY : ∀ (w : World) (h : Heap), YP w h → (K w.params).In h)
    (F : ∀ (w : World) (mg : Str → Option Value) (fa : Addr) (h : Heap), (K w.params).In h → h.Ns mainGlobals mg → mg d.name = some (.ref fa) →
      ∃ fd : FuncData, (∀ (s : Shared) (u : Value), BindsTo s fd ⟨[u], []⟩ [(x, u)]) ∧
        ∀ base : Heap, (K w.params).In base → base.Ns mainGlobals mg → FnOk l.prog w (K w.params) mg base (CX w) k fa fd [x] (sp w))
    (hsp : ∀ (w : World) (H : Hp) (a : Addr) (ns : List Int), ns.length ≤ n → Only H → SqL (K w.params) H a (ns.map V.int) → sp w [.ref a] H (fun v _ => v = .bl true) fun _ _ _ => False)
    (hCX : ∀ (w : World) (H : Hp) (s : Shared) (e : Value) (s' : Shared), CX w [] H s (fun _ _ _ => False) e s' → False) :
    PySem.W.WalkO q loose XP YP l.row.toRowW d [] (fun f vs => PySem.call f vs) := by
  refine Att.attach_call hn hdf fun w s₀ s₁ mg mb fa o pm cd doc a vs ns G Y ho hd hcd hmg hobj hints hlen hg => ?_
  have KX := hY w _ Y
  obtain ⟨fd, hb, hF⟩ := F w mg fa _ KX G.T.g hmg
  exact law_call KX G.T.g G.T.b G.T.builtins G.T.nolimit hg hobj hints (Nat.le_trans hlen hn2) hr hF hb (fun H hO hS => hsp w H a ns hlen hO hS) fun H e s' => hCX w H s₁ e s'
/-- the same where the promise hangs on the written part alone: (sp := My.sp_law), no hole under a binder -/
theorem walk_ofK {l : PySem.W.OpenLaw} {n k : Nat} {q : Program} {loose : List Str} {XP : (Str → Option Value) → Heap → Prop} {YP : World → Heap → Prop} {d : DefRec} {K : Params → PySem.W.Frag} {CX : CXT} {sp : PySem.W.Frag → Sp} {x : Str}
    (hn : l.most = some n) (hn2 : n ≤ sizeLine) (hdf : d.params.defaults = []) (hr : Room k callerA)
    (hY : ∀ (w : World) (h : Heap), YP w h → (K w.params).In h)
    (F : ∀ (w : World) (mg : Str → Option Value) (fa : Addr) (h : Heap), (K w.params).In h → h.Ns mainGlobals mg → mg d.name = some (.ref fa) →
      ∃ fd : FuncData, (∀ (s : Shared) (u : Value), BindsTo s fd ⟨[u], []⟩ [(x, u)]) ∧
        ∀ base : Heap, (K w.params).In base → base.Ns mainGlobals mg → FnOk l.prog w (K w.params) mg base CX k fa fd [x] (sp (K w.params)))
    (hsp : ∀ (K : PySem.W.Frag) (H : Hp) (a : Addr) (ns : List Int), ns.length ≤ n → Only H → SqL K H a (ns.map V.int) → sp K [.ref a] H (fun v _ => v = .bl true) fun _ _ _ => False)
    (hCX : ∀ (H : Hp) (s : Shared) (e : Value) (s' : Shared), CX [] H s (fun _ _ _ => False) e s' → False) :
    PySem.W.WalkO q loose XP YP l.row.toRowW d [] (fun f vs => PySem.call f vs) :=
  walk_of (K := K) (CX := fun _ => CX) (sp := fun w => sp (K w.params)) hn hn2 hdf hr hY F (fun w H a ns h1 h2 h3 => hsp (K w.params) H a ns h1 h2 h3) fun _ H s e s' => hCX H s e s'
end L2


/-! SHORT WORDS over the layer: a def of the text, its body, what a loop and a test want. -/
namespace L2
open PySem PySem.Spec PyProof.Rows

/-! ### the text by places -/
/-- the j-th statement of a class's body -/
def inClass (s : Stmt) (j : Nat) : Stmt := match s with
  | .ClassDef _ _ _ body _ _ _ _ _ _ _ => body.getD j (.Pass ⟨0, 0, 0, 0⟩)
  | _ => .Pass ⟨0, 0, 0, 0⟩
def defArgs (s : Stmt) : Arguments := match s with
  | .FunctionDef _ a _ _ _ _ _ _ _ _ => a
  | _ => { posonlyargs := [], args := [], vararg := none, kwonlyargs := [], kw_defaults := [], kwarg := none, defaults := [] }
def defBody (s : Stmt) : List Stmt := match s with
  | .FunctionDef _ _ b _ _ _ _ _ _ _ => b
  | _ => []
def defScope (s : Stmt) : Scope := match s with
  | .FunctionDef _ _ _ _ _ _ sc _ _ _ => sc
  | _ => { kind := .function, names := [], isGenerator := false, isCoroutine := false }

/-! ### no exception leaves a def -/
abbrev CX0 : CXT := fun _ _ _ _ _ _ => False
abbrev E0 : XK := fun _ _ _ => False
theorem pass0 {X : Cx} : Passes CX0 X E0 := fun _ _ _ _ _ _ _ h => h.elim

/-! ### a def (or method) of the text as it stands behind the top -/
structure Fun (K : PySem.W.Frag) (x qual : Str) (st : Stmt) (f : Addr) (fd : FuncData) : Prop where
  ex : ∃ (oc : Value) (od : Option Addr) (kV doc pm : Value) (an : Option Addr) (cdv ct : Value) (osl : Array (Option Value)),
    fd = PySem.W.fnOf x qual (defArgs st) (defBody st) (defScope st) .none kV doc pm an cdv ct ∧ K.lookup f = some ⟨oc, od, .func fd, osl⟩ ∧ PySem.W.codeIn K cdv qual = true
  kp : PySem.W.keepIn K (.ref f) = true
section
variable {P : Program} {w : World} {K : PySem.W.Frag} {mg : Str → Option Value} {base : Heap}
/-- THE RULE for a def: its body as a term of rules, and the reading of that term -/
theorem Fun.ok {x qual : Str} {st : Stmt} {f : Addr} {fd : FuncData} {N ps : List Str} {k : Nat} {sp : Sp} (F : Fun K x qual st f fd) (S : FnScope N ps (defScope st)) (len : ∀ vs H Q E, sp vs H Q E → vs.length = ps.length)
    (hbody : ∀ (cdv : Value) (A : Around) (outer : List Env) (s : Shared) (H : Hp) (vs : List V) (Q : VK) (E : XK), Room k (A.deeper (envOfC qual (defScope st) s.heap.objs.size f cdv)) → sp vs H Q E →
      ∃ t, PSs (cxOf CX0 P w K mg base N qual (defScope st) f cdv A outer s H E).nox (defBody st) t ∧ t { nx := fun _ H' => Q .non H', rt := Q } (start N vs) H) : FnOk P w K mg base CX0 (k + 1) f fd ps sp := by
  obtain ⟨oc, od, kV, doc, pm, an, cdv, ct, osl, rfl, lk, hcd⟩ := F.ex
  refine fn_of lk hcd S len fun A outer s H vs Q E hr hsp => ?_
  obtain ⟨t, h, q⟩ := hbody cdv A outer s H vs Q E hr hsp
  exact ⟨t, h.nox, q⟩
/-- how its arguments bind (no defaults): h is «fun _ _ _ _ _ _ us hl => match us, hl with | [_, _], _ => rfl», one _ a parameter -/
theorem Fun.binds {x qual : Str} {st : Stmt} {f : Addr} {fd : FuncData} {ps : List Str} (F : Fun K x qual st f fd)
    (h : ∀ (kV doc pm : Value) (an : Option Addr) (cdv ct : Value) (us : List Value), us.length = ps.length → bindArgs (PySem.W.fnOf x qual (defArgs st) (defBody st) (defScope st) .none kV doc pm an cdv ct) ⟨us, []⟩ = pure (ps.zip us)) : Binds K fd ps [] := by
  obtain ⟨oc, od, kV, doc, pm, an, cdv, ct, osl, rfl, lk, hcd⟩ := F.ex
  exact .all (h kV doc pm an cdv ct)
theorem fun_mk {x qual : Str} {st : Stmt} {f : Addr} {oc : Value} {od an : Option Addr} {osl : Array (Option Value)} {kV doc pm cdv ct : Value} (l : K.lookup f = some ⟨oc, od, .func (PySem.W.fnOf x qual (defArgs st) (defBody st) (defScope st) .none kV doc pm an cdv ct), osl⟩)
    (c : PySem.W.codeIn K cdv qual = true) (k : PySem.W.keepIn K (.ref f) = true) : Fun K x qual st f (PySem.W.fnOf x qual (defArgs st) (defBody st) (defScope st) .none kV doc pm an cdv ct) := ⟨⟨oc, od, kV, doc, pm, an, cdv, ct, osl, rfl, l, c⟩, k⟩
end
theorem hu_of {A : Around} {k : Nat} (hr : Room k A) : A.units + 1 < cLine := Nat.lt_of_le_of_lt (Nat.add_le_add_left (by decide : 1 ≤ 64) _) hr.units
theorem small1000 {n : Nat} (h : n ≤ 1000) : n < sizeLine := Nat.lt_of_le_of_lt h (by decide)

/-! ### expressions in short: the name that stands in the i-th slot -/
section
variable {X : Cx}
theorem pv (i : Nat) {x : Str} {pos : Pos} (hN : X.N[i]? = some x := by rfl) (hv : Vis X.env.scope x := by first | exact Or.inl rfl | exact Or.inr (Or.inl rfl) | exact Or.inr (Or.inr rfl)) (hd : (x == ("__debug__" : Str)) = false := by decide)
    (hcd : (x == ("__classdict__" : Str)) = false := by decide) : PE X (.Name x pos) (tVar i) := pe_var hN hv hd hcd
/-- len of a dict -/
theorem call_lenD : CallR X (.builtin "len") (fun xs H Q => ∃ a kvs, xs = [V.ref a] ∧ H a = some (.dK kvs) ∧ Q (.int kvs.length) H) := by
  intro pins s σ H xs us Q I r h
  obtain ⟨a, kvs, rfl, ha, q⟩ := h
  obtain ⟨u, rfl, ru⟩ := vals1 r
  cases ru
  exact d_len I (.inl ha) fun t s' I' => ⟨.int kvs.length, H, I', ⟨t, rfl⟩, q⟩
end

/-! ### tests -/
theorem iteF {A B : Prop} (h : B) : if false = true then A else B := by
  rw [if_neg Bool.false_ne_true]
  exact h
theorem iteT {A B : Prop} (h : A) : if true = true then A else B := by
  rw [if_pos rfl]
  exact h
theorem ite2 {c A B : Prop} [Decidable c] (h1 : c → A) (h2 : ¬ c → B) : if c then A else B := by
  by_cases h : c
  · rw [if_pos h]
    exact h1 h
  · rw [if_neg h]
    exact h2 h
theorem iteNS {c A B : Prop} [Decidable c] (hc : c) (h : B) : if (!decide c) = true then A else B := by
  rw [decide_eq_true hc]
  exact iteF h

/-! ### heaps -/
/-- all that was tracked is as it was -/
def Same (H H' : Hp) : Prop := ∀ b o, H b = some o → H' b = some o
theorem Same.refl (H : Hp) : Same H H := fun _ _ h => h
theorem Same.trans {H H1 H2 : Hp} (a : Same H H1) (b : Same H1 H2) : Same H H2 := fun c o h => b c o (a c o h)
theorem Same.free {H H' : Hp} (e : Same H H') {l : Addr} (h : H' l = Option.none) : H l = Option.none := by
  cases q : H l with
  | none => rfl
  | some o =>
    rw [e l o q] at h
    cases h
theorem Same.seq {K : PySem.W.Frag} {H H' : Hp} {a : Addr} {xs : List V} (e : Same H H') (h : SqL K H a xs) : SqL K H' a xs := by
  rcases h with (h | ⟨o, h⟩) | h
  · exact .inl (.inl (e _ _ h))
  · exact .inl (.inr ⟨o, e _ _ h⟩)
  · exact .inr h

/-! ### a dict's pairs: keys that differ -/
section
variable {κ : Type} [DecidableEq κ]
theorem valV_not {kvs : List (κ × V)} {k : κ} (h : valV kvs k = none) : ¬ k ∈ kvs.map (·.1) := by
  intro m
  obtain ⟨p, hp, e⟩ := List.mem_map.mp m
  have q : (kvs.any fun kv => decide (kv.1 = k)) = true := List.any_eq_true.mpr ⟨p, hp, decide_eq_true e⟩
  rw [valV_any, h] at q
  exact absurd q (by simp)
theorem valV_in {kvs : List (κ × V)} {k : κ} {v : V} (h : valV kvs k = some v) : k ∈ kvs.map (·.1) := by
  have q : (kvs.any fun kv => decide (kv.1 = k)) = true := by
    rw [valV_any, h]
    all_goals rfl
  obtain ⟨p, hp, e⟩ := List.any_eq_true.mp q
  exact List.mem_map.mpr ⟨p, hp, of_decide_eq_true e⟩
theorem nd_snoc : ∀ {l : List κ} {k : κ}, l.Nodup → ¬ k ∈ l → (l ++ [k]).Nodup
  | [], k, _, _ => by simp
  | a :: r, k, h, hk => by
    obtain ⟨h1, h2⟩ := List.nodup_cons.mp h
    show (a :: (r ++ [k])).Nodup
    refine List.nodup_cons.mpr ⟨fun m => ?_, nd_snoc h2 fun m => hk (List.mem_cons.mpr (Or.inr m))⟩
    rcases List.mem_append.mp m with q | q
    · exact h1 q
    · exact hk (List.mem_cons.mpr (Or.inl (List.mem_singleton.mp q).symm))
theorem nd_putK {kvs : List (κ × V)} {k : κ} (v : V) (hn : (kvs.map (·.1)).Nodup) (h : valV kvs k = none) : ((putK kvs k v).map (·.1)).Nodup := by
  rw [putK_new v h, List.map_append]
  exact nd_snoc hn (valV_not h)
theorem dropK_pos {p : κ × V} {r : List (κ × V)} {k : κ} (e : p.1 = k) : dropK (p :: r) k = dropK r k := by
  unfold dropK
  rw [List.filter_cons, if_neg (by simp [e])]
theorem dropK_neg {p : κ × V} {r : List (κ × V)} {k : κ} (e : ¬ p.1 = k) : dropK (p :: r) k = p :: dropK r k := by
  unfold dropK
  rw [List.filter_cons, if_pos (by simp [e])]
theorem dropK_no : ∀ {kvs : List (κ × V)} {k : κ}, ¬ k ∈ kvs.map (·.1) → dropK kvs k = kvs
  | [], _, _ => rfl
  | p :: r, k, h => by
    have h' : ¬ k ∈ r.map (·.1) := fun m => by
      obtain ⟨q, hq, e⟩ := List.mem_map.mp m
      exact h (List.mem_map.mpr ⟨q, List.mem_cons.mpr (Or.inr hq), e⟩)
    rw [dropK_neg fun e => h (List.mem_map.mpr ⟨p, List.mem_cons.mpr (Or.inl rfl), e⟩), dropK_no h']
theorem dropK_mem {kvs : List (κ × V)} {k : κ} {p : κ × V} (h : p ∈ dropK kvs k) : p ∈ kvs := (List.mem_filter.mp h).1
theorem nd_dropK : ∀ {kvs : List (κ × V)} {k : κ}, (kvs.map (·.1)).Nodup → ((dropK kvs k).map (·.1)).Nodup
  | [], _, _ => List.nodup_nil
  | p :: r, k, h => by
    have h : (p.1 :: r.map (·.1)).Nodup := h
    obtain ⟨h1, h2⟩ := List.nodup_cons.mp h
    by_cases e : p.1 = k
    · rw [dropK_pos e]
      exact nd_dropK h2
    · rw [dropK_neg e]
      show (p.1 :: (dropK r k).map (·.1)).Nodup
      refine List.nodup_cons.mpr ⟨fun m => h1 ?_, nd_dropK h2⟩
      obtain ⟨q, hq, eq⟩ := List.mem_map.mp m
      exact List.mem_map.mpr ⟨q, dropK_mem hq, eq⟩
theorem dropK_len : ∀ {kvs : List (κ × V)} {k : κ}, (kvs.map (·.1)).Nodup → k ∈ kvs.map (·.1) → (dropK kvs k).length + 1 = kvs.length
  | [], _, _, m => by simp at m
  | p :: r, k, h, m => by
    have h : (p.1 :: r.map (·.1)).Nodup := h
    have m : k = p.1 ∨ k ∈ r.map (·.1) := List.mem_cons.mp m
    obtain ⟨h1, h2⟩ := List.nodup_cons.mp h
    by_cases e : p.1 = k
    · subst e
      rw [dropK_pos rfl, dropK_no h1]
      all_goals rfl
    · have m' : k ∈ r.map (·.1) := m.resolve_left fun z => e z.symm
      have q := dropK_len h2 m'
      rw [dropK_neg e, List.length_cons, List.length_cons]
      omega
end
end L2

set_option Elab.async false
set_option linter.all false
set_option maxRecDepth 100000
namespace L2
open PySem PySem.Spec PyProof.Rows

/-! ### texts as lists of codes -/
def S (l : List Nat) : Str := ⟨l.toArray⟩
theorem S_of (z : Str) : S z.cps.toList = z := by
  cases z
  simp [S]
theorem S_cps (l : List Nat) : (S l).cps.toList = l := by simp [S]
theorem S_inj {a b : List Nat} (h : S a = S b) : a = b := by
  have := congrArg (fun z : Str => z.cps.toList) h
  simpa [S] using this
theorem S_len (l : List Nat) : (S l).length = l.length := by simp [S, Str.length]
theorem S_app (a b : List Nat) : S a ++ S b = S (a ++ b) := by
  refine ext_toList ?_
  rw [PySem.W.KT.app_list, S_cps, S_cps, S_cps]
theorem dec_S (a b : List Nat) : decide (V.str (S a) = V.str (S b)) = decide (a = b) := by
  by_cases h : a = b
  · subst h
    simp
  · rw [decide_eq_false h]
    exact decide_eq_false fun q => h (S_inj (V.str.inj q))

/-! ### slices of texts -/
def cutN (l : List Nat) (lo hi : Option Int) : List Nat := (l.drop (HT.sIx l.length 0 lo)).take (HT.sIx l.length l.length hi - HT.sIx l.length 0 lo)
theorem strIdx (lo hi : Option Int) (n : Nat) : Builtin.Str.strSliceIndices lo hi 1 n = (List.range (HT.sIx n n hi - HT.sIx n 0 lo)).map (HT.sIx n 0 lo + ·) := by
  rw [← sliceRange_one]
  have h1 : (match lo with | none => (0 : Int) | some i => let i := if i < 0 then i + (n : Int) else i; max 0 (min i (n : Int))) = ((HT.sIx n 0 lo : Nat) : Int) := by
    cases lo with
    | none => simp [HT.sIx]
    | some i =>
      simp only [HT.sIx]
      by_cases h : i < 0
      · simp only [h, if_true] <;> omega
      · simp only [h, if_false] <;> omega
  have h2 : (match hi with | none => (n : Int) | some i => let i := if i < 0 then i + (n : Int) else i; max 0 (min i (n : Int))) = ((HT.sIx n n hi : Nat) : Int) := by
    cases hi with
    | none => simp [HT.sIx]
    | some i =>
      simp only [HT.sIx]
      by_cases h : i < 0
      · simp only [h, if_true] <;> omega
      · simp only [h, if_false] <;> omega
  rw [← h1, ← h2]
  unfold Builtin.Str.strSliceIndices
  cases lo <;> cases hi <;> simp
theorem slice_S (l : List Nat) (lo hi : Option Int) : Txt.slice (S l) lo hi = S (cutN l lo hi) := by
  unfold Txt.slice
  rw [strIdx, S_len]
  have hl : ((List.range (HT.sIx l.length l.length hi - HT.sIx l.length 0 lo)).map (HT.sIx l.length 0 lo + ·)).length = HT.sIx l.length l.length hi - HT.sIx l.length 0 lo := by simp
  rw [hl]
  have hj := HT.sIx_le l.length l.length (Nat.le_refl _) hi
  have hc : (S l).cps = l.toArray := rfl
  rw [hc, pick_run]
  split
  · rename_i h
    have e : HT.sIx l.length l.length hi - HT.sIx l.length 0 lo = l.length := by simpa using h
    unfold cutN
    rw [e]
    by_cases z : l.length = 0
    · have : l = [] := List.length_eq_zero_iff.mp z
      subst this
      simp
    · have : HT.sIx l.length 0 lo = 0 := by omega
      rw [this]
      simp
  · unfold cutN S
    simp
theorem cutN_length (l : List Nat) (lo hi : Option Int) : (cutN l lo hi).length ≤ l.length := by
  unfold cutN
  rw [List.length_take, List.length_drop]
  omega
theorem cutN_to (l : List Nat) (k : Nat) : cutN l none (some (k : Int)) = l.take k := by
  unfold cutN
  rw [HT.sIx_none, HT.sIx_nat, List.drop_zero, Nat.sub_zero]
  by_cases h : k ≤ l.length
  · rw [Nat.min_eq_left h]
  · rw [Nat.min_eq_right (by omega), List.take_of_length_le (Nat.le_refl _), List.take_of_length_le (by omega)]
theorem cutN_from (l : List Nat) (k : Nat) : cutN l (some (k : Int)) none = l.drop k := by
  unfold cutN
  rw [HT.sIx_none, HT.sIx_nat]
  by_cases h : k ≤ l.length
  · rw [Nat.min_eq_left h, List.take_of_length_le (by rw [List.length_drop]; omega)]
  · rw [Nat.min_eq_right (by omega), List.drop_eq_nil_of_le (Nat.le_refl _), List.drop_eq_nil_of_le (by omega), List.take_nil]
theorem cutN_one (l : List Nat) (k : Nat) : cutN l (some (k : Int)) (some ((k : Int) + 1)) = (l.drop k).take 1 := by
  have e : ((k : Int) + 1) = ((k + 1 : Nat) : Int) := rfl
  rw [e]
  unfold cutN
  rw [HT.sIx_nat, HT.sIx_nat]
  by_cases h : k < l.length
  · rw [Nat.min_eq_left (by omega), Nat.min_eq_left (by omega), show k + 1 - k = 1 by omega]
  · rw [Nat.min_eq_right (by omega), Nat.min_eq_right (by omega), List.drop_eq_nil_of_le (Nat.le_refl _), List.drop_eq_nil_of_le (by omega), List.take_nil, List.take_nil]
theorem cutV_to (l : List V) (k : Nat) : cutV l none (some (k : Int)) = l.take k := by
  unfold cutV
  rw [HT.sIx_none, HT.sIx_nat, List.drop_zero, Nat.sub_zero]
  by_cases h : k ≤ l.length
  · rw [Nat.min_eq_left h]
  · rw [Nat.min_eq_right (by omega), List.take_of_length_le (Nat.le_refl _), List.take_of_length_le (by omega)]
theorem cutV_all (l : List V) (k : Int) (h : (l.length : Int) ≤ k) : cutV l none (some k) = l := by
  obtain ⟨n, rfl⟩ : ∃ n : Nat, k = (n : Int) := ⟨k.toNat, by omega⟩
  rw [cutV_to, List.take_of_length_le (by omega)]
section
variable {X : Cx}
def rSlS : V → Option Int → Option Int → Hp → VK → Prop := fun x lo hi H Q => ∃ l : List Nat, x = .str (S l) ∧ l.length ≤ sizeLine ∧ Q (.str (S (cutN l lo hi))) H
theorem part_of {v : Value} {o : Option Int} (h : IsPart v o) : ∃ l : Option (Int × Tok), v = partValue l ∧ l.map (·.1) = o := by
  cases h with
  | none => exact ⟨none, rfl, rfl⟩
  | int i t => exact ⟨some (i, t), rfl, rfl⟩
theorem sl_str : SlR X rSlS := by
  intro pins s σ H x v vl vu lo hi sl Q I rx hs pl pu h
  obtain ⟨l, rfl, hz, q⟩ := h
  obtain ⟨t, rfl⟩ := rx
  obtain ⟨a, rfl, ea⟩ := part_of pl
  obtain ⟨b, rfl, eb⟩ := part_of pu
  refine ⟨"str", _, F.slot_str_getitem.lookup, typeIs_str _ _ _, ?_⟩
  have hsl : s.heap.IsSlice sl a b none := by
    obtain ⟨o, e1, e2, e3⟩ := hs
    exact ⟨o, e1, e2, e3⟩
  refine wpAny_getItem_str_slice (l := a) (u := b) (st := none) hsl rfl ?_
  have hsz : (S l).length ≤ sizeLine := by rw [S_len]; exact hz
  have key : ∀ t' k, EP X pins σ Q (.str (Txt.slice (S l) (a.map (·.1)) (b.map (·.1))) t') { s with toks := k } := fun t' k => by
    rw [ea, eb, slice_S]
    exact ⟨.str (S (cutN l lo hi)), H, I.tok _, ⟨t', rfl⟩, q⟩
  exact post_val_or_str ⟨Nat.le_trans (Txt.slice_le (S l) _ _) hsz, key⟩
end

/-! ### one code of a text -/
section
variable {X : Cx}
/-- z[i] of a text, by its codes -/
def rIxN : R2 := fun x y H Q => ∃ l i c, x = .str (S l) ∧ y = .int i ∧ l.length ≤ sizeLine ∧ atI l i = some c ∧ Q (.str (S [c])) H
theorem ix_strN : IxR X rIxN := by
  intro value slice pins s σ H x y v u Q I rx ry h hs
  obtain ⟨l, i, c, rfl, rfl, hz, he, q⟩ := h
  exact ix_str value slice pins s σ H _ _ v u Q I rx ry ⟨S l, i, c, rfl, rfl, by rw [S_len]; exact hz, by rw [S_cps]; exact he, q⟩ hs
end

/-! ### join -/
section
variable {X : Cx}
theorem strs_of : ∀ {ls : List (List Nat)} {us : List Value}, Vals (ls.map fun l => V.str (S l)) us → ∃ ps : List (Str × Tok), us = strValues ps ∧ ps.map (·.1) = ls.map S
  | [], us, r => by
    cases r
    exact ⟨[], rfl, rfl⟩
  | l :: ls, us, r => by
    rw [List.map_cons] at r
    cases r with
    | cons r1 r2 =>
      obtain ⟨t, e⟩ := r1
      subst e
      obtain ⟨ps, e1, e2⟩ := strs_of r2
      subst e1
      exact ⟨(S l, t) :: ps, rfl, by rw [List.map_cons, List.map_cons, e2]⟩
theorem str_nil : Str.ofString "" = S [] := by decide +kernel
theorem join_go : ∀ ls : List (List Nat), Str.join (S []) (ls.map S) = S ls.flatten
  | [] => rfl
  | [l] => by
    show S l = S [l].flatten
    simp
  | l :: m :: r => by
    have h := join_go (m :: r)
    show S l ++ S [] ++ Str.join (S []) ((m :: r).map S) = _
    rw [h, S_app, S_app]
    simp
theorem join_S (ls : List (List Nat)) : Txt.join (Str.ofString "") (ls.map S) = S ls.flatten := by
  unfold Txt.join
  rw [StrLaws.glued_eq_join, str_nil, join_go]
theorem sum_len : ∀ ls : List (List Nat), ((ls.map S).map (·.length)).sum = ls.flatten.length
  | [] => rfl
  | l :: r => by
    rw [List.map_cons, List.map_cons, List.sum_cons, sum_len r, List.flatten_cons, List.length_append, S_len]
theorem joinOk_S {ls : List (List Nat)} (h : ls.flatten.length ≤ 1000000) : JoinOk (Str.ofString "") (ls.map S) = true := by
  unfold JoinOk
  have e : (Str.ofString "").length = 0 := by decide +kernel
  rw [StrLaws.joinTotal, sum_len, e]
  unfold Builtin.Str.tooLong
  rw [Bool.not_eq_true', decide_eq_false_iff_not]
  have := sizeLine_eq
  omega
def rJoin0 (K : PySem.W.Frag) : V → List V → Hp → VK → Prop := fun x vs H Q => ∃ (p : Addr) (ls : List (List Nat)), x = .str (Str.ofString "") ∧ vs = [.ref p] ∧ SqL K H p (ls.map fun l => V.str (S l)) ∧ ls.flatten.length ≤ 1000000 ∧ Q (.str (S ls.flatten)) H
theorem mt_join0 : MtR X "str.join" (rJoin0 X.K) := by
  intro pins s σ H x xs v us Q I rx rs h
  obtain ⟨p, ls, rfl, rfl, hq, hz, q⟩ := h
  obtain ⟨t, rfl⟩ := rx
  obtain ⟨u, rfl, ru⟩ := rs.one
  cases ru
  obtain ⟨its, r, pl, hl⟩ := I.list hq
  obtain ⟨ps, rfl, ep⟩ := strs_of r
  refine SC.join (texts := ls.map S) pl.isList ep (joinOk_S hz) fun t' k => ?_
  rw [join_S]
  exact ⟨.str (S ls.flatten), H, I.tok _, ⟨t', rfl⟩, q⟩
end
end L2

set_option Elab.async false
set_option linter.all false
set_option maxRecDepth 100000
namespace L2
open PySem PySem.Spec PyProof.Rows

/-! ### comprehensions -/
/-- an object that nobody tracked is tracked from now on -/
theorem Inv.adopt {X : Cx} {pins : List (Addr × Obj)} {σ : St} {H : Hp} {s : Shared} {D : Addr} {o : HO} (I : Inv X pins σ H s) (hn : H D = none) (hs : X.s₀.heap.objs.size ≤ D) (hL : D ≠ X.env.locals)
    (hc : ∀ x c, X.env.cells.lookup x = some c → c ≠ D) (hp : ∀ p ∈ X.pn ++ pins, p.1 ≠ D) (new : ObjOk X.prog X.w (upd H D o) s.heap D o) : Inv X pins σ (upd H D o) s := by
  have up : ∀ b u, H b = some u → upd H D o b = some u := fun b u e => by
    rw [upd_ne (ne_of_none e hn)]
    exact e
  refine ⟨I.ok, I.os, I.bare, ⟨I.base.keep, I.base.slot, fun b ob e n hx => ?_, I.base.there, fun b xs e => up _ _ (I.base.tups b xs e), fun b ob u e => up _ _ (I.base.frzs b ob u e), fun b ps e => ?_⟩, I.loc, I.cell, ?_, fun x c e => ?_, fun p hpp => ?_, fun b u e => ?_, I.len⟩
  · have hb : b ≠ D := fun z => absurd (Nat.lt_of_lt_of_le (Heap.lt_size e) (z ▸ hs)) (Nat.lt_irrefl _)
    rw [upd_ne hb]
    exact I.base.free b ob e n hx
  · obtain ⟨m, e1⟩ := I.base.tbls b ps e
    exact ⟨m, up _ _ e1⟩
  · rw [upd_ne (Ne.symm hL)]
    exact I.free
  · rw [upd_ne (hc x c e)]
    exact I.freeC x c e
  · obtain ⟨e, n, r⟩ := I.pin p hpp
    exact ⟨e, by rw [upd_ne (hp p hpp)]; exact n, r⟩
  · by_cases hb : b = D
    · subst hb
      rw [upd_same] at e
      cases e
      exact new
    · rw [upd_ne hb] at e
      exact (I.hok b u e).stay (fun _ _ _ q => q) (fun c q => up _ _ q) fun c xs q => up _ _ q

/-- the cells that a block closes over -/
theorem look_here {β : Type} {x : Str} {v : β} {r : List (Str × β)} : List.lookup x ((x, v) :: r) = some v := by
  rw [List.lookup_cons]
  simp
theorem look_there {β : Type} {x n : Str} {v : β} {r : List (Str × β)} (h : x ≠ n) : List.lookup x ((n, v) :: r) = List.lookup x r := by
  rw [List.lookup_cons]
  have : (x == n) = false := by simpa using h
  rw [this]
def closeF (env : Env) (p : Str × NameKind) (cs : List (Str × Addr)) : Sem (ForInStep (List (Str × Addr))) :=
  if (p.2 == NameKind.free) = true then (do
    let c ← cellOf env p.1
    pure (ForInStep.yield ((p.1, c) :: cs)))
  else pure (ForInStep.yield cs)
def closeGo (ns : List (Str × NameKind)) (acc : List (Str × Addr)) (env : Env) : Sem (List (Str × Addr)) := forIn ns acc (closeF env)
theorem close_go (env : Env) : ∀ (ns : List (Str × NameKind)) (acc : List (Str × Addr)), (∀ x, (x, NameKind.free) ∈ ns → ∃ c, env.cells.lookup x = some c) → (∀ x c, acc.lookup x = some c → env.cells.lookup x = some c) →
    ∃ cl, closeGo ns acc env = pure cl ∧ (∀ x c, cl.lookup x = some c → env.cells.lookup x = some c) ∧ (∀ x c, acc.lookup x = some c → ∃ c', cl.lookup x = some c') ∧ ∀ x, (x, NameKind.free) ∈ ns → ∃ c, cl.lookup x = some c
  | [], acc, _, ha => ⟨acc, rfl, ha, fun x c e => ⟨c, e⟩, fun x hx => absurd hx (by simp)⟩
  | (n, k) :: r, acc, hn, ha => by
    by_cases hk : k = .free
    · subst hk
      obtain ⟨c, hc⟩ := hn n (by simp)
      have ha' : ∀ x d, ((n, c) :: acc).lookup x = some d → env.cells.lookup x = some d := fun x d e => by
        by_cases hx : x = n
        · subst hx
          rw [look_here] at e
          cases e
          exact hc
        · rw [look_there hx] at e
          exact ha x d e
      obtain ⟨cl, e1, e2, e3, e4⟩ := close_go env r ((n, c) :: acc) (fun x hx => hn x (List.mem_cons_of_mem _ hx)) ha'
      refine ⟨cl, ?_, e2, fun x d e => ?_, fun x hx => ?_⟩
      · rw [← e1]
        unfold closeGo
        rw [List.forIn_cons]
        have hco : cellOf env n = pure c := by
          unfold cellOf
          rw [hc]
        have hf : closeF env (n, NameKind.free) acc = pure (ForInStep.yield ((n, c) :: acc)) := by
          unfold closeF
          simp only [beq_self_eq_true, if_true]
          rw [hco]
          rfl
        rw [hf]
        rfl
      · by_cases hx : x = n
        · subst hx
          exact e3 x c look_here
        · exact e3 x d (by rw [look_there hx]; exact e)
      · rcases List.mem_cons.mp hx with z | z
        · cases z
          exact e3 n c look_here
        · exact e4 x z
    · obtain ⟨cl, e1, e2, e3, e4⟩ := close_go env r acc (fun x hx => hn x (List.mem_cons_of_mem _ hx)) ha
      refine ⟨cl, ?_, e2, e3, fun x hx => ?_⟩
      · rw [← e1]
        unfold closeGo
        rw [List.forIn_cons]
        have hb : (k == NameKind.free) = false := by simpa using hk
        have hf : closeF env (n, k) acc = pure (ForInStep.yield acc) := by
          unfold closeF
          simp only [hb, Bool.false_eq_true, if_false]
        rw [hf]
        rfl
      · rcases List.mem_cons.mp hx with z | z
        · exact absurd (Prod.mk.inj z).2.symm hk
        · exact e4 x z
theorem close_of {scope : Scope} {env : Env} (h : ∀ x, (x, NameKind.free) ∈ scope.names → ∃ c, env.cells.lookup x = some c) :
    ∃ cl, closureFor scope env = pure cl ∧ (∀ x c, cl.lookup x = some c → env.cells.lookup x = some c) ∧ ∀ x, (x, NameKind.free) ∈ scope.names → ∃ c, cl.lookup x = some c := by
  obtain ⟨cl, e1, e2, _, e4⟩ := close_go env scope.names [] h (fun x c e => by simp at e)
  refine ⟨cl, ?_, e2, e4⟩
  have e : closureFor scope env = (closeGo scope.names [] env >>= fun cs => pure cs) := rfl
  rw [e, e1]
  rfl

/-- kinds of names behind the relabelling -/
theorem lookup_relabel {env : Env} : ∀ (names : List (Str × NameKind)) (x : Str),
    (names.map fun (n, k) => if (k == NameKind.free && env.scope.kind == .function && env.kindOf n == some .cell) then (n, NameKind.cell) else (n, k)).lookup x =
      (names.lookup x).map fun k => if (k == NameKind.free && env.scope.kind == .function && env.kindOf x == some .cell) = true then NameKind.cell else k
  | [], _ => rfl
  | (n, k) :: r, x => by
    have ih := lookup_relabel (env := env) r x
    show List.lookup x ((if (k == NameKind.free && env.scope.kind == .function && env.kindOf n == some .cell) = true then (n, NameKind.cell) else (n, k)) :: _) = _
    by_cases hx : x = n
    · subst hx
      rw [look_here]
      by_cases hc : (k == NameKind.free && env.scope.kind == .function && env.kindOf x == some .cell) = true
      · rw [if_pos hc, look_here]
        show some NameKind.cell = some (if _ then _ else _)
        rw [if_pos hc]
      · rw [if_neg hc, look_here]
        show some k = some (if _ then _ else _)
        rw [if_neg hc]
    · rw [look_there (r := r) hx]
      by_cases hc : (k == NameKind.free && env.scope.kind == .function && env.kindOf n == some .cell) = true
      · rw [if_pos hc, look_there hx]
        exact ih
      · rw [if_neg hc, look_there hx]
        exact ih

/-- what a block takes from around it: the outer slots, their names -/
def Caps (X : Cx) (scope : Scope) : List Nat → List Str → Prop
  | [], [] => True
  | i :: is, x :: xs => (X.N[i]? = some x ∧ scope.names.lookup x = some .free ∧ X.env.scope.names.lookup x = some .cell) ∧ Caps X scope is xs
  | _, _ => False
def capS (σ : St) (is : List Nat) : St := is.map fun (i : Nat) => (σ[i]?).join
theorem caps_len {X : Cx} {scope : Scope} : ∀ {is : List Nat} {xs : List Str}, Caps X scope is xs → is.length = xs.length
  | [], [], _ => rfl
  | _ :: is, _ :: xs, h => by rw [List.length_cons, List.length_cons, caps_len h.2]
  | [], _ :: _, h => h.elim
  | _ :: _, [], h => h.elim
theorem caps_get {X : Cx} {scope : Scope} {σ : St} : ∀ {is : List Nat} {xs : List Str} {j : Nat} {x : Str} {v : V}, Caps X scope is xs → xs[j]? = some x → (capS σ is)[j]? = some (some v) →
    ∃ i : Nat, X.N[i]? = some x ∧ σ[i]? = some (some v) ∧ scope.names.lookup x = some .free ∧ X.env.scope.names.lookup x = some .cell
  | [], [], j, x, v, _, e, _ => by simp at e
  | [], _ :: _, _, _, _, h, _, _ => h.elim
  | _ :: _, [], _, _, _, h, _, _ => h.elim
  | i :: is, y :: xs, 0, x, v, h, e, q => by
    have e' : y = x := by simpa using e
    subst e'
    have q' : (σ[i]?).join = some v := by simpa [capS] using q
    refine ⟨i, h.1.1, ?_, h.1.2⟩
    cases z : σ[i]? with
    | none => rw [z] at q'; cases q'
    | some w => rw [z] at q'; exact congrArg some q'
  | i :: is, y :: xs, j + 1, x, v, h, e, q => caps_get (is := is) (xs := xs) (j := j) h.2 (by simpa using e) (by simpa [capS] using q)

/-- the context of a block -/
def cxC (X : Cx) (N : List Str) (scope : Scope) (cl : List (Str × Addr)) (C : Addr) (s : Shared) (H : Hp) (fp : List Addr) : Cx where
  prog := X.prog
  w := X.w
  K := X.K
  mg := X.mg
  base := X.base
  A := X.A
  N := N
  s₀ := s
  H₀ := H
  env := compEnvC scope cl C X.env
  outer := X.stack
  stack := X.stack
  ex := fp
  calm := true
  fn := fun _ => false
  pn := []
  xe := fun _ _ => False

/-- the tests of a block -/
def PIf (X : Cx) (ifs : List Expr) (t : TT) : Prop :=
  ∀ (pins : List (Addr × Obj)) (s : Shared) (σ : St) (H : Hp) (Q : Bool → Hp → Prop), Inv X pins σ H s → t σ H Q →
    wpAny (model X.prog X.w) X.A (forIn ifs true fun c r => if r = true then do let ok ← isTrue c X.env (eval c X.env); pure (ForInStep.yield ok) else pure (ForInStep.yield r)) (TP X pins σ Q) X.xe s
def tYes : TT := fun _ H Q => Q true H
theorem pif_nil {X : Cx} : PIf X [] tYes := fun _ _ _ H _ I h => wpAny_tests_nil ⟨H, I, h⟩
theorem pif_one {X : Cx} {c : Expr} {t : TT} (h : PT X c t) : PIf X [c] t := fun pins s σ H Q I q => wpAny_tests_one (h pins s σ H Q I q)

/-- the block's loop, whatever its target -/
theorem compLoop_go {prog : Program} {w : World} {A : Around} {R : Result → Shared → Prop} {s : Shared} {elt target iter : Expr} {ifs : List Expr} {scope : Scope} {pos : Pos} {it acc : Value} {env : Env} (I : Nat → Shared → Prop)
    (turn : ∀ n s, I n s → wpAny (model prog w) A (pyNext it) (fun r s₁ => match r with
      | none => R (.ok .next) s₁
      | some v => wpAny (model prog w) A (letOwnedTupleGo target it v) (fun _ s₀ => wpAny (model prog w) A (assign target env v) (fun _ s₂ =>
          wpAny (model prog w) A (forIn ifs true fun c r => if r = true then do let ok ← isTrue c env (eval c env); pure (ForInStep.yield ok) else pure (ForInStep.yield r)) (fun ok s₃ =>
            if ok = true then wpAny (model prog w) A (eval elt env) (fun x s₄ =>
              wpAny (model prog w) A (call (.builtin "list.append") [acc, x]) (fun _ s₅ => ∃ m, m < n ∧ I m s₅) (notedBy (model prog w) A env fun e s' => R (.error e) s') s₄) (notedBy (model prog w) A env fun e s' => R (.error e) s') s₃
            else ∃ m, m < n ∧ I m s₃) (notedBy (model prog w) A env fun e s' => R (.error e) s') s₂) (notedBy (model prog w) A env fun e s' => R (.error e) s') s₀) (notedBy (model prog w) A env fun e s' => R (.error e) s') s₁) (notedBy (model prog w) A env fun e s' => R (.error e) s') s)
    (n : Nat) (h : I n s) :
    codeAny (model prog w) A (.compLoop (.ListComp elt [⟨target, iter, ifs, 0⟩] scope pos) 0 it acc env) R s := by
  refine codeAny_loop rfl I (fun n s hI => ?_) n h
  show wpAny _ A ((compTurn (.ListComp elt [⟨target, iter, ifs, 0⟩] scope pos) 0 it acc env).onRaise (fun x => do noteFrame x env; theTreesLotGoes x)) _ _ s
  refine wpAny_noted ?_
  rw [compTurn_list]
  refine wpAny_bind (wpAny_standAt (wpAny_bind (wpAny_mono (turn n s hI) (fun r s₁ h₁ => ?_) fun _ _ h' => h')))
  cases r with
  | none => exact wpAny_pure h₁
  | some v =>
    refine wpAny_bind (wpAny_mono h₁ (fun _ s₀ h₀ => ?_) fun _ _ h' => h')
    refine wpAny_bind (wpAny_mono h₀ (fun _ s₂ h₂ => wpAny_bind (wpAny_mono h₂ (fun ok s₃ h₃ => ?_) fun _ _ h' => h')) fun _ _ h' => h')
    cases ok with
    | false => exact wpAny_pure ⟨rfl, h₃⟩
    | true =>
      exact wpAny_bind (wpAny_bind (wpAny_mono h₃ (fun x s₄ h₄ => wpAny_bind (wpAny_mono h₄ (fun _ s₅ h₅ => wpAny_pure (wpAny_pure ⟨rfl, h₅⟩)) fun _ _ h' => h')) fun _ _ h' => h'))

abbrev lObj (its : List Value) (k : Nat) : Obj := { cls := .type "list", data := .seq its.toArray k }

section
variable {X : Cx} {pins : List (Addr × Obj)} {σ : St} {H2 : Hp} {s₂ : Shared} {names : List Str} {is : List Nat} {x : Str} {px pos : Pos} {scope : Scope} {cl : List (Str × Addr)} {elt iter : Expr} {ifs : List Expr} {it : Addr} {fp : List Addr}
  {tn : Nat → Heap → Prop} {J : It} {te : TE} {tt : TT}

/-- the block's end, as the enclosing def needs it -/
theorem lc_back {C : Addr} {σ' : St} {H' : Hp} {s' : Shared} {its : List Value} {k : Nat} {acc : List V} (I : Inv X pins σ H2 s₂) (hf : ∀ b ∈ fp, FpOk X pins H2 b)
    (I' : Inv (cxC X (names ++ [x]) scope cl C s₂ H2 fp) [(s₂.heap.objs.size, lObj its k)] σ' H' s') (rv : Vals acc its) (hz : acc.length ≤ sizeLine) :
    Inv X pins σ (upd H' s₂.heap.objs.size (.lst acc)) s' := by
  have pD := I'.pin (s₂.heap.objs.size, lObj its k) (by simp)
  have J1 : Inv X pins σ H' s' := I.call' (ch := fp) I'.os I'.base I'.hok I'.bare fun b hb => by
    obtain ⟨_, f1, _, f3, f4, f5⟩ := hf b hb
    exact ⟨f3, f1, f4, f5⟩
  refine J1.adopt pD.2.1 I.sz (Ne.symm (Nat.ne_of_lt I.lt)) (fun y c e z => ?_) (fun p hp z => ?_) ⟨hz, its, k, rv, pD.1⟩
  · obtain ⟨v, q⟩ := I.cell y c e
    exact absurd q.lt (by rw [z]; exact Nat.lt_irrefl _)
  · exact absurd (Heap.lt_size (I.pin p hp).1) (by rw [z]; exact Nat.lt_irrefl _)

theorem lc_block {E : Value → Shared → Prop} {RR : Value → Addr → Result → Shared → Prop} {F : List V → Hp → Prop} (hcalm : X.calm = true) (hkind : scope.kind = .function) (hcell : ∀ y ∈ scope.names, y.2 ≠ .cell) (hx : scope.names.lookup x = some .local)
    (hcl1 : ∀ y c, cl.lookup y = some c → X.env.cells.lookup y = some c) (hcl2 : ∀ y, (y, NameKind.free) ∈ scope.names → ∃ c, cl.lookup y = some c) (hcap : Caps X scope is names) (hN : (names ++ [x]).Nodup)
    (I : Inv X pins σ H2 s₂) (T : Turn X.prog X.w X.K (.Name x px) J fp it tn) (st : tn 0 s₂.heap) (hf : ∀ b ∈ fp, FpOk X pins H2 b)
    (htest : ∀ C s H, PIf (cxC X (names ++ [x]) scope cl C s H fp) ifs tt) (helt : ∀ C s H, PE (cxC X (names ++ [x]) scope cl C s H fp) elt te)
    (W : Nat → Nat → List V → Hp → Prop) (m0 : Nat) (w0 : W 0 m0 [] H2)
    (step : ∀ i m acc H, W i m acc H → (J.stop i H ∧ F acc H) ∨ (J.go i H ∧ acc.length < sizeLine ∧ ∃ N : List V → Hp → Prop, (∀ acc' H', N acc' H' → ∃ m', m' < m ∧ W (i + 1) m' acc' H') ∧ ∀ v H', J.yld i H v H' → tt (capS σ is ++ [some v]) H' fun b H3 => if b = true then te (capS σ is ++ [some v]) H3 fun y H4 => N (acc ++ [y]) H4 else N acc H3))
    (hRR : ∀ C σ' H' s' its k acc, s₂.heap.objs.size < C → Inv (cxC X (names ++ [x]) scope cl C s₂ H2 fp) [(s₂.heap.objs.size, lObj its k)] σ' H' s' → Vals acc its → acc.length ≤ sizeLine → F acc H' → RR (.ref s₂.heap.objs.size) C (.ok .next) s') :
    wpAny (model X.prog X.w) X.A (newList []) (fun acc s₃ => wpAny (model X.prog X.w) X.A (newFunctionEnv scope X.env.globals cl [] X.env.qual none .none (some X.env)) (fun cenv s₄ =>
      codeAny (model X.prog X.w) X.A (.compStart (.ListComp elt [⟨.Name x px, iter, ifs, 0⟩] scope pos) 0 (.ref it) acc { cenv with scope := relabel scope X.env }) (RR acc cenv.locals) s₄) E s₃) E s₂ := by
  refine wpAny_newObj_type (wpAny_newFunctionEnv hcell (by intro y hy; simp at hy) (fun h₁ hns₁ hsb₁ => ?_) hkind)
  dsimp only at hns₁ hsb₁ ⊢
  generalize hH2 : s₂.heap.push { cls := .type "list", dict := none, data := .seq ([] : List Value).toArray } = G2 at hns₁ hsb₁ ⊢
  have hC : G2.objs.size = s₂.heap.objs.size + 1 := by rw [← hH2, Heap.size_push]
  have old : ∀ b o, s₂.heap.get? b = some o → h₁.get? b = some o := fun b o e => hsb₁.extBut b o (Nat.ne_of_lt (Nat.lt_of_lt_of_le (Heap.lt_size e) (by rw [hC]; exact Nat.le_succ _))) (Heap.get?_push_of_some _ (hH2 ▸ Heap.get?_push_of_some _ e))
  have hD₁ : h₁.get? s₂.heap.objs.size = some (lObj [] 0) := hsb₁.extBut _ _ (Nat.ne_of_lt (by rw [hC]; exact Nat.lt_succ_self _)) (Heap.get?_push_of_some _ (hH2 ▸ Heap.get?_push_size _ rfl))
  clear hsb₁
  generalize hCC : G2.objs.size = C at hns₁ hC ⊢
  have hDC : s₂.heap.objs.size < C := by omega
  have fpl : ∀ b ∈ fp, b < s₂.heap.objs.size := fun b hb => by
    obtain ⟨o, e, _⟩ := T.obj 0 _ st b hb
    exact Heap.lt_size e
  have clt : ∀ y c, cl.lookup y = some c → c < s₂.heap.objs.size := fun y c e => by
    obtain ⟨v, q⟩ := I.cell y c (hcl1 y c e)
    exact q.lt
  have kindEq : ∀ y, (compEnvC scope cl C X.env).kindOf y = (scope.names.lookup y).map fun k => if (k == NameKind.free && X.env.scope.kind == .function && X.env.kindOf y == some .cell) = true then NameKind.cell else k := fun y => lookup_relabel scope.names y
  have fnk : (X.env.scope.kind == ScopeKind.function) = true := by rw [I.ok.kind]; rfl
  have ok' : (cxC X (names ++ [x]) scope cl C s₂ H2 fp).Ok := by
    refine ⟨I.ok.mod, hkind, I.ok.glob, I.ok.blt, Nat.le_of_lt hDC, fun y z c h1 h2 => I.ok.inj y z c (hcl1 y c h1) (hcl1 z c h2), fun y hy => ?_, fun y c h _ => (by cases h), fun _ => I.ok.hd hcalm, I.ok.frames, .inl rfl, fun b hb => ⟨?_, fun y c e => ?_⟩, I.bs, Nat.le_trans I.ok.bsz I.sz, fun b o e hb => ?_, fun b hb hz => ?_, I.stack, I.stkFree⟩
    · have hy' : (compEnvC scope cl C X.env).kindOf y = some .cell ∨ (compEnvC scope cl C X.env).kindOf y = some .free := hy
      rw [kindEq] at hy'
      cases e : scope.names.lookup y with
      | none => rw [e] at hy'; rcases hy' with z | z <;> cases z
      | some k =>
        have hk : k = .free := by
          rw [e] at hy'
          by_cases hc : k = .free
          · exact hc
          · have hb : (k == NameKind.free) = false := by simpa using hc
            simp only [hb, Bool.false_and, Bool.false_eq_true, if_false, Option.map_some] at hy'
            rcases hy' with z | z
            · have z' : k = .cell := Option.some.inj z
              exact absurd z' (hcell (y, k) (PySem.mem_of_lookup e))
            · exact Option.some.inj z
        subst hk
        exact hcl2 y (PySem.mem_of_lookup e)
    · exact Nat.ne_of_lt (Nat.lt_trans (fpl b hb) hDC)
    · exact (hf b hb).2.2.2.2.1 y c (hcl1 y c e)
    · rcases (hf b hb).2.2.2.1 with z | z
      · exact I.ok.noex b o e z
      · exact absurd (Nat.lt_of_lt_of_le (Heap.lt_size e) (Nat.le_trans I.ok.bsz z)) (Nat.lt_irrefl _)
    · rcases List.mem_cons.mp (I.stkSub b hz) with z | z
      · exact (hf b hb).2.1 z
      · exact (hf b hb).2.2.1 z
  have nD : s₂.heap.objs.size ∉ frs X.stack := fun hz => by
    obtain ⟨_, o, ho, _⟩ := I.stack.mem hz
    exact absurd (Heap.lt_size ho) (Nat.lt_irrefl _)
  have freshD : H2 s₂.heap.objs.size = none := I.hok.fresh (Nat.le_refl _)
  have start : ∀ tk, Inv (cxC X (names ++ [x]) scope cl C s₂ H2 fp) [(s₂.heap.objs.size, lObj [] 0)] (capS σ is ++ [none]) H2 { s₂ with heap := h₁, toks := tk } := fun tk => by
    refine ⟨ok', rfl, I.bare, Un.kept old, ⟨_, hns₁, fun i y v e1 e2 e3 => ?_⟩, fun y c e => ?_, I.hok.fresh (Nat.le_of_lt hDC), fun y c e => I.freeC y c (hcl1 y c e), fun p hp => ?_, I.hok.kept old, ?_⟩
    · have hi : i < names.length := by
        by_cases hi : i < names.length
        · exact hi
        · have hl : (capS σ is).length ≤ i := by
            unfold capS
            rw [List.length_map, caps_len hcap]
            omega
          rw [List.getElem?_append_right hl] at e2
          rcases Nat.eq_zero_or_pos (i - (capS σ is).length) with z | z
          · rw [z] at e2
            cases e2
          · rw [List.getElem?_eq_none (by simp; omega)] at e2
            cases e2
      have hl : i < (capS σ is).length := by
        unfold capS
        rw [List.length_map, caps_len hcap]
        exact hi
      have e1' : names[i]? = some y := by
        have : (names ++ [x])[i]? = some y := e1
        rwa [List.getElem?_append_left hi] at this
      rw [List.getElem?_append_left hl] at e2
      obtain ⟨j, g1, g2, g3, g4⟩ := caps_get hcap e1' e2
      obtain ⟨m, hn, hl'⟩ := I.loc
      obtain ⟨u, ru, lk⟩ := hl' j y v g1 g2 (.inr (.inl g4))
      refine ⟨u, ru, .inr ⟨.inl ?_, ?_⟩⟩
      · show (compEnvC scope cl C X.env).kindOf y = some .cell
        rw [kindEq, g3]
        have hk : X.env.kindOf y = some .cell := g4
        rw [hk, fnk]
        rfl
      · obtain ⟨c, hc⟩ := hcl2 y (PySem.mem_of_lookup g3)
        refine ⟨c, hc, ?_⟩
        rcases lk with ⟨k1, _⟩ | ⟨_, c', hc', hcell'⟩
        · have hk : X.env.kindOf y = some .cell := g4
          rw [hk] at k1
          cases k1
        · have := hcl1 y c hc
          rw [hc'] at this
          cases this
          obtain ⟨o, ho, hd⟩ := hcell'
          exact ⟨o, old _ _ ho, hd⟩
    · obtain ⟨v, o, ho, hd⟩ := I.cell y c (hcl1 y c e)
      exact ⟨v, o, old _ _ ho, hd⟩
    · have hp' : p ∈ [(s₂.heap.objs.size, lObj [] 0)] := by simpa [cxC] using hp
      have e := List.mem_singleton.mp hp'
      subst e
      exact ⟨hD₁, freshD, Nat.ne_of_lt hDC, nD, fun v z => by cases z⟩
    · show (capS σ is ++ [none]).length = (names ++ [x]).length
      unfold capS
      rw [List.length_append, List.length_append, List.length_map, caps_len hcap]
      rfl
  have slot : (names ++ [x])[is.length]? = some x := by
    rw [caps_len hcap, List.getElem?_append_right (Nat.le_refl _)]
    simp
  have setS : ∀ v : V, (capS σ is ++ [none]).set is.length (some v) = capS σ is ++ [some v] := fun v => by
    have hl : (capS σ is).length = is.length := by unfold capS; rw [List.length_map]
    rw [List.set_append_right _ _ (by omega), hl, Nat.sub_self]
    rfl
  have locX : Loc (cxC X (names ++ [x]) scope cl C s₂ H2 fp).env.scope x := .inl (lookup_relabel_local hx)
  have stat : ∀ {H' : Hp} {its : List Value} {k : Nat}, (∀ b ∈ fp, H' b = none) → ∀ b ∈ fp, FpOk (cxC X (names ++ [x]) scope cl C s₂ H2 fp) [(s₂.heap.objs.size, lObj its k)] H' b := fun {H' its k} hn b hb => by
    refine ⟨hn b hb, ?_, fun hz => ok'.exfs b hb hz, .inl hb, fun y c e => (hf b hb).2.2.2.2.1 y c (hcl1 y c e), fun p hp z => ?_⟩
    · exact Nat.ne_of_lt (Nat.lt_trans (fpl b hb) hDC)
    · have hp' : p ∈ [(s₂.heap.objs.size, lObj its k)] := by simpa [cxC] using hp
      have e := List.mem_singleton.mp hp'
      subst e
      exact Nat.ne_of_lt (fpl b hb) (Eq.symm z)
  have loop : ∀ s₃ : Shared, (∃ tk, s₃ = { s₂ with heap := h₁, toks := tk }) →
      codeAny (model X.prog X.w) X.A (.compLoop (.ListComp elt [⟨.Name x px, iter, ifs, 0⟩] scope pos) 0 (.ref it) (.ref s₂.heap.objs.size) (compEnvC scope cl C X.env)) (RR (.ref s₂.heap.objs.size) C) s₃ := by
    rintro s₃ ⟨tk, rfl⟩
    refine compLoop_go (fun n s' => ∃ i acc its k H', Inv (cxC X (names ++ [x]) scope cl C s₂ H2 fp) [(s₂.heap.objs.size, lObj its k)] (capS σ is ++ [none]) H' s' ∧ tn i s'.heap ∧ (∀ b ∈ fp, H' b = none) ∧ Vals acc its ∧ acc.length ≤ sizeLine ∧ W i n acc H') ?_ m0
      ⟨0, [], [], 0, H2, start tk, T.keep _ _ _ st (fun b _ o e => old b o e), fun b hb => (hf b hb).1, .nil, Nat.zero_le _, w0⟩
    rintro n s3 ⟨i, acc, its, k, H3, I3, st3, fr3, rv, hz, w3⟩
    rcases step i n acc H3 w3 with ⟨stop, fin⟩ | ⟨go, hlt, N, hNx, more⟩
    · refine thn (T.done (cxC X (names ++ [x]) scope cl C s₂ H2 fp) rfl rfl rfl rfl i _ s3 _ H3 _ I3 (stat fr3) st3 stop) fun r s4 ⟨hr, I4⟩ => ?_
      subst hr
      exact hRR C _ H3 s4 its k acc hDC I4 rv hz fin
    · refine thn (T.item (cxC X (names ++ [x]) scope cl C s₂ H2 fp) rfl rfl rfl rfl i _ s3 _ H3 _ I3 (stat fr3) st3 go) fun r s4 ⟨u, hr, h4⟩ => ?_
      subst hr
      refine thn h4 fun _ s4' ⟨v, H5, I5, r5, y5, st5, fr5⟩ => ?_
      have I5' := I5.pinned (stat fr5) (T.obj _ _ st5)
      refine wpAny_assign_Name ?_
      refine store_ok (X := cxC X (names ++ [x]) scope cl C s₂ H2 fp) I5' hN slot locX r5 (fun s6 I6 => ?_) (.inr (lookup_relabel_local hx))
      rw [setS] at I6
      have ev := more v H5 y5
      refine wpAny_mono (htest C s₂ H2 _ s6 _ H5 _ I6 ev) (fun b s7 h7 => ?_) (fun _ _ f => f.elim)
      obtain ⟨H7, I7, q7⟩ := h7
      -- what is left at the end of a turn
      have again : ∀ {s8 : Shared} {H8 : Hp} {acc' : List V} {its' : List Value} {k' m' : Nat}, Inv (cxC X (names ++ [x]) scope cl C s₂ H2 fp) [(s₂.heap.objs.size, lObj its' k')] (capS σ is ++ [some v]) H8 s8 →
          (∀ b ∈ fp, ∀ o, s4'.heap.get? b = some o → s8.heap.get? b = some o ∧ H8 b = none) → Vals acc' its' → acc'.length ≤ sizeLine → m' < n → W (i + 1) m' acc' H8 →
          ∃ m, m < n ∧ ∃ i acc its k H', Inv (cxC X (names ++ [x]) scope cl C s₂ H2 fp) [(s₂.heap.objs.size, lObj its k)] (capS σ is ++ [none]) H' s8 ∧ tn i s8.heap ∧ (∀ b ∈ fp, H' b = none) ∧ Vals acc its ∧ acc.length ≤ sizeLine ∧ W i m acc H' := by
        intro s8 H8 acc' its' k' m' I8 kp rv' hz' hm w8
        refine ⟨m', hm, i + 1, acc', its', k', H8, I8.weak (by rw [List.length_append, List.length_append]; rfl) (fun j z e => ?_), T.keep _ _ _ st5 (fun b hb o e => (kp b hb o e).1), fun b hb => ?_, rv', hz', w8⟩
        · by_cases hj : j < (capS σ is).length
          · rw [List.getElem?_append_left hj] at e ⊢
            exact e
          · rw [List.getElem?_append_right (by omega)] at e
            rcases Nat.eq_zero_or_pos (j - (capS σ is).length) with q | q
            · rw [q] at e
              cases e
            · rw [List.getElem?_eq_none (by simp; omega)] at e
              cases e
        · obtain ⟨o, e, _⟩ := T.obj _ _ st5 b hb
          exact (kp b hb o e).2
      have pins7 : ∀ b ∈ fp, ∀ o, s4'.heap.get? b = some o → s7.heap.get? b = some o ∧ H7 b = none := fun b hb o e => by
        have q := I7.pin (b, o) (List.mem_append_right _ (List.mem_append_right _ (mem_pinsAt hb e)))
        exact ⟨q.1, q.2.1⟩
      cases b with
      | false =>
        rw [if_neg Bool.false_ne_true] at q7
        obtain ⟨m', hm, w7⟩ := hNx _ _ q7
        rw [if_neg Bool.false_ne_true]
        exact again I7.unpinned pins7 rv hz hm w7
      | true =>
        rw [if_pos rfl] at q7
        rw [if_pos rfl]
        refine wpAny_mono (helt C s₂ H2 _ s7 _ H7 _ I7 q7) (fun y s8 h8 => ?_) (fun _ _ f => f.elim)
        obtain ⟨yv, H8, I8, r8, q8⟩ := h8
        obtain ⟨m', hm, w8⟩ := hNx _ _ q8
        have pD := I8.pin (s₂.heap.objs.size, lObj its k) (List.mem_append_right _ (List.mem_append_left _ (by simp)))
        have hlen := rv.length
        refine wpAny_list_append_plain (items := its.toArray) ⟨k, pD.1⟩ (fun h' hl' sb => ?_) (by rw [List.size_toArray]; omega)
        obtain ⟨k', hk'⟩ := hl'
        have I9 : Inv (cxC X (names ++ [x]) scope cl C s₂ H2 fp) [] (capS σ is ++ [some v]) H8 { s8 with heap := h' } :=
          (I8.pins_of (pins' := []) (fun p hp => absurd hp (by simp))).turned (t' := s8.toks) (fun b o hb e => (sb.2 b hb).trans e) pD.2.1 pD.2.2.1 (.inr (Nat.le_refl _)) (fun z c e => Nat.ne_of_lt (clt z c e)) (fun p hp => absurd (show p ∈ ([] : List (Addr × Obj)) from hp) (by simp))
        have eD : h'.get? s₂.heap.objs.size = some (lObj (its ++ [y]) k') := by
          rw [hk']
          simp
        have I10 := I9.pins_of (pins' := [(s₂.heap.objs.size, lObj (its ++ [y]) k')]) fun p hp => by
          have e := List.mem_singleton.mp hp
          subst e
          exact ⟨eD, pD.2.1, pD.2.2.1, pD.2.2.2.1, fun v z => by cases z⟩
        refine again I10 (fun b hb o e => ?_) (rv.append (.cons r8 .nil)) ?_ hm w8
        · have q := I8.pin (b, o) (List.mem_append_right _ (List.mem_append_right _ (mem_pinsAt hb e)))
          exact ⟨(sb.2 b (Nat.ne_of_lt (fpl b hb))).trans q.1, q.2.1⟩
        · rw [List.length_append, List.length_singleton]
          omega
  exact codeAny_compStart_list (loop _ ⟨_, rfl⟩) (T.self X.A 0 _ _ _ (T.keep _ _ _ st fun b _ o e => old b o e) (loop _ ⟨_, rfl⟩))
end

/-- what a block's scope must be (a closed look) -/
def lcOk (scope sc : Scope) (x : Str) (names : List Str) : Bool :=
  decide (scope.kind = .function) && scope.names.all (fun p => decide (p.2 ≠ .cell)) && (scope.names.all fun p => decide (p.2 ≠ .free) || decide (sc.names.lookup p.1 = some .cell)) &&
    (scope.names.all fun p => decide (p.2 ≠ .local) || decide (scope.names.lookup p.1 = some .local)) && decide (scope.names.lookup x = some .local) && decide (names ++ [x]).Nodup
theorem lcOk_of {scope sc : Scope} {x : Str} {names : List Str} (h : lcOk scope sc x names = true) : scope.kind = .function ∧ (∀ y ∈ scope.names, y.2 ≠ .cell) ∧ (∀ y, (y, NameKind.free) ∈ scope.names → sc.names.lookup y = some .cell) ∧
    (∀ y ∈ scope.names, y.2 = .local → scope.names.lookup y.1 = some .local) ∧ scope.names.lookup x = some .local ∧ (names ++ [x]).Nodup := by
  unfold lcOk at h
  simp only [Bool.and_eq_true, List.all_eq_true, Bool.or_eq_true, decide_eq_true_eq] at h
  obtain ⟨⟨⟨⟨⟨h1, h2⟩, h3⟩, h4⟩, h5⟩, h6⟩ := h
  refine ⟨h1, h2, fun y hy => ?_, fun y hy e => ?_, h5, h6⟩
  · rcases h3 _ hy with z | z
    · exact absurd rfl z
    · exact z
  · rcases h4 y hy with z | z
    · exact absurd e z
    · exact z

/-- a block's walk by J, ending in Q -/
def LcGo (J : It) (σ : St) (is : List Nat) (tt : TT) (te : TE) (Q : VK) (H1 : Hp) : Prop := ∃ W : Nat → Nat → List V → Hp → Prop, (∃ m, W 0 m [] H1) ∧ ∀ i m acc H, W i m acc H →
  (J.stop i H ∧ ∀ p, H p = none → Q (.ref p) (upd H p (.lst acc))) ∨
  (J.go i H ∧ acc.length < sizeLine ∧ ∃ N : List V → Hp → Prop, (∀ acc' H', N acc' H' → ∃ m', m' < m ∧ W (i + 1) m' acc' H') ∧ ∀ v H', J.yld i H v H' → tt (capS σ is ++ [some v]) H' fun b H3 => if b = true then te (capS σ is ++ [some v]) H3 fun y H4 => N (acc ++ [y]) H4 else N acc H3)
/-- the block as a value -/
def tLc (wi : TI) (is : List Nat) (tt : TT) (te : TE) : TE := fun σ H Q => wi σ H fun J H1 => LcGo J σ is tt te Q H1
section
variable {X : Cx} {names : List Str} {is : List Nat} {x : Str} {px pos : Pos} {scope : Scope} {elt iter : Expr} {ifs : List Expr} {te : TE} {tt : TT} {wi : TI}
/-- the frame's own part of what was built in the block may turn -/
theorem Inv.behind {pins : List (Addr × Obj)} {σ : St} {H : Hp} {s s₂ : Shared} {C : Addr} {H2 : Hp} {σ2 : St} (I : Inv X pins σ H s) (I2 : Inv X pins σ2 H2 s₂) (hC : s₂.heap.objs.size < C) (hn : H C = none) {h' : Heap} (sb : Heap.SameBut C s.heap h') : Inv X pins σ H { s with heap := h' } := by
  refine I.turned (t' := s.toks) (fun b o hb e => (sb.2 b hb).trans e) hn (Nat.ne_of_gt (Nat.lt_trans I2.lt hC)) (.inr (Nat.le_of_lt (Nat.lt_of_le_of_lt I2.sz hC))) (fun y c e z => ?_) (fun p hp z => ?_)
  · obtain ⟨v, q⟩ := I2.cell y c e
    exact Nat.ne_of_lt (Nat.lt_trans q.lt hC) z
  · exact Nat.ne_of_lt (Nat.lt_trans (Heap.lt_size (I2.pin p hp).1) hC) z
theorem clos_of {pins : List (Addr × Obj)} {σ : St} {H : Hp} {s : Shared} (I : Inv X pins σ H s) (hfree : ∀ y, (y, NameKind.free) ∈ scope.names → X.env.scope.names.lookup y = some .cell) :
    ∃ cl, closureFor scope X.env = pure cl ∧ (∀ y c, cl.lookup y = some c → X.env.cells.lookup y = some c) ∧ ∀ y, (y, NameKind.free) ∈ scope.names → ∃ c, cl.lookup y = some c :=
  close_of fun y hy => I.ok.has y (.inl (hfree y hy))
theorem pe_lc (sc : Scope) (is : List Nat) (names : List Str) (hsc : X.env.scope = sc) (hcalm : X.calm = true) (hok : lcOk scope sc x names = true) (hcap : Caps X scope is names)
    (hi : PI X (.Name x px) iter wi) (htest : ∀ cl C s H fp, PIf (cxC X (names ++ [x]) scope cl C s H fp) ifs tt) (helt : ∀ cl C s H fp, PE (cxC X (names ++ [x]) scope cl C s H fp) elt te)
    (hs : ∀ x, foldedSetIterable iter X.env x = pure x := by intro _; rfl) : PE X (.ListComp elt [⟨.Name x px, iter, ifs, 0⟩] scope pos) (tLc wi is tt te) := by
  intro pins s σ H Q I h
  subst hsc
  obtain ⟨hkind, hcell, hfree, hnames, hx, hN⟩ := lcOk_of hok
  obtain ⟨cl, hclos, hcl1, hcl2⟩ := clos_of I hfree
  rw [eval_ListComp]
  refine wpAny_comprehension_free (use := none) rfl hs hclos hkind hnames (wpAny_mono (hi pins s σ H _ I h) (fun v s1 h1 => wpAny_mono h1 (fun itv s2 h2 => ?_) fun _ _ e => e) fun _ _ e => e)
  obtain ⟨it, fp, tn, J, H2, e, I2, T, st2, f2, W, ⟨m0, w0⟩, step⟩ := h2
  subst e
  refine lc_block (F := fun acc H' => ∀ p, H' p = none → Q (.ref p) (upd H' p (.lst acc))) (RR := fun acc C => compPost (model X.prog X.w) X.A X.xe none (EP X pins σ Q) acc C) hcalm hkind hcell hx hcl1 hcl2 hcap hN I2 T st2 f2 (fun C s H => htest cl C s H fp) (fun C s H => helt cl C s H fp) W m0 w0 step ?_
  intro C σ' H' s' its k acc hC I' rv hz fin
  have J1 := lc_back I2 f2 I' rv hz
  obtain ⟨m, hn, _⟩ := I'.loc
  have hCn : upd H' s2.heap.objs.size (.lst acc) C = none := by
    rw [upd_ne (Nat.ne_of_gt hC)]
    exact I'.free
  refine ⟨m, hn, fun h' sb => ?_⟩
  exact ⟨.ref s2.heap.objs.size, _, J1.behind I2 hC hCn sb, rfl, fin _ (I'.pin (s2.heap.objs.size, lObj its k) (by simp)).2.1⟩
/-- y = [.. for ..] -/
theorem ps_setLc (sc : Scope) (is : List Nat) (names : List Str) {i : Nat} {y : Str} {py spos : Pos} (nd : X.N.Nodup) (hy : X.N[i]? = some y) (hly : Loc X.env.scope y) (hsc : X.env.scope = sc) (hcalm : X.calm = true) (hok : lcOk scope sc x names = true) (hcap : Caps X scope is names)
    (hi : PI X (.Name x px) iter wi) (htest : ∀ cl C s H fp, PIf (cxC X (names ++ [x]) scope cl C s H fp) ifs tt) (helt : ∀ cl C s H fp, PE (cxC X (names ++ [x]) scope cl C s H fp) elt te)
    (hs : ∀ x, foldedSetIterable iter X.env x = pure x := by intro _; rfl) (hsw : swapsWith (.ListComp elt [⟨.Name x px, iter, ifs, 0⟩] scope pos) (some (.Name y py)) spos.line X.env = pure true := by rfl)
    (hf : X.fn y = true ∨ X.env.scope.names.lookup y = some .local := by first | exact .inl rfl | exact .inr rfl | assumption) :
    PS X (.Assign [.Name y py] (.ListComp elt [⟨.Name x px, iter, ifs, 0⟩] scope pos) spos) (fun D σ H => tLc wi is tt te σ H fun v H1 => D.nx (σ.set i (some v)) H1) := by
  intro pins s σ H D I h
  subst hsc
  obtain ⟨hkind, hcell, hfree, hnames, hx, hN⟩ := lcOk_of hok
  obtain ⟨cl, hclos, hcl1, hcl2⟩ := clos_of I hfree
  rw [exec_Assign_Name_used _ _ _ _ hsw]
  refine wpAny_bind (wpAny_standAt (wpAny_bind ?_))
  show wpAny _ X.A (do let _ ← comprehension (.ListComp elt [⟨.Name x px, iter, ifs, 0⟩] scope pos) scope X.env _ (newList []) false (eval iter X.env) (some (assign (.Name y py) X.env))) _ _ s
  refine wpAny_bind (wpAny_mono (wpAny_comprehension_free (use := some (assign (.Name y py) X.env)) (Q := fun _ s' => SP X pins D .next s') rfl hs hclos hkind hnames
    (wpAny_mono (hi pins s σ H _ I h) (fun v s1 h1 => wpAny_mono h1 (fun itv s2 h2 => ?_) fun _ _ e => e) fun _ _ e => e)) (fun _ s' hq => wpAny_pure (wpAny_pure hq)) fun _ _ e => e)
  obtain ⟨it, fp, tn, J, H2, e, I2, T, st2, f2, W, ⟨m0, w0⟩, step⟩ := h2
  subst e
  refine lc_block (F := fun acc H' => ∀ p, H' p = none → D.nx (σ.set i (some (.ref p))) (upd H' p (.lst acc))) (RR := fun acc C => compPost (model X.prog X.w) X.A X.xe (some (assign (.Name y py) X.env)) (fun _ s' => SP X pins D .next s') acc C) hcalm hkind hcell hx hcl1 hcl2 hcap hN I2 T st2 f2 (fun C s H => htest cl C s H fp) (fun C s H => helt cl C s H fp) W m0 w0 step ?_
  intro C σ' H' s' its k acc hC I' rv hz fin
  have J1 := lc_back I2 f2 I' rv hz
  obtain ⟨m, hn, _⟩ := I'.loc
  have hCn : upd H' s2.heap.objs.size (.lst acc) C = none := by
    rw [upd_ne (Nat.ne_of_gt hC)]
    exact I'.free
  show wpAny _ X.A (assign (.Name y py) X.env (.ref s2.heap.objs.size)) _ _ _
  refine wpAny_assign_Name (store_ok2 J1 nd hy hly (v := .ref s2.heap.objs.size) rfl (fun s'' J2 sb2 => ?_) hf)
  obtain ⟨a, sb2, ha⟩ := sb2
  have hCa : C ≠ a := by
    rcases ha with z | z
    · rw [z]
      exact Nat.ne_of_gt (Nat.lt_trans I2.lt hC)
    · obtain ⟨v, q⟩ := I2.cell y a z
      exact Nat.ne_of_gt (Nat.lt_trans q.lt hC)
  refine ⟨m, hn.sameBut sb2 hCa, fun h' sb => ?_⟩
  exact ⟨_, _, J2.behind I2 hC hCn sb, fin _ (I'.pin (s2.heap.objs.size, lObj its k) (by simp)).2.1⟩
end

/-! ### the forms one uses -/
section
variable {K : PySem.W.Frag} {σ : St} {is : List Nat} {tt : TT} {te : TE} {Q : VK} {H : Hp}
theorem lc_range {lo : Int} {n : Nat} (Pv : Nat → List V → Hp → Prop) (hn : n ≤ 1000000) (h0 : Pv 0 [] H) (hb : ∀ i acc H, Pv i acc H → acc.length ≤ i)
    (hs : ∀ i acc H, i < n → Pv i acc H → tt (capS σ is ++ [some (.int (lo + i))]) H fun b H3 => if b = true then te (capS σ is ++ [some (.int (lo + i))]) H3 fun y H4 => Pv (i + 1) (acc ++ [y]) H4 else Pv (i + 1) acc H3)
    (hd : ∀ acc H, Pv n acc H → ∀ p, H p = none → Q (.ref p) (upd H p (.lst acc))) :
    LcGo (Itr lo n) σ is tt te Q H := by
  refine ⟨fun i m acc H => m = n - i ∧ i ≤ n ∧ Pv i acc H, ⟨n, by simp, Nat.zero_le _, h0⟩, ?_⟩
  rintro i m acc H ⟨rfl, hi, p⟩
  by_cases hlt : i < n
  · refine .inr ⟨hlt, ?_, Pv (i + 1), fun acc' H' p' => ⟨n - (i + 1), by omega, rfl, hlt, p'⟩, fun v H' y => ?_⟩
    · have := hb i acc H p
      have := sizeLine_eq
      omega
    · obtain ⟨e, y⟩ := y
      subst e y
      exact hs i acc _ hlt p
  · have e : i = n := by omega
    subst e
    exact .inl ⟨Nat.le_refl _, hd acc H p⟩
theorem lc_list {a : Addr} {xs : List V} (Pv : Nat → List V → Hp → Prop) (hn : xs.length ≤ 1000000) (h0 : Pv 0 [] H) (hb : ∀ i acc H, Pv i acc H → acc.length ≤ i) (hl : ∀ i acc H, i ≤ xs.length → Pv i acc H → SqL K H a xs)
    (hs : ∀ i x acc H, xs[i]? = some x → Pv i acc H → tt (capS σ is ++ [some x]) H fun b H3 => if b = true then te (capS σ is ++ [some x]) H3 fun y H4 => Pv (i + 1) (acc ++ [y]) H4 else Pv (i + 1) acc H3)
    (hd : ∀ acc H, Pv xs.length acc H → ∀ p, H p = none → Q (.ref p) (upd H p (.lst acc))) :
    LcGo (Itl K a) σ is tt te Q H := by
  refine ⟨fun i m acc H => m = xs.length - i ∧ i ≤ xs.length ∧ Pv i acc H, ⟨xs.length, by simp, Nat.zero_le _, h0⟩, ?_⟩
  rintro i m acc H ⟨rfl, hi, p⟩
  have q := hl i acc H hi p
  by_cases hlt : i < xs.length
  · refine .inr ⟨⟨xs, xs[i], q, by simp [hlt]⟩, ?_, Pv (i + 1), fun acc' H' p' => ⟨xs.length - (i + 1), by omega, rfl, hlt, p'⟩, fun v H' y => ?_⟩
    · have := hb i acc H p
      have := sizeLine_eq
      omega
    · obtain ⟨e, y⟩ := y
      subst e
      exact hs i v acc _ (y xs q) p
  · have e : i = xs.length := by omega
    subst e
    exact .inl ⟨⟨xs, q, Nat.le_refl _⟩, hd acc H p⟩
end
end L2

set_option Elab.async false
set_option linter.all false
set_option maxRecDepth 100000
namespace L2
open PySem PySem.Spec PyProof.Rows

/-! ### isinstance -/
def kitBB (T n : String) : Option Bool := if (Value.type T == Value.type n) = true then some true else if PySem.W.kitMeta n = true then (fastBuiltinMro T).map (·.contains (.type n)) else none
theorem kit_bb (K : PySem.W.Frag) (T n : String) : PySem.W.kitOne K (.type T) (.type n) = kitBB T n := rfl
def rIsi (K : PySem.W.Frag) : List V → Hp → VK → Prop := fun xs H Q => ∃ x T n b, xs = [x, .ty n] ∧ TyOf K H x (.type T) ∧ kitBB T n = some b ∧ Q (.bl b) H
section
variable {X : Cx}
theorem call_isi : CallR X (.builtin "isinstance") (rIsi X.K) := by
  intro pins s σ H xs us Q I r h
  obtain ⟨x, T, n, b, rfl, ty, e, q⟩ := h
  obtain ⟨u, w', rfl, rx, rn⟩ := vals2 r
  cases rn
  exact isinst_ok I rx ty (by rw [kit_bb]; exact e) fun tk => ⟨.bl b, H, I.tok _, rfl, q⟩
end
theorem boot_isi : bootBuiltins "isinstance" = some (.builtin "isinstance") := by decide +kernel
theorem isi_list_list : kitBB "list" "list" = some true := by decide +kernel
theorem isi_str_str : kitBB "str" "str" = some true := by decide +kernel
theorem isi_bool_bool : kitBB "bool" "bool" = some true := by decide +kernel
theorem isi_str_list : kitBB "str" "list" = some false := by decide +kernel
theorem isi_tuple_list : kitBB "tuple" "list" = some false := by decide +kernel
theorem isi_int_int : kitBB "int" "int" = some true := by decide +kernel
theorem isi_int_bool : kitBB "int" "bool" = some false := by decide +kernel
theorem isi_str_bool : kitBB "str" "bool" = some false := by decide +kernel
end L2

set_option Elab.async false
set_option linter.all false
set_option maxRecDepth 100000
namespace L2
open PySem PySem.Spec PyProof.Rows

/-! ### the letters of a text, one by one -/
def Its (l : List Nat) : It := ⟨fun i _ => i < l.length, fun i H x H' => H' = H ∧ ∃ c, l[i]? = some c ∧ x = .str (S [c]), fun i _ => l.length ≤ i⟩
theorem S_get (l : List Nat) (i : Nat) : (S l).cps[i]? = l[i]? := by simp [S]
theorem turn_str {P : Program} {w : World} {K : PySem.W.Frag} {tg : Expr} (l : List Nat) (it : Addr) (t : Tok) : Turn P w K tg (Its l) [it] it (fun i h => h.IsStrIter it "str_ascii_iterator" (S l) t i) where
  mem := by simp
  obj := fun i h st b hb => by
    have e : b = it := by simpa using hb
    subst e
    obtain ⟨o, e, c, d⟩ := st
    exact ⟨o, e, fun v z => by rw [d] at z; cases z⟩
  keep := fun i h h' st k => let ⟨o, ho, r⟩ := st; ⟨o, k it (by simp) o ho, r⟩
  item := by
    intro X hP hw hK hc i pins s σ H E I hf st hg
    subst hP hw hK
    obtain ⟨f0, f1, f2, f3, f4, f5⟩ := hf it (by simp)
    have hi : i < l.length := hg
    refine wpAny_pyNext_ascii_item st (c := l[i]) (by rw [S_get]; simp [hi]) fun h' st' sb => ?_
    have I1 : Inv X pins σ H { s with heap := h', toks := s.toks + 1 } := I.turned (fun b o hb e => (sb.2 b hb).trans e) f0 f1 f3 f4 f5
    obtain ⟨o, e, c, d⟩ := id st'
    exact ⟨_, rfl, go_of (s := { s with heap := h', toks := s.toks + 1 }) e c d (by decide) ⟨.str (S [l[i]]), H, I1, ⟨_, rfl⟩, ⟨rfl, l[i], by simp [hi], rfl⟩, st', fun b hb => (hf b hb).1⟩⟩
  done := by
    intro X hP hw hK hc i pins s σ H E I hf st hg
    subst hP hw hK
    obtain ⟨f0, f1, f2, f3, f4, f5⟩ := hf it (by simp)
    have hi : l.length ≤ i := hg
    exact wpAny_pyNext_ascii_end (I.ok.hd hc) st (by rw [S_get]; exact List.getElem?_eq_none hi) fun h' eb => ⟨rfl, I.turned (t' := s.toks) (fun b o hb e => eb b o hb e) f0 f1 f3 f4 f5⟩
  self := fun _ _ _ _ _ st h => wpAny_pyIter_striter_ascii st h
def Ascii (l : List Nat) : Prop := ∀ c ∈ l, c < 128
def iStr (tl : TE) : TI := fun σ H R => tl σ H fun x H1 => ∃ l, x = .str (S l) ∧ Ascii l ∧ R (Its l) H1
section
variable {X : Cx} {tg : Expr}
theorem pi_str {e : Expr} {te : TE} (he : PE X e te) : PI X tg e (iStr te) := by
  intro pins s σ H R I h
  refine thn (he pins s σ H _ I h) fun v s1 ⟨x, H1, I1, r1, q1⟩ => ?_
  obtain ⟨l, e, ha, q⟩ := q1
  subst e
  obtain ⟨t, rfl⟩ := r1
  refine wpAny_pyIter_ascii ?_ ?_
  · rw [Array.all_eq_true']
    intro c hc
    have : c ∈ l := by simpa [S] using hc
    exact decide_eq_true (ha c this)
  · refine ⟨s1.heap.objs.size, [s1.heap.objs.size], _, _, H1, rfl, I1.kept (t' := s1.toks) fun b o e => Heap.get?_push_of_some _ e, turn_str l _ t, ⟨_, Heap.get?_push_size _ rfl, rfl, rfl⟩, fun b hb => ?_, q⟩
    have e : b = s1.heap.objs.size := by simpa using hb
    subst e
    exact I1.fpOk (Nat.le_refl _) (I1.hok.fresh (Nat.le_refl _))
end
theorem for_str {l : List Nat} {g : TG} {tb : TS} {D : Ends} {σ : St} {H : Hp} (Pv : Nat → St → Hp → Prop) (h0 : Pv 0 σ H)
    (hs : ∀ i c σ H, l[i]? = some c → Pv i σ H → g (.str (S [c])) σ H fun σ2 H2 => tb { D with nx := Pv (i + 1), ct := Pv (i + 1), bk := D.nx } σ2 H2) (hd : ∀ σ H, Pv l.length σ H → D.nx σ H) :
    ∃ W : Nat → Nat → St → Hp → Prop, (∃ m, W 0 m σ H) ∧ ∀ i m σ H, W i m σ H →
      ((Its l).stop i H ∧ D.nx σ H) ∨ ((Its l).go i H ∧ ∃ N : St → Hp → Prop, (∀ σ' H', N σ' H' → ∃ m', m' < m ∧ W (i + 1) m' σ' H') ∧ ∀ x H', (Its l).yld i H x H' → g x σ H' fun σ2 H2 => tb { D with nx := N, ct := N, bk := D.nx } σ2 H2) := by
  refine ⟨fun i m σ H => m = l.length - i ∧ i ≤ l.length ∧ Pv i σ H, ⟨l.length, by simp, Nat.zero_le _, h0⟩, ?_⟩
  rintro i m σ H ⟨rfl, hi, p⟩
  by_cases hlt : i < l.length
  · refine .inr ⟨hlt, Pv (i + 1), fun σ' H' p' => ⟨l.length - (i + 1), by omega, rfl, hlt, p'⟩, fun x H' y => ?_⟩
    obtain ⟨e, c, hc, ex⟩ := y
    subst e ex
    exact hs i c σ _ hc p
  · have e : i = l.length := by omega
    subst e
    exact .inl ⟨Nat.le_refl _, hd σ H p⟩
end L2

set_option Elab.async false
set_option linter.all false
set_option maxRecDepth 100000
namespace L2
open PySem PySem.Spec PyProof.Rows

/-! ### lists of texts -/
abbrev sv (l : List Nat) : V := .str (S l)
theorem strsAre_of : ∀ {ls : List (List Nat)} {us : List Value}, Vals (ls.map sv) us → StrsAre us (ls.map S)
  | [], us, r => by
    cases r
    exact .nil
  | l :: ls, us, r => by
    rw [List.map_cons] at r
    cases r with
    | cons r1 r2 =>
      obtain ⟨t, e⟩ := r1
      subst e
      exact .cons _ t (strsAre_of r2)
theorem vals_strs : ∀ {us : List Value} {ss : List Str}, StrsAre us ss → Vals (ss.map V.str) us
  | _, _, .nil => .nil
  | _, _, .cons x t h => .cons ⟨t, rfl⟩ (vals_strs h)
/-- not behind -/
def leN (a b : List Nat) : Prop := ¬ b < a
theorem erase_at : ∀ {ls : List (List Nat)} {w : List Nat}, w ∈ ls → ∃ j : Nat, ls[j]? = some w ∧ (∀ m : Nat, m < j → ls[m]? ≠ some w) ∧ ls.erase w = ls.eraseIdx j
  | [], w, h => by simp at h
  | l :: ls, w, h => by
    by_cases e : l = w
    · subst e
      exact ⟨0, rfl, fun m hm => by omega, by simp⟩
    · have h' : w ∈ ls := by
        rcases List.mem_cons.mp h with z | z
        · exact absurd z.symm e
        · exact z
      obtain ⟨j, h1, h2, h3⟩ := erase_at h'
      refine ⟨j + 1, by simpa using h1, fun m hm => ?_, ?_⟩
      · cases m with
        | zero => simpa using e
        | succ m => simpa using h2 m (by omega)
      · have : (l == w) = false := by simpa using e
        rw [List.erase_cons, this]
        simp [h3]
theorem eraseIdx_map' {α β : Type} (f : α → β) : ∀ (l : List α) (j : Nat), (l.eraseIdx j).map f = (l.map f).eraseIdx j
  | [], _ => by simp
  | _ :: _, 0 => rfl
  | a :: l, j + 1 => by
    show f a :: (l.eraseIdx j).map f = f a :: (l.map f).eraseIdx j
    rw [eraseIdx_map' f l j]
section
variable {X : Cx}
def rRemS : V → List V → Hp → VK → Prop := fun x vs H Q => ∃ (l : Addr) (ls : List (List Nat)) (w : List Nat), x = .ref l ∧ vs = [sv w] ∧ H l = some (.lst (ls.map sv)) ∧ w ∈ ls ∧ Q .non (upd H l (.lst ((ls.erase w).map sv)))
def eqW (w : List Nat) : Value → Bool
  | .str z _ => z.cps.toList == w
  | _ => false
theorem mt_removeS : MtM X "list.remove" rRemS := by
  intro pins s σ H x vs v us Q I rx rv h
  obtain ⟨l, ls, w, rfl, rfl, hH, hm, q⟩ := h
  cases rx
  obtain ⟨u, rfl, ru⟩ := rv.one
  obtain ⟨t, rfl⟩ := ru
  obtain ⟨z, its, n, r, hl, e⟩ := I.lstM hH
  obtain ⟨ps, rfl, ep⟩ := strs_of (ls := ls) r
  have hlen : ps.length = ls.length := by
    have := congrArg List.length ep
    simpa using this
  have get : ∀ (m : Nat) (hm : m < (strValues ps).toArray.size), eqW w (strValues ps).toArray[m] = (ls[m]? == some w) := fun m hm => by
    have hm' : m < ps.length := by simpa [strValues] using hm
    have hm2 : m < ls.length := by omega
    have e1 : (ps.map (·.1))[m]? = (ls.map S)[m]? := by rw [ep]
    rw [List.getElem?_map, List.getElem?_map, List.getElem?_eq_getElem hm', List.getElem?_eq_getElem hm2] at e1
    have e2 : ps[m].1 = S ls[m] := by simpa using e1
    have e3 : (strValues ps).toArray[m] = Value.str ps[m].1 ps[m].2 := by simp [strValues]
    rw [e3]
    show (ps[m].1.cps.toList == w) = _
    rw [e2, S_cps, List.getElem?_eq_getElem hm2]
    by_cases q : ls[m] = w
    · simp [q]
    · simp [q]
  obtain ⟨j, j1, j2, j3⟩ := erase_at hm
  have hj : j < ls.length := (List.getElem?_eq_some_iff.mp j1).1
  refine call_meets F.slot_list_remove ⟨_, e, rfl⟩ F.entry_list_remove (F.args_list_remove_2 _ _)
    (MeetsSeq.list_remove l (strValues ps).toArray n (.str (S w) t) (eqW w) (fun y hy => ?_) j (by simp [strValues]; omega) ?_ (fun m hm hlt => ?_) (by simp only [List.size_toArray]; omega)) ⟨e, ?_⟩
  · have hy' : y ∈ strValues ps := by simpa using hy
    obtain ⟨p, hp, rfl⟩ := List.mem_map.mp hy'
    have := PySem.SeqRoads2.EqGives.str p.1 (S w) p.2 t
    rw [S_cps] at this
    exact this
  · rw [get, j1]
    simp
  · rw [get m hm]
    exact beq_false_of_ne (j2 m hlt)
  · refine ⟨.non, _, I.lset (its' := (strValues ps).eraseIdx j) hH e (by simp) ?_ ?_, rfl, q⟩
    · rw [j3, eraseIdx_map']
      exact r.eraseIdx _
    · rw [List.length_map]
      have := List.length_erase_le (a := w) (l := ls)
      rw [List.length_map] at z
      omega
end
end L2

namespace L2
open PySem PySem.Spec PyProof.Rows
/-! ### texts by their codes: +, *, <, <= .. -/
section
variable {X : Cx}
theorem op_addN : OpR X (binaryOp .Add) (fun x y H Q => ∃ a b : List Nat, x = .str (S a) ∧ y = .str (S b) ∧ a.length + b.length ≤ sizeLine ∧ Q (.str (S (a ++ b))) H) := by
  intro pins s σ H x y v u Q I rx ry h
  obtain ⟨a, b, rfl, rfl, hz, q⟩ := h
  exact op_add_str pins s σ H _ _ v u Q I rx ry ⟨S a, S b, rfl, rfl, by rw [S_len, S_len]; exact hz, by rw [S_app]; exact q⟩
theorem op_ltN : OpR X (compareOp .Lt) (fun x y H Q => ∃ a b : List Nat, x = .str (S a) ∧ y = .str (S b) ∧ Q (.bl (decide (a < b))) H) := by
  intro pins s σ H x y v u Q I rx ry h
  obtain ⟨a, b, rfl, rfl, q⟩ := h
  exact op_lt_str pins s σ H _ _ v u Q I rx ry ⟨S a, S b, rfl, rfl, by rw [S_cps, S_cps]; exact q⟩
theorem op_leN : OpR X (compareOp .LtE) (fun x y H Q => ∃ a b : List Nat, x = .str (S a) ∧ y = .str (S b) ∧ Q (.bl (!decide (b < a))) H) := by
  intro pins s σ H x y v u Q I rx ry h
  obtain ⟨a, b, rfl, rfl, q⟩ := h
  obtain ⟨t, rfl⟩ := rx
  obtain ⟨t', rfl⟩ := ry
  exact PySem.P.le_str (fin_bl I q (by rw [S_cps, S_cps]))
theorem op_gtN : OpR X (compareOp .Gt) (fun x y H Q => ∃ a b : List Nat, x = .str (S a) ∧ y = .str (S b) ∧ Q (.bl (decide (b < a))) H) := by
  intro pins s σ H x y v u Q I rx ry h
  obtain ⟨a, b, rfl, rfl, q⟩ := h
  obtain ⟨t, rfl⟩ := rx
  obtain ⟨t', rfl⟩ := ry
  exact PySem.P.gt_str (fin_bl I q (by rw [S_cps, S_cps]))
end
theorem boot_list : bootBuiltins "list" = some (.type "list") := by decide +kernel
theorem boot_str : bootBuiltins "str" = some (.type "str") := by decide +kernel
theorem boot_int : bootBuiltins "int" = some (.type "int") := by decide +kernel
theorem boot_bool : bootBuiltins "bool" = some (.type "bool") := by decide +kernel
theorem boot_tuple : bootBuiltins "tuple" = some (.type "tuple") := by decide +kernel
end L2

set_option Elab.async false
set_option linter.all false
set_option maxRecDepth 100000
namespace L2
open PySem PySem.Spec PyProof.Rows PySem.SeqAt

section
variable {X : Cx}
/-- xs != [] -/
theorem op_neNil (hu : X.A.units < cLine) : OpR X (compareOp .NotEq) (fun x y H Q => ∃ p q xs, x = .ref p ∧ y = .ref q ∧ SqL X.K H p xs ∧ SqL X.K H q [] ∧ Q (.bl (!xs.isEmpty)) H) := by
  intro pins s σ H x y v u Q I rx ry h
  obtain ⟨p, q, xs, rfl, rfl, hp, hq, k⟩ := h
  cases rx
  cases ry
  obtain ⟨i1, r1, l1, z1⟩ := I.list hp
  obtain ⟨i2, r2, l2, z2⟩ := I.list hq
  have e2 : i2 = [] := by
    have := r2.length
    exact List.length_eq_zero_iff.mp this.symm
  subst e2
  cases xs with
  | nil =>
    have e1 : i1 = [] := List.length_eq_zero_iff.mp r1.length.symm
    subst e1
    exact RcNeAt.lists (e := fun _ => true) l1.isList l2.isList rfl hu (fun j h1 _ => absurd h1 (by simp)) X.prog X.w X.xe _ ⟨.bl false, H, I, rfl, k⟩
  | cons y ys =>
    have e1 := r1.length
    exact RcNeAt.lists_lengths l1.isList l2.isList (by simp at e1 ⊢; intro z; subst z; simp at e1) hu X.prog X.w X.xe _ ⟨.bl true, H, I, rfl, k⟩

/-- a text n times -/
def repN (n : Nat) (l : List Nat) : List Nat := (List.replicate n l).flatten
theorem rep_fold (l : List Nat) : ∀ (n : Nat) (acc : Array Nat), (List.replicate n l.toArray).foldl (· ++ ·) acc = acc ++ (repN n l).toArray
  | 0, acc => by simp [repN]
  | n + 1, acc => by
    rw [List.replicate_succ, List.foldl_cons, rep_fold l n]
    unfold repN
    rw [List.replicate_succ, List.flatten_cons]
    simp
theorem mul_S (l : List Nat) (n : Nat) (h : 1 < n) (hl : l ≠ []) : Txt.mul (S l) (n : Int) = S (repN n l) := by
  unfold Txt.mul
  rw [if_neg (by omega)]
  have e : ((n : Int) == 1 || (S l).length == 0) = false := by
    rw [S_len, Bool.or_eq_false_iff]
    refine ⟨by simp; omega, ?_⟩
    have : l.length ≠ 0 := fun z => hl (List.length_eq_zero_iff.mp z)
    simpa using this
  rw [e]
  simp only [Bool.false_eq_true, if_false, Int.toNat_natCast]
  have hc : (S l).cps = l.toArray := rfl
  rw [hc, rep_fold]
  unfold S
  simp
theorem op_mulN : OpR X (binaryOp .Mult) (fun x y H Q => ∃ (l : List Nat) (n : Nat), x = .str (S l) ∧ y = .int (n : Int) ∧ 1 < n ∧ l ≠ [] ∧ l.length * n ≤ 1000000 ∧ Q (.str (S (repN n l))) H) := by
  intro pins s σ H x y v u Q I rx ry h
  obtain ⟨l, n, rfl, rfl, hn, hl, hz, k⟩ := h
  obtain ⟨t, rfl⟩ := rx
  obtain ⟨t', rfl⟩ := ry
  have hsz := sizeLine_eq
  have hl0 : 0 < l.length := by
    rcases Nat.eq_zero_or_pos l.length with z | z
    · exact absurd (List.length_eq_zero_iff.mp z) hl
    · exact z
  have hnb : n ≤ 1000000 := Nat.le_trans (Nat.le_mul_of_pos_left n hl0) hz
  refine SB.mul ⟨?_, fun _ _ => ?_, fun _ _ => ?_⟩ fun t2 k2 => ?_
  · have e1 : decide ((n : Int) < -(2 ^ 63 : Int)) = false := decide_eq_false (by omega)
    have e2 : decide ((n : Int) ≥ 2 ^ 63) = false := decide_eq_false (by omega)
    rw [e1, e2]
    rfl
  · rw [S_len]
    have hlb : l.length ≤ 1000000 := Nat.le_trans (Nat.le_mul_of_pos_right _ (by omega)) hz
    have : (1000000 : Int) ≤ (2 ^ 63 - 1) / (n : Int) := by
      rw [Int.le_ediv_iff_mul_le (by omega)]
      omega
    omega
  · rw [S_len]
    unfold Builtin.Str.tooLong
    exact decide_eq_false (by simp only [Int.toNat_natCast]; omega)
  · rw [mul_S l n hn hl]
    exact ⟨.str (S (repN n l)), H, I.tok _, ⟨t2, rfl⟩, k⟩

/-- isinstance(x, (A, B)) -/
def kitAnyBB (T : String) : List String → Option Bool
  | [] => some false
  | n :: r => match kitBB T n with
    | some true => some true
    | some false => kitAnyBB T r
    | none => none
theorem kitAny_bb (K : PySem.W.Frag) (T : String) : ∀ ns : List String, PySem.W.kitAny K (.type T) (ns.map Value.type) = kitAnyBB T ns
  | [] => rfl
  | n :: r => by
    show (match PySem.W.kitOne K (.type T) (.type n) with | some true => some true | some false => PySem.W.kitAny K (.type T) (r.map Value.type) | none => none) = _
    rw [kit_bb, kitAny_bb K T r]
    rfl
theorem vals_ty : ∀ {ns : List String} {us : List Value}, Vals (ns.map V.ty) us → us = ns.map Value.type
  | [], us, r => by
    cases r
    rfl
  | n :: ns, us, r => by
    rw [List.map_cons] at r
    cases r with
    | cons r1 r2 =>
      cases r1
      rw [vals_ty r2]
      rfl
/-- what KitX asks of a value, by its kind -/
theorem isinstT_ok {pins : List (Addr × Obj)} {σ : St} {H : Hp} {s : Shared} {A : Around} {E : Value → Shared → Prop} {Q : Value → Shared → Prop} {x : V} {u : Value} {T : String} {tp : Addr} {ns : List String} {b : Bool} (I : Inv X pins σ H s) (rx : RelV x u) (ty : TyOf X.K H x (.type T))
    (ht : H tp = some (.tup (ns.map V.ty))) (e : kitAnyBB T ns = some b) (h : ∀ tk, Q (.bool b) { s with toks := tk }) : wpAny (model X.prog X.w) A (call (.builtin "isinstance") [u, .ref tp]) Q E s := by
  obtain ⟨_, its, rv, ⟨o, h1, h2, n, h3⟩⟩ := (show ObjOk X.prog X.w H s.heap tp (.tup (ns.map V.ty)) from I.hok tp _ ht)
  have ei := vals_ty rv
  subst ei
  have htp : s.heap.get? tp = some ⟨.type "tuple", o.dict, .seq (ns.map Value.type).toArray n, o.slots⟩ := by
    rw [h1]
    obtain ⟨c, d, dt, sl⟩ := o
    simp only at h2 h3
    subst h2 h3
    rfl
  have ek : PySem.W.kitAny X.K (.type T) (ns.map Value.type) = some b := by rw [kitAny_bb]; exact e
  cases ty with
  | non => cases (show u = Value.none from rx); exact PySem.W.kia_tup PySem.W.kitx_none I.kIn True.intro htp ek (fun z => nomatch z) h
  | bl y => cases (show u = Value.bool y from rx); exact PySem.W.kia_tup PySem.W.kitx_bool I.kIn True.intro htp ek (fun z => nomatch z) h
  | int i => obtain ⟨t, q⟩ := (show ∃ t, u = Value.int i t from rx); cases q; exact PySem.W.kia_tup PySem.W.kitx_int I.kIn True.intro htp ek (fun z => nomatch z) h
  | str y => obtain ⟨t, q⟩ := (show ∃ t, u = Value.str y t from rx); cases q; exact PySem.W.kia_tup PySem.W.kitx_str I.kIn True.intro htp ek (fun z => nomatch z) h
  | flt y => obtain ⟨t, q⟩ := (show ∃ t, u = Value.float y t from rx); cases q; exact PySem.W.kia_tup PySem.W.kitx_float I.kIn True.intro htp ek (fun z => nomatch z) h
  | @lst a xs ea =>
    cases (show u = Value.ref a from rx)
    obtain ⟨_, _, n', _, h1'⟩ := (show ObjOk X.prog X.w H s.heap a (.lst xs) from I.hok a _ ea)
    exact PySem.W.kia_tup PySem.W.kitx_list I.kIn ⟨_, h1', rfl⟩ htp ek (fun z => nomatch z) h
  | @frz a ob xs ea =>
    cases (show u = Value.ref a from rx)
    obtain ⟨_, _, _, n', _, h1'⟩ := (show ObjOk X.prog X.w H s.heap a (.frz ob (.lst xs)) from I.hok a _ ea)
    exact PySem.W.kia_tup PySem.W.kitx_list I.kIn ⟨_, h1', rfl⟩ htp ek (fun z => nomatch z) h
  | @tup a xs ea =>
    cases (show u = Value.ref a from rx)
    obtain ⟨_, _, _, p⟩ := (show ObjOk X.prog X.w H s.heap a (.tup xs) from I.hok a _ ea)
    obtain ⟨o', h1', h2', _⟩ := p
    exact PySem.W.kia_tup PySem.W.kitx_tuple I.kIn ⟨o', h1', h2'⟩ htp ek (fun z => nomatch z) h
  | @dK a kvs ea =>
    cases (show u = Value.ref a from rx)
    obtain ⟨_, _, vs, _, p⟩ := (show ObjOk X.prog X.w H s.heap a (.dK kvs) from I.hok a _ ea)
    obtain ⟨o', es, ep, h1', h2', _⟩ := p
    exact PySem.W.kia_tup PySem.W.kitx_dict I.kIn ⟨o', h1', h2'.1⟩ htp ek (fun z => nomatch z) h
  | @dT a kvs ea =>
    cases (show u = Value.ref a from rx)
    obtain ⟨_, _, xs, _, o', es, ep, h1', h2', _⟩ := (show ObjOk X.prog X.w H s.heap a (.dT kvs) from I.hok a _ ea)
    exact PySem.W.kia_tup PySem.W.kitx_dict I.kIn ⟨o', h1', h2'.1⟩ htp ek (fun z => nomatch z) h
theorem call_isiT : CallR X (.builtin "isinstance") (fun xs H Q => ∃ x T tp ns b, xs = [x, .ref tp] ∧ TyOf X.K H x (.type T) ∧ H tp = some (.tup (ns.map V.ty)) ∧ kitAnyBB T ns = some b ∧ Q (.bl b) H) := by
  intro pins s σ H xs us Q I r h
  obtain ⟨x, T, tp, ns, b, rfl, ty, ht, e, q⟩ := h
  obtain ⟨u, w', rfl, rx, rn⟩ := vals2 r
  cases rn
  exact isinstT_ok I rx ty ht e fun tk => ⟨.bl b, H, I.tok _, rfl, q⟩
end
theorem isiT_tuple : kitAnyBB "tuple" ["list", "tuple"] = some true := by decide +kernel
theorem isiT_list : kitAnyBB "list" ["list", "tuple"] = some true := by decide +kernel
theorem isiT_str : kitAnyBB "str" ["list", "tuple"] = some false := by decide +kernel
theorem isiT_int : kitAnyBB "int" ["list", "tuple"] = some false := by decide +kernel
theorem isiT_str2 : kitAnyBB "str" ["str", "int"] = some true := by decide +kernel
theorem isiT_int2 : kitAnyBB "int" ["str", "int"] = some true := by decide +kernel
theorem isi_int_str : kitBB "int" "str" = some false := by decide +kernel
theorem isi_list_str : kitBB "list" "str" = some false := by decide +kernel
end L2

set_option Elab.async false
set_option linter.all false
set_option maxRecDepth 100000
namespace L2
open PySem PySem.Spec PyProof.Rows

/-! ### a block with a word between two statements -/
def tSeqM (t u : TS) : TS := fun D σ H => ∃ M : St → Hp → Prop, (∀ σ H, M σ H → u D σ H) ∧ t { D with nx := M } σ H
section
variable {X : Cx} {st : Stmt} {rest : List Stmt} {t u : TS}
theorem pss_consM (h1 : PS X st t) (h2 : PSs X rest u) : PSs X (st :: rest) (tSeqM t u) := by
  intro pins s σ H D I h
  obtain ⟨M, hM, q⟩ := h
  refine wpAny_execs_cons (thn (h1 pins s σ H { D with nx := M } I q) fun f s1 q => ?_)
  cases f with
  | next =>
    obtain ⟨σ', H', I', q⟩ := q
    exact h2 pins s1 σ' H' D I' (hM σ' H' q)
  | ret v => exact q
  | brk => exact q
  | cont => exact q
end

/-! ### sorted texts -/
theorem rise_pw : ∀ (p : List Nat) (ls : List (List Nat)), risingS (S p) (ls.map S) = true → (p :: ls).Pairwise fun a b => ¬ b < a
  | p, [], _ => by simp
  | p, x :: r, h => by
    have h' : (!ltCps (S x).cps.toList (S p).cps.toList && risingS (S x) (r.map S)) = true := h
    rw [Bool.and_eq_true, S_cps, S_cps, ltCps_eq, Bool.not_eq_true', decide_eq_false_iff_not] at h'
    have ih := rise_pw x r h'.2
    refine List.pairwise_cons.mpr ⟨fun b hb => ?_, ih⟩
    rcases List.mem_cons.mp hb with e | e
    · rw [e]
      exact h'.1
    · have h2 := (List.pairwise_cons.mp ih).1 b e
      intro z
      rcases List.le_total x b with y | y
      · rcases List.le_total p x with y2 | y2
        · exact absurd z (List.not_lt.mpr (List.le_trans y2 y))
        · have : x = p := List.le_antisymm y2 (List.not_lt.mp h'.1)
          rw [this] at h2
          exact h2 z
      · have : x = b := List.le_antisymm (List.not_lt.mp h2) y
        rw [this] at h'
        exact h'.1 z
theorem sorted_pw : ∀ ls : List (List Nat), sortedS (ls.map S) = true → ls.Pairwise fun a b => ¬ b < a
  | [], _ => by simp
  | x :: r, h => rise_pw x r h
theorem map_S_of : ∀ ss : List Str, (ss.map fun z => z.cps.toList).map S = ss
  | [] => rfl
  | z :: r => by
    rw [List.map_cons, List.map_cons, S_of, map_S_of r]
theorem perm_S {ss : List Str} {ls : List (List Nat)} (h : ss.Perm (ls.map S)) : (ss.map fun z => z.cps.toList).Perm ls := by
  have := h.map fun z : Str => z.cps.toList
  rw [List.map_map] at this
  have e : ((fun z : Str => z.cps.toList) ∘ S) = id := by
    funext l
    exact S_cps l
  rw [e, List.map_id] at this
  exact this
section
variable {X : Cx}
theorem call_sortedS : CallR X (.builtin "sorted") (fun xs H Q => ∃ (p : Addr) (ls : List (List Nat)), xs = [.ref p] ∧ SqL X.K H p (ls.map sv) ∧ ls.length < 64 ∧
    ∀ ls' : List (List Nat), ls'.Perm ls → (ls'.Pairwise fun a b => ¬ b < a) → ∀ q, H q = none → Q (.ref q) (upd H q (.lst (ls'.map sv)))) := by
  intro pins s σ H xs us Q I r h
  obtain ⟨p, ls, rfl, hp, h64, k⟩ := h
  obtain ⟨u, rfl, ru⟩ := vals1 r
  cases ru
  obtain ⟨its, rv, pl, hz⟩ := I.list hp
  have hl := rv.length
  rw [List.length_map] at hl
  refine sorted_strs pl.isList (strsAre_of rv) (by omega) fun out ss' a1 a2 a3 => ?_
  obtain ⟨e, he⟩ := sortedAll_at s.heap its out
  obtain ⟨ls', hls⟩ : ∃ ls' : List (List Nat), ss' = ls'.map S := ⟨_, (map_S_of ss').symm⟩
  have hperm : ls'.Perm ls := by
    have := perm_S (ss := ss') a2
    rw [hls, List.map_map] at this
    have e2 : ((fun z : Str => z.cps.toList) ∘ S) = id := by
      funext l
      exact S_cps l
    rw [e2, List.map_id] at this
    exact this
  subst hls
  have hv : Vals (ls'.map sv) out.toList := by
    have := vals_strs a1
    rw [List.map_map] at this
    exact this
  have hn : H (s.heap.objs.size + 1) = none := I.hok.fresh (Nat.le_succ _)
  refine ⟨.ref (s.heap.objs.size + 1), _, I.laid (t' := s.toks) (o := .lst (ls'.map sv)) (fun b o q => sortedAll_old q) (Nat.le_succ _) ?_, rfl, k ls' hperm (sorted_pw ls' a3) _ hn⟩
  refine ⟨?_, out.toList, e, hv, ?_⟩
  · rw [List.length_map, hperm.length_eq]
    have := sizeLine_eq
    omega
  · rw [he]
theorem boot_sorted_ : bootBuiltins "sorted" = some (.builtin "sorted") := by decide +kernel
end
end L2

set_option Elab.async false
set_option linter.all false
set_option maxRecDepth 100000
namespace L2
open PySem PySem.Spec PyProof.Rows
/-! ### list(range(i, j)) -/
def rngV (i j : Int) : List V := (List.range (j - i).toNat).map fun k : Nat => V.int (i + (k : Int))
theorem rngV_length (i j : Int) : (rngV i j).length = (j - i).toNat := by simp [rngV]
theorem vals_rng {i : Int} : ∀ {n : Nat} {us : List Value} {o : Nat}, us.length = n → (∀ (m : Nat) v, us[m]? = some v → ∃ t, v = Value.int (i + ((o + m : Nat) : Int)) t) → Vals ((List.range' o n).map fun k : Nat => V.int (i + (k : Int))) us
  | 0, [], _, _, _ => .nil
  | 0, _ :: _, _, h, _ => by simp at h
  | n + 1, [], _, h, _ => by simp at h
  | n + 1, u :: us, o, h, k => by
    rw [List.range'_succ, List.map_cons]
    refine .cons ?_ ?_
    · obtain ⟨t, e⟩ := k 0 u rfl
      exact ⟨t, by simpa using e⟩
    · refine vals_rng (by simpa using h) fun m v hv => ?_
      obtain ⟨t, e⟩ := k (m + 1) v (by simpa using hv)
      refine ⟨t, ?_⟩
      rw [e]
      congr 3
      omega
section
variable {X : Cx}
def tLR (ta : TA) : TE := fun σ H Q => ta σ H fun vs H1 => ∃ i j : Int, vs = [.int i, .int j] ∧ (-(2 ^ 62) ≤ i ∧ i < 2 ^ 62 ∧ -(2 ^ 62) ≤ j ∧ j < 2 ^ 62) ∧ (j - i).toNat ≤ 10000 ∧ ∀ l, H1 l = none → Q (.ref l) (upd H1 l (.lst (rngV i j)))
theorem pe_listRange {a b : Expr} {ta : TA} {p pos p' pos' : Pos} (hc : X.calm = true) (hgl : Gl X "list") (hml : X.mg "list" = none) (hg : Gl X "range") (hm : X.mg "range" = none) (ha : PA X [a, b] ta)
    (hs : starEach [a, b] X.env = [(false, eval a X.env), (false, eval b X.env)] := by rfl) (hs2 : starEach [b] X.env = [(false, eval b X.env)] := by rfl)
    (he : starEach [.Call (.Name "range" p') [a, b] [] pos'] X.env = [(false, eval (.Call (.Name "range" p') [a, b] [] pos') X.env)] := by rfl) :
    PE X (.Call (.Name "list" p) [.Call (.Name "range" p') [a, b] [] pos'] [] pos) (tLR ta) := by
  intro pins s σ H Q I h
  have hsz := sizeLine_eq
  refine wpAny_Call_Name_kw (ld_blt I hgl hml boot_list ?_)
  refine PyProof.Rows.callWith_type1 ?_ (by rw [he]; rfl) rfl
  rw [he]
  show wpAny _ _ (spliced ((false, eval (.Call (.Name "range" p') [a, b] [] pos') X.env) :: backTo pos [])) _ _ s
  refine Calls.spliced_cons ?_
  refine Call_ (ld_blt I hg hm boot_range (PyProof.Rows.callWith_type1 (thn (ha pos' pins s σ H _ I h) fun us s1 ⟨vs, H1, I1, r1, q1⟩ => ?_) (by rw [hs, hs2]) (by rw [hs2]; rfl)))
  obtain ⟨i, j, e, ⟨q1, q2, q3, q4⟩, hn, q⟩ := q1
  subst e
  cases r1 with
  | cons r rr =>
    cases rr with
    | cons r' rr =>
      cases rr
      obtain ⟨t, rfl⟩ := r
      obtain ⟨t', rfl⟩ := r'
      refine call_range_2 ?_
      refine Calls.spliced_nil ?_
      have I2 := I1.kept (t' := s1.toks + 1) (h' := s1.heap.push { cls := .type "range", data := .fields #[.int i t, .int j t', .int 1 s1.toks] }) fun b o e => Heap.get?_push_of_some _ e
      refine call_list_range (n := (j - i).toNat) (I2.ok.hd hc) (IsRange.new ..) (small_one q1 q2 q3 q4) (by rw [rangeSize_one]; split <;> omega) (by omega) fun h' tk acc' c' hk hS' hacc => ?_
      refine ⟨.ref _, _, I2.laid (t' := tk) hk (Nat.le_refl _) (show ObjOk X.prog X.w _ h' _ (.lst (rngV i j)) from ⟨by rw [rngV_length]; omega, acc'.toList, c', ?_, by simpa using hS'⟩), rfl, q _ (I2.hok.fresh (Nat.le_refl _))⟩
      unfold rngV
      rw [List.range_eq_range']
      refine vals_rng (by simpa using hacc.1) fun m v hv => ?_
      obtain ⟨t2, e⟩ := hacc.2 m v (by simpa using hv)
      exact ⟨t2, by rw [e]; congr 2⟩
end
end L2

set_option Elab.async false
set_option linter.all false
set_option maxRecDepth 100000
set_option maxHeartbeats 4000000
/-! Words, deeds: what every law of the whole program speaks of. -/
namespace WH
open PySem L2
/-- a text of letters -/
def Letters (l : List Nat) : Prop := ∀ c ∈ l, 97 ≤ c ∧ c ≤ 122
theorem letters_nil : Letters [] := fun _ h => nomatch h
theorem Letters.app {a b : List Nat} (h : Letters a) (k : Letters b) : Letters (a ++ b) := fun c hc => (List.mem_append.mp hc).elim (h c) (k c)
theorem Letters.take {a : List Nat} (h : Letters a) (n : Nat) : Letters (a.take n) := fun c hc => h c (List.mem_of_mem_take hc)
theorem Letters.ascii {a : List Nat} (h : Letters a) : Ascii a := fun c hc => by
  have := h c hc
  omega
/-- the alphabet's codes -/
def alpha : List Nat := (List.range 26).map (97 + ·)
theorem alpha_eq : ("abcdefghijklmnopqrstuvwxyz" : Str) = S alpha := by decide +kernel
theorem nil_eq : ("" : Str) = S [] := by decide +kernel
theorem alpha_letters : Letters alpha := by
  intro c hc
  obtain ⟨k, hk, rfl⟩ := List.mem_map.mp hc
  have := List.mem_range.mp hk
  omega
theorem alpha_at (z : Int) : atI alpha (z % 26) = some (97 + (z % 26).toNat) := by
  obtain ⟨k, hk⟩ : ∃ k : Nat, z % 26 = (k : Int) := ⟨(z % 26).toNat, by omega⟩
  rw [hk]
  refine atI_nat ?_
  have : k < 26 := by omega
  unfold alpha
  rw [List.getElem?_map, List.getElem?_range this]
  rfl
/-- one deed of a day -/
inductive Deed where
  | put (w : List Nat) | take (w : List Nat) | has (w : List Nat) | all (t : List Nat) | longest (t : List Nat) | ahead (t : List Nat) | at_ (z : Int)
  deriving DecidableEq
def Deed.name : Deed → Str
  | .put _ => "put" | .take _ => "take" | .has _ => "has" | .all _ => "all" | .longest _ => "longest" | .ahead _ => "ahead" | .at_ _ => "at"
def Deed.arg : Deed → V
  | .put w => sv w | .take w => sv w | .has w => sv w | .all w => sv w | .longest w => sv w | .ahead w => sv w | .at_ z => .int z
def tag : Deed → Nat
  | .put _ => 0 | .take _ => 1 | .has _ => 2 | .all _ => 3 | .longest _ => 4 | .ahead _ => 5 | .at_ _ => 6
def nameN : Nat → Str
  | 0 => "put" | 1 => "take" | 2 => "has" | 3 => "all" | 4 => "longest" | 5 => "ahead" | _ => "at"
theorem tag_name (d : Deed) : d.name = nameN (tag d) := by cases d <;> rfl
theorem tag_lt (d : Deed) : tag d < 7 := by cases d <;> simp [tag]
theorem names_part : ∀ i : Fin 7, ∀ j : Fin 7, decide (V.str (nameN i.val) = V.str (nameN j.val)) = decide (i.val = j.val) := by decide +kernel
theorem dname (d e : Deed) : decide (V.str d.name = V.str e.name) = decide (tag d = tag e) := by
  have := names_part ⟨tag d, tag_lt d⟩ ⟨tag e, tag_lt e⟩
  simp only [tag_name d, tag_name e]
  exact this
/-- a deed as it is handed in -/
def DeedAt (H : Hp) (p : Addr) (d : Deed) : Prop := H p = some (.tup [.str d.name, d.arg])
def DeedsAt (H : Hp) (ps : List Addr) (ds : List Deed) : Prop := Paired (DeedAt H) ps ds
theorem DeedsAt.same {H H' : Hp} (h : Same H H') {ps : List Addr} {ds : List Deed} (q : DeedsAt H ps ds) : DeedsAt H' ps ds := Paired.mapP q fun _ _ z => h _ _ z
theorem DeedsAt.get {H : Hp} : ∀ {ps : List Addr} {ds : List Deed} {i : Nat} {d : Deed}, DeedsAt H ps ds → ds[i]? = some d → ∃ p, ps[i]? = some p ∧ DeedAt H p d
  | _, _, _, _, .nil, e => by simp at e
  | _, _, 0, _, .cons r _, e => by
    simp at e
    subst e
    exact ⟨_, rfl, r⟩
  | _, _, i + 1, d, .cons _ t, e => by
    obtain ⟨p, h1, h2⟩ := DeedsAt.get (i := i) (d := d) t (by simpa using e)
    exact ⟨p, by simpa using h1, h2⟩
theorem DeedsAt.snoc {H : Hp} {ps : List Addr} {ds : List Deed} {p : Addr} {d : Deed} (q : DeedsAt H ps ds) (r : DeedAt H p d) : DeedsAt H (ps ++ [p]) (ds ++ [d]) := Paired.snoc q r
theorem DeedsAt.length {H : Hp} {ps : List Addr} {ds : List Deed} (q : DeedsAt H ps ds) : ps.length = ds.length := Paired.length q
/-- the deeds that puts makes: a word of at most a hundred letters -/
def Made (d : Deed) : Prop := ∃ w, (d = .put w ∨ d = .take w ∨ d = .has w) ∧ Letters w ∧ w.length ≤ 100
theorem Made.word {d : Deed} (h : Made d) : ∃ w, d.arg = sv w ∧ Letters w ∧ w.length ≤ 100 := by
  obtain ⟨w, e, h1, h2⟩ := h
  rcases e with rfl | rfl | rfl <;> exact ⟨w, rfl, h1, h2⟩
theorem get_int {ns : List Int} {i : Nat} {x : V} (h : (ns.map V.int)[i]? = some x) : ∃ z, ns[i]? = some z ∧ x = V.int z := by
  rw [List.getElem?_map] at h
  cases e : ns[i]? with
  | none => rw [e] at h; cases h
  | some z => rw [e] at h; exact ⟨z, rfl, (Option.some.inj h).symm⟩
theorem ints_at {ns : List Int} {i : Nat} (h : i < ns.length) : atI (ns.map V.int) (i : Int) = some (.int ns[i]) := atI_nat (by rw [List.getElem?_map, List.getElem?_eq_getElem h]; rfl)
/-- what was tracked is as it was, when something new is laid -/
theorem same_new {H : Hp} {p : Addr} {o : HO} (h : H p = none) : Same H (upd H p o) := fun b u e => by
  rw [upd_ne (ne_of_none e h)]
  exact e
theorem same_upd {H H' : Hp} {p : Addr} {o : HO} (s : Same H H') (h : H p = none) : Same H (upd H' p o) := fun b u e => by
  rw [upd_ne (ne_of_none e h)]
  exact s b u e
theorem DeedsAt.updL {H : Hp} {r : Addr} {xs : List V} {o : HO} {ps : List Addr} {ds : List Deed} (q : DeedsAt H ps ds) (h : H r = some (.lst xs)) : DeedsAt (upd H r o) ps ds := Paired.mapP q fun p d z => by
  show upd H r o p = _
  rw [upd_ne (ne_of z h (by intro y; cases y))]
  exact z
/-- what unturned holds against one another: level by level, with what it costs -/
def Sc (v : V) : Prop := (∃ l, v = sv l) ∨ ∃ z, v = .int z
def ItemL (H : Hp) : Nat → V → V → Nat → Prop
  | 0, x, y, c => x = y ∧ Sc x ∧ c = 1
  | k + 1, x, y, c => ∃ (p q : Addr) (xs ys : List V) (d : Nat), x = .ref p ∧ y = .ref q ∧ ((H p = some (.tup xs) ∧ H q = some (.tup ys)) ∨ (H p = some (.lst xs) ∧ H q = some (.lst ys))) ∧ xs.length = ys.length ∧ xs.length ≤ 1000 ∧
      (∀ (i : Nat) a b, xs[i]? = some a → ys[i]? = some b → ItemL H k a b d) ∧ c = d * xs.length + 1
/-- an entry of its stack: the pair's place, the two, their level, their cost -/
structure Ent where
  p : Addr
  x : V
  y : V
  k : Nat
  c : Nat
def EntAt (H0 H : Hp) (e : Ent) : Prop := H e.p = some (.tup [e.x, e.y]) ∧ ItemL H0 e.k e.x e.y e.c
def cost (es : List Ent) : Nat := (es.map (·.c)).sum
theorem cost_app (a b : List Ent) : cost (a ++ b) = cost a + cost b := by
  unfold cost
  rw [List.map_append, List.sum_append]
theorem ItemL.pos {H : Hp} : ∀ {k : Nat} {x y : V} {c : Nat}, ItemL H k x y c → 1 ≤ c
  | 0, _, _, _, h => by
    have := h.2.2
    omega
  | _ + 1, _, _, _, ⟨_, _, _, _, _, _, _, _, _, _, _, h⟩ => by omega
theorem cost_len {H0 H : Hp} : ∀ {es : List Ent}, (∀ e ∈ es, EntAt H0 H e) → es.length ≤ cost es
  | [], _ => Nat.zero_le _
  | e :: es, h => by
    have h1 := (h e (List.mem_cons_self ..)).2.pos
    have h2 := cost_len fun e' he' => h e' (List.mem_cons_of_mem _ he')
    show es.length + 1 ≤ cost ([e] ++ es)
    rw [cost_app]
    have : cost [e] = e.c := by simp [cost]
    omega
/-- the long words: the alphabet four times over, cut -/
def long : List Nat := repN 4 alpha
theorem long_letters : Letters long := by
  intro c hc
  unfold long repN at hc
  obtain ⟨l, hl, hc⟩ := List.mem_flatten.mp hc
  rw [(List.mem_replicate.mp hl).2] at hc
  exact alpha_letters c hc
theorem long_cut {k : Int} (h0 : 0 ≤ k) (h1 : k ≤ 100) : Letters (cutN long none (some k)) ∧ (cutN long none (some k)).length ≤ 100 := by
  obtain ⟨n, rfl⟩ : ∃ n : Nat, k = (n : Int) := ⟨k.toNat, by omega⟩
  rw [cutN_to]
  refine ⟨long_letters.take n, ?_⟩
  rw [List.length_take]
  omega
/-! ### what a day is to tell -/
inductive Ans where
  | bool (b : Bool) | words (ls : List (List Nat)) | opt (o : Option (List Nat)) | num (n : Nat)
def AnsAt (H : Hp) (v : V) : Ans → Prop
  | .bool b => v = .bl b
  | .words ls => ∃ p, v = .ref p ∧ H p = some (.lst (ls.map sv))
  | .opt none => v = .non
  | .opt (some w) => v = sv w
  | .num n => v = .int (n : Int)
def AnswersAt (H : Hp) (vs : List V) (as : List Ans) : Prop := Paired (AnsAt H) vs as
theorem AnsAt.same {H H' : Hp} (h : Same H H') {v : V} : ∀ {a : Ans}, AnsAt H v a → AnsAt H' v a
  | .bool _, q => q
  | .words _, ⟨p, e, q⟩ => ⟨p, e, h _ _ q⟩
  | .opt none, q => q
  | .opt (some _), q => q
  | .num _, q => q
theorem AnswersAt.same {H H' : Hp} (h : Same H H') {vs : List V} {as : List Ans} (q : AnswersAt H vs as) : AnswersAt H' vs as := Paired.mapP q fun _ _ z => z.same h
theorem AnswersAt.get {H : Hp} : ∀ {vs : List V} {as : List Ans} {i : Nat} {a : Ans}, AnswersAt H vs as → as[i]? = some a → ∃ v, vs[i]? = some v ∧ AnsAt H v a
  | _, _, _, _, .nil, e => by simp at e
  | _, _, 0, _, .cons r _, e => by
    simp at e
    subst e
    exact ⟨_, rfl, r⟩
  | _, _, i + 1, d, .cons _ t, e => by
    obtain ⟨p, h1, h2⟩ := AnswersAt.get (i := i) (a := d) t (by simpa using e)
    exact ⟨p, by simpa using h1, h2⟩
theorem AnswersAt.length {H : Hp} {vs : List V} {as : List Ans} (q : AnswersAt H vs as) : vs.length = as.length := Paired.length q
/-- words in their order -/
def srt (W : List (List Nat)) : List (List Nat) := W.mergeSort fun a b => decide (¬ b < a)
def stepW (W : List (List Nat)) : Deed → List (List Nat)
  | .put w => if w ∈ W then W else W ++ [w]
  | .take w => W.erase w
  | _ => W
def ans (W : List (List Nat)) : Deed → Ans
  | .put w => .bool (!decide (w ∈ W))
  | .take w => .bool (decide (w ∈ W))
  | .has w => .bool (decide (w ∈ W))
  | .all t => .words ((srt W).filter fun w => t.isPrefixOf w)
  | .longest t => .opt ((srt W).filter fun w => w.isPrefixOf t).getLast?
  | .ahead t => .num (W.filter fun w => decide (w < t)).length
  | .at_ z => .opt (if 0 ≤ z then (srt W)[z.toNat]? else none)
def run : List (List Nat) → List Deed → List Ans
  | _, [] => []
  | W, d :: ds => ans W d :: run (stepW W d) ds
def after (W : List (List Nat)) (ds : List Deed) : List (List Nat) := ds.foldl stepW W
theorem run_length : ∀ (W : List (List Nat)) (ds : List Deed), (run W ds).length = ds.length
  | _, [] => rfl
  | W, d :: ds => by
    show (run (stepW W d) ds).length + 1 = ds.length + 1
    rw [run_length (stepW W d) ds]
theorem run_get : ∀ (W : List (List Nat)) (ds : List Deed) (i : Nat) (d : Deed), ds[i]? = some d → (run W ds)[i]? = some (ans (after W (ds.take i)) d)
  | _, [], i, d, h => by simp at h
  | W, e :: ds, 0, d, h => by
    simp at h
    subst h
    rfl
  | W, e :: ds, i + 1, d, h => by
    have := run_get (stepW W e) ds i d (by simpa using h)
    simpa [run, after] using this
theorem after_snoc (W : List (List Nat)) (ds : List Deed) (d : Deed) : after W (ds ++ [d]) = stepW (after W ds) d := by
  unfold after
  rw [List.foldl_append]
  rfl
theorem nodup_step {W : List (List Nat)} (h : W.Nodup) (d : Deed) : (stepW W d).Nodup := by
  cases d with
  | put w =>
    show (if w ∈ W then W else W ++ [w]).Nodup
    split
    · exact h
    · rename_i hw
      rw [List.nodup_append]
      refine ⟨h, by simp, fun a ha b hb => ?_⟩
      rw [List.mem_singleton.mp hb]
      rintro rfl
      exact hw ha
  | take w => exact h.erase w
  | _ => exact h
theorem nodup_after {W : List (List Nat)} (h : W.Nodup) : ∀ ds : List Deed, (after W ds).Nodup := fun ds => by
  induction ds generalizing W with
  | nil => exact h
  | cons d ds ih => exact ih (nodup_step h d)
theorem mem_step_put (W : List (List Nat)) (w v : List Nat) : v ∈ stepW W (.put w) ↔ v = w ∨ v ∈ W := by
  show v ∈ (if w ∈ W then W else W ++ [w]) ↔ _
  split
  · rename_i hw
    constructor
    · exact .inr
    · rintro (rfl | h)
      · exact hw
      · exact h
  · rw [List.mem_append, List.mem_singleton]
    exact or_comm
theorem mem_step_take {W : List (List Nat)} (h : W.Nodup) (w v : List Nat) : v ∈ stepW W (.take w) ↔ v ≠ w ∧ v ∈ W := h.mem_erase_iff
theorem in_sv (w : List Nat) (W : List (List Nat)) : inV (sv w) (W.map sv) = decide (w ∈ W) := by
  unfold inV
  rw [Bool.eq_iff_iff, List.any_eq_true, decide_eq_true_eq]
  constructor
  · rintro ⟨y, hy, e⟩
    obtain ⟨v, hv, rfl⟩ := List.mem_map.mp hy
    have e' : (S v == S w) = true := e
    rw [← S_inj (eq_of_beq e')]
    exact hv
  · intro h
    exact ⟨sv w, List.mem_map.mpr ⟨w, h, rfl⟩, by show (S w == S w) = true; exact beq_self_eq_true _⟩
theorem flat_sv (W : List (List Nat)) : (W.map sv).all flatV = true := by
  rw [List.all_eq_true]
  intro y hy
  obtain ⟨v, _, rfl⟩ := List.mem_map.mp hy
  rfl
theorem step_len (W : List (List Nat)) (d : Deed) : (stepW W d).length ≤ W.length + 1 := by
  cases d with
  | put w =>
    show (if w ∈ W then W else W ++ [w]).length ≤ _
    split
    · omega
    · rw [List.length_append]; exact Nat.le_refl _
  | take w =>
    have : (W.erase w).length ≤ W.length := List.length_erase_le
    show (W.erase w).length ≤ _
    omega
  | _ => exact Nat.le_succ _
theorem after_len : ∀ (W : List (List Nat)) (ds : List Deed), (after W ds).length ≤ W.length + ds.length
  | W, [] => Nat.le_refl _
  | W, d :: ds => by
    have h1 := after_len (stepW W d) ds
    have h2 := step_len W d
    show (after (stepW W d) ds).length ≤ W.length + (ds.length + 1)
    omega
/-- the words of a day are letters' -/
theorem after_words {ds : List Deed} (h : ∀ d ∈ ds, Made d) : ∀ W : List (List Nat), (∀ v ∈ W, Letters v ∧ v.length ≤ 100) → ∀ v ∈ after W ds, Letters v ∧ v.length ≤ 100 := by
  induction ds with
  | nil => exact fun W hW => hW
  | cons d ds ih =>
    intro W hW
    refine ih (fun e he => h e (List.mem_cons_of_mem _ he)) (stepW W d) fun v hv => ?_
    obtain ⟨w, hc, hl, hn⟩ := h d (List.mem_cons_self ..)
    rcases hc with rfl | rfl | rfl
    · rcases (mem_step_put W w v).mp hv with rfl | z
      · exact ⟨hl, hn⟩
      · exact hW v z
    · exact hW v (List.mem_of_mem_erase hv)
    · exact hW v hv
/-! ### the order -/
theorem le_tot (a b : List Nat) : (decide (¬ b < a) || decide (¬ a < b)) = true := by
  rcases List.le_total a b with h | h
  · have : ¬ b < a := List.not_lt.mpr h
    simp [this]
  · have : ¬ a < b := List.not_lt.mpr h
    simp [this]
theorem srt_pw (W : List (List Nat)) : (srt W).Pairwise fun a b => ¬ b < a := by
  have := List.pairwise_mergeSort (le := fun a b : List Nat => decide (¬ b < a)) (fun a b c h1 h2 => by
    have h1' := List.not_lt.mp (of_decide_eq_true h1)
    have h2' := List.not_lt.mp (of_decide_eq_true h2)
    exact decide_eq_true (List.not_lt.mpr (List.le_trans h1' h2'))) le_tot W
  exact this.imp fun h => of_decide_eq_true h
theorem srt_perm (W : List (List Nat)) : (srt W).Perm W := List.mergeSort_perm _ _
theorem srt_eq {W l : List (List Nat)} (h : l.Perm W) (p : l.Pairwise fun a b => ¬ b < a) : l = srt W :=
  List.Perm.eq_of_pairwise (le := fun a b => ¬ b < a) (fun a b _ _ h1 h2 => List.le_antisymm (List.not_lt.mp h1) (List.not_lt.mp h2)) p (srt_pw W) (h.trans (srt_perm W).symm)
theorem pre_take (t w : List Nat) : t.isPrefixOf w = decide (w.take t.length = t) := by
  rw [Bool.eq_iff_iff, List.isPrefixOf_iff_prefix, decide_eq_true_eq, List.prefix_iff_eq_take]
  exact eq_comm
/-- deeds that only ask -/
def Asks (d : Deed) : Prop := ∀ W, stepW W d = W
theorem after_asks {ds : List Deed} (h : ∀ d ∈ ds, Asks d) : ∀ W, after W ds = W := by
  induction ds with
  | nil => exact fun _ => rfl
  | cons d ds ih =>
    intro W
    show after (stepW W d) ds = W
    rw [h d (List.mem_cons_self ..), ih fun e he => h e (List.mem_cons_of_mem _ he)]
theorem after_app (W : List (List Nat)) (a b : List Deed) : after W (a ++ b) = after (after W a) b := List.foldl_append
/-- a question behind a day's deeds -/
theorem run_asks {ds as : List Deed} (h : ∀ d ∈ as, Asks d) {k : Nat} {d : Deed} (e : as[k]? = some d) : (run [] (ds ++ as))[ds.length + k]? = some (ans (after [] ds) d) := by
  rw [run_get [] (ds ++ as) (ds.length + k) d (by rw [List.getElem?_append_right (by omega)]; simpa using e)]
  rw [List.take_append, List.take_of_length_le (by omega), after_app]
  have : (as.take (ds.length + k - ds.length)) = as.take k := by rw [Nat.add_sub_cancel_left]
  rw [this, after_asks fun d' hd' => h d' (List.mem_of_mem_take hd')]
theorem DeedsAt.app {H : Hp} : ∀ {ps qs : List Addr} {ds es : List Deed}, DeedsAt H ps ds → DeedsAt H qs es → DeedsAt H (ps ++ qs) (ds ++ es)
  | _, _, _, _, .nil, h => h
  | _, _, _, _, .cons r t, h => .cons r (DeedsAt.app t h)
def t04 : List (List Nat) := [[], [97], [98], [99], [97, 98], [99, 97], [97, 99, 98], [97, 97, 97, 97], [97, 98, 99, 100, 101, 102], [122, 122]]
theorem t04_eq : [V.str "", V.str "a", V.str "b", V.str "c", V.str "ab", V.str "ca", V.str "acb", V.str "aaaa", V.str "abcdef", V.str "zz"] = t04.map sv := by decide +kernel
theorem a_eq : ("a" : Str) = S [97] := by decide +kernel
/-- a text that may be asked for -/
def Ask (t : List Nat) : Prop := Letters t ∧ t.length ≤ 101
instance : DecidablePred Ask := fun t => by unfold Ask Letters; infer_instance
theorem t04_ask : ∀ x ∈ t04, Ask x := by decide +kernel
theorem letters_cut {l : List Nat} (h : Letters l) (lo hi : Option Int) : Letters (cutN l lo hi) := fun c hc => h c (List.mem_of_mem_drop (List.mem_of_mem_take hc))
theorem lt_of_pre : ∀ {a b : List Nat}, a <+: b → a.length < b.length → a < b
  | [], [], _, h => by simp at h
  | [], _ :: _, _, _ => List.nil_lt_cons _ _
  | x :: a, [], ⟨t, e⟩, _ => by cases e
  | x :: a, y :: b, ⟨t, e⟩, h => by
    have e' : x = y ∧ a ++ t = b := by simpa using e
    rw [List.cons_lt_cons_iff]
    exact .inr ⟨e'.1, lt_of_pre ⟨t, e'.2⟩ (by simpa using h)⟩
theorem longest_none {W : List (List Nat)} {t : List Nat} (h : ((srt W).filter fun w => w.isPrefixOf t).getLast? = none) : ∀ w ∈ W, ¬ w <+: t := fun w hw hp => by
  rw [List.getLast?_eq_none_iff] at h
  have : w ∈ (srt W).filter fun w => w.isPrefixOf t := List.mem_filter.mpr ⟨(srt_perm W).mem_iff.mpr hw, List.isPrefixOf_iff_prefix.mpr hp⟩
  rw [h] at this
  cases this
theorem longest_some {W : List (List Nat)} {t v : List Nat} (h : ((srt W).filter fun w => w.isPrefixOf t).getLast? = some v) : v ∈ W ∧ v <+: t ∧ ∀ w ∈ W, w <+: t → w.length ≤ v.length := by
  have hm := List.mem_of_getLast? h
  obtain ⟨hv1, hv2⟩ := List.mem_filter.mp hm
  have hvp : v <+: t := List.isPrefixOf_iff_prefix.mp hv2
  refine ⟨(srt_perm W).mem_iff.mp hv1, hvp, fun w hw hp => ?_⟩
  have hwf : w ∈ (srt W).filter fun w => w.isPrefixOf t := List.mem_filter.mpr ⟨(srt_perm W).mem_iff.mpr hw, List.isPrefixOf_iff_prefix.mpr hp⟩
  have hpw := (srt_pw W).filter (fun w => w.isPrefixOf t)
  rcases List.eq_nil_or_concat ((srt W).filter fun w => w.isPrefixOf t) with e | ⟨l, b, e⟩
  · rw [e] at hwf
    cases hwf
  · rw [List.concat_eq_append] at e
    rw [e, List.getLast?_append] at h
    have hb : b = v := by simpa using h
    subst hb
    rw [e] at hwf hpw
    have hlt : ¬ b < w := by
      rcases List.mem_append.mp hwf with z | z
      · exact (List.pairwise_append.mp hpw).2.2 w z b (by simp)
      · rw [List.mem_singleton.mp z]
        exact List.lt_irrefl b
    rcases Nat.lt_or_ge b.length w.length with y | y
    · exact absurd (lt_of_pre (List.prefix_of_prefix_length_le hvp hp (by omega)) y) hlt
    · exact y
theorem pre_iff (w t : List Nat) : w <+: t ↔ t.take w.length = w := by
  rw [List.prefix_iff_eq_take]
  exact eq_comm
theorem cut_ints (ns : List Int) (lo hi : Option Int) : ∃ ms : List Int, cutV (ns.map V.int) lo hi = ms.map V.int ∧ ms.length ≤ ns.length := by
  refine ⟨(ns.drop (HT.sIx ns.length 0 lo)).take (HT.sIx ns.length ns.length hi - HT.sIx ns.length 0 lo), ?_, ?_⟩
  · unfold cutV
    rw [List.length_map, List.map_take, List.map_drop]
  · rw [List.length_take, List.length_drop]
    omega
def t05 : List (List Nat) := [[], [97, 98, 99], alpha]
theorem t05_eq : [V.str "", V.str "abc", V.str "abcdefghijklmnopqrstuvwxyz"] = t05.map sv := by decide +kernel
/-- a line that may be asked for -/
def Line (t : List Nat) : Prop := Letters t ∧ t.length ≤ 105
instance : DecidablePred Line := fun t => by unfold Line Letters; infer_instance
theorem t05_line : ∀ x ∈ t05, Line x := by decide +kernel
theorem get_sv {ls : List (List Nat)} {j : Nat} {x : V} (hx : (ls.map sv)[j]? = some x) : ∃ t, ls[j]? = some t ∧ x = sv t := by
  rw [List.getElem?_map] at hx
  cases e : ls[j]? with
  | none => rw [e] at hx; cases hx
  | some z => rw [e] at hx; exact ⟨z, rfl, (Option.some.inj hx).symm⟩
theorem at_sv {ls : List (List Nat)} {i : Nat} (h : i < ls.length) : atI (ls.map sv) (i : Int) = some (sv ls[i]) := atI_nat (by rw [List.getElem?_map, List.getElem?_eq_getElem h]; rfl)
/-- what answers is to be handed -/
def Fine (d : Deed) : Prop := (∃ z, d = .at_ z) ∨ ∃ w, d.arg = sv w ∧ Letters w ∧ w.length ≤ 110
theorem Made.fine {d : Deed} (h : Made d) : Fine d := by
  obtain ⟨w, h1, h2, h3⟩ := h.word
  exact .inr ⟨w, h1, h2, by omega⟩
/-- THE PROMISE of answers -/
def spAnswers (K : PySem.W.Frag) : Sp := fun vs H Q _ => ∃ (a : Addr) (ps : List Addr) (ds : List Deed), vs = [.ref a] ∧ H a = some (.lst (ps.map V.ref)) ∧ DeedsAt H ps ds ∧ (∀ d ∈ ds, Fine d) ∧ ds.length ≤ 450 ∧
  ∀ (r : Addr) (us : List V) (H' : Hp), H r = none → H' r = some (.lst us) → AnswersAt H' us (run [] ds) → Same H H' → Q (.ref r) H'
end WH

set_option Elab.async false
set_option linter.all false
set_option maxRecDepth 100000
set_option maxHeartbeats 4000000
/-! Counting words by their beginnings. -/
namespace WH
def cnt (W : List (List Nat)) (t : List Nat) : Nat := (W.filter fun w => t.isPrefixOf w).length
def ind (b : Bool) : Nat := if b then 1 else 0
theorem cnt_cons (w : List Nat) (W : List (List Nat)) (t : List Nat) : cnt (w :: W) t = ind (t.isPrefixOf w) + cnt W t := by
  unfold cnt ind
  rw [List.filter_cons]
  split <;> simp <;> omega
theorem sum_add {α : Type} (f g : α → Nat) : ∀ l : List α, (l.map fun x => f x + g x).sum = (l.map f).sum + (l.map g).sum
  | [] => rfl
  | x :: l => by
    simp only [List.map_cons, List.sum_cons, sum_add f g l]
    omega
theorem sum_zero {α : Type} {f : α → Nat} : ∀ {l : List α}, (∀ x ∈ l, f x = 0) → (l.map f).sum = 0
  | [], _ => rfl
  | x :: l, h => by
    rw [List.map_cons, List.sum_cons, h x (List.mem_cons_self ..), sum_zero fun y hy => h y (List.mem_cons_of_mem _ hy)]
theorem sum_one {f : Nat → Nat} {c : Nat} : ∀ {l : List Nat}, l.Nodup → c ∈ l → f c = 1 → (∀ x ∈ l, x ≠ c → f x = 0) → (l.map f).sum = 1
  | [], _, h, _, _ => nomatch h
  | x :: l, hn, h, h1, h0 => by
    rw [List.map_cons, List.sum_cons]
    rw [List.nodup_cons] at hn
    by_cases e : x = c
    · subst e
      rw [h1, sum_zero fun y hy => h0 y (List.mem_cons_of_mem _ hy) (fun z => hn.1 (z ▸ hy))]
    · rw [h0 x (List.mem_cons_self ..) e]
      rcases List.mem_cons.mp h with z | z
      · exact absurd z.symm e
      · rw [sum_one hn.2 z h1 fun y hy => h0 y (List.mem_cons_of_mem _ hy)]
theorem pre_app (u a b : List Nat) : (u ++ a).isPrefixOf (u ++ b) = a.isPrefixOf b := by
  induction u with
  | nil => rfl
  | cons x u ih =>
    show ((x == x) && (u ++ a).isPrefixOf (u ++ b)) = _
    rw [ih, beq_self_eq_true, Bool.true_and]
theorem pre_self (u a : List Nat) : u.isPrefixOf (u ++ a) = true := List.isPrefixOf_iff_prefix.mpr ⟨a, rfl⟩
theorem lt_app (u a b : List Nat) : u ++ a < u ++ b ↔ a < b := by
  induction u with
  | nil => rfl
  | cons x u ih =>
    show x :: (u ++ a) < x :: (u ++ b) ↔ _
    rw [List.cons_lt_cons_iff]
    constructor
    · rintro (h | ⟨_, h⟩)
      · exact absurd h (Nat.lt_irrefl _)
      · exact ih.mp h
    · exact fun h => .inr ⟨rfl, ih.mpr h⟩
theorem pre_cons1 (c : Nat) (x : Nat) (r : List Nat) : [c].isPrefixOf (x :: r) = (c == x) := by
  show ((c == x) && List.isPrefixOf [] r) = _
  cases r <;> simp [List.isPrefixOf]
/-- a word under t: t itself, or under one letter more -/
theorem cnt_split {W : List (List Nat)} {t : List Nat} {ks : List Nat} (hk : ks.Nodup) (h : ∀ w ∈ W, ∀ c, (t ++ [c]).isPrefixOf w = true → c ∈ ks) :
    cnt W t = W.count t + (ks.map fun c => cnt W (t ++ [c])).sum := by
  induction W with
  | nil =>
    have e : (ks.map fun c => cnt [] (t ++ [c])).sum = 0 := sum_zero fun c _ => rfl
    show 0 = 0 + _
    rw [e]
  | cons w W ih =>
    have ih' := ih fun w' hw' => h w' (List.mem_cons_of_mem _ hw')
    rw [cnt_cons, ih']
    have e : (ks.map fun c => cnt (w :: W) (t ++ [c])) = ks.map fun c => ind ((t ++ [c]).isPrefixOf w) + cnt W (t ++ [c]) := by
      congr 1
      funext c
      exact cnt_cons w W (t ++ [c])
    rw [e, sum_add, List.count_cons]
    have key : ind (t.isPrefixOf w) = ind (w == t) + (ks.map fun c => ind ((t ++ [c]).isPrefixOf w)).sum := by
      by_cases hp : t.isPrefixOf w = true
      · obtain ⟨r, rfl⟩ := List.isPrefixOf_iff_prefix.mp hp
        cases r with
        | nil =>
          rw [List.append_nil]
          have : (ks.map fun c => ind ((t ++ [c]).isPrefixOf t)).sum = 0 := sum_zero fun c _ => by
            have : (t ++ [c]).isPrefixOf t = false := by
              have := pre_app t [c] []
              rw [List.append_nil] at this
              rw [this]; rfl
            rw [this]; rfl
          rw [this]
          have := pre_self t []
          rw [List.append_nil] at this
          rw [this]; simp [ind]
        | cons x r =>
          have hx : x ∈ ks := h (t ++ x :: r) (List.mem_cons_self ..) x (by rw [pre_app, pre_cons1]; simp)
          have e1 : (ks.map fun c => ind ((t ++ [c]).isPrefixOf (t ++ x :: r))).sum = 1 := sum_one (c := x) hk hx (by rw [pre_app, pre_cons1]; simp [ind]) fun y _ hy => by
            rw [pre_app, pre_cons1]
            simp [ind, hy]
          rw [e1, pre_self]
          have : (t ++ x :: r == t) = false := by
            rw [beq_eq_false_iff_ne]
            intro z
            have := congrArg List.length z
            simp at this
          rw [this]; rfl
      · have e0 : (w == t) = false := by
          rw [beq_eq_false_iff_ne]
          rintro rfl
          have := pre_self w []
          rw [List.append_nil] at this
          exact hp this
        have : (ks.map fun c => ind ((t ++ [c]).isPrefixOf w)).sum = 0 := sum_zero fun c _ => by
          have : ¬ (t ++ [c]).isPrefixOf w = true := fun z => by
            obtain ⟨r, rfl⟩ := List.isPrefixOf_iff_prefix.mp z
            rw [List.append_assoc] at hp
            exact hp (pre_self t _)
          simp [ind, this]
        rw [this, e0]
        simp [ind, hp]
    have : (if (w == t) = true then 1 else 0) = ind (w == t) := rfl
    rw [this]
    omega
/-- the words under u that come ahead of u and v -/
def lessU (W : List (List Nat)) (u v : List Nat) : Nat := (W.filter fun w => u.isPrefixOf w && decide (w < u ++ v)).length
theorem lessU_cons (w : List Nat) (W : List (List Nat)) (u v : List Nat) : lessU (w :: W) u v = ind (u.isPrefixOf w && decide (w < u ++ v)) + lessU W u v := by
  unfold lessU ind
  rw [List.filter_cons]
  split <;> simp <;> omega
theorem lessU_nil (W : List (List Nat)) (u : List Nat) : lessU W u [] = 0 := by
  unfold lessU
  rw [List.length_eq_zero_iff, List.filter_eq_nil_iff]
  intro w _ h
  rw [Bool.and_eq_true, decide_eq_true_eq] at h
  obtain ⟨r, rfl⟩ := List.isPrefixOf_iff_prefix.mp h.1
  have := (lt_app u r []).mp (by simpa using h.2)
  exact List.not_lt_nil _ this
theorem lessU_split {W : List (List Nat)} {u v : List Nat} {c : Nat} {ks : List Nat} (hk : ks.Nodup) (h : ∀ w ∈ W, ∀ c, (u ++ [c]).isPrefixOf w = true → c ∈ ks) :
    lessU W u (c :: v) = W.count u + ((ks.filter fun x => decide (x < c)).map fun x => cnt W (u ++ [x])).sum + lessU W (u ++ [c]) v := by
  induction W with
  | nil =>
    have e : ((ks.filter fun x => decide (x < c)).map fun x => cnt [] (u ++ [x])).sum = 0 := sum_zero fun c _ => rfl
    show 0 = 0 + _ + 0
    rw [e]
  | cons w W ih =>
    have ih' := ih fun w' hw' => h w' (List.mem_cons_of_mem _ hw')
    rw [lessU_cons, ih', lessU_cons, List.count_cons]
    have e : ((ks.filter fun x => decide (x < c)).map fun x => cnt (w :: W) (u ++ [x])) = (ks.filter fun x => decide (x < c)).map fun x => ind ((u ++ [x]).isPrefixOf w) + cnt W (u ++ [x]) := by
      congr 1
      funext c
      exact cnt_cons w W (u ++ [c])
    rw [e, sum_add]
    have key : ind (u.isPrefixOf w && decide (w < u ++ c :: v)) = ind (w == u) + ((ks.filter fun x => decide (x < c)).map fun x => ind ((u ++ [x]).isPrefixOf w)).sum + ind ((u ++ [c]).isPrefixOf w && decide (w < u ++ [c] ++ v)) := by
      by_cases hp : u.isPrefixOf w = true
      · obtain ⟨r, rfl⟩ := List.isPrefixOf_iff_prefix.mp hp
        cases r with
        | nil =>
          have z : ∀ x, (u ++ [x]).isPrefixOf (u ++ []) = false := fun x => by rw [pre_app]; rfl
          rw [sum_zero fun x _ => by rw [z]; rfl, z]
          have : u ++ [] < u ++ c :: v := (lt_app u [] (c :: v)).mpr (List.nil_lt_cons _ _)
          rw [decide_eq_true this, hp, List.append_nil]
          simp [ind]
        | cons x r =>
          have hx : x ∈ ks := h (u ++ x :: r) (List.mem_cons_self ..) x (by rw [pre_app, pre_cons1]; simp)
          have e0 : (u ++ x :: r == u) = false := by
            rw [beq_eq_false_iff_ne]
            intro z
            have := congrArg List.length z
            simp at this
          rw [e0, hp]
          have q : ∀ y, (u ++ [y]).isPrefixOf (u ++ x :: r) = (y == x) := fun y => by rw [pre_app, pre_cons1]
          have lt1 : (u ++ x :: r < u ++ c :: v) ↔ (x < c ∨ x = c ∧ r < v) := by rw [lt_app, List.cons_lt_cons_iff]
          have lt2 : x = c → ((u ++ x :: r < u ++ [c] ++ v) ↔ r < v) := by
            rintro rfl
            rw [List.append_assoc, lt_app]
            show x :: r < x :: v ↔ _
            rw [List.cons_lt_cons_iff]
            constructor
            · rintro (z | ⟨_, z⟩)
              · exact absurd z (Nat.lt_irrefl _)
              · exact z
            · exact fun z => .inr ⟨rfl, z⟩
          rw [q c]
          rcases Nat.lt_trichotomy x c with hlt | heq | hgt
          · have s1 : ((ks.filter fun x => decide (x < c)).map fun y => ind ((u ++ [y]).isPrefixOf (u ++ x :: r))).sum = 1 := sum_one (c := x) (hk.filter _) (List.mem_filter.mpr ⟨hx, decide_eq_true hlt⟩) (by rw [q]; simp [ind]) fun y _ hy => by
              rw [q]; simp [ind, hy]
            rw [s1, decide_eq_true (lt1.mpr (.inl hlt))]
            have : (c == x) = false := by rw [beq_eq_false_iff_ne]; omega
            rw [this]
            simp [ind]
          · subst heq
            have s1 : ((ks.filter fun y => decide (y < x)).map fun y => ind ((u ++ [y]).isPrefixOf (u ++ x :: r))).sum = 0 := sum_zero fun y hy => by
              have := of_decide_eq_true (List.mem_filter.mp hy).2
              rw [q]
              have : (y == x) = false := by rw [beq_eq_false_iff_ne]; omega
              rw [this]; rfl
            rw [s1, beq_self_eq_true]
            by_cases hrv : r < v
            · rw [decide_eq_true (lt1.mpr (.inr ⟨rfl, hrv⟩)), decide_eq_true ((lt2 rfl).mpr hrv)]
              simp [ind]
            · have a1 : ¬ (u ++ x :: r < u ++ x :: v) := fun z => (lt1.mp z).elim (Nat.lt_irrefl _) fun z => hrv z.2
              have a2 : ¬ (u ++ x :: r < u ++ [x] ++ v) := fun z => hrv ((lt2 rfl).mp z)
              rw [decide_eq_false a1, decide_eq_false a2]
              simp [ind]
          · have s1 : ((ks.filter fun y => decide (y < c)).map fun y => ind ((u ++ [y]).isPrefixOf (u ++ x :: r))).sum = 0 := sum_zero fun y hy => by
              have := of_decide_eq_true (List.mem_filter.mp hy).2
              rw [q]
              have : (y == x) = false := by rw [beq_eq_false_iff_ne]; omega
              rw [this]; rfl
            have a1 : ¬ (u ++ x :: r < u ++ c :: v) := fun z => (lt1.mp z).elim (fun z => by omega) fun z => by omega
            have : (c == x) = false := by rw [beq_eq_false_iff_ne]; omega
            rw [s1, decide_eq_false a1, this]
            simp [ind]
      · have e0 : (w == u) = false := by
          rw [beq_eq_false_iff_ne]
          rintro rfl
          have := pre_self w []
          rw [List.append_nil] at this
          exact hp this
        have z : ∀ c, (u ++ [c]).isPrefixOf w = false := fun c => by
          rw [Bool.eq_false_iff]
          intro z
          obtain ⟨r, rfl⟩ := List.isPrefixOf_iff_prefix.mp z
          rw [List.append_assoc] at hp
          exact hp (pre_self u _)
        rw [sum_zero fun x _ => by rw [z]; rfl, z, e0]
        simp [ind, hp]
    have : (if (w == u) = true then 1 else 0) = ind (w == u) := rfl
    rw [this]
    omega
theorem less_root (W : List (List Nat)) (t : List Nat) : (W.filter fun w => decide (w < t)).length = lessU W [] t := by
  unfold lessU
  congr 2
theorem lessU_le (W : List (List Nat)) (u v : List Nat) : lessU W u v ≤ cnt W u := by
  induction W with
  | nil => exact Nat.le_refl _
  | cons w W ih =>
    rw [lessU_cons, cnt_cons]
    have : ind (u.isPrefixOf w && decide (w < u ++ v)) ≤ ind (u.isPrefixOf w) := by
      unfold ind
      cases u.isPrefixOf w <;> simp
      split <;> omega
    omega
theorem cnt_pos {W : List (List Nat)} {t : List Nat} : 0 < cnt W t ↔ ∃ w ∈ W, t <+: w := by
  unfold cnt
  rw [List.length_pos_iff_exists_mem]
  constructor
  · rintro ⟨w, hw⟩
    obtain ⟨h1, h2⟩ := List.mem_filter.mp hw
    exact ⟨w, h1, List.isPrefixOf_iff_prefix.mp h2⟩
  · rintro ⟨w, h1, h2⟩
    exact ⟨w, List.mem_filter.mpr ⟨h1, List.isPrefixOf_iff_prefix.mpr h2⟩⟩
theorem cnt_le (W : List (List Nat)) (t : List Nat) : cnt W t ≤ W.length := List.length_filter_le _ _
theorem cnt_perm {W W' : List (List Nat)} (h : W.Perm W') (t : List Nat) : cnt W t = cnt W' t := (h.filter _).length_eq
theorem cnt_app (W W' : List (List Nat)) (t : List Nat) : cnt (W ++ W') t = cnt W t + cnt W' t := by
  unfold cnt
  rw [List.filter_append, List.length_append]
theorem cnt_erase {W : List (List Nat)} {w : List Nat} (h : w ∈ W) (t : List Nat) : cnt W t = ind (t.isPrefixOf w) + cnt (W.erase w) t := by
  rw [cnt_perm (List.perm_cons_erase h) t, cnt_cons]
/-- the letters that go on, in their order -/
def kidsL (ex : List Nat → Bool) (u : List Nat) : List Nat := (List.range' 97 26).filter fun c => ex (u ++ [c])
theorem rng_sorted : (List.range' 97 26).Pairwise (· < ·) := by decide
theorem kids_sorted (ex : List Nat → Bool) (u : List Nat) : (kidsL ex u).Pairwise (· < ·) := rng_sorted.filter _
theorem kids_nodup (ex : List Nat → Bool) (u : List Nat) : (kidsL ex u).Nodup := (kids_sorted ex u).imp fun h => Nat.ne_of_lt h
theorem mem_kids {ex : List Nat → Bool} {u : List Nat} {c : Nat} : c ∈ kidsL ex u ↔ (97 ≤ c ∧ c ≤ 122) ∧ ex (u ++ [c]) = true := by
  unfold kidsL
  rw [List.mem_filter, List.mem_range'_1]
  constructor
  · rintro ⟨h, e⟩; exact ⟨⟨h.1, by omega⟩, e⟩
  · rintro ⟨h, e⟩; exact ⟨⟨h.1, by omega⟩, e⟩
/-- strictly rising lists with the same members are alike -/
theorem rise_eq {a b : List (List Nat)} (ha : a.Pairwise (· < ·)) (hb : b.Pairwise (· < ·)) (h : ∀ x, x ∈ a ↔ x ∈ b) : a = b := by
  have na : a.Nodup := ha.imp fun h => by rintro rfl; exact List.lt_irrefl _ h
  have nb : b.Nodup := hb.imp fun h => by rintro rfl; exact List.lt_irrefl _ h
  have p : a.Perm b := (List.perm_ext_iff_of_nodup na nb).mpr h
  exact List.Perm.eq_of_pairwise (le := (· < ·)) (fun x y _ _ h1 h2 => absurd (List.lt_trans h1 h2) (List.lt_irrefl _)) ha hb p
/-- u and all that begin with it, in their order -/
def pre (ex : List Nat → Bool) : Nat → List Nat → List (List Nat)
  | 0, u => [u]
  | n + 1, u => u :: (kidsL ex u).flatMap fun c => pre ex n (u ++ [c])
theorem pre_begins {ex : List Nat → Bool} : ∀ {n : Nat} {u v : List Nat}, v ∈ pre ex n u → u <+: v
  | 0, u, v, h => by rw [List.mem_singleton.mp h]; exact List.prefix_refl _
  | n + 1, u, v, h => by
    rcases List.mem_cons.mp h with e | e
    · rw [e]; exact List.prefix_refl _
    · obtain ⟨c, _, hc⟩ := List.mem_flatMap.mp e
      exact (List.prefix_append u [c]).trans (pre_begins hc)
theorem lt_of_ext {u v : List Nat} {c : Nat} (h : u ++ [c] <+: v) : u < v := by
  obtain ⟨r, rfl⟩ := h
  have := (lt_app u [] ([c] ++ r)).mpr (List.nil_lt_cons _ _)
  simpa using this
theorem lt_of_letters {u v w : List Nat} {c d : Nat} (h : c < d) (hv : u ++ [c] <+: v) (hw : u ++ [d] <+: w) : v < w := by
  obtain ⟨r, rfl⟩ := hv
  obtain ⟨r', rfl⟩ := hw
  rw [List.append_assoc, List.append_assoc, lt_app]
  exact List.cons_lt_cons_iff.mpr (.inl h)
theorem flat_rise {u : List Nat} {f : Nat → List (List Nat)} : ∀ {ks : List Nat}, ks.Pairwise (· < ·) → (∀ c ∈ ks, (f c).Pairwise (· < ·)) → (∀ c ∈ ks, ∀ v ∈ f c, u ++ [c] <+: v) → (ks.flatMap f).Pairwise (· < ·)
  | [], _, _, _ => List.Pairwise.nil
  | c :: ks, hk, h1, h2 => by
    rw [List.flatMap_cons, List.pairwise_append]
    rw [List.pairwise_cons] at hk
    refine ⟨h1 c (List.mem_cons_self ..), flat_rise hk.2 (fun d hd => h1 d (List.mem_cons_of_mem _ hd)) (fun d hd => h2 d (List.mem_cons_of_mem _ hd)), fun v hv w hw => ?_⟩
    obtain ⟨d, hd, hw⟩ := List.mem_flatMap.mp hw
    exact lt_of_letters (hk.1 d hd) (h2 c (List.mem_cons_self ..) v hv) (h2 d (List.mem_cons_of_mem _ hd) w hw)
theorem pre_rise {ex : List Nat → Bool} : ∀ (n : Nat) (u : List Nat), (pre ex n u).Pairwise (· < ·)
  | 0, u => List.pairwise_singleton _ _
  | n + 1, u => by
    show (u :: (kidsL ex u).flatMap fun c => pre ex n (u ++ [c])).Pairwise (· < ·)
    rw [List.pairwise_cons]
    refine ⟨fun v hv => ?_, flat_rise (u := u) (kids_sorted ex u) (fun c _ => pre_rise n (u ++ [c])) fun c _ v hv => pre_begins hv⟩
    obtain ⟨c, _, hc⟩ := List.mem_flatMap.mp hv
    exact lt_of_ext (pre_begins hc)
/-- what there is, is closed under beginnings, of letters, and not longer than m -/
structure Dom (ex : List Nat → Bool) (m : Nat) : Prop where
  up : ∀ u c, ex (u ++ [c]) = true → ex u = true
  let_ : ∀ u c, ex (u ++ [c]) = true → 97 ≤ c ∧ c ≤ 122
  len : ∀ u, ex u = true → u.length ≤ m
theorem Dom.ups {ex : List Nat → Bool} {m : Nat} (D : Dom ex m) (u : List Nat) : ∀ r : List Nat, ex (u ++ r) = true → ex u = true := fun r => by
  rcases List.eq_nil_or_concat r with e | ⟨r', c, e⟩
  · subst e; rw [List.append_nil]; exact id
  · subst e
    intro h
    rw [List.concat_eq_append, ← List.append_assoc] at h
    have : r'.length < (r'.concat c).length := by simp
    exact Dom.ups D u r' (D.up _ c h)
  termination_by r => r.length
theorem mem_pre {ex : List Nat → Bool} {m : Nat} (D : Dom ex m) : ∀ {n : Nat} {u : List Nat}, m ≤ n + u.length → ex u = true → ∀ v, v ∈ pre ex n u ↔ u <+: v ∧ ex v = true
  | 0, u, hn, hu, v => by
    show v ∈ [u] ↔ _
    rw [List.mem_singleton]
    constructor
    · rintro rfl; exact ⟨List.prefix_refl _, hu⟩
    · rintro ⟨⟨r, rfl⟩, hv⟩
      have := D.len _ hv
      rw [List.length_append] at this
      have : r = [] := List.length_eq_zero_iff.mp (by omega)
      rw [this, List.append_nil]
  | n + 1, u, hn, hu, v => by
    show v ∈ u :: (kidsL ex u).flatMap (fun c => pre ex n (u ++ [c])) ↔ _
    rw [List.mem_cons, List.mem_flatMap]
    constructor
    · rintro (rfl | ⟨c, hc, hv⟩)
      · exact ⟨List.prefix_refl _, hu⟩
      · have hc' := (mem_kids.mp hc).2
        have := (mem_pre D (n := n) (u := u ++ [c]) (by rw [List.length_append]; simp; omega) hc' v).mp hv
        exact ⟨(List.prefix_append u [c]).trans this.1, this.2⟩
    · rintro ⟨⟨r, rfl⟩, hv⟩
      cases r with
      | nil => left; rw [List.append_nil]
      | cons c r =>
        right
        have e : u ++ c :: r = (u ++ [c]) ++ r := by simp
        have hc : ex (u ++ [c]) = true := D.ups _ r (e ▸ hv)
        refine ⟨c, mem_kids.mpr ⟨D.let_ u c hc, hc⟩, (mem_pre D (n := n) (u := u ++ [c]) (by rw [List.length_append]; simp; omega) hc _).mpr ⟨⟨r, e.symm⟩, hv⟩⟩
theorem pre_more {ex : List Nat → Bool} {m : Nat} (D : Dom ex m) {n : Nat} {u : List Nat} (h : m ≤ n + u.length) (hu : ex u = true) : pre ex (n + 1) u = pre ex n u :=
  rise_eq (pre_rise _ _) (pre_rise _ _) fun v => by rw [mem_pre D (by omega) hu, mem_pre D h hu]
/-- the words under t, split by their next letter -/
theorem sub_split {L : List (List Nat)} {ex : List Nat → Bool} (hL : L.Pairwise (· < ·)) (t : List Nat) (h : ∀ w ∈ L, ∀ c, t ++ [c] <+: w → c ∈ kidsL ex t) :
    (L.filter fun w => t.isPrefixOf w) = (if t ∈ L then [t] else []) ++ (kidsL ex t).flatMap fun c => L.filter fun w => (t ++ [c]).isPrefixOf w := by
  have hflat : ((kidsL ex t).flatMap fun c => L.filter fun w => (t ++ [c]).isPrefixOf w).Pairwise (· < ·) := flat_rise (u := t) (kids_sorted ex t) (fun c _ => hL.filter _) fun c _ v hv => List.isPrefixOf_iff_prefix.mp (List.mem_filter.mp hv).2
  refine rise_eq (hL.filter _) ?_ fun v => ?_
  · rw [List.pairwise_append]
    refine ⟨?_, hflat, fun a ha b hb => ?_⟩
    · split
      · exact List.pairwise_singleton _ _
      · exact List.Pairwise.nil
    · obtain ⟨c, _, hc⟩ := List.mem_flatMap.mp hb
      have hb' := List.isPrefixOf_iff_prefix.mp (List.mem_filter.mp hc).2
      split at ha
      · rw [List.mem_singleton.mp ha]
        exact lt_of_ext hb'
      · cases ha
  · rw [List.mem_filter, List.mem_append, List.mem_flatMap, List.isPrefixOf_iff_prefix]
    constructor
    · rintro ⟨hv, ⟨r, rfl⟩⟩
      cases r with
      | nil =>
        left
        rw [List.append_nil] at hv ⊢
        rw [if_pos hv]
        exact List.mem_singleton.mpr rfl
      | cons c r =>
        right
        have hp : t ++ [c] <+: t ++ c :: r := ⟨r, by simp⟩
        exact ⟨c, h _ hv c hp, List.mem_filter.mpr ⟨hv, List.isPrefixOf_iff_prefix.mpr hp⟩⟩
    · rintro (hv | ⟨c, _, hv⟩)
      · split at hv
        · rename_i ht
          rw [List.mem_singleton.mp hv]
          exact ⟨ht, List.prefix_refl _⟩
        · cases hv
      · obtain ⟨h1, h2⟩ := List.mem_filter.mp hv
        exact ⟨h1, (List.prefix_append t [c]).trans (List.isPrefixOf_iff_prefix.mp h2)⟩
theorem flat_get {f : Nat → List (List Nat)} (ks1 : List Nat) (c : Nat) (ks2 : List Nat) {i : Nat} (h1 : (ks1.map fun x => (f x).length).sum ≤ i) (h2 : i < (ks1.map fun x => (f x).length).sum + (f c).length) :
    ((ks1 ++ c :: ks2).flatMap f)[i]? = (f c)[i - (ks1.map fun x => (f x).length).sum]? := by
  have el : (ks1.flatMap f).length = (ks1.map fun x => (f x).length).sum := by rw [List.length_flatMap]
  rw [List.flatMap_append, List.getElem?_append_right (by rw [el]; exact h1), el, List.flatMap_cons, List.getElem?_append_left (by omega)]
end WH

set_option Elab.async false
set_option linter.all false
set_option maxRecDepth 100000
set_option maxHeartbeats 4000000
namespace L2
open PySem PySem.Spec PyProof.Rows

/-! ### a dict while a loop walks it -/
section
variable {X : Cx} {pins : List (Addr × Obj)} {σ : St} {H : Hp} {s : Shared}
/-- what was known to the object is tracked as before -/
theorem Inv.thaw {d : Addr} {o : Obj} {kvs : List (Key × V)} (I : Inv X pins σ H s) (e : H d = some (.frz o (.dK kvs))) (h0 : ∀ o' u', X.H₀ d ≠ some (.frz o' u')) : Inv X pins σ (upd H d (.dK kvs)) s := by
  have up : ∀ b u, H b = some u → (∀ o' u', u ≠ .frz o' u') → upd H d (.dK kvs) b = some u := fun b u q n => by
    rw [upd_ne (by rintro rfl; rw [e] at q; cases q; exact n _ _ rfl)]
    exact q
  have nn : ∀ b, H b = none → upd H d (.dK kvs) b = none := fun b q => by
    rw [upd_ne (by rintro rfl; rw [e] at q; cases q)]
    exact q
  refine ⟨I.ok, I.os, I.bare, ⟨I.base.keep, I.base.slot, fun b ob e1 n hx => nn b (I.base.free b ob e1 n hx), I.base.there, fun b xs q => up _ _ (I.base.tups b xs q) (fun _ _ z => by cases z), fun b ob u q => ?_, fun b ps q => ?_⟩, I.loc, I.cell, nn _ I.free, fun x c q => nn _ (I.freeC x c q), fun p hp => ?_, fun b u q => ?_, I.len⟩
  · rw [upd_ne (by rintro rfl; exact h0 _ _ q)]
    exact I.base.frzs b ob u q
  · obtain ⟨m, q'⟩ := I.base.tbls b ps q
    exact ⟨m, up _ _ q' (fun _ _ z => by cases z)⟩
  · obtain ⟨e1, n, r⟩ := I.pin p hp
    exact ⟨e1, nn _ n, r⟩
  · by_cases hb : b = d
    · subst hb
      rw [upd_same] at q
      cases q
      obtain ⟨_, w⟩ := (show ObjOk X.prog X.w H s.heap b (.frz o (.dK kvs)) from I.hok b _ e)
      exact w.stay (fun _ _ _ q => q) (fun c q => up _ _ q (fun _ _ z => by cases z)) fun c xs q => up _ _ q (fun _ _ z => by cases z)
    · rw [upd_ne hb] at q
      exact (I.hok b u q).stay (fun _ _ _ q => q) (fun c q => up _ _ q (fun _ _ z => by cases z)) fun c xs q => up _ _ q (fun _ _ z => by cases z)
theorem Inv.freeze {d : Addr} {o : Obj} {kvs : List (Key × V)} (I : Inv X pins σ H s) (e : H d = some (.dK kvs)) (ho : s.heap.get? d = some o) : Inv X pins σ (upd H d (.frz o (.dK kvs))) s := by
  have w : ObjOk X.prog X.w H s.heap d (.dK kvs) := I.hok d _ e
  exact I.write (t' := s.toks) (h' := s.heap) (x := d) (e := d) (by rw [e]; exact True.intro) (.inl rfl) (fun _ _ _ q => q) ⟨o, ho⟩ ⟨ho, w⟩
end
def Thaws (H₀ H H' : Hp) : Prop := H' = H ∨ ∃ d o kvs, H d = some (.frz o (.dK kvs)) ∧ (∀ o' u', H₀ d ≠ some (.frz o' u')) ∧ H' = upd H d (.dK kvs)
theorem Inv.thaws {X : Cx} {pins : List (Addr × Obj)} {σ : St} {H H' : Hp} {s : Shared} (I : Inv X pins σ H s) (t : Thaws X.H₀ H H') : Inv X pins σ H' s := by
  rcases t with rfl | ⟨d, o, kvs, e, h0, rfl⟩
  · exact I
  · exact I.thaw e h0
def tThaw (H₀ : Hp) (t : TE) : TE := fun σ H Q => t σ H fun v H1 => ∃ H2, Thaws H₀ H1 H2 ∧ Q v H2
theorem pe_thaw {X : Cx} {e : Expr} {t : TE} (h : PE X e t) : PE X e (tThaw X.H₀ t) := fun pins s σ H Q I q =>
  thn (h pins s σ H _ I q) fun u s1 ⟨v, H1, I1, r, H2, th, q2⟩ => ⟨v, H2, I1.thaws th, r, q2⟩
def tSeqT (H₀ : Hp) (t u : TS) : TS := fun D σ H => t { D with nx := fun σ' H' => ∃ H2, Thaws H₀ H' H2 ∧ u D σ' H2 } σ H
theorem pss_consT {X : Cx} {st : Stmt} {rest : List Stmt} {t u : TS} (h1 : PS X st t) (h2 : PSs X rest u) : PSs X (st :: rest) (tSeqT X.H₀ t u) := by
  intro pins s σ H D I h
  refine wpAny_execs_cons (thn (h1 pins s σ H _ I h) fun f s1 q => ?_)
  cases f with
  | next =>
    obtain ⟨σ', H', I', H2, th, q⟩ := q
    exact h2 pins s1 σ' H2 D (I'.thaws th) q
  | ret v => exact q
  | brk => exact q
  | cont => exact q

def epOf (o : Obj) : Nat := match o.data with
  | .dict _ ep => ep
  | _ => 0
theorem frz_at {P : Program} {w : World} {H : Hp} {h : Heap} {d : Addr} {o : Obj} {kvs : List (Key × V)} (ok : HOk P w H h) (e : H d = some (.frz o (.dK kvs))) :
    (d == sysModules) = false ∧ ∃ vs, KV kvs vs ∧ h.DictAt (mixKind P w) d vs (epOf o) := by
  obtain ⟨e1, z, hd, vs, r, o', es, ep, e2, c, dt, rest⟩ := (show ObjOk P w H h d (.frz o (.dK kvs)) from ok d _ e)
  rw [e1] at e2
  cases e2
  have e3 : epOf o = ep := by
    unfold epOf
    rw [dt]
  subst e3
  exact ⟨hd, vs, r, o, es, e1, c, dt, rest⟩
theorem KV.get : ∀ {kvs : List (Key × V)} {vs : List (Key × Value)} {i : Nat} {kv : Key × V}, KV kvs vs → kvs[i]? = some kv → ∃ q, vs[i]? = some q ∧ kv.1 = q.1 ∧ RelV kv.2 q.2
  | _, _, _, _, .nil, e => by simp at e
  | _, _, 0, _, .cons r _, e => by
    simp at e
    subst e
    exact ⟨_, rfl, r⟩
  | _, _, i + 1, kv, .cons _ t, e => by
    obtain ⟨u, h1, h2⟩ := KV.get (i := i) (kv := kv) t (by simpa using e)
    exact ⟨u, by simpa using h1, h2⟩
theorem rel_of_is {P : Program} {w : World} {k : Key} {v : Value} (h : (mixKind P w).is k v = true) : RelV (kV k) v := by
  rcases keyIs_shape h with ⟨i, t, rfl, rfl⟩ | ⟨x, t, rfl, rfl⟩
  · exact ⟨t, rfl⟩
  · exact ⟨t, rfl⟩

/-- the pairs of the dict at d, which is known while it is walked -/
def Iti (o : Obj) (d : Addr) (kvs : List (Key × V)) : It :=
  ⟨fun i H => H d = some (.frz o (.dK kvs)) ∧ i < kvs.length, fun i H x H' => ∃ kv p, kvs[i]? = some kv ∧ H p = none ∧ x = .ref p ∧ H' = upd H p (.tup [kV kv.1, kv.2]), fun i H => H d = some (.frz o (.dK kvs)) ∧ kvs.length ≤ i⟩
theorem entry_dii : entryFor table "dict_itemiterator.__iter__" = some Builtin.«dict_keyiterator.__iter__» :=
  PySem.entryFor_alias (id' := "dict_keyiterator.__iter__")
    (by kernel_rfl)
    (by first | rfl | decide +kernel)
    (by decide +kernel)
    (by kernel_rfl)
theorem turn_items {P : Program} {w : World} {K : PySem.W.Frag} {elts : List Expr} {x1} {pt : Pos} (o : Obj) (d it : Addr) (kvs : List (Key × V)) :
    Turn P w K (.Tuple elts x1 pt) (Iti o d kvs) [it] it (fun i h => ∃ ok ov, IsItemIter h it d i kvs.length (epOf o) ok ov) where
  mem := by simp
  obj := fun i h st b hb => by
    have e : b = it := by simpa using hb
    subst e
    obtain ⟨ok, ov, st⟩ := st
    exact ⟨_, st, fun v z => by
      have z' : Data.fields _ = Data.cell v := z
      cases z'⟩
  keep := fun i h h' ⟨ok, ov, st⟩ k => ⟨ok, ov, k it (by simp) _ st⟩
  item := by
    intro X hP hw hK hc i pins s σ H E I hf st hg
    subst hP hw hK
    obtain ⟨e, hi⟩ := hg
    obtain ⟨hd, vs, r, dd⟩ := frz_at I.hok e
    obtain ⟨ok, ov, st⟩ := st
    have hl := KV.length r
    obtain ⟨q, hq, e1, e2⟩ := KV.get r (List.getElem?_eq_getElem hi)
    obtain ⟨q1, q2⟩ := q
    obtain ⟨f0, f1, f2, f3, f4, f5⟩ := hf it (by simp)
    have hil : it < s.heap.objs.size := Heap.lt_size st
    rw [hl] at st
    refine wpAny_pyNext_items_item st dd hq fun key h' hk hio ht hsz kk => ?_
    refine ⟨_, rfl, wpAny_letOwnedTupleGo_items hio fun h2 he2 hs2 => ?_⟩
    replace hs2 : Heap.SameBut it h' h2 := hs2
    have I1 : Inv X pins σ H { s with heap := h2 } := I.turned (t' := s.toks) (it := it) (fun b o hb q => (hs2.2 b hb).trans (kk b o hb q)) f0 f1 f3 f4 f5
    obtain ⟨g0, g1, g2, g3, g4, g5⟩ := I.fpOk (Nat.le_refl s.heap.objs.size) (I.hok.fresh (Nat.le_refl s.heap.objs.size))
    have hne : s.heap.objs.size ≠ it := Nat.ne_of_gt hil
    have I2 := I1.adopt (D := s.heap.objs.size) (o := .tup [kV kvs[i].1, kvs[i].2]) g0 I.sz g1 g4 g5 ?_
    · refine ⟨.ref s.heap.objs.size, _, I2, rfl, ⟨kvs[i], _, List.getElem?_eq_getElem hi, g0, rfl, rfl⟩, ⟨key, q2, by rw [hl]; exact he2⟩, fun b hb => ?_⟩
      have e : b = it := by simpa using hb
      subst e
      rw [upd_ne hne.symm]
      exact f0
    · have e1' : kvs[i].1 = q1 := e1
      refine ⟨by show 2 ≤ sizeLine; rw [sizeLine_eq]; omega, [key, q2], .cons (by rw [e1']; exact rel_of_is hk) (.cons e2 .nil), ⟨_, (hs2.2 _ hne).trans ht, rfl, _, rfl⟩⟩
  done := by
    intro X hP hw hK hc i pins s σ H E I hf st hg
    subst hP hw hK
    obtain ⟨e, hi⟩ := hg
    obtain ⟨hd, vs, r, dd⟩ := frz_at I.hok e
    obtain ⟨ok, ov, st⟩ := st
    have hl := KV.length r
    obtain ⟨f0, f1, f2, f3, f4, f5⟩ := hf it (by simp)
    rw [hl] at st
    exact wpAny_pyNext_items_end (I.ok.hd hc) st dd (List.getElem?_eq_none (by omega)) fun h' eb => ⟨rfl, I.turned (t' := s.toks) (fun b o hb e => eb b o hb e) f0 f1 f3 f4 f5⟩
  self := fun A i s Q E ⟨ok, ov, st⟩ hQ => by
    have hT : s.TypeIs (.ref it) "dict_itemiterator" := ⟨_, st, rfl⟩
    refine wpAny_pyIter_slot hT PySem.F.slot_dict_itemiterator_iter (wpAny_call_entry PySem.F.slot_dict_itemiterator_iter hT entry_dii ?_ (PySem.F.args_dict_itemiterator_iter_1 _))
    show wpAny _ _ (ret (.ref it)) _ _ s
    exact wpAny_pure ⟨_, rfl, "dict_itemiterator", _, hT, PySem.F.slot_dict_itemiterator_next.lookup, hQ⟩
section
variable {X : Cx} {o : Expr} {td : TE} {elts : List Expr} {x1 : Nat} {pt apos cpos : Pos}
/-- d.items(): the dict is known from now on, unless it was so -/
def iItems (td : TE) : TI := fun σ H R => td σ H fun x H1 => ∃ d kvs, x = .ref d ∧ ((H1 d = some (.dK kvs) ∧ ∀ o, R (Iti o d kvs) (upd H1 d (.frz o (.dK kvs)))) ∨ ∃ o, H1 d = some (.frz o (.dK kvs)) ∧ R (Iti o d kvs) H1)
theorem pi_items (ho : PE X o td) (hb : attributeBase o "items" X.env (eval o X.env) = eval o X.env := by rfl) (hline : (apos.endLine == cpos.line) = true := by rfl) :
    PI X (.Tuple elts x1 pt) (.Call (.Attribute o "items" apos) [] [] cpos) (iItems td) := by
  intro pins s σ H R I h
  refine wpAny_Call_method (T := "dict") (id := "dict.items") hb rfl hline PySem.F.plainAttrs_dict PySem.F.slot_dict_items PySem.F.type_dict_items (thn (ho pins s σ H _ I h) fun u s1 ⟨x, H1, I1, rx, d, kvs, ex, q⟩ => ?_)
  subst ex
  obtain rfl : u = Value.ref d := rx
  have rd : Rd H1 d (.dK kvs) := q.elim (fun z => .inl z.1) fun ⟨o, z, _⟩ => .inr ⟨o, z⟩
  obtain ⟨z, hd, vs, rel, dd⟩ := dk_rd I1.hok rd
  refine ⟨dd.typeIs, dd.mapOf.noDict, ?_⟩
  show wpAny _ _ (callWith cpos (.builtin "dict.items") [.ref d] [] []) _ _ s1
  refine method_meetsIn PySem.F.slot_dict_items PySem.F.entry_dict_items rfl (PySem.evalArgs_none ⟨rfl, dd.typeIs, PySem.F.args_dict_items_1 _, _, meets_dict_items (mixKind X.prog X.w) d hd, ⟨vs, dd⟩, ?_⟩)
  have I2 : Inv X pins σ H1 { s1 with heap := s1.heap.push { cls := .type "dict_items", data := .fields #[.ref d] } } := I1.kept (t' := s1.toks) fun b u e => Heap.get?_push_of_some _ e
  have dl : d < s1.heap.objs.size := let ⟨_, _, _, ho, _⟩ := dd; Heap.lt_size ho
  have hz : (s1.heap.push { cls := .type "dict_items", data := .fields #[.ref d] }).objs.size = s1.heap.objs.size + 1 := Heap.size_push ..
  have fin : ∀ (ob : Obj) (H2 : Hp), H2 d = some (.frz ob (.dK kvs)) → R (Iti ob d kvs) H2 → Inv X pins σ H2 { s1 with heap := s1.heap.push { cls := .type "dict_items", data := .fields #[.ref d] } } →
      wpAny (model X.prog X.w) X.A (pyIter (.ref s1.heap.objs.size)) (PIE X pins σ (.Tuple elts x1 pt) R) X.xe { s1 with heap := s1.heap.push { cls := .type "dict_items", data := .fields #[.ref d] } } := by
    intro ob H2 e2 q2 I3
    obtain ⟨_, vs', rel', da⟩ := frz_at I3.hok e2
    have hl := KV.length rel'
    refine wpAny_pyIter_items (knd := mixKind X.prog X.w) (d := d) (kvs := vs') (ep := epOf ob) ⟨_, Heap.get?_push_size _ rfl, rfl, rfl⟩ da ?_
    refine ⟨(s1.heap.push { cls := .type "dict_items", data := .fields #[.ref d] }).objs.size, [(s1.heap.push { cls := .type "dict_items", data := .fields #[.ref d] }).objs.size], _, Iti ob d kvs, H2, rfl, I3.kept (t' := s1.toks) fun b u e => Heap.get?_push_of_some _ e, turn_items ob d _ kvs,
      ⟨.none, .none, by rw [hl]; exact Heap.get?_push_size _ rfl⟩, fun b hb => ?_, q2⟩
    have e : b = (s1.heap.push { cls := .type "dict_items", data := .fields #[.ref d] }).objs.size := by simpa using hb
    subst e
    exact I3.fpOk (Nat.le_refl _) (I3.hok.fresh (Nat.le_refl _))
  rcases q with ⟨e, q⟩ | ⟨ob, e, q⟩
  · obtain ⟨ob, _, _, hob, _⟩ := dd
    exact fin ob _ upd_same (q ob) (I2.freeze e (Heap.get?_push_of_some _ hob))
  · exact fin ob H1 e q I2
end
/-- a loop over a dict's pairs that leaves the dict -/
theorem for_items {o : Obj} {d : Addr} {kvs : List (Key × V)} {g : TG} {tb : TS} {D : Ends} {σ : St} {H : Hp} (Pv : Nat → St → Hp → Prop) (h0 : Pv 0 σ H) (hl : ∀ i σ H, i ≤ kvs.length → Pv i σ H → H d = some (.frz o (.dK kvs)))
    (hs : ∀ i kv p σ H, kvs[i]? = some kv → H p = none → Pv i σ H → g (.ref p) σ (upd H p (.tup [kV kv.1, kv.2])) fun σ2 H2 => tb { D with nx := Pv (i + 1), ct := Pv (i + 1), bk := D.nx } σ2 H2) (hd : ∀ σ H, Pv kvs.length σ H → D.nx σ H) :
    ∃ W : Nat → Nat → St → Hp → Prop, (∃ m, W 0 m σ H) ∧ ∀ i m σ H, W i m σ H →
      ((Iti o d kvs).stop i H ∧ D.nx σ H) ∨ ((Iti o d kvs).go i H ∧ ∃ N : St → Hp → Prop, (∀ σ' H', N σ' H' → ∃ m', m' < m ∧ W (i + 1) m' σ' H') ∧ ∀ x H', (Iti o d kvs).yld i H x H' → g x σ H' fun σ2 H2 => tb { D with nx := N, ct := N, bk := D.nx } σ2 H2) := by
  refine ⟨fun i m σ H => m = kvs.length - i ∧ i ≤ kvs.length ∧ Pv i σ H, ⟨kvs.length, by simp, Nat.zero_le _, h0⟩, ?_⟩
  rintro i m σ H ⟨rfl, hi, p⟩
  have q := hl i σ H hi p
  by_cases hlt : i < kvs.length
  · refine .inr ⟨⟨q, hlt⟩, Pv (i + 1), fun σ' H' p' => ⟨kvs.length - (i + 1), by omega, rfl, hlt, p'⟩, fun x H' y => ?_⟩
    obtain ⟨kv, b, e1, e2, rfl, rfl⟩ := y
    exact hs i kv b σ H e1 e2 p
  · have e : i = kvs.length := by omega
    subst e
    exact .inl ⟨⟨q, Nat.le_refl _⟩, hd σ H p⟩

/-! ### reversed(list) -/
def Itv (K : PySem.W.Frag) (a : Addr) (n : Nat) : It :=
  ⟨fun i H => (∃ xs, SqL K H a xs ∧ xs.length = n) ∧ i < n, fun i H x H' => H' = H ∧ ∀ xs, SqL K H a xs → xs[n - 1 - i]? = some x, fun i _ => i = n⟩
theorem turn_rev {P : Program} {w : World} {K : PySem.W.Frag} {tg : Expr} (a it : Addr) (n : Nat) : Turn P w K tg (Itv K a n) [it] it (fun i h => h.IsRevIter it a ((n : Int) - 1 - (i : Int))) where
  mem := by simp
  obj := fun i h st b hb => by
    have e : b = it := by simpa using hb
    subst e
    obtain ⟨o, e, c, d⟩ := st
    exact ⟨o, e, fun v z => by rw [d] at z; cases z⟩
  keep := fun i h h' st k => st.at fun o e => k it (by simp) o e
  item := by
    intro X hP hw hK hc i pins s σ H E I hf st hg
    subst hP hw hK
    obtain ⟨⟨xs, hq, hn⟩, hi⟩ := hg
    obtain ⟨its, rv, p, hz⟩ := I.list hq
    have hx : xs[n - 1 - i]? = some (xs[n - 1 - i]'(by omega)) := List.getElem?_eq_getElem (by omega)
    obtain ⟨u, hu, ru⟩ := rv.get hx
    obtain ⟨f0, f1, f2, f3, f4, f5⟩ := hf it (by simp)
    have e : (n : Int) - 1 - (i : Int) = ((n - 1 - i : Nat) : Int) := by omega
    rw [e] at st
    refine wpAny_pyNext_rev_item st p.isList (x := u) (by simpa using hu) fun h' st' sb => ?_
    have I1 : Inv X pins σ H { s with heap := h' } := I.turned (t' := s.toks) (fun b o hb e => (sb.2 b hb).trans e) f0 f1 f3 f4 f5
    obtain ⟨o, e, c, d⟩ := id st'
    have e2 : ((n - 1 - i : Nat) : Int) - 1 = (n : Int) - 1 - ((i + 1 : Nat) : Int) := by omega
    rw [e2] at st'
    exact ⟨u, rfl, go_of (s := { s with heap := h' }) e c d (by decide) ⟨_, H, I1, ru, ⟨rfl, fun ys hy => by rw [I.list_inj hy hq]; exact hx⟩, st', fun b hb => (hf b hb).1⟩⟩
  done := by
    intro X hP hw hK hc i pins s σ H E I hf st hg
    subst hP hw hK
    have hg' : i = n := hg
    subst hg'
    obtain ⟨f0, f1, f2, f3, f4, f5⟩ := hf it (by simp)
    have e : (i : Int) - 1 - (i : Int) = -1 := by omega
    rw [e] at st
    exact wpAny_pyNext_rev_end (I.ok.hd hc) st fun h' eb => ⟨rfl, I.turned (t' := s.toks) (fun b o hb e => eb b o hb e) f0 f1 f3 f4 f5⟩
  self := fun _ _ _ _ _ st h => wpAny_pyIter_revIter st h
section
variable {X : Cx} {tg : Expr}
def iRev (K : PySem.W.Frag) (ta : TA) : TI := fun σ H R => ta σ H fun vs H1 => ∃ a xs, vs = [.ref a] ∧ SqL K H1 a xs ∧ R (Itv K a xs.length) H1
theorem pi_rev {a : Expr} {ta : TA} {p pos : Pos} (hg : Gl X "reversed") (hm : X.mg "reversed" = none) (ha : PA X [a] ta) (hs : starEach [a] X.env = [(false, eval a X.env)] := by rfl) : PI X tg (.Call (.Name "reversed" p) [a] [] pos) (iRev X.K ta) := by
  intro pins s σ H R I h
  refine Call_ (ld_blt I hg hm PyProof.Rows.boot_reversed (PyProof.Rows.callWith_type1 (thn (ha pos pins s σ H _ I h) fun us s1 ⟨vs, H1, I1, r1, q1⟩ => ?_) hs rfl))
  obtain ⟨a, xs, e, hq, q⟩ := q1
  subst e
  cases r1 with
  | cons r rr =>
    cases rr
    cases r
    obtain ⟨its, rv, p, hz⟩ := I1.list hq
    have hl := rv.length
    refine call_reversed_list p.isList ?_
    have st : (s1.heap.push (revObj a ((its.toArray.size : Int) - 1))).IsRevIter s1.heap.objs.size a ((xs.length : Int) - 1 - ((0 : Nat) : Int)) := by
      refine ⟨_, Heap.get?_push_size _ rfl, rfl, ?_⟩
      have e : (its.toArray.size : Int) - 1 = (xs.length : Int) - 1 - ((0 : Nat) : Int) := by simp [hl]
      rw [e]
      rfl
    refine wpAny_pyIter_revIter (s := { s1 with heap := s1.heap.push (revObj a ((its.toArray.size : Int) - 1)) }) st ?_
    refine ⟨s1.heap.objs.size, [s1.heap.objs.size], _, _, H1, rfl, I1.kept (t' := s1.toks) fun b o e => Heap.get?_push_of_some _ e, turn_rev a _ xs.length, st, fun b hb => ?_, q⟩
    have e : b = s1.heap.objs.size := by simpa using hb
    subst e
    exact I1.fpOk (Nat.le_refl _) (I1.hok.fresh (Nat.le_refl _))
end
theorem for_rev {K : PySem.W.Frag} {a : Addr} {xs : List V} {g : TG} {tb : TS} {D : Ends} {σ : St} {H : Hp} (Pv : Nat → St → Hp → Prop) (h0 : Pv 0 σ H) (hl : ∀ i σ H, i ≤ xs.length → Pv i σ H → SqL K H a xs)
    (hs : ∀ i x σ H, i < xs.length → xs[xs.length - 1 - i]? = some x → Pv i σ H → g x σ H fun σ2 H2 => tb { D with nx := Pv (i + 1), ct := Pv (i + 1), bk := D.nx } σ2 H2) (hd : ∀ σ H, Pv xs.length σ H → D.nx σ H) :
    ∃ W : Nat → Nat → St → Hp → Prop, (∃ m, W 0 m σ H) ∧ ∀ i m σ H, W i m σ H →
      ((Itv K a xs.length).stop i H ∧ D.nx σ H) ∨ ((Itv K a xs.length).go i H ∧ ∃ N : St → Hp → Prop, (∀ σ' H', N σ' H' → ∃ m', m' < m ∧ W (i + 1) m' σ' H') ∧ ∀ x H', (Itv K a xs.length).yld i H x H' → g x σ H' fun σ2 H2 => tb { D with nx := N, ct := N, bk := D.nx } σ2 H2) := by
  refine ⟨fun i m σ H => m = xs.length - i ∧ i ≤ xs.length ∧ Pv i σ H, ⟨xs.length, by simp, Nat.zero_le _, h0⟩, ?_⟩
  rintro i m σ H ⟨rfl, hi, p⟩
  have q := hl i σ H hi p
  by_cases hlt : i < xs.length
  · refine .inr ⟨⟨⟨xs, q, rfl⟩, hlt⟩, Pv (i + 1), fun σ' H' p' => ⟨xs.length - (i + 1), by omega, rfl, hlt, p'⟩, fun x H' y => ?_⟩
    obtain ⟨e, y⟩ := y
    subst e
    exact hs i x σ _ hlt (y xs q) p
  · have e : i = xs.length := by omega
    subst e
    exact .inl ⟨rfl, hd σ H p⟩
end L2

set_option Elab.async false
set_option linter.all false
set_option maxRecDepth 100000
set_option maxHeartbeats 4000000
namespace L2
open PySem PySem.Spec PyProof.Rows

/-! ### a dict's keys -/
def Itk (o : Obj) (d : Addr) (kvs : List (Key × V)) : It :=
  ⟨fun i H => H d = some (.frz o (.dK kvs)) ∧ i < kvs.length, fun i H x H' => H' = H ∧ ∃ kv, kvs[i]? = some kv ∧ x = kV kv.1, fun i H => H d = some (.frz o (.dK kvs)) ∧ kvs.length ≤ i⟩
theorem turn_keys {P : Program} {w : World} {K : PySem.W.Frag} {tg : Expr} (o : Obj) (d it : Addr) (kvs : List (Key × V)) : Turn P w K tg (Itk o d kvs) [it] it (fun i h => h.IsKeyIter it d i kvs.length (epOf o)) where
  mem := by simp
  obj := fun i h st b hb => by
    have e : b = it := by simpa using hb
    subst e
    obtain ⟨o, e, c, d⟩ := st
    exact ⟨o, e, fun v z => by rw [d] at z; cases z⟩
  keep := fun i h h' ⟨o, e, r⟩ k => ⟨o, k it (by simp) o e, r⟩
  item := by
    intro X hP hw hK hc i pins s σ H E I hf st hg
    subst hP hw hK
    obtain ⟨e, hi⟩ := hg
    obtain ⟨hd, vs, r, dd⟩ := frz_at I.hok e
    have hl := KV.length r
    obtain ⟨q, hq, e1, e2⟩ := KV.get r (List.getElem?_eq_getElem hi)
    obtain ⟨q1, q2⟩ := q
    obtain ⟨f0, f1, f2, f3, f4, f5⟩ := hf it (by simp)
    rw [hl] at st
    refine wpAny_pyNext_dict_item st dd hq fun key h' hk st' sb => ?_
    have I1 : Inv X pins σ H { s with heap := h' } := I.turned (t' := s.toks) (fun b o hb e => (sb.2 b hb).trans e) f0 f1 f3 f4 f5
    obtain ⟨o2, e3, c3, d3⟩ := id st'
    rw [← hl] at st'
    have e1' : kvs[i].1 = q1 := e1
    exact ⟨key, rfl, go_of (s := { s with heap := h' }) e3 c3 d3 (by decide) ⟨kV kvs[i].1, H, I1, by rw [e1']; exact rel_of_is hk, ⟨rfl, kvs[i], List.getElem?_eq_getElem hi, rfl⟩, st', fun b hb => (hf b hb).1⟩⟩
  done := by
    intro X hP hw hK hc i pins s σ H E I hf st hg
    subst hP hw hK
    obtain ⟨e, hi⟩ := hg
    obtain ⟨hd, vs, r, dd⟩ := frz_at I.hok e
    have hl := KV.length r
    obtain ⟨f0, f1, f2, f3, f4, f5⟩ := hf it (by simp)
    rw [hl] at st
    exact wpAny_pyNext_dict_end (I.ok.hd hc) st dd (List.getElem?_eq_none (by omega)) fun h' eb => ⟨rfl, I.turned (t' := s.toks) (fun b o hb e => eb b o hb e) f0 f1 f3 f4 f5⟩
  self := fun A i s Q E st hQ => by
    have hT := st.typeIs
    refine wpAny_pyIter_slot hT PySem.F.slot_dict_keyiterator_iter (wpAny_call_entry PySem.F.slot_dict_keyiterator_iter hT PySem.F.entry_dict_keyiterator_iter ?_ (PySem.F.args_dict_keyiterator_iter_1 _))
    show wpAny _ _ (ret (.ref it)) _ _ s
    exact wpAny_pure ⟨_, rfl, "dict_keyiterator", _, hT, PySem.F.slot_dict_keyiterator_next.lookup, hQ⟩
section
variable {X : Cx} {o tg : Expr} {td : TE}
def iKeys (td : TE) : TI := fun σ H R => td σ H fun x H1 => ∃ d kvs, x = .ref d ∧ ((H1 d = some (.dK kvs) ∧ ∀ o, R (Itk o d kvs) (upd H1 d (.frz o (.dK kvs)))) ∨ ∃ o, H1 d = some (.frz o (.dK kvs)) ∧ R (Itk o d kvs) H1)
theorem pi_dict (ho : PE X o td) : PI X tg o (iKeys td) := by
  intro pins s σ H R I h
  refine thn (ho pins s σ H _ I h) fun u s1 ⟨x, H1, I1, rx, d, kvs, ex, q⟩ => ?_
  subst ex
  obtain rfl : u = Value.ref d := rx
  have fin : ∀ (ob : Obj) (H2 : Hp), H2 d = some (.frz ob (.dK kvs)) → R (Itk ob d kvs) H2 → Inv X pins σ H2 s1 → wpAny (model X.prog X.w) X.A (pyIter (.ref d)) (PIE X pins σ tg R) X.xe s1 := by
    intro ob H2 e2 q2 I3
    obtain ⟨hd, vs', rel', da⟩ := frz_at I3.hok e2
    have hl := KV.length rel'
    refine wpAny_pyIter_dict (knd := mixKind X.prog X.w) hd da ?_
    refine ⟨s1.heap.objs.size, [s1.heap.objs.size], _, Itk ob d kvs, H2, rfl, I3.kept (t' := s1.toks) fun b u e => Heap.get?_push_of_some _ e, turn_keys ob d _ kvs, ⟨_, Heap.get?_push_size _ rfl, rfl, by rw [hl]; rfl⟩, fun b hb => ?_, q2⟩
    have e : b = s1.heap.objs.size := by simpa using hb
    subst e
    exact I3.fpOk (Nat.le_refl _) (I3.hok.fresh (Nat.le_refl _))
  rcases q with ⟨e, q⟩ | ⟨ob, e, q⟩
  · obtain ⟨z, hd, vs, rel, dd⟩ := dk_of I1.hok e
    obtain ⟨ob, _, _, hob, _⟩ := dd
    exact fin ob _ upd_same (q ob) (I1.freeze e hob)
  · exact fin ob H1 e q I1
end
section
variable {σ : St} {is : List Nat} {tt : TT} {te : TE} {Q : VK} {H : Hp}
theorem lc_keys {o : Obj} {d : Addr} {kvs : List (Key × V)} (Pv : Nat → List V → Hp → Prop) (hn : kvs.length ≤ 1000000) (h0 : Pv 0 [] H) (hb : ∀ i acc H, Pv i acc H → acc.length ≤ i) (hl : ∀ i acc H, i ≤ kvs.length → Pv i acc H → H d = some (.frz o (.dK kvs)))
    (hs : ∀ i kv acc H, kvs[i]? = some kv → Pv i acc H → tt (capS σ is ++ [some (kV kv.1)]) H fun b H3 => if b = true then te (capS σ is ++ [some (kV kv.1)]) H3 fun y H4 => Pv (i + 1) (acc ++ [y]) H4 else Pv (i + 1) acc H3)
    (hd : ∀ acc H, Pv kvs.length acc H → ∀ p, H p = none → Q (.ref p) (upd H p (.lst acc))) :
    LcGo (Itk o d kvs) σ is tt te Q H := by
  refine ⟨fun i m acc H => m = kvs.length - i ∧ i ≤ kvs.length ∧ Pv i acc H, ⟨kvs.length, by simp, Nat.zero_le _, h0⟩, ?_⟩
  rintro i m acc H ⟨rfl, hi, p⟩
  have q := hl i acc H hi p
  by_cases hlt : i < kvs.length
  · refine .inr ⟨⟨q, hlt⟩, ?_, Pv (i + 1), fun acc' H' p' => ⟨kvs.length - (i + 1), by omega, rfl, hlt, p'⟩, fun v H' y => ?_⟩
    · have := hb i acc H p
      have := sizeLine_eq
      omega
    · obtain ⟨e, kv, y, rfl⟩ := y
      subst e
      exact hs i kv acc _ y p
  · have e : i = kvs.length := by omega
    subst e
    exact .inl ⟨⟨q, Nat.le_refl _⟩, hd acc H p⟩
end
end L2

set_option Elab.async false
set_option linter.all false
set_option maxRecDepth 100000
set_option maxHeartbeats 4000000
namespace L2
open PySem PySem.Spec PyProof.Rows

/-! ### a dict's keys, gathered -/
section
variable {prog : Program} {w : World} {A : Around} {E : Value → Shared → Prop} {s : Shared} {T : String} {r d : Addr} {n : Nat} {P : Nat → Value → Prop} {OK : Heap → Prop}
theorem gather_run {Q : Value → Shared → Prop} (Ks : PySem.W.KdlSrc prog w T r d n P OK) (hh : A.handled = none) (ok0 : OK s.heap) (few : n ≤ sizeLine)
    (fin : ∀ h' tk acc c, (∀ b o, s.heap.get? b = some o → h'.get? b = some o) → h'.get? s.heap.objs.size = some { cls := .type "list", dict := none, data := .seq acc c, slots := #[] } → ItemsOf P acc n → Q (.ref s.heap.objs.size) { s with heap := h', toks := tk }) :
    wpAny (model prog w) A (runValue (.builtin "proto.collect" ⟨[.ref r], []⟩)) Q E s := by
  have lt := Ks.there _ ok0
  refine wpAny_runValue (codeAny_builtin PySem.F.entry_proto_collect ?_); rw [Around.under_plainId PySem.F.plain_proto_collect _]
  show wpAny _ A.in1 (newList [] >>= fun z => again (.builtin "list.__iadd__" ⟨[z, .ref r], []⟩)) _ _ s
  refine wpAny_bind (wpAny_newObj_type (wpAny_pure ⟨plainId_quiet PySem.F.plain_list_iadd _, codeAny_builtin PySem.F.entry_list_iadd ?_⟩)); rw [Around.under_plainId PySem.F.plain_list_iadd _]
  show wpAny _ A.in1 (Builtin.List.listExtendWith (.ref s.heap.objs.size) (.ref r) (.ref s.heap.objs.size)) _ _ { s with heap := s.heap.push { cls := .type "list", data := .seq #[] 0 } }
  refine PySem.W.kdl_extend (R := wants Q E) (s := { s with heap := s.heap.push { cls := .type "list", data := .seq #[] 0 } }) Ks hh (Ks.keep _ _ ok0 fun b _ o e => Heap.get?_push_of_some _ e) s.heap.objs.size (Nat.ne_of_gt lt.1) (Nat.ne_of_gt lt.2) (.ref s.heap.objs.size) 0 (Heap.get?_push_size _ rfl) (fun h' tk acc c kp at_ its => ?_) few
  exact fin h' tk acc c (fun b o e => kp b o (Nat.ne_of_lt (Heap.lt_size e)) (Heap.get?_push_of_some _ e)) at_ its
theorem gather_src {Q : List Value → Shared → Prop} (Ks : PySem.W.KdlSrc prog w T r d n P OK) (hh : A.handled = none) (ok0 : OK s.heap) (few : n ≤ sizeLine)
    (fin : ∀ h' tk acc, (∀ b o, s.heap.get? b = some o → h'.get? b = some o) → s.heap.objs.size < h'.objs.size → ItemsOf P acc n → Q acc.toList { s with heap := h', toks := tk }) : wpAny (model prog w) A (collect (.ref r)) Q E s := by
  unfold collect
  refine wpAny_bind (gather_run Ks hh ok0 few fun h' tk acc c kp at_ its => ?_)
  show wpAny _ A (load s.heap.objs.size >>= _) _ _ _
  exact wpAny_bind (wpAny_load at_ (wpAny_pure (fin h' tk acc kp (Heap.lt_size at_) its)))
end
/-- the heap behind list.sort -/
theorem sorted_at {h : Heap} {a : Addr} {vs : List Value} {out : Array Value} {n : Nat} (ho : h.get? a = some (seqObj "list" vs.toArray n)) : ∃ e, (sortedHeap h a vs out).get? a = some (seqObj "list" out e) := by
  have ha : a < h.objs.size := Heap.lt_size ho
  unfold sortedHeap
  have h1 := get?_update_seq ho (fun _ => (#[] : Array Value))
  have h2 := Heap.get?_push_of_some (seqObj "list" #[] 0) (Heap.get?_push_of_some (seqObj "tuple" vs.toArray 0) h1)
  exact ⟨_, get?_update_seq h2 (fun _ => out)⟩
theorem sorted_else {h : Heap} {a : Addr} {vs : List Value} {out : Array Value} {b : Addr} {o : Obj} (hb : b ≠ a) (e : h.get? b = some o) : (sortedHeap h a vs out).get? b = some o := by
  unfold sortedHeap
  rw [Heap.get?_update_other _ _ (Ne.symm hb)]
  refine Heap.get?_push_of_some _ (Heap.get?_push_of_some _ ?_)
  rw [Heap.get?_update_other _ _ (Ne.symm hb)]
  exact e
/-! ### the letters of a dict, from z to a -/
section
variable {prog : Program} {w : World} {A : Around} {E : Value → Shared → Prop} {s : Shared}
theorem sort_down {l : Addr} {vs : List Value} {ss : List Str} {n : Nat} {F : Fin → Shared → Prop} (at0 : s.heap.get? l = some (seqObj "list" vs.toArray n)) (hS : StrsAre vs ss) (h64 : vs.length < 64)
    (fin : ∀ (out : Array Value) (ss' : List Str), StrsAre out.toList.reverse ss' → ss'.Perm ss → sortedS ss' = true → F (.done (.ret .none)) { s with heap := sortedHeap s.heap l vs out }) :
    wpAny (model prog w) A (Builtin.«list.sort» ⟨[.ref l], [(Str.ofString "reverse", .bool true)]⟩) F E s := by
  rw [list_sort_rev]
  have hlt : l < s.heap.objs.size := Heap.lt_size at0
  refine wpAny_bind (listItems_at at0 rfl (wpAny_bind (listUpdate_at at0 rfl ?_)))
  obtain ⟨e1, at1⟩ : ∃ e1, (s.heap.update l (Obj.mapSeq fun _ => #[])).get? l = some (seqObj "list" #[] e1) := ⟨_, get?_update_seq at0 (fun _ => #[])⟩
  refine wpAny_bind (seqEpoch_at at1 rfl (wpAny_bind (wpAny_newTuple (wpAny_bind (wpAny_newList (wpAny_holding ?_))))))
  have at6 : (((s.heap.update l (Obj.mapSeq fun _ => #[])).push (seqObj "tuple" vs.toArray 0)).push (seqObj "list" #[] 0)).get? l = some (seqObj "list" #[] e1) := Heap.get?_push_of_some _ (Heap.get?_push_of_some _ at1)
  show wpAny (model prog w) A _ F E { s with heap := ((s.heap.update l (Obj.mapSeq fun _ => #[])).push (seqObj "tuple" vs.toArray 0)).push (seqObj "list" #[] 0) }
  have sz : vs.toArray.size = vs.length := by simp
  have fin' : ∀ st' : SortSt, (arrOf st').Perm (pairsOf vs) → SortedToK PyProof.Rows.strKind (arrOf st') (pairsOf vs).size → F (.done (.ret .none)) { s with heap := sortedHeap s.heap l vs ((arrOf st').map (·.2)).reverse } := by
    intro st' hp hs
    obtain ⟨ss', a1, a2, a3⟩ := sorted_out_str hS hp hs
    exact fin _ ss' (by rw [Array.toList_reverse, List.reverse_reverse]; exact a1) a2 a3
  have start : (vs.toArray.zip vs.toArray).reverse.Perm (pairsOf vs) := Array.perm_iff_toList_perm.mpr (by rw [Array.toList_reverse]; exact List.reverse_perm _)
  dsimp only
  refine wpAny_bind (wpAny_rule ?_)
  by_cases h2 : vs.toArray.size < 2
  · rw [if_pos h2, if_pos h2]
    refine wpAny_bind (wpAny_pure ?_)
    rw [StateT.run_pure]
    refine wpAny_bind (wpAny_pure ?_)
    dsimp only
    refine wpAny_bind (seqEpoch_at at6 rfl ?_)
    refine wpAny_bind (listUpdate_at at6 rfl ?_ (hsz2 := by simp only [if_true, Array.size_reverse, Array.size_map]; show (vs.toArray.zip vs.toArray).reverse.size ≤ _; rw [Array.size_reverse, Array.size_zip, sizeLine_eq]; omega))
    simp only [bne_self_eq_false, if_false, Bool.false_eq_true]
    refine wpAny_pure (fin' (SortSt.mk' general' (vs.toArray.zip vs.toArray).reverse #[] 7 none) start fun i j hij hj => ?_)
    have : i = j := by rw [pairsOf_size] at hj; omega
    subst this
    exact KeyOrd.kle_refl _
  · rw [if_neg h2, if_neg h2]
    obtain ⟨v1, v2, vr, rfl⟩ : ∃ v1 v2 vr, vs = v1 :: v2 :: vr := by
      match vs, sz, h2 with
      | [], _, h2 => simp at h2
      | [_], _, h2 => simp at h2
      | a :: b :: c, _, _ => exact ⟨a, b, c, rfl⟩
    rw [keyKind_strs hS]
    refine wpAny_bind (wpAny_pure ?_)
    refine wpAny_bind (wpAny_mono (wpS_sortRunsK (κ := PyProof.Rows.strKind) strKind_oneLt (a₀ := pairsOf (v1 :: v2 :: vr)) (st := SortSt.mk' oneType' ((v1 :: v2 :: vr).toArray.zip (v1 :: v2 :: vr).toArray).reverse #[] 7 none)
      (Q := fun _ t => (arrOf t).Perm (pairsOf (v1 :: v2 :: vr)) ∧ failedOf t = none ∧ SortedToK PyProof.Rows.strKind (arrOf t) (pairsOf (v1 :: v2 :: vr)).size)
      hS.keysOf ⟨start, rfl, rfl, rfl⟩ (by rw [pairsOf_size]; simp) (by rw [pairsOf_size]; exact h64) fun t a1 a2 a3 => ⟨a1, a2, a3⟩) ?_ fun _ _ e => e)
    rintro ⟨⟨⟩, t⟩ s' ⟨rfl, hp, hf, hs⟩
    dsimp only
    refine wpAny_bind (seqEpoch_at at6 rfl ?_)
    refine wpAny_bind (listUpdate_at at6 rfl ?_ (hsz2 := by
      rw [if_pos rfl, Array.size_reverse]
      refine Nat.le_trans (Nat.le_of_eq ((Array.size_map ..).trans (hp.size_eq.trans (pairsOf_size _)))) ?_; rw [sizeLine_eq]; omega))
    rw [hf]
    simp only [bne_self_eq_false, if_false, Bool.false_eq_true]
    exact wpAny_pure (fin' t hp hs)
end
end L2

set_option Elab.async false
set_option linter.all false
set_option maxRecDepth 100000
set_option maxHeartbeats 4000000
namespace L2
open PySem PySem.Spec PyProof.Rows
theorem paired_of {α β : Type} {R : α → β → Prop} : ∀ {xs : List α} {us : List β}, xs.length = us.length → (∀ (i : Nat) x u, xs[i]? = some x → us[i]? = some u → R x u) → Paired R xs us
  | [], [], _, _ => .nil
  | [], _ :: _, h, _ => by simp at h
  | _ :: _, [], h, _ => by simp at h
  | x :: xs, u :: us, h, k => .cons (k 0 x u rfl rfl) (paired_of (by simpa using h) fun i a b e1 e2 => k (i + 1) a b (by simpa using e1) (by simpa using e2))
/-- the keys as they were gathered -/
theorem vals_keys {P : Program} {w : World} {kvs : List (Key × V)} {vs : List (Key × Value)} {acc : Array Value} (r : KV kvs vs) (its : ItemsOf (fun i v => ∃ k x, vs[i]? = some (k, x) ∧ (mixKind P w).is k v = true) acc vs.length) : Vals (kvs.map fun kv => kV kv.1) acc.toList := by
  have hl := KV.length r
  refine paired_of (by rw [List.length_map, hl, Array.length_toList]; exact its.1.symm) fun i x u hx hu => ?_
  rw [List.getElem?_map] at hx
  cases e : kvs[i]? with
  | none => rw [e] at hx; cases hx
  | some kv =>
    rw [e] at hx
    cases hx
    obtain ⟨q, hq, e1, e2⟩ := KV.get r e
    obtain ⟨k, y, hk, is_⟩ := its.2 i u (by rw [← Array.getElem?_toList]; exact hu)
    rw [hq] at hk
    cases hk
    have e1' : kv.1 = k := e1
    show RelV (kV kv.1) u
    rw [e1']
    exact rel_of_is is_
theorem down_pw : ∀ {ls : List (List Nat)}, (ls.Pairwise fun a b => ¬ b < a) → ls.reverse.Pairwise fun a b => ¬ a < b := fun h => by
  rw [List.pairwise_reverse]
  exact h
section
variable {X : Cx} {e : Expr} {td : TE} {p pos kp pb : Pos} {j : Nat}
/-- what sorted(d, reverse=True) asks of its dict: the keys are texts -/
def rSortD (Q : VK) (x : V) (H1 : Hp) : Prop := ∃ (d : Addr) (kvs : List (Key × V)) (ls : List (List Nat)), x = .ref d ∧ H1 d = some (.dK kvs) ∧ (kvs.map fun kv => kV kv.1) = ls.map sv ∧ ls.length < 64 ∧
  ∀ ls' : List (List Nat), ls'.Perm ls → (ls'.Pairwise fun a b => ¬ a < b) → ∀ q, H1 q = none → Q (.ref q) (upd H1 q (.lst (ls'.map sv)))
def tSortD (td : TE) : TE := fun σ H Q => td σ H fun x H1 => rSortD Q x H1
theorem run_sortD {pins : List (Addr × Obj)} {s : Shared} {σ : St} {H : Hp} {Q : VK} {d : Addr} (hc : X.calm = true) (I : Inv X pins σ H s) (h : rSortD Q (.ref d) H) :
    wpAny (model X.prog X.w) X.A (call (.builtin "sorted") [.ref d] [(Str.ofString "reverse", .bool true)]) (EP X pins σ Q) X.xe s := by
  obtain ⟨d', kvs, ls, ed, hd, ek, h64, k⟩ := h
  cases ed
  obtain ⟨z, hsy, vs, r, dd⟩ := dk_of I.hok hd
  obtain ⟨ep, da⟩ := dd.dictAt
  have hl := KV.length r
  have el : kvs.length = ls.length := by
    have := congrArg List.length ek
    rwa [List.length_map, List.length_map] at this
  refine call_function_entry_kw kind_sorted plain_sorted entry_sorted (args_sorted_rev _ _) ?_
  unfold Builtin.«sorted»
  refine wpAny_bind (m := checkCount "sorted" 1 1 _) (wpAny_pure (wpAny_bind (gather_src (PySem.W.kdl_dict hsy) (I.ok.hd hc) da (by rw [sizeLine_eq]; omega) fun h' tk acc keep grown its => ?_)))
  have hv : Vals (ls.map sv) acc.toList := by
    rw [← ek]
    exact vals_keys r its
  have hS : StrsAre acc.toList (ls.map S) := strsAre_of hv
  have hacc : acc.toList.length = ls.length := by
    have := hv.length
    rw [List.length_map] at this
    exact this.symm
  refine wpAny_bind (wpAny_newList ?_ (hsz := by rw [hacc, sizeLine_eq]; omega))
  have at0 : (h'.push (seqObj "list" acc.toList.toArray 0)).get? h'.objs.size = some (seqObj "list" acc.toList.toArray 0) := Heap.get?_push_size _ rfl
  show wpAny _ _ _ _ _ { s with heap := h'.push (seqObj "list" acc.toList.toArray 0), toks := tk }
  refine wpAny_bind (wpAny_holding (wpAny_call_entry_kw slot_list_sort ⟨_, at0, rfl⟩ entry_list_sort (sort_down at0 hS (by omega) fun out ss' a1 a2 a3 => ⟨_, rfl, wpAny_pure ⟨_, rfl, ?_⟩⟩) (args_list_sort_rev _ _)))
  obtain ⟨ls', hls⟩ : ∃ ls' : List (List Nat), ss' = ls'.map S := ⟨_, (map_S_of ss').symm⟩
  subst hls
  have hperm : ls'.Perm ls := by
    have := perm_S (ss := ls'.map S) a2
    rw [List.map_map] at this
    have e2 : ((fun z : Str => z.cps.toList) ∘ S) = id := by
      funext l
      exact S_cps l
    rw [e2, List.map_id] at this
    exact this
  have hv' : Vals (ls'.map sv) out.toList.reverse := by
    have := vals_strs a1
    rw [List.map_map] at this
    exact this
  have hv2 : Vals (ls'.reverse.map sv) out.toList := by
    refine paired_of ?_ fun i x u hx hu => ?_
    · rw [List.length_map, List.length_reverse]
      have := hv'.length
      rw [List.length_map, List.length_reverse] at this
      exact this
    · have hlen := hv'.length
      rw [List.length_map, List.length_reverse] at hlen
      rw [List.map_reverse] at hx
      have hi : i < out.toList.length := (List.getElem?_eq_some_iff.mp hu).1
      rw [List.getElem?_reverse (by rw [List.length_map]; omega), List.length_map] at hx
      obtain ⟨u', hu', ru⟩ := hv'.get hx
      rw [List.getElem?_reverse (by omega)] at hu'
      have e3 : out.toList.length - 1 - (ls'.length - 1 - i) = i := by omega
      rw [e3, hu] at hu'
      cases hu'
      exact ru
  have old : ∀ b o, s.heap.get? b = some o → (sortedHeap (h'.push (seqObj "list" acc.toList.toArray 0)) h'.objs.size acc.toList out).get? b = some o := fun b o q =>
    sorted_else (Nat.ne_of_lt (Heap.lt_size (keep b o q))) (Heap.get?_push_of_some _ (keep b o q))
  have hsz : s.heap.objs.size ≤ h'.objs.size := Nat.le_of_lt grown
  obtain ⟨ee, he⟩ := sorted_at (out := out) at0
  refine ⟨.ref h'.objs.size, _, I.laid (t' := tk) (o := .lst (ls'.reverse.map sv)) old hsz ⟨?_, out.toList, ee, hv2, ?_⟩, rfl, k _ ((List.reverse_perm _).trans hperm) (down_pw (sorted_pw ls' a3)) _ (I.hok.fresh hsz)⟩
  · rw [List.length_map, List.length_reverse, hperm.length_eq, sizeLine_eq]
    omega
  · rw [he]
theorem pe_sortD (hc : X.calm = true) (hg : Gl X "sorted") (hm : X.mg "sorted" = none) (he : PE X e td) (hs : starEach [e] X.env = [(false, eval e X.env)] := by rfl)
    (hs2 : backTo pos (starEach [e] X.env) = (false, eval e X.env) :: backTo pos (starEach [] X.env) := by rfl) (hpl : (backTo pos (starEach [e] X.env)).any (·.1) = false := by rfl) :
    PE X (.Call (.Name "sorted" p) [e] [⟨some "reverse", .Constant (.bool true) j pb, kp⟩] pos) (tSortD td) := by
  intro pins s σ H Q I h
  refine wpAny_Call_Name_kw (ld_blt I hg hm boot_sorted_ ?_)
  have hp := (pa_cons he pa_nil hs) pos pins s σ H (fun vs H1 => match vs with | [x] => rSortD Q x H1 | _ => False) I h
  refine callWith_kw (thn hp fun us s1 ⟨vs, H1, I1, r1, q1⟩ => kws_cons (thn (pe_bl pins s1 σ H1 (fun v H2 => v = .bl true ∧ H2 = H1) I1 ⟨rfl, rfl⟩) fun v s2 ⟨x, H2, I2, rx, ex, eh⟩ => kws_nil ?_)) hs2 hpl
  subst ex eh
  cases (show v = Value.bool true from rx)
  match vs, r1, q1 with
  | [x], .cons r .nil, q1 =>
    obtain ⟨d, kvs, ls, ed, rest⟩ := id q1
    subst ed
    cases r
    exact run_sortD hc I2 q1
end
/-- e.f within a block -/
theorem pe_fldK {X : Cx} {e : Expr} {f : Str} {pos : Pos} {ta : TE} (K : PySem.W.Frag) (hK : X.K = K) (he : PE X e ta) (hb : attributeBase e f X.env (eval e X.env) = eval e X.env) : PE X (.Attribute e f pos) (tFld K ta f) := by
  subst hK
  exact pe_fld he hb
end L2

set_option Elab.async false
set_option linter.all false
set_option maxRecDepth 100000
set_option maxHeartbeats 4000000
/-! The hedge as it lies in the heap. -/
namespace WH
open PySem L2
/-- a twig: its object, its dict of letters, its object's own dict -/
structure Tw where
  p : Addr
  d : Addr
  x : Addr
abbrev NM := List Nat → Option Tw
def A (N : NM) (t : List Nat) : V := match N t with
  | some y => .ref y.p
  | none => .non
theorem A_some {N : NM} {t : List Nat} {y : Tw} (h : N t = some y) : A N t = .ref y.p := by
  unfold A
  rw [h]
theorem A_none {N : NM} {t : List Nat} (h : N t = none) : A N t = .non := by
  unfold A
  rw [h]
def key (c : Nat) : Key := Sum.inr (S [c])
theorem key_inj1 {a b : Nat} (h : key a = key b) : a = b := by
  have := S_inj (Sum.inr.inj h)
  simpa using this
def kv (N : NM) (t : List Nat) (ks : List Nat) : List (Key × V) := ks.map fun c => (key c, A N (t ++ [c]))
theorem kv_len (N : NM) (t : List Nat) (ks : List Nat) : (kv N t ks).length = ks.length := List.length_map ..
theorem kv_get {N : NM} {t : List Nat} {ks : List Nat} {i : Nat} {q : Key × V} (h : (kv N t ks)[i]? = some q) : ∃ c, ks[i]? = some c ∧ q = (key c, A N (t ++ [c])) := by
  unfold kv at h
  rw [List.getElem?_map] at h
  cases e : ks[i]? with
  | none => rw [e] at h; cases h
  | some c => rw [e] at h; exact ⟨c, rfl, (Option.some.inj h).symm⟩
theorem kv_congr {N N' : NM} {t : List Nat} {ks : List Nat} (h : ∀ c ∈ ks, A N (t ++ [c]) = A N' (t ++ [c])) : kv N t ks = kv N' t ks := List.map_congr_left fun c hc => by rw [h c hc]
theorem valV_kv (N : NM) (t : List Nat) (c : Nat) : ∀ ks : List Nat, valV (kv N t ks) (key c) = if c ∈ ks then some (A N (t ++ [c])) else none
  | [] => rfl
  | a :: ks => by
    show valV ((key a, A N (t ++ [a])) :: kv N t ks) (key c) = _
    by_cases e : a = c
    · subst e
      rw [valV_pos rfl, if_pos (List.mem_cons_self ..)]
    · rw [valV_neg (fun z => e (key_inj1 z)), valV_kv N t c ks]
      by_cases m : c ∈ ks
      · rw [if_pos m, if_pos (List.mem_cons_of_mem _ m)]
      · rw [if_neg m, if_neg fun z => (List.mem_cons.mp z).elim (fun y => e y.symm) m]
theorem kv_put {N : NM} {t : List Nat} {ks : List Nat} {c : Nat} (h : c ∉ ks) (v : V) : putK (kv N t ks) (key c) v = kv N t ks ++ [(key c, v)] := putK_new v (by rw [valV_kv, if_neg h])
theorem putF_here {x : Str} {v y : V} {r : List (Str × V)} : putF x y ((x, v) :: r) = (x, y) :: r := by
  unfold putF
  rw [if_pos rfl]
theorem putF_there {x n : Str} {v y : V} {r : List (Str × V)} (h : ¬ n = x) : putF x y ((n, v) :: r) = (n, v) :: putF x y r := by
  rw [putF, if_neg h]
/-- a twig's attributes -/
def flds (t : List Nat) (h : Bool) (m : Nat) (d : Addr) : List (Str × V) := [("text", sv t), ("here", .bl h), ("many", .int (m : Int)), ("longer", .ref d)]
theorem n_th : ¬ (("text" : Str) = "here") := by decide +kernel
theorem n_tm : ¬ (("text" : Str) = "many") := by decide +kernel
theorem n_tl : ¬ (("text" : Str) = "longer") := by decide +kernel
theorem n_hm : ¬ (("here" : Str) = "many") := by decide +kernel
theorem n_hl : ¬ (("here" : Str) = "longer") := by decide +kernel
theorem n_ml : ¬ (("many" : Str) = "longer") := by decide +kernel
section
variable (t : List Nat) (h : Bool) (m : Nat) (d : Addr)
theorem f_text : (flds t h m d).lookup ("text" : Str) = some (sv t) := look_here
theorem f_here : (flds t h m d).lookup ("here" : Str) = some (.bl h) := (look_there (Ne.symm n_th)).trans look_here
theorem f_many : (flds t h m d).lookup ("many" : Str) = some (.int (m : Int)) := (look_there (Ne.symm n_tm)).trans ((look_there (Ne.symm n_hm)).trans look_here)
theorem f_longer : (flds t h m d).lookup ("longer" : Str) = some (.ref d) := (look_there (Ne.symm n_tl)).trans ((look_there (Ne.symm n_hl)).trans ((look_there (Ne.symm n_ml)).trans look_here))
theorem f_no {n : Str} (h1 : n ≠ "text") (h2 : n ≠ "here") (h3 : n ≠ "many") (h4 : n ≠ "longer") : (flds t h m d).lookup n = none := (look_there h1).trans ((look_there h2).trans ((look_there h3).trans ((look_there h4).trans rfl)))
theorem p_here (b : Bool) : putF "here" (.bl b) (flds t h m d) = flds t b m d := by
  unfold flds
  rw [putF_there n_th, putF_here]
theorem p_many (k : Nat) : putF "many" (.int (k : Int)) (flds t h m d) = flds t h k d := by
  unfold flds
  rw [putF_there n_tm, putF_there n_hm, putF_here]
theorem p_longer (e : Addr) : putF "longer" (.ref e) (flds t h m d) = flds t h m e := by
  unfold flds
  rw [putF_there n_tl, putF_there n_hl, putF_there n_ml, putF_here]
theorem f_made : putF "longer" (.ref d) (putF "many" (.int 0) (putF "here" (.bl false) (putF "text" (sv t) []))) = flds t false 0 d := by
  show putF "longer" (.ref d) (putF "many" (.int 0) (putF "here" (.bl false) [("text", sv t)])) = _
  rw [putF_there n_th]
  show putF "longer" (.ref d) (putF "many" (.int 0) [("text", sv t), ("here", .bl false)]) = _
  rw [putF_there n_tm, putF_there n_hm]
  show putF "longer" (.ref d) [("text", sv t), ("here", .bl false), ("many", .int 0)] = _
  rw [putF_there n_tl, putF_there n_hl, putF_there n_ml]
  rfl
end
theorem flds_inj {t t' : List Nat} {h h' : Bool} {m m' : Nat} {d d' : Addr} (e : flds t h m d = flds t' h' m' d') : t = t' := by
  unfold flds at e
  have e1 := (List.cons.inj e).1
  have e2 : sv t = sv t' := (Prod.mk.inj e1).2
  have e3 : S t = S t' := by injection e2
  exact S_inj e3
/-- what is kept: all but objects and dicts of the hedge's own -/
def Kp (Z : Addr → Prop) (H H' : Hp) : Prop := ∀ b o, H b = some o → (Z b → (∃ xs, o = .lst xs) ∨ ∃ xs, o = .tup xs) → H' b = some o
theorem Kp.refl (Z : Addr → Prop) (H : Hp) : Kp Z H H := fun _ _ e _ => e
theorem Kp.trans {Z : Addr → Prop} {H H1 H2 : Hp} (a : Kp Z H H1) (b : Kp Z H1 H2) : Kp Z H H2 := fun c o e n => b c o (a c o e n) n
theorem Kp.same {Z : Addr → Prop} {H H' : Hp} (s : Same H H') : Kp Z H H' := fun c o e _ => s c o e
theorem Kp.lst {Z : Addr → Prop} {H H' : Hp} (k : Kp Z H H') {a : Addr} {xs : List V} (e : H a = some (.lst xs)) : H' a = some (.lst xs) := k _ _ e fun _ => .inl ⟨_, rfl⟩
theorem Kp.tup {Z : Addr → Prop} {H H' : Hp} (k : Kp Z H H') {a : Addr} {xs : List V} (e : H a = some (.tup xs)) : H' a = some (.tup xs) := k _ _ e fun _ => .inr ⟨_, rfl⟩
theorem Kp.zone {Z : Addr → Prop} {H H' : Hp} (k : Kp Z H H') (hz : ∀ b, H b = none → Z b) : ∀ b, H' b = none → Z b := fun b e => by
  cases q : H b with
  | none => exact hz b q
  | some o =>
    refine Classical.byContradiction fun n => ?_
    have := k b o q fun z => absurd z n
    rw [e] at this
    cases this
/-- all but one place is kept -/
theorem Kp.but {Z : Addr → Prop} {H H' : Hp} {p : Addr} {u : HO} (e : H p = some u) (hp : Z p) (n1 : ∀ xs, u ≠ .lst xs) (n2 : ∀ xs, u ≠ .tup xs) (k : ∀ b o, H b = some o → b ≠ p → H' b = some o) : Kp Z H H' := fun b o q n => by
  refine k b o q ?_
  rintro rfl
  rw [e] at q
  cases q
  rcases n hp with ⟨xs, z⟩ | ⟨xs, z⟩
  · exact n1 xs z
  · exact n2 xs z
def setN {α : Type} (N : List Nat → α) (u : List Nat) (z : α) : List Nat → α := fun v => if v = u then z else N v
theorem setN_at {α : Type} (N : List Nat → α) (u : List Nat) (z : α) : setN N u z u = z := if_pos rfl
theorem setN_ne {α : Type} (N : List Nat → α) {u v : List Nat} (z : α) (h : v ≠ u) : setN N u z v = N v := if_neg h
theorem ext_ne (u : List Nat) (c : Nat) : u ++ [c] ≠ u := fun h => by
  have := congrArg List.length h
  simp at this
theorem ext_inj {u v : List Nat} {c e : Nat} (h : u ++ [c] = v ++ [e]) : u = v ∧ c = e := by
  have := List.append_inj' h rfl
  exact ⟨this.1, by simpa using this.2⟩
/-- THE INVARIANT: N tells the twigs, hr and mn what they hold -/
structure HedAt (C CH : Addr) (Z : Addr → Prop) (H : Hp) (g : Addr) (N : NM) (hr : List Nat → Bool) (mn : List Nat → Nat) : Prop where
  gt : ∃ dg y, H g = some (.ins CH dg [("root", .ref y.p)]) ∧ N [] = some y
  tw : ∀ t y, N t = some y → H y.p = some (.ins C y.x (flds t (hr t) (mn t) y.d)) ∧ Z y.p ∧ Z y.d ∧ ∃ ks : List Nat, H y.d = some (.dK (kv N t ks)) ∧ ks.Nodup ∧ ∀ c, c ∈ ks ↔ (N (t ++ [c])).isSome = true
  inj : ∀ t t' y y', N t = some y → N t' = some y' → y.d = y'.d → t = t'
  dom : Dom (fun t => (N t).isSome) 110
section
variable {C CH : Addr} {Z : Addr → Prop} {H H' : Hp} {g : Addr} {N : NM} {hr : List Nat → Bool} {mn : List Nat → Nat} {t : List Nat} {y : Tw}
theorem HedAt.same (h : HedAt C CH Z H g N hr mn) (s : Same H H') : HedAt C CH Z H' g N hr mn where
  gt := let ⟨dg, y, e, n⟩ := h.gt; ⟨dg, y, s _ _ e, n⟩
  tw := fun t y e => let ⟨a, b, c, ks, d, f⟩ := h.tw t y e; ⟨s _ _ a, b, c, ks, s _ _ d, f⟩
  inj := h.inj
  dom := h.dom
theorem HedAt.perm (h : HedAt C CH Z H g N hr mn) {ks : List Nat} (nd : ks.Nodup) (m : ∀ c, c ∈ ks ↔ (N (t ++ [c])).isSome = true) : ks.Perm (kidsL (fun t => (N t).isSome) t) :=
  (List.perm_ext_iff_of_nodup nd (kids_nodup _ _)).mpr fun c => by
    rw [mem_kids, m]
    exact ⟨fun z => ⟨h.dom.let_ t c z, z⟩, fun z => z.2⟩
theorem kids_le (ex : List Nat → Bool) (t : List Nat) : (kidsL ex t).length ≤ 26 := by
  have := List.length_filter_le (fun c => ex (t ++ [c])) (List.range' 97 26)
  simpa [kidsL] using this
theorem HedAt.few (h : HedAt C CH Z H g N hr mn) {ks : List Nat} (nd : ks.Nodup) (m : ∀ c, c ∈ ks ↔ (N (t ++ [c])).isSome = true) : ks.length ≤ 26 := by
  rw [(h.perm nd m).length_eq]
  exact kids_le _ _
theorem HedAt.gne (h : HedAt C CH Z H g N hr mn) (ht : N t = some y) : g ≠ y.p := by
  obtain ⟨dg, y0, e, _⟩ := h.gt
  have e2 := (h.tw t y ht).1
  intro z
  rw [z, e2] at e
  have e3 := HO.ins.inj (Option.some.inj e)
  have := congrArg List.length e3.2.2
  simp [flds] at this
theorem HedAt.pne (h : HedAt C CH Z H g N hr mn) {t' : List Nat} {y' : Tw} (ht : N t = some y) (ht' : N t' = some y') (n : t' ≠ t) : y'.p ≠ y.p := by
  have e1 := (h.tw t y ht).1
  have e2 := (h.tw t' y' ht').1
  intro z
  rw [z, e1] at e2
  have e3 := HO.ins.inj (Option.some.inj e2)
  exact n (flds_inj e3.2.2).symm
theorem HedAt.dne (h : HedAt C CH Z H g N hr mn) {t' : List Nat} {y' : Tw} (ht : N t = some y) (ht' : N t' = some y') : y'.d ≠ y.p := by
  have e1 := (h.tw t y ht).1
  obtain ⟨_, _, _, ks, e2, _⟩ := h.tw t' y' ht'
  intro z
  rw [z, e1] at e2
  cases e2
/-- a new twig -/
theorem HedAt.grow (h : HedAt C CH Z H g N hr mn) {c : Nat} {z : Tw} {ks : List Nat} (ht : N t = some y) (hc : 97 ≤ c ∧ c ≤ 122) (hl : t.length < 110) (hn : N (t ++ [c]) = none)
    (hk : H y.d = some (.dK (kv N t ks))) (nd : ks.Nodup) (hm : ∀ c, c ∈ ks ↔ (N (t ++ [c])).isSome = true)
    (h1 : H' z.p = some (.ins C z.x (flds (t ++ [c]) false 0 z.d))) (h2 : H' z.d = some (.dK [])) (h3 : H' y.d = some (.dK (putK (kv N t ks) (key c) (.ref z.p)))) (kp : ∀ b o, H b = some o → b ≠ y.d → H' b = some o) (z1 : Z z.p) (z2 : Z z.d) (zn : H z.d = none) :
    HedAt C CH Z H' g (setN N (t ++ [c]) (some z)) (setN hr (t ++ [c]) false) (setN mn (t ++ [c]) 0) := by
  have hcn : c ∉ ks := fun q => by
    have := (hm c).mp q
    rw [hn] at this
    cases this
  have yd := (h.tw t y ht).1
  have up : ∀ v e, N (v ++ [e]) ≠ none → N v ≠ none := fun v e q r => by
    have := h.dom.up v e (by cases s : N (v ++ [e]) with | none => exact absurd s q | some _ => rfl)
    rw [r] at this
    cases this
  refine ⟨?_, fun v w hv => ?_, fun v v' w w' hv hv' e => ?_, ⟨fun u e q => ?_, fun u e q => ?_, fun u q => ?_⟩⟩
  · obtain ⟨dg, y0, e, n⟩ := h.gt
    refine ⟨dg, y0, kp _ _ e (ne_of e hk (by intro q; cases q)), ?_⟩
    rw [setN_ne _ _ (by simp)]
    exact n
  · by_cases e : v = t ++ [c]
    · subst e
      rw [setN_at] at hv
      cases hv
      rw [setN_at, setN_at]
      refine ⟨h1, z1, z2, [], h2, List.nodup_nil, fun e => ?_⟩
      rw [setN_ne _ _ (fun q => ext_ne _ _ q)]
      have : N (t ++ [c] ++ [e]) = none := by
        cases s : N (t ++ [c] ++ [e]) with
        | none => rfl
        | some _ => exact absurd hn (up _ e (by rw [s]; exact fun q => nomatch q))
      rw [this]
      simp
    · rw [setN_ne _ _ e] at hv
      rw [setN_ne _ _ e, setN_ne _ _ e]
      obtain ⟨a1, a2, a3, ks', a4, a5, a6⟩ := h.tw v w hv
      have np : w.p ≠ y.d := ne_of a1 hk (by intro q; cases q)
      by_cases e2 : v = t
      · subst e2
        rw [ht] at hv
        cases hv
        rw [hk] at a4
        refine ⟨kp _ _ a1 np, a2, a3, ks ++ [c], ?_, ?_, fun e => ?_⟩
        · rw [h3, kv_put hcn]
          show _ = some (HO.dK ((ks ++ [c]).map _))
          rw [List.map_append]
          show some (HO.dK (kv N v ks ++ [(key c, V.ref z.p)])) = some (HO.dK (kv (setN N (v ++ [c]) (some z)) v ks ++ [(key c, A (setN N (v ++ [c]) (some z)) (v ++ [c]))]))
          rw [A_some (setN_at N (v ++ [c]) (some z))]
          rw [kv_congr (N' := setN N (v ++ [c]) (some z)) fun e he => by
            unfold A
            rw [setN_ne N (some z) (show v ++ [e] ≠ v ++ [c] from fun q => hcn (by rw [← (ext_inj q).2]; exact he))]]
        · rw [List.nodup_append]
          refine ⟨nd, by simp, fun a ha b hb => ?_⟩
          rw [List.mem_singleton.mp hb]
          rintro rfl
          exact hcn ha
        · rw [List.mem_append, List.mem_singleton]
          by_cases e3 : e = c
          · subst e3
            rw [setN_at]
            simp
          · rw [setN_ne _ _ (fun q => e3 (ext_inj q).2), hm e]
            exact ⟨fun z => z.elim id fun z => absurd z e3, .inl⟩
      · have nd' : w.d ≠ y.d := fun q => e2 (h.inj v t w y hv ht q)
        refine ⟨kp _ _ a1 np, a2, a3, ks', ?_, a5, fun e => ?_⟩
        · rw [kp _ _ a4 nd']
          rw [kv_congr (N' := setN N (t ++ [c]) (some z)) fun e he => by
            unfold A
            rw [setN_ne N (some z) (show v ++ [e] ≠ t ++ [c] from fun q => e2 (ext_inj q).1)]]
        · rw [setN_ne _ _ (fun q => e2 (ext_inj q).1)]
          exact a6 e
  · by_cases e1 : v = t ++ [c]
    · by_cases e2 : v' = t ++ [c]
      · rw [e1, e2]
      · subst e1
        rw [setN_at] at hv
        rw [setN_ne _ _ e2] at hv'
        cases hv
        obtain ⟨_, _, _, ks', a4, _⟩ := h.tw v' w' hv'
        rw [← e, zn] at a4
        cases a4
    · rw [setN_ne _ _ e1] at hv
      by_cases e2 : v' = t ++ [c]
      · subst e2
        rw [setN_at] at hv'
        cases hv'
        obtain ⟨_, _, _, ks', a4, _⟩ := h.tw v w hv
        rw [e, zn] at a4
        cases a4
      · rw [setN_ne _ _ e2] at hv'
        exact h.inj v v' w w' hv hv' e
  · by_cases e1 : u = t ++ [c]
    · show (setN N (t ++ [c]) (some z) u).isSome = true
      rw [e1, setN_at]
      rfl
    · show (setN N (t ++ [c]) (some z) u).isSome = true
      rw [setN_ne _ _ e1]
      by_cases e2 : u ++ [e] = t ++ [c]
      · rw [(ext_inj e2).1, ht]
        rfl
      · have q' : (setN N (t ++ [c]) (some z) (u ++ [e])).isSome = true := q
        rw [setN_ne _ _ e2] at q'
        exact h.dom.up u e q'
  · by_cases e2 : u ++ [e] = t ++ [c]
    · rw [(ext_inj e2).2]
      exact hc
    · have q' : (setN N (t ++ [c]) (some z) (u ++ [e])).isSome = true := q
      rw [setN_ne _ _ e2] at q'
      exact h.dom.let_ u e q'
  · by_cases e1 : u = t ++ [c]
    · rw [e1, List.length_append]
      simp
      omega
    · have q' : (setN N (t ++ [c]) (some z) u).isSome = true := q
      rw [setN_ne _ _ e1] at q'
      exact h.dom.len u q'
/-- what a twig holds is changed -/
theorem HedAt.mark (h : HedAt C CH Z H g N hr mn) {b : Bool} {m : Nat} (ht : N t = some y) : HedAt C CH Z (upd H y.p (.ins C y.x (flds t b m y.d))) g N (setN hr t b) (setN mn t m) := by
  have yd := (h.tw t y ht).1
  refine ⟨?_, fun v w hv => ?_, h.inj, h.dom⟩
  · obtain ⟨dg, y0, e, n⟩ := h.gt
    exact ⟨dg, y0, by rw [upd_ne (h.gne ht)]; exact e, n⟩
  · obtain ⟨a1, a2, a3, ks', a4, a5⟩ := h.tw v w hv
    refine ⟨?_, a2, a3, ks', by rw [upd_ne (h.dne ht hv)]; exact a4, a5⟩
    by_cases e : v = t
    · subst e
      rw [ht] at hv
      cases hv
      rw [setN_at, setN_at, upd_same]
    · rw [setN_ne _ _ e, setN_ne _ _ e, upd_ne (h.pne ht hv e)]
      exact a1
def dropN (N : NM) (t : List Nat) (mn : List Nat → Nat) (z : Tw) : NM := fun v => if v = t then some z else if v.dropLast = t ∧ v ≠ [] ∧ mn v = 0 then none else N v
theorem dropN_at (N : NM) (t : List Nat) (mn : List Nat → Nat) (z : Tw) : dropN N t mn z t = some z := if_pos rfl
theorem dropN_kid (N : NM) (t : List Nat) (mn : List Nat → Nat) (z : Tw) (c : Nat) : dropN N t mn z (t ++ [c]) = if mn (t ++ [c]) = 0 then none else N (t ++ [c]) := by
  unfold dropN
  rw [if_neg (ext_ne t c)]
  by_cases e : mn (t ++ [c]) = 0
  · rw [if_pos e, if_pos ⟨by simp, by simp, e⟩]
  · rw [if_neg e, if_neg fun q => e q.2.2]
theorem dropN_else (N : NM) (t : List Nat) (mn : List Nat → Nat) (z : Tw) {v : List Nat} (h1 : v ≠ t) (h2 : ∀ c, v ≠ t ++ [c]) : dropN N t mn z v = N v := by
  unfold dropN
  rw [if_neg h1, if_neg]
  rintro ⟨q1, q2, _⟩
  refine h2 (v.getLast q2) ?_
  rw [← q1]
  exact (List.dropLast_concat_getLast q2).symm
theorem dropN_some {N : NM} {mn : List Nat → Nat} {z w : Tw} {v : List Nat} (h : dropN N t mn z v = some w) : (v = t ∧ w = z) ∨ (v ≠ t ∧ N v = some w ∧ ∀ c, v = t ++ [c] → mn v ≠ 0) := by
  by_cases e : v = t
  · subst e
    rw [dropN_at] at h
    exact .inl ⟨rfl, (Option.some.inj h).symm⟩
  · right
    by_cases k : ∃ c, v = t ++ [c]
    · obtain ⟨c, rfl⟩ := k
      rw [dropN_kid] at h
      by_cases e2 : mn (t ++ [c]) = 0
      · rw [if_pos e2] at h
        cases h
      · rw [if_neg e2] at h
        exact ⟨e, h, fun _ _ => e2⟩
    · rw [dropN_else N t mn z e fun c q => k ⟨c, q⟩] at h
      exact ⟨e, h, fun c q => absurd ⟨c, q⟩ k⟩
/-- a twig settled -/
theorem HedAt.settle (h : HedAt C CH Z H g N hr mn) {d' : Addr} {ks : List Nat} {m : Nat} (ht : N t = some y) (hk : H y.d = some (.dK (kv N t ks))) (nd : ks.Nodup) (hm : ∀ c, c ∈ ks ↔ (N (t ++ [c])).isSome = true)
    (h1 : H' y.p = some (.ins C y.x (flds t (hr t) m d'))) (h2 : H' d' = some (.dK (kv N t (ks.filter fun c => decide (0 < mn (t ++ [c])))))) (kp : ∀ b o, H b = some o → b ≠ y.p → H' b = some o) (zd : Z d') (dn : H d' = none)
    (hno : ∀ c, (N (t ++ [c])).isSome = true → mn (t ++ [c]) = 0 → ∀ e, N (t ++ [c] ++ [e]) = none) :
    HedAt C CH Z H' g (dropN N t mn { y with d := d' }) hr (setN mn t m) := by
  have yd := h.tw t y ht
  have same : ∀ v, (∀ c, v ≠ t ++ [c]) → A (dropN N t mn { y with d := d' }) v = A N v := fun v hv => by
    by_cases e : v = t
    · subst e
      rw [A_some (dropN_at ..), A_some ht]
    · unfold A
      rw [dropN_else N t mn _ e hv]
  refine ⟨?_, fun v w hv => ?_, fun v v' w w' hv hv' e => ?_, ⟨fun u e q => ?_, fun u e q => ?_, fun u q => ?_⟩⟩
  · obtain ⟨dg, y0, e, n⟩ := h.gt
    by_cases e0 : t = []
    · subst e0
      rw [ht] at n
      cases n
      exact ⟨dg, { y with d := d' }, kp _ _ e (h.gne ht), dropN_at ..⟩
    · refine ⟨dg, y0, kp _ _ e (h.gne ht), ?_⟩
      rw [dropN_else N t mn _ (fun q => e0 q.symm) (by simp)]
      exact n
  · rcases dropN_some hv with ⟨rfl, rfl⟩ | ⟨e, hv', hz⟩
    · rw [setN_at]
      refine ⟨h1, yd.2.1, zd, ks.filter fun c => decide (0 < mn (v ++ [c])), ?_, nd.filter _, fun c => ?_⟩
      · rw [h2]
        rw [kv_congr (N' := dropN N v mn { y with d := d' }) fun c hc => by
          have hc' := of_decide_eq_true (List.mem_filter.mp hc).2
          unfold A
          rw [dropN_kid, if_neg (by omega)]]
      · rw [List.mem_filter, hm, dropN_kid, decide_eq_true_eq]
        by_cases e2 : mn (v ++ [c]) = 0
        · rw [if_pos e2]
          exact ⟨fun q => by omega, fun q => by cases q⟩
        · rw [if_neg e2]
          exact ⟨fun q => q.1, fun q => ⟨q, by omega⟩⟩
    · rw [setN_ne _ _ e]
      obtain ⟨a1, a2, a3, ks', a4, a5, a6⟩ := h.tw v w hv'
      refine ⟨kp _ _ a1 (h.pne ht hv' e), a2, a3, ks', ?_, a5, fun c => ?_⟩
      · rw [kp _ _ a4 (h.dne ht hv')]
        rw [kv_congr (N' := dropN N t mn { y with d := d' }) fun c hc => (same _ fun c' q => e (ext_inj q).1).symm]
      · rw [a6]
        by_cases e2 : v ++ [c] = t
        · rw [e2, dropN_at, ht]
          rfl
        · rw [dropN_else N t mn _ e2 fun c' q => e (ext_inj q).1]
  · rcases dropN_some hv with ⟨rfl, rfl⟩ | ⟨e1, hv1, _⟩
    · rcases dropN_some hv' with ⟨rfl, rfl⟩ | ⟨e2, hv2, _⟩
      · rfl
      · obtain ⟨_, _, _, ks', a4, _⟩ := h.tw v' w' hv2
        have e' : d' = w'.d := e
        rw [← e', dn] at a4
        cases a4
    · rcases dropN_some hv' with ⟨rfl, rfl⟩ | ⟨e2, hv2, _⟩
      · obtain ⟨_, _, _, ks', a4, _⟩ := h.tw v w hv1
        have e' : w.d = d' := e
        rw [e', dn] at a4
        cases a4
      · exact h.inj v v' w w' hv1 hv2 e
  · have q' : (dropN N t mn { y with d := d' } (u ++ [e])).isSome = true := q
    obtain ⟨w, hw⟩ := Option.isSome_iff_exists.mp q'
    show (dropN N t mn { y with d := d' } u).isSome = true
    by_cases e1 : u = t
    · rw [e1, dropN_at]
      rfl
    · have hN : N (u ++ [e]) ≠ none := by
        rcases dropN_some hw with ⟨r, _⟩ | ⟨_, r, _⟩
        · rw [r, ht]
          exact fun z => nomatch z
        · rw [r]
          exact fun z => nomatch z
      have hu : (N u).isSome = true := h.dom.up u e (by cases s : N (u ++ [e]) with | none => exact absurd s hN | some _ => rfl)
      by_cases k : ∃ c, u = t ++ [c]
      · obtain ⟨c, rfl⟩ := k
        rw [dropN_kid]
        by_cases e2 : mn (t ++ [c]) = 0
        · exact absurd (hno c hu e2 e) hN
        · rw [if_neg e2]
          exact hu
      · rw [dropN_else N t mn _ e1 fun c r => k ⟨c, r⟩]
        exact hu
  · have q' : (dropN N t mn { y with d := d' } (u ++ [e])).isSome = true := q
    obtain ⟨w, hw⟩ := Option.isSome_iff_exists.mp q'
    refine h.dom.let_ u e ?_
    rcases dropN_some hw with ⟨r, _⟩ | ⟨_, r, _⟩
    · show (N (u ++ [e])).isSome = true
      rw [r, ht]
      rfl
    · show (N (u ++ [e])).isSome = true
      rw [r]
      rfl
  · have q' : (dropN N t mn { y with d := d' } u).isSome = true := q
    obtain ⟨w, hw⟩ := Option.isSome_iff_exists.mp q'
    refine h.dom.len u ?_
    rcases dropN_some hw with ⟨r, _⟩ | ⟨_, r, _⟩
    · show (N u).isSome = true
      rw [r, ht]
      rfl
    · show (N u).isSome = true
      rw [r]
      rfl
end
/-- the hedge of a day, with the words W -/
structure DayAt (C CH : Addr) (Z : Addr → Prop) (H : Hp) (g : Addr) (W : List (List Nat)) : Prop where
  hed : ∃ N : NM, HedAt C CH Z H g N (fun t => decide (t ∈ W)) (cnt W) ∧ ∀ t, (N t).isSome = true ↔ t = [] ∨ 0 < cnt W t
  nd : W.Nodup
  wd : ∀ w ∈ W, Letters w ∧ w.length ≤ 110
end WH

set_option Elab.async false
set_option linter.all false
set_option maxRecDepth 100000
set_option maxHeartbeats 4000000
/-! Settling a path. -/
namespace WH
open PySem L2
/-- W1: the words whose twigs are there; Wn: the words from now on; they differ by w alone -/
structure Sett (W1 Wn : List (List Nat)) (w : List Nat) : Prop where
  off : ∀ t, ¬ t <+: w → cnt W1 t = cnt Wn t
  le : ∀ t, cnt Wn t ≤ cnt W1 t
  mem : ∀ t, t <+: w → 0 < cnt W1 t
  nd : Wn.Nodup
def mnK (Wn : List (List Nat)) (w : List Nat) (st : List Nat → Nat) (k : Nat) : List Nat → Nat := fun t => if t <+: w ∧ t.length < k then st t else cnt Wn t
def DomK (W1 Wn : List (List Nat)) (w : List Nat) (k : Nat) (t : List Nat) : Prop := t = [] ∨ (0 < cnt W1 t ∧ ¬ (t <+: w ∧ k < t.length ∧ cnt Wn t = 0))
theorem cnt_ext_le (W : List (List Nat)) (t r : List Nat) : cnt W (t ++ r) ≤ cnt W t := by
  induction W with
  | nil => exact Nat.le_refl _
  | cons w W ih =>
    rw [cnt_cons, cnt_cons]
    have : ind ((t ++ r).isPrefixOf w) ≤ ind (t.isPrefixOf w) := by
      unfold ind
      by_cases h : (t ++ r).isPrefixOf w = true
      · obtain ⟨s, rfl⟩ := List.isPrefixOf_iff_prefix.mp h
        rw [List.append_assoc, pre_self, if_pos rfl]
        split <;> omega
      · rw [if_neg h]
        omega
    omega
theorem count_ind {W : List (List Nat)} (h : W.Nodup) (t : List Nat) : W.count t = ind (decide (t ∈ W)) := by
  unfold ind
  by_cases m : t ∈ W
  · rw [decide_eq_true m, if_pos rfl]
    have h1 : 0 < W.count t := List.count_pos_iff.mpr m
    have h2 : W.count t ≤ 1 := List.nodup_iff_count.mp h t
    omega
  · rw [decide_eq_false m, if_neg (by decide), List.count_eq_zero.mpr m]
theorem take_pre (w : List Nat) (k : Nat) : w.take k <+: w := List.take_prefix k w
theorem pre_eq_take {t w : List Nat} (h : t <+: w) : t = w.take t.length := List.prefix_iff_eq_take.mp h
theorem take_succ' {w : List Nat} {k : Nat} (h : k < w.length) : w.take (k + 1) = w.take k ++ [w[k]] := by
  rw [List.take_succ, List.getElem?_eq_getElem h]
  rfl
section
variable {C CH : Addr} {Z : Addr → Prop} {H H' : Hp} {g : Addr} {N : NM} {W1 Wn : List (List Nat)} {w : List Nat} {st : List Nat → Nat} {k : Nat} {y : Tw}
theorem settle_sum (S : Sett W1 Wn w) (D : ∀ t, (N t).isSome = true ↔ DomK W1 Wn w (k + 1) t) (hk : k ≤ w.length) {ks : List Nat} (nd : ks.Nodup) (hm : ∀ c, c ∈ ks ↔ (N (w.take k ++ [c])).isSome = true) :
    ind (decide (w.take k ∈ Wn)) + ((ks.filter fun c => decide (0 < mnK Wn w st (k + 1) (w.take k ++ [c]))).map fun c => mnK Wn w st (k + 1) (w.take k ++ [c])).sum = cnt Wn (w.take k) := by
  have e : ∀ c, mnK Wn w st (k + 1) (w.take k ++ [c]) = cnt Wn (w.take k ++ [c]) := fun c => by
    unfold mnK
    rw [if_neg]
    rintro ⟨_, h⟩
    rw [List.length_append, List.length_take] at h
    simp at h
    omega
  simp only [e]
  rw [cnt_split (W := Wn) (t := w.take k) (ks := ks.filter fun c => decide (0 < cnt Wn (w.take k ++ [c]))) (nd.filter _) fun v hv c hc => ?_, count_ind S.nd]
  have hp : 0 < cnt Wn (w.take k ++ [c]) := cnt_pos.mpr ⟨v, hv, List.isPrefixOf_iff_prefix.mp hc⟩
  refine List.mem_filter.mpr ⟨(hm c).mpr ((D _).mpr (.inr ⟨Nat.lt_of_lt_of_le hp (S.le _), fun q => by omega⟩)), decide_eq_true hp⟩
/-- one twig of the path is settled -/
theorem settle_step (S : Sett W1 Wn w) (h : HedAt C CH Z H g N (fun t => decide (t ∈ Wn)) (mnK Wn w st (k + 1))) (D : ∀ t, (N t).isSome = true ↔ DomK W1 Wn w (k + 1) t) (hk : k ≤ w.length) {d' : Addr} {ks : List Nat}
    (ht : N (w.take k) = some y) (hkv : H y.d = some (.dK (kv N (w.take k) ks))) (nd : ks.Nodup) (hm : ∀ c, c ∈ ks ↔ (N (w.take k ++ [c])).isSome = true)
    (h1 : H' y.p = some (.ins C y.x (flds (w.take k) (decide (w.take k ∈ Wn)) (ind (decide (w.take k ∈ Wn)) + ((ks.filter fun c => decide (0 < mnK Wn w st (k + 1) (w.take k ++ [c]))).map fun c => mnK Wn w st (k + 1) (w.take k ++ [c])).sum) d')))
    (h2 : H' d' = some (.dK (kv N (w.take k) (ks.filter fun c => decide (0 < mnK Wn w st (k + 1) (w.take k ++ [c])))))) (kp : ∀ b o, H b = some o → b ≠ y.p → H' b = some o) (zd : Z d') (dn : H d' = none) :
    ∃ N' : NM, HedAt C CH Z H' g N' (fun t => decide (t ∈ Wn)) (mnK Wn w st k) ∧ (∀ t, (N' t).isSome = true ↔ DomK W1 Wn w k t) ∧ ∀ j, j < k → N' (w.take j) = N (w.take j) := by
  have hlen : (w.take k).length = k := by rw [List.length_take]; omega
  have ek : ∀ c, mnK Wn w st (k + 1) (w.take k ++ [c]) = cnt Wn (w.take k ++ [c]) := fun c => by
    unfold mnK
    rw [if_neg]
    rintro ⟨_, h⟩
    rw [List.length_append, hlen] at h
    simp at h
  rw [settle_sum S D hk nd hm] at h1
  have hno : ∀ c, (N (w.take k ++ [c])).isSome = true → mnK Wn w st (k + 1) (w.take k ++ [c]) = 0 → ∀ e, N (w.take k ++ [c] ++ [e]) = none := fun c _ h0 e => by
    rw [ek] at h0
    have hz : cnt Wn (w.take k ++ [c] ++ [e]) = 0 := by
      have := cnt_ext_le Wn (w.take k ++ [c]) [e]
      omega
    cases q : N (w.take k ++ [c] ++ [e]) with
    | none => rfl
    | some _ =>
      exfalso
      rcases (D _).mp (by rw [q]; rfl) with z | ⟨z1, z2⟩
      · simp at z
      · by_cases hp : w.take k ++ [c] ++ [e] <+: w
        · refine z2 ⟨hp, ?_, hz⟩
          rw [List.length_append, List.length_append, hlen]
          simp
        · rw [S.off _ hp] at z1
          omega
  have R := h.settle ht hkv nd hm h1 h2 kp zd dn hno
  have em : setN (mnK Wn w st (k + 1)) (w.take k) (cnt Wn (w.take k)) = mnK Wn w st k := by
    funext v
    by_cases e : v = w.take k
    · rw [e, setN_at]
      unfold mnK
      rw [if_neg (by rw [hlen]; exact fun q => Nat.lt_irrefl _ q.2)]
    · rw [setN_ne _ _ e]
      unfold mnK
      by_cases q : v <+: w ∧ v.length < k
      · rw [if_pos q, if_pos ⟨q.1, by omega⟩]
      · rw [if_neg q, if_neg]
        rintro ⟨q1, q2⟩
        have : v.length = k := by
          rcases Nat.lt_or_ge v.length k with z | z
          · exact absurd ⟨q1, z⟩ q
          · omega
        exact e (by rw [pre_eq_take q1, this])
  rw [em] at R
  refine ⟨_, R, fun v => ?_, fun j hj => ?_⟩
  · by_cases e : v = w.take k
    · rw [e, dropN_at]
      refine ⟨fun _ => .inr ⟨S.mem _ (take_pre w k), fun q => ?_⟩, fun _ => rfl⟩
      rw [hlen] at q
      omega
    · by_cases c : ∃ c, v = w.take k ++ [c]
      · obtain ⟨c, rfl⟩ := c
        rw [dropN_kid, ek]
        have hl : (w.take k ++ [c]).length = k + 1 := by rw [List.length_append, hlen]; rfl
        by_cases z : cnt Wn (w.take k ++ [c]) = 0
        · rw [if_pos z]
          refine ⟨fun q => by simp at q, fun q => ?_⟩
          rcases q with q | ⟨q1, q2⟩
          · simp at q
          · exfalso
            by_cases hp : w.take k ++ [c] <+: w
            · exact q2 ⟨hp, by omega, z⟩
            · rw [S.off _ hp] at q1
              omega
        · rw [if_neg z, D]
          exact ⟨fun q => q.elim .inl fun q => .inr ⟨q.1, fun r => z r.2.2⟩, fun q => q.elim .inl fun q => .inr ⟨q.1, fun r => z r.2.2⟩⟩
      · rw [dropN_else _ _ _ _ e fun c' q => c ⟨c', q⟩, D]
        refine ⟨fun q => q.elim .inl fun q => .inr ⟨q.1, fun r => ?_⟩, fun q => q.elim .inl fun q => .inr ⟨q.1, fun r => q.2 ⟨r.1, by omega, r.2.2⟩⟩⟩
        rcases Nat.lt_or_ge (k + 1) v.length with z | z
        · exact q.2 ⟨r.1, z, r.2.2⟩
        · have hv : v.length = k + 1 := by omega
          have hkl : k < w.length := by
            have := r.1.length_le
            omega
          refine c ⟨w[k], ?_⟩
          rw [pre_eq_take r.1, hv, take_succ' hkl]
  · have hjl : (w.take j).length = j := by rw [List.length_take]; omega
    refine dropN_else _ _ _ _ (fun q => ?_) fun c q => ?_
    · have := congrArg List.length q
      rw [hjl, hlen] at this
      omega
    · have := congrArg List.length q
      rw [hjl, List.length_append, hlen] at this
      simp at this
      omega
theorem settle_end (S : Sett W1 Wn w) (h : HedAt C CH Z H g N (fun t => decide (t ∈ Wn)) (mnK Wn w st 0)) (D : ∀ t, (N t).isSome = true ↔ DomK W1 Wn w 0 t) :
    HedAt C CH Z H g N (fun t => decide (t ∈ Wn)) (cnt Wn) ∧ ∀ t, (N t).isSome = true ↔ t = [] ∨ 0 < cnt Wn t := by
  have em : mnK Wn w st 0 = cnt Wn := by
    funext v
    unfold mnK
    rw [if_neg fun q => Nat.not_lt_zero _ q.2]
  rw [em] at h
  refine ⟨h, fun t => (D t).trans ⟨fun q => q.elim .inl fun ⟨q1, q2⟩ => ?_, fun q => q.elim .inl fun q => .inr ⟨Nat.lt_of_lt_of_le q (S.le t), fun r => by omega⟩⟩⟩
  by_cases e : t = []
  · exact .inl e
  · right
    by_cases hp : t <+: w
    · rcases Nat.eq_zero_or_pos (cnt Wn t) with z | z
      · exact absurd ⟨hp, List.length_pos_iff.mpr e, z⟩ q2
      · exact z
    · rw [← S.off t hp]
      exact q1
end
theorem ind_pre {t w : List Nat} (h : ¬ t <+: w) : ind (t.isPrefixOf w) = 0 := by
  unfold ind
  rw [if_neg fun q => h (List.isPrefixOf_iff_prefix.mp q)]
theorem ind_pre1 {t w : List Nat} (h : t <+: w) : ind (t.isPrefixOf w) = 1 := by
  unfold ind
  rw [if_pos (List.isPrefixOf_iff_prefix.mpr h)]
theorem cnt_one (w t : List Nat) : cnt [w] t = ind (t.isPrefixOf w) := by rw [cnt_cons]; rfl
theorem sett_put {W : List (List Nat)} {w : List Nat} (nd : W.Nodup) (h : w ∉ W) : Sett (W ++ [w]) (W ++ [w]) w where
  off := fun _ _ => rfl
  le := fun _ => Nat.le_refl _
  mem := fun t ht => by
    rw [cnt_app, cnt_one, ind_pre1 ht]
    omega
  nd := by
    rw [List.nodup_append]
    refine ⟨nd, by simp, fun a ha b hb => ?_⟩
    rw [List.mem_singleton.mp hb]
    rintro rfl
    exact h ha
theorem sett_take {W : List (List Nat)} {w : List Nat} (nd : W.Nodup) (h : w ∈ W) : Sett W (W.erase w) w where
  off := fun t ht => by
    rw [cnt_erase h t, ind_pre ht, Nat.zero_add]
  le := fun t => by
    rw [cnt_erase h t]
    omega
  mem := fun t ht => cnt_pos.mpr ⟨w, h, ht⟩
  nd := nd.erase w
end WH

set_option Elab.async false
set_option linter.all false
set_option maxRecDepth 100000
set_option maxHeartbeats 4000000
/-! The day: what its defs promise. -/
namespace WH
open PySem L2
/-- what answers is to be handed: deeds of certain kinds -/
def spAnswersF (F : Deed → Prop) (K : PySem.W.Frag) : Sp := fun vs H Q _ => ∃ (a : Addr) (ps : List Addr) (ds : List Deed), vs = [.ref a] ∧ H a = some (.lst (ps.map V.ref)) ∧ DeedsAt H ps ds ∧ (∀ d ∈ ds, F d) ∧ ds.length ≤ 450 ∧
  ∀ (r : Addr) (us : List V) (H' : Hp), H r = none → H' r = some (.lst us) → AnswersAt H' us (run [] ds) → Same H H' → Q (.ref r) H'
def Fine3 (d : Deed) : Prop := ∃ w, (d = .put w ∨ d = .take w ∨ d = .has w) ∧ Letters w ∧ w.length ≤ 110
theorem Made.fine3 {d : Deed} (h : Made d) : Fine3 d := by
  obtain ⟨w, e, h1, h2⟩ := h
  exact ⟨w, e, h1, by omega⟩
def spDo (F : Deed → Prop) (C CH : Addr) : Sp := fun vs H Q _ => ∃ (Z : Addr → Prop) (g : Addr) (W : List (List Nat)) (p : Addr) (d : Deed), vs = [.ref g, .ref p] ∧ DayAt C CH Z H g W ∧ (∀ b, H b = none → Z b) ∧ DeedAt H p d ∧ F d ∧ W.length ≤ 450 ∧
  ∀ v H', AnsAt H' v (ans W d) → (∀ q, v = .ref q → H q = none) → DayAt C CH Z H' g (stepW W d) → Kp Z H H' → Q v H'
def spAll (F : Deed → Prop) (C CH : Addr) : Sp := fun vs H Q _ => ∃ (Z : Addr → Prop) (g a : Addr) (ps : List Addr) (ds : List Deed), vs = [.ref g, .ref a] ∧ DayAt C CH Z H g [] ∧ (∀ b, H b = none → Z b) ∧ H a = some (.lst (ps.map V.ref)) ∧ DeedsAt H ps ds ∧ (∀ d ∈ ds, F d) ∧ ds.length ≤ 450 ∧
  ∀ r us H', H r = none → H' r = some (.lst us) → AnswersAt H' us (run [] ds) → DayAt C CH Z H' g (after [] ds) → Kp Z H H' → Q (.ref r) H'
theorem run_snoc : ∀ (W : List (List Nat)) (ds : List Deed) (d : Deed), run W (ds ++ [d]) = run W ds ++ [ans (after W ds) d]
  | _, [], _ => rfl
  | W, e :: ds, d => by
    show ans W e :: run (stepW W e) (ds ++ [d]) = ans W e :: (run (stepW W e) ds ++ _)
    rw [run_snoc (stepW W e) ds d]
    rfl
theorem AnsAt.kp {Z : Addr → Prop} {H H' : Hp} (h : Kp Z H H') {v : V} : ∀ {a : Ans}, AnsAt H v a → AnsAt H' v a
  | .bool _, q => q
  | .words _, ⟨p, e, q⟩ => ⟨p, e, h.lst q⟩
  | .opt none, q => q
  | .opt (some _), q => q
  | .num _, q => q
theorem AnsAt.upd {H : Hp} {r : Addr} {o : HO} {v : V} (n : v ≠ .ref r) : ∀ {a : Ans}, AnsAt H v a → AnsAt (upd H r o) v a
  | .bool _, q => q
  | .words _, ⟨p, e, q⟩ => ⟨p, e, by rw [upd_ne (fun z => n (by rw [e, z]))]; exact q⟩
  | .opt none, q => q
  | .opt (some _), q => q
  | .num _, q => q
theorem answers_upd {H : Hp} {r : Addr} {o : HO} : ∀ {us : List V} {as : List Ans}, AnswersAt H us as → (∀ v ∈ us, v ≠ .ref r) → AnswersAt (upd H r o) us as
  | _, _, .nil, _ => .nil
  | _, _, .cons q t, n => .cons (q.upd (n _ (List.mem_cons_self ..))) (answers_upd t fun v hv => n v (List.mem_cons_of_mem _ hv))
theorem DeedsAt.kp {Z : Addr → Prop} {H H' : Hp} (h : Kp Z H H') {ps : List Addr} {ds : List Deed} (q : DeedsAt H ps ds) : DeedsAt H' ps ds := Paired.mapP q fun _ _ z => h.tup z
/-- what isn't of the hedge may be laid or changed -/
theorem DayAt.keep {C CH : Addr} {Z : Addr → Prop} {H H' : Hp} {g : Addr} {W : List (List Nat)} (h : DayAt C CH Z H g W) (k : ∀ b o, H b = some o → (∀ xs, o ≠ .lst xs) → H' b = some o) : DayAt C CH Z H' g W := by
  obtain ⟨⟨N, hA, hD⟩, nd, wd⟩ := h
  refine ⟨⟨N, ⟨?_, fun t x hx => ?_, hA.inj, hA.dom⟩, hD⟩, nd, wd⟩
  · obtain ⟨dg', y', q1, q2⟩ := hA.gt
    exact ⟨dg', y', k _ _ q1 (by intro _ z; cases z), q2⟩
  · obtain ⟨q1, q2, q3, ks', q4, q5⟩ := hA.tw t x hx
    exact ⟨k _ _ q1 (by intro _ z; cases z), q2, q3, ks', k _ _ q4 (by intro _ z; cases z), q5⟩
theorem iteD0 {b : Bool} {A B : Prop} (e : b = false) (h : B) : if b = true then A else B := by
  subst e
  exact iteF h
theorem iteD1 {b : Bool} {A B : Prop} (e : b = true) (h : A) : if b = true then A else B := by
  subst e
  exact iteT h
end WH

set_option Elab.async false
set_option linter.all false
set_option maxRecDepth 100000
set_option maxHeartbeats 4000000
/-! What a hedge tells. -/
namespace WH
open PySem L2
def optV : Option (List Nat) → V
  | none => .non
  | some w => sv w
theorem optV_at (H : Hp) : ∀ o : Option (List Nat), AnsAt H (optV o) (.opt o)
  | none => rfl
  | some _ => rfl
theorem optV_no (o : Option (List Nat)) (q : Addr) : optV o ≠ .ref q := by
  cases o <;> exact fun z => nomatch z
theorem longest_eq {W : List (List Nat)} {t : List Nat} {j : Nat} (h : t.take j ∈ W) (hj : j ≤ t.length) (hm : ∀ i, j < i → i ≤ t.length → t.take i ∉ W) : ((srt W).filter fun w => w.isPrefixOf t).getLast? = some (t.take j) := by
  cases e : ((srt W).filter fun w => w.isPrefixOf t).getLast? with
  | none => exact absurd (take_pre t j) (longest_none e _ h)
  | some v =>
    obtain ⟨h1, h2, h3⟩ := longest_some e
    have hl := h3 _ h (take_pre t j)
    have hlen : (t.take j).length = j := by rw [List.length_take]; omega
    have hv := h2.length_le
    have ev := pre_eq_take h2
    rcases Nat.lt_or_ge j v.length with z | z
    · rw [ev] at h1
      exact absurd h1 (hm _ z hv)
    · have : v.length = j := by omega
      rw [ev, this]
theorem longest_no {W : List (List Nat)} {t : List Nat} (hm : ∀ i, i ≤ t.length → t.take i ∉ W) : ((srt W).filter fun w => w.isPrefixOf t).getLast? = none := by
  cases e : ((srt W).filter fun w => w.isPrefixOf t).getLast? with
  | none => rfl
  | some v =>
    obtain ⟨h1, h2, _⟩ := longest_some e
    have ev := pre_eq_take h2
    rw [ev] at h1
    exact absurd h1 (hm _ h2.length_le)
/-- behind the end of its path no beginning is a word -/
theorem no_more {N : NM} {W : List (List Nat)} {t : List Nat} {k i : Nat} (D : ∀ t, (N t).isSome = true ↔ t = [] ∨ 0 < cnt W t) (hk : k = t.length ∨ N (t.take (k + 1)) = none) (hi : k < i) (hl : i ≤ t.length) : t.take i ∉ W := fun hm => by
  rcases hk with e | e
  · omega
  · have hp : t.take (k + 1) <+: t.take i := by
      have : t.take (k + 1) = (t.take i).take (k + 1) := by rw [List.take_take, Nat.min_eq_left (by omega)]
      rw [this]
      exact take_pre _ _
    have := (D (t.take (k + 1))).mpr (.inr (cnt_pos.mpr ⟨_, hm, hp⟩))
    rw [e] at this
    cases this
/-- the words in their order rise -/
theorem srt_rise {W : List (List Nat)} (h : W.Nodup) : (srt W).Pairwise (· < ·) := by
  have h1 := srt_pw W
  have h2 : (srt W).Nodup := (srt_perm W).nodup_iff.mpr h
  refine (h1.and h2).imp fun {a b} ⟨x, y⟩ => ?_
  by_cases z : a < b
  · exact z
  · exact absurd (List.le_antisymm (List.not_lt.mp x) (List.not_lt.mp z)) y
/-- what in_order walks, without what is no word, is what all is to tell -/
theorem pre_words {W : List (List Nat)} {ex : List Nat → Bool} (D : Dom ex 110) (nd : W.Nodup) (hex : ∀ t, ex t = true ↔ t = [] ∨ 0 < cnt W t) {t : List Nat} (ht : ex t = true) :
    ((pre ex (110 - t.length) t).filter fun u => decide (u ∈ W)) = (srt W).filter fun w => t.isPrefixOf w := by
  have hl := D.len t ht
  refine rise_eq ((pre_rise _ _).filter _) ((srt_rise nd).filter _) fun v => ?_
  rw [List.mem_filter, List.mem_filter, mem_pre D (by omega) ht, decide_eq_true_eq, List.isPrefixOf_iff_prefix, (srt_perm W).mem_iff]
  constructor
  · rintro ⟨⟨h1, _⟩, h3⟩
    exact ⟨h3, h1⟩
  · rintro ⟨h1, h2⟩
    exact ⟨⟨h2, (hex v).mpr (.inr (cnt_pos.mpr ⟨v, h1, List.prefix_refl _⟩))⟩, h1⟩
/-- no more twigs than letters -/
theorem sub_len {α : Type} [DecidableEq α] : ∀ {l m : List α}, l.Nodup → (∀ x ∈ l, x ∈ m) → l.length ≤ m.length
  | [], _, _, _ => Nat.zero_le _
  | x :: l, m, h, s => by
    rw [List.nodup_cons] at h
    have hx : x ∈ m := s x (List.mem_cons_self ..)
    have h1 : l.length ≤ (m.erase x).length := sub_len h.2 fun y hy => (List.mem_erase_of_ne (by rintro rfl; exact h.1 hy)).mpr (s y (List.mem_cons_of_mem _ hy))
    have h2 := List.length_erase_of_mem hx
    have h3 := List.length_pos_of_mem hx
    rw [List.length_cons]
    omega
def begsOf (W : List (List Nat)) : List (List Nat) := [] :: W.flatMap fun w => (List.range w.length).map fun i => w.take (i + 1)
theorem begsOf_len {W : List (List Nat)} (h : ∀ w ∈ W, w.length ≤ 110) : (begsOf W).length ≤ 1 + 110 * W.length := by
  unfold begsOf
  rw [List.length_cons]
  have : ∀ W : List (List Nat), (∀ w ∈ W, w.length ≤ 110) → (W.flatMap fun w => (List.range w.length).map fun i => w.take (i + 1)).length ≤ 110 * W.length := by
    intro W
    induction W with
    | nil => intro _; exact Nat.le_refl _
    | cons w W ih =>
      intro h
      rw [List.flatMap_cons, List.length_append, List.length_map, List.length_range, List.length_cons]
      have h1 := ih fun v hv => h v (List.mem_cons_of_mem _ hv)
      have h2 := h w (List.mem_cons_self ..)
      omega
  have := this W h
  omega
theorem pre_few {W : List (List Nat)} {ex : List Nat → Bool} (D : Dom ex 110) (hw : ∀ w ∈ W, w.length ≤ 110) (hex : ∀ t, ex t = true ↔ t = [] ∨ 0 < cnt W t) {t : List Nat} (ht : ex t = true) : (pre ex (110 - t.length) t).length ≤ 1 + 110 * W.length := by
  have hl := D.len t ht
  refine Nat.le_trans (sub_len ((pre_rise _ _).imp fun h => by rintro rfl; exact List.lt_irrefl _ h) fun v hv => ?_) (begsOf_len hw)
  have hv' := ((mem_pre D (by omega) ht v).mp hv).2
  rcases (hex v).mp hv' with e | e
  · rw [e]
    exact List.mem_cons_self ..
  · obtain ⟨w, hwm, hp⟩ := cnt_pos.mp e
    by_cases e0 : v = []
    · rw [e0]
      exact List.mem_cons_self ..
    · refine List.mem_cons_of_mem _ (List.mem_flatMap.mpr ⟨w, hwm, List.mem_map.mpr ⟨v.length - 1, List.mem_range.mpr ?_, ?_⟩⟩)
      · have := hp.length_le
        have := List.length_pos_iff.mpr e0
        omega
      · have := List.length_pos_iff.mpr e0
        have e1 : v.length - 1 + 1 = v.length := by omega
        rw [e1]
        exact (pre_eq_take hp).symm
def Fine5 (d : Deed) : Prop := Fine3 d ∨ ∃ t, d = .longest t ∧ Letters t ∧ t.length ≤ 110
def Fine4 (d : Deed) : Prop := Fine3 d ∨ ∃ t, d = .all t ∧ Letters t ∧ t.length ≤ 110
def Fine6 (d : Deed) : Prop := (∃ z, d = .at_ z) ∨ Fine3 d ∨ ∃ t, d = .ahead t ∧ Letters t ∧ t.length ≤ 110
/-- u and what begins with it, in a hedge -/
abbrev exN (N : NM) : List Nat → Bool := fun t => (N t).isSome
abbrev preN (N : NM) (u : List Nat) : List (List Nat) := pre (exN N) (110 - u.length) u
theorem fm_congr {α β : Type} {f g : α → List β} : ∀ {l : List α}, (∀ x ∈ l, f x = g x) → l.flatMap f = l.flatMap g
  | [], _ => rfl
  | x :: l, h => by
    rw [List.flatMap_cons, List.flatMap_cons, h x (List.mem_cons_self ..), fm_congr fun y hy => h y (List.mem_cons_of_mem _ hy)]
theorem preN_step {N : NM} (D : Dom (exN N) 110) {u : List Nat} (hu : exN N u = true) : preN N u = u :: (kidsL (exN N) u).flatMap fun c => preN N (u ++ [c]) := by
  have hl := D.len u hu
  have e : ∀ c, (u ++ [c]).length = u.length + 1 := fun c => by simp
  unfold preN
  cases h : 110 - u.length with
  | zero =>
    have : kidsL (exN N) u = [] := by
      rw [List.eq_nil_iff_forall_not_mem]
      intro c hc
      have := D.len _ (mem_kids.mp hc).2
      rw [e] at this
      omega
    rw [this]
    rfl
  | succ n =>
    show u :: (kidsL (exN N) u).flatMap (fun c => pre (exN N) n (u ++ [c])) = _
    congr 1
    refine fm_congr fun c _ => ?_
    rw [e]
    congr 1
    omega
theorem preN_pos (N : NM) (u : List Nat) : 1 ≤ (preN N u).length := by
  unfold preN
  cases 110 - u.length with
  | zero => exact Nat.le_refl _
  | succ n =>
    show 1 ≤ (u :: _).length
    rw [List.length_cons]
    omega
theorem flat_ge (N : NM) : ∀ S : List (List Nat), S.length ≤ (S.flatMap (preN N)).length
  | [] => Nat.le_refl _
  | u :: S => by
    rw [List.flatMap_cons, List.length_append, List.length_cons]
    have h1 := preN_pos N u
    have h2 := flat_ge N S
    omega
/-- the letters from z to a -/
theorem kids_down {ex : List Nat → Bool} {u : List Nat} {ks : List Nat} {ls : List (List Nat)} (hk : ks.Perm (kidsL ex u)) (hp : ls.Perm (ks.map fun c => [c])) (hd : ls.Pairwise fun a b => ¬ a < b) : ls = (kidsL ex u).reverse.map fun c => [c] := by
  have h1 : ls.reverse.Pairwise fun a b => ¬ b < a := by
    rw [List.pairwise_reverse]
    exact hd
  have h2 : ((kidsL ex u).map fun c => [c]).Pairwise fun a b : List Nat => ¬ b < a := by
    rw [List.pairwise_map]
    refine (kids_sorted ex u).imp fun {a b} h => ?_
    rw [List.cons_lt_cons_iff]
    rintro (z | ⟨_, z⟩)
    · omega
    · exact List.not_lt_nil _ z
  have h3 : ls.reverse.Perm ((kidsL ex u).map fun c => [c]) := (List.reverse_perm _).trans (hp.trans (hk.map _))
  have h4 := List.Perm.eq_of_pairwise (le := fun a b => ¬ b < a) (fun a b _ _ x y => List.le_antisymm (List.not_lt.mp x) (List.not_lt.mp y)) h1 h2 h3
  rw [List.map_reverse, ← h4, List.reverse_reverse]
theorem none_with {W : List (List Nat)} {t : List Nat} (h : cnt W t = 0) : ((srt W).filter fun w => t.isPrefixOf w) = [] := by
  have : ((srt W).filter fun w => t.isPrefixOf w).length = 0 := by
    have e := cnt_perm (srt_perm W) t
    unfold cnt at e h
    omega
  exact List.length_eq_zero_iff.mp this
theorem cnt_none {N : NM} {W : List (List Nat)} {t : List Nat} {k : Nat} (D : ∀ t, (N t).isSome = true ↔ t = [] ∨ 0 < cnt W t) (hk : k < t.length) (hn : N (t.take (k + 1)) = none) : cnt W t = 0 := by
  rcases Nat.eq_zero_or_pos (cnt W t) with z | z
  · exact z
  · obtain ⟨w, hw, hp⟩ := cnt_pos.mp z
    have := (D (t.take (k + 1))).mpr (.inr (cnt_pos.mpr ⟨w, hw, (take_pre t (k + 1)).trans hp⟩))
    rw [hn] at this
    cases this
end WH

set_option Elab.async false
set_option linter.all false
set_option maxRecDepth 100000
set_option maxHeartbeats 4000000
namespace K04
open PySem L2 WH
def top (i : Nat) : Stmt := PySem.Challenge.pw_wordhedge_k04_whole_all_with.main.body.getD i (.Pass ⟨0, 0, 0, 0⟩)
abbrev sSpelt : Stmt := top 12
abbrev sListed : Stmt := top 13
abbrev sPuts : Stmt := top 14
abbrev sHeld : Stmt := top 15
abbrev sLaw : Stmt := top 16
/-! ### the law's own builders: spelt, puts -/
def spSpelt : Sp := fun vs H Q _ => ∃ z : Int, vs = [.int z] ∧ ∀ l H', Letters l → l.length ≤ 5 → Same H H' → Q (sv l) H'
def spPuts (K : PySem.W.Frag) : Sp := fun vs H Q _ => ∃ (a : Addr) (ns : List Int), vs = [.ref a] ∧ SqL K H a (ns.map V.int) ∧ ns.length ≤ 200 ∧
  ∀ (r : Addr) (ps : List Addr) (ds : List Deed) (H' : Hp), DeedsAt H' ps ds → ds.length = ns.length → (∀ d ∈ ds, Made d) → H r = none → H' r = some (.lst (ps.map V.ref)) → Same H H' → Q (.ref r) H'
structure LTxt (mg : Str → Option Value) (fS fP : Addr) : Prop where
  _law_spelt : mg "_law_spelt" = some (.ref fS)
  _law_puts : mg "_law_puts" = some (.ref fP)
  len : mg "len" = none
  range : mg "range" = none
  int : mg "int" = none
section
variable {P : Program} {w : World} {K : PySem.W.Frag} {mg : Str → Option Value} {base : Heap}
theorem sc_spelt : FnScope ["_law_seed", "_law_signs", "_law_far", "_law_left", "_law_text"] ["_law_seed"] (defScope sSpelt) := ⟨rfl, rfl, rfl, by decide +kernel, rfl, by decide +kernel, by decide +kernel⟩
theorem far_at (z : Int) (x : Int) : ∃ y : Int, atI [V.int 0, V.int 0, V.int 0, V.int 0, V.int x] (z % 5) = some (.int y) := by
  obtain ⟨n, hn⟩ : ∃ n : Nat, z % 5 = (n : Int) := ⟨(z % 5).toNat, by omega⟩
  rw [hn]
  have : n < 5 := by omega
  match n, this with
  | 0, _ => exact ⟨_, atI_nat rfl⟩
  | 1, _ => exact ⟨_, atI_nat rfl⟩
  | 2, _ => exact ⟨_, atI_nat rfl⟩
  | 3, _ => exact ⟨_, atI_nat rfl⟩
  | 4, _ => exact ⟨_, atI_nat rfl⟩
theorem three_at (z : Int) : ∃ y : Int, atI [V.int 0, V.int 2, V.int 1] (z % 3) = some (.int y) := by
  obtain ⟨n, hn⟩ : ∃ n : Nat, z % 3 = (n : Int) := ⟨(z % 3).toNat, by omega⟩
  rw [hn]
  have : n < 3 := by omega
  match n, this with
  | 0, _ => exact ⟨_, atI_nat rfl⟩
  | 1, _ => exact ⟨_, atI_nat rfl⟩
  | 2, _ => exact ⟨_, atI_nat rfl⟩
/-- how many letters have come, how much is left -/
def Sized (n : Nat) (z : Int) : Prop := 0 ≤ z ∧ ((n = 0 ∧ z ≤ 363) ∨ (n = 1 ∧ z ≤ 120) ∨ (n = 2 ∧ z ≤ 39) ∨ (n = 3 ∧ z ≤ 12) ∨ (n = 4 ∧ z ≤ 3) ∨ (n = 5 ∧ z ≤ 0))
theorem ok_spelt {f g h : Addr} {fd : FuncData} (F : Fun K "_law_spelt" "_law_spelt" sSpelt f fd) (T : LTxt mg g h) : FnOk P w K mg base CX0 1 f fd ["_law_seed"] spSpelt := by
  refine F.ok sc_spelt (fun vs H Q E h => ?_) (fun cdv A outer s H vs Q E hr h => ?_)
  · obtain ⟨z, rfl, _⟩ := h
    rfl
  · obtain ⟨z, rfl, k⟩ := h
    have nd := sc_spelt.nd
    have hsz := sizeLine_eq
    refine ⟨_, (pss_cons (ps_set (i := 1) nd rfl (Or.inl rfl) pe_str)
      (pss_cons (ps_set (i := 2) nd rfl (Or.inl rfl) (pe_ix ix_list (pe_lst (pa_cons pe_int (pa_cons pe_int (pa_cons pe_int (pa_cons pe_int (pa_cons (pe_op op_mod (pe_op op_fdiv (pv 0) pe_int) pe_int) pa_nil)))))) (pe_op op_mod (pv 0) pe_int) (fun _ _ => rfl)))
      (pss_cons (ps_set (i := 3) nd rfl (Or.inl rfl) (pe_op op_mod (pv 0) pe_int))
      (pss_cons (ps_set (i := 4) nd rfl (Or.inl rfl) pe_str)
      (pss_cons (ps_while PassesOwn.never (pt_cmpR op_gt (pv 3) pe_int (nomark _)) (pss_cons (ps_set (i := 3) nd rfl (Or.inl rfl) (pe_op op_sub (pv 3) pe_int))
      (pss_cons (ps_set (i := 4) nd rfl (Or.inl rfl) (pe_op op_addN (pv 4) (pe_ix ix_strN (pv 1) (pe_op op_mod (pe_op op_add (pe_ix ix_list (pe_lst (pa_cons pe_int (pa_cons pe_int (pa_cons pe_int pa_nil)))) (pe_op op_mod (pv 3) pe_int) (fun _ _ => rfl)) (pv 2)) pe_int) (fun _ _ => rfl))))
      (pss_one (ps_set (i := 3) nd rfl (Or.inl rfl) (pe_op op_fdiv (pv 3) pe_int))))))
      (pss_one (ps_ret (pv 4)))))))), ?_⟩
    refine ⟨_, rfl, _, _, rfl, rfl, ⟨by decide, by decide⟩, _, _, rfl, rfl, (by show (0 : Int) < 26; decide), (by show 5 ≤ sizeLine; omega), fun p hp => ?_⟩
    obtain ⟨far, hfar⟩ := far_at z (z / 364 % 26)
    refine ⟨_, rfl, _, _, rfl, rfl, (by show (0 : Int) < 5; decide), p, _, _, _, rfl, rfl, SqL.of upd_same, hfar, ?_⟩
    refine ⟨_, rfl, _, _, rfl, rfl, (by show (0 : Int) < 364; decide), ?_⟩
    refine ⟨fun m σ H' => ∃ (l : List Nat) (y : Int), σ = [some (.int z), some (.str (S alpha)), some (.int far), some (.int y), some (.str (S l))] ∧ Same H H' ∧ Letters l ∧ Sized l.length y ∧ m = y.toNat, ⟨_, [], z % 364, ?_, same_new hp, letters_nil, ⟨by omega, .inl ⟨rfl, by omega⟩⟩, rfl⟩, ?_⟩
    · rw [← alpha_eq, ← nil_eq]
      rfl
    · rintro m σ H' ⟨l, y, rfl, s1, hl, hs, rfl⟩
      refine ⟨_, rfl, _, _, rfl, rfl, _, rfl, ?_⟩
      by_cases hy : (0 : Int) < y
      · rw [decide_eq_true hy]
        refine iteT ⟨_, fun _ _ h => h, ?_⟩
        refine ⟨_, rfl, _, _, rfl, rfl, ?_⟩
        obtain ⟨c3, h3⟩ := three_at (y - 1)
        have hl5 : l.length ≤ 5 := by
          unfold Sized at hs
          omega
        refine ⟨_, rfl, _, rfl, (by show 3 ≤ sizeLine; omega), fun q hq => ?_⟩
        refine ⟨_, rfl, _, _, rfl, rfl, (by show (0 : Int) < 3; decide), q, _, _, _, rfl, rfl, SqL.of upd_same, h3, _, rfl, _, _, rfl, rfl, _, _, rfl, rfl, (by show (0 : Int) < 26; decide), alpha, _, _, rfl, rfl, (by show 26 ≤ sizeLine; omega), alpha_at _, l, _, rfl, rfl, (by show l.length + 1 ≤ sizeLine; omega), ?_⟩
        refine ⟨_, rfl, _, _, rfl, rfl, ⟨by decide, by decide⟩, ?_⟩
        refine ⟨((y - 1) / 3).toNat, by omega, l ++ [97 + ((c3 + far) % 26).toNat], (y - 1) / 3, rfl, s1.trans (same_new hq), hl.app (fun c hc => ?_), ?_, rfl⟩
        · rw [List.mem_singleton.mp hc]
          omega
        · unfold Sized at hs ⊢
          rw [List.length_append, List.length_singleton]
          omega
      · rw [decide_eq_false hy]
        refine iteF ⟨_, rfl, k l H' hl ?_ s1⟩
        unfold Sized at hs
        omega
theorem sc_puts : FnScope ["_law_cells", "_law_made", "_law_k", "_law_turn", "_law_word", "_law_far"] ["_law_cells"] (defScope sPuts) := ⟨rfl, rfl, rfl, by decide +kernel, rfl, by decide +kernel, by decide +kernel⟩
theorem ok_puts {f g : Addr} {fd fdS : FuncData} (F : Fun K "_law_puts" "_law_puts" sPuts f fd) (T : LTxt mg g f) (F__law_spelt : Fun K "_law_spelt" "_law_spelt" sSpelt g fdS) (b__law_spelt : Binds K fdS ["_law_seed"] []) : FnOk P w K mg base CX0 2 f fd ["_law_cells"] (spPuts K) := by
  have G__law_spelt : FnOk P w K mg base CX0 1 g fdS ["_law_seed"] spSpelt := ok_spelt F__law_spelt T
  refine F.ok sc_puts (fun vs H Q E h => ?_) (fun cdv A outer s H vs Q E hr h => ?_)
  · obtain ⟨a, ns, rfl, _⟩ := h
    rfl
  · obtain ⟨a, ns, rfl, hS, hlen, k⟩ := h
    have nd := sc_puts.nd
    have hr__law_spelt : Room 1 _ := hr
    have hsz := sizeLine_eq
    have eL : (ns.map V.int).length = ns.length := List.length_map ..
    refine ⟨_, (pss_cons (ps_set (i := 1) nd rfl (Or.inl rfl) (pe_lst pa_nil))
      (pss_cons (ps_for PassesOwn.never rfl (pi_range1 rfl T.range (pa_cons (pe_callB call_len rfl T.len PySem.boot_len (pa_cons (pv 0) pa_nil)) pa_nil)) (pg_name (i := 2) nd rfl (Or.inl rfl)) (pss_cons (ps_set (i := 3) nd rfl (Or.inl rfl) (pe_op op_mod (pe_ix ix_list (pv 0) (pv 2) (fun _ _ => rfl)) pe_int))
      (pss_cons (ps_set (i := 4) nd rfl (Or.inl rfl) (pe_call G__law_spelt hr__law_spelt rfl T._law_spelt F__law_spelt.kp b__law_spelt .nil pass0 (pa_cons (pe_op op_add (pe_op op_fdiv (pe_ix ix_list (pv 0) (pv 2) (fun _ _ => rfl)) pe_int) (pe_op op_fdiv (pv 2) pe_int)) pa_nil)))
      (pss_consM (ps_if (pt_cmpR op_eq (pe_op op_mod (pe_op op_fdiv (pe_ix ix_list (pv 0) (pv 2) (fun _ _ => rfl)) pe_int) pe_int) pe_int (nomark _)) (pss_one (ps_set (i := 4) nd rfl (Or.inl rfl) pe_str)) pss_nil)
      (pss_consM (ps_if (pt_cmpR op_eq (pe_op op_mod (pe_op op_fdiv (pe_ix ix_list (pv 0) (pv 2) (fun _ _ => rfl)) pe_int) pe_int) pe_int (nomark _)) (pss_cons (ps_set (i := 5) nd rfl (Or.inl rfl) (pe_op op_add (pe_op op_mod (pe_ix ix_list (pv 0) (pe_op op_mod (pe_op op_add (pv 2) pe_int) (pe_callB call_len rfl T.len PySem.boot_len (pa_cons (pv 0) pa_nil))) (fun _ _ => rfl)) pe_int) (pe_op op_mod (pv 2) pe_int)))
      (pss_one (ps_set (i := 4) nd rfl (Or.inl rfl) (pe_slice sl_str (pe_op op_mulN pe_str pe_int) po_none (po_some (pe_op op_add (pv 5) (pe_op op_mul pe_int (pe_callTy call_int1 rfl T.int boot_int (pa_cons (pe_cmpR op_gt (pe_op op_mod (pe_ix ix_list (pv 0) (pv 2) (fun _ _ => rfl)) pe_int) pe_int (nomark _)) pa_nil))))))))) pss_nil)
      (pss_one (ps_if (pt_cmpR op_lt (pv 3) pe_int (nomark _)) (pss_one (ps_expr (pe_bm PySem.F.plainAttrs_list PySem.F.slot_list_append PySem.F.type_list_append mt_append (pv 1) (pa_cons (pe_tup (pa_cons pe_str (pa_cons (pv 4) pa_nil))) pa_nil)))) (pss_one (ps_if (PW.pt (pw_and (pt_cmpR op_lt (pv 3) pe_int (nomark _)) (pw_and1 (pt_cmpR op_gt (pv 2) pe_int (nomark _))))) (pss_one (ps_expr (pe_bm PySem.F.plainAttrs_list PySem.F.slot_list_append PySem.F.type_list_append mt_append (pv 1) (pa_cons (pe_tup (pa_cons pe_str (pa_cons (pe_ix ix_tup (pe_ix ix_list (pv 1) (pe_op op_mod (pe_op op_fdiv (pe_ix ix_list (pv 0) (pv 2) (fun _ _ => rfl)) pe_int) (pv 2)) (fun _ _ => rfl)) pe_int (fun _ _ => rfl)) pa_nil))) pa_nil)))) (pss_one (ps_expr (pe_bm PySem.F.plainAttrs_list PySem.F.slot_list_append PySem.F.type_list_append mt_append (pv 1) (pa_cons (pe_tup (pa_cons pe_str (pa_cons (pv 4) pa_nil))) pa_nil)))))))))))))
      (pss_one (ps_ret (pv 1))))), ?_⟩
    refine ⟨(by show 0 ≤ sizeLine; omega), fun r hr0 => ?_⟩
    refine ⟨_, rfl, _, _, rfl, .inl ⟨_, (same_new hr0).seq hS, rfl⟩, _, rfl, by omega, by omega, for_range (fun i σ H' => ∃ (ps : List Addr) (ds : List Deed) (v2 v3 v4 v5 : Option V), σ = [some (.ref a), some (.ref r), v2, v3, v4, v5] ∧ DeedsAt H' ps ds ∧ ds.length = i ∧ (∀ d ∈ ds, Made d) ∧ H' r = some (.lst (ps.map V.ref)) ∧ Same H H') ?_ ?_ ?_⟩
    · exact ⟨[], [], none, none, none, none, rfl, .nil, rfl, (fun d h => nomatch h), upd_same, same_new hr0⟩
    · rintro i σ H' hi ⟨ps, ds, v2, v3, v4, v5, rfl, hd, hdl, hm, hrl, s1⟩
      have hi' : i < ns.length := by
        have : i < ((ns.map V.int).length : Int).toNat := hi
        omega
      have e0 : (0 : Int) + (i : Int) = ((i : Nat) : Int) := by omega
      rw [e0]
      have hat := ints_at hi'
      generalize ns[i] = x at hat
      have hS' := s1.seq hS
      refine ⟨_, rfl, _, rfl, a, _, _, _, rfl, rfl, hS', hat, _, _, rfl, rfl, (by show (0 : Int) < 8; decide), ?_⟩
      refine ⟨_, rfl, _, rfl, a, _, _, _, rfl, rfl, hS', hat, _, _, rfl, rfl, ⟨by decide, by decide⟩, _, rfl, _, _, rfl, rfl, ⟨by decide, by decide⟩, _, _, rfl, rfl, _, rfl, fun l H1 hl hl5 s2 => ?_⟩
      -- behind each of the two tests the word is one of letters
      obtain ⟨M, hM⟩ : ∃ M : St → Hp → Prop, M = fun σ H1 => ∃ (wd : List Nat) (v5 : Option V), σ = [some (.ref a), some (.ref r), some (.int (i : Int)), some (.int (x % 8)), some (sv wd), v5] ∧ Letters wd ∧ wd.length ≤ 100 ∧ Same H' H1 := ⟨_, rfl⟩
      refine ⟨M, fun σ2 H2 m2 => ?_, ?_⟩
      · rw [hM] at m2
        obtain ⟨wd, v5', rfl, hw, hwl, s3⟩ := m2
        have hS2 := (s1.trans s3).seq hS
        refine ⟨M, fun σ4 H4 m4 => ?_, ?_⟩
        · rw [hM] at m4
          obtain ⟨wd2, v6, rfl, hw2, hwl2, s4⟩ := m4
          have s14 := s1.trans s4
          have hrl4 := s4 _ _ hrl
          have hd4 := hd.same s4
          have hpl : (ps.map V.ref).length = i := by rw [List.length_map, hd.length, hdl]
          -- a new deed at the list's end
          have last : ∀ (d : Deed) (q : Addr) (H5 : Hp), Made d → H5 q = none → Same H4 H5 → ∃ (ps' : List Addr) (ds' : List Deed) (v2 v3 v4 v5 : Option V), [some (V.ref a), some (V.ref r), some (V.int (i : Int)), some (V.int (x % 8)), some (sv wd2), v6] = [some (.ref a), some (.ref r), v2, v3, v4, v5] ∧
              DeedsAt (upd (upd H5 q (.tup [.str d.name, d.arg])) r (.lst (ps.map V.ref ++ [.ref q]))) ps' ds' ∧ ds'.length = i + 1 ∧ (∀ d ∈ ds', Made d) ∧ (upd (upd H5 q (.tup [.str d.name, d.arg])) r (.lst (ps.map V.ref ++ [.ref q]))) r = some (.lst (ps'.map V.ref)) ∧ Same H (upd (upd H5 q (.tup [.str d.name, d.arg])) r (.lst (ps.map V.ref ++ [.ref q]))) := fun d q H5 hdm hq s5 => by
            have hr5 : H5 r = some (.lst (ps.map V.ref)) := s5 _ _ hrl4
            have s6 := s5.trans (same_new (o := .tup [.str d.name, d.arg]) hq)
            have hr6 := s6 _ _ hrl4
            refine ⟨ps ++ [q], ds ++ [d], _, _, _, _, rfl, ?_, by rw [List.length_append, hdl]; rfl, fun d' hd' => ?_, by rw [upd_same, List.map_append]; rfl, same_upd (s14.trans s6) hr0⟩
            · refine DeedsAt.updL ?_ hr6
              exact (hd4.same s6).snoc (show DeedAt _ q d from upd_same)
            · rcases List.mem_append.mp hd' with z | z
              · exact hm d' z
              · rw [List.mem_singleton.mp z]
                exact hdm
          have hfit : (ps.map V.ref).length < sizeLine := by omega
          refine ⟨_, rfl, _, _, rfl, rfl, _, rfl, ?_⟩
          refine ite2 (fun _ => ?_) (fun _ => ?_)
          · refine ⟨_, rfl, .inl ⟨rfl, _, SqL.of hrl4⟩, _, rfl, (by show 2 ≤ sizeLine; omega), fun q hq => ⟨r, ps.map V.ref, .ref q, rfl, rfl, (same_new hq) _ _ hrl4, hfit, ?_⟩⟩
            exact last (.put wd2) q H4 ⟨wd2, .inl rfl, hw2, hwl2⟩ hq (Same.refl _)
          · refine ⟨_, rfl, _, _, rfl, rfl, _, rfl, ?_⟩
            by_cases h7 : (x % 8 : Int) < 7
            · rw [decide_eq_true h7]
              refine iteT ⟨_, rfl, _, _, rfl, rfl, _, rfl, ?_⟩
              by_cases hi0 : (0 : Int) < (i : Int)
              · rw [decide_eq_true hi0]
                refine iteT ?_
                have hS4 := s14.seq hS
                -- an earlier deed's word
                obtain ⟨j, hj⟩ : ∃ j : Nat, x / 8 % (i : Int) = (j : Int) := ⟨(x / 8 % (i : Int)).toNat, by have := Int.emod_nonneg (x / 8) (b := (i : Int)) (by omega); omega⟩
                have hji : j < i := by
                  have := Int.emod_lt_of_pos (x / 8) hi0
                  omega
                have hjd : j < ds.length := by omega
                obtain ⟨pj, hpj, hdj⟩ := hd4.get (List.getElem?_eq_getElem hjd)
                obtain ⟨wj, ewj, hwj, hwjl⟩ := (hm _ (List.getElem_mem hjd)).word
                have hpj' : atI (ps.map V.ref) (x / 8 % (i : Int)) = some (.ref pj) := by
                  rw [hj]
                  exact atI_nat (by rw [List.getElem?_map, hpj]; rfl)
                have harg : atI [V.str ds[j].name, ds[j].arg] 1 = some (sv wj) := by
                  rw [ewj]
                  exact atI_nat (j := 1) rfl
                refine ⟨_, rfl, .inl ⟨rfl, _, SqL.of hrl4⟩, _, rfl, _, rfl, _, rfl, a, _, _, _, rfl, rfl, hS4, hat, _, _, rfl, rfl, ⟨by decide, by decide⟩, _, rfl, _, _, rfl, rfl, hi0, r, _, _, _, rfl, rfl, SqL.of hrl4, hpj', pj, _, _, _, rfl, rfl, SqT.of hdj, harg, (by show 2 ≤ sizeLine; omega), fun q hq => ⟨r, ps.map V.ref, .ref q, rfl, rfl, (same_new hq) _ _ hrl4, hfit, ?_⟩⟩
                exact last (.take wj) q H4 ⟨wj, .inr (.inl rfl), hwj, hwjl⟩ hq (Same.refl _)
              · rw [decide_eq_false hi0]
                refine iteF ⟨_, rfl, .inl ⟨rfl, _, SqL.of hrl4⟩, _, rfl, (by show 2 ≤ sizeLine; omega), fun q hq => ⟨r, ps.map V.ref, .ref q, rfl, rfl, (same_new hq) _ _ hrl4, hfit, ?_⟩⟩
                exact last (.has wd2) q H4 ⟨wd2, .inr (.inr rfl), hw2, hwl2⟩ hq (Same.refl _)
            · rw [decide_eq_false h7]
              refine iteF (iteF ⟨_, rfl, .inl ⟨rfl, _, SqL.of hrl4⟩, _, rfl, (by show 2 ≤ sizeLine; omega), fun q hq => ⟨r, ps.map V.ref, .ref q, rfl, rfl, (same_new hq) _ _ hrl4, hfit, ?_⟩⟩)
              exact last (.has wd2) q H4 ⟨wd2, .inr (.inr rfl), hw2, hwl2⟩ hq (Same.refl _)
        · refine ⟨_, rfl, _, rfl, a, _, _, _, rfl, rfl, hS2, hat, _, _, rfl, rfl, ⟨by decide, by decide⟩, _, _, rfl, rfl, (by show (0 : Int) < 11; decide), rfl, _, rfl, ?_⟩
          refine ite2 (fun _ => ?_) (fun _ => ?_)
          · -- the long word
            obtain ⟨j, hj⟩ : ∃ j : Nat, ((i : Int) + 1) % ((ns.map V.int).length : Int) = (j : Int) := ⟨(((i : Int) + 1) % ((ns.map V.int).length : Int)).toNat, by have := Int.emod_nonneg ((i : Int) + 1) (b := ((ns.map V.int).length : Int)) (by omega); omega⟩
            have hjn : j < ns.length := by
              have := Int.emod_lt_of_pos ((i : Int) + 1) (b := ((ns.map V.int).length : Int)) (by omega)
              omega
            have hatj : atI (ns.map V.int) (((i : Int) + 1) % ((ns.map V.int).length : Int)) = some (.int ns[j]) := by
              rw [hj]
              exact ints_at hjn
            generalize ns[j] = y at hatj
            refine ⟨_, rfl, _, rfl, _, _, rfl, rfl, _, rfl, _, _, rfl, .inl ⟨_, hS2, rfl⟩, _, _, rfl, rfl, (by show (0 : Int) < ((ns.map V.int).length : Int); omega), a, _, _, _, rfl, rfl, hS2, hatj, _, _, rfl, rfl, (by show (0 : Int) < 14; decide), _, rfl, _, _, rfl, rfl, (by show (0 : Int) < 13; decide), _, _, rfl, rfl, ?_⟩
            have hb : ∀ c : Bool, 0 ≤ (if c then (1 : Int) else 0) ∧ (if c then (1 : Int) else 0) ≤ 1 := fun c => by cases c <;> decide
            refine ⟨alpha, 4, congrArg V.str alpha_eq, rfl, by decide, by decide, by decide, _, rfl, _, rfl, _, rfl, a, _, _, _, rfl, rfl, hS2, hat, _, _, rfl, rfl, (by show (0 : Int) < 16; decide), _, _, rfl, rfl, .inr ⟨_, rfl, _, _, rfl, rfl, .inl ⟨by decide, by decide⟩, _, _, rfl, rfl, _, rfl, long, rfl, (by decide), ?_⟩⟩
            have hc := hb (decide ((12 : Int) < x % 16))
            have hcut := long_cut (k := y % 14 + (i : Int) % 13 + 75 * (if decide ((12 : Int) < x % 16) then (1 : Int) else 0)) (by omega) (by omega)
            rw [hM]
            exact ⟨_, _, rfl, hcut.1, hcut.2, s3⟩
          · rw [hM]
            exact ⟨wd, v5', rfl, hw, hwl, s3⟩
      · have hS1 := (s1.trans s2).seq hS
        refine ⟨_, rfl, _, rfl, a, _, _, _, rfl, rfl, hS1, hat, _, _, rfl, rfl, ⟨by decide, by decide⟩, _, _, rfl, rfl, (by show (0 : Int) < 9; decide), rfl, _, rfl, ?_⟩
        refine ite2 (fun _ => ?_) (fun _ => ?_)
        · rw [hM]
          exact ⟨[], v5, congrArg (fun z => [some (V.ref a), some (V.ref r), some (V.int (i : Int)), some (V.int (x % 8)), some (V.str z), v5]) nil_eq, letters_nil, by decide, s2⟩
        · rw [hM]
          exact ⟨l, v5, rfl, hl, by omega, s2⟩
    · rintro σ H' ⟨ps, ds, v2, v3, v4, v5, rfl, hd, hdl, hm, hrl, s1⟩
      have hdl' : ds.length = ns.length := by
        have : ds.length = ((ns.map V.int).length : Int).toNat := hdl
        omega
      exact ⟨_, rfl, k r ps ds H' hd hdl' hm hr0 hrl s1⟩
end

/-! ### held -/
def spHeld (K : PySem.W.Frag) : Sp := fun vs H Q _ => ∃ (a : Addr) (ps : List Addr) (ds : List Deed), vs = [.ref a] ∧ H a = some (.lst (ps.map V.ref)) ∧ DeedsAt H ps ds ∧ (∀ d ∈ ds, Made d) ∧ ds.length ≤ 200 ∧
  ∀ (r : Addr) (H' : Hp), H r = none → H' r = some (.lst ((after [] ds).map sv)) → Same H H' → Q (.ref r) H'
section
variable {P : Program} {w : World} {K : PySem.W.Frag} {mg : Str → Option Value} {base : Heap}
theorem sc_held : FnScope ["_law_asked", "_law_words", "_law_deed"] ["_law_asked"] (defScope sHeld) := ⟨rfl, rfl, rfl, by decide +kernel, rfl, by decide +kernel, by decide +kernel⟩
theorem ok_held {f : Addr} {fd : FuncData} (F : Fun K "_law_held" "_law_held" sHeld f fd) : FnOk P w K mg base CX0 1 f fd ["_law_asked"] (spHeld K) := by
  refine F.ok sc_held (fun vs H Q E h => ?_) (fun cdv A outer s H vs Q E hr h => ?_)
  · obtain ⟨a, ps, ds, rfl, _⟩ := h
    rfl
  · obtain ⟨a, ps, ds, rfl, ha, hd, hm, hdl, k⟩ := h
    have nd := sc_held.nd
    have hsz := sizeLine_eq
    refine ⟨_, (pss_cons (ps_set (i := 1) nd rfl (Or.inl rfl) (pe_lst pa_nil))
      (pss_cons (ps_for PassesOwn.never rfl (pi_list (pv 0)) (pg_name (i := 2) nd rfl (Or.inl rfl)) (pss_consM (ps_if (PW.pt (pw_and (pt_cmpR op_eq (pe_ix ix_tup (pv 2) pe_int (fun _ _ => rfl)) pe_str (nomark _)) (pw_and1 (pt_cmpR op_notIn_seq (pe_ix ix_tup (pv 2) pe_int (fun _ _ => rfl)) (pv 1) (by with_unfolding_all rfl))))) (pss_one (ps_expr (pe_bm PySem.F.plainAttrs_list PySem.F.slot_list_append PySem.F.type_list_append mt_append (pv 1) (pa_cons (pe_ix ix_tup (pv 2) pe_int (fun _ _ => rfl)) pa_nil)))) pss_nil)
      (pss_one (ps_if (PW.pt (pw_and (pt_cmpR op_eq (pe_ix ix_tup (pv 2) pe_int (fun _ _ => rfl)) pe_str (nomark _)) (pw_and1 (pt_cmpR op_in_seq (pe_ix ix_tup (pv 2) pe_int (fun _ _ => rfl)) (pv 1) (by with_unfolding_all rfl))))) (pss_one (ps_expr (pe_bm PySem.F.plainAttrs_list PySem.F.slot_list_remove PySem.F.type_list_remove mt_removeS (pv 1) (pa_cons (pe_ix ix_tup (pv 2) pe_int (fun _ _ => rfl)) pa_nil)))) pss_nil))))
      (pss_one (ps_ret (pv 1))))), ?_⟩
    refine ⟨(by show 0 ≤ sizeLine; omega), fun r hr0 => ?_⟩
    have s0 : Same H (upd H r (.lst [])) := same_new hr0
    refine ⟨_, rfl, a, rfl, ⟨_, SqL.of (s0 _ _ ha)⟩, for_list (K := K) (a := a) (xs := ps.map V.ref) (fun i σ H' => ∃ v : Option V, σ = [some (.ref a), some (.ref r), v] ∧ H' r = some (.lst ((after [] (ds.take i)).map sv)) ∧ Same H H') ⟨none, rfl, upd_same, s0⟩ (fun i σ H' _ ⟨_, _, _, s1⟩ => SqL.of (s1 _ _ ha)) ?_ ?_⟩
    · rintro i x σ H' hx ⟨v, rfl, hR, s1⟩
      obtain ⟨pd, hpd, rfl⟩ : ∃ pd, ps[i]? = some pd ∧ x = .ref pd := by
        rw [List.getElem?_map] at hx
        cases e : ps[i]? with
        | none => rw [e] at hx; cases hx
        | some z => rw [e] at hx; exact ⟨z, rfl, (Option.some.inj hx).symm⟩
      have hid : i < ds.length := by
        have := (List.getElem?_eq_some_iff.mp hpd).1
        rw [hd.length] at this
        exact this
      obtain ⟨pd', hpd', hdA⟩ := hd.get (List.getElem?_eq_getElem hid)
      rw [hpd] at hpd'
      cases hpd'
      have hW : (after [] (ds.take i)).Nodup := nodup_after List.nodup_nil _
      have hWl : (after [] (ds.take i)).length ≤ i := by
        have := after_len [] (ds.take i)
        rw [List.length_take] at this
        simp only [List.length_nil] at this
        omega
      have hsn : after [] (ds.take (i + 1)) = stepW (after [] (ds.take i)) ds[i] := by
        rw [List.take_add_one, List.getElem?_eq_getElem hid]
        exact after_snoc _ _ _
      have hmd := hm _ (List.getElem_mem hid)
      rw [hsn]
      generalize ds[i] = d at *
      generalize after [] (ds.take i) = W at *
      obtain ⟨wd, hcase, hwd, hwl⟩ := hmd
      have ewd : d.arg = sv wd := by rcases hcase with rfl | rfl | rfl <;> rfl
      have dp : decide (V.str d.name = V.str "put") = decide (tag d = 0) := dname d (.put [])
      have dt : decide (V.str d.name = V.str "take") = decide (tag d = 1) := dname d (.take [])
      have hd1 : H pd = some (.tup [.str d.name, sv wd]) := by rw [← ewd]; exact hdA
      have a1 : atI [V.str d.name, sv wd] 1 = some (sv wd) := atI_nat (j := 1) rfl
      have a0 : atI [V.str d.name, sv wd] 0 = some (.str d.name) := atI_nat (j := 0) rfl
      refine ⟨fun σ' H7 => σ' = [some (.ref a), some (.ref r), some (.ref pd)] ∧ Same H H7 ∧ H7 r = some (.lst ((if tag d = 0 then stepW W d else W).map sv)), fun σ7 H7 m7 => ?_, ?_⟩
      · obtain ⟨rfl, s7, hR7⟩ := m7
        refine ⟨_, rfl, pd, _, _, _, rfl, rfl, SqT.of (s7 _ _ hd1), a0, rfl, _, rfl, ?_⟩
        rw [dt]
        by_cases ht : tag d = 1
        · have hd2 : d = .take wd := by
            rcases hcase with rfl | rfl | rfl
            · cases ht
            · rfl
            · cases ht
          subst hd2
          rw [decide_eq_true ht]
          rw [if_neg (by simp [tag])] at hR7
          refine iteT ⟨_, rfl, pd, _, _, _, rfl, rfl, SqT.of (s7 _ _ hd1), a1, _, rfl, r, _, rfl, .inl (SqL.of hR7), rfl, flat_sv W, _, rfl, ?_⟩
          rw [in_sv]
          by_cases hin : wd ∈ W
          · rw [decide_eq_true hin]
            refine iteT ⟨_, rfl, .inl ⟨rfl, _, SqL.of hR7⟩, _, rfl, pd, _, _, _, rfl, rfl, SqT.of (s7 _ _ hd1), a1, r, W, wd, rfl, rfl, hR7, hin, ?_⟩
            exact ⟨_, rfl, upd_same, same_upd s7 hr0⟩
          · rw [decide_eq_false hin]
            refine iteF ?_
            refine ⟨_, rfl, ?_, s7⟩
            rw [hR7]
            show some (HO.lst (W.map sv)) = some (HO.lst ((W.erase wd).map sv))
            rw [List.erase_of_not_mem hin]
        · rw [decide_eq_false ht]
          refine iteF (iteF ?_)
          refine ⟨_, rfl, ?_, s7⟩
          rw [hR7]
          rcases hcase with rfl | rfl | rfl
          · rfl
          · exact absurd rfl ht
          · rfl
      · refine ⟨_, rfl, pd, _, _, _, rfl, rfl, SqT.of (s1 _ _ hd1), a0, rfl, _, rfl, ?_⟩
        rw [dp]
        by_cases ht : tag d = 0
        · have hd2 : d = .put wd := by
            rcases hcase with rfl | rfl | rfl
            · rfl
            · cases ht
            · cases ht
          subst hd2
          rw [decide_eq_true ht]
          refine iteT ⟨_, rfl, pd, _, _, _, rfl, rfl, SqT.of (s1 _ _ hd1), a1, _, rfl, r, _, rfl, .inl (SqL.of hR), rfl, flat_sv W, _, rfl, ?_⟩
          show if (if true = true then !inV (sv wd) (W.map sv) else inV (sv wd) (W.map sv)) = true then _ else _
          rw [if_pos rfl, in_sv]
          by_cases hin : wd ∈ W
          · rw [decide_eq_true hin]
            refine iteF ?_
            refine ⟨rfl, s1, ?_⟩
            rw [hR, if_pos ht]
            show some (HO.lst (W.map sv)) = some (HO.lst ((if wd ∈ W then W else W ++ [wd]).map sv))
            rw [if_pos hin]
          · rw [decide_eq_false hin]
            refine iteT ⟨_, rfl, .inl ⟨rfl, _, SqL.of hR⟩, _, rfl, pd, _, _, _, rfl, rfl, SqT.of (s1 _ _ hd1), a1, r, W.map sv, sv wd, rfl, rfl, hR, by rw [List.length_map]; omega, ?_⟩
            refine ⟨rfl, same_upd s1 hr0, ?_⟩
            rw [upd_same, if_pos ht]
            show some (HO.lst (W.map sv ++ [sv wd])) = some (HO.lst ((if wd ∈ W then W else W ++ [wd]).map sv))
            rw [if_neg hin, List.map_append]
            rfl
        · rw [decide_eq_false ht]
          refine iteF (iteF ?_)
          refine ⟨rfl, s1, ?_⟩
          rw [if_neg ht]
          exact hR
    · rintro σ H' ⟨v, rfl, hR, s1⟩
      refine ⟨_, rfl, k r H' hr0 ?_ s1⟩
      rw [hR, List.take_of_length_le (by rw [List.length_map, hd.length]; exact Nat.le_refl _)]
end

end K04

set_option Elab.async false
set_option linter.all false
set_option maxRecDepth 100000
set_option maxHeartbeats 4000000
namespace K04
open PySem L2 WH
/-! ### listed -/
def spListed : Sp := fun vs H Q _ => ∃ (p q : Addr) (ls : List (List Nat)), vs = [.ref p, .ref q] ∧ H p = some (.lst (ls.map sv)) ∧ H q = some (.lst (ls.map sv)) ∧ ls.length ≤ 1000 ∧ Q (.bl true) H
structure Txt (mg : Str → Option Value) (fS fP fH fL fA : Addr) : Prop extends LTxt mg fS fP where
  _law_held : mg "_law_held" = some (.ref fH)
  _law_listed : mg "_law_listed" = some (.ref fL)
  answers : mg "answers" = some (.ref fA)
  isi : mg "isinstance" = none
  list : mg "list" = none
  str : mg "str" = none
  sorted : mg "sorted" = none
section
variable {P : Program} {w : World} {K : PySem.W.Frag} {mg : Str → Option Value} {base : Heap}
theorem sc_listed : FnScope ["_law_found", "_law_due", "_law_k"] ["_law_found", "_law_due"] (defScope sListed) := ⟨rfl, rfl, rfl, by decide +kernel, rfl, by decide +kernel, by decide +kernel⟩
theorem ok_listed {f fS fP fH fL fA : Addr} {fd : FuncData} (F : Fun K "_law_listed" "_law_listed" sListed f fd) (T : Txt mg fS fP fH fL fA) : FnOk P w K mg base CX0 1 f fd ["_law_found", "_law_due"] spListed := by
  refine F.ok sc_listed (fun vs H Q E h => ?_) (fun cdv A outer s H vs Q E hr h => ?_)
  · obtain ⟨p, q, ls, rfl, _⟩ := h
    rfl
  · obtain ⟨p, q, ls, rfl, hp, hq, hl, k⟩ := h
    have nd := sc_listed.nd
    have eL : (ls.map sv).length = ls.length := List.length_map ..
    refine ⟨_, (pss_cons (ps_if (PW.pt (pw_or (pt_not (pt_val (pe_callB call_isi rfl T.isi boot_isi (pa_cons (pv 0) (pa_cons (pe_bltn (v := .ty "list") rfl T.list boot_list rfl) pa_nil))))) (pw_or1 (pt_cmpR op_ne (pe_callB call_len rfl T.len PySem.boot_len (pa_cons (pv 0) pa_nil)) (pe_callB call_len rfl T.len PySem.boot_len (pa_cons (pv 1) pa_nil)) (nomark _))))) (pss_one (ps_ret pe_bl)) pss_nil)
      (pss_cons (ps_for PassesOwn.never rfl (pi_range1 rfl T.range (pa_cons (pe_callB call_len rfl T.len PySem.boot_len (pa_cons (pv 1) pa_nil)) pa_nil)) (pg_name (i := 2) nd rfl (Or.inl rfl)) (pss_one (ps_if (PW.pt (pw_or (pt_not (pt_val (pe_callB call_isi rfl T.isi boot_isi (pa_cons (pe_ix ix_list (pv 0) (pv 2) (fun _ _ => rfl)) (pa_cons (pe_bltn (v := .ty "str") rfl T.str boot_str rfl) pa_nil))))) (pw_or1 (pt_cmpR op_ne (pe_ix ix_list (pv 0) (pv 2) (fun _ _ => rfl)) (pe_ix ix_list (pv 1) (pv 2) (fun _ _ => rfl)) (nomark _))))) (pss_one (ps_ret pe_bl)) pss_nil)))
      (pss_one (ps_ret pe_bl)))), ?_⟩
    refine ⟨_, rfl, _, "list", _, true, rfl, TyOf.lst hp, isi_list_list, true, rfl, ?_⟩
    refine iteF ⟨_, rfl, _, _, rfl, .inl ⟨_, SqL.of hp, rfl⟩, _, rfl, _, _, rfl, .inl ⟨_, SqL.of hq, rfl⟩, rfl, _, rfl, ?_⟩
    refine iteNS rfl ?_
    refine ⟨_, rfl, _, _, rfl, .inl ⟨_, SqL.of hq, rfl⟩, _, rfl, by omega, by omega, for_range (fun i σ H' => ∃ v : Option V, σ = [some (.ref p), some (.ref q), v] ∧ H' = H) ⟨none, rfl, rfl⟩ ?_ ?_⟩
    · rintro i σ H' hi ⟨v, rfl, rfl⟩
      have hi' : i < ls.length := by
        have : i < ((ls.map sv).length : Int).toNat := hi
        omega
      have e0 : (0 : Int) + (i : Int) = ((i : Nat) : Int) := by omega
      rw [e0]
      have hat : atI (ls.map sv) (i : Int) = some (sv ls[i]) := atI_nat (by rw [List.getElem?_map, List.getElem?_eq_getElem hi']; rfl)
      refine ⟨_, rfl, _, rfl, p, _, _, _, rfl, rfl, SqL.of hp, hat, _, "str", _, true, rfl, TyOf.str _, isi_str_str, true, rfl, ?_⟩
      refine iteF ⟨_, rfl, _, rfl, p, _, _, _, rfl, rfl, SqL.of hp, hat, _, rfl, _, rfl, q, _, _, _, rfl, rfl, SqL.of hq, hat, rfl, _, rfl, ?_⟩
      refine iteNS rfl ?_
      exact ⟨_, rfl, rfl⟩
    · rintro σ H' ⟨v, rfl, rfl⟩
      exact k
/-! ### the law -/
def spLaw (K : PySem.W.Frag) : Sp := fun vs H Q _ => ∃ (a : Addr) (ns : List Int), vs = [.ref a] ∧ SqL K H a (ns.map V.int) ∧ ns.length ≤ 63 ∧ ∀ H', Q (.bl true) H'
theorem scL : FnScope ["_law_script", "_law_asked", "_law_texts", "_law_deed", "_law_found", "_law_words", "_law_k", "_law_due", "_law_word"] ["_law_script"] (defScope sLaw) := ⟨rfl, rfl, rfl, by decide +kernel, rfl, by decide +kernel, by decide +kernel⟩
/-! a list of written texts: closed words, so that the elaborator doesn't run the program ahead of each rule (165 s, 12.5 GB for ten texts else) -/
structure ZA (X : Cx) (es : List Expr) (t : TA) : Prop where h : PA X es t
structure ZE (X : Cx) (e : Expr) (t : TE) : Prop where h : PE X e t
structure ZS (X : Cx) (st : Stmt) (t : TS) : Prop where h : PS X st t
structure ZSs (X : Cx) (st : List Stmt) (t : TS) : Prop where h : PSs X st t
section
variable {X : Cx} {es : List Expr} {t : TA} {st : Stmt} {rest : List Stmt} {u v : TS} {pos : Pos}
theorem za_nil : ZA X [] tNil := ⟨pa_nil⟩
theorem za_str {x j pos} (r : ZA X es t) : ZA X (.Constant (.str x) j pos :: es) (tCons (tC (.str x)) t) := ⟨pa_cons pe_str r.h⟩
theorem ze_lst (r : ZA X es t) : ZE X (.List es pos) (tLst t) := ⟨pe_lst r.h⟩
theorem zs_set {i : Nat} {x : Str} {pos' : Pos} {pos0 : Pos} {te : TE} (hN : X.N.Nodup) (hi : X.N[i]? = some x) (hx : Loc X.env.scope x) (r : ZE X (.List es pos0) te) (hf : X.fn x = true ∨ X.env.scope.names.lookup x = some .local := by first | exact .inl rfl | exact .inr rfl) : ZS X (.Assign [.Name x pos'] (.List es pos0) pos) (tAsg te (gName i)) := ⟨ps_set hN hi hx r.h rfl hf⟩
theorem zss_cons (h1 : ZS X st u) (h2 : PSs X rest v) : ZSs X (st :: rest) (tSeq u v) := ⟨pss_cons h1.h h2⟩
theorem zss_consP (h1 : PS X st u) (h2 : ZSs X rest v) : ZSs X (st :: rest) (tSeq u v) := ⟨pss_cons h1 h2.h⟩
end
theorem ok_law {f fS fP fH fL fA : Addr} {fd fdS fdP fdH fdL fdA : FuncData} {kA : Nat} (F : Fun K "law" "law" sLaw f fd) (T : Txt mg fS fP fH fL fA)
    (F_spelt : Fun K "_law_spelt" "_law_spelt" sSpelt fS fdS) (b_spelt : Binds K fdS ["_law_seed"] [])
    (F__law_puts : Fun K "_law_puts" "_law_puts" sPuts fP fdP) (b__law_puts : Binds K fdP ["_law_cells"] [])
    (F__law_held : Fun K "_law_held" "_law_held" sHeld fH fdH) (b__law_held : Binds K fdH ["_law_asked"] [])
    (F__law_listed : Fun K "_law_listed" "_law_listed" sListed fL fdL) (b__law_listed : Binds K fdL ["_law_found", "_law_due"] [])
    (kp_answers : PySem.W.keepIn K (.ref fA) = true) (b_answers : Binds K fdA ["deeds"] []) (G_answers : FnOk P w K mg base CX0 kA fA fdA ["deeds"] (spAnswersF Fine4 K)) : FnOk P w K mg base CX0 (kA + 4) f fd ["_law_script"] (spLaw K) := by
  have G__law_puts : FnOk P w K mg base CX0 2 fP fdP ["_law_cells"] (spPuts K) := ok_puts F__law_puts T.toLTxt F_spelt b_spelt
  have G__law_held : FnOk P w K mg base CX0 1 fH fdH ["_law_asked"] (spHeld K) := ok_held F__law_held
  have G__law_listed : FnOk P w K mg base CX0 1 fL fdL ["_law_found", "_law_due"] spListed := ok_listed F__law_listed T
  refine F.ok scL (fun vs H Q E h => ?_) (fun cdv A outer s H vs Q E hr h => ?_)
  · obtain ⟨a, ns, rfl, _⟩ := h
    rfl
  · obtain ⟨a, ns, rfl, hS, hlen, k⟩ := h
    have nd := scL.nd
    have hr__law_puts : Room 2 _ := hr.mono (by omega)
    have hr__law_held : Room 1 _ := hr.mono (by omega)
    have hr__law_listed : Room 1 _ := hr.mono (by omega)
    have hr_answers : Room kA _ := hr.mono (by omega)
    have hsz := sizeLine_eq
    refine ⟨_, (ZSs.h (zss_consP (ps_set (i := 1) nd rfl (Or.inl rfl) (pe_call G__law_puts hr__law_puts rfl T._law_puts F__law_puts.kp b__law_puts .nil pass0 (pa_cons (pe_slice sl_list (pv 0) po_none (po_some pe_int)) pa_nil)))
      (zss_cons (zs_set (i := 2) nd rfl (Or.inl rfl) (ze_lst (za_str (za_str (za_str (za_str (za_str (za_str (za_str (za_str (za_str (za_str za_nil))))))))))))
      (pss_cons (ps_for PassesOwn.never rfl (pi_list (pe_slice sl_list (pv 1) po_none (po_some pe_int))) (pg_name (i := 3) nd rfl (Or.inl rfl)) (pss_one (ps_set (i := 2) nd rfl (Or.inl rfl) (pe_op op_cat (pv 2) (pe_lst (pa_cons (pe_ix ix_tup (pv 3) pe_int (fun _ _ => rfl)) (pa_cons (pe_op op_addN (pe_ix ix_tup (pv 3) pe_int (fun _ _ => rfl)) pe_str) (pa_cons (pe_slice sl_str (pe_ix ix_tup (pv 3) pe_int (fun _ _ => rfl)) po_none (po_some (pe_un un_neg pe_int))) pa_nil))))))))
      (pss_cons (ps_set (i := 4) nd rfl (Or.inl rfl) (pe_call G_answers hr_answers rfl T.answers kp_answers b_answers .nil pass0 (pa_cons (pe_op op_cat (pv 1) (pe_lc (defScope sLaw) [] []  rfl rfl (by decide +kernel) trivial (pi_list (pv 2)) (fun _ _ _ _ _ => pif_nil) (fun _ _ _ _ _ => (pe_tup (pa_cons pe_str (pa_cons (pv 0) pa_nil)))))) pa_nil)))
      (pss_cons (ps_if (PW.pt (pw_or (pt_not (pt_val (pe_callB call_isi rfl T.isi boot_isi (pa_cons (pv 4) (pa_cons (pe_bltn (v := .ty "list") rfl T.list boot_list rfl) pa_nil))))) (pw_or1 (pt_cmpR op_ne (pe_callB call_len rfl T.len PySem.boot_len (pa_cons (pv 4) pa_nil)) (pe_op op_add (pe_callB call_len rfl T.len PySem.boot_len (pa_cons (pv 1) pa_nil)) (pe_callB call_len rfl T.len PySem.boot_len (pa_cons (pv 2) pa_nil))) (nomark _))))) (pss_one (ps_ret pe_bl)) pss_nil)
      (pss_cons (ps_set (i := 5) nd rfl (Or.inl rfl) (pe_callB call_sortedS rfl T.sorted boot_sorted_ (pa_cons (pe_call G__law_held hr__law_held rfl T._law_held F__law_held.kp b__law_held .nil pass0 (pa_cons (pv 1) pa_nil)) pa_nil)))
      (pss_cons (ps_for PassesOwn.never rfl (pi_range1 rfl T.range (pa_cons (pe_callB call_len rfl T.len PySem.boot_len (pa_cons (pv 2) pa_nil)) pa_nil)) (pg_name (i := 6) nd rfl (Or.inl rfl)) (pss_cons (ps_set (i := 7) nd rfl (Or.inl rfl) (pe_lst pa_nil))
      (pss_cons (ps_for PassesOwn.never rfl (pi_list (pv 5)) (pg_name (i := 8) nd rfl (Or.inl rfl)) (pss_one (ps_if (pt_cmpR op_eq (pe_slice sl_str (pv 8) po_none (po_some (pe_callB call_len rfl T.len PySem.boot_len (pa_cons (pe_ix ix_list (pv 2) (pv 6) (fun _ _ => rfl)) pa_nil)))) (pe_ix ix_list (pv 2) (pv 6) (fun _ _ => rfl)) (nomark _)) (pss_one (ps_expr (pe_bm PySem.F.plainAttrs_list PySem.F.slot_list_append PySem.F.type_list_append mt_append (pv 7) (pa_cons (pv 8) pa_nil)))) pss_nil)))
      (pss_one (ps_if (pt_not (pt_val (pe_call G__law_listed hr__law_listed rfl T._law_listed F__law_listed.kp b__law_listed .nil pass0 (pa_cons (pe_ix ix_list (pv 4) (pe_op op_add (pe_callB call_len rfl T.len PySem.boot_len (pa_cons (pv 1) pa_nil)) (pv 6)) (fun _ _ => rfl)) (pa_cons (pv 7) pa_nil))))) (pss_one (ps_ret pe_bl)) pss_nil)))))
      (pss_one (ps_ret pe_bl)))))))))), ?_⟩
    refine ⟨_, rfl, _, rfl, a, _, rfl, hS, fun c hc => ?_⟩
    have ec : cutV (ns.map V.int) none (some 200) = ns.map V.int := cutV_all _ _ (by rw [List.length_map]; omega)
    rw [ec]
    refine ⟨c, ns, rfl, SqL.of upd_same, by omega, fun r ps ds H1 hd hdl hm hr0 hr1 s1 => ?_⟩
    have hpl : ps.length = ds.length := hd.length
    -- texts
    refine ⟨(by show 10 ≤ sizeLine; omega), fun t0 ht0 => ?_⟩
    have hT0 : ∀ H2, Same (upd H1 t0 (.lst [V.str "", V.str "a", V.str "b", V.str "c", V.str "ab", V.str "ca", V.str "acb", V.str "aaaa", V.str "abcdef", V.str "zz"])) H2 → H2 t0 = some (.lst (t04.map sv)) := fun H2 s2 => (s2 _ _ upd_same).trans (congrArg (fun z => some (HO.lst z)) t04_eq)
    have s2 : Same H1 (upd H1 t0 (.lst [V.str "", V.str "a", V.str "b", V.str "c", V.str "ab", V.str "ca", V.str "acb", V.str "aaaa", V.str "abcdef", V.str "zz"])) := same_new ht0
    generalize upd H1 t0 _ = H2 at s2 hT0 ⊢
    refine ⟨_, rfl, _, rfl, r, _, rfl, SqL.of (s2 _ _ hr1), fun c6 hc6 => ⟨c6, rfl, ⟨_, SqL.of upd_same⟩, ?_⟩⟩
    have s3 := s2.trans (same_new (o := .lst (cutV (ps.map V.ref) none (some 6))) hc6)
    have ec6 : cutV (ps.map V.ref) none (some 6) = (ps.take 6).map V.ref := by
      have := cutV_to (ps.map V.ref) 6
      rw [List.map_take]
      exact this
    have hT3 := hT0 _ (same_new (o := .lst (cutV (ps.map V.ref) none (some 6))) hc6)
    rw [ec6] at s3 hT3 ⊢
    refine for_list (K := K) (a := c6) (xs := (ps.take 6).map V.ref) (fun i σ H' => ∃ (ts : List (List Nat)) (t : Addr) (v : Option V), σ = [some (.ref a), some (.ref r), some (.ref t), v, none, none, none, none, none] ∧ H' t = some (.lst (ts.map sv)) ∧ ts.length = 10 + 3 * i ∧ (∀ x ∈ ts, Ask x) ∧ Same H1 H' ∧ H' c6 = some (.lst ((ps.take 6).map V.ref)))
      ⟨t04, t0, none, rfl, hT3, rfl, t04_ask, s3, upd_same⟩ (fun i σ H' _ ⟨_, _, _, _, _, _, _, _, h6⟩ => SqL.of h6) ?_ ?_
    · rintro i x σ H' hx ⟨ts, t, v, rfl, hT, htl, hts, s4, h6⟩
      have hi6 : i < 6 := by
        have := (List.getElem?_eq_some_iff.mp hx).1
        rw [List.length_map, List.length_take] at this
        omega
      obtain ⟨pd, hpd, rfl⟩ : ∃ pd, ps[i]? = some pd ∧ x = .ref pd := by
        rw [List.getElem?_map, List.getElem?_take_of_lt hi6] at hx
        cases e : ps[i]? with
        | none => rw [e] at hx; cases hx
        | some z => rw [e] at hx; exact ⟨z, rfl, (Option.some.inj hx).symm⟩
      have hid : i < ds.length := by
        have := (List.getElem?_eq_some_iff.mp hpd).1
        omega
      obtain ⟨pd', hpd', hdA⟩ := hd.get (List.getElem?_eq_getElem hid)
      rw [hpd] at hpd'
      cases hpd'
      obtain ⟨wd, ewd, hwd, hwl⟩ := (hm _ (List.getElem_mem hid)).word
      have hd1 : H' pd = some (.tup [.str ds[i].name, sv wd]) := by
        rw [← ewd]
        exact s4 _ _ hdA
      generalize ds[i].name = nm at hd1
      have a1 : atI [V.str nm, sv wd] 1 = some (sv wd) := atI_nat (j := 1) rfl
      refine ⟨_, rfl, _, rfl, pd, _, _, _, rfl, rfl, SqT.of hd1, a1, _, rfl, pd, _, _, _, rfl, rfl, SqT.of hd1, a1, wd, [97], rfl, congrArg V.str a_eq, (by show wd.length + 1 ≤ sizeLine; omega), _, rfl, pd, _, _, _, rfl, rfl, SqT.of hd1, a1, _, rfl, _, rfl, wd, rfl, by omega, (by show 3 ≤ sizeLine; omega), fun q hq => ⟨t, q, _, _, rfl, rfl, (same_new hq) _ _ hT, upd_same, (by rw [List.length_map, htl]; show 10 + 3 * i + 3 ≤ sizeLine; omega), fun t' ht' => ?_⟩⟩
      have s5 : Same H' (upd (upd H' q (.lst [sv wd, sv (wd ++ [97]), sv (cutN wd none (some (-1)))])) t' (.lst (ts.map sv ++ [sv wd, sv (wd ++ [97]), sv (cutN wd none (some (-1)))]))) := (same_new hq).trans (same_new ht')
      refine ⟨ts ++ [wd, wd ++ [97], cutN wd none (some (-1))], t', _, rfl, ?_, ?_, fun y hy => ?_, s4.trans s5, s5 _ _ h6⟩
      · rw [List.map_append]
        exact upd_same
      · rw [List.length_append, htl]
        show 10 + 3 * i + 3 = _
        omega
      · rcases List.mem_append.mp hy with z | z
        · exact hts y z
        · have hcl := cutN_length wd none (some (-1))
          rcases List.mem_cons.mp z with rfl | z
          · exact ⟨hwd, by omega⟩
          · rcases List.mem_cons.mp z with rfl | z
            · refine ⟨hwd.app (by intro c hc; rw [List.mem_singleton.mp hc]; omega), ?_⟩
              rw [List.length_append]
              show wd.length + 1 ≤ 101
              omega
            · rw [List.mem_singleton.mp z]
              exact ⟨letters_cut hwd _ _, by omega⟩
    · rintro σ H' ⟨ts, t, v, rfl, hT, htl, hts, s4, h6⟩
      have htl' : ts.length ≤ 28 := by
        rw [List.length_map, List.length_take] at htl
        omega
      have hr4 := s4 _ _ hr1
      -- asked + [("all", text) for text in texts]
      refine ⟨_, rfl, _, rfl, t, rfl, ⟨_, SqL.of hT⟩, lc_list (K := K) (a := t) (xs := ts.map sv) (fun j acc H6 => ∃ qs : List Addr, acc = qs.map V.ref ∧ DeedsAt H6 qs ((ts.take j).map Deed.all) ∧ Same H' H6 ∧ qs.length = j) (by rw [List.length_map]; omega) ⟨[], rfl, .nil, Same.refl _, rfl⟩
        (fun j acc H6 ⟨qs, e, _, _, hq⟩ => by rw [e, List.length_map, hq]; exact Nat.le_refl _) (fun j acc H6 _ ⟨_, _, _, s6, _⟩ => SqL.of (s6 _ _ hT)) ?_ ?_⟩
      · rintro j x acc H6 hx ⟨qs, rfl, hq, s6, hql⟩
        obtain ⟨tx, htx, rfl⟩ : ∃ tx, ts[j]? = some tx ∧ x = sv tx := by
          rw [List.getElem?_map] at hx
          cases e : ts[j]? with
          | none => rw [e] at hx; cases hx
          | some z => rw [e] at hx; exact ⟨z, rfl, (Option.some.inj hx).symm⟩
        simp only [tYes, if_true]
        refine ⟨_, rfl, (by show 2 ≤ sizeLine; omega), fun p hp => ⟨qs ++ [p], by rw [List.map_append]; rfl, ?_, s6.trans (same_new hp), by rw [List.length_append, hql]; rfl⟩⟩
        rw [List.take_add_one, htx, List.map_append]
        exact (hq.same (same_new hp)).snoc (show DeedAt _ p (.all tx) from upd_same)
      · rintro acc H6 ⟨qs, rfl, hq, s6, hql⟩ p hp
        rw [List.length_map] at hql hq
        rw [List.take_of_length_le (Nat.le_refl _)] at hq
        have s7 := s6.trans (same_new (o := .lst (qs.map V.ref)) hp)
        refine ⟨r, p, ps.map V.ref, qs.map V.ref, rfl, rfl, s7 _ _ hr4, upd_same, by rw [List.length_map, List.length_map]; omega, fun z hz => ?_⟩
        have s8 := s7.trans (same_new (o := .lst (ps.map V.ref ++ qs.map V.ref)) hz)
        have asks : ∀ d ∈ ts.map Deed.all, Asks d := fun d hd' => by
          obtain ⟨x, _, rfl⟩ := List.mem_map.mp hd'
          exact fun _ => rfl
        have hdl2 : (ds ++ ts.map Deed.all).length = ds.length + ts.length := by rw [List.length_append, List.length_map]
        refine ⟨z, ps ++ qs, ds ++ ts.map Deed.all, rfl, by rw [List.map_append]; exact upd_same, (hd.same (s4.trans s8)).app (hq.same ((same_new hp).trans (same_new hz))), fun d hd' => ?_, by omega, fun q us H8 hq0 hq8 hA s9 => ?_⟩
        · rcases List.mem_append.mp hd' with y | y
          · exact .inl (hm d y).fine3
          · obtain ⟨x, hx, rfl⟩ := List.mem_map.mp y
            exact .inr ⟨x, rfl, (hts x hx).1, by have := (hts x hx).2; omega⟩
        · have s18 := s4.trans (s8.trans s9)
          have s48 := s8.trans s9
          have hul : us.length = ds.length + ts.length := by rw [hA.length, run_length, hdl2]
          have ep : (ps.map V.ref).length = ds.length := by rw [List.length_map, hpl]
          have et : (ts.map sv).length = ts.length := List.length_map ..
          refine ⟨_, rfl, _, "list", _, true, rfl, TyOf.lst hq8, isi_list_list, true, rfl, ?_⟩
          refine iteF ⟨_, rfl, _, _, rfl, .inl ⟨_, SqL.of hq8, rfl⟩, _, rfl, _, _, rfl, .inl ⟨_, SqL.of (s18 _ _ hr1), rfl⟩, _, rfl, _, _, rfl, .inl ⟨_, SqL.of (s48 _ _ hT), rfl⟩, _, _, rfl, rfl, rfl, _, rfl, ?_⟩
          refine iteNS (by rw [hul, ep, et]; rfl) ?_
          -- words = sorted(held(asked))
          have hWl : (after [] ds).length ≤ ds.length := by
            have := after_len [] ds
            simp only [List.length_nil] at this
            omega
          refine ⟨_, rfl, r, ps, ds, rfl, s18 _ _ hr1, hd.same s18, hm, by omega, fun hh H9 hh0 hh1 s10 => ⟨hh, after [] ds, rfl, SqL.of hh1, by omega, fun ls' hp' hpw wq hwq => ?_⟩⟩
          have els := srt_eq hp' hpw
          subst els
          have s11 := s10.trans (same_new (o := .lst ((srt (after [] ds)).map sv)) hwq)
          have hWw := after_words hm [] (fun v hv => nomatch hv)
          obtain ⟨H10, eH10⟩ : ∃ H10, H10 = upd H9 wq (.lst ((srt (after [] ds)).map sv)) := ⟨_, rfl⟩
          rw [← eH10] at s11 ⊢
          have hw10 : H10 wq = some (.lst ((srt (after [] ds)).map sv)) := by rw [eH10]; exact upd_same
          have hr10 := (s18.trans s11) _ _ hr1
          have ht10 := (s48.trans s11) _ _ hT
          have hq10 := s11 _ _ hq8
          have hA10 := hA.same s11
          have hsl : (srt (after [] ds)).length ≤ 63 := by
            rw [(srt_perm _).length_eq]
            omega
          have hsw : ∀ v ∈ srt (after [] ds), Letters v ∧ v.length ≤ 100 := fun v hv => hWw v ((srt_perm _).mem_iff.mp hv)
          have hansw : ∀ (j : Nat) tx, ts[j]? = some tx → (run [] (ds ++ ts.map Deed.all))[ds.length + j]? = some (.words ((srt (after [] ds)).filter fun v => tx.isPrefixOf v)) := fun j tx htx => run_asks asks (by rw [List.getElem?_map, htx]; rfl)
          generalize srt (after [] ds) = sw at *
          clear eH10 hp' hpw hWw hWl
          refine ⟨_, rfl, _, _, rfl, .inl ⟨_, SqL.of ht10, rfl⟩, _, rfl, by omega, by omega, for_range (fun i σ H' => ∃ v6 v7 v8 : Option V, σ = [some (.ref a), some (.ref r), some (.ref t), v, some (.ref q), some (.ref wq), v6, v7, v8] ∧ Same H10 H') ⟨_, _, _, rfl, Same.refl _⟩ ?_ ?_⟩
          · rintro i σ H' hi ⟨v6, v7, v8, rfl, s12⟩
            have hit : i < ts.length := by
              have : i < ((ts.map sv).length : Int).toNat := hi
              omega
            have e0 : (0 : Int) + (i : Int) = ((i : Nat) : Int) := by omega
            rw [e0]
            have hta : atI (ts.map sv) (i : Int) = some (sv ts[i]) := atI_nat (by rw [List.getElem?_map, List.getElem?_eq_getElem hit]; rfl)
            obtain ⟨u, hu1, hu2⟩ := hA10.get (hansw i ts[i] (List.getElem?_eq_getElem hit))
            have htk := hts _ (List.getElem_mem hit)
            generalize ts[i] = tx at *
            obtain ⟨pu, rfl, hpu⟩ := hu2
            have etl := S_len tx
            have hxl : tx.length ≤ 101 := htk.2
            refine ⟨(by show 0 ≤ sizeLine; omega), fun du hdu => ?_⟩
            have s13 := s12.trans (same_new (o := .lst []) hdu)
            have hnd : H10 du = none := s12.free hdu
            refine ⟨_, rfl, wq, rfl, ⟨_, SqL.of (s13 _ _ hw10)⟩, for_list (K := K) (a := wq) (xs := sw.map sv) (fun j σ H'' => ∃ v8 : Option V, σ = [some (.ref a), some (.ref r), some (.ref t), v, some (.ref q), some (.ref wq), some (.int (i : Int)), some (.ref du), v8] ∧ H'' du = some (.lst (((sw.take j).filter fun v => tx.isPrefixOf v).map sv)) ∧ Same H10 H'') ⟨_, rfl, upd_same, s13⟩ (fun j σ H'' _ ⟨_, _, _, s14⟩ => SqL.of (s14 _ _ hw10)) ?_ ?_⟩
            · rintro j x σ H'' hx ⟨v8, rfl, hdu2, s14⟩
              obtain ⟨wd, hwd, rfl⟩ : ∃ wd, sw[j]? = some wd ∧ x = sv wd := by
                rw [List.getElem?_map] at hx
                cases e : sw[j]? with
                | none => rw [e] at hx; cases hx
                | some z => rw [e] at hx; exact ⟨z, rfl, (Option.some.inj hx).symm⟩
              have hwl := (hsw wd (List.mem_of_getElem? hwd)).2
              refine ⟨_, rfl, _, rfl, _, rfl, t, _, _, _, rfl, rfl, SqL.of (s14 _ _ ht10), hta, _, _, rfl, ⟨by omega, rfl⟩, _, rfl, wd, rfl, by omega, _, rfl, _, rfl, t, _, _, _, rfl, rfl, SqL.of (s14 _ _ ht10), hta, rfl, _, rfl, ?_⟩
              rw [etl, cutN_to, dec_S, ← pre_take]
              have hjn : ((sw.take j).filter fun v => tx.isPrefixOf v).length ≤ 63 := by
                have h1 := List.length_filter_le (fun v => tx.isPrefixOf v) (sw.take j)
                rw [List.length_take] at h1
                omega
              by_cases hpre : tx.isPrefixOf wd = true
              · rw [hpre]
                refine iteT ⟨_, rfl, .inl ⟨rfl, _, SqL.of hdu2⟩, _, rfl, du, _, _, rfl, rfl, hdu2, by rw [List.length_map]; omega, ?_⟩
                refine ⟨_, rfl, ?_, same_upd s14 hnd⟩
                rw [upd_same, List.take_add_one, hwd, List.filter_append, List.map_append]
                simp [hpre]
              · have hpre' : tx.isPrefixOf wd = false := Bool.eq_false_iff.mpr hpre
                rw [hpre']
                refine iteF ⟨_, rfl, ?_, s14⟩
                rw [hdu2, List.take_add_one, hwd, List.filter_append, List.map_append]
                simp [hpre']
            · rintro σ H'' ⟨v8, rfl, hdu2, s14⟩
              rw [List.length_map, List.take_of_length_le (Nat.le_refl _)] at hdu2
              have hua : atI us (((ps.map V.ref).length : Int) + (i : Int)) = some (.ref pu) := by
                rw [ep]
                exact atI_nat (j := ds.length + i) hu1
              refine ⟨_, rfl, _, rfl, _, _, rfl, .inl ⟨_, SqL.of ((s18.trans (s11.trans s14)) _ _ hr1), rfl⟩, _, rfl, _, _, rfl, rfl, q, _, _, _, rfl, rfl, SqL.of (s14 _ _ hq10), hua, _, rfl, pu, du, _, rfl, s14 _ _ hpu, hdu2, ?_, true, rfl, ?_⟩
              · have h1 := List.length_filter_le (fun v => tx.isPrefixOf v) sw
                omega
              · exact iteF ⟨_, _, _, rfl, s14⟩
          · rintro σ H' ⟨v6, v7, v8, rfl, s12⟩
            exact k _
end

end K04

set_option Elab.async false
set_option linter.all false
set_option maxRecDepth 100000
set_option maxHeartbeats 4000000
namespace K04
open PySem L2 WH
/-! ### the program: a twig -/
abbrev sTwig : Stmt := top 2
abbrev sHedge : Stmt := top 6
abbrev sTInit : Stmt := inClass sTwig 0
abbrev sPutHere : Stmt := inClass sTwig 2
abbrev sTakeHere : Stmt := inClass sTwig 3
abbrev sFollow : Stmt := inClass sTwig 4
abbrev sGrow : Stmt := inClass sTwig 5
abbrev sSettle : Stmt := inClass sTwig 6
structure PTxt (K : PySem.W.Frag) (mg : Str → Option Value) (C CH : Addr) : Prop where
  cl_Twig : Cls K C
  cl_Hedge : Cls K CH
  nT : NoAttr K C "text"
  nH : NoAttr K C "here"
  nM : NoAttr K C "many"
  nL : NoAttr K C "longer"
  nR : NoAttr K CH "root"
  mg_Twig : mg "Twig" = some (.ref C)
  mg_Hedge : mg "Hedge" = some (.ref CH)
  reversed : mg "reversed" = none
theorem few {fs : List (Str × V)} {f : Str} {y : V} {n : Nat} (h : fs.length < n) : (putF f y fs).length < n + 1 := Nat.lt_of_le_of_lt (length_putF ..) (Nat.succ_lt_succ h)
theorem four (t : List Nat) (h : Bool) (m : Nat) (d : Addr) : (flds t h m d).length < 1000 := by show 4 < 1000; decide
def spTInit (C : Addr) : Sp := fun vs H Q _ => ∃ (p dx : Addr) (t : List Nat), vs = [.ref p, sv t] ∧ H p = some (.ins C dx []) ∧ ∀ (d : Addr) (H' : Hp), H d = none → H' p = some (.ins C dx (flds t false 0 d)) → H' d = some (.dK []) → (∀ b o, H b = some o → b ≠ p → H' b = some o) → Q .non H'
def spPutHere (C : Addr) : Sp := fun vs H Q _ => ∃ (p dx d : Addr) (t : List Nat) (h : Bool) (m : Nat), vs = [.ref p] ∧ H p = some (.ins C dx (flds t h m d)) ∧ (h = true → Q (.bl false) H) ∧ (h = false → Q (.bl true) (upd H p (.ins C dx (flds t true (m + 1) d))))
def spTakeHere (C : Addr) : Sp := fun vs H Q _ => ∃ (p dx d : Addr) (t : List Nat) (h : Bool) (m : Nat), vs = [.ref p] ∧ H p = some (.ins C dx (flds t h m d)) ∧ (h = false → Q (.bl false) H) ∧ (h = true → 0 < m ∧ Q (.bl true) (upd H p (.ins C dx (flds t false (m - 1) d))))
def spFollow (C : Addr) : Sp := fun vs H Q _ => ∃ (p dx d : Addr) (t : List Nat) (h : Bool) (m : Nat) (kvs : List (Key × V)) (x : Str), vs = [.ref p, .str x] ∧ H p = some (.ins C dx (flds t h m d)) ∧ H d = some (.dK kvs) ∧ Q ((valV kvs (Sum.inr x : Key)).getD .non) H
def spGrow (C CH : Addr) : Sp := fun vs H Q _ => ∃ (Z : Addr → Prop) (g : Addr) (N : NM) (hr : List Nat → Bool) (mn : List Nat → Nat) (t : List Nat) (y : Tw) (c : Nat), vs = [.ref y.p, sv [c]] ∧ HedAt C CH Z H g N hr mn ∧ N t = some y ∧ (97 ≤ c ∧ c ≤ 122) ∧ t.length < 110 ∧ (∀ b, H b = none → Z b) ∧
  (∀ z, N (t ++ [c]) = some z → Q (.ref z.p) H) ∧ (N (t ++ [c]) = none → ∀ z H', HedAt C CH Z H' g (setN N (t ++ [c]) (some z)) (setN hr (t ++ [c]) false) (setN mn (t ++ [c]) 0) → Kp Z H H' → Q (.ref z.p) H')
def spSettle (C : Addr) : Sp := fun vs H Q _ => ∃ (p dx d : Addr) (t : List Nat) (h : Bool) (m : Nat) (N : NM) (ks : List Nat) (mf : Nat → Nat), vs = [.ref p] ∧ H p = some (.ins C dx (flds t h m d)) ∧ H d = some (.dK (kv N t ks)) ∧ ks.Nodup ∧ ks.length ≤ 26 ∧
  (∀ c ∈ ks, ∃ z hz, N (t ++ [c]) = some z ∧ H z.p = some (.ins C z.x (flds (t ++ [c]) hz (mf c) z.d))) ∧
  ∀ (d' : Addr) (H' : Hp), H d' = none → H' p = some (.ins C dx (flds t h (ind h + ((ks.filter fun c => decide (0 < mf c)).map mf).sum) d')) → H' d' = some (.dK (kv N t (ks.filter fun c => decide (0 < mf c)))) → (∀ b o, H b = some o → b ≠ p → H' b = some o) → Q .non H'
section
variable {P : Program} {w : World} {K : PySem.W.Frag} {mg : Str → Option Value} {base : Heap} {C CH : Addr}
theorem scTI : FnScope ["self", "text"] ["self", "text"] (defScope sTInit) := ⟨rfl, rfl, rfl, by decide +kernel, rfl, by decide +kernel, by decide +kernel⟩
theorem ok_tinit {f : Addr} {fd : FuncData} (F : Fun K "__init__" "Twig.__init__" sTInit f fd) (T : PTxt K mg C CH) : FnOk P w K mg base CX0 1 f fd ["self", "text"] (spTInit C) := by
  refine F.ok scTI (fun vs H Q E h => ?_) (fun cdv AA outer s H vs Q E hr h => ?_)
  · obtain ⟨p, dx, t, rfl, _⟩ := h
    rfl
  · obtain ⟨p, dx, t, rfl, hp, k⟩ := h
    refine ⟨_, (pss_cons (ps_fld (pv 0) (pv 1) rfl)
      (pss_cons (ps_fld (pv 0) pe_bl rfl)
      (pss_cons (ps_fld (pv 0) pe_int rfl)
      (pss_one (ps_fld (pv 0) pe_dnewK rfl))))), ?_⟩
    refine ⟨_, rfl, _, rfl, p, C, dx, [], rfl, hp, T.cl_Twig, T.nT, (by show 0 < 1000; decide), ?_⟩
    refine ⟨_, rfl, p, C, dx, _, rfl, upd_same, T.cl_Twig, T.nH, Nat.lt_trans (few (n := 1) (by show 0 < 1; decide)) (by decide), ?_⟩
    refine ⟨_, rfl, p, C, dx, _, rfl, upd_same, T.cl_Twig, T.nM, Nat.lt_trans (few (few (n := 1) (by show 0 < 1; decide))) (by decide), ?_⟩
    intro d hd
    have npd : p ≠ d := ne_of_none upd_same hd
    refine ⟨_, rfl, p, C, dx, _, rfl, (by rw [upd_ne npd]; exact upd_same), T.cl_Twig, T.nL, Nat.lt_trans (few (few (few (n := 1) (by show 0 < 1; decide)))) (by decide), ?_⟩
    have hd0 : H d = none := by
      rw [upd_ne npd.symm, upd_ne npd.symm, upd_ne npd.symm] at hd
      exact hd
    refine k d _ hd0 (upd_same.trans (congrArg (fun l => some (HO.ins C dx l)) (f_made t d))) (by rw [upd_ne npd.symm]; exact upd_same) fun b o e hb => ?_
    rw [upd_ne hb, upd_ne (ne_of_none e hd0), upd_ne hb, upd_ne hb, upd_ne hb]
    exact e
theorem scPH : FnScope ["self"] ["self"] (defScope sPutHere) := ⟨rfl, rfl, rfl, by decide +kernel, rfl, by decide +kernel, by decide +kernel⟩
theorem ok_puthere {f : Addr} {fd : FuncData} (F : Fun K "put_here" "Twig.put_here" sPutHere f fd) (T : PTxt K mg C CH) : FnOk P w K mg base CX0 1 f fd ["self"] (spPutHere C) := by
  refine F.ok scPH (fun vs H Q E h => ?_) (fun cdv AA outer s H vs Q E hr h => ?_)
  · obtain ⟨p, dx, d, t, h, m, rfl, _⟩ := h
    rfl
  · obtain ⟨p, dx, d, t, h, m, rfl, hp, k1, k2⟩ := h
    refine ⟨_, (pss_cons (ps_if (pt_val (pe_fld (pv 0) rfl)) (pss_one (ps_ret pe_bl)) pss_nil)
      (pss_cons (ps_fld (pv 0) pe_bl rfl)
      (pss_cons (ps_fld (pv 0) (pe_op op_add (pe_fld (pv 0) rfl) pe_int) rfl)
      (pss_one (ps_ret pe_bl))))), ?_⟩
    refine ⟨_, rfl, p, C, dx, _, _, rfl, hp, T.cl_Twig, T.nH, f_here .., h, rfl, ?_⟩
    cases h with
    | true => exact iteT (k1 rfl)
    | false =>
      refine iteF ?_
      refine ⟨_, rfl, p, C, dx, _, rfl, hp, T.cl_Twig, T.nH, four .., ?_⟩
      rw [p_here]
      refine ⟨_, rfl, p, C, dx, _, _, rfl, upd_same, T.cl_Twig, T.nM, f_many .., _, _, rfl, rfl, _, rfl, p, C, dx, _, rfl, upd_same, T.cl_Twig, T.nM, four .., ?_⟩
      have e : ((m : Int) + 1) = ((m + 1 : Nat) : Int) := by omega
      show Q (.bl true) (upd (upd H p (.ins C dx (flds t true m d))) p (.ins C dx (putF "many" (.int ((m : Int) + 1)) (flds t true m d))))
      rw [e, p_many, upd_upd]
      exact k2 rfl
theorem scTH : FnScope ["self"] ["self"] (defScope sTakeHere) := ⟨rfl, rfl, rfl, by decide +kernel, rfl, by decide +kernel, by decide +kernel⟩
theorem ok_takehere {f : Addr} {fd : FuncData} (F : Fun K "take_here" "Twig.take_here" sTakeHere f fd) (T : PTxt K mg C CH) : FnOk P w K mg base CX0 1 f fd ["self"] (spTakeHere C) := by
  refine F.ok scTH (fun vs H Q E h => ?_) (fun cdv AA outer s H vs Q E hr h => ?_)
  · obtain ⟨p, dx, d, t, h, m, rfl, _⟩ := h
    rfl
  · obtain ⟨p, dx, d, t, h, m, rfl, hp, k1, k2⟩ := h
    refine ⟨_, (pss_cons (ps_if (pt_not (pt_val (pe_fld (pv 0) rfl))) (pss_one (ps_ret pe_bl)) pss_nil)
      (pss_cons (ps_fld (pv 0) pe_bl rfl)
      (pss_cons (ps_fld (pv 0) (pe_op op_sub (pe_fld (pv 0) rfl) pe_int) rfl)
      (pss_one (ps_ret pe_bl))))), ?_⟩
    refine ⟨_, rfl, p, C, dx, _, _, rfl, hp, T.cl_Twig, T.nH, f_here .., h, rfl, ?_⟩
    cases h with
    | false => exact iteT (k1 rfl)
    | true =>
      refine iteF ?_
      obtain ⟨hm, k2⟩ := k2 rfl
      refine ⟨_, rfl, p, C, dx, _, rfl, hp, T.cl_Twig, T.nH, four .., ?_⟩
      rw [p_here]
      refine ⟨_, rfl, p, C, dx, _, _, rfl, upd_same, T.cl_Twig, T.nM, f_many .., _, _, rfl, rfl, _, rfl, p, C, dx, _, rfl, upd_same, T.cl_Twig, T.nM, four .., ?_⟩
      have e : ((m : Int) - 1) = ((m - 1 : Nat) : Int) := by omega
      show Q (.bl true) (upd (upd H p (.ins C dx (flds t false m d))) p (.ins C dx (putF "many" (.int ((m : Int) - 1)) (flds t false m d))))
      rw [e, p_many, upd_upd]
      exact k2
theorem scFo : FnScope ["self", "letter"] ["self", "letter"] (defScope sFollow) := ⟨rfl, rfl, rfl, by decide +kernel, rfl, by decide +kernel, by decide +kernel⟩
theorem ok_follow {f : Addr} {fd : FuncData} (F : Fun K "follow" "Twig.follow" sFollow f fd) (T : PTxt K mg C CH) : FnOk P w K mg base CX0 1 f fd ["self", "letter"] (spFollow C) := by
  refine F.ok scFo (fun vs H Q E h => ?_) (fun cdv AA outer s H vs Q E hr h => ?_)
  · obtain ⟨p, dx, d, t, h, m, kvs, x, rfl, _⟩ := h
    rfl
  · obtain ⟨p, dx, d, t, h, m, kvs, x, rfl, hp, hd, k⟩ := h
    have hu := hu_of hr
    refine ⟨_, (pss_one (ps_ret (pe_dget1 hu (pe_fld (pv 0) rfl) (pv 1) ⟨rfl, rfl, rfl, rfl⟩))), ?_⟩
    exact ⟨_, rfl, p, C, dx, _, _, rfl, hp, T.cl_Twig, T.nL, f_longer .., d, rfl, .inl ⟨kvs, .inl hd⟩, _, rfl, _, DGet.k (k := Sum.inr x) hd, k⟩
theorem scGr : FnScope ["self", "letter"] ["self", "letter"] (defScope sGrow) := ⟨rfl, rfl, rfl, by decide +kernel, rfl, by decide +kernel, by decide +kernel⟩
theorem ok_grow {f fI : Addr} {fd fdI : FuncData} (F : Fun K "grow" "Twig.grow" sGrow f fd) (T : PTxt K mg C CH) (M_Twig : Mk K C fI) (FI : Fun K "__init__" "Twig.__init__" sTInit fI fdI) (b_Twig : Binds K fdI ["self", "text"] []) : FnOk P w K mg base CX0 3 f fd ["self", "letter"] (spGrow C CH) := by
  have G_Twig : FnOk P w K mg base CX0 1 fI fdI ["self", "text"] (spTInit C) := ok_tinit FI T
  refine F.ok scGr (fun vs H Q E h => ?_) (fun cdv AA outer s H vs Q E hr h => ?_)
  · obtain ⟨Z, g, N, hr', mn, t, y, c, rfl, _⟩ := h
    rfl
  · obtain ⟨Z, g, N, hr', mn, t, y, c, rfl, hA, ht, hc, hl, hZ, k1, k2⟩ := h
    have hu := hu_of hr
    have hr_Twig : Room 2 _ := hr
    have hsz := sizeLine_eq
    obtain ⟨hp, zp, zd, ks, hd, nd, hm⟩ := hA.tw t y ht
    refine ⟨_, (pss_consM (ps_if (pt_cmp (pc_dnotin hu (pv 1) (pe_fld (pv 0) rfl))) (pss_one (ps_dput hu (pe_fld (pv 0) rfl) (pv 1) (pe_make M_Twig G_Twig hr_Twig rfl T.mg_Twig b_Twig .nil pass0 (pa_cons (pe_op op_addN (pe_fld (pv 0) rfl) (pv 1)) pa_nil)) rfl)) pss_nil)
      (pss_one (ps_ret (pe_dget hu (pe_fld (pv 0) rfl) (pv 1) (fun _ _ => rfl))))), ?_⟩
    refine ⟨fun σ' H' => σ' = [some (.ref y.p), some (sv [c])] ∧ ∃ z kvs, H' y.p = some (.ins C y.x (flds t (hr' t) (mn t) y.d)) ∧ H' y.d = some (.dK kvs) ∧ valV kvs (key c) = some (.ref z) ∧ Q (.ref z) H', ?_, ?_⟩
    · rintro σ' H' ⟨rfl, z, kvs, e1, e2, e3, q⟩
      refine ⟨_, rfl, y.p, C, y.x, _, _, rfl, e1, T.cl_Twig, T.nL, f_longer .., _, rfl, y.d, _, rfl, (by rw [← e3]; exact DGet.k (k := key c) e2), q⟩
    · refine ⟨_, rfl, _, rfl, y.p, C, y.x, _, _, rfl, hp, T.cl_Twig, T.nL, f_longer .., y.d, _, rfl, DGet.k (k := key c) hd, _, rfl, ?_⟩
      rw [valV_kv]
      by_cases hcm : c ∈ ks
      · rw [if_pos hcm]
        refine iteF ?_
        obtain ⟨z, hz⟩ := Option.isSome_iff_exists.mp ((hm c).mp hcm)
        exact ⟨rfl, z.p, _, hp, hd, by rw [valV_kv, if_pos hcm, A_some hz], k1 z hz⟩
      · rw [if_neg hcm]
        refine iteT ?_
        have hn : N (t ++ [c]) = none := by
          cases q : N (t ++ [c]) with
          | none => rfl
          | some _ => exact absurd ((hm c).mpr (by rw [q]; rfl)) hcm
        refine ⟨_, rfl, y.p, C, y.x, _, _, rfl, hp, T.cl_Twig, T.nT, f_text .., _, rfl, t, [c], rfl, rfl, (by show t.length + 1 ≤ _; omega), ?_⟩
        intro x xd nx nxd nex
        refine ⟨x, xd, t ++ [c], rfl, upd_same, fun d' H1 hd' h1 h2 kp => ⟨rfl, ?_⟩⟩
        have s0 : Same H H1 := fun b o e => kp b o (by rw [upd_ne (ne_of_none e nx), upd_ne (ne_of_none e nxd)]; exact e) (ne_of_none e nx)
        have dx' : d' ≠ x := fun q => by
          rw [q, upd_same] at hd'
          cases hd'
        have dxd : d' ≠ xd := fun q => by
          rw [q, upd_ne nex, upd_same] at hd'
          cases hd'
        have dn : H d' = none := by
          rw [upd_ne dx', upd_ne dxd] at hd'
          exact hd'
        have nyx : x ≠ y.d := fun q => by
          rw [← q, nx] at hd
          cases hd
        have nyd : d' ≠ y.d := fun q => by
          rw [← q, dn] at hd
          cases hd
        refine ⟨_, rfl, y.p, C, y.x, _, _, rfl, s0 _ _ hp, T.cl_Twig, T.nL, f_longer .., _, rfl, y.d, _, rfl, DPut.k (k := key c) (s0 _ _ hd) (small1000 (by have := hA.few nd hm; rw [kv_len]; omega)), ?_⟩
        have hpd : y.p ≠ y.d := ne_of hp hd (by intro z; cases z)
        have HG := hA.grow (H' := upd H1 y.d (.dK (putK (kv N t ks) (key c) (.ref x)))) (z := ⟨x, d', xd⟩) ht hc hl hn hd nd hm (by show upd H1 y.d _ x = _; rw [upd_ne nyx]; exact h1) (by show upd H1 y.d _ d' = _; rw [upd_ne nyd]; exact h2) upd_same
          (fun b o e hb => by rw [upd_ne hb]; exact s0 _ _ e) (hZ x nx) (hZ d' dn) dn
        refine ⟨rfl, x, _, by rw [upd_ne hpd]; exact s0 _ _ hp, upd_same, by rw [valV_put, if_pos rfl], k2 hn ⟨x, d', xd⟩ _ HG ?_⟩
        exact Kp.but hd zd (by intro _ z; cases z) (by intro _ z; cases z) fun b o e hb => by rw [upd_ne hb]; exact s0 _ _ e
theorem scSe : FnScope ["self", "kept", "many", "letter", "twig"] ["self"] (defScope sSettle) := ⟨rfl, rfl, rfl, by decide +kernel, rfl, by decide +kernel, by decide +kernel⟩
theorem ok_settle {f : Addr} {fd : FuncData} (F : Fun K "settle" "Twig.settle" sSettle f fd) (T : PTxt K mg C CH) : FnOk P w K mg base CX0 1 f fd ["self"] (spSettle C) := by
  refine F.ok scSe (fun vs H Q E h => ?_) (fun cdv AA outer s H vs Q E hr h => ?_)
  · obtain ⟨p, dx, d, t, h, m, N, ks, mf, rfl, _⟩ := h
    rfl
  · obtain ⟨p, dx, d, t, h, m, N, ks, mf, rfl, hp, hd, ndk, hl, hz, k⟩ := h
    have hu := hu_of hr
    have nd := scSe.nd
    have hsz := sizeLine_eq
    have npd : p ≠ d := ne_of hp hd (by intro z; cases z)
    refine ⟨_, (pss_cons (ps_set (i := 1) nd rfl (Or.inl rfl) pe_dnewK)
      (pss_consM (ps_set (i := 2) nd rfl (Or.inl rfl) (pe_ifExp (pt_val (pe_fld (pv 0) rfl)) pe_int pe_int))
      (pss_consT (ps_for PassesOwn.never rfl (pi_items (pe_fld (pv 0) rfl)) (pg_tup rfl (pgs_cons (pg_name (i := 3) nd rfl (Or.inl rfl)) (pgs_cons (pg_name (i := 4) nd rfl (Or.inl rfl)) pgs_nil))) (pss_one (ps_if (pt_cmpR op_gt (pe_fld (pv 4) rfl) pe_int (nomark _)) (pss_cons (ps_dput hu (pv 1) (pv 3) (pv 4) rfl)
      (pss_one (ps_set (i := 2) nd rfl (Or.inl rfl) (pe_op op_add (pv 2) (pe_fld (pv 4) rfl))))) pss_nil)))
      (pss_cons (ps_fld (pv 0) (pv 1) rfl)
      (pss_one (ps_fld (pv 0) (pv 2) rfl)))))), ?_⟩
    -- kept = {}
    intro q hq
    have nqd : q ≠ d := fun z => by rw [z, hd] at hq; cases hq
    have nqp : p ≠ q := ne_of_none hp hq
    have hp1 : (upd H q (.dK [])) p = some (.ins C dx (flds t h m d)) := by rw [upd_ne nqp]; exact hp
    have hd1 : (upd H q (.dK [])) d = some (.dK (kv N t ks)) := by rw [upd_ne nqd.symm]; exact hd
    -- many = 1 if self.here else 0
    refine ⟨fun σ' H' => σ' = [some (.ref p), some (.ref q), some (.int (ind h : Nat)), none, none] ∧ H' = upd H q (.dK []), ?_, ?_⟩
    · rintro σ' H' ⟨rfl, rfl⟩
      refine ⟨_, rfl, p, C, dx, _, _, rfl, hp1, T.cl_Twig, T.nL, f_longer .., d, _, rfl, .inl ⟨hd1, fun o => for_items (fun i σ' H' => ∃ l u : Option V, σ' = [some (.ref p), some (.ref q), some (.int ((ind h + (((ks.take i).filter fun c => decide (0 < mf c)).map mf).sum : Nat) : Int)), l, u] ∧
        H' d = some (.frz o (.dK (kv N t ks))) ∧ H' q = some (.dK (kv N t ((ks.take i).filter fun c => decide (0 < mf c)))) ∧ ∀ b o', H b = some o' → b ≠ d → H' b = some o') ?_ ?_ ?_ ?_⟩⟩
      · refine ⟨none, none, rfl, upd_same, by rw [upd_ne nqd]; exact upd_same, fun b o' e hb => ?_⟩
        rw [upd_ne hb, upd_ne (ne_of_none e hq)]
        exact e
      · rintro i σ' H' _ ⟨l, u, rfl, e1, _⟩
        exact e1
      · rintro i kv' b σ' H' hi hb ⟨l, u, rfl, e1, e2, e3⟩
        obtain ⟨c, hc, rfl⟩ := kv_get hi
        have hcm : c ∈ ks := List.mem_of_getElem? hc
        obtain ⟨z, hz1, hN, hz2⟩ := hz c hcm
        have nzd : z.p ≠ d := ne_of hz2 hd (by intro z; cases z)
        have nzb : z.p ≠ b := ne_of_none (e3 _ _ hz2 nzd) hb
        have hzb : (upd H' b (.tup [kV (key c), A N (t ++ [c])])) z.p = some (.ins C z.x (flds (t ++ [c]) hz1 (mf c) z.d)) := by rw [upd_ne nzb]; exact e3 _ _ hz2 nzd
        have tk : ks.take (i + 1) = ks.take i ++ [c] := by rw [List.take_succ, hc]; rfl
        have nqb : q ≠ b := ne_of_none e2 hb
        have ndb : d ≠ b := ne_of_none e1 hb
        refine ⟨b, _, rfl, SqT.of upd_same, rfl, _, _, rfl, _, _, rfl, rfl, ?_⟩
        refine ⟨_, rfl, z.p, C, z.x, _, _, A_some hN, hzb, T.cl_Twig, T.nM, f_many .., _, _, rfl, rfl, _, rfl, ?_⟩
        refine ite2 (fun hgt => ?_) (fun hle => ?_)
        · have hpos : 0 < mf c := by
            have := of_decide_eq_true hgt
            omega
          have ef : (ks.take (i + 1)).filter (fun c => decide (0 < mf c)) = (ks.take i).filter (fun c => decide (0 < mf c)) ++ [c] := by
            rw [tk, List.filter_append, List.filter_cons, if_pos (decide_eq_true hpos), List.filter_nil]
          have hcn : c ∉ (ks.take i).filter fun c => decide (0 < mf c) := fun y => by
            have y' := (List.mem_filter.mp y).1
            have hn := ndk
            have hsub : (ks.take (i + 1)).Nodup := hn.sublist (List.take_sublist ..)
            rw [tk, List.nodup_append] at hsub
            exact hsub.2.2 c y' c (by simp) rfl
          have nzq : z.p ≠ q := ne_of_none hz2 hq
          have hfl : ((ks.take i).filter fun c => decide (0 < mf c)).length ≤ 26 := Nat.le_trans (List.length_filter_le _ _) (Nat.le_trans (List.length_take_le' ..) hl)
          refine ⟨_, rfl, _, rfl, _, rfl, q, _, rfl, DPut.k (k := key c) (by rw [upd_ne nqb]; exact e2) (small1000 (by rw [kv_len]; omega)), ?_⟩
          refine ⟨_, rfl, _, rfl, z.p, C, z.x, _, _, A_some hN, (by rw [upd_ne nzq]; exact hzb), T.cl_Twig, T.nM, f_many .., _, _, rfl, rfl, ?_⟩
          refine ⟨some (kV (key c)), some (A N (t ++ [c])), ?_, by rw [upd_ne nqd.symm, upd_ne ndb]; exact e1, ?_, fun b' o' e hb' => ?_⟩
          · have es : ((ind h + (((ks.take (i + 1)).filter fun c => decide (0 < mf c)).map mf).sum : Nat) : Int) = ((ind h + (((ks.take i).filter fun c => decide (0 < mf c)).map mf).sum : Nat) : Int) + (mf c : Int) := by
              rw [ef, List.map_append, List.sum_append]
              simp
              omega
            rw [es]
            rfl
          · rw [upd_same, kv_put hcn, ef]
            show _ = some (HO.dK ((((ks.take i).filter fun c => decide (0 < mf c)) ++ [c]).map _))
            rw [List.map_append]
            rfl
          · rw [upd_ne (ne_of_none e hq), upd_ne (ne_of_none (e3 _ _ e hb') hb)]
            exact e3 _ _ e hb'
        · have hpos : ¬ 0 < mf c := by
            intro z
            exact hle (decide_eq_true (by omega))
          have ef : (ks.take (i + 1)).filter (fun c => decide (0 < mf c)) = (ks.take i).filter (fun c => decide (0 < mf c)) := by
            rw [tk, List.filter_append, List.filter_cons, if_neg (by rw [decide_eq_false hpos]; decide), List.filter_nil, List.append_nil]
          refine ⟨some (kV (key c)), some (A N (t ++ [c])), by rw [ef]; rfl, by rw [upd_ne ndb]; exact e1, by rw [upd_ne nqb, ef]; exact e2, fun b' o' e hb' => ?_⟩
          rw [upd_ne (ne_of_none (e3 _ _ e hb') hb)]
          exact e3 _ _ e hb'
      · rintro σ' H' ⟨l, u, rfl, e1, e2, e3⟩
        rw [kv_len, List.take_length] at e2
        refine ⟨upd H' d (.dK (kv N t ks)), .inr ⟨d, o, _, e1, fun o' u' z => ?_, rfl⟩, ?_⟩
        · have z' : H d = some (.frz o' u') := z
          rw [hd] at z'
          cases z'
        · refine ⟨_, rfl, _, rfl, p, C, dx, _, rfl, (by rw [upd_ne npd]; exact e3 _ _ hp npd), T.cl_Twig, T.nL, four .., ?_⟩
          rw [p_longer]
          refine ⟨_, rfl, _, rfl, p, C, dx, _, rfl, upd_same, T.cl_Twig, T.nM, four .., ?_⟩
          rw [kv_len, List.take_length, p_many, upd_upd]
          refine k q _ hq upd_same (by rw [upd_ne nqp.symm, upd_ne nqd]; exact e2) fun b o' e hb => ?_
          rw [upd_ne hb]
          by_cases hbd : b = d
          · rw [hbd, upd_same, ← hd, ← hbd, e]
          · rw [upd_ne hbd]
            exact e3 _ _ e hbd
    · refine ⟨_, rfl, p, C, dx, _, _, rfl, hp1, T.cl_Twig, T.nH, f_here .., h, rfl, ?_⟩
      cases h with
      | true => exact iteT ⟨rfl, rfl⟩
      | false => exact iteF ⟨rfl, rfl⟩
end

/-! ### the program: the hedge -/
abbrev sHInit : Stmt := inClass sHedge 0
abbrev sPut : Stmt := inClass sHedge 1
abbrev sTake : Stmt := inClass sHedge 2
abbrev sHas : Stmt := inClass sHedge 3
abbrev sPath : Stmt := inClass sHedge 9
abbrev sBack : Stmt := top 5
structure HTxt (mg : Str → Option Value) (fSB : Addr) : Prop where
  settle_back : mg "settle_back" = some (.ref fSB)
def spHInit (C CH : Addr) : Sp := fun vs H Q _ => ∃ (g dx : Addr) (Z : Addr → Prop), vs = [.ref g] ∧ H g = some (.ins CH dx []) ∧ (∀ b, H b = none → Z b) ∧ ∀ H', DayAt C CH Z H' g [] → (∀ b o, H b = some o → b ≠ g → H' b = some o) → Q .non H'
def pathV (N : NM) (w : List Nat) (k : Nat) : List V := (List.range (k + 1)).map fun j => A N (w.take j)
theorem pathV_succ (N : NM) (w : List Nat) (k : Nat) : pathV N w (k + 1) = pathV N w k ++ [A N (w.take (k + 1))] := by
  unfold pathV
  rw [List.range_succ, List.map_append]
  rfl
theorem pathV_last (N : NM) (w : List Nat) (k : Nat) : atI (pathV N w k) (-1) = some (A N (w.take k)) := by
  unfold pathV
  rw [List.range_succ, List.map_append]
  exact atI_last _ _
theorem pathV_len (N : NM) (w : List Nat) (k : Nat) : (pathV N w k).length = k + 1 := by simp [pathV]
theorem pathV_get {N : NM} {w : List Nat} {k j : Nat} (h : j ≤ k) : (pathV N w k)[j]? = some (A N (w.take j)) := by
  unfold pathV
  rw [List.getElem?_map, List.getElem?_range (by omega)]
  rfl
theorem pathV_congr {N N' : NM} {w : List Nat} {k : Nat} (h : ∀ j, j ≤ k → A N (w.take j) = A N' (w.take j)) : pathV N w k = pathV N' w k := List.map_congr_left fun j hj => h j (by have := List.mem_range.mp hj; omega)
def spBack (C CH : Addr) : Sp := fun vs H Q _ => ∃ (Z : Addr → Prop) (g : Addr) (N : NM) (W1 Wn : List (List Nat)) (w : List Nat) (st : List Nat → Nat) (l : Addr), vs = [.ref l] ∧ Sett W1 Wn w ∧ HedAt C CH Z H g N (fun t => decide (t ∈ Wn)) (mnK Wn w st (w.length + 1)) ∧
  (∀ t, (N t).isSome = true ↔ DomK W1 Wn w (w.length + 1) t) ∧ (∀ b, H b = none → Z b) ∧ H l = some (.lst (pathV N w w.length)) ∧ w.length ≤ 110 ∧
  ∀ H', (∃ N' : NM, HedAt C CH Z H' g N' (fun t => decide (t ∈ Wn)) (cnt Wn) ∧ ∀ t, (N' t).isSome = true ↔ t = [] ∨ 0 < cnt Wn t) → Kp Z H H' → Q .non H'
def spPath (C CH : Addr) : Sp := fun vs H Q _ => ∃ (Z : Addr → Prop) (g : Addr) (N : NM) (hr : List Nat → Bool) (mn : List Nat → Nat) (w : List Nat), vs = [.ref g, sv w] ∧ HedAt C CH Z H g N hr mn ∧ Letters w ∧ w.length ≤ 1000 ∧
  ∀ (k : Nat) (l : Addr) (H' : Hp), k ≤ w.length → (∀ j, j ≤ k → (N (w.take j)).isSome = true) → (k = w.length ∨ N (w.take (k + 1)) = none) → H l = none → H' l = some (.lst (pathV N w k)) → Same H H' → Q (.ref l) H'
/-- put, take and has tell by the words there are -/
def spPut (C CH : Addr) : Sp := fun vs H Q _ => ∃ (Z : Addr → Prop) (g : Addr) (W : List (List Nat)) (w : List Nat), vs = [.ref g, sv w] ∧ DayAt C CH Z H g W ∧ (∀ b, H b = none → Z b) ∧ Letters w ∧ w.length ≤ 110 ∧
  ∀ H', DayAt C CH Z H' g (stepW W (.put w)) → Kp Z H H' → Q (.bl (!decide (w ∈ W))) H'
def spTake (C CH : Addr) : Sp := fun vs H Q _ => ∃ (Z : Addr → Prop) (g : Addr) (W : List (List Nat)) (w : List Nat), vs = [.ref g, sv w] ∧ DayAt C CH Z H g W ∧ (∀ b, H b = none → Z b) ∧ Letters w ∧ w.length ≤ 110 ∧
  ∀ H', DayAt C CH Z H' g (stepW W (.take w)) → Kp Z H H' → Q (.bl (decide (w ∈ W))) H'
def spHas (C CH : Addr) : Sp := fun vs H Q _ => ∃ (Z : Addr → Prop) (g : Addr) (W : List (List Nat)) (w : List Nat), vs = [.ref g, sv w] ∧ DayAt C CH Z H g W ∧ Letters w ∧ w.length ≤ 110 ∧ ∀ H', Same H H' → Q (.bl (decide (w ∈ W))) H'
section
variable {P : Program} {w : World} {K : PySem.W.Frag} {mg : Str → Option Value} {base : Heap} {C CH : Addr}
theorem scHI : FnScope ["self"] ["self"] (defScope sHInit) := ⟨rfl, rfl, rfl, by decide +kernel, rfl, by decide +kernel, by decide +kernel⟩
theorem ok_hinit {f fI : Addr} {fd fdI : FuncData} (F : Fun K "__init__" "Hedge.__init__" sHInit f fd) (T : PTxt K mg C CH) (M_Twig : Mk K C fI) (FI : Fun K "__init__" "Twig.__init__" sTInit fI fdI) (b_Twig : Binds K fdI ["self", "text"] []) : FnOk P w K mg base CX0 3 f fd ["self"] (spHInit C CH) := by
  have G_Twig : FnOk P w K mg base CX0 1 fI fdI ["self", "text"] (spTInit C) := ok_tinit FI T
  refine F.ok scHI (fun vs H Q E h => ?_) (fun cdv AA outer s H vs Q E hr h => ?_)
  · obtain ⟨g, dx, Z, rfl, _⟩ := h
    rfl
  · obtain ⟨g, dx, Z, rfl, hg, hZ, k⟩ := h
    have hr_Twig : Room 2 _ := hr
    refine ⟨_, (pss_one (ps_fld (pv 0) (pe_make M_Twig G_Twig hr_Twig rfl T.mg_Twig b_Twig .nil pass0 (pa_cons pe_str pa_nil)) rfl)), ?_⟩
    intro x xd nx nxd nex
    refine ⟨x, xd, [], congrArg (fun z => [V.ref x, V.str z]) nil_eq, upd_same, fun d' H1 hd' h1 h2 kp => ⟨rfl, ?_⟩⟩
    have s0 : Same H H1 := fun b o e => kp b o (by rw [upd_ne (ne_of_none e nx), upd_ne (ne_of_none e nxd)]; exact e) (ne_of_none e nx)
    have dx' : d' ≠ x := fun q => by
      rw [q, upd_same] at hd'
      cases hd'
    have dxd : d' ≠ xd := fun q => by
      rw [q, upd_ne nex, upd_same] at hd'
      cases hd'
    have dn : H d' = none := by
      rw [upd_ne dx', upd_ne dxd] at hd'
      exact hd'
    have ngx : x ≠ g := fun q => by
      rw [q, hg] at nx
      cases nx
    have ngd : d' ≠ g := fun q => by
      rw [q, hg] at dn
      cases dn
    refine ⟨_, rfl, g, CH, dx, [], rfl, s0 _ _ hg, T.cl_Hedge, T.nR, (by show 0 < 1000; decide), ?_⟩
    refine k _ ⟨⟨fun t => if t = [] then some ⟨x, d', xd⟩ else none, ⟨⟨dx, ⟨x, d', xd⟩, upd_same, if_pos rfl⟩, fun t y e => ?_, fun t t' y y' e e' _ => ?_, ⟨fun u c e => ?_, fun u c e => ?_, fun u e => ?_⟩⟩, fun t => ?_⟩, List.nodup_nil, fun _ z => nomatch z⟩ fun b o e hb => ?_
    · by_cases et : t = []
      · subst et
        rw [if_pos rfl] at e
        cases e
        refine ⟨?_, hZ x nx, hZ d' dn, [], ?_, List.nodup_nil, fun c => ?_⟩
        · show upd H1 g _ x = _
          rw [upd_ne ngx]
          exact h1
        · show upd H1 g _ d' = _
          rw [upd_ne ngd]
          exact h2
        · simp
      · rw [if_neg et] at e
        cases e
    · by_cases et : t = []
      · by_cases et' : t' = []
        · rw [et, et']
        · rw [if_neg et'] at e'
          cases e'
      · rw [if_neg et] at e
        cases e
    · simp at e
    · simp at e
    · by_cases et : u = []
      · rw [et]
        exact Nat.zero_le _
      · simp [et] at e
    · show (if t = [] then some _ else none : Option Tw).isSome = true ↔ t = [] ∨ 0 < cnt [] t
      by_cases et : t = []
      · rw [if_pos et]
        exact ⟨fun _ => .inl et, fun _ => rfl⟩
      · rw [if_neg et]
        exact ⟨(fun z => nomatch z), fun z => z.elim (fun z => absurd z et) fun z => absurd z (Nat.lt_irrefl 0)⟩
    · rw [upd_ne hb]
      exact s0 _ _ e
theorem scSB : FnScope ["path", "twig"] ["path"] (defScope sBack) := ⟨rfl, rfl, rfl, by decide +kernel, rfl, by decide +kernel, by decide +kernel⟩
theorem ok_back {f fS : Addr} {fd fdS : FuncData} (F : Fun K "settle_back" "settle_back" sBack f fd) (T : PTxt K mg C CH) (m_settle : Meth K C "settle" fS) (FS : Fun K "settle" "Twig.settle" sSettle fS fdS) (b_settle : Binds K fdS ["self"] []) : FnOk P w K mg base CX0 2 f fd ["path"] (spBack C CH) := by
  have G_settle : FnOk P w K mg base CX0 1 fS fdS ["self"] (spSettle C) := ok_settle FS T
  refine F.ok scSB (fun vs H Q E h => ?_) (fun cdv AA outer s H vs Q E hr h => ?_)
  · obtain ⟨Z, g, N, W1, Wn, w, st, l, rfl, _⟩ := h
    rfl
  · obtain ⟨Z, g, N, W1, Wn, w, st, l, rfl, S, hA, hD, hZ, hl, hw, k⟩ := h
    have nd := scSB.nd
    have hr_settle : Room 1 _ := hr
    refine ⟨_, (pss_one (ps_for PassesOwn.never rfl (pi_rev rfl T.reversed (pa_cons (pv 0) pa_nil)) (pg_name (i := 1) nd rfl (Or.inl rfl)) (pss_one (ps_expr (pe_meth0 (pv 1) T.cl_Twig m_settle G_settle hr_settle b_settle .nil pass0))))), ?_⟩
    refine ⟨_, rfl, l, _, rfl, SqL.of hl, for_rev (K := K) (fun i σ' H' => ∃ v : Option V, σ' = [some (.ref l), v] ∧ H' l = some (.lst (pathV N w w.length)) ∧ Kp Z H H' ∧ ∃ N' : NM, HedAt C CH Z H' g N' (fun t => decide (t ∈ Wn)) (mnK Wn w st (w.length + 1 - i)) ∧
      (∀ t, (N' t).isSome = true ↔ DomK W1 Wn w (w.length + 1 - i) t) ∧ ∀ j, j < w.length + 1 - i → N' (w.take j) = N (w.take j)) ⟨none, rfl, hl, Kp.refl _ _, N, hA, hD, fun _ _ => rfl⟩ ?_ ?_ ?_⟩
    · rintro i σ' H' _ ⟨v, rfl, e, _⟩
      exact SqL.of e
    · rintro i x σ' H' hi hx ⟨v, rfl, e, kp, N', hA', hD', hN'⟩
      rw [pathV_len] at hi hx
      obtain ⟨k', hk'⟩ : ∃ k', w.length - i = k' := ⟨_, rfl⟩
      have ek : w.length + 1 - i = k' + 1 := by omega
      have ek2 : w.length + 1 - 1 - i = k' := by omega
      have ek3 : w.length + 1 - (i + 1) = k' := by omega
      rw [ek] at hA' hD' hN'
      rw [ek2, pathV_get (by omega)] at hx
      have hlen : (w.take k').length = k' := by rw [List.length_take]; omega
      have hin : (N' (w.take k')).isSome = true := (hD' _).mpr (.inr ⟨S.mem _ (take_pre w k'), fun q => by rw [hlen] at q; omega⟩)
      obtain ⟨y, hy⟩ := Option.isSome_iff_exists.mp hin
      have hy0 : N (w.take k') = some y := by rw [← hN' k' (by omega)]; exact hy
      have ex : x = V.ref y.p := by
        rw [A_some hy0] at hx
        exact (Option.some.inj hx).symm
      subst ex
      obtain ⟨hp, zp, zd, ks, hd, ndk, hm⟩ := hA'.tw _ y hy
      refine ⟨_, rfl, y.p, y.x, _, rfl, hp, f_no _ _ _ _ (by decide +kernel) (by decide +kernel) (by decide +kernel) (by decide +kernel), ?_⟩
      refine ⟨y.p, y.x, y.d, _, _, _, N', ks, fun c => mnK Wn w st (k' + 1) (w.take k' ++ [c]), rfl, hp, hd, ndk, hA'.few ndk hm, fun c hc => ?_, fun d' H2 hd' h1 h2 kp2 => ?_⟩
      · obtain ⟨z, hz⟩ := Option.isSome_iff_exists.mp ((hm c).mp hc)
        exact ⟨z, _, hz, (hA'.tw _ z hz).1⟩
      · obtain ⟨N2, hA2, hD2, hN2⟩ := settle_step S hA' hD' (by omega) hy hd ndk hm h1 h2 kp2 (kp.zone hZ d' hd') hd'
        refine ⟨_, rfl, kp2 _ _ e (ne_of e hp (by intro z; cases z)), kp.trans (Kp.but hp zp (by intro _ z; cases z) (by intro _ z; cases z) kp2), N2, ?_⟩
        rw [ek3]
        exact ⟨hA2, hD2, fun j hj => (hN2 j hj).trans (hN' j (by omega))⟩
    · rintro σ' H' ⟨v, rfl, e, kp, N', hA', hD', hN'⟩
      rw [pathV_len, Nat.sub_self] at hA' hD'
      obtain ⟨r1, r2⟩ := settle_end S hA' hD'
      exact k H' ⟨N', r1, r2⟩ kp
theorem scPA : FnScope ["self", "text", "path", "letter", "twig"] ["self", "text"] (defScope sPath) := ⟨rfl, rfl, rfl, by decide +kernel, rfl, by decide +kernel, by decide +kernel⟩
theorem ok_path {f fF : Addr} {fd fdF : FuncData} (F : Fun K "path_along" "Hedge.path_along" sPath f fd) (T : PTxt K mg C CH) (m_follow : Meth K C "follow" fF) (FF : Fun K "follow" "Twig.follow" sFollow fF fdF) (b_follow : Binds K fdF ["self", "letter"] []) : FnOk P w K mg base CX0 2 f fd ["self", "text"] (spPath C CH) := by
  have G_follow : FnOk P w K mg base CX0 1 fF fdF ["self", "letter"] (spFollow C) := ok_follow FF T
  refine F.ok scPA (fun vs H Q E h => ?_) (fun cdv AA outer s H vs Q E hr h => ?_)
  · obtain ⟨Z, g, N, hr', mn, w, rfl, _⟩ := h
    rfl
  · obtain ⟨Z, g, N, hr', mn, w, rfl, hA, hwl, hw, k⟩ := h
    have nd := scPA.nd
    have hr_follow : Room 1 _ := hr
    have hsz := sizeLine_eq
    obtain ⟨dg, y0, hg, hy0⟩ := hA.gt
    refine ⟨_, (pss_cons (ps_set (i := 2) nd rfl (Or.inl rfl) (pe_lst (pa_cons (pe_fld (pv 0) rfl) pa_nil)))
      (pss_cons (ps_for PassesOwn.never rfl (pi_str (pv 1)) (pg_name (i := 3) nd rfl (Or.inl rfl)) (pss_cons (ps_set (i := 4) nd rfl (Or.inl rfl) (pe_meth (pe_ix ix_list (pv 2) (pe_un un_neg pe_int) (fun _ _ => rfl)) T.cl_Twig m_follow G_follow hr_follow b_follow .nil pass0 (pa_cons (pv 3) pa_nil)))
      (pss_cons (ps_if (pt_cmp (pc_isN (pv 4))) (pss_one ps_break) pss_nil)
      (pss_one (ps_expr (pe_bm PySem.F.plainAttrs_list PySem.F.slot_list_append PySem.F.type_list_append mt_append (pv 2) (pa_cons (pv 4) pa_nil)))))))
      (pss_one (ps_ret (pv 2))))), ?_⟩
    -- path = [self.root]
    refine ⟨_, rfl, g, CH, dg, _, _, rfl, hg, T.cl_Hedge, T.nR, look_here, (by show 1 ≤ _; omega), fun l hl => ?_⟩
    have s1 : Same H (upd H l (.lst [V.ref y0.p])) := same_new hl
    have e0 : pathV N w 0 = [V.ref y0.p] := by
      show [A N (w.take 0)] = _
      rw [List.take_zero, A_some hy0]
    have fin : ∀ (k' : Nat) (H' : Hp), k' ≤ w.length → (∀ j, j ≤ k' → (N (w.take j)).isSome = true) → (k' = w.length ∨ N (w.take (k' + 1)) = none) → H' l = some (.lst (pathV N w k')) → Same H H' → Q (.ref l) H' := fun k' H' h1 h2 h3 h4 h5 => k k' l H' h1 h2 h3 hl h4 h5
    refine ⟨_, rfl, w, rfl, hwl.ascii, for_str (fun i σ' H' => ∃ u v : Option V, σ' = [some (.ref g), some (sv w), some (.ref l), u, v] ∧ H' l = some (.lst (pathV N w i)) ∧ Same H H' ∧ ∀ j, j ≤ i → (N (w.take j)).isSome = true) ?_ ?_ ?_⟩
    · refine ⟨none, none, rfl, by rw [upd_same, e0], s1, fun j hj => ?_⟩
      rw [Nat.le_zero.mp hj, List.take_zero, hy0]
      rfl
    · rintro i c σ' H' hi ⟨u, v, rfl, e, sm, hN⟩
      have hil : i < w.length := (List.getElem?_eq_some_iff.mp hi).1
      obtain ⟨y, hy⟩ := Option.isSome_iff_exists.mp (hN i (Nat.le_refl _))
      obtain ⟨hp, zp, zd, ks, hd, ndk, hm⟩ := (hA.same sm).tw _ y hy
      have tk : w.take (i + 1) = w.take i ++ [c] := by rw [List.take_succ, hi]; rfl
      have ev : (valV (kv N (w.take i) ks) (Sum.inr (S [c]) : Key)).getD .non = A N (w.take (i + 1)) := by
        have e1 : valV (kv N (w.take i) ks) (Sum.inr (S [c]) : Key) = _ := valV_kv N (w.take i) c ks
        rw [e1, tk]
        by_cases hc : c ∈ ks
        · rw [if_pos hc]
          rfl
        · rw [if_neg hc]
          have : N (w.take i ++ [c]) = none := by
            cases q : N (w.take i ++ [c]) with
            | none => rfl
            | some _ => exact absurd ((hm c).mpr (by rw [q]; rfl)) hc
          rw [A_none this]
          rfl
      refine ⟨_, rfl, _, rfl, l, _, _, V.ref y.p, rfl, rfl, SqL.of e, (by rw [← A_some hy]; exact pathV_last N w i), y.p, y.x, _, rfl, hp, f_no _ _ _ _ (by decide +kernel) (by decide +kernel) (by decide +kernel) (by decide +kernel), _, rfl, ?_⟩
      refine ⟨y.p, y.x, y.d, _, _, _, _, S [c], rfl, hp, hd, ?_⟩
      rw [ev]
      refine ⟨_, rfl, _, rfl, ?_⟩
      cases hn : N (w.take (i + 1)) with
      | none =>
        rw [A_none hn]
        refine iteT ?_
        exact ⟨_, rfl, fin i H' (by omega) hN (.inr hn) e sm⟩
      | some z =>
        rw [A_some hn]
        refine iteF ?_
        refine ⟨_, rfl, .inl ⟨rfl, _, SqL.of e⟩, _, rfl, l, _, _, rfl, rfl, e, (by rw [pathV_len]; omega), ?_⟩
        refine ⟨_, _, rfl, ?_, fun b o q => ?_, fun j hj => ?_⟩
        · rw [upd_same, pathV_succ, A_some hn]
        · rw [upd_ne (ne_of_none q hl)]
          exact sm _ _ q
        · rcases Nat.lt_or_ge i j with z | z
          · have : j = i + 1 := by omega
            rw [this, hn]
            rfl
          · exact hN j z
    · rintro σ' H' ⟨u, v, rfl, e, sm, hN⟩
      exact ⟨_, rfl, fin w.length H' (Nat.le_refl _) hN (.inl rfl) e sm⟩
theorem scHa : FnScope ["self", "word", "last"] ["self", "word"] (defScope sHas) := ⟨rfl, rfl, rfl, by decide +kernel, rfl, by decide +kernel, by decide +kernel⟩
theorem root_no {v : V} {m : Str} (h : m ≠ "root") : List.lookup m [(("root" : Str), v)] = none := (look_there h).trans rfl
/-- where a word's path breaks off the word isn't there -/
theorem not_there {N : NM} {W : List (List Nat)} {w : List Nat} {k : Nat} (D : ∀ t, (N t).isSome = true ↔ t = [] ∨ 0 < cnt W t) (hk : k < w.length) (hn : N (w.take (k + 1)) = none) : w ∉ W := fun hm => by
  have : (N (w.take (k + 1))).isSome = true := (D _).mpr (.inr (cnt_pos.mpr ⟨w, hm, take_pre w (k + 1)⟩))
  rw [hn] at this
  cases this
theorem ok_has {f fA : Addr} {fd fdA : FuncData} (F : Fun K "has" "Hedge.has" sHas f fd) (T : PTxt K mg C CH) (m_path_along : Meth K CH "path_along" fA) (G_path_along : FnOk P w K mg base CX0 2 fA fdA ["self", "text"] (spPath C CH)) (b_path_along : Binds K fdA ["self", "text"] []) : FnOk P w K mg base CX0 3 f fd ["self", "word"] (spHas C CH) := by
  refine F.ok scHa (fun vs H Q E h => ?_) (fun cdv AA outer s H vs Q E hr h => ?_)
  · obtain ⟨Z, g, W, w, rfl, _⟩ := h
    rfl
  · obtain ⟨Z, g, W, w, rfl, hDay, hwl, hw, k⟩ := h
    have nd := scHa.nd
    have hr_path_along : Room 2 _ := hr
    obtain ⟨⟨N, hA, hD⟩, hnd, hwd⟩ := hDay
    obtain ⟨dg, y0, hg, hy0⟩ := hA.gt
    refine ⟨_, (pss_cons (ps_set (i := 2) nd rfl (Or.inl rfl) (pe_ix ix_list (pe_meth (pv 0) T.cl_Hedge m_path_along G_path_along hr_path_along b_path_along .nil pass0 (pa_cons (pv 1) pa_nil)) (pe_un un_neg pe_int) (fun _ _ => rfl)))
      (pss_one (ps_ret (pe_and (pe_cmpR op_eq (pe_fld (pv 2) rfl) (pv 1) (nomark _)) (pe_one (pe_fld (pv 2) rfl)))))), ?_⟩
    refine ⟨_, rfl, g, dg, _, rfl, hg, root_no (by decide +kernel), _, rfl, Z, g, N, _, _, w, rfl, hA, hwl, by omega, fun k' l H' hk hN hlast hl e sm => ?_⟩
    obtain ⟨y, hy⟩ := Option.isSome_iff_exists.mp (hN k' (Nat.le_refl _))
    obtain ⟨hp, zp, zd, ks, hd, ndk, hm⟩ := (hA.same sm).tw _ y hy
    refine ⟨_, rfl, l, _, _, V.ref y.p, rfl, rfl, SqL.of e, (by rw [← A_some hy]; exact pathV_last N w k'), ?_⟩
    refine ⟨_, rfl, y.p, C, y.x, _, _, rfl, hp, T.cl_Twig, T.nT, f_text .., _, rfl, rfl, _, rfl, ?_⟩
    rw [dec_S]
    by_cases ek : k' = w.length
    · subst ek
      have et : w.take w.length = w := List.take_length
      rw [et] at hp hy
      rw [decide_eq_true et]
      refine iteT ?_
      refine ⟨_, rfl, y.p, C, y.x, _, _, rfl, (by rw [hp]), T.cl_Twig, T.nH, f_here .., ?_⟩
      exact k H' sm
    · have hlt : k' < w.length := by omega
      have hne : ¬ w.take k' = w := fun z => by
        have := congrArg List.length z
        rw [List.length_take] at this
        omega
      rw [decide_eq_false hne]
      refine iteF ?_
      have hn := not_there hD hlt (hlast.resolve_left ek)
      have := k H' sm
      rw [decide_eq_false hn] at this
      exact this
theorem scTa : FnScope ["self", "word", "path"] ["self", "word"] (defScope sTake) := ⟨rfl, rfl, rfl, by decide +kernel, rfl, by decide +kernel, by decide +kernel⟩
theorem ok_take {f fA fTH fSB : Addr} {fd fdA fdTH fdSB : FuncData} (F : Fun K "take" "Hedge.take" sTake f fd) (T : PTxt K mg C CH) (TH : HTxt mg fSB) (m_path_along : Meth K CH "path_along" fA) (G_path_along : FnOk P w K mg base CX0 2 fA fdA ["self", "text"] (spPath C CH)) (b_path_along : Binds K fdA ["self", "text"] [])
    (m_take_here : Meth K C "take_here" fTH) (FTH : Fun K "take_here" "Twig.take_here" sTakeHere fTH fdTH) (b_take_here : Binds K fdTH ["self"] []) (F_settle_back : Fun K "settle_back" "settle_back" sBack fSB fdSB) (G_settle_back : FnOk P w K mg base CX0 2 fSB fdSB ["path"] (spBack C CH)) (b_settle_back : Binds K fdSB ["path"] []) :
    FnOk P w K mg base CX0 3 f fd ["self", "word"] (spTake C CH) := by
  have G_take_here : FnOk P w K mg base CX0 1 fTH fdTH ["self"] (spTakeHere C) := ok_takehere FTH T
  refine F.ok scTa (fun vs H Q E h => ?_) (fun cdv AA outer s H vs Q E hr h => ?_)
  · obtain ⟨Z, g, W, w, rfl, _⟩ := h
    rfl
  · obtain ⟨Z, g, W, w, rfl, hDay, hZ, hwl, hw, k⟩ := h
    have nd := scTa.nd
    have hr_path_along : Room 2 _ := hr
    have hr_settle_back : Room 2 _ := hr
    have hr_take_here : Room 1 _ := hr.mono (by decide)
    obtain ⟨⟨N, hA, hD⟩, hnd, hwd⟩ := id hDay
    obtain ⟨dg, y0, hg, hy0⟩ := hA.gt
    refine ⟨_, (pss_cons (ps_set (i := 2) nd rfl (Or.inl rfl) (pe_meth (pv 0) T.cl_Hedge m_path_along G_path_along hr_path_along b_path_along .nil pass0 (pa_cons (pv 1) pa_nil)))
      (pss_cons (ps_if (PW.pt (pw_or (pt_cmpR op_ne (pe_fld (pe_ix ix_list (pv 2) (pe_un un_neg pe_int) (fun _ _ => rfl)) rfl) (pv 1) (nomark _)) (pw_or1 (pt_not (pt_val (pe_meth0 (pe_ix ix_list (pv 2) (pe_un un_neg pe_int) (fun _ _ => rfl)) T.cl_Twig m_take_here G_take_here hr_take_here b_take_here .nil pass0)))))) (pss_one (ps_ret pe_bl)) pss_nil)
      (pss_cons (ps_expr (pe_call G_settle_back hr_settle_back rfl TH.settle_back F_settle_back.kp b_settle_back .nil pass0 (pa_cons (pv 2) pa_nil)))
      (pss_one (ps_ret pe_bl))))), ?_⟩
    refine ⟨_, rfl, g, dg, _, rfl, hg, root_no (by decide +kernel), _, rfl, Z, g, N, _, _, w, rfl, hA, hwl, by omega, fun k' l H' hk hN hlast hl e sm => ?_⟩
    obtain ⟨y, hy⟩ := Option.isSome_iff_exists.mp (hN k' (Nat.le_refl _))
    obtain ⟨hp, zp, zd, ks, hd, ndk, hm⟩ := (hA.same sm).tw _ y hy
    have elast : atI (pathV N w k') (-1) = some (V.ref y.p) := by rw [← A_some hy]; exact pathV_last N w k'
    -- the word isn't there: nothing is changed
    have stay : w ∉ W → Q (.bl false) H' := fun hn => by
      have e1 : stepW W (.take w) = W := List.erase_of_not_mem hn
      have := k H' (by rw [e1]; exact ⟨⟨N, hA.same sm, hD⟩, hnd, hwd⟩) (Kp.same sm)
      rw [decide_eq_false hn] at this
      exact this
    refine ⟨_, rfl, _, rfl, l, _, _, V.ref y.p, rfl, rfl, SqL.of e, elast, y.p, C, y.x, _, _, rfl, hp, T.cl_Twig, T.nT, f_text .., _, rfl, rfl, _, rfl, ?_⟩
    rw [dec_S]
    by_cases ek : k' = w.length
    · subst ek
      have et : w.take w.length = w := List.take_length
      rw [et] at hp hy hd hm
      rw [decide_eq_true et]
      refine iteF ?_
      refine ⟨_, rfl, _, rfl, l, _, _, V.ref y.p, rfl, rfl, SqL.of e, elast, y.p, y.x, _, rfl, hp, f_no _ _ _ _ (by decide +kernel) (by decide +kernel) (by decide +kernel) (by decide +kernel), ?_⟩
      refine ⟨y.p, y.x, y.d, w, _, _, rfl, hp, fun hf => ⟨_, rfl, iteT (stay (of_decide_eq_false hf))⟩, fun ht => ?_⟩
      have hmem : w ∈ W := of_decide_eq_true ht
      have hpos : 0 < cnt W w := cnt_pos.mpr ⟨w, hmem, List.prefix_refl _⟩
      refine ⟨hpos, _, rfl, iteF ?_⟩
      have hM := (hA.same sm).mark (b := false) (m := cnt W w - 1) hy
      have Sx := sett_take hnd hmem
      have eh : setN (fun t => decide (t ∈ W)) w false = fun t => decide (t ∈ W.erase w) := by
        funext t
        by_cases q : t = w
        · rw [q, setN_at, decide_eq_false fun z => (hnd.mem_erase_iff.mp z).1 rfl]
        · rw [setN_ne _ _ q]
          exact decide_eq_decide.mpr ⟨fun z => hnd.mem_erase_iff.mpr ⟨q, z⟩, fun z => (hnd.mem_erase_iff.mp z).2⟩
      have em : setN (cnt W) w (cnt W w - 1) = mnK (W.erase w) w (setN (cnt W) w (cnt W w - 1)) (w.length + 1) := by
        funext t
        unfold mnK
        by_cases q : t <+: w
        · rw [if_pos ⟨q, Nat.lt_succ_of_le q.length_le⟩]
        · rw [if_neg fun z => q z.1, setN_ne (cnt W) _ (show t ≠ w from fun z => q (by rw [z]; exact List.prefix_refl _)), Sx.off t q]
      rw [eh, em] at hM
      have kpM : Kp Z H' (upd H' y.p (.ins C y.x (flds w false (cnt W w - 1) y.d))) := Kp.but hp zp (by intro _ z; cases z) (by intro _ z; cases z) fun b o q hb => by rw [upd_ne hb]; exact q
      refine ⟨_, rfl, Z, g, N, W, W.erase w, w, _, l, rfl, Sx, hM, fun t => (hD t).trans ⟨fun z => z.elim .inl fun z => .inr ⟨z, fun r => ?_⟩, fun z => z.elim .inl fun z => .inr z.1⟩, (Kp.same sm |>.trans kpM).zone hZ, kpM.lst e, hw, fun H2 hN2 kp2 => ?_⟩
      · have := r.1.length_le
        omega
      · have := k H2 ⟨hN2, hnd.erase w, fun v hv => hwd v (List.mem_of_mem_erase hv)⟩ (((Kp.same sm).trans kpM).trans kp2)
        rw [decide_eq_true hmem] at this
        exact this
    · have hlt : k' < w.length := by omega
      have hne : ¬ w.take k' = w := fun z => by
        have := congrArg List.length z
        rw [List.length_take] at this
        omega
      rw [decide_eq_false hne]
      refine iteT ?_
      exact iteT (stay (not_there hD hlt (hlast.resolve_left ek)))
theorem scPu : FnScope ["self", "word", "path", "letter"] ["self", "word"] (defScope sPut) := ⟨rfl, rfl, rfl, by decide +kernel, rfl, by decide +kernel, by decide +kernel⟩
theorem ok_put {f fG fPH fSB : Addr} {fd fdG fdPH fdSB : FuncData} (F : Fun K "put" "Hedge.put" sPut f fd) (T : PTxt K mg C CH) (TH : HTxt mg fSB) (m_grow : Meth K C "grow" fG) (G_grow : FnOk P w K mg base CX0 3 fG fdG ["self", "letter"] (spGrow C CH)) (b_grow : Binds K fdG ["self", "letter"] [])
    (m_put_here : Meth K C "put_here" fPH) (FPH : Fun K "put_here" "Twig.put_here" sPutHere fPH fdPH) (b_put_here : Binds K fdPH ["self"] []) (F_settle_back : Fun K "settle_back" "settle_back" sBack fSB fdSB) (G_settle_back : FnOk P w K mg base CX0 2 fSB fdSB ["path"] (spBack C CH)) (b_settle_back : Binds K fdSB ["path"] []) :
    FnOk P w K mg base CX0 4 f fd ["self", "word"] (spPut C CH) := by
  have G_put_here : FnOk P w K mg base CX0 1 fPH fdPH ["self"] (spPutHere C) := ok_puthere FPH T
  refine F.ok scPu (fun vs H Q E h => ?_) (fun cdv AA outer s H vs Q E hr h => ?_)
  · obtain ⟨Z, g, W, w, rfl, _⟩ := h
    rfl
  · obtain ⟨Z, g, W, w, rfl, hDay, hZ, hwl, hw, k⟩ := h
    have nd := scPu.nd
    have hr_grow : Room 3 _ := hr
    have hr_settle_back : Room 2 _ := hr.mono (by decide)
    have hr_put_here : Room 1 _ := hr.mono (by decide)
    have hsz := sizeLine_eq
    obtain ⟨⟨N, hA, hD⟩, hnd, hwd⟩ := id hDay
    obtain ⟨dg, y0, hg, hy0⟩ := hA.gt
    refine ⟨_, (pss_cons (ps_set (i := 2) nd rfl (Or.inl rfl) (pe_lst (pa_cons (pe_fld (pv 0) rfl) pa_nil)))
      (pss_cons (ps_for PassesOwn.never rfl (pi_str (pv 1)) (pg_name (i := 3) nd rfl (Or.inl rfl)) (pss_one (ps_expr (pe_bm PySem.F.plainAttrs_list PySem.F.slot_list_append PySem.F.type_list_append mt_append (pv 2) (pa_cons (pe_meth (pe_ix ix_list (pv 2) (pe_un un_neg pe_int) (fun _ _ => rfl)) T.cl_Twig m_grow G_grow hr_grow b_grow .nil pass0 (pa_cons (pv 3) pa_nil)) pa_nil)))))
      (pss_cons (ps_if (pt_not (pt_val (pe_meth0 (pe_ix ix_list (pv 2) (pe_un un_neg pe_int) (fun _ _ => rfl)) T.cl_Twig m_put_here G_put_here hr_put_here b_put_here .nil pass0))) (pss_one (ps_ret pe_bl)) pss_nil)
      (pss_cons (ps_expr (pe_call G_settle_back hr_settle_back rfl TH.settle_back F_settle_back.kp b_settle_back .nil pass0 (pa_cons (pv 2) pa_nil)))
      (pss_one (ps_ret pe_bl)))))), ?_⟩
    -- path = [self.root]
    refine ⟨_, rfl, g, CH, dg, _, _, rfl, hg, T.cl_Hedge, T.nR, look_here, (by show 1 ≤ _; omega), fun l hl => ?_⟩
    have s1 : Same H (upd H l (.lst [V.ref y0.p])) := same_new hl
    refine ⟨_, rfl, w, rfl, hwl.ascii, for_str (fun i σ' H' => ∃ u : Option V, σ' = [some (.ref g), some (sv w), some (.ref l), u] ∧ Kp Z H H' ∧ ∃ N' : NM, HedAt C CH Z H' g N' (fun t => decide (t ∈ W)) (cnt W) ∧ H' l = some (.lst (pathV N' w i)) ∧
      (∀ t, (N' t).isSome = true ↔ (t = [] ∨ 0 < cnt W t) ∨ (t <+: w ∧ t.length ≤ i))) ?_ ?_ ?_⟩
    · refine ⟨none, rfl, Kp.same s1, N, hA.same s1, ?_, fun t => (hD t).trans ⟨.inl, fun z => z.elim id fun z => .inl (List.length_eq_zero_iff.mp (by omega))⟩⟩
      rw [upd_same]
      show _ = some (HO.lst [A N (w.take 0)])
      rw [List.take_zero, A_some hy0]
    · rintro i c σ' H' hi ⟨u, rfl, kp, N', hA', e, hD'⟩
      have hil : i < w.length := (List.getElem?_eq_some_iff.mp hi).1
      have tk : w.take (i + 1) = w.take i ++ [c] := by rw [List.take_succ, hi]; rfl
      have hlen : (w.take i).length = i := by rw [List.length_take]; omega
      obtain ⟨y, hy⟩ := Option.isSome_iff_exists.mp ((hD' (w.take i)).mpr (.inr ⟨take_pre w i, by omega⟩))
      obtain ⟨hp, zp, zd, ks, hd, ndk, hm⟩ := hA'.tw _ y hy
      have hcl : 97 ≤ c ∧ c ≤ 122 := hwl c (List.mem_of_getElem? hi)
      have hpl : (pathV N' w i).length < sizeLine := by rw [pathV_len]; omega
      -- path.append(path[-1].grow(letter))
      refine ⟨_, rfl, .inl ⟨rfl, _, SqL.of e⟩, _, rfl, _, rfl, l, _, _, V.ref y.p, rfl, rfl, SqL.of e, (by rw [← A_some hy]; exact pathV_last N' w i), y.p, y.x, _, rfl, hp, f_no _ _ _ _ (by decide +kernel) (by decide +kernel) (by decide +kernel) (by decide +kernel), _, rfl, ?_⟩
      refine ⟨Z, g, N', _, _, w.take i, y, c, rfl, hA', hy, hcl, by omega, kp.zone hZ, fun z hz => ?_, fun hn z H2 hA2 kp2 => ?_⟩
      · refine ⟨l, _, _, rfl, rfl, e, hpl, ?_⟩
        have up : ∀ b o, H' b = some o → b ≠ l → upd H' l (.lst (pathV N' w i ++ [V.ref z.p])) b = some o := fun b o q hb => by rw [upd_ne hb]; exact q
        have hA3 : HedAt C CH Z (upd H' l (.lst (pathV N' w i ++ [V.ref z.p]))) g N' (fun t => decide (t ∈ W)) (cnt W) := by
          refine ⟨?_, fun t x hx => ?_, hA'.inj, hA'.dom⟩
          · obtain ⟨dg', y', q1, q2⟩ := hA'.gt
            exact ⟨dg', y', up _ _ q1 (ne_of q1 e (by intro z; cases z)), q2⟩
          · obtain ⟨q1, q2, q3, ks', q4, q5⟩ := hA'.tw t x hx
            exact ⟨up _ _ q1 (ne_of q1 e (by intro z; cases z)), q2, q3, ks', up _ _ q4 (ne_of q4 e (by intro z; cases z)), q5⟩
        refine ⟨_, rfl, fun b o q n => ?_, N', hA3, ?_, fun t => (hD' t).trans ⟨fun z => z.elim .inl fun z => .inr ⟨z.1, by omega⟩, fun r => r.elim .inl fun r => ?_⟩⟩
        · rw [upd_ne (ne_of_none q hl)]
          exact kp b o q n
        · rw [upd_same, pathV_succ, tk, A_some hz]
        · rcases Nat.lt_or_ge i t.length with q | q
          · have : t = w.take (i + 1) := by
              rw [pre_eq_take r.1]
              congr 1
              omega
            rw [this, tk]
            exact (hD' _).mp (by rw [hz]; rfl)
          · exact .inr ⟨r.1, q⟩
      · have el := kp2.lst e
        refine ⟨l, _, _, rfl, rfl, el, hpl, ?_⟩
        have nl : ∀ {b o}, H2 b = some o → (∀ xs, o ≠ HO.lst xs) → upd H2 l (.lst (pathV N' w i ++ [V.ref z.p])) b = some o := fun {b o} q n => by
          rw [upd_ne (ne_of q el (n _))]
          exact q
        have hzero : cnt W (w.take i ++ [c]) = 0 := by
          rcases Nat.eq_zero_or_pos (cnt W (w.take i ++ [c])) with q | q
          · exact q
          · have := (hD' (w.take i ++ [c])).mpr (.inl (.inr q))
            rw [hn] at this
            cases this
        have hnot : (w.take i ++ [c]) ∉ W := fun q => by
          have := cnt_pos.mpr ⟨_, q, List.prefix_refl _⟩
          omega
        have eh : setN (fun t => decide (t ∈ W)) (w.take i ++ [c]) false = fun t => decide (t ∈ W) := by
          funext t
          by_cases q : t = w.take i ++ [c]
          · rw [q, setN_at, decide_eq_false hnot]
          · rw [setN_ne _ _ q]
        have em : setN (cnt W) (w.take i ++ [c]) 0 = cnt W := by
          funext t
          by_cases q : t = w.take i ++ [c]
          · rw [q, setN_at, hzero]
          · rw [setN_ne _ _ q]
        rw [eh, em] at hA2
        have hA3 : HedAt C CH Z (upd H2 l (.lst (pathV N' w i ++ [V.ref z.p]))) g (setN N' (w.take i ++ [c]) (some z)) (fun t => decide (t ∈ W)) (cnt W) := by
          refine ⟨?_, fun t x hx => ?_, hA2.inj, hA2.dom⟩
          · obtain ⟨dg', y', q1, q2⟩ := hA2.gt
            exact ⟨dg', y', nl q1 (by intro _ z; cases z), q2⟩
          · obtain ⟨q1, q2, q3, ks', q4, q5⟩ := hA2.tw t x hx
            exact ⟨nl q1 (by intro _ z; cases z), q2, q3, ks', nl q4 (by intro _ z; cases z), q5⟩
        refine ⟨_, rfl, fun b o q n => ?_, _, hA3, ?_, fun t => ?_⟩
        · rw [upd_ne (ne_of_none q hl)]
          exact kp2 b o (kp b o q n) n
        · rw [upd_same, pathV_succ, tk, A_some (setN_at N' (w.take i ++ [c]) (some z))]
          rw [pathV_congr (N' := setN N' (w.take i ++ [c]) (some z)) fun j hj => ?_]
          unfold A
          rw [setN_ne N' (some z) (show w.take j ≠ w.take i ++ [c] from fun q => ?_)]
          have := congrArg List.length q
          rw [List.length_append, hlen, List.length_take] at this
          simp at this
          omega
        · by_cases q : t = w.take i ++ [c]
          · rw [q, setN_at]
            refine ⟨fun _ => .inr ⟨by rw [← tk]; exact take_pre w (i + 1), by rw [List.length_append, hlen]; exact Nat.le_refl _⟩, fun _ => rfl⟩
          · rw [setN_ne _ _ q, hD']
            refine ⟨fun z => z.elim .inl fun z => .inr ⟨z.1, by omega⟩, fun r => r.elim .inl fun r => .inr ⟨r.1, ?_⟩⟩
            rcases Nat.lt_or_ge i t.length with p | p
            · refine absurd ?_ q
              rw [pre_eq_take r.1, ← tk]
              congr 1
              omega
            · exact p
    · rintro σ' H' ⟨u, rfl, kp, N', hA', e, hD'⟩
      obtain ⟨y, hy⟩ := Option.isSome_iff_exists.mp ((hD' w).mpr (.inr ⟨List.prefix_refl _, Nat.le_refl _⟩))
      obtain ⟨hp, zp, zd, ks, hd, ndk, hm⟩ := hA'.tw _ y hy
      have elast : atI (pathV N' w w.length) (-1) = some (V.ref y.p) := by
        have := pathV_last N' w w.length
        rw [List.take_length, A_some hy] at this
        exact this
      -- if not path[-1].put_here()
      refine ⟨_, rfl, _, rfl, l, _, _, V.ref y.p, rfl, rfl, SqL.of e, elast, y.p, y.x, _, rfl, hp, f_no _ _ _ _ (by decide +kernel) (by decide +kernel) (by decide +kernel) (by decide +kernel), ?_⟩
      refine ⟨y.p, y.x, y.d, w, _, _, rfl, hp, fun ht => ⟨_, rfl, iteT ?_⟩, fun hf => ⟨_, rfl, iteF ?_⟩⟩
      · have hmem : w ∈ W := of_decide_eq_true ht
        have e1 : stepW W (.put w) = W := if_pos hmem
        have := k H' (by rw [e1]; exact ⟨⟨N', hA', fun t => (hD' t).trans ⟨fun z => z.elim id fun z => .inr (cnt_pos.mpr ⟨w, hmem, z.1⟩), .inl⟩⟩, hnd, hwd⟩) kp
        rw [decide_eq_true hmem] at this
        exact this
      · have hmem : w ∉ W := of_decide_eq_false hf
        have e1 : stepW W (.put w) = W ++ [w] := if_neg hmem
        have hM := hA'.mark (b := true) (m := cnt W w + 1) hy
        have Sx := sett_put hnd hmem
        have eh : setN (fun t => decide (t ∈ W)) w true = fun t => decide (t ∈ W ++ [w]) := by
          funext t
          by_cases q : t = w
          · rw [q, setN_at, decide_eq_true (by simp)]
          · rw [setN_ne _ _ q]
            exact decide_eq_decide.mpr ⟨fun z => List.mem_append_left _ z, fun z => (List.mem_append.mp z).elim id fun z => absurd (List.mem_singleton.mp z) q⟩
        have em : setN (cnt W) w (cnt W w + 1) = mnK (W ++ [w]) w (setN (cnt W) w (cnt W w + 1)) (w.length + 1) := by
          funext t
          unfold mnK
          by_cases q : t <+: w
          · rw [if_pos ⟨q, Nat.lt_succ_of_le q.length_le⟩]
          · rw [if_neg fun z => q z.1, setN_ne (cnt W) _ (show t ≠ w from fun z => q (by rw [z]; exact List.prefix_refl _)), cnt_app, cnt_one, ind_pre q]
            rfl
        rw [eh, em] at hM
        have kpM : Kp Z H' (upd H' y.p (.ins C y.x (flds w true (cnt W w + 1) y.d))) := Kp.but hp zp (by intro _ z; cases z) (by intro _ z; cases z) fun b o q hb => by rw [upd_ne hb]; exact q
        refine ⟨_, rfl, Z, g, N', W ++ [w], W ++ [w], w, _, l, rfl, Sx, hM, fun t => (hD' t).trans ?_, (kp.trans kpM).zone hZ, kpM.lst e, hw, fun H2 hN2 kp2 => ?_⟩
        · unfold DomK
          rw [cnt_app, cnt_one]
          constructor
          · rintro ((z | z) | z)
            · exact .inl z
            · refine .inr ⟨by omega, fun r => ?_⟩
              have := r.1.length_le
              omega
            · refine .inr ⟨by rw [ind_pre1 z.1]; omega, fun r => by omega⟩
          · rintro (z | ⟨z, _⟩)
            · exact .inl (.inl z)
            · by_cases q : t <+: w
              · exact .inr ⟨q, q.length_le⟩
              · rw [ind_pre q] at z
                exact .inl (.inr (by omega))
        · have := k H2 (by
            rw [e1]
            refine ⟨hN2, Sx.nd, fun v hv => ?_⟩
            rcases List.mem_append.mp hv with z | z
            · exact hwd v z
            · rw [List.mem_singleton.mp z]
              exact ⟨hwl, hw⟩) ((kp.trans kpM).trans kp2)
          rw [decide_eq_false hmem] at this
          exact this
end

/-! ### the program: a day -/
abbrev sDoOne : Stmt := top 10
abbrev sDoAll : Stmt := top 9
abbrev sAnswers : Stmt := top 8
structure DTxt (K : PySem.W.Frag) (mg : Str → Option Value) (C CH fOne fAll : Addr) : Prop extends PTxt K mg C CH where
  do_one : mg "do_one" = some (.ref fOne)
  do_all : mg "do_all" = some (.ref fAll)
section
variable {P : Program} {w : World} {K : PySem.W.Frag} {mg : Str → Option Value} {base : Heap} {C CH : Addr}
theorem scDA : FnScope ["hedge", "deeds", "answered", "deed"] ["hedge", "deeds"] (defScope sDoAll) := ⟨rfl, rfl, rfl, by decide +kernel, rfl, by decide +kernel, by decide +kernel⟩
theorem ok_doall {f f1 fAll : Addr} {fd fd1 : FuncData} {FF : Deed → Prop} {k1 : Nat} (F : Fun K "do_all" "do_all" sDoAll f fd) (T : DTxt K mg C CH f1 fAll) (F_do_one : Fun K "do_one" "do_one" sDoOne f1 fd1) (G_do_one : FnOk P w K mg base CX0 k1 f1 fd1 ["hedge", "deed"] (spDo FF C CH)) (b_do_one : Binds K fd1 ["hedge", "deed"] []) :
    FnOk P w K mg base CX0 (k1 + 1) f fd ["hedge", "deeds"] (spAll FF C CH) := by
  refine F.ok scDA (fun vs H Q E h => ?_) (fun cdv AA outer s H vs Q E hr h => ?_)
  · obtain ⟨Z, g, a, ps, ds, rfl, _⟩ := h
    rfl
  · obtain ⟨Z, g, a, ps, ds, rfl, hDay, hZ, ha, hds, hF, hlen, k⟩ := h
    have nd := scDA.nd
    have hr_do_one : Room k1 _ := hr
    have hsz := sizeLine_eq
    have hpl := hds.length
    refine ⟨_, (pss_cons (ps_set (i := 2) nd rfl (Or.inl rfl) (pe_lst pa_nil))
      (pss_cons (ps_for PassesOwn.never rfl (pi_list (pv 1)) (pg_name (i := 3) nd rfl (Or.inl rfl)) (pss_one (ps_expr (pe_bm PySem.F.plainAttrs_list PySem.F.slot_list_append PySem.F.type_list_append mt_append (pv 2) (pa_cons (pe_call G_do_one hr_do_one rfl T.do_one F_do_one.kp b_do_one .nil pass0 (pa_cons (pv 0) (pa_cons (pv 3) pa_nil))) pa_nil)))))
      (pss_one (ps_ret (pv 2))))), ?_⟩
    refine ⟨Nat.zero_le _, fun r hr0 => ?_⟩
    have s1 : Same H (upd H r (.lst [])) := same_new hr0
    refine ⟨_, rfl, a, rfl, ⟨_, SqL.of (s1 _ _ ha)⟩, for_list (K := K) (a := a) (xs := ps.map V.ref) (fun i σ' H' => ∃ (v : Option V) (us : List V), σ' = [some (.ref g), some (.ref a), some (.ref r), v] ∧ DayAt C CH Z H' g (after [] (ds.take i)) ∧ H' r = some (.lst us) ∧
      AnswersAt H' us (run [] (ds.take i)) ∧ (∀ v ∈ us, v ≠ V.ref r) ∧ Kp Z H H') ?_ ?_ ?_ ?_⟩
    · refine ⟨none, [], rfl, hDay.keep fun b o e n => s1 _ _ e, upd_same, ?_, (fun _ z => nomatch z), Kp.same s1⟩
      rw [List.take_zero]
      exact .nil
    · rintro i σ' H' _ ⟨v, us, rfl, _, _, _, _, kp⟩
      exact SqL.of (kp.lst ha)
    · rintro i x σ' H' hx ⟨v, us, rfl, hDay', hr', hA, hne, kp⟩
      obtain ⟨p, hp, rfl⟩ : ∃ p, ps[i]? = some p ∧ x = V.ref p := by
        rw [List.getElem?_map] at hx
        cases e : ps[i]? with
        | none => rw [e] at hx; cases hx
        | some z => rw [e] at hx; exact ⟨z, rfl, (Option.some.inj hx).symm⟩
      have hil : i < ds.length := by
        have := (List.getElem?_eq_some_iff.mp hp).1
        omega
      have hd : ds[i]? = some ds[i] := List.getElem?_eq_getElem hil
      obtain ⟨p', hp', hdp⟩ := hds.get hd
      rw [hp] at hp'
      cases hp'
      have tk : ds.take (i + 1) = ds.take i ++ [ds[i]] := by rw [List.take_succ, hd]; rfl
      have hul : us.length ≤ 450 := by
        rw [hA.length, run_length, List.length_take]
        omega
      have hWl : (after [] (ds.take i)).length ≤ 450 := by
        have := after_len [] (ds.take i)
        rw [List.length_take] at this
        simp at this
        omega
      refine ⟨_, rfl, .inl ⟨rfl, _, SqL.of hr'⟩, _, rfl, _, rfl, Z, g, _, p, ds[i], rfl, hDay', kp.zone hZ, kp.tup hdp, hF _ (List.getElem_mem hil), hWl, fun v' H2 hv hnew hDay2 kp2 => ?_⟩
      have hr2 := kp2.lst hr'
      refine ⟨r, us, v', rfl, rfl, hr2, by omega, ?_⟩
      have nv : v' ≠ V.ref r := fun z => by
        have := hnew r z
        rw [hr'] at this
        cases this
      refine ⟨_, us ++ [v'], rfl, ?_, upd_same, ?_, fun u hu => ?_, fun b o e n => ?_⟩
      · rw [tk, after_snoc]
        exact hDay2.keep fun b o e n => by rw [upd_ne (ne_of e hr2 (n _))]; exact e
      · rw [tk, run_snoc]
        exact Paired.snoc (answers_upd (Paired.mapP hA fun _ _ z => z.kp kp2) hne) (hv.upd nv)
      · rcases List.mem_append.mp hu with z | z
        · exact hne u z
        · rw [List.mem_singleton.mp z]
          exact nv
      · rw [upd_ne (ne_of_none e hr0)]
        exact kp2 b o (kp b o e n) n
    · rintro σ' H' ⟨v, us, rfl, hDay', hr', hA, hne, kp⟩
      have el : ds.take (ps.map V.ref).length = ds := by rw [List.length_map, hpl, List.take_length]
      rw [el] at hDay' hA
      exact ⟨_, rfl, k r us H' hr0 hr' hA hDay' kp⟩
theorem scAn : FnScope ["deeds"] ["deeds"] (defScope sAnswers) := ⟨rfl, rfl, rfl, by decide +kernel, rfl, by decide +kernel, by decide +kernel⟩
theorem ok_answers {f f1 fAll fI : Addr} {fd fdAll fdI : FuncData} {FF : Deed → Prop} {k1 : Nat} (F : Fun K "answers" "answers" sAnswers f fd) (T : DTxt K mg C CH f1 fAll) (F_do_all : Fun K "do_all" "do_all" sDoAll fAll fdAll) (G_do_all : FnOk P w K mg base CX0 (k1 + 4) fAll fdAll ["hedge", "deeds"] (spAll FF C CH)) (b_do_all : Binds K fdAll ["hedge", "deeds"] [])
    (M_Hedge : Mk K CH fI) (G_Hedge : FnOk P w K mg base CX0 3 fI fdI ["self"] (spHInit C CH)) (b_Hedge : Binds K fdI ["self"] []) : FnOk P w K mg base CX0 (k1 + 5) f fd ["deeds"] (spAnswersF FF K) := by
  refine F.ok scAn (fun vs H Q E h => ?_) (fun cdv AA outer s H vs Q E hr h => ?_)
  · obtain ⟨a, ps, ds, rfl, _⟩ := h
    rfl
  · obtain ⟨a, ps, ds, rfl, ha, hds, hF, hlen, k⟩ := h
    have hr_do_all : Room (k1 + 4) _ := hr
    have hr_Hedge : Room 4 _ := hr.mono (by omega)
    refine ⟨_, (pss_one (ps_ret (pe_call G_do_all hr_do_all rfl T.do_all F_do_all.kp b_do_all .nil pass0 (pa_cons (pe_make0 M_Hedge G_Hedge hr_Hedge rfl T.mg_Hedge b_Hedge .nil pass0) (pa_cons (pv 0) pa_nil))))), ?_⟩
    intro x dx nx ndx nex
    have z0 : ∀ b o, H b = some o → (upd (upd H dx (.own x)) x (.ins CH dx [])) b = some o := fun b o e => by
      rw [upd_ne (ne_of_none e nx), upd_ne (ne_of_none e ndx)]
      exact e
    refine ⟨x, dx, fun b => H b = none, rfl, upd_same, fun b hb => ?_, fun H1 hDay kp => ⟨rfl, ?_⟩⟩
    · cases q : H b with
      | none => exact q
      | some o =>
        rw [z0 b o q] at hb
        cases hb
    · have s1 : Same H H1 := fun b o e => kp b o (z0 b o e) (ne_of_none e nx)
      refine ⟨_, rfl, fun b => H b = none, x, a, ps, ds, rfl, hDay, fun b hb => s1.free hb, s1 _ _ ha, hds.same s1, hF, hlen, fun r us H2 hr0 hr1 hA hD2 kp2 => ?_⟩
      exact k r us H2 (s1.free hr0) hr1 hA fun b o e => kp2 b o (s1 b o e) fun z => by
        have z' : H b = none := z
        rw [e] at z'
        cases z'
end

/-! ### the program: the words with a beginning -/
abbrev sOrder : Stmt := top 4
abbrev sWords : Stmt := inClass sHedge 4
structure WTxt (mg : Str → Option Value) (fO : Addr) : Prop where
  in_order : mg "in_order" = some (.ref fO)
  sorted : mg "sorted" = none
def spOrder (C CH : Addr) : Sp := fun vs H Q _ => ∃ (Z : Addr → Prop) (g : Addr) (N : NM) (hr : List Nat → Bool) (mn : List Nat → Nat) (t : List Nat) (y : Tw), vs = [.ref y.p] ∧ HedAt C CH Z H g N hr mn ∧ N t = some y ∧ (preN N t).length ≤ 100000 ∧
  ∀ l H', H l = none → H' l = some (.lst ((preN N t).map (A N))) → Same H H' → Q (.ref l) H'
def spWords (C CH : Addr) : Sp := fun vs H Q _ => ∃ (Z : Addr → Prop) (g : Addr) (W : List (List Nat)) (t : List Nat), vs = [.ref g, sv t] ∧ DayAt C CH Z H g W ∧ W.length ≤ 450 ∧ Letters t ∧ t.length ≤ 110 ∧
  ∀ l H', H l = none → H' l = some (.lst (((srt W).filter fun w => t.isPrefixOf w).map sv)) → Same H H' → Q (.ref l) H'
section
variable {P : Program} {w : World} {K : PySem.W.Frag} {mg : Str → Option Value} {base : Heap} {C CH : Addr}
theorem scIO : FnScope ["first", "found", "to_come", "twig", "letter"] ["first"] (defScope sOrder) := ⟨rfl, rfl, rfl, by decide +kernel, rfl, by decide +kernel, by decide +kernel⟩
theorem ok_order {f fO fF : Addr} {fd fdF : FuncData} (F : Fun K "in_order" "in_order" sOrder f fd) (T : PTxt K mg C CH) (TW : WTxt mg fO) (m_follow : Meth K C "follow" fF) (FF : Fun K "follow" "Twig.follow" sFollow fF fdF) (b_follow : Binds K fdF ["self", "letter"] []) : FnOk P w K mg base CX0 2 f fd ["first"] (spOrder C CH) := by
  have G_follow : FnOk P w K mg base CX0 1 fF fdF ["self", "letter"] (spFollow C) := ok_follow FF T
  refine F.ok scIO (fun vs H Q E h => ?_) (fun cdv AA outer s H vs Q E hr h => ?_)
  · obtain ⟨Z, g, N, hr', mn, t, y, rfl, _⟩ := h
    rfl
  · obtain ⟨Z, g, N, hr', mn, t, y, rfl, hA, ht, hbig, k⟩ := h
    have nd := scIO.nd
    have hr_follow : Room 1 _ := hr
    have hsz := sizeLine_eq
    refine ⟨_, (pss_cons (ps_set (i := 1) nd rfl (Or.inl rfl) (pe_lst pa_nil))
      (pss_cons (ps_set (i := 2) nd rfl (Or.inl rfl) (pe_lst (pa_cons (pv 0) pa_nil)))
      (pss_cons (ps_while PassesOwn.never (pt_truth (pv 2) (fun _ => rfl)) (pss_cons (ps_set (i := 3) nd rfl (Or.inl rfl) (pe_bm0 PySem.F.plainAttrs_list PySem.F.slot_list_pop PySem.F.type_list_pop mt_pop (pv 2)))
      (pss_cons (ps_expr (pe_bm PySem.F.plainAttrs_list PySem.F.slot_list_append PySem.F.type_list_append mt_append (pv 1) (pa_cons (pv 3) pa_nil)))
      (pss_one (ps_for PassesOwn.never rfl (pi_list (pe_sortD rfl rfl TW.sorted (pe_fld (pv 3) rfl))) (pg_name (i := 4) nd rfl (Or.inl rfl)) (pss_one (ps_expr (pe_bm PySem.F.plainAttrs_list PySem.F.slot_list_append PySem.F.type_list_append mt_append (pv 2) (pa_cons (pe_meth (pv 3) T.cl_Twig m_follow G_follow hr_follow b_follow .nil pass0 (pa_cons (pv 4) pa_nil)) pa_nil)))))))))
      (pss_one (ps_ret (pv 1)))))), ?_⟩
    refine ⟨Nat.zero_le _, fun fo hfo => ?_⟩
    refine ⟨_, rfl, (by show 1 ≤ _; omega), fun tc htc => ?_⟩
    have nft : fo ≠ tc := ne_of_none upd_same htc
    have htc0 : H tc = none := by
      rw [upd_ne nft.symm] at htc
      exact htc
    have s1 : Same H (upd (upd H fo (.lst [])) tc (.lst [V.ref y.p])) := fun b o e => by
      rw [upd_ne (ne_of_none e htc0), upd_ne (ne_of_none e hfo)]
      exact e
    refine ⟨fun m σ' H' => ∃ (Fs Ss : List (List Nat)) (v3 v4 : Option V), m = (Ss.reverse.flatMap (preN N)).length ∧ σ' = [some (.ref y.p), some (.ref fo), some (.ref tc), v3, v4] ∧ H' fo = some (.lst (Fs.map (A N))) ∧ H' tc = some (.lst (Ss.map (A N))) ∧
      Fs ++ Ss.reverse.flatMap (preN N) = preN N t ∧ (∀ u ∈ Ss, (N u).isSome = true) ∧ Same H H', ⟨_, [], [t], none, none, rfl, rfl, ?_, ?_, ?_, ?_, s1⟩, ?_⟩
    · rw [upd_ne nft]
      exact upd_same
    · rw [upd_same]
      show some (HO.lst [V.ref y.p]) = some (HO.lst [A N t])
      rw [A_some ht]
    · simp
    · intro u hu
      rw [List.mem_singleton.mp hu, ht]
      rfl
    · rintro m σ' H' ⟨Fs, Ss, v3, v4, rfl, rfl, e1, e2, e3, e4, sm⟩
      have hFl : Fs.length ≤ 100000 := by
        have := congrArg List.length e3
        rw [List.length_append] at this
        omega
      have hSl : Ss.length ≤ 100000 := by
        have h1 := congrArg List.length e3
        have h2 := flat_ge N Ss.reverse
        rw [List.length_append] at h1
        rw [List.length_reverse] at h2
        omega
      refine ⟨_, rfl, _, .inl ⟨_, SqL.of e2, rfl⟩, ?_⟩
      rcases List.eq_nil_or_concat Ss with e | ⟨S', u, e⟩
      · subst e
        refine iteF ⟨_, rfl, ?_⟩
        have : Fs = preN N t := by simpa using e3
        rw [this] at e1
        exact k fo H' hfo e1 sm
      · rw [List.concat_eq_append] at e
        subst e
        have hne : (!((S' ++ [u]).map (A N)).isEmpty) = true := by simp
        rw [hne]
        refine iteT ⟨fun σ2 H2 => ∃ m', m' < ((S' ++ [u]).reverse.flatMap (preN N)).length ∧ ∃ (Fs Ss : List (List Nat)) (v3 v4 : Option V), m' = (Ss.reverse.flatMap (preN N)).length ∧ σ2 = [some (.ref y.p), some (.ref fo), some (.ref tc), v3, v4] ∧ H2 fo = some (.lst (Fs.map (A N))) ∧ H2 tc = some (.lst (Ss.map (A N))) ∧
          Fs ++ Ss.reverse.flatMap (preN N) = preN N t ∧ (∀ u ∈ Ss, (N u).isSome = true) ∧ Same H H2, fun _ _ z => z, ?_⟩
        obtain ⟨x, hx⟩ := Option.isSome_iff_exists.mp (e4 u (by simp))
        have hu : exN N u = true := e4 u (by simp)
        -- twig = to_come.pop()
        have hlast : ((S' ++ [u]).map (A N))[((S' ++ [u]).map (A N)).length - 1]? = some (V.ref x.p) := by
          rw [List.map_append, List.length_append, List.length_map]
          show (S'.map (A N) ++ [A N u])[S'.length + 1 - 1]? = _
          rw [Nat.add_sub_cancel, List.getElem?_append_right (by rw [List.length_map]; omega), List.length_map, Nat.sub_self, A_some hx]
          rfl
        have hdrop : ((S' ++ [u]).map (A N)).dropLast = S'.map (A N) := by
          rw [List.map_append]
          exact List.dropLast_concat
        refine ⟨_, rfl, .inl ⟨rfl, _, SqL.of e2⟩, tc, _, V.ref x.p, rfl, rfl, e2, hlast, ?_⟩
        rw [hdrop]
        have sA : Same H (upd H' tc (.lst (S'.map (A N)))) := fun b o q => by
          rw [upd_ne (ne_of_none q htc0)]
          exact sm _ _ q
        have e1A : (upd H' tc (.lst (S'.map (A N)))) fo = some (.lst (Fs.map (A N))) := by
          rw [upd_ne nft]
          exact e1
        -- found.append(twig)
        refine ⟨_, rfl, .inl ⟨rfl, _, SqL.of e1A⟩, _, rfl, fo, _, _, rfl, rfl, e1A, by rw [List.length_map]; omega, ?_⟩
        have sB : Same H (upd (upd H' tc (.lst (S'.map (A N)))) fo (.lst (Fs.map (A N) ++ [V.ref x.p]))) := fun b o q => by
          rw [upd_ne (ne_of_none q hfo)]
          exact sA _ _ q
        obtain ⟨hp, zp, zd, ks, hd, ndk, hm⟩ := (hA.same sB).tw _ x hx
        have hpm : ks.Perm (kidsL (exN N) u) := (hA.same sB).perm ndk hm
        -- for letter in sorted(twig.longer, reverse=True)
        refine ⟨_, rfl, x.p, C, x.x, _, _, rfl, hp, T.cl_Twig, T.nL, f_longer .., x.d, _, ks.map (fun c => [c]), rfl, hd, ?_, by rw [List.length_map]; have := hA.few ndk hm; omega, fun ls' hperm hpw q hq => ?_⟩
        · unfold kv
          rw [List.map_map, List.map_map]
          rfl
        · have els := kids_down hpm hperm hpw
          subst els
          have nfq : fo ≠ q := ne_of_none upd_same hq
          have ntq : tc ≠ q := ne_of_none (by rw [upd_ne nft.symm]; exact upd_same) hq
          have hq0 : H q = none := by
            cases z : H q with
            | none => rfl
            | some o =>
              rw [sB _ _ z] at hq
              cases hq
          have hkl : ((kidsL (exN N) u).reverse.map fun c => [c]).length ≤ 26 := by
            rw [List.length_map, List.length_reverse]
            exact kids_le _ _
          refine ⟨q, rfl, ⟨_, SqL.of upd_same⟩, for_list (K := K) (a := q) (xs := ((kidsL (exN N) u).reverse.map fun c => [c]).map sv) (fun i σ2 H2 => ∃ v4 : Option V, σ2 = [some (.ref y.p), some (.ref fo), some (.ref tc), some (.ref x.p), v4] ∧ H2 fo = some (.lst ((Fs ++ [u]).map (A N))) ∧
            H2 tc = some (.lst ((S' ++ ((kidsL (exN N) u).reverse.take i).map fun c => u ++ [c]).map (A N))) ∧ H2 q = some (.lst (((kidsL (exN N) u).reverse.map fun c => [c]).map sv)) ∧ Same H H2) ?_ ?_ ?_ ?_⟩
          · refine ⟨_, rfl, ?_, ?_, upd_same, fun b o z => ?_⟩
            · rw [upd_ne nfq, upd_same, List.map_append]
              show _ = some (HO.lst (_ ++ [A N u]))
              rw [A_some hx]
            · rw [upd_ne ntq, upd_ne nft.symm, upd_same]
              simp
            · rw [upd_ne (ne_of_none z hq0)]
              exact sB _ _ z
          · rintro i σ2 H2 _ ⟨v4', rfl, _, _, f3, _⟩
            exact SqL.of f3
          · rintro i z σ2 H2 hz ⟨v4', rfl, f1, f2, f3, sm2⟩
            obtain ⟨l, hl, rfl⟩ := get_sv hz
            obtain ⟨c, hc, rfl⟩ : ∃ c, (kidsL (exN N) u).reverse[i]? = some c ∧ l = [c] := by
              rw [List.getElem?_map] at hl
              cases e : (kidsL (exN N) u).reverse[i]? with
              | none => rw [e] at hl; cases hl
              | some c => rw [e] at hl; exact ⟨c, rfl, (Option.some.inj hl).symm⟩
            have hil : i < 26 := by
              have := (List.getElem?_eq_some_iff.mp hc).1
              rw [List.length_reverse] at this
              have := kids_le (exN N) u
              omega
            have hck : c ∈ kidsL (exN N) u := List.mem_reverse.mp (List.mem_of_getElem? hc)
            have hcs : c ∈ ks := hpm.mem_iff.mpr hck
            obtain ⟨hp2, _, _, ks2, hd2, nd2, hm2⟩ := (hA.same sm2).tw _ x hx
            have hcs2 : c ∈ ks2 := (hm2 c).mpr ((hm c).mp hcs)
            have hS2 : (S' ++ ((kidsL (exN N) u).reverse.take i).map fun c => u ++ [c]).length ≤ 100100 := by
              rw [List.length_append, List.length_map, List.length_take]
              rw [List.length_append] at hSl
              omega
            refine ⟨_, rfl, .inl ⟨rfl, _, SqL.of f2⟩, _, rfl, x.p, x.x, _, rfl, hp2, f_no _ _ _ _ (by decide +kernel) (by decide +kernel) (by decide +kernel) (by decide +kernel), _, rfl, ?_⟩
            refine ⟨x.p, x.x, x.d, _, _, _, _, S [c], rfl, hp2, hd2, ?_⟩
            have ev : (valV (kv N u ks2) (Sum.inr (S [c]) : Key)).getD .non = A N (u ++ [c]) := by
              have e1 : valV (kv N u ks2) (Sum.inr (S [c]) : Key) = _ := valV_kv N u c ks2
              rw [e1, if_pos hcs2]
              rfl
            rw [ev]
            refine ⟨tc, _, _, rfl, rfl, f2, by rw [List.length_map]; omega, ?_⟩
            refine ⟨_, rfl, by rw [upd_ne nft]; exact f1, ?_, by rw [upd_ne ntq.symm]; exact f3, fun b o z => ?_⟩
            · rw [upd_same, List.take_succ, hc]
              show _ = some (HO.lst _)
              simp
            · rw [upd_ne (ne_of_none z htc0)]
              exact sm2 _ _ z
          · rintro σ2 H2 ⟨v4', rfl, f1, f2, f3, sm2⟩
            have ell : (((kidsL (exN N) u).reverse.map fun c => [c]).map sv).length = (kidsL (exN N) u).reverse.length := by simp
            rw [ell, List.take_length] at f2
            have er : (S' ++ (kidsL (exN N) u).reverse.map fun c => u ++ [c]).reverse.flatMap (preN N) = ((kidsL (exN N) u).flatMap fun c => preN N (u ++ [c])) ++ S'.reverse.flatMap (preN N) := by
              rw [List.reverse_append, ← List.map_reverse, List.reverse_reverse, List.flatMap_append, List.flatMap_map]
            have eu := preN_step hA.dom hu
            have e3' : Fs ++ (preN N u ++ S'.reverse.flatMap (preN N)) = preN N t := by
              rw [← e3, List.reverse_append]
              simp
            refine ⟨_, ?_, Fs ++ [u], _, _, _, rfl, rfl, f1, f2, ?_, fun v hv => ?_, sm2⟩
            · rw [er, List.reverse_append]
              show _ < ((u :: S'.reverse).flatMap (preN N)).length
              rw [List.flatMap_cons, eu, List.length_append, List.length_append, List.length_cons]
              omega
            · rw [er, ← e3', eu]
              simp
            · rcases List.mem_append.mp hv with z | z
              · exact e4 v (List.mem_append_left _ z)
              · obtain ⟨c, hc, rfl⟩ := List.mem_map.mp z
                exact (mem_kids.mp (List.mem_reverse.mp hc)).2
theorem scWW : FnScope ["self", "text", "last"] ["self", "text"] (defScope sWords) := ⟨rfl, rfl, rfl, by decide +kernel, rfl, by decide +kernel, by decide +kernel⟩
theorem ok_words {f fA fO : Addr} {fd fdA fdO : FuncData} (F : Fun K "words_with" "Hedge.words_with" sWords f fd) (T : PTxt K mg C CH) (TW : WTxt mg fO) (m_path_along : Meth K CH "path_along" fA) (G_path_along : FnOk P w K mg base CX0 2 fA fdA ["self", "text"] (spPath C CH)) (b_path_along : Binds K fdA ["self", "text"] [])
    (F_in_order : Fun K "in_order" "in_order" sOrder fO fdO) (G_in_order : FnOk P w K mg base CX0 2 fO fdO ["first"] (spOrder C CH)) (b_in_order : Binds K fdO ["first"] []) : FnOk P w K mg base CX0 6 f fd ["self", "text"] (spWords C CH) := by
  refine FnOk.mono (j := 3) ?_ (by decide)
  refine F.ok scWW (fun vs H Q E h => ?_) (fun cdv AA outer s H vs Q E hr h => ?_)
  · obtain ⟨Z, g, W, t, rfl, _⟩ := h
    rfl
  · obtain ⟨Z, g, W, t, rfl, hDay, hWl, hwl, hw, k⟩ := h
    have nd := scWW.nd
    have hr_path_along : Room 2 _ := hr
    have hr_in_order : Room 2 _ := hr
    have hsz := sizeLine_eq
    obtain ⟨⟨N, hA, hD⟩, hnd, hwd⟩ := hDay
    obtain ⟨dg, y0, hg, hy0⟩ := hA.gt
    refine ⟨_, (pss_cons (ps_set (i := 2) nd rfl (Or.inl rfl) (pe_ix ix_list (pe_meth (pv 0) T.cl_Hedge m_path_along G_path_along hr_path_along b_path_along .nil pass0 (pa_cons (pv 1) pa_nil)) (pe_un un_neg pe_int) (fun _ _ => rfl)))
      (pss_cons (ps_if (pt_cmpR op_ne (pe_fld (pv 2) rfl) (pv 1) (nomark _)) (pss_one (ps_ret (pe_lst pa_nil))) pss_nil)
      (pss_one (ps_ret (pe_lc (defScope sWords) [] []  rfl rfl (by decide +kernel) trivial (pi_list (pe_call G_in_order hr_in_order rfl TW.in_order F_in_order.kp b_in_order .nil pass0 (pa_cons (pv 2) pa_nil))) (fun _ _ _ _ _ => pif_one (pt_val (pe_fldK K rfl (pv 0) rfl))) (fun _ _ _ _ _ => (pe_fldK K rfl (pv 0) rfl))))))), ?_⟩
    refine ⟨_, rfl, g, dg, _, rfl, hg, root_no (by decide +kernel), _, rfl, Z, g, N, _, _, t, rfl, hA, hwl, by omega, fun k' l H' hk hN hlast hl e sm => ?_⟩
    obtain ⟨y, hy⟩ := Option.isSome_iff_exists.mp (hN k' (Nat.le_refl _))
    obtain ⟨hp, zp, zd, ks, hd, ndk, hm⟩ := (hA.same sm).tw _ y hy
    refine ⟨_, rfl, l, _, _, V.ref y.p, rfl, rfl, SqL.of e, (by rw [← A_some hy]; exact pathV_last N t k'), ?_⟩
    refine ⟨_, rfl, y.p, C, y.x, _, _, rfl, hp, T.cl_Twig, T.nT, f_text .., _, rfl, rfl, _, rfl, ?_⟩
    rw [dec_S]
    by_cases ek : k' = t.length
    · subst ek
      have et : t.take t.length = t := List.take_length
      rw [et] at hp hy
      rw [decide_eq_true et]
      refine iteF ?_
      have hex : ∀ u, exN N u = true ↔ u = [] ∨ 0 < cnt W u := hD
      have hty : exN N t = true := by
        show (N t).isSome = true
        rw [hy]
        rfl
      have hfew : (pre (exN N) (110 - t.length) t).length ≤ 1 + 110 * W.length := pre_few hA.dom (fun w hw => (hwd w hw).2) hex hty
      refine ⟨_, rfl, Z, g, N, _, _, t, y, rfl, hA.same sm, hy, (by show (pre (exN N) (110 - t.length) t).length ≤ _; omega), fun lo H2 hlo hl2 sm2 => ?_⟩
      refine ⟨lo, rfl, ⟨_, SqL.of hl2⟩, lc_list (K := K) (a := lo) (xs := (preN N t).map (A N)) (fun i acc H3 => acc = (((preN N t).take i).filter fun u => decide (u ∈ W)).map sv ∧ H3 = H2) (by rw [List.length_map]; show (pre (exN N) (110 - t.length) t).length ≤ _; omega) ⟨rfl, rfl⟩ (fun i acc H3 h => ?_) (fun i acc H3 _ h => ?_) ?_ ?_⟩
      · rw [h.1, List.length_map]
        exact Nat.le_trans (List.length_filter_le _ _) (List.length_take_le ..)
      · rw [h.2]
        exact SqL.of hl2
      · rintro i x acc H3 hx ⟨rfl, rfl⟩
        obtain ⟨u, hu, rfl⟩ : ∃ u, (preN N t)[i]? = some u ∧ x = A N u := by
          rw [List.getElem?_map] at hx
          cases e : (preN N t)[i]? with
          | none => rw [e] at hx; cases hx
          | some c => rw [e] at hx; exact ⟨c, rfl, (Option.some.inj hx).symm⟩
        have hum := (mem_pre hA.dom (n := 110 - t.length) (by omega) hty u).mp (List.mem_of_getElem? hu)
        obtain ⟨z, hz⟩ := Option.isSome_iff_exists.mp hum.2
        have hpz := (hA.same (sm.trans sm2)).tw _ z hz
        have tk : (preN N t).take (i + 1) = (preN N t).take i ++ [u] := by rw [List.take_succ, hu]; rfl
        refine ⟨_, rfl, z.p, C, z.x, _, _, A_some hz, hpz.1, T.cl_Twig, T.nH, f_here .., _, rfl, ?_⟩
        rw [tk, List.filter_append, List.map_append]
        by_cases hmem : u ∈ W
        · refine iteD1 (decide_eq_true hmem) ?_
          refine ⟨_, rfl, z.p, C, z.x, _, _, A_some hz, hpz.1, T.cl_Twig, T.nT, f_text .., ?_, rfl⟩
          rw [List.filter_cons, if_pos (decide_eq_true hmem)]
          rfl
        · refine iteD0 (decide_eq_false hmem) ⟨?_, rfl⟩
          rw [List.filter_cons, if_neg (by rw [decide_eq_false hmem]; decide)]
          simp
      · rintro acc H3 ⟨rfl, rfl⟩ p hp3
        have el : (preN N t).take ((preN N t).map (A N)).length = preN N t := by rw [List.length_map, List.take_length]
        rw [el]
        have ew := pre_words hA.dom hnd hex hty
        have s3 : Same H (upd H3 p (.lst (((preN N t).filter fun u => decide (u ∈ W)).map sv))) := (sm.trans sm2).trans (same_new hp3)
        refine k p _ ((sm.trans sm2).free hp3) ?_ s3
        rw [upd_same]
        show some (HO.lst (((pre (exN N) (110 - t.length) t).filter fun u => decide (u ∈ W)).map sv)) = _
        rw [ew]
    · have hlt : k' < t.length := by omega
      have hne : ¬ t.take k' = t := fun z => by
        have := congrArg List.length z
        rw [List.length_take] at this
        omega
      rw [decide_eq_false hne]
      refine iteT ⟨Nat.zero_le _, fun p hp3 => ?_⟩
      refine k p _ (sm.free hp3) ?_ (sm.trans (same_new hp3))
      rw [upd_same, none_with (cnt_none hD hlt (hlast.resolve_left ek))]
      rfl
end

section
variable {P : Program} {w : World} {K : PySem.W.Frag} {mg : Str → Option Value} {base : Heap} {C CH : Addr}
theorem scDO : FnScope ["hedge", "deed", "name", "given"] ["hedge", "deed"] (defScope sDoOne) := ⟨rfl, rfl, rfl, by decide +kernel, rfl, by decide +kernel, by decide +kernel⟩
theorem ok_doone {f fP fT fH f1 fAll f_words_with : Addr} {fd fdP fdT fdH fd_words_with : FuncData} (F : Fun K "do_one" "do_one" sDoOne f fd) (T : DTxt K mg C CH f1 fAll) (m_put : Meth K CH "put" fP) (G_put : FnOk P w K mg base CX0 4 fP fdP ["self", "word"] (spPut C CH)) (b_put : Binds K fdP ["self", "word"] [])
    (m_take : Meth K CH "take" fT) (G_take : FnOk P w K mg base CX0 3 fT fdT ["self", "word"] (spTake C CH)) (b_take : Binds K fdT ["self", "word"] []) (m_has : Meth K CH "has" fH) (G_has : FnOk P w K mg base CX0 3 fH fdH ["self", "word"] (spHas C CH)) (b_has : Binds K fdH ["self", "word"] []) (m_words_with : Meth K CH "words_with" f_words_with) (G_words_with : FnOk P w K mg base CX0 6 f_words_with fd_words_with ["self", "text"] (spWords C CH)) (b_words_with : Binds K fd_words_with ["self", "text"] []) :
    FnOk P w K mg base CX0 7 f fd ["hedge", "deed"] (spDo Fine4 C CH) := by
  refine F.ok scDO (fun vs H Q E h => ?_) (fun cdv AA outer s H vs Q E hr h => ?_)
  · obtain ⟨Z, g, W, p, d, rfl, _⟩ := h
    rfl
  · obtain ⟨Z, g, W, p, d, rfl, hDay, hZ, hd, hF, hWl, k⟩ := h
    have nd := scDO.nd
    have hr_put : Room 4 _ := hr.mono (by decide)
    have hr_take : Room 3 _ := hr.mono (by decide)
    have hr_has : Room 3 _ := hr.mono (by decide)
    have hr_words_with : Room 6 _ := hr.mono (by decide)
    obtain ⟨⟨N, hA, hD⟩, hnd, hwd⟩ := id hDay
    obtain ⟨dg, y0, hg, hy0⟩ := hA.gt
    have hd' : H p = some (.tup [.str d.name, d.arg]) := hd
    refine ⟨_, (pss_cons (ps_set (i := 2) nd rfl (Or.inl rfl) (pe_ix ix_tup (pv 1) pe_int (fun _ _ => rfl)))
      (pss_cons (ps_set (i := 3) nd rfl (Or.inl rfl) (pe_ix ix_tup (pv 1) pe_int (fun _ _ => rfl)))
      (pss_cons (ps_if (pt_cmpR op_eq (pv 2) pe_str (nomark _)) (pss_one (ps_ret (pe_meth (pv 0) T.cl_Hedge m_put G_put hr_put b_put .nil pass0 (pa_cons (pv 3) pa_nil)))) pss_nil)
      (pss_cons (ps_if (pt_cmpR op_eq (pv 2) pe_str (nomark _)) (pss_one (ps_ret (pe_meth (pv 0) T.cl_Hedge m_take G_take hr_take b_take .nil pass0 (pa_cons (pv 3) pa_nil)))) pss_nil)
      (pss_cons (ps_if (pt_cmpR op_eq (pv 2) pe_str (nomark _)) (pss_one (ps_ret (pe_meth (pv 0) T.cl_Hedge m_has G_has hr_has b_has .nil pass0 (pa_cons (pv 3) pa_nil)))) pss_nil)
      (pss_cons (ps_if (pt_cmpR op_eq (pv 2) pe_str (nomark _)) (pss_one (ps_ret (pe_meth (pv 0) T.cl_Hedge m_words_with G_words_with hr_words_with b_words_with .nil pass0 (pa_cons (pv 3) pa_nil)))) pss_nil)
      (pss_cons (ps_if (pt_cmpR op_eq (pv 2) pe_str (nomark _)) (pss_one ps_never) pss_nil)
      (pss_cons (ps_if (pt_cmpR op_eq (pv 2) pe_str (nomark _)) (pss_one ps_never) pss_nil)
      (pss_one ps_never))))))))), ?_⟩
    refine ⟨_, rfl, p, _, _, _, rfl, rfl, SqT.of hd', rfl, ?_⟩
    refine ⟨_, rfl, p, _, _, _, rfl, rfl, SqT.of hd', rfl, ?_⟩
    rcases hF with hF | hF
    · skip
      obtain ⟨w, hc, hwl, hw⟩ := hF
      rcases hc with rfl | rfl | rfl
      · refine ⟨_, rfl, rfl, _, rfl, iteD1 ((dname (.put w) (.put [])).trans rfl) ?_⟩
        refine ⟨_, rfl, g, dg, _, rfl, hg, root_no (by decide +kernel), _, rfl, Z, g, W, w, rfl, hDay, hZ, hwl, hw, fun H' hD' kp => k _ H' rfl (fun _ z => nomatch z) hD' kp⟩
      · refine ⟨_, rfl, rfl, _, rfl, iteD0 ((dname (.take w) (.put [])).trans rfl) ?_⟩
        refine ⟨_, rfl, rfl, _, rfl, iteD1 ((dname (.take w) (.take [])).trans rfl) ?_⟩
        refine ⟨_, rfl, g, dg, _, rfl, hg, root_no (by decide +kernel), _, rfl, Z, g, W, w, rfl, hDay, hZ, hwl, hw, fun H' hD' kp => k _ H' rfl (fun _ z => nomatch z) hD' kp⟩
      · refine ⟨_, rfl, rfl, _, rfl, iteD0 ((dname (.has w) (.put [])).trans rfl) ?_⟩
        refine ⟨_, rfl, rfl, _, rfl, iteD0 ((dname (.has w) (.take [])).trans rfl) ?_⟩
        refine ⟨_, rfl, rfl, _, rfl, iteD1 ((dname (.has w) (.has [])).trans rfl) ?_⟩
        refine ⟨_, rfl, g, dg, _, rfl, hg, root_no (by decide +kernel), _, rfl, Z, g, W, w, rfl, hDay, hwl, hw, fun H' sm => k _ H' rfl (fun _ z => nomatch z) (hDay.keep fun b o e _ => sm _ _ e) (Kp.same sm)⟩
    · skip
      obtain ⟨t, rfl, hwl, hw⟩ := hF
      refine ⟨_, rfl, rfl, _, rfl, iteD0 ((dname (.all t) (.put [])).trans rfl) ?_⟩
      refine ⟨_, rfl, rfl, _, rfl, iteD0 ((dname (.all t) (.take [])).trans rfl) ?_⟩
      refine ⟨_, rfl, rfl, _, rfl, iteD0 ((dname (.all t) (.has [])).trans rfl) ?_⟩
      refine ⟨_, rfl, rfl, _, rfl, iteD1 ((dname (.all t) (.all [])).trans rfl) ?_⟩
      refine ⟨_, rfl, g, dg, _, rfl, hg, root_no (by decide +kernel), _, rfl, Z, g, W, t, rfl, hDay, hWl, hwl, hw, fun l H' hl e sm => k _ H' ⟨l, rfl, e⟩ (fun q z => by cases z; exact hl) (hDay.keep fun b o e _ => sm _ _ e) (Kp.same sm)⟩
end

end K04

set_option Elab.async false
set_option linter.all false
set_option maxRecDepth 100000
set_option maxHeartbeats 4000000
namespace K04
open PySem L2 WH
theorem all_mk {l : PySem.W.OpenLaw} {w : World} {K : PySem.W.Frag} {h : Heap} {mg : Str → Option Value} {fa fTI fPH fTH fFo fGr fSe fSB fHI fPu fTa fHa fPA fAn fDA fDO fIO fWW fL fS fP fH flaw C CH : Addr} (X : K.In h) (G : h.Ns mainGlobals mg) (hfa : mg "law" = some (.ref fa))
    {odTI anTI odPH anPH odTH anTH odFo anFo odGr anGr odSe anSe odSB anSB odHI anHI odPu anPu odTa anTa odHa anHa odPA anPA odAn anAn odDA anDA odDO anDO odIO anIO odWW anWW odL anL odS anS odP anP odH anH odlaw anlaw : Option Addr} {slTI slPH slTH slFo slGr slSe slSB slHI slPu slTa slHa slPA slAn slDA slDO slIO slWW slL slS slP slH sllaw : Array (Option Value)} {ocTI kVTI dcTI pmTI cdTI ctTI ocPH kVPH dcPH pmPH cdPH ctPH ocTH kVTH dcTH pmTH cdTH ctTH ocFo kVFo dcFo pmFo cdFo ctFo ocGr kVGr dcGr pmGr cdGr ctGr ocSe kVSe dcSe pmSe cdSe ctSe ocSB kVSB dcSB pmSB cdSB ctSB ocHI kVHI dcHI pmHI cdHI ctHI ocPu kVPu dcPu pmPu cdPu ctPu ocTa kVTa dcTa pmTa cdTa ctTa ocHa kVHa dcHa pmHa cdHa ctHa ocPA kVPA dcPA pmPA cdPA ctPA ocAn kVAn dcAn pmAn cdAn ctAn ocDA kVDA dcDA pmDA cdDA ctDA ocDO kVDO dcDO pmDO cdDO ctDO ocIO kVIO dcIO pmIO cdIO ctIO ocWW kVWW dcWW pmWW cdWW ctWW ocL kVL dcL pmL cdL ctL ocS kVS dcS pmS cdS ctS ocP kVP dcP pmP cdP ctP ocH kVH dcH pmH cdH ctH oclaw kVlaw dclaw pmlaw cdlaw ctlaw : Value}
    (aCC : PySem.W.nsIn K mainGlobals "Twig" = some (some (.ref C)))
    (aCCH : PySem.W.nsIn K mainGlobals "Hedge" = some (some (.ref CH)))
    (aTI : PySem.W.findIn K (.ref C) "__init__" = some (some (.ref fTI))) (iTI : PySem.W.isFn K (.ref fTI) = true) (lTI : K.lookup fTI = some ⟨ocTI, odTI, .func (PySem.W.fnOf "__init__" "Twig.__init__" (defArgs sTInit) (defBody sTInit) (defScope sTInit) .none kVTI dcTI pmTI anTI cdTI ctTI), slTI⟩) (cTI : PySem.W.codeIn K cdTI "Twig.__init__" = true) (kTI : PySem.W.keepIn K (.ref fTI) = true)
    (aPH : PySem.W.findIn K (.ref C) "put_here" = some (some (.ref fPH))) (iPH : PySem.W.isFn K (.ref fPH) = true) (lPH : K.lookup fPH = some ⟨ocPH, odPH, .func (PySem.W.fnOf "put_here" "Twig.put_here" (defArgs sPutHere) (defBody sPutHere) (defScope sPutHere) .none kVPH dcPH pmPH anPH cdPH ctPH), slPH⟩) (cPH : PySem.W.codeIn K cdPH "Twig.put_here" = true) (kPH : PySem.W.keepIn K (.ref fPH) = true)
    (aTH : PySem.W.findIn K (.ref C) "take_here" = some (some (.ref fTH))) (iTH : PySem.W.isFn K (.ref fTH) = true) (lTH : K.lookup fTH = some ⟨ocTH, odTH, .func (PySem.W.fnOf "take_here" "Twig.take_here" (defArgs sTakeHere) (defBody sTakeHere) (defScope sTakeHere) .none kVTH dcTH pmTH anTH cdTH ctTH), slTH⟩) (cTH : PySem.W.codeIn K cdTH "Twig.take_here" = true) (kTH : PySem.W.keepIn K (.ref fTH) = true)
    (aFo : PySem.W.findIn K (.ref C) "follow" = some (some (.ref fFo))) (iFo : PySem.W.isFn K (.ref fFo) = true) (lFo : K.lookup fFo = some ⟨ocFo, odFo, .func (PySem.W.fnOf "follow" "Twig.follow" (defArgs sFollow) (defBody sFollow) (defScope sFollow) .none kVFo dcFo pmFo anFo cdFo ctFo), slFo⟩) (cFo : PySem.W.codeIn K cdFo "Twig.follow" = true) (kFo : PySem.W.keepIn K (.ref fFo) = true)
    (aGr : PySem.W.findIn K (.ref C) "grow" = some (some (.ref fGr))) (iGr : PySem.W.isFn K (.ref fGr) = true) (lGr : K.lookup fGr = some ⟨ocGr, odGr, .func (PySem.W.fnOf "grow" "Twig.grow" (defArgs sGrow) (defBody sGrow) (defScope sGrow) .none kVGr dcGr pmGr anGr cdGr ctGr), slGr⟩) (cGr : PySem.W.codeIn K cdGr "Twig.grow" = true) (kGr : PySem.W.keepIn K (.ref fGr) = true)
    (aSe : PySem.W.findIn K (.ref C) "settle" = some (some (.ref fSe))) (iSe : PySem.W.isFn K (.ref fSe) = true) (lSe : K.lookup fSe = some ⟨ocSe, odSe, .func (PySem.W.fnOf "settle" "Twig.settle" (defArgs sSettle) (defBody sSettle) (defScope sSettle) .none kVSe dcSe pmSe anSe cdSe ctSe), slSe⟩) (cSe : PySem.W.codeIn K cdSe "Twig.settle" = true) (kSe : PySem.W.keepIn K (.ref fSe) = true)
    (aSB : PySem.W.nsIn K mainGlobals "settle_back" = some (some (.ref fSB))) (lSB : K.lookup fSB = some ⟨ocSB, odSB, .func (PySem.W.fnOf "settle_back" "settle_back" (defArgs sBack) (defBody sBack) (defScope sBack) .none kVSB dcSB pmSB anSB cdSB ctSB), slSB⟩) (cSB : PySem.W.codeIn K cdSB "settle_back" = true) (kSB : PySem.W.keepIn K (.ref fSB) = true)
    (aHI : PySem.W.findIn K (.ref CH) "__init__" = some (some (.ref fHI))) (iHI : PySem.W.isFn K (.ref fHI) = true) (lHI : K.lookup fHI = some ⟨ocHI, odHI, .func (PySem.W.fnOf "__init__" "Hedge.__init__" (defArgs sHInit) (defBody sHInit) (defScope sHInit) .none kVHI dcHI pmHI anHI cdHI ctHI), slHI⟩) (cHI : PySem.W.codeIn K cdHI "Hedge.__init__" = true) (kHI : PySem.W.keepIn K (.ref fHI) = true)
    (aPu : PySem.W.findIn K (.ref CH) "put" = some (some (.ref fPu))) (iPu : PySem.W.isFn K (.ref fPu) = true) (lPu : K.lookup fPu = some ⟨ocPu, odPu, .func (PySem.W.fnOf "put" "Hedge.put" (defArgs sPut) (defBody sPut) (defScope sPut) .none kVPu dcPu pmPu anPu cdPu ctPu), slPu⟩) (cPu : PySem.W.codeIn K cdPu "Hedge.put" = true) (kPu : PySem.W.keepIn K (.ref fPu) = true)
    (aTa : PySem.W.findIn K (.ref CH) "take" = some (some (.ref fTa))) (iTa : PySem.W.isFn K (.ref fTa) = true) (lTa : K.lookup fTa = some ⟨ocTa, odTa, .func (PySem.W.fnOf "take" "Hedge.take" (defArgs sTake) (defBody sTake) (defScope sTake) .none kVTa dcTa pmTa anTa cdTa ctTa), slTa⟩) (cTa : PySem.W.codeIn K cdTa "Hedge.take" = true) (kTa : PySem.W.keepIn K (.ref fTa) = true)
    (aHa : PySem.W.findIn K (.ref CH) "has" = some (some (.ref fHa))) (iHa : PySem.W.isFn K (.ref fHa) = true) (lHa : K.lookup fHa = some ⟨ocHa, odHa, .func (PySem.W.fnOf "has" "Hedge.has" (defArgs sHas) (defBody sHas) (defScope sHas) .none kVHa dcHa pmHa anHa cdHa ctHa), slHa⟩) (cHa : PySem.W.codeIn K cdHa "Hedge.has" = true) (kHa : PySem.W.keepIn K (.ref fHa) = true)
    (aPA : PySem.W.findIn K (.ref CH) "path_along" = some (some (.ref fPA))) (iPA : PySem.W.isFn K (.ref fPA) = true) (lPA : K.lookup fPA = some ⟨ocPA, odPA, .func (PySem.W.fnOf "path_along" "Hedge.path_along" (defArgs sPath) (defBody sPath) (defScope sPath) .none kVPA dcPA pmPA anPA cdPA ctPA), slPA⟩) (cPA : PySem.W.codeIn K cdPA "Hedge.path_along" = true) (kPA : PySem.W.keepIn K (.ref fPA) = true)
    (aAn : PySem.W.nsIn K mainGlobals "answers" = some (some (.ref fAn))) (lAn : K.lookup fAn = some ⟨ocAn, odAn, .func (PySem.W.fnOf "answers" "answers" (defArgs sAnswers) (defBody sAnswers) (defScope sAnswers) .none kVAn dcAn pmAn anAn cdAn ctAn), slAn⟩) (cAn : PySem.W.codeIn K cdAn "answers" = true) (kAn : PySem.W.keepIn K (.ref fAn) = true)
    (aDA : PySem.W.nsIn K mainGlobals "do_all" = some (some (.ref fDA))) (lDA : K.lookup fDA = some ⟨ocDA, odDA, .func (PySem.W.fnOf "do_all" "do_all" (defArgs sDoAll) (defBody sDoAll) (defScope sDoAll) .none kVDA dcDA pmDA anDA cdDA ctDA), slDA⟩) (cDA : PySem.W.codeIn K cdDA "do_all" = true) (kDA : PySem.W.keepIn K (.ref fDA) = true)
    (aDO : PySem.W.nsIn K mainGlobals "do_one" = some (some (.ref fDO))) (lDO : K.lookup fDO = some ⟨ocDO, odDO, .func (PySem.W.fnOf "do_one" "do_one" (defArgs sDoOne) (defBody sDoOne) (defScope sDoOne) .none kVDO dcDO pmDO anDO cdDO ctDO), slDO⟩) (cDO : PySem.W.codeIn K cdDO "do_one" = true) (kDO : PySem.W.keepIn K (.ref fDO) = true)
    (aIO : PySem.W.nsIn K mainGlobals "in_order" = some (some (.ref fIO))) (lIO : K.lookup fIO = some ⟨ocIO, odIO, .func (PySem.W.fnOf "in_order" "in_order" (defArgs sOrder) (defBody sOrder) (defScope sOrder) .none kVIO dcIO pmIO anIO cdIO ctIO), slIO⟩) (cIO : PySem.W.codeIn K cdIO "in_order" = true) (kIO : PySem.W.keepIn K (.ref fIO) = true)
    (aWW : PySem.W.findIn K (.ref CH) "words_with" = some (some (.ref fWW))) (iWW : PySem.W.isFn K (.ref fWW) = true) (lWW : K.lookup fWW = some ⟨ocWW, odWW, .func (PySem.W.fnOf "words_with" "Hedge.words_with" (defArgs sWords) (defBody sWords) (defScope sWords) .none kVWW dcWW pmWW anWW cdWW ctWW), slWW⟩) (cWW : PySem.W.codeIn K cdWW "Hedge.words_with" = true) (kWW : PySem.W.keepIn K (.ref fWW) = true)
    (aL : PySem.W.nsIn K mainGlobals "_law_listed" = some (some (.ref fL))) (lL : K.lookup fL = some ⟨ocL, odL, .func (PySem.W.fnOf "_law_listed" "_law_listed" (defArgs sListed) (defBody sListed) (defScope sListed) .none kVL dcL pmL anL cdL ctL), slL⟩) (cL : PySem.W.codeIn K cdL "_law_listed" = true) (kL : PySem.W.keepIn K (.ref fL) = true)
    (aS : PySem.W.nsIn K mainGlobals "_law_spelt" = some (some (.ref fS))) (lS : K.lookup fS = some ⟨ocS, odS, .func (PySem.W.fnOf "_law_spelt" "_law_spelt" (defArgs sSpelt) (defBody sSpelt) (defScope sSpelt) .none kVS dcS pmS anS cdS ctS), slS⟩) (cS : PySem.W.codeIn K cdS "_law_spelt" = true) (kS : PySem.W.keepIn K (.ref fS) = true)
    (aP : PySem.W.nsIn K mainGlobals "_law_puts" = some (some (.ref fP))) (lP : K.lookup fP = some ⟨ocP, odP, .func (PySem.W.fnOf "_law_puts" "_law_puts" (defArgs sPuts) (defBody sPuts) (defScope sPuts) .none kVP dcP pmP anP cdP ctP), slP⟩) (cP : PySem.W.codeIn K cdP "_law_puts" = true) (kP : PySem.W.keepIn K (.ref fP) = true)
    (aH : PySem.W.nsIn K mainGlobals "_law_held" = some (some (.ref fH))) (lH : K.lookup fH = some ⟨ocH, odH, .func (PySem.W.fnOf "_law_held" "_law_held" (defArgs sHeld) (defBody sHeld) (defScope sHeld) .none kVH dcH pmH anH cdH ctH), slH⟩) (cH : PySem.W.codeIn K cdH "_law_held" = true) (kH : PySem.W.keepIn K (.ref fH) = true)
    (alaw : PySem.W.nsIn K mainGlobals "law" = some (some (.ref flaw))) (llaw : K.lookup flaw = some ⟨oclaw, odlaw, .func (PySem.W.fnOf "law" "law" (defArgs sLaw) (defBody sLaw) (defScope sLaw) .none kVlaw dclaw pmlaw anlaw cdlaw ctlaw), sllaw⟩) (claw : PySem.W.codeIn K cdlaw "law" = true) (klaw : PySem.W.keepIn K (.ref flaw) = true)
    (pgC : PySem.W.plainGet K C Str.empty = true) (hdC : PySem.W.hasDictIn K C = true) (poC : PySem.W.plainOver K C = true) (saC : PySem.W.findIn K (.ref C) "__setattr__" = some (some (.builtin "object.__setattr__"))) (mkC : PySem.W.makesIn K C = true) (kcC : PySem.W.keepIn K (.ref C) = true)
    (nCtext : PySem.W.findIn K (.ref C) "text" = some none)
    (nChere : PySem.W.findIn K (.ref C) "here" = some none)
    (nCmany : PySem.W.findIn K (.ref C) "many" = some none)
    (nClonger : PySem.W.findIn K (.ref C) "longer" = some none)
    (pgCH : PySem.W.plainGet K CH Str.empty = true) (hdCH : PySem.W.hasDictIn K CH = true) (poCH : PySem.W.plainOver K CH = true) (saCH : PySem.W.findIn K (.ref CH) "__setattr__" = some (some (.builtin "object.__setattr__"))) (mkCH : PySem.W.makesIn K CH = true) (kcCH : PySem.W.keepIn K (.ref CH) = true)
    (nCHroot : PySem.W.findIn K (.ref CH) "root" = some none)
    (zreversed : PySem.W.nsIn K mainGlobals "reversed" = some none)
    (zlen : PySem.W.nsIn K mainGlobals "len" = some none)
    (zrange : PySem.W.nsIn K mainGlobals "range" = some none)
    (zint : PySem.W.nsIn K mainGlobals "int" = some none)
    (zisinstance : PySem.W.nsIn K mainGlobals "isinstance" = some none)
    (zlist : PySem.W.nsIn K mainGlobals "list" = some none)
    (zstr : PySem.W.nsIn K mainGlobals "str" = some none)
    (zsorted : PySem.W.nsIn K mainGlobals "sorted" = some none) :
    ∃ fd : FuncData, (∀ (s : Shared) (v : Value), BindsTo s fd ⟨[v], []⟩ [("_law_script", v)]) ∧ ∀ base : Heap, K.In base → base.Ns mainGlobals mg → FnOk l.prog w K mg base CX0 13 fa fd ["_law_script"] (spLaw K) := by
  have e := hfa.symm.trans (PySem.W.mg_of X G alaw)
  cases e
  have FTI := fun_mk (st := sTInit) lTI cTI kTI
  have bTI := FTI.binds (ps := ["self", "text"]) fun _ _ _ _ _ _ us hl => match us, hl with | [_, _], _ => rfl
  have mTI : Meth K C "__init__" fTI := ⟨aTI, iTI, kTI⟩
  have FPH := fun_mk (st := sPutHere) lPH cPH kPH
  have bPH := FPH.binds (ps := ["self"]) fun _ _ _ _ _ _ us hl => match us, hl with | [_], _ => rfl
  have mPH : Meth K C "put_here" fPH := ⟨aPH, iPH, kPH⟩
  have FTH := fun_mk (st := sTakeHere) lTH cTH kTH
  have bTH := FTH.binds (ps := ["self"]) fun _ _ _ _ _ _ us hl => match us, hl with | [_], _ => rfl
  have mTH : Meth K C "take_here" fTH := ⟨aTH, iTH, kTH⟩
  have FFo := fun_mk (st := sFollow) lFo cFo kFo
  have bFo := FFo.binds (ps := ["self", "letter"]) fun _ _ _ _ _ _ us hl => match us, hl with | [_, _], _ => rfl
  have mFo : Meth K C "follow" fFo := ⟨aFo, iFo, kFo⟩
  have FGr := fun_mk (st := sGrow) lGr cGr kGr
  have bGr := FGr.binds (ps := ["self", "letter"]) fun _ _ _ _ _ _ us hl => match us, hl with | [_, _], _ => rfl
  have mGr : Meth K C "grow" fGr := ⟨aGr, iGr, kGr⟩
  have FSe := fun_mk (st := sSettle) lSe cSe kSe
  have bSe := FSe.binds (ps := ["self"]) fun _ _ _ _ _ _ us hl => match us, hl with | [_], _ => rfl
  have mSe : Meth K C "settle" fSe := ⟨aSe, iSe, kSe⟩
  have FSB := fun_mk (st := sBack) lSB cSB kSB
  have bSB := FSB.binds (ps := ["path"]) fun _ _ _ _ _ _ us hl => match us, hl with | [_], _ => rfl
  have gSB := PySem.W.mg_of X G aSB
  have FHI := fun_mk (st := sHInit) lHI cHI kHI
  have bHI := FHI.binds (ps := ["self"]) fun _ _ _ _ _ _ us hl => match us, hl with | [_], _ => rfl
  have mHI : Meth K CH "__init__" fHI := ⟨aHI, iHI, kHI⟩
  have FPu := fun_mk (st := sPut) lPu cPu kPu
  have bPu := FPu.binds (ps := ["self", "word"]) fun _ _ _ _ _ _ us hl => match us, hl with | [_, _], _ => rfl
  have mPu : Meth K CH "put" fPu := ⟨aPu, iPu, kPu⟩
  have FTa := fun_mk (st := sTake) lTa cTa kTa
  have bTa := FTa.binds (ps := ["self", "word"]) fun _ _ _ _ _ _ us hl => match us, hl with | [_, _], _ => rfl
  have mTa : Meth K CH "take" fTa := ⟨aTa, iTa, kTa⟩
  have FHa := fun_mk (st := sHas) lHa cHa kHa
  have bHa := FHa.binds (ps := ["self", "word"]) fun _ _ _ _ _ _ us hl => match us, hl with | [_, _], _ => rfl
  have mHa : Meth K CH "has" fHa := ⟨aHa, iHa, kHa⟩
  have FPA := fun_mk (st := sPath) lPA cPA kPA
  have bPA := FPA.binds (ps := ["self", "text"]) fun _ _ _ _ _ _ us hl => match us, hl with | [_, _], _ => rfl
  have mPA : Meth K CH "path_along" fPA := ⟨aPA, iPA, kPA⟩
  have FAn := fun_mk (st := sAnswers) lAn cAn kAn
  have bAn := FAn.binds (ps := ["deeds"]) fun _ _ _ _ _ _ us hl => match us, hl with | [_], _ => rfl
  have gAn := PySem.W.mg_of X G aAn
  have FDA := fun_mk (st := sDoAll) lDA cDA kDA
  have bDA := FDA.binds (ps := ["hedge", "deeds"]) fun _ _ _ _ _ _ us hl => match us, hl with | [_, _], _ => rfl
  have gDA := PySem.W.mg_of X G aDA
  have FDO := fun_mk (st := sDoOne) lDO cDO kDO
  have bDO := FDO.binds (ps := ["hedge", "deed"]) fun _ _ _ _ _ _ us hl => match us, hl with | [_, _], _ => rfl
  have gDO := PySem.W.mg_of X G aDO
  have FIO := fun_mk (st := sOrder) lIO cIO kIO
  have bIO := FIO.binds (ps := ["first"]) fun _ _ _ _ _ _ us hl => match us, hl with | [_], _ => rfl
  have gIO := PySem.W.mg_of X G aIO
  have FWW := fun_mk (st := sWords) lWW cWW kWW
  have bWW := FWW.binds (ps := ["self", "text"]) fun _ _ _ _ _ _ us hl => match us, hl with | [_, _], _ => rfl
  have mWW : Meth K CH "words_with" fWW := ⟨aWW, iWW, kWW⟩
  have FL := fun_mk (st := sListed) lL cL kL
  have bL := FL.binds (ps := ["_law_found", "_law_due"]) fun _ _ _ _ _ _ us hl => match us, hl with | [_, _], _ => rfl
  have gL := PySem.W.mg_of X G aL
  have FS := fun_mk (st := sSpelt) lS cS kS
  have bS := FS.binds (ps := ["_law_seed"]) fun _ _ _ _ _ _ us hl => match us, hl with | [_], _ => rfl
  have gS := PySem.W.mg_of X G aS
  have FP := fun_mk (st := sPuts) lP cP kP
  have bP := FP.binds (ps := ["_law_cells"]) fun _ _ _ _ _ _ us hl => match us, hl with | [_], _ => rfl
  have gP := PySem.W.mg_of X G aP
  have FH := fun_mk (st := sHeld) lH cH kH
  have bH := FH.binds (ps := ["_law_asked"]) fun _ _ _ _ _ _ us hl => match us, hl with | [_], _ => rfl
  have gH := PySem.W.mg_of X G aH
  have Flaw := fun_mk (st := sLaw) llaw claw klaw
  have glaw := PySem.W.mg_of X G alaw
  have clC : Cls K C := ⟨pgC, hdC, poC, saC⟩
  have gC := PySem.W.mg_of X G aCC
  have clCH : Cls K CH := ⟨pgCH, hdCH, poCH, saCH⟩
  have gCH := PySem.W.mg_of X G aCCH
  have yreversed := PySem.W.mg_none_of X G zreversed
  have ylen := PySem.W.mg_none_of X G zlen
  have yrange := PySem.W.mg_none_of X G zrange
  have yint := PySem.W.mg_none_of X G zint
  have yisinstance := PySem.W.mg_none_of X G zisinstance
  have ylist := PySem.W.mg_none_of X G zlist
  have ystr := PySem.W.mg_none_of X G zstr
  have ysorted := PySem.W.mg_none_of X G zsorted
  refine ⟨PySem.W.fnOf "law" "law" (defArgs sLaw) (defBody sLaw) (defScope sLaw) .none kVlaw dclaw pmlaw anlaw cdlaw ctlaw, fun s v => .of_eq rfl, fun base _ _ => ?_⟩
  have MT : Mk K C fTI := ⟨mkC, aTI, iTI, kcC⟩
  have MH : Mk K CH fHI := ⟨mkCH, aHI, iHI, kcCH⟩
  have T : PTxt K mg C CH := ⟨clC, clCH, nCtext, nChere, nCmany, nClonger, nCHroot, gC, gCH, yreversed⟩
  have D : DTxt K mg C CH fDO fDA := ⟨T, gDO, gDA⟩
  have TB : HTxt mg fSB := ⟨gSB⟩
  have Gback := ok_back (P := l.prog) (w := w) (base := base) FSB T mSe FSe bSe
  have Gpath := ok_path (P := l.prog) (w := w) (base := base) FPA T mFo FFo bFo
  have Ggrow := ok_grow (P := l.prog) (w := w) (base := base) FGr T MT FTI bTI
  have Ghin := ok_hinit (P := l.prog) (w := w) (base := base) FHI T MT FTI bTI
  have Gput := ok_put FPu T TB mGr Ggrow bGr mPH FPH bPH FSB Gback bSB
  have Gtake := ok_take FTa T TB mPA Gpath bPA mTH FTH bTH FSB Gback bSB
  have Ghas := ok_has FHa T mPA Gpath bPA
  have TW : WTxt mg fIO := ⟨gIO, ysorted⟩
  have Gord := ok_order (P := l.prog) (w := w) (base := base) FIO T TW mFo FFo bFo
  have Gww := ok_words FWW T TW mPA Gpath bPA FIO Gord bIO
  have Gone := ok_doone FDO D mPu Gput bPu mTa Gtake bTa mHa Ghas bHa mWW Gww bWW
  have Gall := ok_doall FDA D FDO Gone bDO
  have Gans := ok_answers (k1 := 4) FAn D FDA Gall bDA MH Ghin bHI
  have TL : Txt mg fS fP fH fL fAn := ⟨⟨gS, gP, ylen, yrange, yint⟩, gH, gL, gAn, yisinstance, ylist, ystr, ysorted⟩
  exact ok_law Flaw TL FS bS FP bP FH bH FL bL kAn bAn Gans
theorem walk {l : PySem.W.OpenLaw} {q : Program} {loose : List Str} {XP : (Str → Option Value) → Heap → Prop} {YP : World → Heap → Prop} {d : DefRec} {K : Params → PySem.W.Frag} (hn : l.most = some 63) (hdf : d.params.defaults = [])
    (hY : ∀ (w : World) (h : Heap), YP w h → (K w.params).In h)
    (F : ∀ (w : World) (mg : Str → Option Value) (fa : Addr) (h : Heap), (K w.params).In h → h.Ns mainGlobals mg → mg d.name = some (.ref fa) →
      ∃ fd : FuncData, (∀ (s : Shared) (u : Value), BindsTo s fd ⟨[u], []⟩ [("_law_script", u)]) ∧ ∀ base : Heap, (K w.params).In base → base.Ns mainGlobals mg → FnOk l.prog w (K w.params) mg base CX0 13 fa fd ["_law_script"] (spLaw (K w.params))) :
    PySem.W.WalkO q loose XP YP l.row.toRowW d [] (fun f vs => PySem.call f vs) :=
  L2.walk_of (n := 63) (k := 13) (x := "_law_script") (CX := fun _ => CX0) (sp := fun w => spLaw (K w.params)) hn (by decide) hdf ⟨rfl, by decide, by decide⟩ hY F (fun _ _ a ns hl _ hS => ⟨a, ns, rfl, hS, hl, fun _ => rfl⟩) fun _ _ _ _ _ z => z
end K04

set_option Elab.async false
open PySem PySem.W PyProof.Rows
set_option maxRecDepth 100000 in
set_option maxHeartbeats 0 in
theorem PySem.Challenge.cw_wordhedge_k04_whole_all_with_holds : PySem.Challenge.rw_wordhedge_k04_whole_all_with.Holds := by
  w_on; o_law; k_head; (case hw => w_witness2)
  k_fill
  refine K04.walk (l := PySem.Challenge.rw_wordhedge_k04_whole_all_with) rfl rfl (fun w h Y => PySem.W.kIn_of Y) ?F
  case F =>
    intro w mg fa h KX G hmg
    refine' K04.all_mk KX G hmg ?aCC ?aCCH ?aTI ?iTI ?lTI ?cTI ?kTI ?aPH ?iPH ?lPH ?cPH ?kPH ?aTH ?iTH ?lTH ?cTH ?kTH ?aFo ?iFo ?lFo ?cFo ?kFo ?aGr ?iGr ?lGr ?cGr ?kGr ?aSe ?iSe ?lSe ?cSe ?kSe ?aSB ?lSB ?cSB ?kSB ?aHI ?iHI ?lHI ?cHI ?kHI ?aPu ?iPu ?lPu ?cPu ?kPu ?aTa ?iTa ?lTa ?cTa ?kTa ?aHa ?iHa ?lHa ?cHa ?kHa ?aPA ?iPA ?lPA ?cPA ?kPA ?aAn ?lAn ?cAn ?kAn ?aDA ?lDA ?cDA ?kDA ?aDO ?lDO ?cDO ?kDO ?aIO ?lIO ?cIO ?kIO ?aWW ?iWW ?lWW ?cWW ?kWW ?aL ?lL ?cL ?kL ?aS ?lS ?cS ?kS ?aP ?lP ?cP ?kP ?aH ?lH ?cH ?kH ?alaw ?llaw ?claw ?klaw ?pgC ?hdC ?poC ?saC ?mkC ?kcC ?nCtext ?nChere ?nCmany ?nClonger ?pgCH ?hdCH ?poCH ?saCH ?mkCH ?kcCH ?nCHroot ?zreversed ?zlen ?zrange ?zint ?zisinstance ?zlist ?zstr ?zsorted
    (case aCC => k_is); (case aCCH => k_is); (case aTI => k_is); (case iTI => k_is); (case lTI => k_is); (case cTI => k_is)
    (case kTI => k_is); (case aPH => k_is); (case iPH => k_is); (case lPH => k_is); (case cPH => k_is); (case kPH => k_is)
    (case aTH => k_is); (case iTH => k_is); (case lTH => k_is); (case cTH => k_is); (case kTH => k_is); (case aFo => k_is)
    (case iFo => k_is); (case lFo => k_is); (case cFo => k_is); (case kFo => k_is); (case aGr => k_is); (case iGr => k_is)
    (case lGr => k_is); (case cGr => k_is); (case kGr => k_is); (case aSe => k_is); (case iSe => k_is); (case lSe => k_is)
    (case cSe => k_is); (case kSe => k_is); (case aSB => k_is); (case lSB => k_is); (case cSB => k_is); (case kSB => k_is)
    (case aHI => k_is); (case iHI => k_is); (case lHI => k_is); (case cHI => k_is); (case kHI => k_is); (case aPu => k_is)
    (case iPu => k_is); (case lPu => k_is); (case cPu => k_is); (case kPu => k_is); (case aTa => k_is); (case iTa => k_is)
    (case lTa => k_is); (case cTa => k_is); (case kTa => k_is); (case aHa => k_is); (case iHa => k_is); (case lHa => k_is)
    (case cHa => k_is); (case kHa => k_is); (case aPA => k_is); (case iPA => k_is); (case lPA => k_is); (case cPA => k_is)
    (case kPA => k_is); (case aAn => k_is); (case lAn => k_is); (case cAn => k_is); (case kAn => k_is); (case aDA => k_is)
    (case lDA => k_is); (case cDA => k_is); (case kDA => k_is); (case aDO => k_is); (case lDO => k_is); (case cDO => k_is)
    (case kDO => k_is); (case aIO => k_is); (case lIO => k_is); (case cIO => k_is); (case kIO => k_is); (case aWW => k_is)
    (case iWW => k_is); (case lWW => k_is); (case cWW => k_is); (case kWW => k_is); (case aL => k_is); (case lL => k_is)
    (case cL => k_is); (case kL => k_is); (case aS => k_is); (case lS => k_is); (case cS => k_is); (case kS => k_is)
    (case aP => k_is); (case lP => k_is); (case cP => k_is); (case kP => k_is); (case aH => k_is); (case lH => k_is)
    (case cH => k_is); (case kH => k_is); (case alaw => k_is); (case llaw => k_is); (case claw => k_is); (case klaw => k_is)
    (case pgC => k_is); (case hdC => k_is); (case poC => k_is); (case saC => k_is); (case mkC => k_is); (case kcC => k_is)
    (case nCtext => k_is); (case nChere => k_is); (case nCmany => k_is); (case nClonger => k_is); (case pgCH => k_is); (case hdCH => k_is)
    (case poCH => k_is); (case saCH => k_is); (case mkCH => k_is); (case kcCH => k_is); (case nCHroot => k_is); (case zreversed => k_is)
    (case zlen => k_is); (case zrange => k_is); (case zint => k_is); (case zisinstance => k_is); (case zlist => k_is); (case zstr => k_is)
    (case zsorted => k_is)


import PyProof.Rows.All
import Wide.All
import OpenK.AllK
import Wide.FinOn
import Lean
import PyProof.EqAt
import PyProof.EqKinds
import PyProof.TupleCall
import PySem.Challenge.RW_wordhedge_k07_whole_twigs
set_option Elab.async false
set_option linter.all false
set_option maxRecDepth 100000
namespace L2
open PySem PySem.Spec PyProof.Rows
abbrev Key := Sum Int Str
def keyIs : Key → Value → Bool
  | .inl k, v => Value.isInt k v
  | .inr x, v => Value.isStrOf x v
def keyH (w : World) : Key → Int
  | .inl k => hashInt k
  | .inr x => hashStr w x
theorem keyIs_shape : ∀ {k : Key} {v : Value}, keyIs k v = true → (∃ i t, k = Sum.inl i ∧ v = Value.int i t) ∨ (∃ x t, k = Sum.inr x ∧ v = Value.str x t)
  | .inl i, v, h => by
    obtain ⟨t, e⟩ := Value.isInt_shape (k := i) (v := v) h
    exact .inl ⟨i, t, rfl, e⟩
  | .inr x, v, h => by
    obtain ⟨t, e⟩ := Value.isStrOf_shape (x := x) (v := v) h
    exact .inr ⟨x, t, rfl, e⟩
theorem keyIs_int (i : Int) (t : Tok) : keyIs (.inl i) (.int i t) = true := by simp [keyIs, Value.isInt]
theorem keyIs_str (x : Str) (t : Tok) : keyIs (.inr x) (.str x t) = true := by simp [keyIs, Value.isStrOf]
theorem key_ll (a b : Int) : decide ((Sum.inl a : Key) = Sum.inl b) = (a == b) := by
  by_cases e : a = b
  · subst e; simp
  · have h : ¬ (Sum.inl a : Key) = Sum.inl b := fun q => e (Sum.inl.inj q)
    rw [decide_eq_false h]
    exact (beq_eq_false_iff_ne.mpr e).symm
theorem key_rr (a b : Str) : decide ((Sum.inr a : Key) = Sum.inr b) = decide (a = b) := by
  by_cases e : a = b
  · subst e; simp
  · have h : ¬ (Sum.inr a : Key) = Sum.inr b := fun q => e (Sum.inr.inj q)
    rw [decide_eq_false h, decide_eq_false e]
theorem key_lr (a : Int) (b : Str) : decide ((Sum.inl a : Key) = Sum.inr b) = false := decide_eq_false (fun q => nomatch q)
theorem key_rl (a : Str) (b : Int) : decide ((Sum.inr a : Key) = Sum.inl b) = false := decide_eq_false (fun q => nomatch q)
def mixKind (prog : Program) (w : World) : PySem.KeyKind prog w Key where
  is := keyIs
  hash := keyH w
  inj := fun v a b ha hb => by
    rcases keyIs_shape ha with ⟨i, t, rfl, rfl⟩ | ⟨x, t, rfl, rfl⟩
    · rcases keyIs_shape hb with ⟨j, u, rfl, e⟩ | ⟨y, u, rfl, e⟩
      · injection e with e1 _; rw [e1]
      · exact nomatch e
    · rcases keyIs_shape hb with ⟨j, u, rfl, e⟩ | ⟨y, u, rfl, e⟩
      · exact nomatch e
      · injection e with e1 _; rw [e1]
  byValue := fun k v h => by
    rcases keyIs_shape h with ⟨i, t, rfl, rfl⟩ | ⟨x, t, rfl, rfl⟩ <;> rfl
  pyHash := fun hv h => by
    rcases keyIs_shape hv with ⟨i, t, rfl, rfl⟩ | ⟨x, t, rfl, rfl⟩
    · exact wpAny_pyHash_int h
    · exact wpAny_pyHash_str h
  eqBool := fun hu hv h => by
    rcases keyIs_shape hu with ⟨i, t, rfl, rfl⟩ | ⟨x, t, rfl, rfl⟩
    · rcases keyIs_shape hv with ⟨j, u, rfl, rfl⟩ | ⟨y, u, rfl, rfl⟩
      · rw [key_ll] at h; exact wpAny_eqBool_int h
      · rw [key_lr] at h; exact SeqAt.EqAt.int_str i t y u _ _ _ _ h
    · rcases keyIs_shape hv with ⟨j, u, rfl, rfl⟩ | ⟨y, u, rfl, rfl⟩
      · rw [key_rl] at h; exact SeqAt.EqAt.str_int x t j u _ _ _ _ h
      · rw [key_rr] at h; exact wpAny_eqBool_str h
  «strs» := fun k x t v h => by
    rcases keyIs_shape h with ⟨i, u, rfl, e⟩ | ⟨y, u, rfl, e⟩
    · exact nomatch e
    · injection e with e1 _
      subst e1
      cases v <;> rfl
theorem mixKind_int (prog : Program) (w : World) (i : Int) (t : Tok) : (mixKind prog w).is (.inl i) (.int i t) = true := keyIs_int i t
theorem mixKind_str (prog : Program) (w : World) (x : Str) (t : Tok) : (mixKind prog w).is (.inr x) (.str x t) = true := keyIs_str x t
end L2
namespace L2
open PySem PySem.Spec PyProof.Rows
inductive V where
  | non | bl (b : Bool) | int (i : Int) | str (x : Str) | byt (b : Array UInt8) | flt (b : UInt64) | ref (a : Addr) | ty (n : String)
  deriving DecidableEq
def RelV : V → Value → Prop
  | .non, u => u = Value.none
  | .bl b, u => u = Value.bool b
  | .int i, u => ∃ t, u = Value.int i t
  | .str x, u => ∃ t, u = Value.str x t
  | .byt b, u => ∃ t, u = Value.bytes b t
  | .flt b, u => ∃ t, u = Value.float b t
  | .ref a, u => u = Value.ref a
  | .ty n, u => u = Value.type n
abbrev Vals : List V → List Value → Prop := Paired RelV
theorem Vals.length {xs : List V} {us : List Value} (r : Vals xs us) : xs.length = us.length := Paired.length r
theorem Vals.get : ∀ {xs : List V} {us : List Value} {i : Nat} {x : V}, Vals xs us → xs[i]? = some x → ∃ u, us[i]? = some u ∧ RelV x u
  | _, _, _, _, .nil, e => by simp at e
  | _, _, 0, _, .cons r _, e => by simp at e; subst e; exact ⟨_, rfl, r⟩
  | _, _, i + 1, x, .cons _ t, e => by
    obtain ⟨u, h1, h2⟩ := Vals.get (i := i) (x := x) t (by simpa using e)
    exact ⟨u, by simpa using h1, h2⟩
theorem Vals.set {x : V} {u : Value} (r : RelV x u) : ∀ {xs : List V} {us : List Value} (i : Nat), Vals xs us → Vals (xs.set i x) (us.set i u)
  | _, _, _, .nil => .nil
  | _, _, 0, .cons _ t => .cons r t
  | _, _, i + 1, .cons q t => .cons q (Vals.set r i t)
theorem Vals.append : ∀ {xs ys : List V} {us ws : List Value}, Vals xs us → Vals ys ws → Vals (xs ++ ys) (us ++ ws)
  | _, _, _, _, .nil, s => s
  | _, _, _, _, .cons r t, s => .cons r (Vals.append t s)
theorem Vals.take : ∀ {xs : List V} {us : List Value} (n : Nat), Vals xs us → Vals (xs.take n) (us.take n)
  | _, _, 0, _ => .nil
  | _, _, _ + 1, .nil => .nil
  | _, _, n + 1, .cons r t => .cons r (Vals.take n t)
theorem Vals.drop : ∀ {xs : List V} {us : List Value} (n : Nat), Vals xs us → Vals (xs.drop n) (us.drop n)
  | _, _, 0, r => r
  | _, _, _ + 1, .nil => .nil
  | _, _, n + 1, .cons _ t => Vals.drop n t
theorem Vals.none_of : ∀ {xs : List V} {us : List Value} {i : Nat}, Vals xs us → xs[i]? = none → us[i]? = none := fun {xs us i} r e => by
  have h1 := r.length
  have h2 : xs.length ≤ i := List.getElem?_eq_none_iff.mp e
  exact List.getElem?_eq_none_iff.mpr (by omega)
def RelO : Option V → Option Value → Prop
  | some v, some u => RelV v u
  | none, none => True
  | _, _ => False
def KV {κ : Type} : List (κ × V) → List (κ × Value) → Prop := Paired fun (p : κ × V) (q : κ × Value) => p.1 = q.1 ∧ RelV p.2 q.2
def kV : Key → V
  | .inl i => .int i
  | .inr x => .str x
inductive HO where
    | lst (xs : List V)
    | tup (xs : List V)
    | dK (kvs : List (Key × V)) | dT (kvs : List (List Key × V))
    | set (S : Int → Bool) (n : Nat)
    | ins (C dx : Addr) (fs : List (Str × V))
    | own (x : Addr)
    | xd (fs : List (Str × V))
    | met (f x : Addr)
    | rng (lo hi : Int)
    | frz (o : Obj) (u : HO)
    | tbl (ps : Array Value)
    | ext (φ : Heap → Prop)
abbrev Hp := Addr → Option HO
def upd (H : Hp) (a : Addr) (o : HO) : Hp := fun b => if b = a then some o else H b
theorem upd_same {H : Hp} {a : Addr} {o : HO} : upd H a o a = some o := by unfold upd; rw [if_pos rfl]
theorem upd_ne {H : Hp} {a b : Addr} {o : HO} (h : b ≠ a) : upd H a o b = H b := by unfold upd; rw [if_neg h]
theorem upd_upd {H : Hp} {a : Addr} {o u : HO} : upd (upd H a o) a u = upd H a u := by
  funext b; unfold upd; split <;> rfl
theorem ne_of {H : Hp} {a b : Addr} {o u : HO} (h : H a = some o) (h' : H b = some u) (d : o ≠ u) : a ≠ b := by
  intro e; subst e; rw [h] at h'; exact d (Option.some.inj h')
theorem ne_of_none {H : Hp} {a b : Addr} {o : HO} (h : H a = some o) (h' : H b = none) : a ≠ b := by
  intro e; subst e; rw [h] at h'; cases h'
section
variable (P : Program) (w : World)
def ObjOk (H : Hp) (h : Heap) (a : Addr) : HO → Prop
  | .lst xs => xs.length ≤ sizeLine ∧ ∃ (its : List Value) (n : Nat), Vals xs its ∧ h.get? a = some { cls := .type "list", data := .seq its.toArray n }
  | .tup xs => xs.length ≤ sizeLine ∧ ∃ its : List Value, Vals xs its ∧ IsTup h a its.toArray
  | .dK kvs => kvs.length ≤ sizeLine ∧ (a == sysModules) = false ∧ ∃ vs, KV kvs vs ∧ h.DictOf (mixKind P w) a vs
  | .dT kvs => kvs.length ≤ sizeLine ∧ (a == sysModules) = false ∧ ∃ xs : List (List Key × Addr × Value),
      Paired (fun (p : List Key × V) (q : List Key × Addr × Value) => p.1 = q.1 ∧ H q.2.1 = some (.tup (p.1.map kV)) ∧ RelV p.2 q.2.2) kvs xs ∧
      ∃ o es ep, h.get? a = some o ∧ o.ExactDict ∧ o.data = .dict es ep ∧ es.toList = xs.map (entryOfKey (tupleKind (mixKind P w))) ∧ (xs.map (·.1)).Nodup
  | .set S n => h.SetOf (intKind P w) a S n
  | .ins C dx fs => H dx = some (.own a) ∧ fs.length ≤ 1000 ∧ dx ≠ a ∧ h.get? a = some (PySem.W.instObj C dx) ∧
      ∃ mA, h.Ns1 dx mA ∧ (∀ f, RelO (fs.lookup f) (mA f)) ∧ PySem.Within mA (fs.map (·.1))
  | .own _ => ∃ o, h.get? a = some o
  | .xd fs => ∃ mA, h.Ns1 a mA ∧ ∀ f, RelO (fs.lookup f) (mA f)
  | .rng lo hi => ∃ t u v, h.get? a = some { cls := .type "range", data := .fields #[.int lo t, .int hi u, .int 1 v] }
  | .frz o u => h.get? a = some o ∧ ObjOk H h a u
  | .tbl ps => h.get? a = some { cls := .none, data := .fields ps }
  | .met f x => h.get? a = some (PySem.W.methodObj (.ref f) (.ref x))
  | .ext φ => φ h ∧ (∃ o, h.get? a = some o) ∧ ∀ h1 h2 : Heap, φ h1 → (∀ o, h1.get? a = some o → h2.get? a = some o) → φ h2
def HOk (H : Hp) (h : Heap) : Prop := ∀ a o, H a = some o → ObjOk P w H h a o
end
section
variable {P : Program} {w : World} {H H' : Hp} {h h' : Heap} {a : Addr} {o : HO}
theorem ObjOk.lt (x : ObjOk P w H h a o) : a < h.objs.size := by
  cases o with
  | lst xs => obtain ⟨_, _, _, _, e⟩ := x; exact Heap.lt_size e
  | tup xs => obtain ⟨_, _, _, p⟩ := x; exact p.lt
  | dK kvs => obtain ⟨_, _, _, _, o, _, _, e, _⟩ := x; exact Heap.lt_size e
  | dT kvs => obtain ⟨_, _, _, _, o, _, _, e, _⟩ := x; exact Heap.lt_size e
  | set S n => obtain ⟨o, _, _, _, e, _⟩ := x; exact Heap.lt_size e
  | ins C dx fs => obtain ⟨_, _, _, e, _⟩ := x; exact Heap.lt_size e
  | own y => obtain ⟨_, e⟩ := x; exact Heap.lt_size e
  | xd fs => obtain ⟨_, ⟨_, _, _, e, _⟩, _⟩ := x; exact Heap.lt_size e
  | rng lo hi => obtain ⟨_, _, _, e⟩ := x; exact Heap.lt_size e
  | frz ob u => obtain ⟨e, _⟩ := x; exact Heap.lt_size e
  | tbl ps => exact Heap.lt_size (show h.get? a = some _ from x)
  | met f y => exact Heap.lt_size (show h.get? a = some _ from x)
  | ext φ => obtain ⟨_, ⟨_, e⟩, _⟩ := x; exact Heap.lt_size e
theorem Paired.mapP {α β : Type} {F G : α → β → Prop} : ∀ {l₁ : List α} {l₂ : List β}, Paired F l₁ l₂ → (∀ a b, F a b → G a b) → Paired G l₁ l₂
  | _, _, .nil, _ => .nil
  | _, _, .cons r t, f => .cons (f _ _ r) (Paired.mapP t f)
theorem ObjOk.stay (x : ObjOk P w H h a o) (k : ∀ b u, (b = a ∨ H b = some (.own a)) → h.get? b = some u → h'.get? b = some u)
    (ho : ∀ b, H b = some (.own a) → H' b = some (.own a)) (ht : ∀ b xs, H b = some (.tup xs) → H' b = some (.tup xs)) : ObjOk P w H' h' a o := by
  induction o with
  | lst xs => obtain ⟨z, its, n, r, e⟩ := x; exact ⟨z, its, n, r, k _ _ (.inl rfl) e⟩
  | tup xs => obtain ⟨z, its, r, ob, e, c⟩ := x; exact ⟨z, its, r, ob, k _ _ (.inl rfl) e, c⟩
  | dK kvs => obtain ⟨z, y, vs, r, ob, es, ep, e, c⟩ := x; exact ⟨z, y, vs, r, ob, es, ep, k _ _ (.inl rfl) e, c⟩
  | dT kvs =>
    obtain ⟨z, y, xs, r, ob, es, ep, e, c⟩ := x
    exact ⟨z, y, xs, Paired.mapP r fun p q z => ⟨z.1, ht _ _ z.2.1, z.2.2⟩, ob, es, ep, k _ _ (.inl rfl) e, c⟩
  | set S n => obtain ⟨ob, es, ep, t, e, c⟩ := x; exact ⟨ob, es, ep, t, k _ _ (.inl rfl) e, c⟩
  | ins C dx fs =>
    obtain ⟨d, z, ne, e, mA, ⟨od, es, ep, e2, c⟩, r⟩ := x
    exact ⟨ho _ d, z, ne, k _ _ (.inl rfl) e, mA, ⟨od, es, ep, k _ _ (.inr d) e2, c⟩, r⟩
  | own y => obtain ⟨ob, e⟩ := x; exact ⟨ob, k _ _ (.inl rfl) e⟩
  | xd fs => obtain ⟨mA, ⟨od, es, ep, e, c⟩, r⟩ := x; exact ⟨mA, ⟨od, es, ep, k _ _ (.inl rfl) e, c⟩, r⟩
  | rng lo hi => obtain ⟨t, u, v, e⟩ := x; exact ⟨t, u, v, k _ _ (.inl rfl) e⟩
  | frz ob u ih => obtain ⟨e, q⟩ := x; exact ⟨k _ _ (.inl rfl) e, ih q⟩
  | tbl ps =>
    have e : h.get? a = some { cls := .none, data := .fields ps } := x
    show h'.get? a = some { cls := .none, data := .fields ps }
    exact k a _ (.inl rfl) e
  | met f y =>
    have e : h.get? a = some (PySem.W.methodObj (.ref f) (.ref y)) := x
    show h'.get? a = some (PySem.W.methodObj (.ref f) (.ref y))
    exact k a _ (.inl rfl) e
  | ext φ => obtain ⟨p, ⟨o, e⟩, st⟩ := x; exact ⟨st _ _ p fun o q => k _ _ (.inl rfl) q, ⟨o, k _ _ (.inl rfl) e⟩, st⟩
theorem HOk.lt (x : HOk P w H h) (e : H a = some o) : a < h.objs.size := (x a o e).lt
theorem HOk.fresh (x : HOk P w H h) (e : h.objs.size ≤ a) : H a = none := by
  cases q : H a with
  | none => rfl
  | some u => exact absurd (Nat.lt_of_lt_of_le (x.lt q) e) (Nat.lt_irrefl _)
theorem HOk.kept (x : HOk P w H h) (k : ∀ b u, h.get? b = some u → h'.get? b = some u) : HOk P w H h' := fun a o e =>
  (x a o e).stay (fun b u _ q => k b u q) (fun _ q => q) fun _ _ q => q
theorem HOk.laid (x : HOk P w H h) (k : ∀ b u, h.get? b = some u → h'.get? b = some u) (hp : h.objs.size ≤ a) (new : ObjOk P w (upd H a o) h' a o) : HOk P w (upd H a o) h' := fun b u e => by
  have hn := x.fresh hp
  by_cases hb : b = a
  · subst hb; rw [upd_same] at e; cases e; exact new
  · rw [upd_ne hb] at e
    exact (x b u e).stay (fun c v _ q => k c v q) (fun c q => by rw [upd_ne (ne_of_none q hn)]; exact q) fun c xs q => by rw [upd_ne (ne_of_none q hn)]; exact q
end
def Rd (H : Hp) (a : Addr) (u : HO) : Prop := H a = some u ∨ ∃ o, H a = some (.frz o u)
theorem Rd.of {H : Hp} {a : Addr} {u : HO} (h : H a = some u) : Rd H a u := .inl h
theorem Rd.ok {P : Program} {w : World} {H : Hp} {h : Heap} {a : Addr} {u : HO} (r : Rd H a u) (x : HOk P w H h) : ObjOk P w H h a u := by
  rcases r with r | ⟨o, r⟩
  · exact x a u r
  · obtain ⟨_, q⟩ := x a _ r
    exact q
def Mut : Option HO → Prop
  | some (.lst _) => True
  | some (.dK _) => True
  | some (.dT _) => True
  | some (.set _ _) => True
  | some (.ins _ _ _) => True
  | some (.ext _) => True
  | _ => False
section
variable {P : Program} {w : World} {H : Hp} {h h' : Heap} {x e : Addr} {o' : HO}
theorem HOk.write (ok : HOk P w H h) (mu : Mut (H x)) (he : e = x ∨ H e = some (.own x)) (k : ∀ b u, b ≠ e → h.get? b = some u → h'.get? b = some u) (heo : ∃ u, h'.get? e = some u)
    (new : ObjOk P w (upd H x o') h' x o') : HOk P w (upd H x o') h' := fun b u q => by
  have nown : ∀ c y, H c = some (.own y) → c ≠ x := fun c y r z => by subst z; rw [r] at mu; exact mu
  have ntup : ∀ c xs, H c = some (.tup xs) → c ≠ x := fun c xs r z => by subst z; rw [r] at mu; exact mu
  by_cases hb : b = x
  · subst hb; rw [upd_same] at q; cases q; exact new
  · rw [upd_ne hb] at q
    by_cases hbe : b = e
    · have q' : H b = some (.own x) := by
        rcases he with z | z
        · exact absurd (hbe.trans z) hb
        · rw [hbe]; exact z
      rw [q] at q'; cases q'
      obtain ⟨v, hv⟩ := heo
      exact ⟨v, by rw [hbe]; exact hv⟩
    · refine (ok b u q).stay (fun c v hc r => k c v ?_ r) (fun c r => by rw [upd_ne (nown c b r)]; exact r) fun c xs r => by rw [upd_ne (ntup c xs r)]; exact r
      rcases hc with rfl | hc
      · exact hbe
      · rintro rfl
        rcases he with z | z
        · exact nown c b hc z
        · rw [hc] at z; cases z; exact hb rfl
end
structure Un (fs ex : List Addr) (H H' : Hp) (h h' : Heap) : Prop where
  keep : ∀ b o, h.get? b = some o → H b = none → b ∉ fs → b ∉ ex → h'.get? b = some o
  slot : ∀ b o, h.get? b = some o → H b = none → b ∈ fs → b ∉ ex → ∃ sl, h'.get? b = some { o with slots := sl }
  free : ∀ b o, h.get? b = some o → H b = none → b ∉ ex → H' b = none
  there : ∀ b o, h.get? b = some o → b ∉ ex → ∃ o', h'.get? b = some o'
  tups : ∀ b xs, H b = some (.tup xs) → H' b = some (.tup xs)
  frzs : ∀ b o u, H b = some (.frz o u) → H' b = some (.frz o u)
  tbls : ∀ b ps, H b = some (.tbl ps) → ∃ more, H' b = some (.tbl (ps ++ more))
section
variable {fs fs' ex ex' : List Addr} {H H1 H2 : Hp} {h h1 h2 h' : Heap} {a x e : Addr} {o : HO}
theorem Un.any (u : Un fs ex H H1 h h1) {b : Addr} {ob : Obj} (q : h.get? b = some ob) (n : H b = none) (hx : b ∉ ex) : ∃ sl, h1.get? b = some { ob with slots := sl } := by
  by_cases hb : b ∈ fs
  · exact u.slot b ob q n hb hx
  · exact ⟨ob.slots, u.keep b ob q n hb hx⟩
theorem Un.trans (a : Un fs ex H H1 h h1) (b : Un fs ex H1 H2 h1 h2) : Un fs ex H H2 h h2 where
  keep := fun c ob q n hc hx => b.keep c ob (a.keep c ob q n hc hx) (a.free c ob q n hx) hc hx
  slot := fun c ob q n hc hx => by
    obtain ⟨sl, e1⟩ := a.slot c ob q n hc hx
    obtain ⟨sl', e2⟩ := b.slot c _ e1 (a.free c ob q n hx) hc hx
    exact ⟨sl', e2⟩
  free := fun c ob q n hx => by
    obtain ⟨o', e1⟩ := a.there c ob q hx
    exact b.free c o' e1 (a.free c ob q n hx) hx
  there := fun c ob q hx => by
    obtain ⟨o', e1⟩ := a.there c ob q hx
    exact b.there c o' e1 hx
  tups := fun c xs q => b.tups c xs (a.tups c xs q)
  frzs := fun c ob xs q => b.frzs c ob xs (a.frzs c ob xs q)
  tbls := fun c ps q => by
    obtain ⟨m1, e1⟩ := a.tbls c ps q
    obtain ⟨m2, e2⟩ := b.tbls c _ e1
    exact ⟨m1 ++ m2, by rw [e2, Array.append_assoc]⟩
theorem Un.kept (k : ∀ b u, h.get? b = some u → h'.get? b = some u) : Un fs ex H H h h' :=
  ⟨fun b ob q _ _ _ => k b ob q, fun b ob q _ _ _ => ⟨ob.slots, k b ob q⟩, fun _ _ _ n _ => n, fun b ob q _ => ⟨ob, k b ob q⟩, fun _ _ q => q, fun _ _ _ q => q, fun _ ps q => ⟨#[], by rw [q]; simp⟩⟩
theorem Un.refl : Un fs ex H H h h := Un.kept fun _ _ q => q
theorem Un.laid (k : ∀ b u, h.get? b = some u → h'.get? b = some u) (hp : h.objs.size ≤ a) (hn : H a = none) : Un fs ex H (upd H a o) h h' where
  keep := fun b u q _ _ _ => k b u q
  slot := fun b u q _ _ _ => ⟨u.slots, k b u q⟩
  free := fun b u q n _ => by rw [upd_ne (Nat.ne_of_lt (Nat.lt_of_lt_of_le (Heap.lt_size q) hp))]; exact n
  there := fun b u q _ => ⟨u, k b u q⟩
  tups := fun b xs q => by rw [upd_ne (ne_of_none q hn)]; exact q
  frzs := fun b u xs q => by rw [upd_ne (ne_of_none q hn)]; exact q
  tbls := fun b ps q => ⟨#[], by rw [upd_ne (ne_of_none q hn), q]; simp⟩
theorem Un.write (mu : Mut (H x)) (he : e = x ∨ H e = some (.own x)) (k : ∀ b u, b ≠ e → h.get? b = some u → h'.get? b = some u) (heo : ∃ u, h'.get? e = some u) : Un fs ex H (upd H x o) h h' := by
  have hx : ∀ b, H b = none → b ≠ x := fun b n z => by subst z; rw [n] at mu; exact mu
  have hb : ∀ b, H b = none → b ≠ e := fun b n z => by
    subst z
    rcases he with r | r
    · exact hx b n r
    · rw [n] at r; cases r
  have hm : ∀ b u, H b = some u → ¬ Mut (some u) → b ≠ x := fun b u q nm z => by subst z; rw [q] at mu; exact nm mu
  refine ⟨fun b u q n _ _ => k b u (hb b n) q, fun b u q n _ _ => ⟨u.slots, k b u (hb b n) q⟩, fun b u q n _ => by rw [upd_ne (hx b n)]; exact n, fun b u q _ => ?_,
    fun b xs q => by rw [upd_ne (hm b _ q fun z => z)]; exact q, fun b u xs q => by rw [upd_ne (hm b _ q fun z => z)]; exact q, fun b ps q => ⟨#[], by rw [upd_ne (hm b _ q fun z => z), q]; simp⟩⟩
  by_cases hbe : b = e
  · subst hbe; exact heo
  · exact ⟨u, k b u hbe q⟩
theorem Un.mono (u : Un fs ex H H1 h h1) (hs : ∀ b ∈ fs, b ∈ fs') (hx : ∀ b ∈ ex, b ∈ ex') : Un fs' ex' H H1 h h1 :=
  ⟨fun b ob q n hb he => u.keep b ob q n (fun z => hb (hs b z)) fun z => he (hx b z), fun _ _ q n _ he => u.any q n fun z => he (hx _ z), fun b ob q n he => u.free b ob q n fun z => he (hx b z), fun b ob q he => u.there b ob q fun z => he (hx b z), u.tups, u.frzs, u.tbls⟩
end
def trk (h : Heap) (H : Hp) : List Addr := (List.range h.objs.size).filter fun a => (H a).isSome
def hidT (h : Heap) (H : Hp) : Heap := PySem.W.hideAll h (trk h H)
theorem hidT_size (h : Heap) (H : Hp) : (hidT h H).objs.size = h.objs.size := PySem.W.hideAll_size _ _
theorem hidT_get {h : Heap} {H : Hp} {b : Addr} {o : Obj} (e : h.get? b = some o) (n : H b = none) : (hidT h H).get? b = some o :=
  PySem.W.hideAll_get _ e fun hm => by
    have q : (H b).isSome = true := (List.mem_filter.mp hm).2
    rw [n] at q; simp at q
theorem of_hidT {h : Heap} {H : Hp} {b : Addr} {o : Obj} (e : (hidT h H).get? b = some o) : h.get? b = some o ∧ H b = none := by
  have e' : h.get? b = some o := PySem.W.of_hideAll (trk h H) e
  refine ⟨e', ?_⟩
  cases q : H b with
  | none => rfl
  | some x =>
    have hm : b ∈ trk h H := List.mem_filter.mpr ⟨List.mem_range.mpr (Heap.lt_size e'), by simp [q]⟩
    have z : (hidT h H).get? b = none := PySem.W.hideAll_none (trk h H) hm
    rw [z] at e; cases e
def allNews (g h : Heap) (L : Addr) : List (Addr × Obj) := (List.range h.objs.size).filterMap fun a => if a = L ∨ (g.get? a).isSome = true then none else (h.get? a).map fun o => (a, o)
def rest (g h : Heap) (L d : Addr) : List (Addr × Obj) := (allNews g h L).filter fun p => decide (p.1 ≠ d)
end L2
namespace L2
open PySem PySem.Spec PyProof.Rows
structure Mod (K : PySem.W.Frag) (mg : Str → Option Value) (base : Heap) : Prop where
  kin : K.In base
  glob : base.Ns mainGlobals mg
  blt : ∃ mb, base.Ns builtinsNs mb ∧ ∀ x : Str, x ≠ "__name__" → mb x = bootBuiltins x
  nolimit : base.NoLimit
structure Cx where
  prog : Program
  w : World
  K : PySem.W.Frag
  mg : Str → Option Value
  base : Heap
  A : Around
  N : List Str
  s₀ : Shared
  H₀ : Hp
  env : Env
  outer : List Env
  stack : List Env
  ex : List Addr
  fn : Str → Bool
  calm : Bool
  pn : List (Addr × Obj)
  xe : Value → Shared → Prop
def frs (l : List Env) : List Addr := l.filterMap (·.frame)
abbrev Cx.fs (X : Cx) : List Addr := frs X.outer
def Vis (sc : Scope) (x : Str) : Prop := sc.names.lookup x = some .local ∨ sc.names.lookup x = some .cell ∨ sc.names.lookup x = some .free
def Loc (sc : Scope) (x : Str) : Prop := sc.names.lookup x = some .local ∨ sc.names.lookup x = some .cell
def Look (env : Env) (h : Heap) (m : Str → Option Value) (x : Str) (u : Value) : Prop :=
  (env.kindOf x = some .local ∧ m x = some u) ∨ ((env.kindOf x = some .cell ∨ env.kindOf x = some .free) ∧ ∃ c, env.cells.lookup x = some c ∧ h.IsCell c (some u))
structure Cx.Ok (X : Cx) : Prop where
  mod : Mod X.K X.mg X.base
  kind : X.env.scope.kind = .function
  glob : X.env.globals = mainGlobals
  blt : X.env.builtins = builtinsNs
  above : X.s₀.heap.objs.size ≤ X.env.locals
  inj : ∀ x y c, X.env.cells.lookup x = some c → X.env.cells.lookup y = some c → x = y
  has : ∀ x, (X.env.kindOf x = some .cell ∨ X.env.kindOf x = some .free) → ∃ c, X.env.cells.lookup x = some c
  cab : ∀ x c, X.fn x = true → X.env.cells.lookup x = some c → X.s₀.heap.objs.size ≤ c
  hd : X.calm = true → X.A.handled = none
  frames : X.A.frames = some X.stack
  stk : X.stack = X.outer ∨ (X.stack = X.env :: X.outer ∧ X.env.frame = some X.env.locals)
  exf : ∀ b ∈ X.ex, b ≠ X.env.locals ∧ ∀ x c, X.env.cells.lookup x = some c → c ≠ b
  bs : ∀ b o, X.base.get? b = some o → X.s₀.heap.get? b = some o ∧ X.H₀ b = none
  bsz : X.base.objs.size ≤ X.s₀.heap.objs.size
  noex : ∀ b o, X.base.get? b = some o → b ∉ X.ex
  exfs : ∀ b ∈ X.ex, b ∉ X.fs
  funs : X.s₀.heap.FunFrames X.base X.outer
  frf : ∀ b ∈ X.fs, X.H₀ b = none
structure Inv (X : Cx) (pins : List (Addr × Obj)) (σ : List (Option V)) (H : Hp) (s : Shared) : Prop where
  ok : X.Ok
  os : s.os = X.s₀.os
  bare : AllBare s.gens
  base : Un X.fs X.ex X.H₀ H X.s₀.heap s.heap
  loc : ∃ m, s.heap.Ns X.env.locals m ∧ ∀ (i : Nat) (x : Str) (v : V), X.N[i]? = some x → σ[i]? = some (some v) → Vis X.env.scope x → ∃ u, RelV v u ∧ Look X.env s.heap m x u
  cell : ∀ x c, X.env.cells.lookup x = some c → ∃ v, s.heap.IsCell c v
  free : H X.env.locals = none
  freeC : ∀ x c, X.env.cells.lookup x = some c → H c = none
  pin : ∀ p ∈ X.pn ++ pins, s.heap.get? p.1 = some p.2 ∧ H p.1 = none ∧ p.1 ≠ X.env.locals ∧ p.1 ∉ X.fs ∧ ∀ v, p.2.data ≠ .cell v
  hok : HOk X.prog X.w H s.heap
  len : σ.length = X.N.length
section
variable {X : Cx} {pins : List (Addr × Obj)} {σ : List (Option V)} {H H' : Hp} {s : Shared} {h' : Heap}
theorem Cx.Ok.nofr (ok : X.Ok) {b : Addr} {o : Obj} (e : X.base.get? b = some o) : b ∉ X.fs := fun hb => by
  have := (ok.funs.mem hb).1
  rw [e] at this; cases this
theorem Inv.bs (I : Inv X pins σ H s) : ∀ b o, X.base.get? b = some o → s.heap.get? b = some o ∧ H b = none := fun b o e =>
  ⟨I.base.keep b o (I.ok.bs b o e).1 (I.ok.bs b o e).2 (I.ok.nofr e) (I.ok.noex b o e), I.base.free b o (I.ok.bs b o e).1 (I.ok.bs b o e).2 (I.ok.noex b o e)⟩
theorem Inv.bk (I : Inv X pins σ H s) : ∀ b o, X.base.get? b = some o → s.heap.get? b = some o := fun b o e => (I.bs b o e).1
theorem Inv.mod (I : Inv X pins σ H s) : Mod X.K X.mg X.base := I.ok.mod
theorem Inv.kIn (I : Inv X pins σ H s) : X.K.In s.heap := I.ok.mod.kin.keeps I.bk
theorem Inv.nolimit (I : Inv X pins σ H s) : s.heap.NoLimit := I.ok.mod.nolimit.keeps I.bk
theorem Inv.fr (I : Inv X pins σ H s) : ∃ m, Fr X.base X.env.locals s.heap m :=
  let ⟨m, hn, _⟩ := I.loc
  ⟨m, hn, I.bk, Nat.le_trans I.ok.bsz I.ok.above⟩
theorem Inv.lt (I : Inv X pins σ H s) : X.env.locals < s.heap.objs.size := let ⟨_, hn, _⟩ := I.loc; hn.lt
theorem Inv.sz (I : Inv X pins σ H s) : X.s₀.heap.objs.size ≤ s.heap.objs.size := Nat.le_trans I.ok.above (Nat.le_of_lt I.lt)
theorem Inv.nofs (I : Inv X pins σ H s) {a : Addr} (h : s.heap.objs.size ≤ a) : a ∉ X.fs := fun hb => by
  obtain ⟨_, o, ho, _⟩ := I.ok.funs.mem hb
  exact absurd (Nat.lt_of_lt_of_le (Heap.lt_size ho) (Nat.le_trans I.sz h)) (Nat.lt_irrefl _)
theorem Inv.cne (I : Inv X pins σ H s) : ∀ x c, X.env.cells.lookup x = some c → c ≠ X.env.locals := fun x c e z => by
  obtain ⟨v, o, ho, hd⟩ := I.cell x c e
  obtain ⟨m, ⟨o', es, ep, ho', hd', _⟩, _⟩ := I.loc
  rw [z, ho'] at ho; cases ho; rw [hd'] at hd; cases hd
theorem Inv.funs (I : Inv X pins σ H s) : s.heap.FunFrames X.base X.outer := by
  have all : ∀ (l : List Env), (∀ b ∈ frs l, b ∈ X.fs) → X.s₀.heap.FunFrames X.base l → s.heap.FunFrames X.base l := by
    intro l
    induction l with
    | nil => intro _ _; trivial
    | cons env r ih =>
      intro hs hl
      obtain ⟨hk, ⟨L, o, hf, hn, ho, hd⟩, hr⟩ := hl
      have hL : L ∈ X.fs := hs L (by unfold frs; rw [List.filterMap_cons, hf]; exact List.mem_cons_self)
      obtain ⟨sl, e⟩ := I.base.slot L o ho (I.ok.frf L hL) hL fun z => I.ok.exfs L z hL
      exact ⟨hk, ⟨L, _, hf, hn, e, hd⟩, ih (fun b hb => hs b (by unfold frs; rw [List.filterMap_cons, hf]; exact List.mem_cons_of_mem _ hb)) hr⟩
  exact all X.outer (fun _ hb => hb) I.ok.funs
theorem Inv.stack (I : Inv X pins σ H s) : s.heap.FunFrames X.base X.stack := by
  rcases I.ok.stk with e | ⟨e, hf⟩
  · rw [e]; exact I.funs
  · rw [e]
    obtain ⟨m, hn, _⟩ := I.loc
    refine .cons (by rw [I.ok.kind]; decide) hf hn ?_ I.funs
    exact Heap.get?_none_of_le (Nat.le_trans I.ok.bsz I.ok.above)
theorem Inv.stkSub (I : Inv X pins σ H s) : ∀ b ∈ frs X.stack, b ∈ X.env.locals :: X.fs := fun b hb => by
  rcases I.ok.stk with e | ⟨e, hf⟩
  · rw [e] at hb; exact List.mem_cons_of_mem _ hb
  · rw [e] at hb
    unfold frs at hb
    rw [List.filterMap_cons, hf] at hb
    exact hb
theorem Inv.stkFree (I : Inv X pins σ H s) : ∀ b ∈ frs X.stack, H b = none := fun b hb => by
  rcases List.mem_cons.mp (I.stkSub b hb) with e | hb
  · rw [e]; exact I.free
  · obtain ⟨_, o, ho, _⟩ := I.ok.funs.mem hb
    exact I.base.free b o ho (I.ok.frf b hb) fun z => I.ok.exfs b z hb
theorem Inv.step {g' : Array GenState} {t' : Nat} {d' : Drawn} {ch : List Addr} (I : Inv X pins σ H s)
    (hch : ∀ b ∈ ch, (b ∈ X.ex ∨ X.s₀.heap.objs.size ≤ b) ∧ b ≠ X.env.locals ∧ (∀ x c, X.env.cells.lookup x = some c → c ≠ b) ∧ ∀ p ∈ X.pn ++ pins, p.1 ≠ b)
    (keep : ∀ b o, b ≠ X.env.locals → b ∉ X.fs → b ∉ ch → s.heap.get? b = some o → H b = none → h'.get? b = some o)
    (slot : ∀ b o, b ≠ X.env.locals → b ∈ X.fs → b ∉ ch → s.heap.get? b = some o → H b = none → ∃ sl, h'.get? b = some { o with slots := sl }) (free : ∀ b o, b ∉ ch → s.heap.get? b = some o → H b = none → H' b = none)
    (there : ∀ b o, b ∉ ch → s.heap.get? b = some o → ∃ o', h'.get? b = some o')
    (tups : ∀ b xs, H b = some (.tup xs) → H' b = some (.tup xs)) (frzs : ∀ b o u, H b = some (.frz o u) → H' b = some (.frz o u)) (tbls : ∀ b ps, H b = some (.tbl ps) → ∃ more, H' b = some (.tbl (ps ++ more)))
    (ns : ∀ m, s.heap.Ns X.env.locals m → h'.Ns X.env.locals m) (hok : HOk X.prog X.w H' h') (hg : AllBare g') :
    Inv X pins σ H' { s with heap := h', gens := g', drawn := d', toks := t' } := by
  have neL : ∀ b o, X.s₀.heap.get? b = some o → b ≠ X.env.locals := fun b o e => Nat.ne_of_lt (Nat.lt_of_lt_of_le (Heap.lt_size e) I.ok.above)
  have neC : ∀ b o, X.s₀.heap.get? b = some o → b ∉ X.ex → b ∉ ch := fun b o e hx hb => by
    rcases (hch b hb).1 with z | z
    · exact hx z
    · exact absurd (Nat.lt_of_lt_of_le (Heap.lt_size e) z) (Nat.lt_irrefl _)
  have cellK : ∀ x c, X.env.cells.lookup x = some c → ∀ v, s.heap.IsCell c v → h'.IsCell c v := fun x c e v ⟨o, ho, hd⟩ => by
    have nch : c ∉ ch := fun z => (hch c z).2.2.1 x c e rfl
    by_cases hc : c ∈ X.fs
    · obtain ⟨sl, q⟩ := slot c o (I.cne x c e) hc nch ho (I.freeC x c e)
      exact ⟨_, q, hd⟩
    · exact ⟨o, keep c o (I.cne x c e) hc nch ho (I.freeC x c e), hd⟩
  refine ⟨I.ok, I.os, hg, ⟨fun b o e n hb hx => ?_, fun b o e n hb hx => ?_, fun b o e n hx => ?_, fun b o e hx => ?_, fun b xs e => tups b xs (I.base.tups b xs e), fun b o xs e => frzs b o xs (I.base.frzs b o xs e), fun b ps e => ?_⟩, ?_, fun x c e => ?_, ?_, fun x c e => ?_, fun p hp => ?_, hok, I.len⟩
  · exact keep b o (neL b o e) hb (neC b o e hx) (I.base.keep b o e n hb hx) (I.base.free b o e n hx)
  · obtain ⟨sl, e1⟩ := I.base.slot b o e n hb hx
    obtain ⟨sl', e2⟩ := slot b _ (neL b o e) hb (neC b o e hx) e1 (I.base.free b o e n hx)
    exact ⟨sl', e2⟩
  · obtain ⟨o', e1⟩ := I.base.there b o e hx
    exact free b o' (neC b o e hx) e1 (I.base.free b o e n hx)
  · obtain ⟨o', e1⟩ := I.base.there b o e hx
    exact there b o' (neC b o e hx) e1
  · obtain ⟨m1, e1⟩ := I.base.tbls b ps e
    obtain ⟨m2, e2⟩ := tbls b _ e1
    exact ⟨m1 ++ m2, by rw [e2, Array.append_assoc]⟩
  · obtain ⟨m, hn, hl⟩ := I.loc
    refine ⟨m, ns m hn, fun i x v e1 e2 e3 => ?_⟩
    obtain ⟨u, r, l⟩ := hl i x v e1 e2 e3
    refine ⟨u, r, ?_⟩
    rcases l with l | ⟨k, c, e, z⟩
    · exact .inl l
    · exact .inr ⟨k, c, e, cellK x c e _ z⟩
  · obtain ⟨v, z⟩ := I.cell x c e
    exact ⟨v, cellK x c e v z⟩
  · obtain ⟨m, ⟨o, _, _, ho, _⟩, _⟩ := I.loc
    exact free _ o (fun z => (hch _ z).2.1 rfl) ho I.free
  · obtain ⟨v, o, ho, hd⟩ := I.cell x c e
    exact free c o (fun z => (hch c z).2.2.1 x c e rfl) ho (I.freeC x c e)
  · obtain ⟨e, n, ne, nf, d⟩ := I.pin p hp
    have nch : p.1 ∉ ch := fun z => (hch p.1 z).2.2.2 p hp rfl
    exact ⟨keep p.1 p.2 ne nf nch e n, free p.1 p.2 nch e n, ne, nf, d⟩
theorem Inv.un {t' : Nat} (I : Inv X pins σ H s) (u : Un X.fs [] H H' s.heap h') (hok : HOk X.prog X.w H' h') : Inv X pins σ H' { s with heap := h', toks := t' } := by
  obtain ⟨m, ⟨o, es, ep, ho, r⟩, _⟩ := id I.loc
  obtain ⟨sl, hL⟩ := u.any ho I.free (by simp)
  exact I.step (g' := s.gens) (d' := s.drawn) (ch := []) (fun _ z => nomatch z) (fun b o _ hb _ e n => u.keep b o e n hb (by simp)) (fun b o _ hb _ e n => u.slot b o e n hb (by simp)) (fun b o _ e n => u.free b o e n (by simp)) (fun b o _ e => u.there b o e (by simp)) u.tups u.frzs u.tbls (fun m' hm => by
    obtain ⟨o', es', ep', ho', r'⟩ := hm
    rw [ho] at ho'; cases ho'
    exact ⟨_, es', ep', hL, r'⟩) hok I.bare
theorem Inv.call {g' : Array GenState} {t' : Nat} {d' : Drawn} {ch : List Addr} (I : Inv X pins σ H s) (u : Un (frs X.stack) ch H H' s.heap h') (hok : HOk X.prog X.w H' h') (hg : AllBare g')
    (hch : ∀ b ∈ ch, (b ∈ X.ex ∨ X.s₀.heap.objs.size ≤ b) ∧ b ≠ X.env.locals ∧ (∀ x c, X.env.cells.lookup x = some c → c ≠ b) ∧ ∀ p ∈ X.pn ++ pins, p.1 ≠ b) :
    Inv X pins σ H' { s with heap := h', gens := g', drawn := d', toks := t' } := by
  obtain ⟨m, ⟨o, es, ep, ho, r⟩, _⟩ := id I.loc
  obtain ⟨sl, hL⟩ := u.any ho I.free fun z => (hch _ z).2.1 rfl
  exact I.step (ch := ch) hch (fun b o hL hb hc e n => u.keep b o e n (fun z => (List.mem_cons.mp (I.stkSub b z)).elim hL hb) hc) (fun b o _ _ hc e n => u.any e n hc) (fun b o hc e n => u.free b o e n hc) (fun b o hc e => u.there b o e hc) u.tups u.frzs u.tbls (fun m' hm => by
    obtain ⟨o', es', ep', ho', r'⟩ := hm
    rw [ho] at ho'; cases ho'
    exact ⟨_, es', ep', hL, r'⟩) hok hg
theorem Inv.turned {t' : Nat} {it : Addr} (I : Inv X pins σ H s) (k : ∀ b o, b ≠ it → s.heap.get? b = some o → h'.get? b = some o) (hn : H it = none) (hL : it ≠ X.env.locals)
    (h1 : it ∈ X.ex ∨ X.s₀.heap.objs.size ≤ it) (h2 : ∀ x c, X.env.cells.lookup x = some c → c ≠ it) (h3 : ∀ p ∈ X.pn ++ pins, p.1 ≠ it) : Inv X pins σ H { s with heap := h', toks := t' } := by
  have nit : ∀ b u, H b = some u → b ≠ it := fun b u e z => by rw [z, hn] at e; cases e
  refine I.step (g' := s.gens) (d' := s.drawn) (ch := [it]) (fun b hb => ?_) (fun b o _ _ hc e _ => k b o (fun z => hc (by simp [z])) e) (fun b o _ _ hc e _ => ⟨o.slots, k b o (fun z => hc (by simp [z])) e⟩) (fun _ _ _ _ n => n)
    (fun b o hc e => ⟨o, k b o (fun z => hc (by simp [z])) e⟩) (fun _ _ e => e) (fun _ _ _ e => e) (fun b ps e => ⟨#[], by rw [e]; simp⟩) (fun m hm => ?_) (fun b u e => ?_) I.bare
  · have e : b = it := by simpa using hb
    subst e
    exact ⟨h1, hL, h2, h3⟩
  · obtain ⟨o, es, ep, ho, r⟩ := hm
    exact ⟨o, es, ep, k _ o (Ne.symm hL) ho, r⟩
  · refine (I.hok b u e).stay (fun c v hc q => k c v ?_ q) (fun _ q => q) fun _ _ q => q
    rcases hc with z | z
    · rw [z]; exact nit b u e
    · exact nit c _ z
theorem Inv.tok (I : Inv X pins σ H s) (t : Nat) : Inv X pins σ H { s with toks := t } := I.un (h' := s.heap) (t' := t) Un.refl I.hok
theorem Inv.kept {t' : Nat} (I : Inv X pins σ H s) (k : ∀ b u, s.heap.get? b = some u → h'.get? b = some u) : Inv X pins σ H { s with heap := h', toks := t' } := I.un (Un.kept k) (I.hok.kept k)
theorem Inv.laid {a : Addr} {o : HO} {t' : Nat} (I : Inv X pins σ H s) (k : ∀ b u, s.heap.get? b = some u → h'.get? b = some u) (hp : s.heap.objs.size ≤ a) (new : ObjOk X.prog X.w (upd H a o) h' a o) :
    Inv X pins σ (upd H a o) { s with heap := h', toks := t' } := I.un (Un.laid k hp (I.hok.fresh hp)) (I.hok.laid k hp new)
theorem Inv.write {x e : Addr} {o : HO} {t' : Nat} (I : Inv X pins σ H s) (mu : Mut (H x)) (he : e = x ∨ H e = some (.own x)) (k : ∀ b u, b ≠ e → s.heap.get? b = some u → h'.get? b = some u) (heo : ∃ u, h'.get? e = some u)
    (new : ObjOk X.prog X.w (upd H x o) h' x o) : Inv X pins σ (upd H x o) { s with heap := h', toks := t' } := I.un (Un.write mu he k heo) (I.hok.write mu he k heo new)
theorem Inv.weak {σ' : List (Option V)} (I : Inv X pins σ H s) (hl : σ'.length = σ.length) (w : ∀ (i : Nat) v, σ'[i]? = some (some v) → σ[i]? = some (some v)) : Inv X pins σ' H s :=
  ⟨I.ok, I.os, I.bare, I.base, let ⟨m, hn, hl'⟩ := I.loc; ⟨m, hn, fun i x v e1 e2 e3 => hl' i x v e1 (w i v e2) e3⟩, I.cell, I.free, I.freeC, I.pin, I.hok, hl.trans I.len⟩
theorem Inv.pins_of {pins' : List (Addr × Obj)} (I : Inv X pins σ H s) (h : ∀ p ∈ pins', s.heap.get? p.1 = some p.2 ∧ H p.1 = none ∧ p.1 ≠ X.env.locals ∧ p.1 ∉ X.fs ∧ ∀ v, p.2.data ≠ .cell v) : Inv X pins' σ H s :=
  ⟨I.ok, I.os, I.bare, I.base, I.loc, I.cell, I.free, I.freeC, fun p hp => (List.mem_append.mp hp).elim (fun z => I.pin p (List.mem_append_left _ z)) (h p), I.hok, I.len⟩
theorem nodup_ix {N : List Str} (hN : N.Nodup) {i j : Nat} {x : Str} (a : N[i]? = some x) (b : N[j]? = some x) : i = j := by
  obtain ⟨h1, e1⟩ := List.getElem?_eq_some_iff.mp a
  obtain ⟨h2, e2⟩ := List.getElem?_eq_some_iff.mp b
  exact (List.getElem_inj hN).mp (e1.trans e2.symm)
theorem store_ok2 {M : Model} {A : Around} {E : Value → Shared → Prop} {i : Nat} {x : Str} {v : V} {u : Value} {Q : Unit → Shared → Prop} (I : Inv X pins σ H s) (hN : X.N.Nodup) (hi : X.N[i]? = some x) (hx : Loc X.env.scope x) (r : RelV v u)
    (h : ∀ s', Inv X pins (σ.set i (some v)) H s' → (∃ a, Heap.SameBut a s.heap s'.heap ∧ (a = X.env.locals ∨ X.env.cells.lookup x = some a)) → Q () s') (hf : X.fn x = true ∨ X.env.scope.names.lookup x = some .local := by first | exact .inl rfl | exact .inr rfl | assumption) : wpAny M A (storeName X.env x u) Q E s := by
  obtain ⟨m, hn, hl⟩ := id I.loc
  have hcls : (X.env.scope.kind == .class || (X.env.scope.kind == .module && X.env.locals != X.env.globals)) = false := by rw [I.ok.kind]; rfl
  have hiσ : i < σ.length := by rw [I.len]; exact (List.getElem?_eq_some_iff.mp hi).1
  have cne := I.cne
  have tracked : ∀ {a : Addr} {h' : Heap}, (∃ o, s.heap.get? a = some o ∧ H a = none) → Heap.SameBut a s.heap h' → HOk X.prog X.w H h' := fun {a h'} ha hs b ob e => by
    obtain ⟨_, _, hfree⟩ := ha
    refine (I.hok b ob e).stay (fun c w' hc q => (hs.2 c ?_).trans q) (fun _ q => q) fun _ _ q => q
    rintro rfl
    rcases hc with rfl | hc
    · rw [hfree] at e; cases e
    · rw [hfree] at hc; cases hc
  rcases hx with hk | hk
  · refine wpAny_storeName_local hk hn (fun h' hn' hs => ?_) hcls
    obtain ⟨oL, _, _, hoL, _⟩ := id hn
    refine h _ ⟨I.ok, I.os, I.bare, ⟨fun b o e n hb hx => ?_, fun b o e n hb hx => ?_, I.base.free, fun b o e hx => ?_, I.base.tups, I.base.frzs, I.base.tbls⟩, ⟨_, hn', fun j y v' e1 e2 e3 => ?_⟩, fun y c e => ?_, I.free, I.freeC, fun p hp => ?_, tracked ⟨oL, hoL, I.free⟩ hs, by simpa using I.len⟩ ⟨_, hs, .inl rfl⟩
    · exact (hs.2 b (Nat.ne_of_lt (Nat.lt_of_lt_of_le (Heap.lt_size e) I.ok.above))).trans (I.base.keep b o e n hb hx)
    · obtain ⟨sl, e1⟩ := I.base.slot b o e n hb hx
      exact ⟨sl, (hs.2 b (Nat.ne_of_lt (Nat.lt_of_lt_of_le (Heap.lt_size e) I.ok.above))).trans e1⟩
    · obtain ⟨o', e1⟩ := I.base.there b o e hx
      exact ⟨o', (hs.2 b (Nat.ne_of_lt (Nat.lt_of_lt_of_le (Heap.lt_size e) I.ok.above))).trans e1⟩
    · by_cases hj : j = i
      · subst hj
        rw [hi] at e1; cases e1
        rw [List.getElem?_set_self hiσ] at e2
        cases e2
        exact ⟨u, r, .inl ⟨hk, by simp⟩⟩
      · rw [List.getElem?_set_ne (Ne.symm hj)] at e2
        obtain ⟨u', r', q⟩ := hl j y v' e1 e2 e3
        refine ⟨u', r', ?_⟩
        rcases q with ⟨k, e⟩ | ⟨k, c, e, z⟩
        · refine .inl ⟨k, ?_⟩
          have : y ≠ x := fun e => hj (nodup_ix hN e1 (e ▸ hi))
          simp [this, e]
        · exact .inr ⟨k, c, e, z.sameBut hs (cne y c e)⟩
    · obtain ⟨w', z⟩ := I.cell y c e
      exact ⟨w', z.sameBut hs (cne y c e)⟩
    · obtain ⟨e, n, ne, nf, d⟩ := I.pin p hp
      exact ⟨(hs.2 p.1 ne).trans e, n, ne, nf, d⟩
  · have hfn : X.fn x = true := by
      rcases hf with z | z
      · exact z
      · rw [z] at hk; cases hk
    obtain ⟨c, hc⟩ := I.ok.has x (.inl hk)
    obtain ⟨w', z⟩ := I.cell x c hc
    refine wpAny_storeName_cell I.ok.kind hk hc z (fun h' hc' hs => ?_)
    obtain ⟨oc, hoc, hocd⟩ := id z
    refine h { s with heap := h' } ⟨I.ok, I.os, I.bare, ⟨fun b o e n hb hx => ?_, fun b o e n hb hx => ?_, I.base.free, fun b o e hx => ?_, I.base.tups, I.base.frzs, I.base.tbls⟩, ⟨m, hn.sameBut hs (Ne.symm (cne x c hc)), fun j y v' e1 e2 e3 => ?_⟩, fun y c' e => ?_, I.free, I.freeC, fun p hp => ?_, tracked ⟨oc, hoc, I.freeC x c hc⟩ hs, by simpa using I.len⟩ ⟨c, hs, .inr hc⟩
    · exact (hs.2 b (Nat.ne_of_lt (Nat.lt_of_lt_of_le (Heap.lt_size e) (I.ok.cab x c hfn hc)))).trans (I.base.keep b o e n hb hx)
    · obtain ⟨sl, e1⟩ := I.base.slot b o e n hb hx
      exact ⟨sl, (hs.2 b (Nat.ne_of_lt (Nat.lt_of_lt_of_le (Heap.lt_size e) (I.ok.cab x c hfn hc)))).trans e1⟩
    · obtain ⟨o', e1⟩ := I.base.there b o e hx
      exact ⟨o', (hs.2 b (Nat.ne_of_lt (Nat.lt_of_lt_of_le (Heap.lt_size e) (I.ok.cab x c hfn hc)))).trans e1⟩
    · by_cases hj : j = i
      · subst hj
        rw [hi] at e1; cases e1
        rw [List.getElem?_set_self hiσ] at e2
        cases e2
        exact ⟨u, r, .inr ⟨.inl hk, c, hc, hc'⟩⟩
      · rw [List.getElem?_set_ne (Ne.symm hj)] at e2
        obtain ⟨u', r', q⟩ := hl j y v' e1 e2 e3
        refine ⟨u', r', ?_⟩
        rcases q with q | ⟨k, c', e, z'⟩
        · exact .inl q
        · refine .inr ⟨k, c', e, z'.sameBut hs ?_⟩
          rintro rfl
          exact hj (nodup_ix hN e1 (I.ok.inj _ _ _ e hc ▸ hi))
    · by_cases hcc : c' = c
      · subst hcc; exact ⟨_, hc'⟩
      · obtain ⟨w2, z2⟩ := I.cell y c' e
        exact ⟨w2, z2.sameBut hs hcc⟩
    · obtain ⟨e, n, ne, nf, d⟩ := I.pin p hp
      refine ⟨(hs.2 p.1 ?_).trans e, n, ne, nf, d⟩
      intro q
      rw [q, hoc] at e
      have q' : oc = p.2 := Option.some.inj e
      exact d w' (by rw [← q']; exact hocd)
theorem store_ok {M : Model} {A : Around} {E : Value → Shared → Prop} {i : Nat} {x : Str} {v : V} {u : Value} {Q : Unit → Shared → Prop} (I : Inv X pins σ H s) (hN : X.N.Nodup) (hi : X.N[i]? = some x) (hx : Loc X.env.scope x) (r : RelV v u)
    (h : ∀ s', Inv X pins (σ.set i (some v)) H s' → Q () s') (hf : X.fn x = true ∨ X.env.scope.names.lookup x = some .local := by first | exact .inl rfl | exact .inr rfl | assumption) : wpAny M A (storeName X.env x u) Q E s :=
  store_ok2 I hN hi hx r (fun s' I' _ => h s' I') hf
theorem Inv.call' {s' : Shared} {ch : List Addr} (I : Inv X pins σ H s) (ho : s'.os = s.os) (u : Un (frs X.stack) ch H H' s.heap s'.heap) (hok : HOk X.prog X.w H' s'.heap) (hg : AllBare s'.gens)
    (hch : ∀ b ∈ ch, (b ∈ X.ex ∨ X.s₀.heap.objs.size ≤ b) ∧ b ≠ X.env.locals ∧ (∀ x c, X.env.cells.lookup x = some c → c ≠ b) ∧ ∀ p ∈ X.pn ++ pins, p.1 ≠ b) : Inv X pins σ H' s' := by
  obtain ⟨h', g', d', t', o'⟩ := s'
  have e : o' = s.os := ho
  subst e
  exact I.call (g' := g') (t' := t') (d' := d') u hok hg hch
end
abbrev XK := Value → Option Addr → Hp → Prop
abbrev St := List (Option V)
abbrev VK := V → Hp → Prop
abbrev TE := St → Hp → VK → Prop
abbrev TT := St → Hp → (Bool → Hp → Prop) → Prop
abbrev TA := St → Hp → (List V → Hp → Prop) → Prop
structure Ends where
  nx : St → Hp → Prop
  rt : VK
  bk : St → Hp → Prop := fun _ _ => False
  ct : St → Hp → Prop := fun _ _ => False
abbrev TS := Ends → St → Hp → Prop
def EP (X : Cx) (pins : List (Addr × Obj)) (σ : St) (Q : VK) (u : Value) (s' : Shared) : Prop := ∃ v H', Inv X pins σ H' s' ∧ RelV v u ∧ Q v H'
def TP (X : Cx) (pins : List (Addr × Obj)) (σ : St) (Q : Bool → Hp → Prop) (b : Bool) (s' : Shared) : Prop := ∃ H', Inv X pins σ H' s' ∧ Q b H'
def AP (X : Cx) (pins : List (Addr × Obj)) (σ : St) (Q : List V → Hp → Prop) (us : List Value) (s' : Shared) : Prop := ∃ vs H', Inv X pins σ H' s' ∧ Vals vs us ∧ Q vs H'
def SP (X : Cx) (pins : List (Addr × Obj)) (D : Ends) (f : Flow) (s' : Shared) : Prop :=
  match f with
  | .next => ∃ σ' H', Inv X pins σ' H' s' ∧ D.nx σ' H'
  | .brk => ∃ σ' H', Inv X pins σ' H' s' ∧ D.bk σ' H'
  | .cont => ∃ σ' H', Inv X pins σ' H' s' ∧ D.ct σ' H'
  | .ret u => ∃ v σ' H', Inv X pins σ' H' s' ∧ RelV v u ∧ D.rt v H'
def PE (X : Cx) (e : Expr) (t : TE) : Prop :=
  ∀ (pins : List (Addr × Obj)) (s : Shared) (σ : St) (H : Hp) (Q : VK), Inv X pins σ H s → t σ H Q → wpAny (model X.prog X.w) X.A (eval e X.env) (EP X pins σ Q) X.xe s
def PT (X : Cx) (e : Expr) (t : TT) : Prop :=
  ∀ (pins : List (Addr × Obj)) (s : Shared) (σ : St) (H : Hp) (Q : Bool → Hp → Prop), Inv X pins σ H s → t σ H Q → wpAny (model X.prog X.w) X.A (isTrue e X.env (eval e X.env)) (TP X pins σ Q) X.xe s
def PW (X : Cx) (e : Expr) (t : TT) : Prop :=
  ∀ (whole : Sem Value) (pins : List (Addr × Obj)) (s : Shared) (σ : St) (H : Hp) (Q : Bool → Hp → Prop), Inv X pins σ H s → t σ H Q → wpAny (model X.prog X.w) X.A (isTrue e X.env whole) (TP X pins σ Q) X.xe s
theorem PW.pt {X : Cx} {e : Expr} {t : TT} (h : PW X e t) : PT X e t := h _
def PA (X : Cx) (es : List Expr) (t : TA) : Prop :=
  ∀ (pos : Pos) (pins : List (Addr × Obj)) (s : Shared) (σ : St) (H : Hp) (Q : List V → Hp → Prop), Inv X pins σ H s → t σ H Q → wpAny (model X.prog X.w) X.A (spliced (backTo pos (starEach es X.env))) (AP X pins σ Q) X.xe s
def PS (X : Cx) (st : Stmt) (t : TS) : Prop :=
  ∀ (pins : List (Addr × Obj)) (s : Shared) (σ : St) (H : Hp) (D : Ends), Inv X pins σ H s → t D σ H → wpAny (model X.prog X.w) X.A (exec st X.env) (SP X pins D) X.xe s
def PSs (X : Cx) (st : List Stmt) (t : TS) : Prop :=
  ∀ (pins : List (Addr × Obj)) (s : Shared) (σ : St) (H : Hp) (D : Ends), Inv X pins σ H s → t D σ H → wpAny (model X.prog X.w) X.A (execs st X.env) (SP X pins D) X.xe s
theorem thn {α : Type} {t : Sem α} {Q Q' : α → Shared → Prop} {M : Model} {A : Around} {E : Value → Shared → Prop} {s : Shared} (h : wpAny M A t Q E s) (hQ : ∀ a s, Q a s → Q' a s) : wpAny M A t Q' E s := wpAny_mono h hQ fun _ _ x => x
end L2
namespace L2
open PySem PySem.Spec PyProof.Rows
section
variable {X : Cx}
theorem bin {a b : Expr} {ta tb : TE} (ha : PE X a ta) (hb : PE X b tb) {pins : List (Addr × Obj)} {s : Shared} {σ : St} {H : Hp} {R : V → V → Hp → Prop} (I : Inv X pins σ H s) (h : ta σ H fun x H1 => tb σ H1 fun y H2 => R x y H2)
    {α : Type} {Q : α → Shared → Prop} {f : Value → Value → Sem α}
    (hf : ∀ v u s2 x y H2, Inv X pins σ H2 s2 → RelV x v → RelV y u → R x y H2 → wpAny (model X.prog X.w) X.A (f v u) Q X.xe s2) :
    wpAny (model X.prog X.w) X.A (eval a X.env) (fun v s₁ => wpAny (model X.prog X.w) X.A (eval b X.env) (fun u s₂ => wpAny (model X.prog X.w) X.A (f v u) Q X.xe s₂) X.xe s₁) X.xe s := by
  refine thn (ha pins s σ H _ I h) fun v s1 ⟨x, H1, I1, r1, q1⟩ => ?_
  refine thn (hb pins s1 σ H1 _ I1 q1) fun u s2 ⟨y, H2, I2, r2, q2⟩ => ?_
  exact hf v u s2 x y H2 I2 r1 r2 q2
def tVar (i : Nat) : TE := fun σ H Q => ∃ v, σ[i]? = some (some v) ∧ Q v H
def tC (v : V) : TE := fun _ H Q => Q v H
theorem pe_var {i : Nat} {x : Str} {pos : Pos} (hN : X.N[i]? = some x) (hv : Vis X.env.scope x) (hd : (x == ("__debug__" : Str)) = false := by decide) (hcd : (x == ("__classdict__" : Str)) = false := by decide) : PE X (.Name x pos) (tVar i) := by
  intro pins s σ H Q I h
  obtain ⟨v, e, h⟩ := h
  obtain ⟨m, hn, hl⟩ := I.loc
  obtain ⟨u, r, l⟩ := hl i x v hN e hv
  have fin : EP X pins σ Q u s := ⟨v, H, I, r, h⟩
  rcases l with ⟨hk, hm⟩ | ⟨hk, c, hc, hcell⟩
  · exact wpAny_Name (wpAny_loadName_local I.ok.kind hk hn hm fin) hd
  · rcases hk with hk | hk
    · exact wpAny_Name (wpAny_loadName_cell I.ok.kind hk hc hcell fin) hd
    · exact wpAny_Name (wpAny_loadName_free I.ok.kind hk hc hcell fin hcd) hd
theorem pe_int {i j pos} : PE X (.Constant (.int i) j pos) (tC (.int i)) := fun _ _ _ H _ I h => wpAny_Constant_int ⟨.int i, H, I.tok _, ⟨_, rfl⟩, h⟩
theorem pe_bl {b j pos} : PE X (.Constant (.bool b) j pos) (tC (.bl b)) := fun _ _ _ H _ I h => Constant_bool ⟨.bl b, H, I, rfl, h⟩
theorem pe_non {j pos} : PE X (.Constant .none j pos) (tC .non) := fun _ _ _ H _ I h => Constant_none ⟨.non, H, I, rfl, h⟩
theorem pe_str {x j pos} : PE X (.Constant (.str x) j pos) (tC (.str x)) := fun _ _ _ H _ I h => Calls.Constant_str ⟨.str x, H, I.tok _, ⟨_, rfl⟩, h⟩
def Gl (X : Cx) (x : Str) : Prop := X.env.kindOf x = some .globalImplicit
theorem ld_glob {E : Value → Shared → Prop} {pins : List (Addr × Obj)} {s : Shared} {σ : St} {H : Hp} {x : Str} {u : Value} {pos : Pos} {Q : Value → Shared → Prop} (I : Inv X pins σ H s) (hg : Gl X x) (hm : X.mg x = some u) (h : Q u s)
    (hd : (x == ("__debug__" : Str)) = false := by decide) : wpAny (model X.prog X.w) X.A (eval (.Name x pos) X.env) Q E s :=
  Calls.Name_function_global I.ok.kind hg (Calls.loadGlobal_global (by rw [I.ok.glob]; exact I.mod.glob.keeps I.bk) hm h) hd
theorem ld_blt {E : Value → Shared → Prop} {pins : List (Addr × Obj)} {s : Shared} {σ : St} {H : Hp} {x : Str} {u : Value} {pos : Pos} {Q : Value → Shared → Prop} (I : Inv X pins σ H s) (hg : Gl X x) (hm : X.mg x = none) (hv : bootBuiltins x = some u) (h : Q u s)
    (hn : x ≠ "__name__" := by decide) (hd : (x == ("__debug__" : Str)) = false := by decide) : wpAny (model X.prog X.w) X.A (eval (.Name x pos) X.env) Q E s := by
  obtain ⟨mb, h1, h2⟩ := I.mod.blt
  exact Calls.Name_function_global I.ok.kind hg (Calls.loadGlobal_builtin (by rw [I.ok.glob]; exact I.mod.glob.keeps I.bk) hm (by rw [I.ok.blt]; exact h1.keeps I.bk) ((h2 x hn).trans hv) h) hd
theorem pe_bltn {x : Str} {v : V} {u : Value} {pos : Pos} (hg : Gl X x) (hm : X.mg x = none) (hv : bootBuiltins x = some u) (r : RelV v u) (hn : x ≠ "__name__" := by decide) (hd : (x == ("__debug__" : Str)) = false := by decide) : PE X (.Name x pos) (tC v) :=
  fun _ _ _ H _ I h => ld_blt I hg hm hv ⟨v, H, I, r, h⟩ hn hd
variable {a b : Expr} {ta tb : TE} {pos : Pos}
def PC (X : Cx) (op : CmpOp) (a b : Expr) (t : TE) : Prop :=
  ∀ (pins : List (Addr × Obj)) (s : Shared) (σ : St) (H : Hp) (Q : VK), Inv X pins σ H s → t σ H Q →
    wpAny (model X.prog X.w) X.A (eval a X.env) (fun v s₁ => wpAny (model X.prog X.w) X.A (eval b X.env) (fun u s₂ => wpAny (model X.prog X.w) X.A (compareOp op v u) (EP X pins σ Q) X.xe s₂) X.xe s₁) X.xe s
theorem nobehind (b : Expr) {op : CmpOp} (h : op ≠ .In) (h2 : op ≠ .NotIn) : behindInMarks op b = false := by
  have e1 : (op == CmpOp.In) = false := by cases op <;> first | rfl | exact absurd rfl h
  have e2 : (op == CmpOp.NotIn) = false := by cases op <;> first | rfl | exact absurd rfl h2
  cases b <;> simp [behindInMarks, e1, e2]
def tIsN (ta : TE) : TE := fun σ H Q => ta σ H fun x H1 => Q (.bl (decide (x = .non))) H1
def tNotN (ta : TE) : TE := fun σ H Q => ta σ H fun x H1 => Q (.bl (!decide (x = .non))) H1
theorem RelV.none_iff {x : V} {v : Value} (r : RelV x v) : (v == Value.none) = decide (x = .non) := by
  cases x with
  | non => cases r; rfl
  | bl _ => cases r; rfl
  | int _ => obtain ⟨t, rfl⟩ := r; rfl
  | str _ => obtain ⟨t, rfl⟩ := r; rfl
  | byt _ => obtain ⟨t, rfl⟩ := r; rfl
  | flt _ => obtain ⟨t, rfl⟩ := r; rfl
  | ref _ => cases r; rfl
  | ty _ => cases r; rfl
theorem pc_isN {j pos'} (ha : PE X a ta) : PC X .Is a (.Constant .none j pos') (tIsN ta) := by
  intro pins s σ H Q I h
  refine thn (ha pins s σ H _ I h) fun v s1 ⟨x, H1, I1, r1, q1⟩ => ?_
  exact Constant_none (is_none_gen ⟨.bl _, H1, I1, by rw [r1.none_iff]; rfl, q1⟩)
theorem pc_notN {j pos'} (ha : PE X a ta) : PC X .IsNot a (.Constant .none j pos') (tNotN ta) := by
  intro pins s σ H Q I h
  refine thn (ha pins s σ H _ I h) fun v s1 ⟨x, H1, I1, r1, q1⟩ => ?_
  exact Constant_none (isnot_none_gen ⟨.bl _, H1, I1, by rw [r1.none_iff]; rfl, q1⟩)
def tB (t : TE) : TT := fun σ H Q => t σ H fun x H1 => ∃ c, x = .bl c ∧ Q c H1
theorem pe_cmp {op : CmpOp} {t : TE} (h : PC X op a b t) (h1 : behindInMarks op b = false := by first | exact nobehind _ (by decide) (by decide) | rfl) : PE X (.Compare a [op] [b] pos) t := fun pins s σ H Q I hw => wpAny_Compare1 (h pins s σ H Q I hw) h1
theorem pt_cmp {op : CmpOp} {t : TE} (h : PC X op a b t) (h1 : behindInMarks op b = false := by first | exact nobehind _ (by decide) (by decide) | rfl) : PT X (.Compare a [op] [b] pos) (tB t) := by
  intro pins s σ H Q I hw
  refine wpAny_isTrue_Compare1 (thn (h pins s σ H _ I hw) fun v s1 h1 => thn h1 fun u s2 h2 => thn h2 fun c s3 ⟨x, H1, I1, r1, q1⟩ => ?_) h1
  obtain ⟨d, rfl, q⟩ := q1
  cases r1
  exact wpAny_truthy_bool ⟨H1, I1, q⟩
theorem pt_val {e : Expr} {t : TE} (h : PE X e t) (he : ∀ whole, isTrue e X.env whole = (do let v ← whole; standAt e.pos; holding [v] (truthy v)) := by intro _; rfl) : PT X e (tB t) := by
  intro pins s σ H Q I hw
  refine isTrue_plain (thn (h pins s σ H _ I hw) fun v s1 ⟨x, H1, I1, r1, q1⟩ => ?_) (he _)
  obtain ⟨d, rfl, q⟩ := q1
  cases r1
  exact wpAny_truthy_bool ⟨H1, I1, q⟩
variable {tA tB' : TT} {rest : List Expr}
def tAnd (t u : TT) : TT := fun σ H Q => t σ H fun c H1 => if c = true then u σ H1 Q else Q false H1
def tOr (t u : TT) : TT := fun σ H Q => t σ H fun c H1 => if c = true then Q true H1 else u σ H1 Q
def tNot (t : TT) : TT := fun σ H Q => t σ H fun c H1 => Q (!c) H1
theorem pw_and1 (ha : PT X a tA) : PW X (.BoolOp .And [a] pos) tA := by
  intro wh pins s σ H Q I h
  refine isTrue_and (thn (ha pins s σ H Q I h) fun c s1 e => ?_)
  cases c with
  | true => exact isTrue_and_nil e
  | false => exact e
theorem pw_or1 (ha : PT X a tA) : PW X (.BoolOp .Or [a] pos) tA := by
  intro wh pins s σ H Q I h
  refine isTrue_or (thn (ha pins s σ H Q I h) fun c s1 e => ?_)
  cases c with
  | false => exact isTrue_or_nil e
  | true => exact e
theorem pw_and (ha : PT X a tA) (hb : PW X (.BoolOp .And (b :: rest) pos) tB') : PW X (.BoolOp .And (a :: b :: rest) pos) (tAnd tA tB') := by
  intro wh pins s σ H Q I h
  refine isTrue_and (thn (ha pins s σ H _ I h) fun c s1 ⟨H1, I1, q1⟩ => ?_)
  cases c with
  | true => exact hb wh pins s1 σ H1 Q I1 q1
  | false => exact ⟨H1, I1, q1⟩
theorem pw_or (ha : PT X a tA) (hb : PW X (.BoolOp .Or (b :: rest) pos) tB') : PW X (.BoolOp .Or (a :: b :: rest) pos) (tOr tA tB') := by
  intro wh pins s σ H Q I h
  refine isTrue_or (thn (ha pins s σ H _ I h) fun c s1 ⟨H1, I1, q1⟩ => ?_)
  cases c with
  | true => exact ⟨H1, I1, q1⟩
  | false => exact hb wh pins s1 σ H1 Q I1 q1
theorem pt_not (ha : PT X a tA) : PT X (.UnaryOp .Not a pos) (tNot tA) := by
  intro pins s σ H Q I h
  exact isTrue_not (ha pins s σ H (fun c H1 => Q (!c) H1) I h)
def tAndV (ta tb : TE) : TE := fun σ H Q => ta σ H fun x H1 => ∃ c, x = .bl c ∧ if c = true then tb σ H1 Q else Q (.bl false) H1
def tNotV (ta : TE) : TE := fun σ H Q => ta σ H fun x H1 => ∃ c, x = .bl c ∧ Q (.bl (!c)) H1
theorem pe_one {op} {t : TE} (h : PE X a t) : PE X (.BoolOp op [a] pos) t := fun pins s σ H Q I hw => BoolOp_one (h pins s σ H Q I hw)
theorem pe_and (ha : PE X a ta) (hb : PE X (.BoolOp .And (b :: rest) pos) tb) : PE X (.BoolOp .And (a :: b :: rest) pos) (tAndV ta tb) := by
  intro pins s σ H Q I h
  refine BoolOp_and (thn (ha pins s σ H _ I h) fun v s1 ⟨x, H1, I1, r1, q1⟩ => ?_)
  obtain ⟨c, rfl, q1⟩ := q1
  cases r1
  refine wpAny_truthy_bool ?_
  cases c with
  | true => exact hb pins s1 σ H1 Q I1 q1
  | false => exact ⟨.bl false, H1, I1, rfl, q1⟩
theorem pe_not (ha : PE X a ta) : PE X (.UnaryOp .Not a pos) (tNotV ta) := by
  intro pins s σ H Q I h
  refine UnaryOp_ (thn (ha pins s σ H _ I h) fun v s1 ⟨x, H1, I1, r1, q1⟩ => ?_)
  obtain ⟨c, rfl, q1⟩ := q1
  cases r1
  exact not_of (wpAny_truthy_bool ⟨.bl (!c), H1, I1, rfl, q1⟩)
def tIf (t : TT) (ta tb : TE) : TE := fun σ H Q => t σ H fun c H1 => if c = true then ta σ H1 Q else tb σ H1 Q
theorem pe_ifExp {c : Expr} (hc : PT X c tA) (ha : PE X a ta) (hb : PE X b tb) : PE X (.IfExp c a b pos) (tIf tA ta tb) := by
  intro pins s σ H Q I h
  refine wpAny_IfExp (thn (hc pins s σ H _ I h) fun d s1 ⟨H1, I1, q1⟩ => ?_)
  cases d with
  | true => exact ha pins s1 σ H1 Q I1 q1
  | false => exact hb pins s1 σ H1 Q I1 q1
end
end L2
namespace L2
open PySem PySem.Spec PyProof.Rows
def SqL (K : PySem.W.Frag) (H : Hp) (a : Addr) (xs : List V) : Prop :=
  Rd H a (.lst xs) ∨
    ∃ (o : Obj) (its : Array Value) (n : Nat), K.lookup a = some o ∧ o.cls = .type "list" ∧ o.dict = none ∧ o.data = .seq its n ∧ its.size ≤ sizeLine ∧ Vals xs its.toList
def SqT (K : PySem.W.Frag) (H : Hp) (a : Addr) (xs : List V) : Prop :=
  Rd H a (.tup xs) ∨
    ∃ (o : Obj) (its : Array Value) (n : Nat), K.lookup a = some o ∧ o.cls = .type "tuple" ∧ o.data = .seq its n ∧ its.size ≤ sizeLine ∧ Vals xs its.toList
def absV : Value → Option V
  | .none => some .non
  | .bool b => some (.bl b)
  | .int i _ => some (.int i)
  | .str x _ => some (.str x)
  | .bytes b _ => some (.byt b)
  | .float b _ => some (.flt b)
  | .ref a => some (.ref a)
  | .type n => some (.ty n)
  | _ => none
theorem RelV.abs {x : V} {u : Value} (r : RelV x u) : absV u = some x := by
  cases x with
  | non => cases r; rfl
  | bl _ => cases r; rfl
  | int _ => obtain ⟨t, rfl⟩ := r; rfl
  | str _ => obtain ⟨t, rfl⟩ := r; rfl
  | byt _ => obtain ⟨t, rfl⟩ := r; rfl
  | flt _ => obtain ⟨t, rfl⟩ := r; rfl
  | ref _ => cases r; rfl
  | ty _ => cases r; rfl
theorem RelV.inj {x y : V} {u : Value} (r : RelV x u) (q : RelV y u) : x = y := Option.some.inj (r.abs.symm.trans q.abs)
theorem Vals.inj : ∀ {xs ys : List V} {us : List Value}, Vals xs us → Vals ys us → xs = ys
  | _, _, _, .nil, .nil => rfl
  | _, _, _, .cons r t, .cons r' t' => by rw [r.inj r', Vals.inj t t']
section
variable {X : Cx} {pins : List (Addr × Obj)} {σ : St} {H : Hp} {s : Shared} {a : Addr} {xs ys : List V}
theorem SqL.of {K : PySem.W.Frag} (h : H a = some (.lst xs)) : SqL K H a xs := .inl (.inl h)
theorem SqT.of {K : PySem.W.Frag} (h : H a = some (.tup xs)) : SqT K H a xs := .inl (.inl h)
theorem Inv.list (I : Inv X pins σ H s) (h : SqL X.K H a xs) : ∃ its : List Value, Vals xs its ∧ PlainL s.heap a its.toArray ∧ xs.length ≤ sizeLine := by
  rcases h with h | ⟨o, its, n, hk, hc, hd, hs, hz, r⟩
  · obtain ⟨z, its, n, r, e⟩ := h.ok I.hok
    exact ⟨its, r, ⟨_, n, e, rfl, rfl, rfl⟩, z⟩
  · refine ⟨its.toList, r, ⟨o, n, I.kIn a o hk, hc, hd, by simpa using hs⟩, ?_⟩
    have e := r.length
    simp only [Array.length_toList] at e
    omega
theorem Inv.tuple (I : Inv X pins σ H s) (h : SqT X.K H a xs) : ∃ its : List Value, Vals xs its ∧ IsTup s.heap a its.toArray ∧ xs.length ≤ sizeLine := by
  rcases h with h | ⟨o, its, n, hk, hc, hs, hz, r⟩
  · obtain ⟨z, its, r, p⟩ := h.ok I.hok
    exact ⟨its, r, p, z⟩
  · refine ⟨its.toList, r, ⟨o, I.kIn a o hk, hc, n, by simpa using hs⟩, ?_⟩
    have e := r.length
    simp only [Array.length_toList] at e
    omega
theorem Inv.list_inj (I : Inv X pins σ H s) (h : SqL X.K H a xs) (h' : SqL X.K H a ys) : xs = ys := by
  obtain ⟨its, r, ⟨o, n, e, _, _, d⟩, _⟩ := I.list h
  obtain ⟨its', r', ⟨o', n', e', _, _, d'⟩, _⟩ := I.list h'
  rw [e] at e'; cases e'
  rw [d] at d'
  injection d' with d1 _
  have : its = its' := by simpa using congrArg Array.toList d1
  subst this
  exact r.inj r'
end
abbrev Cx.wish (X : Cx) (E : Value → Shared → Prop) : Cx := { X with xe := E }
abbrev Cx.nox (X : Cx) : Cx := X.wish fun _ _ => False
theorem Cx.Ok.wish {X : Cx} (ok : X.Ok) (E : Value → Shared → Prop) : (X.wish E).Ok :=
  ⟨ok.mod, ok.kind, ok.glob, ok.blt, ok.above, ok.inj, ok.has, ok.cab, ok.hd, ok.frames, ok.stk, ok.exf, ok.bs, ok.bsz, ok.noex, ok.exfs, ok.funs, ok.frf⟩
theorem Cx.Ok.unwish {X : Cx} {E : Value → Shared → Prop} (ok : (X.wish E).Ok) : X.Ok :=
  ⟨ok.mod, ok.kind, ok.glob, ok.blt, ok.above, ok.inj, ok.has, ok.cab, ok.hd, ok.frames, ok.stk, ok.exf, ok.bs, ok.bsz, ok.noex, ok.exfs, ok.funs, ok.frf⟩
section
variable {X : Cx} {pins : List (Addr × Obj)} {σ : St} {H : Hp} {s : Shared} {E : Value → Shared → Prop}
theorem Inv.wish (I : Inv X pins σ H s) (E : Value → Shared → Prop) : Inv (X.wish E) pins σ H s := ⟨I.ok.wish E, I.os, I.bare, I.base, I.loc, I.cell, I.free, I.freeC, I.pin, I.hok, I.len⟩
theorem Inv.unwish (I : Inv (X.wish E) pins σ H s) : Inv X pins σ H s := ⟨I.ok.unwish, I.os, I.bare, I.base, I.loc, I.cell, I.free, I.freeC, I.pin, I.hok, I.len⟩
theorem SP.unwish {D : Ends} {f : Flow} {s' : Shared} (h : SP (X.wish E) pins D f s') : SP X pins D f s' := by
  cases f with
  | next => obtain ⟨σ', H', I, q⟩ := h; exact ⟨σ', H', I.unwish, q⟩
  | brk => obtain ⟨σ', H', I, q⟩ := h; exact ⟨σ', H', I.unwish, q⟩
  | cont => obtain ⟨σ', H', I, q⟩ := h; exact ⟨σ', H', I.unwish, q⟩
  | ret u => obtain ⟨v, σ', H', I, r, q⟩ := h; exact ⟨v, σ', H', I.unwish, r, q⟩
theorem PE.nox {e : Expr} {t : TE} (h : PE X.nox e t) : PE X e t := fun pins s σ H Q I hw =>
  wpAny_mono (h pins s σ H Q (I.wish _) hw) (fun _ _ ⟨v, H', I', r, q⟩ => ⟨v, H', I'.unwish, r, q⟩) fun _ _ z => False.elim z
theorem PT.nox {e : Expr} {t : TT} (h : PT X.nox e t) : PT X e t := fun pins s σ H Q I hw =>
  wpAny_mono (h pins s σ H Q (I.wish _) hw) (fun _ _ ⟨H', I', q⟩ => ⟨H', I'.unwish, q⟩) fun _ _ z => False.elim z
theorem PSs.nox {st : List Stmt} {t : TS} (h : PSs X.nox st t) : PSs X st t := fun pins s σ H D I hw =>
  wpAny_mono (h pins s σ H D (I.wish _) hw) (fun _ _ q => q.unwish) fun _ _ z => False.elim z
end
section
variable {X : Cx} {st : Stmt} {rest : List Stmt} {t u : TS} {e : Expr} {te : TE} {pos : Pos}
def tNext : TS := fun D σ H => D.nx σ H
def tSeq (t u : TS) : TS := fun D σ H => t { D with nx := u D } σ H
theorem pss_nil : PSs X [] tNext := fun _ _ σ H _ I h => wpAny_execs_nil ⟨σ, H, I, h⟩
theorem pss_cons (h1 : PS X st t) (h2 : PSs X rest u) : PSs X (st :: rest) (tSeq t u) := by
  intro pins s σ H D I h
  refine wpAny_execs_cons (thn (h1 pins s σ H { D with nx := u D } I h) fun f s1 q => ?_)
  cases f with
  | next =>
    obtain ⟨σ', H', I', q⟩ := q
    exact h2 pins s1 σ' H' D I' q
  | ret v => exact q
  | brk => exact q
  | cont => exact q
theorem pss_one (h1 : PS X st t) : PSs X [st] t := by
  intro pins s σ H D I h
  refine wpAny_execs_cons (thn (h1 pins s σ H D I h) fun f s1 q => ?_)
  cases f with
  | next => exact wpAny_execs_nil q
  | ret v => exact q
  | brk => exact q
  | cont => exact q
def tBreak : TS := fun D σ H => D.bk σ H
theorem ps_break : PS X (.Break pos) tBreak := fun _ _ σ H _ I h => wpAny_Break ⟨σ, H, I, h⟩
theorem Inv.quiet {pins : List (Addr × Obj)} {σ : St} {H : Hp} {s : Shared} (I : Inv X pins σ H s) : interactive X.env = false := by simp [interactive, I.ok.kind]
def tDrop (te : TE) : TS := fun D σ H => te σ H fun _ H1 => D.nx σ H1
theorem ps_expr (he : PE X e te) (hs : swapsWith e none pos.line X.env = pure false := by rfl) : PS X (.Expr e pos) (tDrop te) := by
  intro pins s σ H D I h
  exact wpAny_Expr_any (thn (he pins s σ H _ I h) fun v s1 ⟨x, H1, I1, r1, q1⟩ => ⟨σ, H1, I1, q1⟩) I.quiet hs
def tRet (te : TE) : TS := fun D σ H => te σ H D.rt
theorem ps_ret (he : PE X e te) : PS X (.Return (some e) pos) (tRet te) := by
  intro pins s σ H D I h
  exact wpAny_Return_some (thn (he pins s σ H _ I h) fun v s1 ⟨x, H1, I1, r1, q1⟩ => ⟨x, σ, H1, I1, r1, q1⟩)
def tIfS (c : TT) (t u : TS) : TS := fun D σ H => c σ H fun b H1 => if b = true then t D σ H1 else u D σ H1
theorem ps_if {c : Expr} {a b : List Stmt} {tc : TT} (hc : PT X c tc) (ha : PSs X a t) (hb : PSs X b u) : PS X (.If c a b pos) (tIfS tc t u) := by
  intro pins s σ H D I h
  refine wpAny_If (thn (hc pins s σ H _ I h) fun d s1 ⟨H1, I1, q1⟩ => ?_)
  cases d with
  | true => exact ha pins s1 σ H1 D I1 q1
  | false => exact hb pins s1 σ H1 D I1 q1
end
abbrev TG := V → St → Hp → (St → Hp → Prop) → Prop
abbrev TGs := List V → St → Hp → (St → Hp → Prop) → Prop
def PG (X : Cx) (target : Expr) (t : TG) : Prop :=
  ∀ (pins : List (Addr × Obj)) (s : Shared) (σ : St) (H : Hp) (v : V) (u : Value) (Q : St → Hp → Prop), Inv X pins σ H s → RelV v u → t v σ H Q →
    wpAny (model X.prog X.w) X.A (assign target X.env u) (fun _ s' => ∃ σ' H', Inv X pins σ' H' s' ∧ Q σ' H') X.xe s
def PGs (X : Cx) (ts : List Expr) (t : TGs) : Prop :=
  ∀ (pins : List (Addr × Obj)) (s : Shared) (σ : St) (H : Hp) (vs : List V) (us : List Value) (Q : St → Hp → Prop), Inv X pins σ H s → Vals vs us → t vs σ H Q →
    wpAny (model X.prog X.w) X.A (assignInOrder ((assignEach ts X.env).map (·.2)) us) (fun _ s' => ∃ σ' H', Inv X pins σ' H' s' ∧ Q σ' H') X.xe s
section
variable {X : Cx} {pos : Pos}
def gName (i : Nat) : TG := fun v σ H Q => Q (σ.set i (some v)) H
theorem pg_name {i : Nat} {x : Str} (hN : X.N.Nodup) (hi : X.N[i]? = some x) (hx : Loc X.env.scope x) (hf : X.fn x = true ∨ X.env.scope.names.lookup x = some .local := by first | exact .inl rfl | exact .inr rfl | assumption) : PG X (.Name x pos) (gName i) := by
  intro pins s σ H v u Q I r h
  exact wpAny_assign_Name (store_ok I hN hi hx r (fun s' I' => ⟨_, H, I', h⟩) hf)
def gNil : TGs := fun vs σ H Q => vs = [] ∧ Q σ H
def gCons (t : TG) (u : TGs) : TGs := fun vs σ H Q => ∃ v r, vs = v :: r ∧ t v σ H fun σ' H' => u r σ' H' Q
theorem pgs_nil : PGs X [] gNil := by
  intro pins s σ H vs us Q I r h
  obtain ⟨e, h⟩ := h
  subst e
  cases r
  exact assignInOrder_nil ⟨σ, H, I, h⟩
theorem pgs_cons {e : Expr} {es : List Expr} {t : TG} {u : TGs} (h1 : PG X e t) (h2 : PGs X es u)
    (hs : (assignEach (e :: es) X.env).map (·.2) = assign e X.env :: (assignEach es X.env).map (·.2) := by rfl) : PGs X (e :: es) (gCons t u) := by
  intro pins s σ H vs us Q I r h
  obtain ⟨v, vr, e1, h⟩ := h
  subst e1
  cases r with
  | cons r rr =>
    rw [hs]
    refine assignInOrder_cons (thn (h1 pins s σ H _ _ _ I r h) fun _ s1 ⟨σ1, H1, I1, q1⟩ => ?_)
    exact h2 pins s1 σ1 H1 _ _ Q I1 rr q1
def gTup (K : PySem.W.Frag) (n : Nat) (t : TGs) : TG := fun v σ H Q => ∃ a xs, v = .ref a ∧ SqT K H a xs ∧ xs.length = n ∧ t xs σ H Q
theorem pg_tup {es : List Expr} {k : Nat} {t : TGs} {n : Nat} (hc : X.calm = true) (h : PGs X es t)
    (hn : (assignEach es X.env).length = n := by rfl) (hst : (assignEach es X.env).findIdx? (·.1) = none := by rfl) : PG X (.Tuple es k pos) (gTup X.K n t) := by
  intro pins s σ H v u Q I r hw
  obtain ⟨a, xs, e1, hq, hl, hw⟩ := hw
  subst e1
  cases r
  obtain ⟨its, rv, ht, hz⟩ := I.tuple hq
  refine assign_Tuple_tuple (I.ok.hd hc) ht (by simp [hn, ← hl, rv.length]) hst fun h' hx => ?_
  have I1 : Inv X pins σ H { s with heap := h' } := I.kept (t' := s.toks) fun b o e => hx b o (Nat.ne_of_lt (Heap.lt_size e)) e
  exact h pins _ σ H xs _ Q I1 (by simpa using rv) hw
def tAsg (te : TE) (g : TG) : TS := fun D σ H => te σ H fun x H1 => g x σ H1 D.nx
theorem ps_asg {tg e : Expr} {te : TE} {g : TG} (he : PE X e te) (hg : PG X tg g) (hs : swapsWithSole [tg] e pos.line X.env = pure false := by rfl) (hw : swappedStores [tg] e X.env = pure none := by rfl)
    (h1 : (assignEach [tg] X.env).map (·.2) = [assign tg X.env] := by rfl) : PS X (.Assign [tg] e pos) (tAsg te g) := by
  intro pins s σ H D I h
  refine wpAny_Assign_stores (thn (he pins s σ H _ I h) fun v s1 ⟨x, H1, I1, r1, q1⟩ => ?_) hs hw
  rw [h1]
  exact thn (hg pins s1 σ H1 x v _ I1 r1 q1) fun _ s2 q => q
theorem ps_set {i : Nat} {x : Str} {e : Expr} {te : TE} {pos' : Pos} (hN : X.N.Nodup) (hi : X.N[i]? = some x) (hx : Loc X.env.scope x) (he : PE X e te) (hs : swapsWith e (some (.Name x pos')) pos.line X.env = pure false := by rfl) (hf : X.fn x = true ∨ X.env.scope.names.lookup x = some .local := by first | exact .inl rfl | exact .inr rfl | assumption) :
    PS X (.Assign [.Name x pos'] e pos) (tAsg te (gName i)) := by
  intro pins s σ H D I h
  refine wpAny_Assign_Name (thn (he pins s σ H _ I h) fun v s1 ⟨y, H1, I1, r1, q1⟩ => ?_) hs
  exact store_ok I1 hN hi hx r1 (fun s2 I2 => ⟨_, H1, I2, q1⟩) hf
end
section
variable {X : Cx} {pos : Pos}
def tWhile (c : TT) (tb : TS) : TS := fun D σ H => ∃ W : Nat → St → Hp → Prop, (∃ m, W m σ H) ∧ ∀ m σ H, W m σ H →
  c σ H fun b H1 => if b = true then ∃ N : St → Hp → Prop, (∀ σ' H', N σ' H' → ∃ m', m' < m ∧ W m' σ' H') ∧ tb { D with nx := N, ct := N, bk := D.nx } σ H1 else D.nx σ H1
theorem ps_while {c : Expr} {body : List Stmt} {tc : TT} {tb : TS} (hp : PassesOwn (model X.prog X.w) X.A X.env X.xe) (hc : PT X c tc) (hb : PSs X body tb) : PS X (.While c body [] pos) (tWhile tc tb) := by
  intro pins s σ H D I h
  obtain ⟨W, ⟨m0, w0⟩, turn⟩ := h
  refine wpAny_While (codeAny_whileLoop (fun n s' => ∃ σ' H', Inv X pins σ' H' s' ∧ W n σ' H') ?_ m0 ⟨σ, H, I, w0⟩)
  rintro n s1 ⟨σ1, H1, I1, w1⟩
  refine wpAny_passesOwn hp (thn (hc pins s1 σ1 H1 _ I1 (turn n σ1 H1 w1)) fun b s2 ⟨H2, I2, q2⟩ => ?_)
  cases b with
  | true =>
    obtain ⟨N, hN, q2⟩ := q2
    rw [if_pos rfl]
    refine wpAny_passesOwn hp (thn (hb pins s2 σ1 H2 _ I2 q2) fun f s3 q3 => ?_)
    cases f with
    | next =>
      obtain ⟨σ3, H3, I3, n3⟩ := q3
      obtain ⟨m', hm, w3⟩ := hN σ3 H3 n3
      exact ⟨m', hm, σ3, H3, I3, w3⟩
    | cont =>
      obtain ⟨σ3, H3, I3, n3⟩ := q3
      obtain ⟨m', hm, w3⟩ := hN σ3 H3 n3
      exact ⟨m', hm, σ3, H3, I3, w3⟩
    | brk => exact q3
    | ret v => exact q3
  | false =>
    rw [if_neg Bool.false_ne_true]
    exact wpAny_execs_nil ⟨σ1, H2, I2, q2⟩
end
structure It where
  go : Nat → Hp → Prop
  yld : Nat → Hp → V → Hp → Prop
  stop : Nat → Hp → Prop
def FpOk (X : Cx) (pins : List (Addr × Obj)) (H : Hp) (b : Addr) : Prop :=
  H b = none ∧ b ≠ X.env.locals ∧ b ∉ X.fs ∧ (b ∈ X.ex ∨ X.s₀.heap.objs.size ≤ b) ∧ (∀ x c, X.env.cells.lookup x = some c → c ≠ b) ∧ ∀ p ∈ X.pn ++ pins, p.1 ≠ b
theorem Inv.fpOk {X : Cx} {pins : List (Addr × Obj)} {σ : St} {H H' : Hp} {s : Shared} {b : Addr} (I : Inv X pins σ H s) (hb : s.heap.objs.size ≤ b) (hn : H' b = none) : FpOk X pins H' b := by
  refine ⟨hn, Nat.ne_of_gt (Nat.lt_of_lt_of_le I.lt hb), I.nofs hb, .inr (Nat.le_trans I.sz hb), fun x c e z => ?_, fun p hp z => ?_⟩
  · obtain ⟨v, q⟩ := I.cell x c e
    exact absurd (Nat.lt_of_lt_of_le q.lt (by rw [z]; exact hb)) (Nat.lt_irrefl _)
  · exact absurd (Nat.lt_of_lt_of_le (Heap.lt_size (I.pin p hp).1) (by rw [z]; exact hb)) (Nat.lt_irrefl _)
structure Turn (P : Program) (w : World) (K : PySem.W.Frag) (tg : Expr) (J : It) (fp : List Addr) (it : Addr) (tn : Nat → Heap → Prop) : Prop where
  mem : it ∈ fp
  obj : ∀ i h, tn i h → ∀ b ∈ fp, ∃ o, h.get? b = some o ∧ ∀ v, o.data ≠ .cell v
  keep : ∀ i h h', tn i h → (∀ b ∈ fp, ∀ o, h.get? b = some o → h'.get? b = some o) → tn i h'
  item : ∀ (X : Cx), X.prog = P → X.w = w → X.K = K → X.calm = true → ∀ (i : Nat) (pins : List (Addr × Obj)) (s : Shared) (σ : St) (H : Hp) (E : Value → Shared → Prop), Inv X pins σ H s → (∀ b ∈ fp, FpOk X pins H b) → tn i s.heap → J.go i H →
    wpAny (model P w) X.A (pyNext (.ref it)) (fun r s1 => ∃ u, r = some u ∧
      wpAny (model P w) X.A (letOwnedTupleGo tg (.ref it) u) (fun _ s2 => ∃ x H', Inv X pins σ H' s2 ∧ RelV x u ∧ J.yld i H x H' ∧ tn (i + 1) s2.heap ∧ ∀ b ∈ fp, H' b = none) E s1) E s
  done : ∀ (X : Cx), X.prog = P → X.w = w → X.K = K → X.calm = true → ∀ (i : Nat) (pins : List (Addr × Obj)) (s : Shared) (σ : St) (H : Hp) (E : Value → Shared → Prop), Inv X pins σ H s → (∀ b ∈ fp, FpOk X pins H b) → tn i s.heap → J.stop i H →
    wpAny (model P w) X.A (pyNext (.ref it)) (fun r s1 => r = none ∧ Inv X pins σ H s1) E s
  self : ∀ (A : Around) (i : Nat) (s : Shared) (Q : Value → Shared → Prop) (E : Value → Shared → Prop), tn i s.heap → Q (.ref it) s → wpAny (model P w) A (pyIter (.ref it)) Q E s
abbrev TI := St → Hp → (It → Hp → Prop) → Prop
def PIE (X : Cx) (pins : List (Addr × Obj)) (σ : St) (tg : Expr) (R : It → Hp → Prop) (itv : Value) (s2 : Shared) : Prop :=
  ∃ (it : Addr) (fp : List Addr) (tn : Nat → Heap → Prop) (J : It) (H' : Hp), itv = .ref it ∧ Inv X pins σ H' s2 ∧ Turn X.prog X.w X.K tg J fp it tn ∧ tn 0 s2.heap ∧ (∀ b ∈ fp, FpOk X pins H' b) ∧ R J H'
def PI (X : Cx) (tg iter : Expr) (wi : TI) : Prop :=
  ∀ (pins : List (Addr × Obj)) (s : Shared) (σ : St) (H : Hp) (R : It → Hp → Prop), Inv X pins σ H s → wi σ H R →
    wpAny (model X.prog X.w) X.A (eval iter X.env) (fun v s1 => wpAny (model X.prog X.w) X.A (pyIter v) (PIE X pins σ tg R) X.xe s1) X.xe s
theorem go_of {M : Model} {A : Around} {E : Value → Shared → Prop} {s : Shared} {tg : Expr} {it : Addr} {u : Value} {o : Obj} {n : String} {vs : Array Value} {Q : Unit → Shared → Prop} (ho : s.heap.get? it = some o) (hc : o.cls = .type n) (hd : o.data = .fields vs)
    (hn : ["enumerate", "zip", "dict_itemiterator", "dict_reverseitemiterator", "odict_iterator", "itertools.zip_longest", "itertools.pairwise"].contains n = false) (hQ : Q () s) : wpAny M A (letOwnedTupleGo tg (.ref it) u) Q E s := by
  unfold letOwnedTupleGo
  cases tg <;> first
    | exact wpAny_pure hQ
    | (cases u <;> first
        | exact wpAny_pure hQ
        | (refine wpAny_bind (wpAny_load ho ?_)
           rw [hc, hd]
           show wpAny M A (if (["enumerate", "zip", "dict_itemiterator", "dict_reverseitemiterator", "odict_iterator", "itertools.zip_longest", "itertools.pairwise"].contains n && vs[0]? == some (rawInt _)) = true then _ else _) Q E s
           rw [if_neg (by intro h; rw [hn, Bool.false_and] at h; cases h)]
           exact wpAny_pure hQ))
def Itl (K : PySem.W.Frag) (a : Addr) : It :=
  ⟨fun i H => ∃ xs x, SqL K H a xs ∧ xs[i]? = some x, fun i H x H' => H' = H ∧ ∀ xs, SqL K H a xs → xs[i]? = some x, fun i H => ∃ xs, SqL K H a xs ∧ xs.length ≤ i⟩
def Itr (lo : Int) (n : Nat) : It := ⟨fun i _ => i < n, fun i H x H' => H' = H ∧ x = .int (lo + i), fun i _ => n ≤ i⟩
theorem turn_list {P : Program} {w : World} {K : PySem.W.Frag} {tg : Expr} (a it : Addr) : Turn P w K tg (Itl K a) [it] it (fun i h => h.IsListIter it a i) where
  mem := by simp
  obj := fun i h st b hb => by
    have e : b = it := by simpa using hb
    subst e
    obtain ⟨o, e, c, d⟩ := st
    exact ⟨o, e, fun v z => by rw [d] at z; cases z⟩
  keep := fun i h h' st k => st.at fun o e => k it (by simp) o e
  item := by
    intro X hP hw hK hc i pins s σ H E I hf st hg
    subst hP hw hK
    obtain ⟨xs, x, hq, hx⟩ := hg
    obtain ⟨its, rv, p, hz⟩ := I.list hq
    obtain ⟨u, hu, ru⟩ := rv.get hx
    obtain ⟨f0, f1, f2, f3, f4, f5⟩ := hf it (by simp)
    refine wpAny_pyNext_list_item st p.isList (x := u) (by simpa using hu) fun h' st' sb => ?_
    have I1 : Inv X pins σ H { s with heap := h' } := I.turned (t' := s.toks) (fun b o hb e => (sb.2 b hb).trans e) f0 f1 f3 f4 f5
    obtain ⟨o, e, c, d⟩ := id st'
    exact ⟨u, rfl, go_of (s := { s with heap := h' }) e c d (by decide) ⟨x, H, I1, ru, ⟨rfl, fun ys hy => by rw [I.list_inj hy hq]; exact hx⟩, st', fun b hb => (hf b hb).1⟩⟩
  done := by
    intro X hP hw hK hc i pins s σ H E I hf st hg
    subst hP hw hK
    obtain ⟨xs, hq, hx⟩ := hg
    obtain ⟨its, rv, p, hz⟩ := I.list hq
    obtain ⟨f0, f1, f2, f3, f4, f5⟩ := hf it (by simp)
    have hl := rv.length
    exact wpAny_pyNext_list_end (I.ok.hd hc) st p.isList (by simp; omega) fun h' eb => ⟨rfl, I.turned (t' := s.toks) (fun b o hb e => eb b o hb e) f0 f1 f3 f4 f5⟩
  self := fun _ _ _ _ _ st h => wpAny_pyIter_listiter st h
theorem turn_range {P : Program} {w : World} {K : PySem.W.Frag} {tg : Expr} (it : Addr) (lo : Int) (n : Nat) : Turn P w K tg (Itr lo n) [it] it (fun i h => IsRangeIter h it (lo + (i : Nat) * 1) ((n : Int) - (i : Nat)) 1) where
  mem := by simp
  obj := fun i h st b hb => by
    have e : b = it := by simpa using hb
    subst e
    exact ⟨_, st, fun v z => by
      have z' : Data.fields _ = Data.cell v := z
      cases z'⟩
  keep := fun i h h' st k => k it (by simp) _ st
  item := by
    intro X hP hw hK hc i pins s σ H E I hf st hg
    subst hP hw hK
    obtain ⟨f0, f1, f2, f3, f4, f5⟩ := hf it (by simp)
    have W := Walks.range (prog := X.prog) (w := X.w) (I.ok.hd hc) it lo 1 n
    refine W.item i s _ _ hg st fun v h' tk hv st' kk => ?_
    obtain ⟨t, rfl⟩ := hv
    have I1 : Inv X pins σ H { s with heap := h', toks := tk } := I.turned (fun b o hb e => kk b o (by simpa using hb) e) f0 f1 f3 f4 f5
    refine ⟨_, rfl, go_of (s := { s with heap := h', toks := tk }) (n := "range_iterator") st' rfl rfl (by decide) ⟨.int (lo + i), H, I1, ⟨t, ?_⟩, ⟨rfl, rfl⟩, st', fun b hb => (hf b hb).1⟩⟩
    rw [Int.mul_one]
  done := by
    intro X hP hw hK hc i pins s σ H E I hf st hg
    subst hP hw hK
    obtain ⟨f0, f1, f2, f3, f4, f5⟩ := hf it (by simp)
    exact wpAny_pyNext_range_end (I.ok.hd hc) st (by have : n ≤ i := hg; omega) fun h' eb => ⟨rfl, I.turned (t' := s.toks) (fun b o hb e => eb b o hb e) f0 f1 f3 f4 f5⟩
  self := fun _ _ _ _ _ st h => wpAny_pyIter_rangeiter st h
end L2
namespace L2
open PySem PySem.Spec PyProof.Rows
section
variable {X : Cx} {tg : Expr}
def iList (K : PySem.W.Frag) (tl : TE) : TI := fun σ H R => tl σ H fun x H1 => ∃ a, x = .ref a ∧ (∃ xs, SqL K H1 a xs) ∧ R (Itl K a) H1
theorem pi_list {l : Expr} {tl : TE} (hl : PE X l tl) : PI X tg l (iList X.K tl) := by
  intro pins s σ H R I h
  refine thn (hl pins s σ H _ I h) fun v s1 ⟨x, H1, I1, r1, q1⟩ => ?_
  obtain ⟨a, e, ⟨xs, hq⟩, q⟩ := q1
  subst e
  cases r1
  obtain ⟨its, rv, p, hz⟩ := I1.list hq
  refine wpAny_pyIter_list p.isList ?_
  refine ⟨s1.heap.objs.size, [s1.heap.objs.size], _, _, H1, rfl, I1.kept (t' := s1.toks) fun b o e => Heap.get?_push_of_some _ e, turn_list a _, ⟨_, Heap.get?_push_size _ rfl, rfl, rfl⟩, fun b hb => ?_, q⟩
  have e : b = s1.heap.objs.size := by simpa using hb
  subst e
  exact I1.fpOk (Nat.le_refl _) (I1.hok.fresh (Nat.le_refl _))
theorem range_it {pins : List (Addr × Obj)} {σ : St} {H : Hp} {s : Shared} {R : It → Hp → Prop} {E : Value → Shared → Prop} {lo hi : Int} {t u v : Tok} {tk : Nat} (I : Inv X pins σ H s) (h1 : -(2 ^ 62) ≤ lo) (h2 : lo < 2 ^ 62) (h3 : -(2 ^ 62) ≤ hi) (h4 : hi < 2 ^ 62)
    (q : R (Itr lo (hi - lo).toNat) H) : wpAny (model X.prog X.w) X.A (pyIter (.ref s.heap.objs.size)) (PIE X pins σ tg R) E { s with heap := s.heap.push { cls := .type "range", data := .fields #[.int lo t, .int hi u, .int 1 v] }, toks := tk } := by
  refine wpAny_pyIter_range (IsRange.new ..) (small_one h1 h2 h3 h4) ?_
  have I1 : Inv X pins σ H { s with heap := s.heap.push { cls := .type "range", data := .fields #[.int lo t, .int hi u, .int 1 v] }, toks := tk } := I.kept fun b o e => Heap.get?_push_of_some _ e
  refine ⟨(s.heap.push { cls := .type "range", data := .fields #[.int lo t, .int hi u, .int 1 v] }).objs.size, [(s.heap.push { cls := .type "range", data := .fields #[.int lo t, .int hi u, .int 1 v] }).objs.size], _, _, H, rfl,
    I1.kept (t' := tk) fun b o e => Heap.get?_push_of_some _ e, turn_range _ lo (hi - lo).toNat, ?_, fun b hb => ?_, q⟩
  · have e1 : lo + ((0 : Nat) : Int) * 1 = lo := by simp
    have e2 : (((hi - lo).toNat : Nat) : Int) - ((0 : Nat) : Int) = Builtin.Range.rangeSize lo hi 1 := by rw [rangeSize_one]; split <;> omega
    show IsRangeIter _ _ (lo + ((0 : Nat) : Int) * 1) ((((hi - lo).toNat : Nat) : Int) - ((0 : Nat) : Int)) 1
    rw [e1, e2]
    exact Heap.get?_push_size _ rfl
  · have e : b = (s.heap.push { cls := .type "range", data := .fields #[.int lo t, .int hi u, .int 1 v] }).objs.size := by simpa using hb
    subst e
    exact I1.fpOk (Nat.le_refl _) (I1.hok.fresh (Nat.le_refl _))
def iRng1 (ta : TA) : TI := fun σ H R => ta σ H fun vs H1 => ∃ j : Int, vs = [.int j] ∧ -(2 ^ 62) ≤ j ∧ j < 2 ^ 62 ∧ R (Itr 0 j.toNat) H1
theorem pi_range1 {a : Expr} {ta : TA} {p pos : Pos} (hg : Gl X "range") (hm : X.mg "range" = none) (ha : PA X [a] ta) (hs : starEach [a] X.env = [(false, eval a X.env)] := by rfl) : PI X tg (.Call (.Name "range" p) [a] [] pos) (iRng1 ta) := by
  intro pins s σ H R I h
  refine Call_ (ld_blt I hg hm boot_range (PyProof.Rows.callWith_type1 (thn (ha pos pins s σ H _ I h) fun us s1 ⟨vs, H1, I1, r1, q1⟩ => ?_) hs rfl))
  obtain ⟨j, e, q1, q2, q⟩ := q1
  subst e
  cases r1 with
  | cons r rr =>
    cases rr
    obtain ⟨t, rfl⟩ := r
    exact call_range_1 (range_it I1 (by omega) (by omega) q1 q2 (by simpa using q))
def tFor (wi : TI) (g : TG) (tb : TS) : TS := fun D σ H => wi σ H fun J H1 => ∃ W : Nat → Nat → St → Hp → Prop, (∃ m, W 0 m σ H1) ∧ ∀ i m σ H, W i m σ H →
  (J.stop i H ∧ D.nx σ H) ∨ (J.go i H ∧ ∃ N : St → Hp → Prop, (∀ σ' H', N σ' H' → ∃ m', m' < m ∧ W (i + 1) m' σ' H') ∧ ∀ x H', J.yld i H x H' → g x σ H' fun σ2 H2 => tb { D with nx := N, ct := N, bk := D.nx } σ2 H2)
def pinsAt (fp : List Addr) (h : Heap) : List (Addr × Obj) := fp.filterMap fun b => (h.get? b).map fun o => (b, o)
theorem mem_pinsAt {fp : List Addr} {h : Heap} {b : Addr} {o : Obj} (hb : b ∈ fp) (e : h.get? b = some o) : (b, o) ∈ pinsAt fp h := List.mem_filterMap.mpr ⟨b, hb, by rw [e]; rfl⟩
theorem of_pinsAt {fp : List Addr} {h : Heap} {p : Addr × Obj} (hp : p ∈ pinsAt fp h) : p.1 ∈ fp ∧ h.get? p.1 = some p.2 := by
  obtain ⟨b, hb, e⟩ := List.mem_filterMap.mp hp
  cases q : h.get? b with
  | none => rw [q] at e; cases e
  | some o =>
    rw [q] at e
    have e' : (b, o) = p := Option.some.inj e
    subst e'
    exact ⟨hb, q⟩
theorem Inv.pinned {pins : List (Addr × Obj)} {σ : St} {H : Hp} {s : Shared} {fp : List Addr} (I : Inv X pins σ H s) (hf : ∀ b ∈ fp, FpOk X pins H b) (ho : ∀ b ∈ fp, ∃ o, s.heap.get? b = some o ∧ ∀ v, o.data ≠ .cell v) : Inv X (pins ++ pinsAt fp s.heap) σ H s :=
  I.pins_of fun p hp => (List.mem_append.mp hp).elim (fun z => I.pin p (List.mem_append_right _ z)) fun z => by
    obtain ⟨hb, e⟩ := of_pinsAt z
    obtain ⟨f0, f1, f2, _⟩ := hf p.1 hb
    obtain ⟨o, e', d⟩ := ho p.1 hb
    rw [e] at e'; cases e'
    exact ⟨e, f0, f1, f2, d⟩
theorem Inv.unpinned {pins pl : List (Addr × Obj)} {σ : St} {H : Hp} {s : Shared} (I : Inv X (pins ++ pl) σ H s) : Inv X pins σ H s := I.pins_of fun p hp => I.pin p (List.mem_append_right _ (List.mem_append_left _ hp))
theorem ps_for {iter : Expr} {body : List Stmt} {wi : TI} {g : TG} {tb : TS} {pos : Pos} (hp : PassesOwn (model X.prog X.w) X.A X.env X.xe) (hc : X.calm = true) (hi : PI X tg iter wi) (hg : PG X tg g) (hb : PSs X body tb)
    (hs : ∀ x, foldedSetIterable iter X.env x = pure x := by intro _; rfl) : PS X (.For tg iter body [] pos) (tFor wi g tb) := by
  intro pins s σ H D I h
  refine wpAny_For (thn (hi pins s σ H _ I h) fun v s1 h1 => thn h1 fun itv s2 h2 => ?_) hs
  obtain ⟨it, fp, tn, J, H2, e, I2, T, st2, f2, W, ⟨m0, w0⟩, turn⟩ := h2
  subst e
  have stat : ∀ {H' : Hp}, (∀ b ∈ fp, H' b = none) → ∀ b ∈ fp, FpOk X pins H' b := fun hn b hb => ⟨hn b hb, (f2 b hb).2⟩
  refine codeAny_forLoop_any (fun n s' => ∃ i σ' H', Inv X pins σ' H' s' ∧ tn i s'.heap ∧ (∀ b ∈ fp, H' b = none) ∧ W i n σ' H') ?_ m0 ⟨0, σ, H2, I2, st2, fun b hb => (f2 b hb).1, w0⟩
  rintro n s3 ⟨i, σ3, H3, I3, st3, fr3, w3⟩
  rcases turn i n σ3 H3 w3 with ⟨stop, qn⟩ | ⟨go, N, hN, step⟩
  · refine wpAny_passesOwn hp (thn (T.done X rfl rfl rfl hc i pins s3 σ3 H3 X.xe I3 (stat fr3) st3 stop) fun r s4 ⟨hr, I4⟩ => ?_)
    subst hr
    exact wpAny_execs_nil ⟨σ3, H3, I4, qn⟩
  · refine wpAny_passesOwn hp (thn (T.item X rfl rfl rfl hc i pins s3 σ3 H3 X.xe I3 (stat fr3) st3 go) fun r s4 ⟨u, hr, h4⟩ => ?_)
    subst hr
    refine wpAny_passesOwn hp (thn h4 fun _ s5 ⟨x, H5, I5, r5, y5, st5, fr5⟩ => ?_)
    have I5' := I5.pinned (stat fr5) (T.obj _ _ st5)
    refine wpAny_passesOwn hp (thn (hg _ s5 σ3 H5 x u _ I5' r5 (step x H5 y5)) fun _ s6 ⟨σ6, H6, I6, q6⟩ => ?_)
    refine wpAny_passesOwn hp (thn (hb _ s6 σ6 H6 _ I6 q6) fun f s7 q7 => ?_)
    have again : ∀ {σ7 : St} {H7 : Hp}, Inv X (pins ++ pinsAt fp s5.heap) σ7 H7 s7 → N σ7 H7 → ∃ m, m < n ∧ ∃ i σ' H', Inv X pins σ' H' s7 ∧ tn i s7.heap ∧ (∀ b ∈ fp, H' b = none) ∧ W i m σ' H' := fun {σ7 H7} I7 n7 => by
      obtain ⟨m', hm, w7⟩ := hN σ7 H7 n7
      refine ⟨m', hm, i + 1, σ7, H7, I7.unpinned, T.keep _ _ _ st5 fun b hb o e => (I7.pin (b, o) (List.mem_append_right _ (List.mem_append_right _ (mem_pinsAt hb e)))).1, fun b hb => ?_, w7⟩
      obtain ⟨o, e, d⟩ := T.obj _ _ st5 b hb
      exact (I7.pin (b, o) (List.mem_append_right _ (List.mem_append_right _ (mem_pinsAt hb e)))).2.1
    cases f with
    | next => obtain ⟨σ7, H7, I7, n7⟩ := q7; exact again I7 n7
    | cont => obtain ⟨σ7, H7, I7, n7⟩ := q7; exact again I7 n7
    | brk => obtain ⟨σ7, H7, I7, q7⟩ := q7; exact ⟨σ7, H7, I7.unpinned, q7⟩
    | ret v => obtain ⟨x7, σ7, H7, I7, r7, q7⟩ := q7; exact ⟨x7, σ7, H7, I7.unpinned, r7, q7⟩
end
theorem for_list {K : PySem.W.Frag} {a : Addr} {xs : List V} {g : TG} {tb : TS} {D : Ends} {σ : St} {H : Hp} (Pv : Nat → St → Hp → Prop) (h0 : Pv 0 σ H) (hl : ∀ i σ H, i ≤ xs.length → Pv i σ H → SqL K H a xs)
    (hs : ∀ i x σ H, xs[i]? = some x → Pv i σ H → g x σ H fun σ2 H2 => tb { D with nx := Pv (i + 1), ct := Pv (i + 1), bk := D.nx } σ2 H2) (hd : ∀ σ H, Pv xs.length σ H → D.nx σ H) :
    ∃ W : Nat → Nat → St → Hp → Prop, (∃ m, W 0 m σ H) ∧ ∀ i m σ H, W i m σ H →
      ((Itl K a).stop i H ∧ D.nx σ H) ∨ ((Itl K a).go i H ∧ ∃ N : St → Hp → Prop, (∀ σ' H', N σ' H' → ∃ m', m' < m ∧ W (i + 1) m' σ' H') ∧ ∀ x H', (Itl K a).yld i H x H' → g x σ H' fun σ2 H2 => tb { D with nx := N, ct := N, bk := D.nx } σ2 H2) := by
  refine ⟨fun i m σ H => m = xs.length - i ∧ i ≤ xs.length ∧ Pv i σ H, ⟨xs.length, by simp, Nat.zero_le _, h0⟩, ?_⟩
  rintro i m σ H ⟨rfl, hi, p⟩
  have q := hl i σ H hi p
  by_cases hlt : i < xs.length
  · refine .inr ⟨⟨xs, xs[i], q, by simp [hlt]⟩, Pv (i + 1), fun σ' H' p' => ⟨xs.length - (i + 1), by omega, rfl, hlt, p'⟩, fun x H' y => ?_⟩
    obtain ⟨e, y⟩ := y
    subst e
    exact hs i x σ _ (y xs q) p
  · have e : i = xs.length := by omega
    subst e
    exact .inl ⟨⟨xs, q, Nat.le_refl _⟩, hd σ H p⟩
theorem for_range {lo : Int} {n : Nat} {g : TG} {tb : TS} {D : Ends} {σ : St} {H : Hp} (Pv : Nat → St → Hp → Prop) (h0 : Pv 0 σ H)
    (hs : ∀ i σ H, i < n → Pv i σ H → g (.int (lo + i)) σ H fun σ2 H2 => tb { D with nx := Pv (i + 1), ct := Pv (i + 1), bk := D.nx } σ2 H2) (hd : ∀ σ H, Pv n σ H → D.nx σ H) :
    ∃ W : Nat → Nat → St → Hp → Prop, (∃ m, W 0 m σ H) ∧ ∀ i m σ H, W i m σ H →
      ((Itr lo n).stop i H ∧ D.nx σ H) ∨ ((Itr lo n).go i H ∧ ∃ N : St → Hp → Prop, (∀ σ' H', N σ' H' → ∃ m', m' < m ∧ W (i + 1) m' σ' H') ∧ ∀ x H', (Itr lo n).yld i H x H' → g x σ H' fun σ2 H2 => tb { D with nx := N, ct := N, bk := D.nx } σ2 H2) := by
  refine ⟨fun i m σ H => m = n - i ∧ i ≤ n ∧ Pv i σ H, ⟨n, by simp, Nat.zero_le _, h0⟩, ?_⟩
  rintro i m σ H ⟨rfl, hi, p⟩
  by_cases hlt : i < n
  · refine .inr ⟨hlt, Pv (i + 1), fun σ' H' p' => ⟨n - (i + 1), by omega, rfl, hlt, p'⟩, fun x H' y => ?_⟩
    obtain ⟨e, y⟩ := y
    subst e y
    exact hs i σ _ hlt p
  · have e : i = n := by omega
    subst e
    exact .inl ⟨Nat.le_refl _, hd σ H p⟩
end L2
namespace L2
open PySem PySem.Spec PyProof.Rows
abbrev R2 := V → V → Hp → VK → Prop
def OpR (X : Cx) (f : Value → Value → Sem Value) (r : R2) : Prop :=
  ∀ (pins : List (Addr × Obj)) (s : Shared) (σ : St) (H : Hp) (x y : V) (v u : Value) (Q : VK), Inv X pins σ H s → RelV x v → RelV y u → r x y H Q →
    wpAny (model X.prog X.w) X.A (f v u) (EP X pins σ Q) X.xe s
def UnR (X : Cx) (f : Value → Sem Value) (r : V → Hp → VK → Prop) : Prop :=
  ∀ (pins : List (Addr × Obj)) (s : Shared) (σ : St) (H : Hp) (x : V) (v : Value) (Q : VK), Inv X pins σ H s → RelV x v → r x H Q →
    wpAny (model X.prog X.w) X.A (f v) (EP X pins σ Q) X.xe s
def CallR (X : Cx) (f : Value) (r : List V → Hp → VK → Prop) : Prop :=
  ∀ (pins : List (Addr × Obj)) (s : Shared) (σ : St) (H : Hp) (xs : List V) (us : List Value) (Q : VK), Inv X pins σ H s → Vals xs us → r xs H Q →
    wpAny (model X.prog X.w) X.A (call f us) (EP X pins σ Q) X.xe s
def TruR (X : Cx) (r : V → Hp → (Bool → Hp → Prop) → Prop) : Prop :=
  ∀ (pins : List (Addr × Obj)) (s : Shared) (σ : St) (H : Hp) (x : V) (v : Value) (Q : Bool → Hp → Prop), Inv X pins σ H s → RelV x v → r x H Q →
    wpAny (model X.prog X.w) X.A (truthy v) (TP X pins σ Q) X.xe s
def tOp (r : R2) (ta tb : TE) : TE := fun σ H Q => ta σ H fun x H1 => tb σ H1 fun y H2 => r x y H2 Q
def tUn (r : V → Hp → VK → Prop) (ta : TE) : TE := fun σ H Q => ta σ H fun x H1 => r x H1 Q
def rI (C : Int → Int → Prop) (g : Int → Int → V) : R2 := fun x y H Q => ∃ i j, x = .int i ∧ y = .int j ∧ C i j ∧ Q (g i j) H
def rI0 (g : Int → Int → V) : R2 := fun x y H Q => ∃ i j, x = .int i ∧ y = .int j ∧ Q (g i j) H
def rU (g : Int → V) : V → Hp → VK → Prop := fun x H Q => ∃ i, x = .int i ∧ Q (g i) H
section
variable {X : Cx} {a b c : Expr} {ta tb tc : TE} {pos : Pos}
theorem binT (ha : PE X a ta) (hb : PE X b tb) {pins : List (Addr × Obj)} {s : Shared} {σ : St} {H : Hp} {R : V → V → Hp → Prop} (I : Inv X pins σ H s)
    (h : ta σ H fun x H1 => tb σ H1 fun y H2 => R x y H2) {Q : Value → Shared → Prop} {f : Value → Value → Sem Value}
    (hf : ∀ v u s2 x y H2, Inv X pins σ H2 s2 → RelV x v → RelV y u → R x y H2 → wpAny (model X.prog X.w) X.A (f v u) Q X.xe s2) :
    wpAny (model X.prog X.w) X.A (eval a X.env) (fun v s₁ => wpAny (model X.prog X.w) X.A (eval b X.env) (fun u s₂ => wpAny (model X.prog X.w) X.A (f v u) Q X.xe s₂) X.xe s₁) X.xe s := by
  refine thn (ha pins s σ H _ I h) fun v s1 ⟨x, H1, I1, r1, q1⟩ => ?_
  refine thn (hb pins s1 σ H1 _ I1 q1) fun u s2 ⟨y, H2, I2, r2, q2⟩ => ?_
  exact hf v u s2 x y H2 I2 r1 r2 q2
theorem pe_op {op : Operator} {r : R2} (ho : OpR X (binaryOp op) r) (ha : PE X a ta) (hb : PE X b tb) : PE X (.BinOp a op b pos) (tOp r ta tb) := by
  intro pins s σ H Q I h
  exact wpAny_BinOp (binT ha hb I h fun v u s2 x y H2 I2 rx ry q => ho pins s2 σ H2 x y v u Q I2 rx ry q)
theorem pe_un {op : UnaryOp} {r : V → Hp → VK → Prop} (ho : UnR X (unaryOp op) r) (ha : PE X a ta) : PE X (.UnaryOp op a pos) (tUn r ta) := by
  intro pins s σ H Q I h
  exact UnaryOp_ (thn (ha pins s σ H _ I h) fun v s1 ⟨x, H1, I1, r1, q1⟩ => ho pins s1 σ H1 x v Q I1 r1 q1)
theorem opI {f : Value → Value → Sem Value} {C : Int → Int → Prop} {g : Int → Int → Int}
    (rule : ∀ (i j : Int) (t u : Tok) (s : Shared) (Q : Value → Shared → Prop) (E : Value → Shared → Prop), C i j → Q (.int (g i j) s.toks) { s with toks := s.toks + 1 } → wpAny (model X.prog X.w) X.A (f (.int i t) (.int j u)) Q E s) :
    OpR X f (rI C fun i j => .int (g i j)) := by
  intro pins s σ H x y v u Q I rx ry h
  obtain ⟨i, j, rfl, rfl, hc, q⟩ := h
  obtain ⟨t, rfl⟩ := rx
  obtain ⟨t', rfl⟩ := ry
  exact rule i j t t' s _ _ hc ⟨.int (g i j), H, I.tok _, ⟨_, rfl⟩, q⟩
theorem opI0 {f : Value → Value → Sem Value} {g : Int → Int → Int}
    (rule : ∀ (i j : Int) (t u : Tok) (s : Shared) (Q : Value → Shared → Prop) (E : Value → Shared → Prop), Q (.int (g i j) s.toks) { s with toks := s.toks + 1 } → wpAny (model X.prog X.w) X.A (f (.int i t) (.int j u)) Q E s) :
    OpR X f (rI0 fun i j => .int (g i j)) := by
  intro pins s σ H x y v u Q I rx ry h
  obtain ⟨i, j, rfl, rfl, q⟩ := h
  obtain ⟨t, rfl⟩ := rx
  obtain ⟨t', rfl⟩ := ry
  exact rule i j t t' s _ _ ⟨.int (g i j), H, I.tok _, ⟨_, rfl⟩, q⟩
theorem opB0 {f : Value → Value → Sem Value} {g : Int → Int → Bool}
    (rule : ∀ (i j : Int) (t u : Tok) (s : Shared) (Q : Value → Shared → Prop) (E : Value → Shared → Prop), Q (.bool (g i j)) s → wpAny (model X.prog X.w) X.A (f (.int i t) (.int j u)) Q E s) :
    OpR X f (rI0 fun i j => .bl (g i j)) := by
  intro pins s σ H x y v u Q I rx ry h
  obtain ⟨i, j, rfl, rfl, q⟩ := h
  obtain ⟨t, rfl⟩ := rx
  obtain ⟨t', rfl⟩ := ry
  exact rule i j t t' s _ _ ⟨.bl (g i j), H, I, rfl, q⟩
def CDiv (i j : Int) : Prop := 0 < j ∧ j < 1073741824
def CMul (i j : Int) : Prop := (-(2 ^ 64) < i ∧ i < 2 ^ 64) ∨ (-(2 ^ 64) < j ∧ j < 2 ^ 64)
theorem CMul.ok {i j : Int} (h : CMul i j) : IntMulOk i j := by
  rcases h with ⟨h1, h2⟩ | ⟨h1, h2⟩
  · exact .of_left (intBits_le_64 h1 h2)
  · exact .of_right (intBits_le_64 h1 h2)
theorem op_add : OpR X (binaryOp .Add) (rI0 fun i j => .int (i + j)) := opI0 fun _ _ _ _ _ _ _ q => add_int q
theorem op_sub : OpR X (binaryOp .Sub) (rI0 fun i j => .int (i - j)) := opI0 fun _ _ _ _ _ _ _ q => sub_int q
theorem op_mul : OpR X (binaryOp .Mult) (rI CMul fun i j => .int (i * j)) := opI fun _ _ _ _ _ _ _ hc q => mul_int q hc.ok
theorem op_fdiv : OpR X (binaryOp .FloorDiv) (rI CDiv fun i j => .int (i / j)) := opI fun i j _ _ _ _ _ hc q => by
  have h1 : (0 : Int) < j := hc.1
  have h2 : j < 1073741824 := hc.2
  exact floordiv_int (by omega) (by rw [Int.fdiv_eq_ediv_of_nonneg i (by omega)]; exact q) (.inl (PyProof.noPylong_small (by omega)))
theorem op_mod : OpR X (binaryOp .Mod) (rI (fun _ j => 0 < j) fun i j => .int (i % j)) := opI fun i j _ _ _ _ _ hc q => by
  have h1 : (0 : Int) < j := hc
  exact mod_int' (by omega) (by rw [Int.fmod_eq_emod_of_nonneg i (by omega)]; exact q)
theorem unI {f : Value → Sem Value} {g : Int → Int}
    (rule : ∀ (i : Int) (t : Tok) (s : Shared) (Q : Value → Shared → Prop) (E : Value → Shared → Prop), Q (.int (g i) s.toks) { s with toks := s.toks + 1 } → wpAny (model X.prog X.w) X.A (f (.int i t)) Q E s) :
    UnR X f (rU fun i => .int (g i)) := by
  intro pins s σ H x v Q I rx h
  obtain ⟨i, rfl, q⟩ := h
  obtain ⟨t, rfl⟩ := rx
  exact rule i t s _ _ ⟨.int (g i), H, I.tok _, ⟨_, rfl⟩, q⟩
theorem un_neg : UnR X (unaryOp .USub) (rU fun i => .int (-i)) := unI fun _ _ _ _ _ q => neg_int q
end
def scal : V → V → Bool
  | .non, .non => true | .non, .int _ => true | .int _, .non => true | .non, .bl _ => true | .bl _, .non => true | .non, .str _ => true | .str _, .non => true
  | .int _, .int _ => true | .bl _, .bl _ => true | .str _, .str _ => true | .byt _, .byt _ => true
  | .int _, .str _ => true | .str _, .int _ => true | .bl _, .str _ => true | .str _, .bl _ => true
  | _, _ => false
def rEq : R2 := fun x y H Q => scal x y = true ∧ Q (.bl (decide (x = y))) H
def rNe : R2 := fun x y H Q => scal x y = true ∧ Q (.bl (!decide (x = y))) H
theorem dec_int {i j : Int} : decide (V.int i = V.int j) = (i == j) := by
  rw [Bool.eq_iff_iff]
  simp
theorem dec_bl {i j : Bool} : decide (V.bl i = V.bl j) = (i == j) := by
  rw [Bool.eq_iff_iff]
  simp
theorem dec_str {i j : Str} : decide (V.str i = V.str j) = (i == j) := by
  rw [Bool.eq_iff_iff]
  simp
theorem dec_byt {i j : Array UInt8} : decide (V.byt i = V.byt j) = (i.toList == j.toList) := by
  rw [Bool.eq_iff_iff]
  cases i
  cases j
  simp
section
variable {X : Cx} {a b c : Expr} {ta tb tc : TE} {pos : Pos}
theorem fin_bl {pins : List (Addr × Obj)} {σ : St} {H : Hp} {s : Shared} {Q : VK} {k k' : Bool} (I : Inv X pins σ H s) (q : Q (.bl k) H) (e : k = k') : EP X pins σ Q (.bool k') s := by
  subst e
  exact ⟨.bl k, H, I, rfl, q⟩
theorem op_eq : OpR X (compareOp .Eq) rEq := by
  intro pins s σ H x y v u Q I rx ry h
  obtain ⟨hs, q⟩ := h
  cases x with
  | non =>
    cases rx
    cases y with
    | non => cases ry; exact PySem.EqNone.eq_none_none (fin_bl I q (by simp))
    | bl j => cases ry; exact PySem.EqNone.eq_none_bool (fin_bl I q (by simp))
    | int j => obtain ⟨t', rfl⟩ := ry; exact PySem.EqNone.eq_none_int (fin_bl I q (by simp))
    | str j => obtain ⟨t', rfl⟩ := ry; exact PySem.EqNone.eq_none_str (fin_bl I q (by simp))
    | _ => exact absurd (show false = true from hs) Bool.false_ne_true
  | bl i =>
    cases rx
    cases y with
    | non => cases ry; exact PySem.EqNone.eq_bool_none (fin_bl I q (by simp))
    | bl j => cases ry; exact eq_bool (fin_bl I q dec_bl)
    | str j => obtain ⟨t', rfl⟩ := ry; exact PySem.EqMixed.eq_bool_str (fin_bl I q (by simp))
    | _ => exact absurd (show false = true from hs) Bool.false_ne_true
  | int i =>
    obtain ⟨t, rfl⟩ := rx
    cases y with
    | non => cases ry; exact PySem.EqNone.eq_int_none (fin_bl I q (by simp))
    | int j => obtain ⟨t', rfl⟩ := ry; exact eq_int (fin_bl I q dec_int)
    | str j => obtain ⟨t', rfl⟩ := ry; exact PySem.EqMixed.eq_int_str (fin_bl I q (by simp))
    | _ => exact absurd (show false = true from hs) Bool.false_ne_true
  | str i =>
    obtain ⟨t, rfl⟩ := rx
    cases y with
    | non => cases ry; exact PySem.EqNone.eq_str_none (fin_bl I q (by simp))
    | bl j => cases ry; exact PySem.EqMixed.eq_str_bool (fin_bl I q (by simp))
    | int j => obtain ⟨t', rfl⟩ := ry; exact PySem.EqMixed.eq_str_int (fin_bl I q (by simp))
    | str j => obtain ⟨t', rfl⟩ := ry; exact eq_str (fin_bl I q dec_str)
    | _ => exact absurd (show false = true from hs) Bool.false_ne_true
  | byt i =>
    obtain ⟨t, rfl⟩ := rx
    cases y with
    | byt j => obtain ⟨t', rfl⟩ := ry; exact PySem.W.eq_bytes (fin_bl I q dec_byt)
    | _ => exact absurd (show false = true from hs) Bool.false_ne_true
  | _ => cases y <;> exact absurd (show false = true from hs) Bool.false_ne_true
theorem op_ne : OpR X (compareOp .NotEq) rNe := by
  intro pins s σ H x y v u Q I rx ry h
  obtain ⟨hs, q⟩ := h
  cases x with
  | non =>
    cases rx
    cases y with
    | non => cases ry; exact PySem.EqNone.ne_none_none (fin_bl I q (by simp))
    | bl j => cases ry; exact PySem.EqNone.ne_none_bool (fin_bl I q (by simp))
    | int j => obtain ⟨t', rfl⟩ := ry; exact PySem.EqNone.ne_none_int (fin_bl I q (by simp))
    | str j => obtain ⟨t', rfl⟩ := ry; exact PySem.EqNone.ne_none_str (fin_bl I q (by simp))
    | _ => exact absurd (show false = true from hs) Bool.false_ne_true
  | bl i =>
    cases rx
    cases y with
    | non => cases ry; exact PySem.EqNone.ne_bool_none (fin_bl I q (by simp))
    | bl j => cases ry; exact ne_bool (fin_bl I q (congrArg not dec_bl))
    | str j => obtain ⟨t', rfl⟩ := ry; exact PySem.EqMixed.ne_bool_str (fin_bl I q (by simp))
    | _ => exact absurd (show false = true from hs) Bool.false_ne_true
  | int i =>
    obtain ⟨t, rfl⟩ := rx
    cases y with
    | non => cases ry; exact PySem.EqNone.ne_int_none (fin_bl I q (by simp))
    | int j => obtain ⟨t', rfl⟩ := ry; exact ne_int (fin_bl I q (congrArg not dec_int))
    | str j => obtain ⟨t', rfl⟩ := ry; exact PySem.EqMixed.ne_int_str (fin_bl I q (by simp))
    | _ => exact absurd (show false = true from hs) Bool.false_ne_true
  | str i =>
    obtain ⟨t, rfl⟩ := rx
    cases y with
    | non => cases ry; exact PySem.EqNone.ne_str_none (fin_bl I q (by simp))
    | bl j => cases ry; exact PySem.EqMixed.ne_str_bool (fin_bl I q (by simp))
    | int j => obtain ⟨t', rfl⟩ := ry; exact PySem.EqMixed.ne_str_int (fin_bl I q (by simp))
    | str j => obtain ⟨t', rfl⟩ := ry; exact ne_str (fin_bl I q (congrArg not dec_str))
    | _ => exact absurd (show false = true from hs) Bool.false_ne_true
  | byt i =>
    obtain ⟨t, rfl⟩ := rx
    cases y with
    | byt j => obtain ⟨t', rfl⟩ := ry; exact PySem.W.ne_bytes (fin_bl I q (congrArg not dec_byt))
    | _ => exact absurd (show false = true from hs) Bool.false_ne_true
  | _ => cases y <;> exact absurd (show false = true from hs) Bool.false_ne_true
theorem op_lt : OpR X (compareOp .Lt) (rI0 fun i j => .bl (decide (i < j))) := opB0 fun _ _ _ _ _ _ _ q => lt_int q
theorem op_le : OpR X (compareOp .LtE) (rI0 fun i j => .bl (decide (i ≤ j))) := opB0 fun _ _ _ _ _ _ _ q => le_int q
theorem op_gt : OpR X (compareOp .Gt) (rI0 fun i j => .bl (decide (j < i))) := opB0 fun _ _ _ _ _ _ _ q => gt_int q
theorem op_ge : OpR X (compareOp .GtE) (rI0 fun i j => .bl (decide (j ≤ i))) := opB0 fun _ _ _ _ _ _ _ q => ge_int q
theorem op_lt_str : OpR X (compareOp .Lt) (fun x y H Q => ∃ i j, x = .str i ∧ y = .str j ∧ Q (.bl (decide (i.cps.toList < j.cps.toList))) H) := by
  intro pins s σ H x y v u Q I rx ry h
  obtain ⟨i, j, rfl, rfl, q⟩ := h
  obtain ⟨t, rfl⟩ := rx
  obtain ⟨t', rfl⟩ := ry
  exact lt_str (fin_bl I q rfl)
theorem OpR.or {f : Value → Value → Sem Value} {r r' : R2} (h : OpR X f r) (h' : OpR X f r') : OpR X f (fun x y H Q => r x y H Q ∨ r' x y H Q) := by
  intro pins s σ H x y v u Q I rx ry q
  rcases q with q | q
  · exact h pins s σ H x y v u Q I rx ry q
  · exact h' pins s σ H x y v u Q I rx ry q
theorem nomark (b : Expr) {op : CmpOp} (h : op ≠ .In := by decide) (h2 : op ≠ .NotIn := by decide) : behindInMarks op b = false := by
  have e1 : (op == CmpOp.In) = false := by cases op <;> first | rfl | exact absurd rfl h
  have e2 : (op == CmpOp.NotIn) = false := by cases op <;> first | rfl | exact absurd rfl h2
  cases b <;> simp [behindInMarks, e1, e2]
theorem pe_cmpR {op : CmpOp} {r : R2} (ho : OpR X (compareOp op) r) (ha : PE X a ta) (hb : PE X b tb) (hm : behindInMarks op b = false) : PE X (.Compare a [op] [b] pos) (tOp r ta tb) := by
  intro pins s σ H Q I h
  exact wpAny_Compare1 (binT ha hb I h fun v u s2 x y H2 I2 rx ry q => ho pins s2 σ H2 x y v u Q I2 rx ry q) hm
def tTest (t : TE) : TT := fun σ H Q => t σ H fun x H' => ∃ k, x = .bl k ∧ Q k H'
theorem pt_cmpR {op : CmpOp} {r : R2} (ho : OpR X (compareOp op) r) (ha : PE X a ta) (hb : PE X b tb) (hm : behindInMarks op b = false) : PT X (.Compare a [op] [b] pos) (tTest (tOp r ta tb)) := by
  intro pins s σ H Q I h
  refine wpAny_isTrue_Compare1 (thn (ha pins s σ H _ I h) fun v s1 ⟨x, H1, I1, r1, q1⟩ => thn (hb pins s1 σ H1 _ I1 q1) fun u s2 ⟨y, H2, I2, r2, q2⟩ =>
    thn (ho pins s2 σ H2 x y v u _ I2 r1 r2 q2) fun c s3 ⟨z, H3, I3, r3, k, e, q3⟩ => ?_) hm
  subst e
  cases r3
  exact wpAny_truthy_bool ⟨H3, I3, q3⟩
def TruV (K : PySem.W.Frag) (x : V) (H : Hp) (k : Bool) : Prop :=
  match x with
  | .non => k = false
  | .bl b => k = b
  | .int i => k = (i != 0)
  | .str y => y.length ≤ sizeLine ∧ k = ((y.length : Int) != 0)
  | .byt y => y.size ≤ sizeLine ∧ k = ((y.size : Int) != 0)
  | .ref p => (∃ xs, SqL K H p xs ∧ k = !xs.isEmpty) ∨ (∃ xs, SqT K H p xs ∧ k = !xs.isEmpty) ∨ ∃ kvs, H p = some (.dK kvs) ∧ k = !kvs.isEmpty
  | _ => False
theorem isEmpty_kv {κ : Type} {kvs : List (κ × V)} {vs : List (κ × Value)} (r : KV kvs vs) : (!vs.isEmpty) = !kvs.isEmpty := by
  cases r <;> rfl
theorem isEmpty_of {xs : List V} {its : List Value} (r : Vals xs its) : (!its.toArray.isEmpty) = !xs.isEmpty := by
  cases r <;> simp
theorem line63 : (sizeLine : Nat) < 2 ^ 63 := by rw [sizeLine_eq]; decide
theorem tru_ok : TruR X (fun x H Q => ∃ k, TruV X.K x H k ∧ Q k H) := by
  intro pins s σ H x v Q I rx h
  obtain ⟨k, e, q⟩ := h
  have hl := line63
  have hs : sizeLine = 16777216 := sizeLine_eq
  cases x with
  | non =>
    cases rx
    have e' : k = false := e
    subst e'
    exact truthy_none ⟨H, I, q⟩
  | bl b =>
    cases rx
    have e' : k = b := e
    subst e'
    exact wpAny_truthy_bool ⟨H, I, q⟩
  | int i =>
    obtain ⟨t, rfl⟩ := rx
    have e' : k = (i != 0) := e
    subst e'
    exact PySem.P.truthy_int ⟨H, I, q⟩
  | str y =>
    obtain ⟨t, rfl⟩ := rx
    obtain ⟨hy, e'⟩ : y.length ≤ sizeLine ∧ k = ((y.length : Int) != 0) := e
    subst e'
    exact PySem.P.truthy_str (by omega) ⟨H, I.tok _, q⟩
  | byt y =>
    obtain ⟨t, rfl⟩ := rx
    obtain ⟨hy, e'⟩ : y.size ≤ sizeLine ∧ k = ((y.size : Int) != 0) := e
    subst e'
    exact PySem.W.truthy_bytes (by omega) ⟨H, I.tok _, q⟩
  | ref p =>
    cases rx
    have e' : (∃ xs, SqL X.K H p xs ∧ k = !xs.isEmpty) ∨ (∃ xs, SqT X.K H p xs ∧ k = !xs.isEmpty) ∨ ∃ kvs, H p = some (.dK kvs) ∧ k = !kvs.isEmpty := e
    rcases e' with ⟨xs, hx, e'⟩ | ⟨xs, hx, e'⟩ | ⟨kvs, hx, e'⟩
    · subst e'
      obtain ⟨its, r, pl, hz⟩ := I.list hx
      have hlen := r.length
      exact wpAny_truthy_list pl.isList (by simp only [List.size_toArray]; omega) ⟨H, I.tok _, by rw [isEmpty_of r]; exact q⟩
    · subst e'
      obtain ⟨its, r, pl, hz⟩ := I.tuple hx
      have hlen := r.length
      exact truthy_tuple pl (by simp only [List.size_toArray]; omega) ⟨H, I.tok _, by rw [isEmpty_of r]; exact q⟩
    · subst e'
      obtain ⟨hz, hS, vs, r, m⟩ : kvs.length ≤ sizeLine ∧ (p == sysModules) = false ∧ ∃ vs, KV kvs vs ∧ s.heap.DictOf (mixKind X.prog X.w) p vs := I.hok p _ hx
      have hlen : kvs.length = vs.length := Paired.length r
      exact wpAny_truthy_dict hS m (by omega) ⟨H, I.tok _, by rw [isEmpty_kv r]; exact q⟩
  | _ => exact (show False from e).elim
theorem pt_truth (ha : PE X a ta) (he : ∀ whole, isTrue a X.env whole = (do let v ← whole; standAt a.pos; holding [v] (truthy v))) :
    PT X a (fun σ H Q => ta σ H fun x H' => ∃ k, TruV X.K x H' k ∧ Q k H') := by
  intro pins s σ H Q I h
  exact isTrue_plain (thn (ha pins s σ H _ I h) fun v s1 ⟨x, H1, I1, r1, q1⟩ => tru_ok pins s1 σ H1 x v Q I1 r1 q1) (he _)
theorem op_add_str : OpR X (binaryOp .Add) (fun x y H Q => ∃ i j, x = .str i ∧ y = .str j ∧ i.length + j.length ≤ sizeLine ∧ Q (.str (i ++ j)) H) := by
  intro pins s σ H x y v u Q I rx ry h
  obtain ⟨i, j, rfl, rfl, hz, q⟩ := h
  obtain ⟨t, rfl⟩ := rx
  obtain ⟨t', rfl⟩ := ry
  exact add_str (fun t' tk => ⟨.str (i ++ j), H, I.tok _, ⟨_, rfl⟩, q⟩) hz
theorem vals1 {x : V} {us : List Value} (r : Vals [x] us) : ∃ u, us = [u] ∧ RelV x u := by
  cases r with
  | cons r1 r2 => cases r2; exact ⟨_, rfl, r1⟩
theorem vals2 {x y : V} {us : List Value} (r : Vals [x, y] us) : ∃ u w', us = [u, w'] ∧ RelV x u ∧ RelV y w' := by
  cases r with
  | cons r1 r2 =>
    cases r2 with
    | cons r3 r4 => cases r4; exact ⟨_, _, rfl, r1, r3⟩
theorem call_max2 (hc : X.calm = true) : CallR X (.builtin "max") (fun xs H Q => ∃ i j, xs = [.int i, .int j] ∧ Q (.int (if j > i then j else i)) H) := by
  intro pins s σ H xs us Q I r h
  obtain ⟨i, j, rfl, q⟩ := h
  obtain ⟨u, w', rfl, ⟨t, rfl⟩, ⟨t', rfl⟩⟩ := vals2 r
  refine max_two_ints (I.ok.hd hc) fun h' tk k => ⟨_, H, I.kept k, ?_, q⟩
  by_cases hj : j > i
  · rw [if_pos hj, if_pos hj]; exact ⟨_, rfl⟩
  · rw [if_neg hj, if_neg hj]; exact ⟨_, rfl⟩
theorem call_min2 (hc : X.calm = true) : CallR X (.builtin "min") (fun xs H Q => ∃ i j, xs = [.int i, .int j] ∧ Q (.int (if j < i then j else i)) H) := by
  intro pins s σ H xs us Q I r h
  obtain ⟨i, j, rfl, q⟩ := h
  obtain ⟨u, w', rfl, ⟨t, rfl⟩, ⟨t', rfl⟩⟩ := vals2 r
  refine min_two_ints (I.ok.hd hc) fun h' tk k => ⟨_, H, I.kept k, ?_, q⟩
  by_cases hj : j < i
  · rw [if_pos hj, if_pos hj]; exact ⟨_, rfl⟩
  · rw [if_neg hj, if_neg hj]; exact ⟨_, rfl⟩
theorem call_int1 : CallR X (.type "int") (fun xs H Q => (∃ i, xs = [.int i] ∧ Q (.int i) H) ∨ ∃ k, xs = [.bl k] ∧ Q (.int (if k then 1 else 0)) H) := by
  intro pins s σ H xs us Q I r h
  rcases h with ⟨i, rfl, q⟩ | ⟨k, rfl, q⟩
  · obtain ⟨u, rfl, t, rfl⟩ := vals1 r
    exact call_int_int ⟨.int i, H, I, ⟨_, rfl⟩, q⟩
  · obtain ⟨u, rfl, r1⟩ := vals1 r
    cases r1
    exact call_int_bool ⟨.int (if k then 1 else 0), H, I.tok _, ⟨_, rfl⟩, q⟩
def LenV (K : PySem.W.Frag) (x : V) (H : Hp) (n : Nat) : Prop :=
  match x with
  | .str y => y.length ≤ sizeLine ∧ n = y.length
  | .byt y => y.size ≤ sizeLine ∧ n = y.size
  | .ref p => (∃ xs, SqL K H p xs ∧ n = xs.length) ∨ ∃ xs, SqT K H p xs ∧ n = xs.length
  | _ => False
theorem call_len : CallR X (.builtin "len") (fun xs H Q => ∃ x n, xs = [x] ∧ LenV X.K x H n ∧ Q (.int n) H) := by
  intro pins s σ H xs us Q I r h
  obtain ⟨x, n, rfl, e, q⟩ := h
  obtain ⟨u, rfl, rx⟩ := vals1 r
  have hl := line63
  have hs : sizeLine = 16777216 := sizeLine_eq
  cases x with
  | str y =>
    obtain ⟨t, rfl⟩ := rx
    obtain ⟨hy, e'⟩ : y.length ≤ sizeLine ∧ n = y.length := e
    subst e'
    exact len_str (by omega) ⟨.int _, H, I.tok _, ⟨_, rfl⟩, q⟩
  | byt y =>
    obtain ⟨t, rfl⟩ := rx
    obtain ⟨hy, e'⟩ : y.size ≤ sizeLine ∧ n = y.size := e
    subst e'
    exact PySem.W.len_bytes (by omega) ⟨.int _, H, I.tok _, ⟨_, rfl⟩, q⟩
  | ref p =>
    cases rx
    have e' : (∃ xs, SqL X.K H p xs ∧ n = xs.length) ∨ ∃ xs, SqT X.K H p xs ∧ n = xs.length := e
    rcases e' with ⟨xs, hx, e'⟩ | ⟨xs, hx, e'⟩
    · subst e'
      obtain ⟨its, r', pl, hz⟩ := I.list hx
      have hlen := r'.length
      exact Calls.call_len_list pl.isList (by simp only [List.size_toArray]; omega) ⟨.int xs.length, H, I.tok _, ⟨_, by simp only [List.size_toArray]; rw [hlen]⟩, q⟩
    · subst e'
      obtain ⟨its, r', pl, hz⟩ := I.tuple hx
      have hlen := r'.length
      exact len_tuple pl (by simp only [List.size_toArray]; omega) ⟨.int xs.length, H, I.tok _, ⟨_, by simp only [List.size_toArray]; rw [hlen]⟩, q⟩
  | _ => exact (show False from e).elim
end
end L2
namespace L2
open PySem PySem.Spec PyProof.Rows
structure ObjM (h : Heap) (x dx C : Addr) (mA : Str → Option Value) : Prop where
  obj : h.get? x = some (PySem.W.instObj C dx)
  ns : h.Ns1 dx mA
  ne : dx ≠ x
theorem lookIn_ns {h : Heap} {dx : Addr} {mA : Str → Option Value} (n : h.Ns1 dx mA) : ∃ od, h.get? dx = some od ∧ ∀ name, PySem.W.lookIn name od = some (mA name) := by
  obtain ⟨o, es, ep, ho, hd, hk, _, hm⟩ := n
  refine ⟨o, ho, fun name => ?_⟩
  have e := hm name
  unfold nsFind findBy at e
  rw [← Array.find?_toList] at e
  unfold PySem.W.lookIn
  rw [hd]
  dsimp only
  split
  · rename_i y q
    rw [q] at e
    exact congrArg some e
  · rename_i q
    rw [q] at e
    have a : es.toList.any (·.refKey) = false := by
      rw [List.any_eq_false]
      intro y hy
      obtain ⟨z, t, hkey⟩ := hk y (Array.mem_toList_iff.mp hy)
      simp [DictEntry.refKey, hkey]
    have a' : ¬ es.toList.any (·.refKey) = true := by rw [a]; exact Bool.false_ne_true
    rw [if_neg a']
    exact congrArg some e
theorem ObjM.look {h : Heap} {x dx C : Addr} {mA : Str → Option Value} (I : ObjM h x dx C mA) : ∃ od, PySem.W.InstAt h x (PySem.W.instObj C dx) C (some od) ∧ ∀ name, PySem.W.lookIn name od = some (mA name) :=
  let ⟨od, ho, hl⟩ := lookIn_ns I.ns
  ⟨od, ⟨I.obj, rfl, rfl, ho⟩, hl⟩
section
variable {prog : Program} {w : World} {A : Around} {E : Value → Shared → Prop} {s : Shared} {K : PySem.W.Frag} {x dx C f : Addr} {mA : Str → Option Value} {name : Str} {v : Value}
theorem get_map {expr : Bool} {Q : Value → Shared → Prop} (X : K.In s.heap) (I : ObjM s.heap x dx C mA) (hg : PySem.W.plainGet K C name = true) (hh : PySem.W.hasDictIn K C = true)
    (ha : PySem.W.findIn K (.ref C) name = some none) (hv : mA name = some v) (hv' : PySem.W.handedIn v = true) (h : Q v { s with toks := s.toks + 1 }) :
    wpAny (model prog w) A (getAttr (.ref x) name expr) Q E s := by
  obtain ⟨od, J, hl⟩ := I.look
  exact PySem.W.get_value X J (PySem.W.plainGet_of hg).1 (PySem.W.findObj_own hh ha rfl (by rw [hl, hv])) hv' h
theorem get_meth {pl : Sem Bool} {Q : Value × List Value → Shared → Prop} (X : K.In s.heap) (I : ObjM s.heap x dx C mA) (hg : PySem.W.plainGet K C name = true)
    (hf : PySem.W.findIn K (.ref C) name = some (some (.ref f))) (ht : PySem.W.isFn K (.ref f) = true) (hv : mA name = none) (h : Q (.ref f, [.ref x]) s) :
    wpAny (model prog w) A (getMethod (.ref x) name pl) Q E s := by
  obtain ⟨od, J, hl⟩ := I.look
  exact PySem.W.method_fn X J (PySem.W.plainGet_of hg).1 (PySem.W.plainGet_of hg).2 hf (beq_iff_eq.mp ht) (by show (PySem.W.lookIn name od).map (·.isSome) = some false; rw [hl, hv]; rfl) h
theorem set_map {ns : List Str} {Q : Unit → Shared → Prop} (X : K.In s.heap) (I : ObjM s.heap x dx C mA)
    (hs : PySem.W.findIn K (.ref C) "__setattr__" = some (some (.builtin "object.__setattr__"))) (hp : PySem.W.plainOver K C = true) (ht : PySem.W.takerIn K C name = some none) (hh : PySem.W.hasDictIn K C = true)
    (hw : PySem.Within mA ns) (hsz : ns.length ≤ sizeLine)
    (h : ∀ h', ObjM h' x dx C (fun y => if y = name then some v else mA y) → Heap.SameBut dx s.heap h' → Q () { s with heap := h', toks := s.toks + 2 }) :
    wpAny (model prog w) A (setAttr (.ref x) name v) Q E s := by
  obtain ⟨od, J, hl⟩ := I.look
  refine PySem.W.set_plain X J hs (PySem.W.osa_open (s := { s with toks := s.toks + 1 }) (r := none) X J hp ht fun b => ?_)
  obtain ⟨cd, hc, hd'⟩ := PySem.W.any_some hh
  have hx : s.heap.get? x = some ⟨.ref C, some dx, .plain, #[]⟩ := I.obj
  refine wpAny_bind (wpAny_pure (wpAny_bind (wpAny_bind (wpAny_loadPart hx (wpAny_bind (PySem.W.Looks.here (s := { s with toks := s.toks + 1 }) (PySem.W.looks_clsIn X hc) ?_))))))
  rw [hd']
  refine wpAny_pure (a := some dx) (wpAny_bind (wpAny_pure (wpAny_bind ?_)))
  refine wpAny_nsSet1 (s := { s with toks := s.toks + 1 }) I.ns fun h' hn2 hs2 => ?_
  obtain ⟨oD, esD, epD, hoD, hdD, hcD⟩ := hn2.count (PySem.Within.cons name v hw)
  refine wpAny_bind (wpAny_lookBehind hoD (by rw [hdD]; exact pastItsLine_dict (Nat.le_trans hcD (by rw [List.length_cons]; omega))) ?_)
  exact wpAny_pure (h _ ⟨(hs2.2 _ (Ne.symm I.ne)).trans I.obj, hn2, I.ne⟩ hs2)
theorem make_map {R : Result → Shared → Prop} {vs : List Value} {kw : List (Str × Value)} (X : K.In s.heap) (hm : PySem.W.makesIn K C = true)
    (hi : PySem.W.findIn K (.ref C) "__init__" = some (some (.ref f))) (hf : PySem.W.typeIn K (.ref f) = some (.type "function"))
    (h : codeAny (model prog w) (A.under (.builtin "type.__call__" ⟨.ref C :: vs, kw⟩)) (.call (.ref f) ⟨.ref (s.heap.objs.size + 1) :: vs, kw⟩) (PySem.W.InitBack (s.heap.objs.size + 1) R)
      { s with heap := (s.heap.push PySem.W.emptyDict).push (PySem.W.instObj C s.heap.objs.size) }) :
    codeAny (model prog w) A (.call (.ref C) ⟨vs, kw⟩) R s := by
  obtain ⟨hh, g, d, t, os⟩ := s
  exact PySem.W.make_core (PySem.W.makes_of X hm) (PySem.W.looks_findIn X hi) (fun self => PySem.W.bind_fn X self hf) (.inl rfl) h
end
def putF (f : Str) (v : V) : List (Str × V) → List (Str × V)
  | [] => [(f, v)]
  | (g, x) :: r => if g = f then (g, v) :: r else (g, x) :: putF f v r
theorem lookup_putF (f g : Str) (v : V) : ∀ fs : List (Str × V), (putF f v fs).lookup g = if g = f then some v else fs.lookup g
  | [] => by
    show List.lookup g [(f, v)] = _
    by_cases h : g = f
    · have hb : (g == f) = true := beq_iff_eq.mpr h
      simp only [List.lookup, hb, if_pos h]
    · have hb : (g == f) = false := beq_eq_false_iff_ne.mpr h
      simp only [List.lookup, hb, if_neg h]
  | (k, x) :: r => by
    have ih := lookup_putF f g v r
    rw [show putF f v ((k, x) :: r) = (if k = f then (k, v) :: r else (k, x) :: putF f v r) from rfl]
    by_cases hk : k = f
    · rw [if_pos hk]
      by_cases h : g = k
      · have hb : (g == k) = true := beq_iff_eq.mpr h
        simp only [List.lookup, hb, if_pos (h.trans hk)]
      · have hb : (g == k) = false := beq_eq_false_iff_ne.mpr h
        simp only [List.lookup, hb, if_neg (fun e : g = f => h (e.trans hk.symm))]
    · rw [if_neg hk]
      by_cases h : g = k
      · have hb : (g == k) = true := beq_iff_eq.mpr h
        simp only [List.lookup, hb, if_neg (fun e : g = f => hk (h.symm.trans e))]
      · have hb : (g == k) = false := beq_eq_false_iff_ne.mpr h
        simp only [List.lookup, hb]
        exact ih
theorem keys_putF (f : Str) (v : V) : ∀ fs : List (Str × V), f ∈ (putF f v fs).map (·.1) ∧ ∀ g, g ∈ fs.map (·.1) → g ∈ (putF f v fs).map (·.1)
  | [] => ⟨by simp [putF], fun g h => by simp at h⟩
  | (k, x) :: r => by
    obtain ⟨i1, i2⟩ := keys_putF f v r
    rw [show putF f v ((k, x) :: r) = (if k = f then (k, v) :: r else (k, x) :: putF f v r) from rfl]
    by_cases hk : k = f
    · rw [if_pos hk]
      subst hk
      exact ⟨by simp, fun g h => by simpa using h⟩
    · rw [if_neg hk]
      refine ⟨?_, fun g h => ?_⟩
      · rw [List.map_cons]
        exact List.mem_cons_of_mem _ i1
      · rw [List.map_cons] at h ⊢
        rcases List.mem_cons.mp h with e | e
        · exact List.mem_cons.mpr (.inl e)
        · exact List.mem_cons_of_mem _ (i2 g e)
theorem length_putF (f : Str) (v : V) : ∀ fs : List (Str × V), (putF f v fs).length ≤ fs.length + 1
  | [] => by simp [putF]
  | (k, x) :: r => by
    have ih := length_putF f v r
    rw [show putF f v ((k, x) :: r) = (if k = f then (k, v) :: r else (k, x) :: putF f v r) from rfl]
    by_cases hk : k = f
    · rw [if_pos hk, List.length_cons, List.length_cons]; omega
    · rw [if_neg hk, List.length_cons, List.length_cons]; omega
theorem RelO.some_of {v : V} {o : Option Value} (r : RelO (some v) o) : ∃ u, o = some u ∧ RelV v u := by
  cases o with
  | none => exact (show False from r).elim
  | some u => exact ⟨u, rfl, r⟩
theorem RelO.none_of {o : Option Value} (r : RelO none o) : o = none := by
  cases o with
  | none => rfl
  | some u => exact (show False from r).elim
theorem handed_of {v : V} {u : Value} (r : RelV v u) : PySem.W.handedIn u = true := by
  cases v with
  | non => cases (show u = Value.none from r); rfl
  | bl b => cases (show u = Value.bool b from r); rfl
  | int i => obtain ⟨t, e⟩ := (show ∃ t, u = Value.int i t from r); cases e; rfl
  | str x => obtain ⟨t, e⟩ := (show ∃ t, u = Value.str x t from r); cases e; rfl
  | byt b => obtain ⟨t, e⟩ := (show ∃ t, u = Value.bytes b t from r); cases e; rfl
  | flt b => obtain ⟨t, e⟩ := (show ∃ t, u = Value.float b t from r); cases e; rfl
  | ref a => cases (show u = Value.ref a from r); rfl
  | ty n => cases (show u = Value.type n from r); rfl
section
variable {P : Program} {w : World} {H H' : Hp} {h h' : Heap} {a C dx : Addr} {fs fs' : List (Str × V)}
theorem ins_get (hok : HOk P w H h) (e : H a = some (.ins C dx fs)) : ∃ mA, ObjM h a dx C mA ∧ (∀ f, RelO (fs.lookup f) (mA f)) ∧ PySem.Within mA (fs.map (·.1)) ∧ fs.length ≤ 1000 ∧ H dx = some (.own a) := by
  obtain ⟨d, z, ne, ob, mA, n, r, q⟩ := (show ObjOk P w H h a (.ins C dx fs) from hok a _ e)
  exact ⟨mA, ⟨ob, n, ne⟩, r, q, z, d⟩
end
structure Cls (K : PySem.W.Frag) (C : Addr) : Prop where
  pg : PySem.W.plainGet K C Str.empty = true
  hd : PySem.W.hasDictIn K C = true
  po : PySem.W.plainOver K C = true
  sa : PySem.W.findIn K (.ref C) "__setattr__" = some (some (.builtin "object.__setattr__"))
theorem Cls.get {K : PySem.W.Frag} {C : Addr} (c : Cls K C) (f : Str) : PySem.W.plainGet K C f = true := c.pg
def NoAttr (K : PySem.W.Frag) (C : Addr) (f : Str) : Prop := PySem.W.findIn K (.ref C) f = some none
theorem NoAttr.taker {K : PySem.W.Frag} {C : Addr} {f : Str} (n : NoAttr K C f) : PySem.W.takerIn K C f = some none := by
  unfold PySem.W.takerIn
  rw [show PySem.W.findIn K (.ref C) f = some none from n]
  rfl
structure Meth (K : PySem.W.Frag) (C : Addr) (m : Str) (f : Addr) : Prop where
  at_ : PySem.W.findIn K (.ref C) m = some (some (.ref f))
  fn : PySem.W.isFn K (.ref f) = true
  kp : PySem.W.keepIn K (.ref f) = true
section
variable {X : Cx} {pins : List (Addr × Obj)} {σ : St} {H : Hp} {s : Shared} {a C dx : Addr} {fs : List (Str × V)} {f : Str} {v : V} {A : Around} {E : Value → Shared → Prop}
theorem getattr_ok {b : Bool} {Q : Value → Shared → Prop} (I : Inv X pins σ H s) (e : H a = some (.ins C dx fs)) (c : Cls X.K C) (n : NoAttr X.K C f) (l : fs.lookup f = some v)
    (h : ∀ u s', Inv X pins σ H s' → RelV v u → Q u s') : wpAny (model X.prog X.w) A (getAttr (.ref a) f b) Q E s := by
  obtain ⟨mA, O, r, _, _, _⟩ := ins_get I.hok e
  obtain ⟨u, hu, ru⟩ := RelO.some_of (v := v) (o := mA f) (by rw [← l]; exact r f)
  exact get_map I.kIn O (c.get f) c.hd n hu (handed_of ru) (h u _ (I.tok _) ru)
theorem getmeth_ok {m : Str} {g : Addr} {pl : Sem Bool} {Q : Value × List Value → Shared → Prop} (I : Inv X pins σ H s) (e : H a = some (.ins C dx fs)) (c : Cls X.K C) (k : Meth X.K C m g) (l : fs.lookup m = none)
    (h : Q (.ref g, [.ref a]) s) : wpAny (model X.prog X.w) A (getMethod (.ref a) m pl) Q E s := by
  obtain ⟨mA, O, r, _, _, _⟩ := ins_get I.hok e
  have hn : mA m = none := RelO.none_of (by rw [← l]; exact r m)
  exact get_meth I.kIn O (c.get m) k.at_ k.fn hn h
theorem setattr_ok {y : V} {u : Value} {Q : Unit → Shared → Prop} (I : Inv X pins σ H s) (e : H a = some (.ins C dx fs)) (c : Cls X.K C) (n : NoAttr X.K C f) (hl : fs.length < 1000) (ry : RelV y u)
    (h : ∀ s', Inv X pins σ (upd H a (.ins C dx (putF f y fs))) s' → Q () s') : wpAny (model X.prog X.w) A (setAttr (.ref a) f u) Q E s := by
  obtain ⟨mA, O, r, wi, _, ho⟩ := ins_get I.hok e
  have hz : (fs.map (·.1)).length ≤ sizeLine := by rw [List.length_map, sizeLine_eq]; omega
  refine set_map I.kIn O c.sa c.po n.taker c.hd wi hz fun h' O' sb => h _ ?_
  have hd : ∃ o, h'.get? dx = some o := let ⟨o, _, _, e', _⟩ := O'.ns; ⟨o, e'⟩
  refine I.write (x := a) (e := dx) (by rw [e]; exact True.intro) (.inr ho) (fun b q hb z => (sb.2 b hb).trans z) hd ?_
  refine ⟨by rw [upd_ne O.ne]; exact ho, ?_, O.ne, O'.obj, _, O'.ns, fun g => ?_, fun g hg => ?_⟩
  · have := length_putF f y fs; omega
  · show RelO ((putF f y fs).lookup g) (if g = f then some u else mA g)
    rw [lookup_putF]
    by_cases q : g = f
    · rw [if_pos q, if_pos q]; exact ry
    · rw [if_neg q, if_neg q]; exact r g
  · by_cases q : g = f
    · rw [q]; exact (keys_putF f y fs).1
    · refine (keys_putF f y fs).2 g (wi g fun z => hg ?_)
      show (if g = f then some u else mA g) = none
      rw [if_neg q]; exact z
theorem Inv.made (I : Inv X pins σ H s) : Inv X pins σ (upd (upd H s.heap.objs.size (.own (s.heap.objs.size + 1))) (s.heap.objs.size + 1) (.ins C s.heap.objs.size []))
    { s with heap := (s.heap.push PySem.W.emptyDict).push (PySem.W.instObj C s.heap.objs.size) } := by
  have e1 : (s.heap.push PySem.W.emptyDict).get? s.heap.objs.size = some PySem.W.emptyDict := Heap.get?_push_size s.heap rfl
  have e2 : ((s.heap.push PySem.W.emptyDict).push (PySem.W.instObj C s.heap.objs.size)).get? (s.heap.objs.size + 1) = some (PySem.W.instObj C s.heap.objs.size) := by
    have := Heap.get?_push_size (s.heap.push PySem.W.emptyDict) (o := PySem.W.instObj C s.heap.objs.size) rfl
    rwa [Heap.size_push] at this
  have e3 : (s.heap.push PySem.W.emptyDict).Ns s.heap.objs.size (fun _ => none) := ⟨PySem.W.emptyDict, #[], _, e1, rfl, (fun e he => absurd he (by simp)), fun _ => rfl⟩
  have I1 := I.laid (a := s.heap.objs.size) (o := .own (s.heap.objs.size + 1)) (h' := s.heap.push PySem.W.emptyDict) (t' := s.toks) (fun b u q => Heap.get?_push_of_some _ q) (Nat.le_refl _) ⟨_, e1⟩
  refine I1.laid (a := s.heap.objs.size + 1) (o := .ins C s.heap.objs.size []) (t' := s.toks) (fun b u q => Heap.get?_push_of_some _ q) (Nat.le_of_eq (Heap.size_push _ _)) ?_
  have ne : s.heap.objs.size ≠ s.heap.objs.size + 1 := Nat.ne_of_lt (Nat.lt_succ_self _)
  refine ⟨by rw [upd_ne ne, upd_same], Nat.zero_le _, ne, e2, fun _ => none, (Heap.Ns1.of_empty e3).at fun o q => Heap.get?_push_of_some _ q, fun _ => True.intro, fun y hy => absurd rfl hy⟩
theorem attr_of {prog : Program} {w : World} {env : Env} {e : Expr} {f : Str} {pos : Pos} {s : Shared} {Q : Value → Shared → Prop} (hb : attributeBase e f env (eval e env) = eval e env)
    (h : wpAny (model prog w) A (eval e env) (fun o s₁ => wpAny (model prog w) A (getAttr o f true) Q E s₁) E s) : wpAny (model prog w) A (eval (.Attribute e f pos) env) Q E s :=
  Attribute_any_ h (by rw [arm_eval_Attribute, hb])
end
def tFld (K : PySem.W.Frag) (ta : TE) (f : Str) : TE := fun σ H Q => ta σ H fun x H1 => ∃ a C dx fs v, x = .ref a ∧ H1 a = some (.ins C dx fs) ∧ Cls K C ∧ NoAttr K C f ∧ fs.lookup f = some v ∧ Q v H1
def sFld (K : PySem.W.Frag) (ta tv : TE) (f : Str) : TS := fun D σ H => tv σ H fun y H1 => ta σ H1 fun x H2 => ∃ a C dx fs, x = .ref a ∧ H2 a = some (.ins C dx fs) ∧ Cls K C ∧ NoAttr K C f ∧ fs.length < 1000 ∧
  D.nx σ (upd H2 a (.ins C dx (putF f y fs)))
section
variable {X : Cx} {o e value : Expr} {f : Str} {pos pos' tpos : Pos} {ta tv : TE}
theorem pe_fld (he : PE X e ta) (hb : attributeBase e f X.env (eval e X.env) = eval e X.env) : PE X (.Attribute e f pos) (tFld X.K ta f) := by
  intro pins s σ H Q I h
  refine attr_of hb (thn (he pins s σ H _ I h) fun u s1 ⟨x, H1, I1, rx, a, C, dx, fs, v, ex, ea, c, n, l, q⟩ => ?_)
  subst ex
  obtain rfl : u = Value.ref a := rx
  exact getattr_ok I1 ea c n l fun u' s2 I2 ru => ⟨v, H1, I2, ru, q⟩
theorem ps_fld (ha : PE X o ta) (hv : PE X value tv) (hs : swapsWith value (some (.Attribute o f pos')) pos.line X.env = pure false) : PS X (.Assign [.Attribute o f pos'] value pos) (sFld X.K ta tv f) := by
  intro pins s σ H D I h
  refine plainObj_wpAny_Assign_Attribute (thn (hv pins s σ H _ I h) fun u s1 ⟨y, H1, I1, ry, q⟩ => thn (ha pins s1 σ H1 _ I1 q) fun ov s2 ⟨x, H2, I2, rx, a, C, dx, fs, ex, ea, c, n, l, q2⟩ => ?_) hs
  subst ex
  obtain rfl : ov = Value.ref a := rx
  exact setattr_ok I2 ea c n l ry fun s3 I3 => ⟨σ, _, I3, q2⟩
theorem methcall_of {pl : Sem Bool} {m : Str} {apos : Pos} {args : List Expr} {pins : List (Addr × Obj)} {s : Shared} {σ : St} {H : Hp} {Q : Value → Shared → Prop} {te : TE} (he : PE X e te) (I : Inv X pins σ H s)
    (h : te σ H fun x H1 => ∃ a C dx fs g, x = .ref a ∧ H1 a = some (.ins C dx fs) ∧ Cls X.K C ∧ Meth X.K C m g ∧ fs.lookup m = none ∧
      ∀ s1, Inv X pins σ H1 s1 → wpAny (model X.prog X.w) X.A (callWith pos (.ref g) [.ref a] (backTo pos (starEach args X.env)) (backToKw pos (keywordEach [] X.env))) Q X.xe s1)
    (ht : eval (.Call (.Attribute e m apos) args [] pos) X.env = (do
      let ov ← eval e X.env
      standAt apos.atName
      let (f, first) ← holding [ov] (getMethod ov m pl)
      callWith pos f first (backTo pos (starEach args X.env)) (backToKw pos (keywordEach [] X.env)))) :
    wpAny (model X.prog X.w) X.A (eval (.Call (.Attribute e m apos) args [] pos) X.env) Q X.xe s := by
  refine PySem.W.methodCall_KW (pl := pl) (thn (he pins s σ H _ I h) fun u s1 ⟨x, H1, I1, rx, a, C, dx, fs, g, ex, ea, c, k, l, q⟩ => ?_) ht
  subst ex
  obtain rfl : u = Value.ref a := rx
  exact getmeth_ok I1 ea c k l (q s1 I1)
end
section
variable {X : Cx} {pins : List (Addr × Obj)} {σ : St} {H : Hp} {s : Shared} {A : Around} {E : Value → Shared → Prop} {Q : Value → Shared → Prop} {c : Value} {b : Bool}
inductive TyOf (K : PySem.W.Frag) (H : Hp) : V → Value → Prop where
  | non : TyOf K H .non (.type "NoneType")
  | bl (x : Bool) : TyOf K H (.bl x) (.type "bool")
  | int (i : Int) : TyOf K H (.int i) (.type "int")
  | str (x : Str) : TyOf K H (.str x) (.type "str")
  | flt (x : UInt64) : TyOf K H (.flt x) (.type "float")
  | lst {a : Addr} {xs : List V} (e : H a = some (.lst xs)) : TyOf K H (.ref a) (.type "list")
  | frz {a : Addr} {o : Obj} {xs : List V} (e : H a = some (.frz o (.lst xs))) : TyOf K H (.ref a) (.type "list")
  | tup {a : Addr} {xs : List V} (e : H a = some (.tup xs)) : TyOf K H (.ref a) (.type "tuple")
  | dK {a : Addr} {kvs : List (Key × V)} (e : H a = some (.dK kvs)) : TyOf K H (.ref a) (.type "dict")
  | dT {a : Addr} {kvs : List (List Key × V)} (e : H a = some (.dT kvs)) : TyOf K H (.ref a) (.type "dict")
  | ins {a C dx : Addr} {fs : List (Str × V)} (e : H a = some (.ins C dx fs)) (cl : Cls K C) (ha : PySem.W.findIn K (.ref C) "__class__" = some (some (.builtin "object.__class__")))
      (hn : PySem.W.specialIn K (.builtin "object.__class__") "__get__" = some (some (.builtin "getset_descriptor.__get__"))) (htk : PySem.W.takesIn K (.builtin "object.__class__") = some true)
      (hm : PySem.W.mroIn K C (.type "object") = some true) : TyOf K H (.ref a) (.ref C)
theorem isinst_ok {x : V} {u t : Value} (I : Inv X pins σ H s) (rx : RelV x u) (ty : TyOf X.K H x t) (e : PySem.W.kitOne X.K t c = some b) (h : ∀ tk, Q (.bool b) { s with toks := tk }) :
    wpAny (model X.prog X.w) A (call (.builtin "isinstance") [u, c]) Q E s := by
  cases ty with
  | non => cases (show u = Value.none from rx); exact PySem.W.kia_one PySem.W.kitx_none I.kIn True.intro e (fun z => nomatch z) h
  | bl y => cases (show u = Value.bool y from rx); exact PySem.W.kia_one PySem.W.kitx_bool I.kIn True.intro e (fun z => nomatch z) h
  | int i => obtain ⟨t, q⟩ := (show ∃ t, u = Value.int i t from rx); cases q; exact PySem.W.kia_one PySem.W.kitx_int I.kIn True.intro e (fun z => nomatch z) h
  | str y => obtain ⟨t, q⟩ := (show ∃ t, u = Value.str y t from rx); cases q; exact PySem.W.kia_one PySem.W.kitx_str I.kIn True.intro e (fun z => nomatch z) h
  | flt y => obtain ⟨t, q⟩ := (show ∃ t, u = Value.float y t from rx); cases q; exact PySem.W.kia_one PySem.W.kitx_float I.kIn True.intro e (fun z => nomatch z) h
  | @lst a xs ea =>
    cases (show u = Value.ref a from rx)
    obtain ⟨_, _, n, _, h1⟩ := (show ObjOk X.prog X.w H s.heap a (.lst xs) from I.hok a _ ea)
    exact PySem.W.kia_one PySem.W.kitx_list I.kIn ⟨_, h1, rfl⟩ e (fun z => nomatch z) h
  | @frz a ob xs ea =>
    cases (show u = Value.ref a from rx)
    obtain ⟨_, _, _, n, _, h1⟩ := (show ObjOk X.prog X.w H s.heap a (.frz ob (.lst xs)) from I.hok a _ ea)
    exact PySem.W.kia_one PySem.W.kitx_list I.kIn ⟨_, h1, rfl⟩ e (fun z => nomatch z) h
  | @tup a xs ea =>
    cases (show u = Value.ref a from rx)
    obtain ⟨_, _, _, p⟩ := (show ObjOk X.prog X.w H s.heap a (.tup xs) from I.hok a _ ea)
    obtain ⟨o, h1, h2, _⟩ := p
    exact PySem.W.kia_one PySem.W.kitx_tuple I.kIn ⟨o, h1, h2⟩ e (fun z => nomatch z) h
  | @dK a kvs ea =>
    cases (show u = Value.ref a from rx)
    obtain ⟨_, _, vs, _, p⟩ := (show ObjOk X.prog X.w H s.heap a (.dK kvs) from I.hok a _ ea)
    obtain ⟨o, es, ep, h1, h2, _⟩ := p
    exact PySem.W.kia_one PySem.W.kitx_dict I.kIn ⟨o, h1, h2.1⟩ e (fun z => nomatch z) h
  | @dT a kvs ea =>
    cases (show u = Value.ref a from rx)
    obtain ⟨_, _, xs, _, o, es, ep, h1, h2, _⟩ := (show ObjOk X.prog X.w H s.heap a (.dT kvs) from I.hok a _ ea)
    exact PySem.W.kia_one PySem.W.kitx_dict I.kIn ⟨o, h1, h2.1⟩ e (fun z => nomatch z) h
  | @ins a C dx fs ea cl ha hn htk hm =>
    cases (show u = Value.ref a from rx)
    obtain ⟨mA, O, _⟩ := ins_get I.hok ea
    obtain ⟨od, J, _⟩ := O.look
    exact PySem.W.kia_one (PySem.W.kitx_own (cl.get _) cl.hd ha hn htk hm) I.kIn J e (fun z => nomatch z) h
end
end L2
namespace L2
open PySem PySem.Spec PyProof.Rows
structure Room (k : Nat) (A : Around) : Prop where
  hd : A.handled = none
  dp : A.depth + 3 * k + 5 < recursionLimit
  un : A.units + 16 * k + 200 < cLine
theorem Room.mono {j k : Nat} {A : Around} (r : Room k A) (h : j ≤ k) : Room j A := ⟨r.hd, by have := r.dp; omega, by have := r.un; omega⟩
theorem Room.deeper {k : Nat} {A : Around} (r : Room (k + 1) A) (env : Env) : Room k (A.deeper env) :=
  ⟨r.hd, by have := r.dp; show A.depth + 1 + 3 * k + 5 < _; omega, by have := r.un; show A.units + 3 + 16 * k + 200 < _; omega⟩
theorem Room.in1 {k : Nat} {A : Around} (r : Room (k + 1) A) : Room k A.in1 :=
  ⟨r.hd, by have := r.dp; show A.depth + 3 * k + 5 < _; omega, by have := r.un; show A.units + 1 + 16 * k + 200 < _; omega⟩
theorem make_depth {A : Around} {C : Addr} {us : List Value} {kw : List (Str × Value)} : (A.under (.builtin "type.__call__" ⟨.ref C :: us, kw⟩)).depth = A.depth + 1 := by
  first | rfl | simp [Around.under, Code.weight, Code.isCreation, Code.isGuard, Code.isCaller, Code.frames, Code.isFrame, guardIds]
theorem make_units {A : Around} {C : Addr} {us : List Value} {kw : List (Str × Value)} : (A.under (.builtin "type.__call__" ⟨.ref C :: us, kw⟩)).units = A.units + 1 := by
  first | rfl | simp [Around.under, Code.cUnits, Code.frames, Code.isFrame]
theorem Room.make {k : Nat} {A : Around} (r : Room (k + 1) A) (C : Addr) (us : List Value) (kw : List (Str × Value)) : Room k (A.under (.builtin "type.__call__" ⟨.ref C :: us, kw⟩)) :=
  ⟨r.hd, by have := r.dp; rw [make_depth]; omega, by have := r.un; rw [make_units]; omega⟩
theorem Room.depth {k : Nat} {A : Around} (r : Room k A) : A.depth < recursionLimit := by have := r.dp; omega
theorem Room.units {k : Nat} {A : Around} (r : Room k A) : A.units + 64 < cLine := by have := r.un; omega
theorem Room.units0 {k : Nat} {A : Around} (r : Room k A) : A.units < cLine := by have := r.un; omega
def tNil : TA := fun _ H Q => Q [] H
def tCons (ta : TE) (tr : TA) : TA := fun σ H Q => ta σ H fun x H1 => tr σ H1 fun xs H2 => Q (x :: xs) H2
section
variable {X : Cx} {e : Expr} {es : List Expr} {te : TE} {t : TA} {pos : Pos}
theorem pa_nil : PA X [] tNil := fun _ _ _ _ H Q I h => Calls.spliced_nil ⟨[], H, I, .nil, h⟩
theorem pa_cons (ha : PE X e te) (hr : PA X es t) (hs : starEach (e :: es) X.env = (false, eval e X.env) :: starEach es X.env := by rfl) : PA X (e :: es) (tCons te t) := by
  intro pos pins s σ H Q I h
  rw [hs]
  show wpAny _ _ (spliced ((false, eval e X.env) :: backTo pos (starEach es X.env))) _ _ s
  refine Calls.spliced_cons (thn (ha pins s σ H _ I h) fun u s1 ⟨x, H1, I1, r1, q1⟩ => ?_)
  exact thn (hr pos pins s1 σ H1 _ I1 q1) fun us s2 ⟨xs, H2, I2, r2, q2⟩ => ⟨x :: xs, H2, I2, .cons r1 r2, q2⟩
def tTup (t : TA) : TE := fun σ H Q => t σ H fun xs H1 => xs.length ≤ sizeLine ∧ ∀ p, H1 p = none → Q (.ref p) (upd H1 p (.tup xs))
def tLst (t : TA) : TE := fun σ H Q => t σ H fun xs H1 => xs.length ≤ sizeLine ∧ ∀ p, H1 p = none → Q (.ref p) (upd H1 p (.lst xs))
theorem pe_tup {x1} (h : PA X es t) : PE X (.Tuple es x1 pos) (tTup t) := by
  intro pins s σ H Q I hq
  refine wpAny_Tuple_spliced (thn (h pos pins s σ H _ I hq) fun us s1 ⟨xs, H1, I1, r, z, q⟩ => ⟨by rw [← r.length]; exact z, ?_⟩)
  have hf : H1 s1.heap.objs.size = none := I1.hok.fresh (Nat.le_refl _)
  refine ⟨.ref s1.heap.objs.size, upd H1 s1.heap.objs.size (.tup xs), I1.laid (t' := s1.toks) (fun b u e => Heap.get?_push_of_some _ e) (Nat.le_refl _) ?_, rfl, q _ hf⟩
  exact ⟨z, us, r, ⟨_, Heap.get?_push_size _ rfl, rfl, _, rfl⟩⟩
theorem pe_lst (h : PA X es t) : PE X (.List es pos) (tLst t) := by
  intro pins s σ H Q I hq
  refine wpAny_List_spliced (thn (h pos pins s σ H _ I hq) fun us s1 ⟨xs, H1, I1, r, z, q⟩ => ⟨by rw [← r.length]; exact z, ?_⟩)
  have hf : H1 s1.heap.objs.size = none := I1.hok.fresh (Nat.le_refl _)
  refine ⟨.ref s1.heap.objs.size, upd H1 s1.heap.objs.size (.lst xs), I1.laid (t' := s1.toks) (fun b u e => Heap.get?_push_of_some _ e) (Nat.le_refl _) ?_, rfl, q _ hf⟩
  exact ⟨z, us, 0, r, Heap.get?_push_size _ rfl⟩
end
abbrev Sp := List V → Hp → VK → XK → Prop
abbrev CXT := List Env → Hp → Shared → XK → Value → Shared → Prop
structure Env0 (P : Program) (w : World) (K : PySem.W.Frag) (mg : Str → Option Value) (base : Heap) (A : Around) (outer : List Env) (s : Shared) (H : Hp) : Prop where
  frames : A.frames = some outer
  mod : Mod K mg base
  bs : ∀ b o, base.get? b = some o → s.heap.get? b = some o ∧ H b = none
  bsz : base.objs.size ≤ s.heap.objs.size
  funs : s.heap.FunFrames base outer
  frf : ∀ b ∈ frs outer, H b = none
  hok : HOk P w H s.heap
  bare : AllBare s.gens
def CE (outer : List Env) (P : Program) (w : World) (H : Hp) (s : Shared) (Q : VK) (u : Value) (s' : Shared) : Prop :=
  ∃ v H', s'.os = s.os ∧ AllBare s'.gens ∧ Un (frs outer) [] H H' s.heap s'.heap ∧ HOk P w H' s'.heap ∧ RelV v u ∧ Q v H'
def CR (CX : CXT) (outer : List Env) (P : Program) (w : World) (H : Hp) (s : Shared) (Q : VK) (E : XK) (r : Result) (s' : Shared) : Prop :=
  match r with
  | .ok (.ret u) => CE outer P w H s Q u s'
  | .ok _ => False
  | .error e => CX outer H s E e s'
structure FnOk (P : Program) (w : World) (K : PySem.W.Frag) (mg : Str → Option Value) (base : Heap) (CX : CXT) (k : Nat) (f : Addr) (fd : FuncData) (ps : List Str) (sp : Sp) : Prop where
  len : ∀ vs H Q E, sp vs H Q E → vs.length = ps.length
  run : ∀ (A : Around) (outer : List Env) (s : Shared) (H : Hp) (args : Args) (us : List Value) (vs : List V) (Q : VK) (E : XK), Room k A → Env0 P w K mg base A outer s H → BindsTo s fd args (ps.zip us) → Vals vs us → sp vs H Q E →
    codeAny (model P w) A (.call (.ref f) args) (CR CX outer P w H s Q E) s
theorem FnOk.mono {P : Program} {w : World} {K : PySem.W.Frag} {mg : Str → Option Value} {base : Heap} {CX : CXT} {j k : Nat} {f : Addr} {fd : FuncData} {ps : List Str} {sp : Sp} (F : FnOk P w K mg base CX j f fd ps sp) (h : j ≤ k) :
    FnOk P w K mg base CX k f fd ps sp := ⟨F.len, fun A outer s H args us vs Q E hr => F.run A outer s H args us vs Q E (hr.mono h)⟩
theorem FnOk.imp {P : Program} {w : World} {K : PySem.W.Frag} {mg : Str → Option Value} {base : Heap} {CX : CXT} {k : Nat} {f : Addr} {fd : FuncData} {ps : List Str} {sp sp' : Sp} (F : FnOk P w K mg base CX k f fd ps sp)
    (h : ∀ vs H Q E, sp' vs H Q E → sp vs H Q E) : FnOk P w K mg base CX k f fd ps sp' :=
  ⟨fun vs H Q E q => F.len vs H Q E (h _ _ _ _ q), fun A outer s H args us vs Q E hr he hb hv hs => F.run A outer s H args us vs Q E hr he hb hv (h _ _ _ _ hs)⟩
theorem Env0.make {P : Program} {w : World} {K : PySem.W.Frag} {mg : Str → Option Value} {base : Heap} {A : Around} {outer : List Env} {s : Shared} {H : Hp} (e : Env0 P w K mg base A outer s H) (C : Addr) (us : List Value) (kw : List (Str × Value)) :
    Env0 P w K mg base (A.under (.builtin "type.__call__" ⟨.ref C :: us, kw⟩)) outer s H := ⟨by first | exact e.frames | (simpa [Around.under, Code.envs, Code.isFrame, pushEnvs] using e.frames), e.mod, e.bs, e.bsz, e.funs, e.frf, e.hok, e.bare⟩
theorem Env0.in1 {P : Program} {w : World} {K : PySem.W.Frag} {mg : Str → Option Value} {base : Heap} {A : Around} {outer : List Env} {s : Shared} {H : Hp} (e : Env0 P w K mg base A outer s H) :
    Env0 P w K mg base A.in1 outer s H := ⟨e.frames, e.mod, e.bs, e.bsz, e.funs, e.frf, e.hok, e.bare⟩
section
variable {X : Cx} {pins : List (Addr × Obj)} {σ : St} {H : Hp} {s s' : Shared}
theorem Inv.env0 (I : Inv X pins σ H s) : Env0 X.prog X.w X.K X.mg X.base X.A X.stack s H :=
  ⟨I.ok.frames, I.ok.mod, I.bs, Nat.le_trans I.ok.bsz I.sz, I.stack, I.stkFree, I.hok, I.bare⟩
theorem Inv.after {Q : VK} {u : Value} (I : Inv X pins σ H s) (h : CE X.stack X.prog X.w H s Q u s') : EP X pins σ Q u s' := by
  obtain ⟨v, H', os, bare, un, hok, r, q⟩ := h
  obtain ⟨hh, g, d, t, os'⟩ := s'
  obtain rfl : os' = s.os := os
  exact ⟨v, H', I.call (h' := hh) (g' := g) (d' := d) (t' := t) (ch := []) un hok bare (fun b z => absurd z (by simp)), r, q⟩
end
def tCall (sp : Sp) (dvs : List V) (E : XK) (t : TA) : TE := fun σ H Q => t σ H fun vs H1 => sp (vs ++ dvs) H1 Q E
def tMeth (C : Addr) (m : Str) (sp : Sp) (dvs : List V) (E : XK) (ta : TE) (t : TA) : TE := fun σ H Q => ta σ H fun x H1 => ∃ a dx fs, x = .ref a ∧ H1 a = some (.ins C dx fs) ∧ fs.lookup m = none ∧
  t σ H1 fun vs H2 => sp (x :: (vs ++ dvs)) H2 Q E
def tMake (C : Addr) (sp : Sp) (dvs : List V) (E : XK) (t : TA) : TE := fun σ H Q => t σ H fun vs H1 => ∀ x dx, H1 x = none → H1 dx = none → dx ≠ x →
  sp (.ref x :: (vs ++ dvs)) (upd (upd H1 dx (.own x)) x (.ins C dx [])) (fun v H2 => v = .non ∧ Q (.ref x) H2) E
def Binds (K : PySem.W.Frag) (fd : FuncData) (ps : List Str) (ds : List Value) : Prop :=
  ∀ (s : Shared) (us : List Value), K.In s.heap → (us ++ ds).length = ps.length → BindsTo s fd ⟨us, []⟩ (ps.zip (us ++ ds))
theorem Binds.all {K : PySem.W.Frag} {fd : FuncData} {ps : List Str} (h : ∀ us : List Value, us.length = ps.length → bindArgs fd ⟨us, []⟩ = pure (ps.zip us)) : Binds K fd ps [] := fun s us _ hl => by
  rw [List.append_nil] at hl ⊢
  exact .of_eq (h us hl)
def Passes (CX : CXT) (X : Cx) (E : XK) : Prop := ∀ (pins : List (Addr × Obj)) (σ : St) (H : Hp) (s : Shared) (e : Value) (s' : Shared), Inv X pins σ H s → CX X.stack H s E e s' → X.xe e s'
section
variable {X : Cx} {CX : CXT} {k : Nat} {f C : Addr} {fd : FuncData} {ps : List Str} {sp : Sp} {dvs : List V} {ds : List Value} {E : XK} {x m : Str} {p pos apos : Pos} {e o : Expr} {es : List Expr} {ta : TE} {t : TA}
theorem run_fn {pins : List (Addr × Obj)} {σ : St} {H : Hp} {s : Shared} {Q : VK} {us : List Value} {vs : List V} (F : FnOk X.prog X.w X.K X.mg X.base CX k f fd ps sp) (hr : Room k X.A) (hb : Binds X.K fd ps ds) (hd : Vals dvs ds) (hx : Passes CX X E)
    (I : Inv X pins σ H s) (r : Vals vs us) (h : sp (vs ++ dvs) H Q E) : wpAny (model X.prog X.w) X.A (call (.ref f) us) (EP X pins σ Q) X.xe s := by
  have r2 : Vals (vs ++ dvs) (us ++ ds) := r.append hd
  have hl : (us ++ ds).length = ps.length := by rw [← r2.length]; exact F.len _ _ _ _ h
  refine wpAny_call (codeAny_mono (F.run X.A X.stack s H ⟨us, []⟩ (us ++ ds) (vs ++ dvs) Q E hr I.env0 (hb s us I.kIn hl) r2 h) fun r s' hq => ?_)
  cases r with
  | error e => exact hx pins σ H s e s' I hq
  | ok fl =>
    cases fl with
    | ret u => exact I.after hq
    | next => exact False.elim hq
    | brk => exact False.elim hq
    | cont => exact False.elim hq
theorem pe_call (F : FnOk X.prog X.w X.K X.mg X.base CX k f fd ps sp) (hr : Room k X.A) (hg : Gl X x) (hm : X.mg x = some (.ref f)) (hk : PySem.W.keepIn X.K (.ref f) = true) (hb : Binds X.K fd ps ds) (hd : Vals dvs ds) (hx : Passes CX X E)
    (ha : PA X (e :: es) t) (hdb : (x == ("__debug__" : Str)) = false := by decide) (he : starEach (e :: es) X.env = (false, eval e X.env) :: starEach es X.env := by rfl) (hpl : (backTo pos (starEach es X.env)).any (·.1) = false := by rfl) :
    PE X (.Call (.Name x p) (e :: es) [] pos) (tCall sp dvs E t) := by
  intro pins s σ H Q I h
  refine wpAny_Call_Name_kw (ld_glob I hg hm ?_ hdb)
  refine PySem.W.callWith_K (h₀ := X.base) I.ok.mod.kin hk (thn (ha pos pins s σ H _ I h) fun us s1 ⟨vs, H1, I1, r, q⟩ => ⟨I1.kIn, ?_⟩) he hpl
  exact run_fn F hr hb hd hx I1 r q
theorem pe_meth {pl : Sem Bool} (he : PE X o ta) (c : Cls X.K C) (hm : Meth X.K C m f) (F : FnOk X.prog X.w X.K X.mg X.base CX k f fd ps sp) (hr : Room k X.A) (hb : Binds X.K fd ps ds) (hd : Vals dvs ds) (hx : Passes CX X E) (ha : PA X (e :: es) t)
    (hst : starEach (e :: es) X.env = (false, eval e X.env) :: starEach es X.env := by rfl) (hpl : (backTo pos (starEach es X.env)).any (·.1) = false := by rfl)
    (ht : eval (.Call (.Attribute o m apos) (e :: es) [] pos) X.env = (do
      let ov ← eval o X.env
      standAt apos.atName
      let (f, first) ← holding [ov] (getMethod ov m pl)
      callWith pos f first (backTo pos (starEach (e :: es) X.env)) (backToKw pos (keywordEach [] X.env))) := by rfl) :
    PE X (.Call (.Attribute o m apos) (e :: es) [] pos) (tMeth C m sp dvs E ta t) := by
  intro pins s σ H Q I h
  refine PySem.W.methodCall_KW (pl := pl) (thn (he pins s σ H _ I h) fun u s1 ⟨x, H1, I1, rx, a, dx, fs, ex, ea, l, q⟩ => ?_) ht
  subst ex
  obtain rfl : u = Value.ref a := rx
  refine getmeth_ok I1 ea c hm l ?_
  refine PySem.W.callWith_K (first := [.ref a]) (h₀ := X.base) I.ok.mod.kin hm.kp (thn (ha pos pins s1 σ H1 _ I1 q) fun us s2 ⟨vs, H2, I2, r, q2⟩ => ⟨I2.kIn, ?_⟩) hst hpl
  exact run_fn (us := .ref a :: us) (vs := .ref a :: vs) F hr hb hd hx I2 (.cons rfl r) q2
theorem pe_meth0 {pl : Sem Bool} (he : PE X o ta) (c : Cls X.K C) (hm : Meth X.K C m f) (F : FnOk X.prog X.w X.K X.mg X.base CX k f fd ps sp) (hr : Room k X.A) (hb : Binds X.K fd ps ds) (hd : Vals dvs ds) (hx : Passes CX X E)
    (ht : eval (.Call (.Attribute o m apos) [] [] pos) X.env = (do
      let ov ← eval o X.env
      standAt apos.atName
      let (f, first) ← holding [ov] (getMethod ov m pl)
      callWith pos f first (backTo pos (starEach [] X.env)) (backToKw pos (keywordEach [] X.env))) := by rfl) :
    PE X (.Call (.Attribute o m apos) [] [] pos) (tMeth C m sp dvs E ta tNil) := by
  intro pins s σ H Q I h
  refine PySem.W.methodCall_KW (pl := pl) (thn (he pins s σ H _ I h) fun u s1 ⟨x, H1, I1, rx, a, dx, fs, ex, ea, l, q⟩ => ?_) ht
  subst ex
  obtain rfl : u = Value.ref a := rx
  refine getmeth_ok I1 ea c hm l ?_
  exact PySem.W.callWith_K0 (first := [.ref a]) I1.kIn hm.kp (run_fn (us := [.ref a]) (vs := [.ref a]) F hr hb hd hx I1 (.cons rfl .nil) q)
structure Mk (K : PySem.W.Frag) (C f : Addr) : Prop where
  makes : PySem.W.makesIn K C = true
  init : PySem.W.findIn K (.ref C) "__init__" = some (some (.ref f))
  fn : PySem.W.isFn K (.ref f) = true
  kp : PySem.W.keepIn K (.ref C) = true
theorem run_make {pins : List (Addr × Obj)} {σ : St} {H : Hp} {s : Shared} {Q : VK} {us : List Value} {vs : List V} (M : Mk X.K C f) (F : FnOk X.prog X.w X.K X.mg X.base CX k f fd ps sp) (hr : Room (k + 1) X.A) (hb : Binds X.K fd ps ds) (hd : Vals dvs ds)
    (hx : Passes CX X E) (I : Inv X pins σ H s) (r : Vals vs us)
    (h : ∀ x dx, H x = none → H dx = none → dx ≠ x → sp (.ref x :: (vs ++ dvs)) (upd (upd H dx (.own x)) x (.ins C dx [])) (fun v H2 => v = .non ∧ Q (.ref x) H2) E) :
    wpAny (model X.prog X.w) X.A (call (.ref C) us) (EP X pins σ Q) X.xe s := by
  have hq := h (s.heap.objs.size + 1) s.heap.objs.size (I.hok.fresh (Nat.le_succ _)) (I.hok.fresh (Nat.le_refl _)) (Nat.ne_of_lt (Nat.lt_succ_self _))
  have I2 := Inv.made (C := C) I
  have r2 : Vals (V.ref (s.heap.objs.size + 1) :: (vs ++ dvs)) (Value.ref (s.heap.objs.size + 1) :: (us ++ ds)) := .cons rfl (r.append hd)
  have hl : (Value.ref (s.heap.objs.size + 1) :: us ++ ds).length = ps.length := by
    have e := r2.length
    rw [F.len _ _ _ _ hq] at e
    exact e.symm
  refine wpAny_call (make_map (f := f) I.kIn M.makes M.init (beq_iff_eq.mp M.fn) (codeAny_mono (F.run _ X.stack _ _ ⟨Value.ref (s.heap.objs.size + 1) :: us, []⟩ (Value.ref (s.heap.objs.size + 1) :: (us ++ ds)) _ _ E (hr.make C us [])
    (I2.env0.make C us []) (hb _ (Value.ref (s.heap.objs.size + 1) :: us) I2.kIn hl) r2 hq) fun r s' hq' => ?_))
  cases r with
  | error e => exact hx pins σ _ _ e s' I2 hq'
  | ok fl =>
    cases fl with
    | ret u =>
      obtain ⟨v, H', I3, rv, ev, q3⟩ := I2.after hq'
      subst ev
      exact ⟨rv, ⟨V.ref (s.heap.objs.size + 1), H', I3, rfl, q3⟩⟩
    | next => exact False.elim hq'
    | brk => exact False.elim hq'
    | cont => exact False.elim hq'
theorem pe_make (M : Mk X.K C f) (F : FnOk X.prog X.w X.K X.mg X.base CX k f fd ps sp) (hr : Room (k + 1) X.A) (hg : Gl X x) (hm : X.mg x = some (.ref C)) (hb : Binds X.K fd ps ds) (hd : Vals dvs ds) (hx : Passes CX X E)
    (ha : PA X (e :: es) t) (hdb : (x == ("__debug__" : Str)) = false := by decide) (he : starEach (e :: es) X.env = (false, eval e X.env) :: starEach es X.env := by rfl) (hpl : (backTo pos (starEach es X.env)).any (·.1) = false := by rfl) :
    PE X (.Call (.Name x p) (e :: es) [] pos) (tMake C sp dvs E t) := by
  intro pins s σ H Q I h
  refine wpAny_Call_Name_kw (ld_glob I hg hm ?_ hdb)
  refine PySem.W.callWith_K (h₀ := X.base) I.ok.mod.kin M.kp (thn (ha pos pins s σ H _ I h) fun us s1 ⟨vs, H1, I1, r, q⟩ => ⟨I1.kIn, ?_⟩) he hpl
  exact run_make M F hr hb hd hx I1 r q
theorem pe_make0 (M : Mk X.K C f) (F : FnOk X.prog X.w X.K X.mg X.base CX k f fd ps sp) (hr : Room (k + 1) X.A) (hg : Gl X x) (hm : X.mg x = some (.ref C)) (hb : Binds X.K fd ps ds) (hd : Vals dvs ds) (hx : Passes CX X E)
    (hdb : (x == ("__debug__" : Str)) = false := by decide) : PE X (.Call (.Name x p) [] [] pos) (tMake C sp dvs E tNil) := by
  intro pins s σ H Q I h
  refine wpAny_Call_Name_kw (ld_glob I hg hm ?_ hdb)
  exact PySem.W.callWith_K0 I.kIn M.kp (run_make (us := []) M F hr hb hd hx I .nil h)
end
section
variable {X : Cx} {CX : CXT} {k : Nat} {f C : Addr} {fd : FuncData} {ps ks : List Str} {sp : Sp} {E : XK} {x m : Str} {p pos apos kpos : Pos} {e o : Expr} {es : List Expr} {kws : List Keyword} {te ta : TE} {t tk : TA} {nm : Option Str}
variable {g : List Value → List Value → List Value} {gV : List V → List V → List V}
end
structure FnScope (N P : List Str) (sc : Scope) : Prop where
  kind : sc.kind = .function
  co : sc.isCoroutine = false
  gen : sc.isGenerator = false
  nd : N.Nodup
  pre : N.take P.length = P
  par : ∀ x ∈ P, sc.names.lookup x = some .local ∨ sc.names.lookup x = some .cell
  nofree : ∀ y ∈ sc.names, y.2 ≠ .free
theorem bindL_out {kindOf : Str → Option NameKind} {x : Str} : ∀ {binds : List (Str × Value)} {m : Str → Option Value}, (∀ v, (x, v) ∉ binds) → bindL kindOf binds m x = m x
  | [], _, _ => rfl
  | (n, v) :: r, m, h => by
    unfold bindL
    rw [bindL_out fun w hw => h w (List.mem_cons_of_mem _ hw)]
    split
    · have : x ≠ n := by rintro rfl; exact h v List.mem_cons_self
      simp [this]
    · rfl
theorem bindC_out {kindOf : Str → Option NameKind} {x : Str} : ∀ {binds : List (Str × Value)} {m : Str → Option Value}, (∀ v, (x, v) ∉ binds) → bindC kindOf binds m x = m x
  | [], _, _ => rfl
  | (n, v) :: r, m, h => by
    unfold bindC
    rw [bindC_out fun w hw => h w (List.mem_cons_of_mem _ hw)]
    split
    · rfl
    · have : x ≠ n := by rintro rfl; exact h v List.mem_cons_self
      simp [this]
theorem bindL_get {kindOf : Str → Option NameKind} {x : Str} {v : Value} : ∀ {P : List Str} {vs : List Value} {i : Nat} {m : Str → Option Value}, P.Nodup → P[i]? = some x → vs[i]? = some v → kindOf x = some .local →
    bindL kindOf (P.zip vs) m x = some v
  | [], _, _, _, _, h, _, _ => by simp at h
  | _ :: _, [], _, _, _, _, h, _ => by simp at h
  | p :: P, w :: vs, 0, m, nd, h1, h2, hk => by
    simp at h1 h2; subst h1; subst h2
    show bindL kindOf ((p, w) :: P.zip vs) m p = _
    unfold bindL
    rw [bindL_out fun v hv => (List.nodup_cons.mp nd).1 (List.of_mem_zip hv).1, if_pos hk]
    simp
  | p :: P, w :: vs, i + 1, m, nd, h1, h2, hk => by
    show bindL kindOf ((p, w) :: P.zip vs) m x = _
    unfold bindL
    exact bindL_get (i := i) (List.nodup_cons.mp nd).2 (by simpa using h1) (by simpa using h2) hk
theorem bindC_get {kindOf : Str → Option NameKind} {x : Str} {v : Value} : ∀ {P : List Str} {vs : List Value} {i : Nat} {m : Str → Option Value}, P.Nodup → P[i]? = some x → vs[i]? = some v → kindOf x ≠ some .local →
    bindC kindOf (P.zip vs) m x = some v
  | [], _, _, _, _, h, _, _ => by simp at h
  | _ :: _, [], _, _, _, _, h, _ => by simp at h
  | p :: P, w :: vs, 0, m, nd, h1, h2, hk => by
    simp at h1 h2; subst h1; subst h2
    show bindC kindOf ((p, w) :: P.zip vs) m p = _
    unfold bindC
    rw [bindC_out fun v hv => (List.nodup_cons.mp nd).1 (List.of_mem_zip hv).1, if_neg hk]
    simp
  | p :: P, w :: vs, i + 1, m, nd, h1, h2, hk => by
    show bindC kindOf ((p, w) :: P.zip vs) m x = _
    unfold bindC
    exact bindC_get (i := i) (List.nodup_cons.mp nd).2 (by simpa using h1) (by simpa using h2) hk
def start (N : List Str) (vs : List V) : St := vs.map some ++ List.replicate (N.length - vs.length) none
def cxOf (CX : CXT) (P : Program) (w : World) (K : PySem.W.Frag) (mg : Str → Option Value) (base : Heap) (N : List Str) (qual : Str) (scope : Scope) (f : Addr) (cd : Value) (A : Around) (outer : List Env) (s : Shared) (H : Hp) (E : XK) : Cx where
  prog := P
  w := w
  K := K
  mg := mg
  base := base
  A := A.deeper (envOfC qual scope s.heap.objs.size f cd)
  N := N
  s₀ := s
  H₀ := H
  env := envOfC qual scope s.heap.objs.size f cd
  outer := outer
  stack := envOfC qual scope s.heap.objs.size f cd :: outer
  ex := []
  calm := true
  fn := fun _ => true
  pn := []
  xe := fun e s' => wpAny (model P w) (A.deeper (envOfC qual scope s.heap.objs.size f cd)) (leaving (envOfC qual scope s.heap.objs.size f cd) e) (fun _ s'' => CX outer H s E e s'') (fun e' s'' => CX outer H s E e' s'') s'
theorem cell_has {sc : Scope} {n : Nat} {x : Str} (h : sc.names.lookup x = some .cell) : ∃ c, (cellsFrom n sc.names []).lookup x = some c := by
  have q := PySem.W.cellsFrom_some sc.names n [] (.inl h)
  exact Option.isSome_iff_exists.mp q
theorem inv_start {CX : CXT} {P : Program} {w : World} {K : PySem.W.Frag} {mg : Str → Option Value} {base : Heap} {N ps : List Str} {qual : Str} {scope : Scope} {f : Addr} {cd : Value} {A : Around} {outer : List Env} {s s1 : Shared} {H : Hp} {E : XK} {us : List Value} {vs : List V}
    (S : FnScope N ps scope) (hd : A.handled = none) (e0 : Env0 P w K mg base A outer s H) (hl : vs.length = ps.length) (r : Vals vs us)
    (x : InCallC s s.heap.objs.size (bindL (envOfC qual scope s.heap.objs.size f cd).kindOf (ps.zip us) fun _ => none) (cellsFrom (s.heap.objs.size + 1) scope.names []) (bindC (envOfC qual scope s.heap.objs.size f cd).kindOf (ps.zip us) fun _ => none) s1) :
    Inv (cxOf CX P w K mg base N qual scope f cd A outer s H E) [] (start N vs) H s1 := by
  have hpl : ps.length ≤ N.length := by have := congrArg List.length S.pre; rw [List.length_take] at this; omega
  obtain ⟨h1, tk, rfl, hk⟩ := x.done
  have noA : ∀ b : Addr, b ∉ (cxOf CX P w K mg base N qual scope f cd A outer s H E).ex := fun b z => absurd (show b ∈ ([] : List Addr) from z) (by simp)
  refine ⟨⟨e0.mod, S.kind, rfl, rfl, Nat.le_refl _, fun y z c h1 h2 => ?_, fun y hy => ?_, fun y c _ h => ?_, fun _ => hd, Around.frames_deeper e0.frames, .inr ⟨rfl, rfl⟩, fun b z => absurd z (noA b), e0.bs, e0.bsz, fun b _ _ => noA b, fun b z => absurd z (noA b), e0.funs, e0.frf⟩,
    rfl, e0.bare, Un.kept hk, ⟨_, x.toInCall.ns, fun i y v h1 h2 h3 => ?_⟩, fun y c h => ⟨_, x.cell y c h⟩, e0.hok.fresh (Nat.le_refl _), fun y c h => ?_, fun p hp => absurd (show p ∈ ([] : List (Addr × Obj)) from hp) (by simp), e0.hok.kept hk, ?_⟩
  · exact name_of_addr x.apart (PySem.mem_of_lookup h1) (PySem.mem_of_lookup h2)
  · have hy : scope.names.lookup y = some .cell ∨ scope.names.lookup y = some .free := hy
    rcases hy with hy | hy
    · exact cell_has hy
    · exact absurd rfl (S.nofree _ (PySem.mem_of_lookup hy))
  · exact Nat.le_of_lt (x.above y c (PySem.mem_of_lookup h))
  · have hi : i < vs.length := by
      unfold start at h2
      by_cases hi : i < vs.length
      · exact hi
      · rw [List.getElem?_append_right (by simpa using hi)] at h2
        rw [List.getElem?_replicate] at h2
        split at h2 <;> cases h2
    have ha : vs[i]? = some v := by
      unfold start at h2
      rw [List.getElem?_append_left (by simpa using hi), List.getElem?_map] at h2
      cases e : vs[i]? with
      | none => rw [e] at h2; cases h2
      | some a => rw [e] at h2; cases h2; rfl
    obtain ⟨u, hu, rv⟩ := r.get ha
    have hp : ps[i]? = some y := by
      rw [← S.pre, List.getElem?_take_of_lt (by omega)]; exact h1
    have ndP : ps.Nodup := by rw [← S.pre]; exact S.nd.sublist (List.take_sublist _ _)
    refine ⟨u, rv, ?_⟩
    rcases S.par y (List.mem_of_getElem? hp) with k | k
    · exact .inl ⟨k, bindL_get ndP hp hu k⟩
    · obtain ⟨c, e⟩ := cell_has (n := s.heap.objs.size + 1) k
      refine .inr ⟨.inl k, c, e, ?_⟩
      have q := x.cell y c e
      rw [bindC_get ndP hp hu (by show scope.names.lookup y ≠ _; rw [k]; decide)] at q
      exact q
  · exact e0.hok.fresh (Nat.le_of_lt (x.above y c (PySem.mem_of_lookup h)))
  · unfold start
    show _ = N.length
    rw [List.length_append, List.length_map, List.length_replicate]
    omega
theorem fn_of {CX : CXT} {P : Program} {w : World} {K : PySem.W.Frag} {mg : Str → Option Value} {base : Heap} {k : Nat} {f : Addr} {name qual : Str} {params : Arguments} {body : List Stmt} {scope : Scope} {dV kV doc pm cdv ct oc : Value} {an od : Option Addr}
    {osl : Array (Option Value)} {N ps : List Str} {sp : Sp} (lk : K.lookup f = some ⟨oc, od, .func (PySem.W.fnOf name qual params body scope dV kV doc pm an cdv ct), osl⟩) (hcd : PySem.W.codeIn K cdv qual = true) (S : FnScope N ps scope)
    (len : ∀ vs H Q E, sp vs H Q E → vs.length = ps.length)
    (hbody : ∀ (A : Around) (outer : List Env) (s : Shared) (H : Hp) (vs : List V) (Q : VK) (E : XK), Room k (A.deeper (envOfC qual scope s.heap.objs.size f cdv)) → sp vs H Q E →
      ∃ t, PSs (cxOf CX P w K mg base N qual scope f cdv A outer s H E) body t ∧ t { nx := fun _ H' => Q .non H', rt := Q } (start N vs) H) :
    FnOk P w K mg base CX (k + 1) f (PySem.W.fnOf name qual params body scope dV kV doc pm an cdv ct) ps sp := by
  refine ⟨len, fun A outer s H args us vs Q E hr e0 hb r hsp => ?_⟩
  have hl := len _ _ _ _ hsp
  have KX : K.In s.heap := e0.mod.kin.keeps fun b o e => (e0.bs b o e).1
  have lim : s.heap.NoLimit := e0.mod.nolimit.keeps fun b o e => (e0.bs b o e).1
  have hkind : ∀ y ∈ ps.zip us, scope.names.lookup y.1 = some .local ∨ (scope.names.lookup y.1 = some .cell ∧ ((cellsFrom (s.heap.objs.size + 1) scope.names []).lookup y.1).isSome = true) := fun ⟨n, v⟩ hy => by
    rcases S.par n (List.of_mem_zip hy).1 with q | q
    · exact .inl q
    · exact .inr ⟨q, PySem.W.cellsFrom_some _ _ _ (.inl q)⟩
  refine codeAny_call_function hr.depth (KX _ _ lk) rfl S.co S.gen rfl (PySem.W.codeRec_of KX hcd) (hb _ _ _ _ ?_)
  refine wpAny_newFunctionEnv_cells S.kind hkind fun env he s1 x => ?_
  subst he
  refine ⟨lim.keeps x.toInCall.keep, codeAny_func ?_⟩
  obtain ⟨t, ht, hq⟩ := hbody A outer s H vs Q E (hr.deeper _) hsp
  have I : Inv (cxOf CX P w K mg base N qual scope f cdv A outer s H E) [] (start N vs) H s1 := inv_start S hr.hd e0 hl r x
  refine wpAny_mono (ht [] s1 (start N vs) H _ I hq) (fun fl s' hs => ?_) fun e s' hs => hs
  have fin : ∀ {σ' : St} {H' : Hp} {v : V} {u : Value}, Inv (cxOf CX P w K mg base N qual scope f cdv A outer s H E) [] σ' H' s' → RelV v u → Q v H' → CE outer P w H s Q u s' :=
    fun {σ' H' v u} J rv q => ⟨v, H', J.os, J.bare, J.base, J.hok, rv, q⟩
  cases fl with
  | ret u =>
    obtain ⟨v, σ', H', J, rv, q⟩ := hs
    exact fin J rv q
  | next =>
    obtain ⟨σ', H', J, q⟩ := hs
    exact fin (v := V.non) (u := Value.none) J rfl q
  | brk =>
    obtain ⟨_, _, _, q⟩ := hs
    exact False.elim q
  | cont =>
    obtain ⟨_, _, _, q⟩ := hs
    exact False.elim q
end L2
namespace L2
open PySem PySem.Spec PyProof.Rows
section
variable {X : Cx} {x : Str} {p pos : Pos} {e : Expr} {es : List Expr} {t : TA} {id T : String} {r : List V → Hp → VK → Prop}
def tCB (r : List V → Hp → VK → Prop) (t : TA) : TE := fun σ H Q => t σ H fun vs H1 => r vs H1 Q
theorem pe_callB (hc : CallR X (.builtin id) r) (hg : Gl X x) (hm : X.mg x = none) (hv : bootBuiltins x = some (.builtin id)) (ha : PA X (e :: es) t) (hn : x ≠ "__name__" := by decide) (hdb : (x == ("__debug__" : Str)) = false := by decide)
    (he : starEach (e :: es) X.env = (false, eval e X.env) :: starEach es X.env := by rfl) (hpl : (backTo pos (starEach es X.env)).any (·.1) = false := by rfl) : PE X (.Call (.Name x p) (e :: es) [] pos) (tCB r t) := by
  intro pins s σ H Q I h
  refine wpAny_Call_Name_kw (ld_blt I hg hm hv ?_ hn hdb)
  exact PyProof.Rows.callWith_builtin1 (thn (ha pos pins s σ H _ I h) fun us s1 ⟨vs, H1, I1, r1, q1⟩ => hc pins s1 σ H1 vs us Q I1 r1 q1) he hpl
theorem pe_callTy (hc : CallR X (.type T) r) (hg : Gl X x) (hm : X.mg x = none) (hv : bootBuiltins x = some (.type T)) (ha : PA X (e :: es) t) (hn : x ≠ "__name__" := by decide) (hdb : (x == ("__debug__" : Str)) = false := by decide)
    (he : starEach (e :: es) X.env = (false, eval e X.env) :: starEach es X.env := by rfl) (hpl : (backTo pos (starEach es X.env)).any (·.1) = false := by rfl) : PE X (.Call (.Name x p) (e :: es) [] pos) (tCB r t) := by
  intro pins s σ H Q I h
  refine wpAny_Call_Name_kw (ld_blt I hg hm hv ?_ hn hdb)
  exact PyProof.Rows.callWith_type1 (thn (ha pos pins s σ H _ I h) fun us s1 ⟨vs, H1, I1, r1, q1⟩ => hc pins s1 σ H1 vs us Q I1 r1 q1) he hpl
end
end L2
namespace HT
open PySem PyProof.Rows
section
open PySem.SeqAt
open PySem.AutoSeq1 (wpAny_loadPart')
open PySem.MeetsSeq PySem.MeetsSeq2 PySem.MeetsSeq3
end
section
variable {prog : Program} {w : World} {A : Around} {E : Value → Shared → Prop} {s : Shared}
def sIx (n d : Nat) : Option Int → Nat
  | none => d
  | some v => if v < 0 then (v + (n : Int)).toNat else min v.toNat n
theorem sIx_none (n d : Nat) : sIx n d none = d := rfl
theorem sIx_nat (n d k : Nat) : sIx n d (some (k : Int)) = min k n := by
  show (if (k : Int) < 0 then ((k : Int) + (n : Int)).toNat else min (k : Int).toNat n) = min k n
  rw [if_neg (by omega), Int.toNat_natCast]
theorem sIx_le (n d : Nat) (hd : d ≤ n) (o : Option Int) : sIx n d o ≤ n := by
  cases o with
  | none => exact hd
  | some v =>
    show (if v < 0 then (v + (n : Int)).toNat else min v.toNat n) ≤ n
    by_cases hv : v < 0
    · rw [if_pos hv]; omega
    · rw [if_neg hv]; exact Nat.min_le_right _ _
end
end HT
namespace L2
open PySem PySem.Spec PyProof.Rows
abbrev TO := St → Hp → (Option Int → Hp → Prop) → Prop
def PO (X : Cx) (e : Option Expr) (t : TO) : Prop :=
  ∀ (pins : List (Addr × Obj)) (s : Shared) (σ : St) (H : Hp) (Q : Option Int → Hp → Prop), Inv X pins σ H s → t σ H Q →
    wpAny (model X.prog X.w) X.A (evalPart e X.env) (fun u s' => ∃ o H', Inv X pins σ H' s' ∧ IsPart u o ∧ Q o H') X.xe s
def tNoPart : TO := fun _ H Q => Q none H
def tPart (t : TE) : TO := fun σ H Q => t σ H fun x H1 => ∃ i, x = .int i ∧ Q (some i) H1
section
variable {X : Cx} {e : Expr} {te : TE} {lo hi : Option Expr} {tl th : TO} {pos p2 : Pos}
theorem po_none : PO X none tNoPart := by
  intro pins s σ H Q I h
  rw [evalPart_none]
  exact wpAny_pure ⟨none, H, I, .none, h⟩
theorem po_some (h : PE X e te) : PO X (some e) (tPart te) := by
  intro pins s σ H Q I hw
  rw [evalPart_some]
  refine thn (h pins s σ H _ I hw) fun u s1 ⟨x, H1, I1, r1, q1⟩ => ?_
  obtain ⟨i, rfl, q⟩ := q1
  obtain ⟨t, rfl⟩ := r1
  exact ⟨some i, H1, I1, .int i t, q⟩
def SlR (X : Cx) (r : V → Option Int → Option Int → Hp → VK → Prop) : Prop :=
  ∀ (pins : List (Addr × Obj)) (s : Shared) (σ : St) (H : Hp) (x : V) (v vl vu : Value) (lo hi : Option Int) (sl : Addr) (Q : VK), Inv X pins σ H s → RelV x v → s.heap.IsSliceOf sl vl vu .none → IsPart vl lo → IsPart vu hi → r x lo hi H Q →
    ∃ T id, typeLookup (.type T) "__getitem__" = pure (some (.builtin id)) ∧ s.TypeIs v T ∧ wpAny (model X.prog X.w) X.A (getItem v (.ref sl)) (EP X pins σ Q) X.xe s
theorem SlR.or {r r' : V → Option Int → Option Int → Hp → VK → Prop} (h : SlR X r) (h' : SlR X r') : SlR X (fun x lo hi H Q => r x lo hi H Q ∨ r' x lo hi H Q) := by
  intro pins s σ H x v vl vu lo hi sl Q I rx hs pl pu q
  rcases q with q | q
  · exact h pins s σ H x v vl vu lo hi sl Q I rx hs pl pu q
  · exact h' pins s σ H x v vl vu lo hi sl Q I rx hs pl pu q
def tSl (r : V → Option Int → Option Int → Hp → VK → Prop) (te : TE) (tl th : TO) : TE := fun σ H Q => te σ H fun x H1 => tl σ H1 fun l H2 => th σ H2 fun u H3 => r x l u H3 Q
theorem pe_slice {r : V → Option Int → Option Int → Hp → VK → Prop} (hr : SlR X r) (he : PE X e te) (hl : PO X lo tl) (hu : PO X hi th) : PE X (.Subscript e (.Slice lo hi none p2) pos) (tSl r te tl th) := by
  intro pins s σ H Q I h
  refine Subscript_ (thn (he pins s σ H _ I h) fun v s1 ⟨x, H1, I1, r1, q1⟩ => ?_)
  refine wpAny_Slice (thn (hl pins s1 σ H1 _ I1 q1) fun vl s2 ⟨l, H2, I2, pl, q2⟩ => thn (hu pins s2 σ H2 _ I2 q2) fun vu s3 ⟨u, H3, I3, pu, q3⟩ => ?_)
  rw [evalPart_none]
  refine wpAny_pure ?_
  have I4 : Inv X pins σ H3 { s3 with heap := s3.heap.push { cls := .type "slice", data := .fields #[vl, vu, .none] } } := I3.kept (t' := s3.toks) fun b ob q => Heap.get?_push_of_some _ q
  obtain ⟨T, id, hT, ht, hg⟩ := hr pins { s3 with heap := s3.heap.push { cls := .type "slice", data := .fields #[vl, vu, .none] } } σ H3 x v vl vu l u s3.heap.objs.size Q I4 r1 (Heap.IsSliceOf.new ..) pl pu q3
  show wpAny (model X.prog X.w) X.A (subscriptTail e (.Slice lo hi none p2) v (.ref s3.heap.objs.size)) (EP X pins σ Q) X.xe { s3 with heap := s3.heap.push { cls := .type "slice", data := .fields #[vl, vu, .none] } }
  exact tail_any (ops := [.ref s3.heap.objs.size, v]) ht hT hg (by with_unfolding_all rfl)
def cutV (xs : List V) (lo hi : Option Int) : List V := (xs.drop (HT.sIx xs.length 0 lo)).take (HT.sIx xs.length xs.length hi - HT.sIx xs.length 0 lo)
theorem cutV_length (xs : List V) (lo hi : Option Int) : (cutV xs lo hi).length ≤ xs.length := by
  unfold cutV
  rw [List.length_take, List.length_drop]
  omega
end
end L2
namespace L2
open PySem PySem.Spec PyProof.Rows
def ixN (n : Nat) (i : Int) : Option Nat := if 0 ≤ i then (if i < n then some i.toNat else none) else if -(n : Int) ≤ i then some (i + n).toNat else none
def atI {α : Type} (xs : List α) (i : Int) : Option α := (ixN xs.length i).bind fun j => xs[j]?
theorem ixN_seq {n : Nat} {i : Int} {j : Nat} (h : ixN n i = some j) : seqIndex? i n = some j ∧ j < n ∧ -(n : Int) ≤ i ∧ i < n := by
  unfold ixN at h
  by_cases h0 : 0 ≤ i
  · rw [if_pos h0] at h
    by_cases h1 : i < n
    · rw [if_pos h1] at h
      have e : i.toNat = j := Option.some.inj h
      exact ⟨by rw [seqIndex_of h0 h1, e], by omega, by omega, h1⟩
    · rw [if_neg h1] at h; cases h
  · rw [if_neg h0] at h
    by_cases h1 : -(n : Int) ≤ i
    · rw [if_pos h1] at h
      have e : (i + n).toNat = j := Option.some.inj h
      exact ⟨by rw [seqIndex_neg (by omega) h1, e], by omega, h1, by omega⟩
    · rw [if_neg h1] at h; cases h
theorem atI_get {α : Type} {xs : List α} {i : Int} {v : α} (h : atI xs i = some v) : ∃ j, seqIndex? i xs.length = some j ∧ xs[j]? = some v ∧ j < xs.length ∧ -(xs.length : Int) ≤ i ∧ i < xs.length := by
  unfold atI at h
  cases e : ixN xs.length i with
  | none => rw [e] at h; cases h
  | some j =>
    rw [e] at h
    obtain ⟨h1, h2, h3, h4⟩ := ixN_seq e
    exact ⟨j, h1, h, h2, h3, h4⟩
theorem atI_nat {α : Type} {xs : List α} {j : Nat} {v : α} (h : xs[j]? = some v) : atI xs (j : Int) = some v := by
  have hj : j < xs.length := (List.getElem?_eq_some_iff.mp h).1
  have e : ixN xs.length (j : Int) = some j := by
    unfold ixN
    rw [if_pos (by omega), if_pos (by omega)]; simp
  unfold atI; rw [e]; exact h
theorem atI_last {α : Type} (xs : List α) (v : α) : atI (xs ++ [v]) (-1) = some v := by
  have hl : (xs ++ [v]).length = xs.length + 1 := by simp
  have e : ixN (xs ++ [v]).length (-1) = some xs.length := by
    unfold ixN
    rw [hl, if_neg (by decide), if_pos (by omega)]
    congr 1
    omega
  unfold atI
  rw [e]
  show (xs ++ [v])[xs.length]? = some v
  simp
def PlainIx (b : Expr) : Prop := ∀ o i, subscripted b false o i = operate [o, i] (getItem o i)
def IxR (X : Cx) (r : R2) : Prop :=
  ∀ (value slice : Expr) (pins : List (Addr × Obj)) (s : Shared) (σ : St) (H : Hp) (x y : V) (v u : Value) (Q : VK), Inv X pins σ H s → RelV x v → RelV y u → r x y H Q →
    subscripted slice false v u = operate [v, u] (getItem v u) → wpAny (model X.prog X.w) X.A (subscriptTail value slice v u) (EP X pins σ Q) X.xe s
def MtR (X : Cx) (id : String) (r : V → List V → Hp → VK → Prop) : Prop :=
  ∀ (pins : List (Addr × Obj)) (s : Shared) (σ : St) (H : Hp) (x : V) (xs : List V) (v : Value) (us : List Value) (Q : VK), Inv X pins σ H s → RelV x v → Vals xs us → r x xs H Q →
    wpAny (model X.prog X.w) X.A (call (.builtin id) (v :: us)) (EP X pins σ Q) X.xe s
section
variable {X : Cx} {a b : Expr} {ta tb : TE} {pos : Pos}
theorem IxR.or {r r' : R2} (h : IxR X r) (h' : IxR X r') : IxR X (fun x y H Q => r x y H Q ∨ r' x y H Q) := by
  intro value slice pins s σ H x y v u Q I rx ry q hs
  rcases q with q | q
  · exact h value slice pins s σ H x y v u Q I rx ry q hs
  · exact h' value slice pins s σ H x y v u Q I rx ry q hs
theorem MtR.or {id : String} {r r' : V → List V → Hp → VK → Prop} (h : MtR X id r) (h' : MtR X id r') : MtR X id (fun x xs H Q => r x xs H Q ∨ r' x xs H Q) := by
  intro pins s σ H x xs v us Q I rx rs q
  rcases q with q | q
  · exact h pins s σ H x xs v us Q I rx rs q
  · exact h' pins s σ H x xs v us Q I rx rs q
theorem pe_ix {r : R2} (hr : IxR X r) (ha : PE X a ta) (hb : PE X b tb) (hs : PlainIx b) : PE X (.Subscript a b pos) (tOp r ta tb) := by
  intro pins s σ H Q I h
  exact Subscript_ (binT ha hb I h fun v u s2 x y H2 I2 rx ry q => hr a b pins s2 σ H2 x y v u Q I2 rx ry q (hs _ _))
def rIxL (K : PySem.W.Frag) : R2 := fun x y H Q => ∃ p xs i v, x = .ref p ∧ y = .int i ∧ SqL K H p xs ∧ atI xs i = some v ∧ Q v H
def rIxT (K : PySem.W.Frag) : R2 := fun x y H Q => ∃ p xs i v, x = .ref p ∧ y = .int i ∧ SqT K H p xs ∧ atI xs i = some v ∧ Q v H
def rIxS : R2 := fun x y H Q => ∃ z i c, x = .str z ∧ y = .int i ∧ z.length ≤ sizeLine ∧ atI z.cps.toList i = some c ∧ Q (.str ⟨#[c]⟩) H
theorem ix_list : IxR X (rIxL X.K) := by
  intro value slice pins s σ H x y v u Q I rx ry h hs
  obtain ⟨p, xs, i, z, rfl, rfl, hq, he, q⟩ := h
  cases rx
  obtain ⟨t, rfl⟩ := ry
  obtain ⟨its, r, pl, hz⟩ := I.list hq
  obtain ⟨j, h1, h2, h3, h4, h5⟩ := atI_get he
  obtain ⟨w, ew, rw'⟩ := r.get h2
  have hl := r.length
  have hn := line63
  have fin : EP X pins σ Q w s := ⟨z, H, I, rw', q⟩
  by_cases h0 : 0 ≤ i
  · have hj : i.toNat = j := by
      rw [seqIndex_of h0 h5] at h1
      exact Option.some.inj h1
    exact item_listR pl.isList h0 (by omega) (by rw [hj]; simpa using ew) fin hs
  · have hj : (i + (its.toArray.size : Int)).toNat = j := by
      rw [seqIndex_neg (by omega) h4] at h1
      rw [List.size_toArray, ← hl]
      exact Option.some.inj h1
    exact subscriptTail_builtinR (x := w) pl.isList.typeIs slot_list_getitem.lookup
      (wpAny_getItem_list_neg (Q := fun r s' => r = w ∧ EP X pins σ Q r s') pl.isList (by omega) (by rw [List.size_toArray] <;> omega) (by omega) (by rw [hj]; simpa using ew) ⟨rfl, fin⟩) hs
theorem ix_tup : IxR X (rIxT X.K) := by
  intro value slice pins s σ H x y v u Q I rx ry h hs
  obtain ⟨p, xs, i, z, rfl, rfl, hq, he, q⟩ := h
  cases rx
  obtain ⟨t, rfl⟩ := ry
  obtain ⟨its, r, pl, hz⟩ := I.tuple hq
  obtain ⟨j, h1, h2, h3, h4, h5⟩ := atI_get he
  obtain ⟨w, ew, rw'⟩ := r.get h2
  have hl := r.length
  have hn := line63
  have fin : EP X pins σ Q w s := ⟨z, H, I, rw', q⟩
  exact subscriptTail_builtinR (x := w) pl.typeIs slot_tuple_getitem.lookup
    (getItem_tuple (j := j) (Q := fun r s' => r = w ∧ EP X pins σ Q r s') pl (by omega) (by omega) (by rw [List.size_toArray, ← hl]; exact h1) (by simpa using ew) ⟨rfl, fin⟩) hs
theorem ix_str : IxR X rIxS := by
  intro value slice pins s σ H x y v u Q I rx ry h hs
  obtain ⟨z, i, c, rfl, rfl, hz, he, q⟩ := h
  obtain ⟨t, rfl⟩ := rx
  obtain ⟨t', rfl⟩ := ry
  obtain ⟨j, h1, h2, h3, h4, h5⟩ := atI_get he
  have hl : z.cps.toList.length = z.length := by simp [Str.length]
  rw [hl] at h1 h4 h5
  have hn := line63
  exact tail_any (typeIs_str s z t) slot_str_getitem.lookup (getItem_str (c := c) (by
    have e1 : decide (i < -(2 ^ 63 : Int)) = false := decide_eq_false (by omega)
    have e2 : decide (i ≥ 2 ^ 63) = false := decide_eq_false (by omega)
    rw [e1, e2, Bool.or_false]) (by rw [h1]; simpa using h2) ⟨.str ⟨#[c]⟩, H, I.tok _, ⟨_, rfl⟩, q⟩) hs
def rIx (K : PySem.W.Frag) : R2 := fun x y H Q => rIxL K x y H Q ∨ rIxT K x y H Q ∨ rIxS x y H Q
theorem ix_seq : IxR X (rIx X.K) := ix_list.or (ix_tup.or ix_str)
theorem Inv.lst {pins : List (Addr × Obj)} {σ : St} {H : Hp} {s : Shared} {p : Addr} {xs : List V} (I : Inv X pins σ H s) (h : H p = some (.lst xs)) :
    ∃ (its : List Value) (n : Nat), Vals xs its ∧ s.heap.get? p = some { cls := .type "list", data := .seq its.toArray n } ∧ xs.length ≤ sizeLine := by
  obtain ⟨z, its, n, r, e⟩ := I.hok p _ h
  exact ⟨its, n, r, e, z⟩
theorem slice_bounds (lo hi : Option Int) (n : Nat) : (sliceBounds lo hi none n).1 = ((HT.sIx n 0 lo : Nat) : Int) ∧ (sliceBounds lo hi none n).2.1 = ((HT.sIx n n hi : Nat) : Int) ∧ (sliceBounds lo hi none n).2.2 = 1 := by
  refine ⟨?_, ?_, rfl⟩
  · cases lo with
    | none => simp [sliceBounds, HT.sIx]
    | some i =>
      simp only [sliceBounds, HT.sIx, Option.getD_none, show (1 : Int) > 0 by decide, if_true]
      by_cases h : i < 0
      · simp only [h, if_true] <;> omega
      · simp only [h, if_false] <;> omega
  · cases hi with
    | none => simp [sliceBounds, HT.sIx]
    | some i =>
      simp only [sliceBounds, HT.sIx, Option.getD_none, show (1 : Int) > 0 by decide, if_true]
      by_cases h : i < 0
      · simp only [h, if_true] <;> omega
      · simp only [h, if_false] <;> omega
theorem slicePick_cut (its : List Value) (lo hi : Option Int) : slicePick its.toArray lo hi none = ((its.drop (HT.sIx its.length 0 lo)).take (HT.sIx its.length its.length hi - HT.sIx its.length 0 lo)).toArray := by
  obtain ⟨h1, h2, h3⟩ := slice_bounds lo hi its.toArray.size
  unfold slicePick
  rw [h1, h2, h3]
  simp only [sliceRange_one, pick_run, List.size_toArray] <;> rfl
def rSlL (K : PySem.W.Frag) : V → Option Int → Option Int → Hp → VK → Prop := fun x lo hi H Q => ∃ a xs, x = .ref a ∧ SqL K H a xs ∧ ∀ p, H p = none → Q (.ref p) (upd H p (.lst (cutV xs lo hi)))
theorem sl_list : SlR X (rSlL X.K) := by
  intro pins s σ H x v vl vu lo hi sl Q I rx hs pl pu h
  obtain ⟨a, xs, rfl, hx, q⟩ := h
  cases rx
  obtain ⟨its, r, ht, hz⟩ := I.list hx
  have hlen := r.length
  refine ⟨"list", _, slot_list_getitem.lookup, ht.isList.typeIs, ?_⟩
  refine wpAny_getItem_list_slice ht.isList hs pl pu .none (by simp) ?_ (by rw [List.size_toArray] <;> omega)
  rw [slicePick_cut, ← hlen]
  refine ⟨.ref s.heap.objs.size, _, I.laid (t' := s.toks) (o := .lst (cutV xs lo hi)) (fun b ob q => Heap.get?_push_of_some _ q) (Nat.le_refl _) ?_, rfl, q _ (I.hok.fresh (Nat.le_refl _))⟩
  exact ⟨Nat.le_trans (cutV_length xs lo hi) hz, _, 0, (r.drop (HT.sIx xs.length 0 lo)).take (HT.sIx xs.length xs.length hi - HT.sIx xs.length 0 lo), Heap.get?_push_size _ rfl⟩
def flatV : V → Bool
  | .non => true
  | .bl _ => true
  | .int _ => true
  | .str _ => true
  | _ => false
def eqV : V → V → Bool
  | .non, .non => true
  | .bl a, .bl b => a == b
  | .bl a, .int b => (if a then 1 else 0) == b
  | .int a, .bl b => a == (if b then 1 else 0)
  | .int a, .int b => a == b
  | .str a, .str b => a == b
  | _, _ => false
theorem eqAt_V {A : Around} {s : Shared} {y x : V} {u v : Value} (ry : RelV y u) (rx : RelV x v) (fy : flatV y = true) (fx : flatV x = true) : SeqAt.EqAt A s u v (eqV y x) := by
  cases y with
  | non =>
    cases ry
    cases x with
    | non => cases rx; exact SeqAt.EqAt.same _
    | bl b => cases rx; exact SeqAt.EqAt.none_bool b
    | int b => obtain ⟨t, rfl⟩ := rx; exact SeqAt.EqAt.none_int b t
    | str b => obtain ⟨t, rfl⟩ := rx; exact SeqAt.EqAt.none_str b t
    | _ => exact absurd (show false = true from fx) Bool.false_ne_true
  | bl a =>
    cases ry
    cases x with
    | non => cases rx; exact SeqAt.EqAt.bool_none a
    | bl b => cases rx; exact SeqAt.EqAt.bool_bool a b
    | int b => obtain ⟨t, rfl⟩ := rx; exact SeqAt.EqAt.bool_int a b t
    | str b => obtain ⟨t, rfl⟩ := rx; exact SeqAt.EqAt.bool_str a b t
    | _ => exact absurd (show false = true from fx) Bool.false_ne_true
  | int a =>
    obtain ⟨t', rfl⟩ := ry
    cases x with
    | non => cases rx; exact SeqAt.EqAt.int_none a t'
    | bl b => cases rx; exact SeqAt.EqAt.int_bool a t' b
    | int b => obtain ⟨t, rfl⟩ := rx; exact SeqAt.EqAt.int_int a t' b t
    | str b => obtain ⟨t, rfl⟩ := rx; exact SeqAt.EqAt.int_str a t' b t
    | _ => exact absurd (show false = true from fx) Bool.false_ne_true
  | str a =>
    obtain ⟨t', rfl⟩ := ry
    cases x with
    | non => cases rx; exact SeqAt.EqAt.str_none a t'
    | bl b => cases rx; exact SeqAt.EqAt.str_bool a t' b
    | int b => obtain ⟨t, rfl⟩ := rx; exact SeqAt.EqAt.str_int a t' b t
    | str b => obtain ⟨t, rfl⟩ := rx; exact SeqAt.EqAt.str_str a t' b t
    | _ => exact absurd (show false = true from fx) Bool.false_ne_true
  | _ => exact absurd (show false = true from fy) Bool.false_ne_true
def eqU (x : V) (u : Value) : Bool := match u with
  | .none => eqV .non x
  | .bool b => eqV (.bl b) x
  | .int i _ => eqV (.int i) x
  | .str z _ => eqV (.str z) x
  | _ => false
theorem eqU_of {x y : V} {u : Value} (r : RelV y u) (f : flatV y = true) : eqU x u = eqV y x := by
  cases y with
  | non => cases r; rfl
  | bl b => cases r; rfl
  | int i => obtain ⟨t, rfl⟩ := r; rfl
  | str z => obtain ⟨t, rfl⟩ := r; rfl
  | _ => exact absurd (show false = true from f) Bool.false_ne_true
theorem any_eqU {x : V} : ∀ {xs : List V} {us : List Value}, Vals xs us → xs.all flatV = true → us.any (eqU x) = xs.any fun y => eqV y x
  | _, _, .nil, _ => rfl
  | y :: xs, u :: us, .cons r t, f => by
    rw [List.all_cons, Bool.and_eq_true] at f
    rw [List.any_cons, List.any_cons, eqU_of r f.1, any_eqU t f.2]
theorem mem_eqAt {A : Around} {s : Shared} {x : V} {v : Value} (rx : RelV x v) (fx : flatV x = true) : ∀ {xs : List V} {us : List Value}, Vals xs us → xs.all flatV = true → ∀ u ∈ us, SeqAt.EqAt A s u v (eqU x u)
  | _, _, .nil, _ => fun u hu => by cases hu
  | y :: xs, u :: us, .cons r t, f => fun u' hu => by
    rw [List.all_cons, Bool.and_eq_true] at f
    rcases List.mem_cons.mp hu with rfl | hu
    · rw [eqU_of r f.1]; exact eqAt_V r rx f.1 fx
    · exact mem_eqAt rx fx t f.2 u' hu
def inV (x : V) (xs : List V) : Bool := xs.any fun y => eqV y x
def rIn (K : PySem.W.Frag) (neg : Bool) : R2 := fun x y H Q => ∃ p xs, y = .ref p ∧ (SqL K H p xs ∨ SqT K H p xs) ∧ flatV x = true ∧ xs.all flatV = true ∧ Q (.bl (if neg then !inV x xs else inV x xs)) H
theorem op_in_seq : OpR X (compareOp .In) (rIn X.K false) := by
  intro pins s σ H x y v u Q I rx ry h
  obtain ⟨p, xs, rfl, hq, fx, fs, q⟩ := h
  cases ry
  rcases hq with hq | hq
  · obtain ⟨its, r, pl, hz⟩ := I.list hq
    refine SeqAt.in_listAt (eqU x) pl.isList (fun w hw => mem_eqAt rx fx r fs w (by simpa using hw)) ⟨.bl _, H, I, rfl, ?_⟩
    rw [show its.toArray.any (eqU x) = its.any (eqU x) by simp, any_eqU r fs]
    exact q
  · obtain ⟨its, r, pl, hz⟩ := I.tuple hq
    refine SeqAt.in_tupleAt (eqU x) pl (fun w hw => mem_eqAt rx fx r fs w (by simpa using hw)) ⟨.bl _, H, I, rfl, ?_⟩
    rw [show its.toArray.any (eqU x) = its.any (eqU x) by simp, any_eqU r fs]
    exact q
theorem op_notIn_seq : OpR X (compareOp .NotIn) (rIn X.K true) := by
  intro pins s σ H x y v u Q I rx ry h
  obtain ⟨p, xs, rfl, hq, fx, fs, q⟩ := h
  cases ry
  rcases hq with hq | hq
  · obtain ⟨its, r, pl, hz⟩ := I.list hq
    refine SeqAt.notIn_listAt (eqU x) pl.isList (fun w hw => mem_eqAt rx fx r fs w (by simpa using hw)) ⟨.bl _, H, I, rfl, ?_⟩
    rw [show its.toArray.any (eqU x) = its.any (eqU x) by simp, any_eqU r fs]
    exact q
  · obtain ⟨its, r, pl, hz⟩ := I.tuple hq
    refine SeqAt.notIn_tupleAt (eqU x) pl (fun w hw => mem_eqAt rx fx r fs w (by simpa using hw)) ⟨.bl _, H, I, rfl, ?_⟩
    rw [show its.toArray.any (eqU x) = its.any (eqU x) by simp, any_eqU r fs]
    exact q
theorem call_len_str : CallR X (.builtin "len") (fun xs H Q => ∃ z, xs = [.str z] ∧ z.length ≤ sizeLine ∧ Q (.int z.length) H) := by
  intro pins s σ H xs us Q I r h
  obtain ⟨z, rfl, hz, q⟩ := h
  obtain ⟨u, rfl, t, rfl⟩ := vals1 r
  have hn := line63
  exact len_str (by omega) ⟨.int z.length, H, I.tok _, ⟨_, rfl⟩, q⟩
theorem CallR.or {f : Value} {r r' : List V → Hp → VK → Prop} (h : CallR X f r) (h' : CallR X f r') : CallR X f (fun xs H Q => r xs H Q ∨ r' xs H Q) := by
  intro pins s σ H xs us Q I rs q
  rcases q with q | q
  · exact h pins s σ H xs us Q I rs q
  · exact h' pins s σ H xs us Q I rs q
theorem call_list_of : CallR X (.type "list") (fun xs H Q => ∃ p ys, xs = [.ref p] ∧ (SqL X.K H p ys ∨ SqT X.K H p ys) ∧ ∀ l, H l = none → Q (.ref l) (upd H l (.lst ys))) := by
  intro pins s σ H xs us Q I r h
  obtain ⟨p, ys, rfl, hq, q⟩ := h
  obtain ⟨u, rfl, rx⟩ := vals1 r
  cases rx
  have fin : ∀ (its : List Value), Vals ys its → ys.length ≤ sizeLine → ∀ (h' : Heap) (c' : Nat), (∀ b o', s.heap.get? b = some o' → h'.get? b = some o') →
      h'.get? s.heap.objs.size = some { cls := .type "list", dict := none, data := .seq its.toArray c', slots := #[] } → EP X pins σ Q (.ref s.heap.objs.size) { s with heap := h' } := fun its r' hz h' c' kp e =>
    ⟨.ref s.heap.objs.size, _, I.laid (t' := s.toks) kp (Nat.le_refl _) (show ObjOk X.prog X.w _ h' _ (.lst ys) from ⟨hz, its, c', r', e⟩), rfl, q _ (I.hok.fresh (Nat.le_refl _))⟩
  rcases hq with hq | hq
  · obtain ⟨its, r', pl, hz⟩ := I.list hq
    have hlen := r'.length
    obtain ⟨o, ho, hc, n, hd⟩ := pl.isList
    exact call_list_seq p (.inl rfl) ho hc hd (fun h' c' kp e => fin its r' hz h' c' kp e) (by simp only [List.size_toArray] <;> omega)
  · obtain ⟨its, r', pl, hz⟩ := I.tuple hq
    have hlen := r'.length
    obtain ⟨o, ho, hc, n, hd⟩ := pl
    exact call_list_seq p (.inr rfl) ho hc hd (fun h' c' kp e => fin its r' hz h' c' kp e) (by simp only [List.size_toArray] <;> omega)
def tyV (K : PySem.W.Frag) (T : String) (x : V) (H : Hp) : Prop := match x with
  | .str _ => T = "str"
  | .int _ => T = "int"
  | .ref p => (T = "list" ∧ ∃ xs, SqL K H p xs) ∨ (T = "tuple" ∧ ∃ o, K.lookup p = some o ∧ o.cls = .type "tuple" ∧ o.dict = none) ∨
      (T = "dict" ∧ ((∃ kvs, H p = some (.dK kvs)) ∨ ∃ kvs, H p = some (.dT kvs))) ∨ (T = "set" ∧ ∃ S n, H p = some (.set S n))
  | _ => False
theorem tyV_is {pins : List (Addr × Obj)} {σ : St} {H : Hp} {s : Shared} {T : String} {x : V} {v : Value} (I : Inv X pins σ H s) (r : RelV x v) (ty : tyV X.K T x H) :
    s.TypeIs v T ∧ ∀ a, v = .ref a → ∃ ob, s.heap.get? a = some ob ∧ ob.dict = none := by
  cases x with
  | str z =>
    obtain ⟨t, rfl⟩ := r
    cases (show T = "str" from ty)
    exact ⟨typeIs_str s z t, fun _ e => nomatch e⟩
  | int i =>
    obtain ⟨t, rfl⟩ := r
    cases (show T = "int" from ty)
    exact ⟨typeIs_int s i t, fun _ e => nomatch e⟩
  | ref p =>
    cases r
    rcases ty with ⟨rfl, xs, hq⟩ | ⟨rfl, o, hk, hc, hd⟩ | ⟨rfl, hk⟩ | ⟨rfl, S, n, hk⟩
    · obtain ⟨its, _, pl, _⟩ := I.list hq
      refine ⟨pl.isList.typeIs, fun a e => ?_⟩
      cases e
      obtain ⟨o, n, e, c, hd, _⟩ := pl
      exact ⟨o, e, hd⟩
    · refine ⟨⟨o, I.kIn p o hk, hc⟩, fun a e => ?_⟩
      cases e
      exact ⟨o, I.kIn _ o hk, hd⟩
    · have z : ∃ o, s.heap.get? p = some o ∧ o.ExactDict := by
        rcases hk with ⟨kvs, hk⟩ | ⟨kvs, hk⟩
        · obtain ⟨_, _, _, _, o, _, _, e, ex, _⟩ := I.hok p _ hk
          exact ⟨o, e, ex⟩
        · obtain ⟨_, _, _, _, o, _, _, e, ex, _⟩ := I.hok p _ hk
          exact ⟨o, e, ex⟩
      obtain ⟨o, e, ex⟩ := z
      refine ⟨⟨o, e, ex.1⟩, fun a e2 => ?_⟩
      cases e2
      exact ⟨o, e, ex.2.1⟩
    · obtain ⟨o, _, _, _, e, ex, _⟩ := I.hok p _ hk
      refine ⟨⟨o, e, ex.1⟩, fun a e2 => ?_⟩
      cases e2
      exact ⟨o, e, ex.2.1⟩
  | _ => exact False.elim ty
def tBM0 (K : PySem.W.Frag) (T : String) (r : V → List V → Hp → VK → Prop) (to : TE) : TE := fun σ H Q => to σ H fun x H1 => tyV K T x H1 ∧ r x [] H1 Q
def tBM (K : PySem.W.Frag) (T : String) (r : V → List V → Hp → VK → Prop) (to : TE) (t : TA) : TE := fun σ H Q => to σ H fun x H1 => tyV K T x H1 ∧ t σ H1 fun xs H2 => r x xs H2 Q
variable {o e : Expr} {es : List Expr} {to : TE} {t : TA} {name : Str} {apos cpos : Pos} {T id : String} {r : V → List V → Hp → VK → Prop}
theorem pe_bm0 (pa : PlainAttrs T) (slot : Slot T name id) (hty : typeOf (.builtin id) = pure (.type "method_descriptor")) (hm : MtR X id r) (ho : PE X o to)
    (hbase : attributeBase o name X.env (eval o X.env) = eval o X.env := by rfl) (hline : (apos.endLine == cpos.line) = true := by rfl) : PE X (.Call (.Attribute o name apos) [] [] cpos) (tBM0 X.K T r to) := by
  intro pins s σ H Q I h
  refine wpAny_Call_method0_late hbase hline (thn (ho pins s σ H _ I h) fun v s1 ⟨x, H1, I1, r1, ty, q1⟩ => ?_)
  obtain ⟨h1, h2⟩ := tyV_is I1 r1 ty
  exact ⟨T, id, pa, slot, hty, h1, h2, Calls.callWith_builtin rfl (PySem.evalArgs_none (hm pins s1 σ H1 x [] v [] Q I1 r1 .nil q1))⟩
theorem pe_bm (pa : PlainAttrs T) (slot : Slot T name id) (hty : typeOf (.builtin id) = pure (.type "method_descriptor")) (hm : MtR X id r) (ho : PE X o to) (ha : PA X (e :: es) t)
    (hbase : attributeBase o name X.env (eval o X.env) = eval o X.env := by rfl)
    (hfew : ((backTo cpos (starEach (e :: es) X.env)).all (fun x => !x.1) && (backToKw cpos (keywordEach [] X.env)).all (fun x => x.1.isSome)
      && decide ((e :: es).length + ([] : List Keyword).length + (if ([] : List Keyword).isEmpty then 0 else 1) < 30)) = true := by rfl)
    (hline : (apos.endLine == cpos.line) = true := by rfl) (hs : starEach (e :: es) X.env = (false, eval e X.env) :: starEach es X.env := by rfl) (hplain : (backTo cpos (starEach es X.env)).any (·.1) = false := by rfl) :
    PE X (.Call (.Attribute o name apos) (e :: es) [] cpos) (tBM X.K T r to t) := by
  intro pins s σ H Q I h
  refine wpAny_Call_method_late hbase hfew hline rfl (thn (ho pins s σ H _ I h) fun v s1 ⟨x, H1, I1, r1, ty, q1⟩ => ?_)
  obtain ⟨h1, h2⟩ := tyV_is I1 r1 ty
  refine ⟨T, id, pa, slot, hty, h1, h2, ?_⟩
  have hA := ha cpos pins s1 σ H1 _ I1 q1
  rw [hs] at hA ⊢
  refine Calls.callWith_builtin (by show (false || (backTo cpos (starEach es X.env)).any (·.1)) = false; rw [hplain] <;> rfl) (Calls.evalArgs_plain ?_)
  exact thn hA fun us s2 ⟨vs, H2, I2, r2, q2⟩ => hm pins s2 σ H2 x vs v us Q I2 r1 r2 q2
end
end L2
namespace L2
open PySem PySem.Spec PyProof.Rows
def MtM (X : Cx) (id : String) (r : V → List V → Hp → VK → Prop) : Prop :=
  ∀ (pins : List (Addr × Obj)) (s : Shared) (σ : St) (H : Hp) (x : V) (xs : List V) (v : Value) (us : List Value) (Q : VK), Inv X pins σ H s → RelV x v → Vals xs us → r x xs H Q →
    wpAny (model X.prog X.w) X.A (call (.builtin id) (v :: us)) (EP X pins σ Q) X.xe s
theorem Vals.one : ∀ {x : V} {us : List Value}, Vals [x] us → ∃ u, us = [u] ∧ RelV x u
  | _, _, .cons r .nil => ⟨_, rfl, r⟩
theorem Vals.two : ∀ {x y : V} {us : List Value}, Vals [x, y] us → ∃ u v, us = [u, v] ∧ RelV x u ∧ RelV y v
  | _, _, _, .cons r (.cons q .nil) => ⟨_, _, rfl, r, q⟩
theorem Vals.zero : ∀ {us : List Value}, Vals [] us → us = []
  | _, .nil => rfl
theorem Vals.dropLast {xs : List V} {us : List Value} (h : Vals xs us) : Vals xs.dropLast us.dropLast := by
  induction h with
  | nil => exact .nil
  | cons r t ih =>
    cases t with
    | nil => exact .nil
    | cons q t' => exact .cons r ih
theorem Vals.eraseIdx : ∀ {xs : List V} {us : List Value} (i : Nat), Vals xs us → Vals (xs.eraseIdx i) (us.eraseIdx i)
  | _, _, _, .nil => .nil
  | _, _, 0, .cons _ t => t
  | _, _, i + 1, .cons r t => .cons r (Vals.eraseIdx i t)
theorem Vals.reverse {xs : List V} {us : List Value} (h : Vals xs us) : Vals xs.reverse us.reverse := by
  induction h with
  | nil => exact .nil
  | cons r t ih => rw [List.reverse_cons, List.reverse_cons]; exact Vals.append ih (.cons r .nil)
theorem erase_last {α : Type} (l : List α) : l.eraseIdx (l.length - 1) = l.dropLast := by
  induction l with
  | nil => rfl
  | cons a r ih =>
    cases r with
    | nil => rfl
    | cons b r =>
      have e : (a :: b :: r).length - 1 = ((b :: r).length - 1) + 1 := by
        have h1 : (a :: b :: r).length = r.length + 2 := rfl
        have h2 : (b :: r).length = r.length + 1 := rfl
        omega
      rw [e, List.eraseIdx_cons_succ, ih]
      all_goals rfl
section
variable {X : Cx} {pins : List (Addr × Obj)} {σ : St} {H : Hp} {s : Shared} {l b : Addr} {xs ys zs : List V}
theorem Inv.lset {its its' : List Value} {n : Nat} {f : Array Value → Array Value} {t' : Nat} (I : Inv X pins σ H s) (hH : H l = some (.lst xs))
    (e : s.heap.get? l = some { cls := .type "list", data := .seq its.toArray n }) (hf : f its.toArray = its'.toArray) (hv : Vals ys its') (hz : ys.length ≤ sizeLine) :
    Inv X pins σ (upd H l (.lst ys)) { s with heap := s.heap.update l (Obj.mapSeq f), toks := t' } := by
  have q := PySem.IsL.update e f
  rw [hf] at q
  refine I.write (x := l) (e := l) (by rw [hH]; exact trivial) (.inl rfl) (fun b' u hb hu => (Heap.get?_update_other s.heap (Obj.mapSeq f) (Ne.symm hb)).trans hu) ⟨_, q⟩ ?_
  exact ⟨hz, its', _, hv, q⟩
theorem Inv.lnew {its : List Value} {t' : Nat} (I : Inv X pins σ H s) (hv : Vals ys its) (hz : ys.length ≤ sizeLine) :
    Inv X pins σ (upd H s.heap.objs.size (.lst ys)) { s with heap := s.heap.push { cls := .type "list", data := .seq its.toArray }, toks := t' } :=
  I.laid (fun _ _ q => Heap.get?_push_of_some _ q) (Nat.le_refl _) ⟨hz, its, 0, hv, Heap.get?_push_size _ rfl⟩
theorem Inv.fresh (I : Inv X pins σ H s) : H s.heap.objs.size = none := I.hok.fresh (Nat.le_refl _)
theorem Inv.lstM (I : Inv X pins σ H s) (hH : H l = some (.lst xs)) : xs.length ≤ sizeLine ∧ ∃ (its : List Value) (n : Nat), Vals xs its ∧ xs.length = its.length ∧ s.heap.get? l = some { cls := .type "list", data := .seq its.toArray n } := by
  obtain ⟨z, its, n, r, e⟩ := I.hok l _ hH
  exact ⟨z, its, n, r, r.length, e⟩
theorem notLongL {n : Nat} (h : n ≤ sizeLine) : Builtin.List.listTooLong n = false := by
  unfold Builtin.List.listTooLong
  exact decide_eq_false (by omega)
end
section
variable {X : Cx}
def rAppend : V → List V → Hp → VK → Prop := fun x vs H Q => ∃ l xs y, x = .ref l ∧ vs = [y] ∧ H l = some (.lst xs) ∧ xs.length < sizeLine ∧ Q .non (upd H l (.lst (xs ++ [y])))
theorem mt_append : MtM X "list.append" rAppend := by
  intro pins s σ H x vs v us Q I rx rv h
  obtain ⟨l, xs, y, rfl, rfl, hH, hz, q⟩ := h
  cases rx
  obtain ⟨u, rfl, ru⟩ := rv.one
  obtain ⟨z, its, n, r, hl, e⟩ := I.lstM hH
  refine call_meets F.slot_list_append ⟨_, e, rfl⟩ F.entry_list_append (F.args_list_append_2 _ _) (PySem.list_append l its.toArray n u (by rw [List.size_toArray]; omega)) ⟨e, ?_⟩
  refine ⟨.non, _, I.lset (its' := its ++ [u]) hH e (by simp) (r.append (.cons ru .nil)) ?_, rfl, q⟩
  rw [List.length_append, List.length_singleton]
  omega
def rExtend : V → List V → Hp → VK → Prop := fun x vs H Q => ∃ l b xs zs, x = .ref l ∧ vs = [.ref b] ∧ H l = some (.lst xs) ∧ H b = some (.lst zs) ∧ xs.length + zs.length ≤ sizeLine ∧ Q .non (upd H l (.lst (xs ++ zs)))
theorem mt_extend : MtM X "list.extend" rExtend := by
  intro pins s σ H x vs v us Q I rx rv h
  obtain ⟨l, b, xs, zs, rfl, rfl, hH, hB, hz, q⟩ := h
  cases rx
  obtain ⟨u, rfl, ru⟩ := rv.one
  cases ru
  obtain ⟨z, its, n, r, hl, e⟩ := I.lstM hH
  obtain ⟨z2, its2, n2, r2, hl2, e2⟩ := I.lstM hB
  have hsz : its.toArray.size + its2.toArray.size ≤ sizeLine := by rw [List.size_toArray, List.size_toArray]; omega
  have hlong : ¬ (!its.toArray.isEmpty && Builtin.List.listTooLong (its.toArray.size + its2.toArray.size)) = true := by
    rw [notLongL hsz, Bool.and_false]
    exact Bool.false_ne_true
  refine call_meets F.slot_list_extend ⟨_, e, rfl⟩ F.entry_list_extend (F.args_list_extend_2 _ _)
    (AutoSeq1.list_extend_list_list_0 l its.toArray n b its2.toArray n2 hlong (by rw [List.size_toArray]; omega) (by omega)) ⟨e, e2, ?_⟩
  refine ⟨.non, _, I.lset (its' := its ++ its2) hH e (by simp) (r.append r2) ?_, rfl, q⟩
  rw [List.length_append]
  omega
def rPop : V → List V → Hp → VK → Prop := fun x vs H Q => ∃ l xs y, x = .ref l ∧ vs = [] ∧ H l = some (.lst xs) ∧ xs[xs.length - 1]? = some y ∧ Q y (upd H l (.lst xs.dropLast))
theorem mt_pop : MtM X "list.pop" rPop := by
  intro pins s σ H x vs v us Q I rx rv h
  obtain ⟨l, xs, y, rfl, rfl, hH, hy, q⟩ := h
  cases rx
  have hus := rv.zero
  subst hus
  obtain ⟨z, its, n, r, hl, e⟩ := I.lstM hH
  obtain ⟨u, hu, ru⟩ := r.get hy
  have hy' : its.toArray[its.toArray.size - 1]? = some u := by
    show its.toArray[its.length - 1]? = some u
    rw [← Array.getElem?_toList, ← hl]
    exact hu
  refine call_meets F.slot_list_pop ⟨_, e, rfl⟩ F.entry_list_pop (F.args_list_pop_1 _) (MeetsSeq.list_pop_last l its.toArray n u hy' (by rw [List.size_toArray]; omega)) ⟨e, ?_⟩
  refine ⟨y, _, I.lset (its' := its.dropLast) hH e ?_ r.dropLast ?_, ru, q⟩
  · show its.toArray.eraseIdxIfInBounds (its.toArray.size - 1) = its.dropLast.toArray
    rw [List.size_toArray, List.eraseIdxIfInBounds_toArray, erase_last]
  · rw [List.length_dropLast]
    omega
def rCat : R2 := fun x y H Q => ∃ l b xs zs, x = .ref l ∧ y = .ref b ∧ H l = some (.lst xs) ∧ H b = some (.lst zs) ∧ xs.length + zs.length ≤ sizeLine ∧ ∀ p, H p = none → Q (.ref p) (upd H p (.lst (xs ++ zs)))
theorem op_cat : OpR X (binaryOp .Add) rCat := by
  intro pins s σ H x y v u Q I rx ry h
  obtain ⟨l, b, xs, zs, rfl, rfl, hH, hB, hz, q⟩ := h
  cases rx
  cases ry
  obtain ⟨z, its, n, r, hl, e⟩ := I.lstM hH
  obtain ⟨z2, its2, n2, r2, hl2, e2⟩ := I.lstM hB
  refine PySem.P.add_list e e2 ?_ (by rw [List.size_toArray, List.size_toArray]; omega)
  have ea : its.toArray ++ its2.toArray = (its ++ its2).toArray := by simp
  rw [ea]
  exact ⟨.ref _, _, I.lnew (t' := s.toks) (r.append r2) (by rw [List.length_append]; omega), rfl, q _ I.fresh⟩
end
section
variable {prog : Program} {w : World} {A : Around} {E : Value → Shared → Prop} {s : Shared}
set_option maxRecDepth 100000 in
end
section
variable {X : Cx}
end
end L2
namespace L2
open PySem PySem.Spec PyProof.Rows
section
variable {κ : Type} [DecidableEq κ]
def valV (kvs : List (κ × V)) (k : κ) : Option V := (kvs.find? fun kv => decide (kv.1 = k)).map (·.2)
def putK (kvs : List (κ × V)) (k : κ) (v : V) : List (κ × V) :=
  if (kvs.any fun kv => decide (kv.1 = k)) = true then kvs.map (fun kv => if kv.1 = k then (kv.1, v) else kv) else kvs ++ [(k, v)]
def dropK (kvs : List (κ × V)) (k : κ) : List (κ × V) := kvs.filter fun kv => decide (kv.1 ≠ k)
theorem valV_pos {p : κ × V} {r : List (κ × V)} {k : κ} (e : p.1 = k) : valV (p :: r) k = some p.2 := by simp [valV, List.find?_cons, e]
theorem valV_neg {p : κ × V} {r : List (κ × V)} {k : κ} (e : ¬ p.1 = k) : valV (p :: r) k = valV r k := by simp [valV, List.find?_cons, e]
theorem valV_any (k : κ) : ∀ kvs : List (κ × V), (kvs.any fun kv => decide (kv.1 = k)) = (valV kvs k).isSome
  | [] => rfl
  | p :: r => by
    rw [List.any_cons]
    by_cases e : p.1 = k
    · simp only [valV_pos e, decide_eq_true e, Bool.true_or, Option.isSome_some]
    · rw [valV_neg e, decide_eq_false e, Bool.false_or]; exact valV_any k r
theorem valV_map (k j : κ) (y : V) : ∀ kvs : List (κ × V), valV (kvs.map fun kv => if kv.1 = k then (kv.1, y) else kv) j = (valV kvs j).map fun x => if j = k then y else x
  | [] => rfl
  | p :: r => by
    have ih := valV_map k j y r
    rw [List.map_cons]
    by_cases h : p.1 = k
    · rw [if_pos h]
      by_cases e : p.1 = j
      · rw [valV_pos (p := (p.1, y)) e, valV_pos e, Option.map_some, if_pos (e.symm.trans h)]
      · rw [valV_neg (p := (p.1, y)) e, valV_neg e, ih]
    · rw [if_neg h]
      by_cases e : p.1 = j
      · rw [valV_pos (p := p) e, valV_pos e, Option.map_some, if_neg (fun z => h (e.trans z))]
      · rw [valV_neg (p := p) e, valV_neg e, ih]
theorem valV_snoc (k j : κ) (y : V) : ∀ kvs : List (κ × V), valV kvs k = none → valV (kvs ++ [(k, y)]) j = if j = k then some y else valV kvs j
  | [], _ => by
    by_cases e : k = j
    · rw [if_pos e.symm]; exact valV_pos (p := (k, y)) e
    · rw [if_neg (fun z => e z.symm)]; exact valV_neg (p := (k, y)) e
  | p :: r, hn => by
    rw [List.cons_append]
    have hk : ¬ p.1 = k := fun z => by rw [valV_pos z] at hn; cases hn
    rw [valV_neg hk] at hn
    have ih := valV_snoc k j y r hn
    by_cases e : p.1 = j
    · rw [valV_pos e, valV_pos e, if_neg (fun z => hk (e.trans z))]
    · rw [valV_neg e, valV_neg e, ih]
theorem valV_put (kvs : List (κ × V)) (k j : κ) (y : V) : valV (putK kvs k y) j = if j = k then some y else valV kvs j := by
  unfold putK
  by_cases a : (kvs.any fun kv => decide (kv.1 = k)) = true
  · rw [if_pos a, valV_map]
    rw [valV_any] at a
    by_cases e : j = k
    · obtain ⟨x, hx⟩ := Option.isSome_iff_exists.mp a
      rw [if_pos e, e, hx, Option.map_some, if_pos rfl]
    · rw [if_neg e]
      cases valV kvs j with
      | none => rfl
      | some x => rw [Option.map_some, if_neg e]
  · rw [if_neg a]
    refine valV_snoc k j y kvs ?_
    rw [valV_any] at a
    cases q : valV kvs k with
    | none => rfl
    | some x => rw [q] at a; exact (a rfl).elim
theorem length_putK (kvs : List (κ × V)) (k : κ) (v : V) : (putK kvs k v).length ≤ kvs.length + 1 := by
  unfold putK
  split
  · rw [List.length_map]; omega
  · rw [List.length_append, List.length_cons, List.length_nil]; omega
theorem putK_new {kvs : List (κ × V)} {k : κ} (v : V) (h : valV kvs k = none) : putK kvs k v = kvs ++ [(k, v)] := by
  unfold putK
  rw [valV_any, h]
  exact if_neg (by decide)
theorem RelO.isSome_eq {o : Option V} {u : Option Value} (r : RelO o u) : o.isSome = u.isSome := by
  cases o with
  | none => cases u with
    | none => rfl
    | some _ => exact (show False from r).elim
  | some _ => cases u with
    | none => exact (show False from r).elim
    | some _ => rfl
theorem RelO.getD {o : Option V} {u : Option Value} {d : V} {d' : Value} (r : RelO o u) (rd : RelV d d') : RelV (o.getD d) (u.getD d') := by
  cases o with
  | none => cases u with
    | none => exact rd
    | some _ => exact (show False from r).elim
  | some _ => cases u with
    | none => exact (show False from r).elim
    | some _ => exact r
theorem KV.val {kvs : List (κ × V)} {vs : List (κ × Value)} (r : KV kvs vs) (k : κ) : RelO (valV kvs k) (valueAt vs k) := by
  unfold KV at r
  induction r with
  | nil => exact True.intro
  | @cons p q ps qs h t ih =>
    obtain ⟨h1, h2⟩ := h
    by_cases e : p.1 = k
    · have e' : q.1 = k := h1.symm.trans e
      have b : valueAt (q :: qs) k = some q.2 := by simp [valueAt, List.find?_cons, e']
      rw [valV_pos e, b]; exact h2
    · have e' : ¬ q.1 = k := fun z => e (h1.trans z)
      have b : valueAt (q :: qs) k = valueAt qs k := by simp [valueAt, List.find?_cons, e']
      rw [valV_neg e, b]; exact ih
theorem KV.any {kvs : List (κ × V)} {vs : List (κ × Value)} (r : KV kvs vs) (k : κ) : (kvs.any fun kv => decide (kv.1 = k)) = vs.any fun kv => decide (kv.1 = k) := by
  unfold KV at r
  induction r with
  | nil => rfl
  | cons h t ih => rw [List.any_cons, List.any_cons, ih, h.1]
theorem KV.repl {kvs : List (κ × V)} {vs : List (κ × Value)} (r : KV kvs vs) (k : κ) {y : V} {u : Value} (ry : RelV y u) :
    KV (kvs.map fun kv => if kv.1 = k then (kv.1, y) else kv) (vs.map fun kv => if kv.1 = k then (kv.1, u) else kv) := by
  unfold KV at r ⊢
  induction r with
  | nil => exact .nil
  | @cons p q ps qs h t ih =>
    rw [List.map_cons, List.map_cons]
    refine .cons ?_ ih
    obtain ⟨h1, h2⟩ := h
    by_cases e : p.1 = k
    · rw [if_pos e, if_pos (h1.symm.trans e)]; exact ⟨h1, ry⟩
    · rw [if_neg e, if_neg (fun z => e (h1.trans z))]; exact ⟨h1, h2⟩
theorem KV.put {kvs : List (κ × V)} {vs : List (κ × Value)} (r : KV kvs vs) (k : κ) {y : V} {u : Value} (ry : RelV y u) : KV (putK kvs k y) (stored vs k u) := by
  unfold putK stored
  rw [r.any k]
  by_cases e : (vs.any fun kv => decide (kv.1 = k)) = true
  · rw [if_pos e, if_pos e]; exact r.repl k ry
  · rw [if_neg e, if_neg e]; exact Paired.snoc r ⟨rfl, ry⟩
theorem KV.drop {kvs : List (κ × V)} {vs : List (κ × Value)} (r : KV kvs vs) (k : κ) : KV (dropK kvs k) (without vs k) := by
  unfold KV at r ⊢
  unfold dropK without
  induction r with
  | nil => exact .nil
  | @cons p q ps qs h t ih =>
    obtain ⟨h1, h2⟩ := h
    rw [List.filter_cons, List.filter_cons]
    by_cases e : p.1 = k
    · have a : ¬ decide (p.1 ≠ k) = true := by simp [e]
      have b : ¬ decide (q.1 ≠ k) = true := by simp [h1.symm.trans e]
      rw [if_neg a, if_neg b]; exact ih
    · have e' : ¬ q.1 = k := fun z => e (h1.trans z)
      have a : decide (p.1 ≠ k) = true := by simp [e]
      have b : decide (q.1 ≠ k) = true := by simp [e']
      rw [if_pos a, if_pos b]; exact .cons ⟨h1, h2⟩ ih
theorem KV.keys {kvs : List (κ × V)} {vs : List (κ × Value)} (r : KV kvs vs) : kvs.map (·.1) = vs.map (·.1) := by
  unfold KV at r
  induction r with
  | nil => rfl
  | cons h t ih => rw [List.map_cons, List.map_cons, ih, h.1]
theorem KV.length {kvs : List (κ × V)} {vs : List (κ × Value)} (r : KV kvs vs) : kvs.length = vs.length := Paired.length r
theorem dropK_le (kvs : List (κ × V)) (k : κ) : (dropK kvs k).length ≤ kvs.length := List.length_filter_le _ _
end
theorem kV_is {P : Program} {w : World} {k : Key} {u : Value} (r : RelV (kV k) u) : (mixKind P w).is k u = true := by
  cases k with
  | inl i => obtain ⟨t, e⟩ := (show ∃ t, u = Value.int i t from r); subst e; exact mixKind_int P w i t
  | inr x => obtain ⟨t, e⟩ := (show ∃ t, u = Value.str x t from r); subst e; exact mixKind_str P w x t
theorem items_are {P : Program} {w : World} : ∀ {ks : List Key} {us : List Value}, Vals (ks.map kV) us → ItemsAre (mixKind P w) ks us
  | [], _, r => by rw [List.map_nil] at r; cases r; exact .nil
  | k :: ks, _, r => by
    rw [List.map_cons] at r
    cases r with
    | cons h t => exact .cons (kV_is h) (items_are t)
abbrev KT (H : Hp) : List (List Key × V) → List (List Key × Addr × Value) → Prop := Paired fun p q => p.1 = q.1 ∧ H q.2.1 = some (.tup (p.1.map kV)) ∧ RelV p.2 q.2.2
theorem KT.val {H : Hp} {kvs : List (List Key × V)} {xs : List (List Key × Addr × Value)} (r : KT H kvs xs) (k : List Key) : RelO (valV kvs k) ((atKey xs k).map (·.2)) := by
  induction r with
  | nil => exact True.intro
  | @cons p q ps qs h t ih =>
    obtain ⟨h1, _, h2⟩ := h
    by_cases e : p.1 = k
    · have e' : q.1 = k := h1.symm.trans e
      have b : atKey (q :: qs) k = some q.2 := by simp [atKey, List.find?_cons, e']
      rw [valV_pos e, b]; exact h2
    · have e' : ¬ q.1 = k := fun z => e (h1.trans z)
      have b : atKey (q :: qs) k = atKey qs k := by simp [atKey, List.find?_cons, e']
      rw [valV_neg e, b]; exact ih
theorem KT.repl {H : Hp} {kvs : List (List Key × V)} {xs : List (List Key × Addr × Value)} (r : KT H kvs xs) (k : List Key) {y : V} {u : Value} (ry : RelV y u) :
    KT H (kvs.map fun kv => if kv.1 = k then (kv.1, y) else kv) (xs.map (putAt k u)) := by
  induction r with
  | nil => exact .nil
  | @cons p q ps qs h t ih =>
    rw [List.map_cons, List.map_cons]
    refine .cons ?_ ih
    obtain ⟨h1, h2, h3⟩ := h
    unfold putAt
    by_cases e : p.1 = k
    · rw [if_pos e, if_pos (h1.symm.trans e)]; exact ⟨h1, h2, ry⟩
    · rw [if_neg e, if_neg (fun z => e (h1.trans z))]; exact ⟨h1, h2, h3⟩
theorem KT.put {H : Hp} {kvs : List (List Key × V)} {xs : List (List Key × Addr × Value)} (r : KT H kvs xs) (k : List Key) {b : Addr} {y : V} {u : Value} (hb : H b = some (.tup (k.map kV))) (ry : RelV y u) :
    KT H (putK kvs k y) (storedH xs k b u) := by
  have e : (kvs.any fun kv => decide (kv.1 = k)) = (atKey xs k).isSome := by
    rw [valV_any, (r.val k).isSome_eq, Option.isSome_map]
  unfold putK storedH
  rw [e]
  by_cases q : (atKey xs k).isSome = true
  · rw [if_pos q, if_pos q]; exact r.repl k ry
  · rw [if_neg q, if_neg q]; exact Paired.snoc r ⟨rfl, hb, ry⟩
theorem KT.keeps {H H' : Hp} {kvs : List (List Key × V)} {xs : List (List Key × Addr × Value)} (r : KT H kvs xs) (ht : ∀ b ys, H b = some (.tup ys) → H' b = some (.tup ys)) : KT H' kvs xs :=
  Paired.mapP r fun _ _ z => ⟨z.1, ht _ _ z.2.1, z.2.2⟩
section
variable {P : Program} {w : World} {H : Hp} {h : Heap} {a : Addr}
theorem rd_of {u : HO} (ok : HOk P w H h) (e : Rd H a u) : ObjOk P w H h a u := e.ok ok
theorem dk_rd {kvs : List (Key × V)} (ok : HOk P w H h) (e : Rd H a (.dK kvs)) : kvs.length ≤ sizeLine ∧ (a == sysModules) = false ∧ ∃ vs, KV kvs vs ∧ h.DictOf (mixKind P w) a vs :=
  show ObjOk P w H h a (.dK kvs) from rd_of ok e
theorem dk_of {kvs : List (Key × V)} (ok : HOk P w H h) (e : H a = some (.dK kvs)) : kvs.length ≤ sizeLine ∧ (a == sysModules) = false ∧ ∃ vs, KV kvs vs ∧ h.DictOf (mixKind P w) a vs := dk_rd ok (.inl e)
theorem key_of {ks : List Key} (ok : HOk P w H h) (e : H a = some (.tup (ks.map kV))) : (tupleKind (mixKind P w)).is h ks a := by
  obtain ⟨_, its, r, o, h1, h2, n, h3⟩ := (show ObjOk P w H h a (.tup (ks.map kV)) from ok a _ e)
  exact ⟨o, its.toArray, n, h1, h2, h3, by simpa using items_are r⟩
theorem dt_rd {kvs : List (List Key × V)} (ok : HOk P w H h) (e : Rd H a (.dT kvs)) : kvs.length ≤ sizeLine ∧ (a == sysModules) = false ∧
    ∃ xs, KT H kvs xs ∧ h.DictOfH (tupleKind (mixKind P w)) a xs := by
  obtain ⟨z, y, xs, r, o, es, ep, h1, h2, h3, h4, h5⟩ := (show ObjOk P w H h a (.dT kvs) from rd_of ok e)
  refine ⟨z, y, xs, r, o, es, ep, h1, h2, h3, h4, fun x hx => ?_, h5⟩
  have all : ∀ {l : List (List Key × V)} {m : List (List Key × Addr × Value)}, KT H l m → ∀ x ∈ m, (tupleKind (mixKind P w)).is h x.1 x.2.1 := by
    intro l m q
    induction q with
    | nil => intro x hx; exact nomatch hx
    | @cons p q ps qs hq t ih =>
      intro x hx
      rcases List.mem_cons.mp hx with e | hx
      · subst e
        exact key_of ok (by rw [← hq.1]; exact hq.2.1)
      · exact ih x hx
  exact all r x hx
theorem dt_of {kvs : List (List Key × V)} (ok : HOk P w H h) (e : H a = some (.dT kvs)) : kvs.length ≤ sizeLine ∧ (a == sysModules) = false ∧
    ∃ xs, KT H kvs xs ∧ h.DictOfH (tupleKind (mixKind P w)) a xs := dt_rd ok (.inl e)
end
def DGet (H : Hp) (a : Addr) (y : V) (r : Option V) : Prop :=
  (∃ kvs k, Rd H a (.dK kvs) ∧ y = kV k ∧ r = valV kvs k) ∨ ∃ kvs k b, Rd H a (.dT kvs) ∧ y = .ref b ∧ H b = some (.tup (k.map kV)) ∧ r = valV kvs k
def DPut (H : Hp) (a : Addr) (y v : V) (H' : Hp) : Prop :=
  (∃ kvs k, H a = some (.dK kvs) ∧ y = kV k ∧ kvs.length < sizeLine ∧ H' = upd H a (.dK (putK kvs k v))) ∨
  ∃ kvs k b, H a = some (.dT kvs) ∧ y = .ref b ∧ H b = some (.tup (k.map kV)) ∧ kvs.length < sizeLine ∧ H' = upd H a (.dT (putK kvs k v))
theorem DGet.k {H : Hp} {a : Addr} {kvs : List (Key × V)} {k : Key} (e : H a = some (.dK kvs)) : DGet H a (kV k) (valV kvs k) := .inl ⟨kvs, k, .inl e, rfl, rfl⟩
theorem DGet.t {H : Hp} {a b : Addr} {kvs : List (List Key × V)} {k : List Key} (e : H a = some (.dT kvs)) (eb : H b = some (.tup (k.map kV))) : DGet H a (.ref b) (valV kvs k) := .inr ⟨kvs, k, b, .inl e, rfl, eb, rfl⟩
theorem DPut.k {H : Hp} {a : Addr} {kvs : List (Key × V)} {k : Key} {v : V} (e : H a = some (.dK kvs)) (hl : kvs.length < sizeLine) : DPut H a (kV k) v (upd H a (.dK (putK kvs k v))) := .inl ⟨kvs, k, e, rfl, hl, rfl⟩
theorem DPut.t {H : Hp} {a b : Addr} {kvs : List (List Key × V)} {k : List Key} {v : V} (e : H a = some (.dT kvs)) (eb : H b = some (.tup (k.map kV))) (hl : kvs.length < sizeLine) :
    DPut H a (.ref b) v (upd H a (.dT (putK kvs k v))) := .inr ⟨kvs, k, b, e, rfl, eb, hl, rfl⟩
section
variable {X : Cx} {pins : List (Addr × Obj)} {σ : St} {H : Hp} {s : Shared} {a : Addr} {y v : V} {u r : Value} {o : Option V} {A : Around} {E : Value → Shared → Prop}
theorem Inv.big (I : Inv X pins σ H s) : sysModules < s.heap.objs.size := by
  have h : mainGlobals < s.heap.objs.size := (I.mod.glob.keeps I.bk).lt
  exact Nat.lt_trans (by decide) h
theorem d_getItem {Q : Value → Shared → Prop} (hu : A.units + 1 < cLine) (I : Inv X pins σ H s) (g : DGet H a y (some v)) (ry : RelV y u) (h : ∀ w' s', Inv X pins σ H s' → RelV v w' → Q w' s') :
    wpAny (model X.prog X.w) A (getItem (.ref a) u) Q E s := by
  rcases g with ⟨kvs, k, e, ey, l⟩ | ⟨kvs, k, b, e, ey, eb, l⟩
  · subst ey
    obtain ⟨z, hd, vs, rel, dd⟩ := dk_rd I.hok e
    obtain ⟨w', hw, rw'⟩ := RelO.some_of (v := v) (o := valueAt vs k) (by rw [l]; exact rel.val k)
    exact wpAny_getItem_of (kV_is ry) dd.mapOf hw (h w' _ (I.tok _) rw')
  · subst ey
    cases (show u = Value.ref b from ry)
    obtain ⟨z, hd, xs, rel, dd⟩ := dt_rd I.hok e
    obtain ⟨w', hw, rw'⟩ := RelO.some_of (v := v) (o := (atKey xs k).map (·.2)) (by rw [l]; exact rel.val k)
    obtain ⟨p, hp, hp2⟩ := Option.map_eq_some_iff.mp hw
    refine wpAny_getItem_heap (tupleKind_room_in1 hu) (key_of I.hok eb) dd hp ?_
    rw [hp2]
    exact h w' _ (I.tok _) rw'
theorem d_in {Q : Value → Shared → Prop} (hu : A.units + 1 < cLine) (I : Inv X pins σ H s) (g : DGet H a y o) (ry : RelV y u) (h : ∀ s', Inv X pins σ H s' → Q (.bool o.isSome) s') :
    wpAny (model X.prog X.w) A (compareOp .In u (.ref a)) Q E s := by
  rcases g with ⟨kvs, k, e, ey, l⟩ | ⟨kvs, k, b, e, ey, eb, l⟩
  · subst ey
    obtain ⟨z, hd, vs, rel, dd⟩ := dk_rd I.hok e
    refine wpAny_in_of (kV_is ry) hd dd.mapOf ?_
    rw [← (rel.val k).isSome_eq, ← l]
    exact h _ (I.tok _)
  · subst ey
    cases (show u = Value.ref b from ry)
    obtain ⟨z, hd, xs, rel, dd⟩ := dt_rd I.hok e
    refine wpAny_in_heap (tupleKind_room_in1 hu) (key_of I.hok eb) hd dd ?_
    have q := (rel.val k).isSome_eq
    rw [Option.isSome_map] at q
    rw [← q, ← l]
    exact h _ (I.tok _)
theorem d_notIn {Q : Value → Shared → Prop} (hu : A.units + 1 < cLine) (I : Inv X pins σ H s) (g : DGet H a y o) (ry : RelV y u) (h : ∀ s', Inv X pins σ H s' → Q (.bool (!o.isSome)) s') :
    wpAny (model X.prog X.w) A (compareOp .NotIn u (.ref a)) Q E s := by
  rcases g with ⟨kvs, k, e, ey, l⟩ | ⟨kvs, k, b, e, ey, eb, l⟩
  · subst ey
    obtain ⟨z, hd, vs, rel, dd⟩ := dk_rd I.hok e
    refine wpAny_notIn_of (kV_is ry) hd dd.mapOf ?_
    rw [← (rel.val k).isSome_eq, ← l]
    exact h _ (I.tok _)
  · subst ey
    cases (show u = Value.ref b from ry)
    obtain ⟨z, hd, xs, rel, dd⟩ := dt_rd I.hok e
    refine wpAny_notIn_heap (tupleKind_room_in1 hu) (key_of I.hok eb) hd dd ?_
    have q := (rel.val k).isSome_eq
    rw [Option.isSome_map] at q
    rw [← q, ← l]
    exact h _ (I.tok _)
theorem d_write {h' : Heap} {t' : Nat} {ob : HO} (I : Inv X pins σ H s) (mu : Mut (H a)) (hs : Heap.SameBut a s.heap h') (he : ∃ q, h'.get? a = some q) (new : ObjOk X.prog X.w (upd H a ob) h' a ob) :
    Inv X pins σ (upd H a ob) { s with heap := h', toks := t' } :=
  I.write (x := a) (e := a) mu (.inl rfl) (fun b q hb z => (hs.2 b hb).trans z) he new
theorem dk_new {P : Program} {w : World} {H' : Hp} {h' : Heap} {kvs : List (Key × V)} {vs : List (Key × Value)} (z : kvs.length ≤ sizeLine) (hd : (a == sysModules) = false) (rel : KV kvs vs) (dd : h'.DictOf (mixKind P w) a vs) :
    ObjOk P w H' h' a (.dK kvs) := ⟨z, hd, vs, rel, dd⟩
theorem d_setItem {H' : Hp} {Q : Unit → Shared → Prop} (hu : A.units + 1 < cLine) (I : Inv X pins σ H s) (g : DPut H a y v H') (ry : RelV y u) (rv : RelV v r) (h : ∀ s', Inv X pins σ H' s' → Q () s') :
    wpAny (model X.prog X.w) A (setItem (.ref a) u r) Q E s := by
  rcases g with ⟨kvs, k, e, ey, l, eH⟩ | ⟨kvs, k, b, e, ey, eb, l, eH⟩
  · subst ey eH
    obtain ⟨z, hd, vs, rel, dd⟩ := dk_of I.hok e
    have hz : vs.length ≤ sizeLine := by rw [← rel.length]; exact z
    have hl : (putK kvs k v).length ≤ sizeLine := by have := length_putK kvs k v; omega
    refine wpAny_setItem_pairs (hsz := hz) (kV_is ry) dd fun h' dd' hs => h _ ?_
    have he : ∃ q, h'.get? a = some q := let ⟨q, _, _, hq, _⟩ := dd'; ⟨q, hq⟩
    exact d_write I (by rw [e]; exact True.intro) hs he (dk_new hl hd (rel.put k rv) dd')
  · subst ey eH
    cases (show u = Value.ref b from ry)
    obtain ⟨z, hd, xs, rel, dd⟩ := dt_of I.hok e
    have hz : xs.length ≤ sizeLine := by rw [← Paired.length rel]; exact z
    have hl : (putK kvs k v).length ≤ sizeLine := by have := length_putK kvs k v; omega
    refine wpAny_setItem_heap (hsz := hz) (tupleKind_room_in1 hu) (key_of I.hok eb) dd fun h' dd' hs => h _ ?_
    obtain ⟨q, es, ep, hq, h2, h3, h4, _, h5⟩ := dd'
    refine d_write I (by rw [e]; exact True.intro) hs ⟨q, hq⟩ ⟨hl, hd, _, (rel.put k eb rv).keeps fun c ys ec => ?_, q, es, ep, hq, h2, h3, h4, h5⟩
    rw [upd_ne (ne_of ec e (fun z => nomatch z))]
    exact ec
end
section
variable {X : Cx} {pins : List (Addr × Obj)} {σ : St} {H : Hp} {s : Shared} {a : Addr} {kvs : List (Key × V)} {k : Key} {u : Value} {A : Around} {E : Value → Shared → Prop}
theorem d_delItem {Q : Unit → Shared → Prop} (I : Inv X pins σ H s) (e : H a = some (.dK kvs)) (ry : RelV (kV k) u) (l : (valV kvs k).isSome = true) (h : ∀ s', Inv X pins σ (upd H a (.dK (dropK kvs k))) s' → Q () s') :
    wpAny (model X.prog X.w) A (delItem (.ref a) u) Q E s := by
  obtain ⟨z, hd, vs, rel, dd⟩ := dk_of I.hok e
  refine wpAny_delItem_slot dd.typeIs (by decide) PySem.F.slot_dict_delitem
    (call_meetsIn PySem.F.slot_dict_delitem dd.typeIs PySem.F.entry_dict_delitem (PySem.F.args_dict_delitem_2 _ _) (meets_dict_delitem_pairs (mixKind X.prog X.w) a (kV_is ry)) ⟨vs, dd, by rw [← rel.length]; exact z, by rw [← (rel.val k).isSome_eq]; exact l, fun h' dd' hs => h _ ?_⟩)
  have he : ∃ q, h'.get? a = some q := let ⟨q, _, _, hq, _⟩ := dd'; ⟨q, hq⟩
  exact d_write I (by rw [e]; exact True.intro) hs he (dk_new (Nat.le_trans (dropK_le kvs k) z) hd (rel.drop k) dd')
theorem d_pop {v : V} {more : List Value} {Q : Value → Shared → Prop} (I : Inv X pins σ H s) (e : H a = some (.dK kvs)) (ry : RelV (kV k) u) (l : valV kvs k = some v) (hm : more = [] ∨ ∃ x, more = [x])
    (h : ∀ w' s', Inv X pins σ (upd H a (.dK (dropK kvs k))) s' → RelV v w' → Q w' s') : wpAny (model X.prog X.w) A (call (.builtin "dict.pop") (.ref a :: u :: more)) Q E s := by
  obtain ⟨z, hd, vs, rel, dd⟩ := dk_of I.hok e
  obtain ⟨w', hw, rw'⟩ := RelO.some_of (v := v) (o := valueAt vs k) (by rw [← l]; exact rel.val k)
  have hp : (keyPart u).isSome = true := by
    cases k with
    | inl i => obtain ⟨t, q⟩ := (show ∃ t, u = Value.int i t from ry); subst q; rfl
    | inr x => obtain ⟨t, q⟩ := (show ∃ t, u = Value.str x t from ry); subst q; rfl
  have ha : argsOk "dict.pop" ⟨.ref a :: u :: more, []⟩ := by
    rcases hm with q | ⟨x, q⟩
    · subst q; exact PySem.F.args_dict_pop_2 _ _
    · subst q; exact PySem.F.args_dict_pop_3 _ _ _
  refine call_meetsIn PySem.F.slot_dict_pop dd.typeIs PySem.F.entry_dict_pop ha (meets_dict_pop_there (mixKind X.prog X.w) a (kV_is ry) more hm hp)
    ⟨vs, w', dd, by rw [← rel.length]; exact z, hw, fun h' dd' hs => h w' _ ?_ rw'⟩
  have he : ∃ q, h'.get? a = some q := let ⟨q, _, _, hq, _⟩ := dd'; ⟨q, hq⟩
  exact d_write I (by rw [e]; exact True.intro) hs he (dk_new (Nat.le_trans (dropK_le kvs k) z) hd (rel.drop k) dd')
theorem d_popD {r : Value} {Q : Value → Shared → Prop} (I : Inv X pins σ H s) (e : H a = some (.dK kvs)) (ry : RelV (kV k) u) (l : valV kvs k = none) (h : ∀ s', Inv X pins σ H s' → Q r s') :
    wpAny (model X.prog X.w) A (call (.builtin "dict.pop") [.ref a, u, r]) Q E s := by
  obtain ⟨z, hd, vs, rel, dd⟩ := dk_of I.hok e
  have hn : valueAt vs k = none := RelO.none_of (by rw [← l]; exact rel.val k)
  have hp : (keyPart u).isSome = true := by
    cases k with
    | inl i => obtain ⟨t, q⟩ := (show ∃ t, u = Value.int i t from ry); subst q; rfl
    | inr x => obtain ⟨t, q⟩ := (show ∃ t, u = Value.str x t from ry); subst q; rfl
  exact call_meetsIn PySem.F.slot_dict_pop dd.typeIs PySem.F.entry_dict_pop (PySem.F.args_dict_pop_3 _ _ _) (meets_dict_pop_default (mixKind X.prog X.w) a (kV_is ry) hd hp r) ⟨vs, dd, hn, h _ (I.tok _)⟩
end
def NoSl (i : Expr) : Prop := ∀ ov iv, subscripted i false ov iv = operate [ov, iv] (getItem ov iv)
theorem subD_of {prog : Program} {w : World} {A : Around} {E : Value → Shared → Prop} {s : Shared} {env : Env} {value slice : Expr} {pos : Pos} {T id : String} {Q : Value → Shared → Prop}
    (hl : typeLookup (.type T) "__getitem__" = pure (some (.builtin id))) (hs : NoSl slice)
    (h : wpAny (model prog w) A (eval value env) (fun o s₁ => wpAny (model prog w) A (eval slice env) (fun i s₂ => s₂.TypeIs o T ∧ wpAny (model prog w) A (getItem o i) Q E s₂) E s₁) E s) :
    wpAny (model prog w) A (eval (.Subscript value slice pos) env) Q E s := by
  refine Subscript_ (wpAny_mono h (fun o s₁ h₁ => wpAny_mono h₁ (fun i s₂ h₂ => ?_) fun _ _ x => x) fun _ _ x => x)
  obtain ⟨hT, h₂⟩ := h₂
  unfold subscriptTail
  refine wpAny_bind ?_
  rw [getitemInPython_of_ne hT.not_modules]
  refine wpAny_bind (wpAny_specialOf hT hl ?_)
  have fin : wpAny (model prog w) A (subscripted slice false o i) (fun r s₃ => wpAny (model prog w) A (letTemporaryGo value o r >>= fun _ => pure r) Q E s₃) E s₂ := by
    rw [hs o i]
    exact wpAny_operating (wpAny_mono h₂ (fun r s₃ h₃ => wpAny_bind (wpAny_letTemporaryGo (wpAny_pure h₃))) fun _ _ x => x)
  first
    | exact wpAny_pure (wpAny_bind fin)
    | exact wpAny_bind (wpAny_pure (wpAny_bind fin))
    | exact wpAny_bind fin
theorem dict_typeIs {X : Cx} {pins : List (Addr × Obj)} {σ : St} {H : Hp} {s : Shared} {a : Addr} {y : V} {o : Option V} (I : Inv X pins σ H s) (g : DGet H a y o) : s.TypeIs (.ref a) "dict" := by
  rcases g with ⟨kvs, k, e, _, _⟩ | ⟨kvs, k, b, e, _, _, _⟩
  · obtain ⟨_, _, vs, _, dd⟩ := dk_rd I.hok e
    exact dd.typeIs
  · obtain ⟨_, _, xs, _, dd⟩ := dt_rd I.hok e
    exact dd.typeIs
def tDGet (td ty : TE) : TE := fun σ H Q => td σ H fun x H1 => ty σ H1 fun y H2 => ∃ a v, x = .ref a ∧ DGet H2 a y (some v) ∧ Q v H2
def tDIn (ty td : TE) : TE := fun σ H Q => ty σ H fun y H1 => td σ H1 fun x H2 => ∃ a o, x = .ref a ∧ DGet H2 a y o ∧ Q (.bl o.isSome) H2
def tDNotIn (ty td : TE) : TE := fun σ H Q => ty σ H fun y H1 => td σ H1 fun x H2 => ∃ a o, x = .ref a ∧ DGet H2 a y o ∧ Q (.bl (!o.isSome)) H2
def sDPut (td ty tv : TE) : TS := fun D σ H => tv σ H fun v H1 => td σ H1 fun x H2 => ty σ H2 fun y H3 => ∃ a H4, x = .ref a ∧ DPut H3 a y v H4 ∧ D.nx σ H4
section
variable {X : Cx} {o i e value : Expr} {pos pos' tpos : Pos} {td ty tv : TE}
theorem pe_dget (hu : X.A.units + 1 < cLine) (ho : PE X o td) (hi : PE X i ty) (hs : NoSl i) : PE X (.Subscript o i pos) (tDGet td ty) := by
  intro pins s σ H Q I h
  refine subD_of PySem.F.slot_dict_getitem.lookup hs (thn (ho pins s σ H _ I h) fun u s1 ⟨x, H1, I1, rx, q1⟩ => thn (hi pins s1 σ H1 _ I1 q1) fun iv s2 ⟨y, H2, I2, ry, a, v, ex, g, q2⟩ => ?_)
  subst ex
  obtain rfl : u = Value.ref a := rx
  exact ⟨dict_typeIs I2 g, d_getItem hu I2 g ry fun w' s3 I3 rw' => ⟨v, H2, I3, rw', q2⟩⟩
theorem pc_din (hu : X.A.units + 1 < cLine) (hi : PE X i ty) (ho : PE X o td) : PC X .In i o (tDIn ty td) := by
  intro pins s σ H Q I h
  refine thn (hi pins s σ H _ I h) fun iv s1 ⟨y, H1, I1, ry, q1⟩ => thn (ho pins s1 σ H1 _ I1 q1) fun u s2 ⟨x, H2, I2, rx, a, ov, ex, g, q2⟩ => ?_
  subst ex
  obtain rfl : u = Value.ref a := rx
  exact d_in hu I2 g ry fun s3 I3 => ⟨.bl ov.isSome, H2, I3, rfl, q2⟩
theorem pc_dnotin (hu : X.A.units + 1 < cLine) (hi : PE X i ty) (ho : PE X o td) : PC X .NotIn i o (tDNotIn ty td) := by
  intro pins s σ H Q I h
  refine thn (hi pins s σ H _ I h) fun iv s1 ⟨y, H1, I1, ry, q1⟩ => thn (ho pins s1 σ H1 _ I1 q1) fun u s2 ⟨x, H2, I2, rx, a, ov, ex, g, q2⟩ => ?_
  subst ex
  obtain rfl : u = Value.ref a := rx
  exact d_notIn hu I2 g ry fun s3 I3 => ⟨.bl (!ov.isSome), H2, I3, rfl, q2⟩
theorem ps_dput (hu : X.A.units + 1 < cLine) (ho : PE X o td) (hi : PE X i ty) (hv : PE X value tv) (hs : swapsWith value (some (.Subscript o i pos')) pos.line X.env = pure false) :
    PS X (.Assign [.Subscript o i pos'] value pos) (sDPut td ty tv) := by
  intro pins s σ H D I h
  refine wpAny_Assign_Subscript (thn (hv pins s σ H _ I h) fun r s1 ⟨v, H1, I1, rv, q1⟩ => thn (ho pins s1 σ H1 _ I1 q1) fun u s2 ⟨x, H2, I2, rx, q2⟩ => thn (hi pins s2 σ H2 _ I2 q2) fun iv s3 ⟨y, H3, I3, ry, a, H4, ex, g, q3⟩ => ?_) hs
  subst ex
  obtain rfl : u = Value.ref a := rx
  exact d_setItem hu I3 g ry rv fun s4 I4 => ⟨σ, H4, I4, q3⟩
end
theorem dk_empty {P : Program} {w : World} {H : Hp} (h : Heap) (hb : sysModules < h.objs.size) : ObjOk P w H (h.push { cls := .type "dict", data := .dict #[] }) h.objs.size (.dK []) :=
  ⟨Nat.zero_le _, beq_eq_false_iff_ne.mpr (Ne.symm (Nat.ne_of_lt hb)), [], .nil, Heap.DictOf.new h⟩
def tDNewK : TE := fun _ H Q => ∀ p, H p = none → Q (.ref p) (upd H p (.dK []))
section
variable {X : Cx} {pos : Pos}
theorem pe_dnewK : PE X (.Dict [] [] pos) tDNewK := fun pins s σ H Q I h =>
  wpAny_Dict_empty ⟨.ref s.heap.objs.size, _, I.laid (a := s.heap.objs.size) (o := .dK []) (t' := s.toks) (fun _ _ q => Heap.get?_push_of_some _ q) (Nat.le_refl _) (dk_empty s.heap I.big), rfl, h _ (I.hok.fresh (Nat.le_refl _))⟩
end
structure M1 (X : Cx) (o : Expr) (m : Str) (apos : Pos) (e : Expr) (cpos : Pos) : Prop where
  base : attributeBase o m X.env (eval o X.env) = eval o X.env
  few : ((backTo cpos (starEach [e] X.env)).all (fun x => !x.1) && (backToKw cpos (keywordEach [] X.env)).all (fun x => x.1.isSome)
    && decide (([e] : List Expr).length + ([] : List Keyword).length + (if ([] : List Keyword).isEmpty then 0 else 1) < 30)) = true
  line : (apos.endLine == cpos.line) = true
  trees : backTo cpos (starEach [e] X.env) = [(false, eval e X.env)]
structure M2 (X : Cx) (o : Expr) (m : Str) (apos : Pos) (e f : Expr) (cpos : Pos) : Prop where
  base : attributeBase o m X.env (eval o X.env) = eval o X.env
  few : ((backTo cpos (starEach [e, f] X.env)).all (fun x => !x.1) && (backToKw cpos (keywordEach [] X.env)).all (fun x => x.1.isSome)
    && decide (([e, f] : List Expr).length + ([] : List Keyword).length + (if ([] : List Keyword).isEmpty then 0 else 1) < 30)) = true
  line : (apos.endLine == cpos.line) = true
  trees : backTo cpos (starEach [e, f] X.env) = [(false, eval e X.env), (false, eval f X.env)]
def IsD (H : Hp) (a : Addr) : Prop := (∃ kvs, Rd H a (.dK kvs)) ∨ ∃ kvs, Rd H a (.dT kvs)
theorem isD_at {X : Cx} {pins : List (Addr × Obj)} {σ : St} {H : Hp} {s : Shared} {a : Addr} (I : Inv X pins σ H s) (d : IsD H a) :
    s.TypeIs (.ref a) "dict" ∧ (∀ b, Value.ref a = .ref b → ∃ ob, s.heap.get? b = some ob ∧ ob.dict = none) ∧ (a == sysModules) = false := by
  rcases d with ⟨kvs, e⟩ | ⟨kvs, e⟩
  · obtain ⟨_, hd, vs, _, dd⟩ := dk_rd I.hok e
    refine ⟨dd.typeIs, fun b q => ?_, hd⟩
    cases q
    obtain ⟨ob, _, _, h1, h2, _⟩ := dd
    exact ⟨ob, h1, h2.2.1⟩
  · obtain ⟨_, hd, xs, _, dd⟩ := dt_rd I.hok e
    refine ⟨dd.typeIs, fun b q => ?_, hd⟩
    cases q
    obtain ⟨ob, _, _, h1, h2, _⟩ := dd
    exact ⟨ob, h1, h2.2.1⟩
section
variable {X : Cx} {pins : List (Addr × Obj)} {σ : St} {H : Hp} {s : Shared} {a : Addr} {y d : V} {u r : Value} {o : Option V} {A : Around} {E : Value → Shared → Prop}
theorem d_get1 {Q : Value → Shared → Prop} (hu : A.units + 1 < cLine) (I : Inv X pins σ H s) (g : DGet H a y o) (ry : RelV y u) (h : ∀ w' s', Inv X pins σ H s' → RelV (o.getD .non) w' → Q w' s') :
    wpAny (model X.prog X.w) A (call (.builtin "dict.get") [.ref a, u]) Q E s := by
  rcases g with ⟨kvs, k, e, ey, l⟩ | ⟨kvs, k, b, e, ey, eb, l⟩
  · subst ey
    obtain ⟨z, hd, vs, rel, dd⟩ := dk_rd I.hok e
    refine call_meetsIn PySem.F.slot_dict_get dd.typeIs PySem.F.entry_dict_get (PySem.F.args_dict_get_2 _ _) (meets_dict_get (mixKind X.prog X.w) a (kV_is ry) hd) ⟨_, dd.mapOf, h _ _ (I.tok _) ?_⟩
    rw [l]
    exact (rel.val k).getD rfl
  · subst ey
    cases (show u = Value.ref b from ry)
    obtain ⟨z, hd, xs, rel, dd⟩ := dt_rd I.hok e
    refine call_meetsIn PySem.F.slot_dict_get dd.typeIs PySem.F.entry_dict_get (PySem.F.args_dict_get_2 _ _) (meetsH_dict_get (tupleKind (mixKind X.prog X.w)) a b hd) ⟨tupleKind_room_in1 hu, k, xs, key_of I.hok eb, dd, h _ _ (I.tok _) ?_⟩
    rw [l]
    exact (rel.val k).getD rfl
theorem d_get2 {Q : Value → Shared → Prop} (hu : A.units + 1 < cLine) (I : Inv X pins σ H s) (g : DGet H a y o) (ry : RelV y u) (rd : RelV d r) (h : ∀ w' s', Inv X pins σ H s' → RelV (o.getD d) w' → Q w' s') :
    wpAny (model X.prog X.w) A (call (.builtin "dict.get") [.ref a, u, r]) Q E s := by
  rcases g with ⟨kvs, k, e, ey, l⟩ | ⟨kvs, k, b, e, ey, eb, l⟩
  · subst ey
    obtain ⟨z, hd, vs, rel, dd⟩ := dk_rd I.hok e
    refine call_meetsIn PySem.F.slot_dict_get dd.typeIs PySem.F.entry_dict_get (PySem.F.args_dict_get_3 _ _ _) (meets_dict_get_default (mixKind X.prog X.w) a (kV_is ry) hd r) ⟨_, dd.mapOf, h _ _ (I.tok _) ?_⟩
    rw [l]
    exact (rel.val k).getD rd
  · subst ey
    cases (show u = Value.ref b from ry)
    obtain ⟨z, hd, xs, rel, dd⟩ := dt_rd I.hok e
    refine call_meetsIn PySem.F.slot_dict_get dd.typeIs PySem.F.entry_dict_get (PySem.F.args_dict_get_3 _ _ _) (meetsH_dict_get_default (tupleKind (mixKind X.prog X.w)) a b hd r) ⟨tupleKind_room_in1 hu, k, xs, key_of I.hok eb, dd, h _ _ (I.tok _) ?_⟩
    rw [l]
    exact (rel.val k).getD rd
end
def tDGet1 (td ty : TE) : TE := fun σ H Q => td σ H fun x H1 => ∃ a, x = .ref a ∧ IsD H1 a ∧ ty σ H1 fun y H2 => ∃ o, DGet H2 a y o ∧ Q (o.getD .non) H2
def tDGet2 (td ty tx : TE) : TE := fun σ H Q => td σ H fun x H1 => ∃ a, x = .ref a ∧ IsD H1 a ∧ ty σ H1 fun y H2 => tx σ H2 fun z H3 => ∃ o, DGet H3 a y o ∧ Q (o.getD z) H3
def tDPop2 (td ty tx : TE) : TE := fun σ H Q => td σ H fun x H1 => ∃ a, x = .ref a ∧ IsD H1 a ∧ ty σ H1 fun y H2 => tx σ H2 fun z H3 => ∃ kvs k, H3 a = some (.dK kvs) ∧ y = kV k ∧
  (∀ v, valV kvs k = some v → Q v (upd H3 a (.dK (dropK kvs k)))) ∧ (valV kvs k = none → Q z H3)
section
variable {X : Cx} {o e f : Expr} {apos cpos : Pos} {td ty tx : TE}
theorem pe_dget1 (hu : X.A.units + 1 < cLine) (ho : PE X o td) (he : PE X e ty) (m : M1 X o "get" apos e cpos) : PE X (.Call (.Attribute o "get" apos) [e] [] cpos) (tDGet1 td ty) := by
  intro pins s σ H Q I h
  refine wpAny_Call_method m.base m.few m.line PySem.F.plainAttrs_dict PySem.F.slot_dict_get PySem.F.type_dict_get (thn (ho pins s σ H _ I h) fun u s1 ⟨x, H1, I1, rx, a, ex, d, q1⟩ => ?_)
  subst ex
  obtain rfl : u = Value.ref a := rx
  obtain ⟨t1, t2, _⟩ := isD_at I1 d
  refine ⟨t1, t2, ?_⟩
  rw [m.trees]
  refine Calls.callWith_builtin rfl (Calls.evalArgs_plain (Calls.spliced_cons (thn (he pins s1 σ H1 _ I1 q1) fun iv s2 ⟨y, H2, I2, ry, ov, g, q2⟩ => Calls.spliced_nil ?_)))
  exact d_get1 hu I2 g ry fun w' s3 I3 rw' => ⟨_, H2, I3, rw', q2⟩
theorem pe_dget2 (hu : X.A.units + 1 < cLine) (ho : PE X o td) (he : PE X e ty) (hf : PE X f tx) (m : M2 X o "get" apos e f cpos) : PE X (.Call (.Attribute o "get" apos) [e, f] [] cpos) (tDGet2 td ty tx) := by
  intro pins s σ H Q I h
  refine wpAny_Call_method m.base m.few m.line PySem.F.plainAttrs_dict PySem.F.slot_dict_get PySem.F.type_dict_get (thn (ho pins s σ H _ I h) fun u s1 ⟨x, H1, I1, rx, a, ex, d, q1⟩ => ?_)
  subst ex
  obtain rfl : u = Value.ref a := rx
  obtain ⟨t1, t2, _⟩ := isD_at I1 d
  refine ⟨t1, t2, ?_⟩
  rw [m.trees]
  refine Calls.callWith_builtin rfl (Calls.evalArgs_plain (Calls.spliced_cons (thn (he pins s1 σ H1 _ I1 q1) fun iv s2 ⟨y, H2, I2, ry, q2⟩ =>
    Calls.spliced_cons (thn (hf pins s2 σ H2 _ I2 q2) fun fv s3 ⟨z, H3, I3, rz, ov, g, q3⟩ => Calls.spliced_nil ?_))))
  exact d_get2 hu I3 g ry rz fun w' s4 I4 rw' => ⟨_, H3, I4, rw', q3⟩
theorem pe_dpop2 (ho : PE X o td) (he : PE X e ty) (hf : PE X f tx) (m : M2 X o "pop" apos e f cpos) : PE X (.Call (.Attribute o "pop" apos) [e, f] [] cpos) (tDPop2 td ty tx) := by
  intro pins s σ H Q I h
  refine wpAny_Call_method m.base m.few m.line PySem.F.plainAttrs_dict PySem.F.slot_dict_pop PySem.F.type_dict_pop (thn (ho pins s σ H _ I h) fun u s1 ⟨x, H1, I1, rx, a, ex, d, q1⟩ => ?_)
  subst ex
  obtain rfl : u = Value.ref a := rx
  obtain ⟨t1, t2, _⟩ := isD_at I1 d
  refine ⟨t1, t2, ?_⟩
  rw [m.trees]
  refine Calls.callWith_builtin rfl (Calls.evalArgs_plain (Calls.spliced_cons (thn (he pins s1 σ H1 _ I1 q1) fun iv s2 ⟨y, H2, I2, ry, q2⟩ =>
    Calls.spliced_cons (thn (hf pins s2 σ H2 _ I2 q2) fun fv s3 ⟨z, H3, I3, rz, kvs, k, ea, ey, q3, q4⟩ => Calls.spliced_nil ?_))))
  subst ey
  cases l : valV kvs k with
  | some v => exact d_pop I3 ea ry l (.inr ⟨fv, rfl⟩) fun w' s4 I4 rw' => ⟨v, _, I4, rw', q3 v l⟩
  | none => exact d_popD I3 ea ry l fun s4 I4 => ⟨z, H3, I4, rz, q4 l⟩
end
section
variable {X : Cx} {pins : List (Addr × Obj)} {σ : St} {H : Hp} {s : Shared} {a : Addr} {kvs : List (Key × V)} {A : Around} {E : Value → Shared → Prop}
end
section
variable {X : Cx} {pins : List (Addr × Obj)} {σ : St} {H : Hp} {s : Shared} {a : Addr} {y : V} {u : Value} {A : Around} {E : Value → Shared → Prop}
end
end L2
namespace Att
open PySem PySem.W PySem.Calls PyProof.Rows
theorem ints_of_wellAll {P : Params} {h : Heap} : ∀ (ns : List Int) (vs : List Value), WellAll P h vs (ns.map WData.int) → IntsAre vs ns := by
  intro ns
  induction ns with
  | nil =>
    intro vs w
    rw [List.map_nil] at w
    cases w
    exact .nil
  | cons n ns ih =>
    intro vs w
    rw [List.map_cons] at w
    cases w with
    | cons a b =>
      cases a
      exact .cons _ _ (ih _ b)
theorem script_of {l : OpenLaw} {n : Nat} (hn : l.most = some n) {P : Params} {h : Heap} {args : List WData} {vals : List Value}
    (hpre : l.row.toRowW.claim.pre args = true) (hwl : WellAll P h vals args) :
    ∃ a vs ns, vals = [Value.ref a] ∧ args = [WData.list (ns.map WData.int)] ∧ h.get? a = some { cls := .type "list", data := .seq vs.toArray } ∧ IntsAre vs ns ∧ ns.length ≤ n := by
  have hsh : WShape.hasAll [] args [.list .int] = true := (pre_splitW hpre).1
  have hc : l.pre.holds [] { args := args } = true := (pre_splitW hpre).2
  obtain ⟨d, r, rfl, h1, h2⟩ := hasAllW_cons hsh
  obtain rfl := hasAllW_nil h2
  obtain ⟨xs, rfl, h3⟩ := hasW_list h1
  obtain ⟨ns, rfl⟩ := items_int h3
  have hlen : ns.length ≤ n := by
    unfold OpenLaw.pre at hc
    have h4 : (WTm.not (.lt (.lit (.int (n : Int))) (.len (.arg 0)))).holds [] { args := [.list (ns.map .int)] } = true := by
      have h4 := (holds_andW hc).1
      rw [hn] at h4
      exact h4
    have h5 := condW_of h4 (w_not (w_lt w_lit (w_len_list (w_arg rfl))))
    rw [List.length_map] at h5
    refine Nat.le_of_not_lt fun q => ?_
    have q' : (n : Int) < ((ns.length : Nat) : Int) := by omega
    first
      | (rw [decide_eq_true q'] at h5; exact absurd h5 (by decide))
      | (simp at h5; omega)
  cases hwl with
  | cons w1 w2 =>
    cases w2
    cases w1 with
    | list ho hall => exact ⟨_, _, ns, rfl, rfl, ho, ints_of_wellAll ns _ hall, hlen⟩
theorem post_true (l : OpenLaw) (args : List WData) : l.row.toRowW.claim.post args (.bool true) args = true :=
  postW_of (r := l.row.toRowW) (X := (true == true))
    (show WShape.has [] (.bool true) .bool = true by first | rfl | decide | simp [WShape.has, WShape.arms, WShape.armsAll])
    (show (WTm.eq .res (.lit (.bool true))).value [] { args := args, res := some (.bool true), after := args } = some (.bool (true == true)) from w_eq_bool (w_res rfl) w_lit) rfl
theorem attach_call {l : OpenLaw} {n : Nat} {q : Program} {loose : List Str} {XP : (Str → Option Value) → Heap → Prop} {YP : World → Heap → Prop} {d : DefRec}
    (hn : l.most = some n) (hdf : d.params.defaults = [])
    (call : ∀ (w : World) (s₀ s₁ : Shared) (mg mb : Str → Option Value) (fa : Addr) (o : Obj) (pm cd doc : Value) (a : Addr) (vs : List Value) (ns : List Int),
      Ground q loose [] XP w s₀ mg mb s₁.heap → YP w s₁.heap →
      s₁.heap.get? fa = some o → o.data = .func (docDef d.name d.params d.body d.scope pm cd doc) → s₁.heap.CodeRec cd d.name → mg d.name = some (.ref fa) →
      s₁.heap.get? a = some { cls := .type "list", data := .seq vs.toArray } → IntsAre vs ns → ns.length ≤ n → s₁.gens = #[] →
      codeAny (model l.prog w) callerA (.call (.ref fa) ⟨[.ref a], []⟩) (fun r s' => r = .ok (.ret (.bool true)) ∧ OldK s₁.heap s'.heap ∧ s'.os = s₁.os ∧ AllBare s'.gens) s₁) :
    WalkO q loose XP YP l.row.toRowW d [] (fun f vs => PySem.call f vs) := by
  intro w s₀ s₁ mg mb G Y fa o pm cd doc dV kV ho hd hcd hD hmg hg args vals as hpre hlay hrd hwl hlo
  obtain rfl : dV = .none := Dflts.none hD hdf
  obtain rfl : kV = .none := Dflts.noKw hD
  obtain ⟨a, vs, ns, rfl, rfl, hobj, hints, hlen⟩ := script_of hn hpre hwl
  refine enter_call (codeAny_mono (call w s₀ s₁ mg mb fa o pm cd doc a vs ns G Y ho (fd_plain hd) hcd hmg hobj hints hlen hg) fun r s' hq => ?_)
  obtain ⟨rfl, h2, h3, h4⟩ := hq
  exact ⟨.inl ⟨.bool true, .bool true, [], rfl, fun _ => rfl, .bool true, post_true l _, fun _ => ⟨List.Pairwise.nil, fun _ hm => (nomatch hm)⟩⟩, h2, h3, h4⟩
section
variable {prog : Program} {w : World} {A : Around} {E : Value → Shared → Prop} {s : Shared} {K : Frag}
def ledger (h : Heap) (L d : Addr) : List (Addr × Obj) := (List.range h.objs.size).filterMap fun a => if a = L ∨ a = d then none else (h.get? a).map fun o => (a, o)
end
end Att
namespace L2
open PySem PySem.Spec PyProof.Rows
theorem vals_ints : ∀ {vs : List Value} {ns : List Int}, IntsAre vs ns → Vals (ns.map V.int) vs
  | _, _, .nil => .nil
  | _, _, .cons n t h => .cons ⟨t, rfl⟩ (vals_ints h)
def Only (H : Hp) : Prop := ∀ b, H b = none ∨ ∃ o xs, H b = some (.frz o (.lst xs))
theorem law_call {P : Program} {w : World} {K : PySem.W.Frag} {mg mb : Str → Option Value} {CX : CXT} {k : Nat} {fa a : Addr} {fd : FuncData} {x : Str} {sp : Sp} {s₁ : Shared} {vs : List Value} {ns : List Int}
    (KX : K.In s₁.heap) (hns : s₁.heap.Ns mainGlobals mg) (hb : s₁.heap.Ns builtinsNs mb) (hbb : ∀ x : Str, x ≠ "__name__" → mb x = bootBuiltins x) (hlim : s₁.heap.NoLimit) (hg : s₁.gens = #[])
    (ha : s₁.heap.get? a = some { cls := .type "list", data := .seq vs.toArray }) (hi : IntsAre vs ns) (hl : ns.length ≤ sizeLine) (hr : Room k callerA)
    (F : ∀ base : Heap, K.In base → base.Ns mainGlobals mg → FnOk P w K mg base CX k fa fd [x] sp) (hbind : ∀ (s : Shared) (u : Value), BindsTo s fd ⟨[u], []⟩ [(x, u)])
    (hsp : ∀ H : Hp, Only H → SqL K H a (ns.map V.int) → sp [.ref a] H (fun v _ => v = .bl true) fun _ _ _ => False)
    (hCX : ∀ H e s', CX [] H s₁ (fun _ _ _ => False) e s' → False) :
    codeAny (model P w) callerA (.call (.ref fa) ⟨[.ref a], []⟩) (fun r s' => r = .ok (.ret (.bool true)) ∧ OldK s₁.heap s'.heap ∧ s'.os = s₁.os ∧ AllBare s'.gens) s₁ := by
  have rv := vals_ints hi
  have lenV := hi.length
  have core : ∀ H : Hp, Only H → SqL K H a (ns.map V.int) → HOk P w H s₁.heap → (∀ b, H b ≠ none → b = a) → (H a ≠ none → K.lookup a = none) →
      codeAny (model P w) callerA (.call (.ref fa) ⟨[.ref a], []⟩) (fun r s' => r = .ok (.ret (.bool true)) ∧ OldK s₁.heap s'.heap ∧ s'.os = s₁.os ∧ AllBare s'.gens) s₁ := by
    intro H hO hS hok hA hK
    have base_of : ∀ {b : Addr} {o : Obj}, s₁.heap.get? b = some o → H b = none → (hidT s₁.heap H).get? b = some o := fun e n => hidT_get e n
    have noA : ∀ {b : Addr} {o : Obj} {es : Array DictEntry} {ep : Nat}, s₁.heap.get? b = some o → o.data = .dict es ep → H b = none := fun {b o es ep} e d => by
      cases q : H b with
      | none => rfl
      | some u =>
        have e' : b = a := hA b (by rw [q]; simp)
        subst e'
        rw [ha] at e; cases e
        have d' : Data.seq vs.toArray _ = Data.dict es ep := d
        cases d'
    have nsK : ∀ {b : Addr} {m : Str → Option Value}, s₁.heap.Ns b m → (hidT s₁.heap H).Ns b m := fun {b m} ⟨o, es, ep, e, d, r⟩ => ⟨o, es, ep, base_of e (noA e d), d, r⟩
    have hKb : K.In (hidT s₁.heap H) := fun b o e => base_of (KX b o e) (by
      cases q : H b with
      | none => rfl
      | some u =>
        have e' : b = a := hA b (by rw [q]; simp)
        subst e'
        rw [hK (by rw [q]; simp)] at e; cases e)
    have hM : Mod K mg (hidT s₁.heap H) := ⟨hKb, nsK hns, ⟨mb, nsK hb, hbb⟩, let ⟨mc, h1, h2⟩ := hlim; ⟨mc, nsK h1, h2⟩⟩
    have e0 : Env0 P w K mg (hidT s₁.heap H) callerA [] s₁ H := ⟨rfl, hM, fun b o e => of_hidT e, Nat.le_of_eq (hidT_size _ _), trivial, fun b hb => absurd (show b ∈ ([] : List Addr) from hb) (by simp), hok, .of_eq hg⟩
    refine codeAny_mono ((F _ hKb (nsK hns)).run callerA [] s₁ H ⟨[.ref a], []⟩ [.ref a] [.ref a] _ _ hr e0 (hbind s₁ (.ref a)) (.cons rfl .nil) (hsp H hO hS)) fun r s' h => ?_
    cases r with
    | error e => exact (hCX H e s' h).elim
    | ok fl =>
      cases fl with
      | next => exact False.elim h
      | brk => exact False.elim h
      | cont => exact False.elim h
      | ret u =>
        obtain ⟨v, H', os, bare, un, hok', r', q⟩ := h
        have q' : v = .bl true := q
        subst q'
        obtain rfl : u = Value.bool true := r'
        refine ⟨rfl, OldK.of_keep fun b o e => ?_, os, bare⟩
        cases q : H b with
        | none => exact un.keep b o e q (by intro z; exact absurd (show b ∈ ([] : List Addr) from z) (by simp)) (by simp)
        | some u =>
          rcases hO b with z | ⟨ob, xs, z⟩
          · rw [q] at z; cases z
          · have z2 := un.frzs b ob _ z
            obtain ⟨e1, _⟩ := hok b _ z
            obtain ⟨e2, _⟩ := hok' b _ z2
            rw [e] at e1; cases e1
            exact e2
  cases hk : K.lookup a with
  | some o =>
    have e := KX a o hk
    rw [ha] at e
    cases e
    refine core (fun _ => none) (fun _ => .inl rfl) (.inr ⟨_, vs.toArray, _, hk, rfl, rfl, rfl, by rw [List.size_toArray, lenV]; exact hl, by simpa using rv⟩) (fun b u z => by have z' : (none : Option HO) = some u := z; cases z') (fun b z => absurd rfl z) fun z => absurd rfl z
  | none =>
    refine core (fun b => if b = a then some (.frz { cls := .type "list", data := .seq vs.toArray } (.lst (ns.map V.int))) else none) (fun b => ?_) (.inl (.inr ⟨{ cls := .type "list", data := .seq vs.toArray }, if_pos rfl⟩)) (fun b u z => ?_) (fun b z => ?_) fun _ => hk
    · by_cases hb : b = a
      · exact .inr ⟨_, _, if_pos hb⟩
      · exact .inl (if_neg hb)
    · by_cases hb : b = a
      · have z' := (if_pos hb).symm.trans z
        cases z'
        subst hb
        exact ⟨ha, by rw [List.length_map]; exact hl, vs, _, rv, ha⟩
      · have z' := (if_neg hb).symm.trans z
        cases z'
    · by_cases hb : b = a
      · exact hb
      · exact absurd (if_neg hb) z
end L2
namespace L2
open PySem PySem.Spec PyProof.Rows
abbrev KOf {K : PySem.W.Frag} {h : Heap} (_ : K.In h) : PySem.W.Frag := K
theorem walk_of {l : PySem.W.OpenLaw} {n k : Nat} {q : Program} {loose : List Str} {XP : (Str → Option Value) → Heap → Prop} {YP : World → Heap → Prop} {d : DefRec} {K : Params → PySem.W.Frag} {CX : World → CXT} {sp : World → Sp} {x : Str}
    (hn : l.most = some n) (hn2 : n ≤ sizeLine) (hdf : d.params.defaults = []) (hr : Room k callerA)
    (hY : ∀ (w : World) (h : Heap), YP w h → (K w.params).In h)
    (F : ∀ (w : World) (mg : Str → Option Value) (fa : Addr) (h : Heap), (K w.params).In h → h.Ns mainGlobals mg → mg d.name = some (.ref fa) →
      ∃ fd : FuncData, (∀ (s : Shared) (u : Value), BindsTo s fd ⟨[u], []⟩ [(x, u)]) ∧
        ∀ base : Heap, (K w.params).In base → base.Ns mainGlobals mg → FnOk l.prog w (K w.params) mg base (CX w) k fa fd [x] (sp w))
    (hsp : ∀ (w : World) (H : Hp) (a : Addr) (ns : List Int), ns.length ≤ n → Only H → SqL (K w.params) H a (ns.map V.int) → sp w [.ref a] H (fun v _ => v = .bl true) fun _ _ _ => False)
    (hCX : ∀ (w : World) (H : Hp) (s : Shared) (e : Value) (s' : Shared), CX w [] H s (fun _ _ _ => False) e s' → False) :
    PySem.W.WalkO q loose XP YP l.row.toRowW d [] (fun f vs => PySem.call f vs) := by
  refine Att.attach_call hn hdf fun w s₀ s₁ mg mb fa o pm cd doc a vs ns G Y ho hd hcd hmg hobj hints hlen hg => ?_
  have KX := hY w _ Y
  obtain ⟨fd, hb, hF⟩ := F w mg fa _ KX G.T.g hmg
  exact law_call KX G.T.g G.T.b G.T.builtins G.T.nolimit hg hobj hints (Nat.le_trans hlen hn2) hr hF hb (fun H hO hS => hsp w H a ns hlen hO hS) fun H e s' => hCX w H s₁ e s'
end L2
namespace L2
open PySem PySem.Spec PyProof.Rows
def inClass (s : Stmt) (j : Nat) : Stmt := match s with
  | .ClassDef _ _ _ body _ _ _ _ _ _ _ => body.getD j (.Pass ⟨0, 0, 0, 0⟩)
  | _ => .Pass ⟨0, 0, 0, 0⟩
def defArgs (s : Stmt) : Arguments := match s with
  | .FunctionDef _ a _ _ _ _ _ _ _ _ => a
  | _ => { posonlyargs := [], args := [], vararg := none, kwonlyargs := [], kw_defaults := [], kwarg := none, defaults := [] }
def defBody (s : Stmt) : List Stmt := match s with
  | .FunctionDef _ _ b _ _ _ _ _ _ _ => b
  | _ => []
def defScope (s : Stmt) : Scope := match s with
  | .FunctionDef _ _ _ _ _ _ sc _ _ _ => sc
  | _ => { kind := .function, names := [], isGenerator := false, isCoroutine := false }
abbrev CX0 : CXT := fun _ _ _ _ _ _ => False
abbrev E0 : XK := fun _ _ _ => False
theorem pass0 {X : Cx} : Passes CX0 X E0 := fun _ _ _ _ _ _ _ h => h.elim
structure Fun (K : PySem.W.Frag) (x qual : Str) (st : Stmt) (f : Addr) (fd : FuncData) : Prop where
  ex : ∃ (oc : Value) (od : Option Addr) (kV doc pm : Value) (an : Option Addr) (cdv ct : Value) (osl : Array (Option Value)),
    fd = PySem.W.fnOf x qual (defArgs st) (defBody st) (defScope st) .none kV doc pm an cdv ct ∧ K.lookup f = some ⟨oc, od, .func fd, osl⟩ ∧ PySem.W.codeIn K cdv qual = true
  kp : PySem.W.keepIn K (.ref f) = true
section
variable {P : Program} {w : World} {K : PySem.W.Frag} {mg : Str → Option Value} {base : Heap}
theorem Fun.ok {x qual : Str} {st : Stmt} {f : Addr} {fd : FuncData} {N ps : List Str} {k : Nat} {sp : Sp} (F : Fun K x qual st f fd) (S : FnScope N ps (defScope st)) (len : ∀ vs H Q E, sp vs H Q E → vs.length = ps.length)
    (hbody : ∀ (cdv : Value) (A : Around) (outer : List Env) (s : Shared) (H : Hp) (vs : List V) (Q : VK) (E : XK), Room k (A.deeper (envOfC qual (defScope st) s.heap.objs.size f cdv)) → sp vs H Q E →
      ∃ t, PSs (cxOf CX0 P w K mg base N qual (defScope st) f cdv A outer s H E).nox (defBody st) t ∧ t { nx := fun _ H' => Q .non H', rt := Q } (start N vs) H) : FnOk P w K mg base CX0 (k + 1) f fd ps sp := by
  obtain ⟨oc, od, kV, doc, pm, an, cdv, ct, osl, rfl, lk, hcd⟩ := F.ex
  refine fn_of lk hcd S len fun A outer s H vs Q E hr hsp => ?_
  obtain ⟨t, h, q⟩ := hbody cdv A outer s H vs Q E hr hsp
  exact ⟨t, h.nox, q⟩
theorem Fun.binds {x qual : Str} {st : Stmt} {f : Addr} {fd : FuncData} {ps : List Str} (F : Fun K x qual st f fd)
    (h : ∀ (kV doc pm : Value) (an : Option Addr) (cdv ct : Value) (us : List Value), us.length = ps.length → bindArgs (PySem.W.fnOf x qual (defArgs st) (defBody st) (defScope st) .none kV doc pm an cdv ct) ⟨us, []⟩ = pure (ps.zip us)) : Binds K fd ps [] := by
  obtain ⟨oc, od, kV, doc, pm, an, cdv, ct, osl, rfl, lk, hcd⟩ := F.ex
  exact .all (h kV doc pm an cdv ct)
theorem fun_mk {x qual : Str} {st : Stmt} {f : Addr} {oc : Value} {od an : Option Addr} {osl : Array (Option Value)} {kV doc pm cdv ct : Value} (l : K.lookup f = some ⟨oc, od, .func (PySem.W.fnOf x qual (defArgs st) (defBody st) (defScope st) .none kV doc pm an cdv ct), osl⟩)
    (c : PySem.W.codeIn K cdv qual = true) (k : PySem.W.keepIn K (.ref f) = true) : Fun K x qual st f (PySem.W.fnOf x qual (defArgs st) (defBody st) (defScope st) .none kV doc pm an cdv ct) := ⟨⟨oc, od, kV, doc, pm, an, cdv, ct, osl, rfl, l, c⟩, k⟩
end
theorem hu_of {A : Around} {k : Nat} (hr : Room k A) : A.units + 1 < cLine := Nat.lt_of_le_of_lt (Nat.add_le_add_left (by decide : 1 ≤ 64) _) hr.units
theorem small1000 {n : Nat} (h : n ≤ 1000) : n < sizeLine := Nat.lt_of_le_of_lt h (by decide)
section
variable {X : Cx}
theorem pv (i : Nat) {x : Str} {pos : Pos} (hN : X.N[i]? = some x := by rfl) (hv : Vis X.env.scope x := by first | exact Or.inl rfl | exact Or.inr (Or.inl rfl) | exact Or.inr (Or.inr rfl)) (hd : (x == ("__debug__" : Str)) = false := by decide)
    (hcd : (x == ("__classdict__" : Str)) = false := by decide) : PE X (.Name x pos) (tVar i) := pe_var hN hv hd hcd
end
theorem iteF {A B : Prop} (h : B) : if false = true then A else B := by
  rw [if_neg Bool.false_ne_true]
  exact h
theorem iteT {A B : Prop} (h : A) : if true = true then A else B := by
  rw [if_pos rfl]
  exact h
theorem ite2 {c A B : Prop} [Decidable c] (h1 : c → A) (h2 : ¬ c → B) : if c then A else B := by
  by_cases h : c
  · rw [if_pos h]
    exact h1 h
  · rw [if_neg h]
    exact h2 h
theorem iteNS {c A B : Prop} [Decidable c] (hc : c) (h : B) : if (!decide c) = true then A else B := by
  rw [decide_eq_true hc]
  exact iteF h
def Same (H H' : Hp) : Prop := ∀ b o, H b = some o → H' b = some o
theorem Same.refl (H : Hp) : Same H H := fun _ _ h => h
theorem Same.trans {H H1 H2 : Hp} (a : Same H H1) (b : Same H1 H2) : Same H H2 := fun c o h => b c o (a c o h)
theorem Same.free {H H' : Hp} (e : Same H H') {l : Addr} (h : H' l = Option.none) : H l = Option.none := by
  cases q : H l with
  | none => rfl
  | some o =>
    rw [e l o q] at h
    cases h
theorem Same.seq {K : PySem.W.Frag} {H H' : Hp} {a : Addr} {xs : List V} (e : Same H H') (h : SqL K H a xs) : SqL K H' a xs := by
  rcases h with (h | ⟨o, h⟩) | h
  · exact .inl (.inl (e _ _ h))
  · exact .inl (.inr ⟨o, e _ _ h⟩)
  · exact .inr h
section
variable {κ : Type} [DecidableEq κ]
end
end L2
namespace L2
open PySem PySem.Spec PyProof.Rows
def S (l : List Nat) : Str := ⟨l.toArray⟩
theorem S_of (z : Str) : S z.cps.toList = z := by
 cases z
 simp [S]
theorem S_cps (l : List Nat) : (S l).cps.toList = l := by simp [S]
theorem S_inj {a b : List Nat} (h : S a = S b) : a = b := by
 have := congrArg (fun z : Str => z.cps.toList) h
 simpa [S] using this
theorem S_len (l : List Nat) : (S l).length = l.length := by simp [S, Str.length]
theorem S_app (a b : List Nat) : S a ++ S b = S (a ++ b) := by
 refine ext_toList ?_
 rw [PySem.W.KT.app_list, S_cps, S_cps, S_cps]
theorem dec_S (a b : List Nat) : decide (V.str (S a) = V.str (S b)) = decide (a = b) := by
 by_cases h : a = b
 ·subst h
  simp
 ·rw [decide_eq_false h]
  exact decide_eq_false fun q => h (S_inj (V.str.inj q))
def cutN (l : List Nat) (lo hi : Option Int) : List Nat := (l.drop (HT.sIx l.length 0 lo)).take (HT.sIx l.length l.length hi - HT.sIx l.length 0 lo)
theorem strIdx (lo hi : Option Int) (n : Nat) : Builtin.Str.strSliceIndices lo hi 1 n = (List.range (HT.sIx n n hi - HT.sIx n 0 lo)).map (HT.sIx n 0 lo + ·) := by
 rw [← sliceRange_one]
 have h1 : (match lo with | none => (0 : Int) | some i => let i := if i < 0 then i + (n : Int) else i; max 0 (min i (n : Int))) = ((HT.sIx n 0 lo : Nat) : Int) := by
  cases lo with
  | none => simp [HT.sIx]
  | some i =>
   simp only [HT.sIx]
   by_cases h : i < 0
   ·simp only [h, if_true] <;> omega
   ·simp only [h, if_false] <;> omega
 have h2 : (match hi with | none => (n : Int) | some i => let i := if i < 0 then i + (n : Int) else i; max 0 (min i (n : Int))) = ((HT.sIx n n hi : Nat) : Int) := by
  cases hi with
  | none => simp [HT.sIx]
  | some i =>
   simp only [HT.sIx]
   by_cases h : i < 0
   ·simp only [h, if_true] <;> omega
   ·simp only [h, if_false] <;> omega
 rw [← h1, ← h2]
 unfold Builtin.Str.strSliceIndices
 cases lo <;> cases hi <;> simp
theorem slice_S (l : List Nat) (lo hi : Option Int) : Txt.slice (S l) lo hi = S (cutN l lo hi) := by
 unfold Txt.slice
 rw [strIdx, S_len]
 have hl : ((List.range (HT.sIx l.length l.length hi - HT.sIx l.length 0 lo)).map (HT.sIx l.length 0 lo + ·)).length = HT.sIx l.length l.length hi - HT.sIx l.length 0 lo := by simp
 rw [hl]
 have hj := HT.sIx_le l.length l.length (Nat.le_refl _) hi
 have hc : (S l).cps = l.toArray := rfl
 rw [hc, pick_run]
 split
 ·rename_i h
  have e : HT.sIx l.length l.length hi - HT.sIx l.length 0 lo = l.length := by simpa using h
  unfold cutN
  rw [e]
  by_cases z : l.length = 0
  ·have : l = [] := List.length_eq_zero_iff.mp z
   subst this
   simp
  ·have : HT.sIx l.length 0 lo = 0 := by omega
   rw [this]
   simp
 ·unfold cutN S
  simp
theorem cutN_to (l : List Nat) (k : Nat) : cutN l none (some (k : Int)) = l.take k := by
 unfold cutN
 rw [HT.sIx_none, HT.sIx_nat, List.drop_zero, Nat.sub_zero]
 by_cases h : k ≤ l.length
 ·rw [Nat.min_eq_left h]
 ·rw [Nat.min_eq_right (by omega), List.take_of_length_le (Nat.le_refl _), List.take_of_length_le (by omega)]
theorem cutV_to (l : List V) (k : Nat) : cutV l none (some (k : Int)) = l.take k := by
 unfold cutV
 rw [HT.sIx_none, HT.sIx_nat, List.drop_zero, Nat.sub_zero]
 by_cases h : k ≤ l.length
 ·rw [Nat.min_eq_left h]
 ·rw [Nat.min_eq_right (by omega), List.take_of_length_le (Nat.le_refl _), List.take_of_length_le (by omega)]
section
variable {X : Cx}
def rSlS : V → Option Int → Option Int → Hp → VK → Prop := fun x lo hi H Q => ∃ l : List Nat, x = .str (S l) ∧ l.length ≤ sizeLine ∧ Q (.str (S (cutN l lo hi))) H
theorem part_of {v : Value} {o : Option Int} (h : IsPart v o) : ∃ l : Option (Int × Tok), v = partValue l ∧ l.map (·.1) = o := by
 cases h with
 | none => exact ⟨none, rfl, rfl⟩
 | int i t => exact ⟨some (i, t), rfl, rfl⟩
theorem sl_str : SlR X rSlS := by
 intro pins s σ H x v vl vu lo hi sl Q I rx hs pl pu h
 obtain ⟨l, rfl, hz, q⟩ := h
 obtain ⟨t, rfl⟩ := rx
 obtain ⟨a, rfl, ea⟩ := part_of pl
 obtain ⟨b, rfl, eb⟩ := part_of pu
 refine ⟨"str", _, F.slot_str_getitem.lookup, typeIs_str _ _ _, ?_⟩
 have hsl : s.heap.IsSlice sl a b none := by
  obtain ⟨o, e1, e2, e3⟩ := hs
  exact ⟨o, e1, e2, e3⟩
 refine wpAny_getItem_str_slice (l := a) (u := b) (st := none) hsl rfl ?_
 have hsz : (S l).length ≤ sizeLine := by rw [S_len]; exact hz
 have key : ∀ t' k, EP X pins σ Q (.str (Txt.slice (S l) (a.map (·.1)) (b.map (·.1))) t') { s with toks := k } := fun t' k => by
  rw [ea, eb, slice_S]
  exact ⟨.str (S (cutN l lo hi)), H, I.tok _, ⟨t', rfl⟩, q⟩
 exact post_val_or_str ⟨Nat.le_trans (Txt.slice_le (S l) _ _) hsz, key⟩
end
section
variable {X : Cx}
def rIxN : R2 := fun x y H Q => ∃ l i c, x = .str (S l) ∧ y = .int i ∧ l.length ≤ sizeLine ∧ atI l i = some c ∧ Q (.str (S [c])) H
theorem ix_strN : IxR X rIxN := by
 intro value slice pins s σ H x y v u Q I rx ry h hs
 obtain ⟨l, i, c, rfl, rfl, hz, he, q⟩ := h
 exact ix_str value slice pins s σ H _ _ v u Q I rx ry ⟨S l, i, c, rfl, rfl, by rw [S_len]; exact hz, by rw [S_cps]; exact he, q⟩ hs
end
section
variable {X : Cx}
theorem strs_of : ∀ {ls : List (List Nat)} {us : List Value}, Vals (ls.map fun l => V.str (S l)) us → ∃ ps : List (Str × Tok), us = strValues ps ∧ ps.map (·.1) = ls.map S
 | [], us, r => by
  cases r
  exact ⟨[], rfl, rfl⟩
 | l :: ls, us, r => by
  rw [List.map_cons] at r
  cases r with
  | cons r1 r2 =>
   obtain ⟨t, e⟩ := r1
   subst e
   obtain ⟨ps, e1, e2⟩ := strs_of r2
   subst e1
   exact ⟨(S l, t) :: ps, rfl, by rw [List.map_cons, List.map_cons, e2]⟩
end
end L2
namespace L2
open PySem PySem.Spec PyProof.Rows
theorem Inv.adopt {X : Cx} {pins : List (Addr × Obj)} {σ : St} {H : Hp} {s : Shared} {D : Addr} {o : HO} (I : Inv X pins σ H s) (hn : H D = none) (hs : X.s₀.heap.objs.size ≤ D) (hL : D ≠ X.env.locals)
  (hc : ∀ x c, X.env.cells.lookup x = some c → c ≠ D) (hp : ∀ p ∈ X.pn ++ pins, p.1 ≠ D) (new : ObjOk X.prog X.w (upd H D o) s.heap D o) : Inv X pins σ (upd H D o) s := by
 have up : ∀ b u, H b = some u → upd H D o b = some u := fun b u e => by
  rw [upd_ne (ne_of_none e hn)]
  exact e
 refine ⟨I.ok, I.os, I.bare, ⟨I.base.keep, I.base.slot, fun b ob e n hx => ?_, I.base.there, fun b xs e => up _ _ (I.base.tups b xs e), fun b ob u e => up _ _ (I.base.frzs b ob u e), fun b ps e => ?_⟩, I.loc, I.cell, ?_, fun x c e => ?_, fun p hpp => ?_, fun b u e => ?_, I.len⟩
 ·have hb : b ≠ D := fun z => absurd (Nat.lt_of_lt_of_le (Heap.lt_size e) (z ▸ hs)) (Nat.lt_irrefl _)
  rw [upd_ne hb]
  exact I.base.free b ob e n hx
 ·obtain ⟨m, e1⟩ := I.base.tbls b ps e
  exact ⟨m, up _ _ e1⟩
 ·rw [upd_ne (Ne.symm hL)]
  exact I.free
 ·rw [upd_ne (hc x c e)]
  exact I.freeC x c e
 ·obtain ⟨e, n, r⟩ := I.pin p hpp
  exact ⟨e, by rw [upd_ne (hp p hpp)]; exact n, r⟩
 ·by_cases hb : b = D
  ·subst hb
   rw [upd_same] at e
   cases e
   exact new
  ·rw [upd_ne hb] at e
   exact (I.hok b u e).stay (fun _ _ _ q => q) (fun c q => up _ _ q) fun c xs q => up _ _ q
theorem look_here {β : Type} {x : Str} {v : β} {r : List (Str × β)} : List.lookup x ((x, v) :: r) = some v := by
 rw [List.lookup_cons]
 simp
theorem look_there {β : Type} {x n : Str} {v : β} {r : List (Str × β)} (h : x ≠ n) : List.lookup x ((n, v) :: r) = List.lookup x r := by
 rw [List.lookup_cons]
 have : (x == n) = false := by simpa using h
 rw [this]
def closeF (env : Env) (p : Str × NameKind) (cs : List (Str × Addr)) : Sem (ForInStep (List (Str × Addr))) :=
 if (p.2 == NameKind.free) = true then (do
  let c ← cellOf env p.1
  pure (ForInStep.yield ((p.1, c) :: cs)))
 else pure (ForInStep.yield cs)
def closeGo (ns : List (Str × NameKind)) (acc : List (Str × Addr)) (env : Env) : Sem (List (Str × Addr)) := forIn ns acc (closeF env)
theorem close_go (env : Env) : ∀ (ns : List (Str × NameKind)) (acc : List (Str × Addr)), (∀ x, (x, NameKind.free) ∈ ns → ∃ c, env.cells.lookup x = some c) → (∀ x c, acc.lookup x = some c → env.cells.lookup x = some c) →
  ∃ cl, closeGo ns acc env = pure cl ∧ (∀ x c, cl.lookup x = some c → env.cells.lookup x = some c) ∧ (∀ x c, acc.lookup x = some c → ∃ c', cl.lookup x = some c') ∧ ∀ x, (x, NameKind.free) ∈ ns → ∃ c, cl.lookup x = some c
 | [], acc, _, ha => ⟨acc, rfl, ha, fun x c e => ⟨c, e⟩, fun x hx => absurd hx (by simp)⟩
 | (n, k) :: r, acc, hn, ha => by
  by_cases hk : k = .free
  ·subst hk
   obtain ⟨c, hc⟩ := hn n (by simp)
   have ha' : ∀ x d, ((n, c) :: acc).lookup x = some d → env.cells.lookup x = some d := fun x d e => by
    by_cases hx : x = n
    ·subst hx
     rw [look_here] at e
     cases e
     exact hc
    ·rw [look_there hx] at e
     exact ha x d e
   obtain ⟨cl, e1, e2, e3, e4⟩ := close_go env r ((n, c) :: acc) (fun x hx => hn x (List.mem_cons_of_mem _ hx)) ha'
   refine ⟨cl, ?_, e2, fun x d e => ?_, fun x hx => ?_⟩
   ·rw [← e1]
    unfold closeGo
    rw [List.forIn_cons]
    have hco : cellOf env n = pure c := by
     unfold cellOf
     rw [hc]
    have hf : closeF env (n, NameKind.free) acc = pure (ForInStep.yield ((n, c) :: acc)) := by
     unfold closeF
     simp only [beq_self_eq_true, if_true]
     rw [hco]
     rfl
    rw [hf]
    rfl
   ·by_cases hx : x = n
    ·subst hx
     exact e3 x c look_here
    ·exact e3 x d (by rw [look_there hx]; exact e)
   ·rcases List.mem_cons.mp hx with z | z
    ·cases z
     exact e3 n c look_here
    ·exact e4 x z
  ·obtain ⟨cl, e1, e2, e3, e4⟩ := close_go env r acc (fun x hx => hn x (List.mem_cons_of_mem _ hx)) ha
   refine ⟨cl, ?_, e2, e3, fun x hx => ?_⟩
   ·rw [← e1]
    unfold closeGo
    rw [List.forIn_cons]
    have hb : (k == NameKind.free) = false := by simpa using hk
    have hf : closeF env (n, k) acc = pure (ForInStep.yield acc) := by
     unfold closeF
     simp only [hb, Bool.false_eq_true, if_false]
    rw [hf]
    rfl
   ·rcases List.mem_cons.mp hx with z | z
    ·exact absurd (Prod.mk.inj z).2.symm hk
    ·exact e4 x z
theorem close_of {scope : Scope} {env : Env} (h : ∀ x, (x, NameKind.free) ∈ scope.names → ∃ c, env.cells.lookup x = some c) :
  ∃ cl, closureFor scope env = pure cl ∧ (∀ x c, cl.lookup x = some c → env.cells.lookup x = some c) ∧ ∀ x, (x, NameKind.free) ∈ scope.names → ∃ c, cl.lookup x = some c := by
 obtain ⟨cl, e1, e2, _, e4⟩ := close_go env scope.names [] h (fun x c e => by simp at e)
 refine ⟨cl, ?_, e2, e4⟩
 have e : closureFor scope env = (closeGo scope.names [] env >>= fun cs => pure cs) := rfl
 rw [e, e1]
 rfl
theorem lookup_relabel {env : Env} : ∀ (names : List (Str × NameKind)) (x : Str),
  (names.map fun (n, k) => if (k == NameKind.free && env.scope.kind == .function && env.kindOf n == some .cell) then (n, NameKind.cell) else (n, k)).lookup x =
   (names.lookup x).map fun k => if (k == NameKind.free && env.scope.kind == .function && env.kindOf x == some .cell) = true then NameKind.cell else k
 | [], _ => rfl
 | (n, k) :: r, x => by
  have ih := lookup_relabel (env := env) r x
  show List.lookup x ((if (k == NameKind.free && env.scope.kind == .function && env.kindOf n == some .cell) = true then (n, NameKind.cell) else (n, k)) :: _) = _
  by_cases hx : x = n
  ·subst hx
   rw [look_here]
   by_cases hc : (k == NameKind.free && env.scope.kind == .function && env.kindOf x == some .cell) = true
   ·rw [if_pos hc, look_here]
    show some NameKind.cell = some (if _ then _ else _)
    rw [if_pos hc]
   ·rw [if_neg hc, look_here]
    show some k = some (if _ then _ else _)
    rw [if_neg hc]
  ·rw [look_there (r := r) hx]
   by_cases hc : (k == NameKind.free && env.scope.kind == .function && env.kindOf n == some .cell) = true
   ·rw [if_pos hc, look_there hx]
    exact ih
   ·rw [if_neg hc, look_there hx]
    exact ih
def Caps (X : Cx) (scope : Scope) : List Nat → List Str → Prop
 | [], [] => True
 | i :: is, x :: xs => (X.N[i]? = some x ∧ scope.names.lookup x = some .free ∧ X.env.scope.names.lookup x = some .cell) ∧ Caps X scope is xs
 | _, _ => False
def capS (σ : St) (is : List Nat) : St := is.map fun (i : Nat) => (σ[i]?).join
theorem caps_len {X : Cx} {scope : Scope} : ∀ {is : List Nat} {xs : List Str}, Caps X scope is xs → is.length = xs.length
 | [], [], _ => rfl
 | _ :: is, _ :: xs, h => by rw [List.length_cons, List.length_cons, caps_len h.2]
 | [], _ :: _, h => h.elim
 | _ :: _, [], h => h.elim
theorem caps_get {X : Cx} {scope : Scope} {σ : St} : ∀ {is : List Nat} {xs : List Str} {j : Nat} {x : Str} {v : V}, Caps X scope is xs → xs[j]? = some x → (capS σ is)[j]? = some (some v) →
  ∃ i : Nat, X.N[i]? = some x ∧ σ[i]? = some (some v) ∧ scope.names.lookup x = some .free ∧ X.env.scope.names.lookup x = some .cell
 | [], [], j, x, v, _, e, _ => by simp at e
 | [], _ :: _, _, _, _, h, _, _ => h.elim
 | _ :: _, [], _, _, _, h, _, _ => h.elim
 | i :: is, y :: xs, 0, x, v, h, e, q => by
  have e' : y = x := by simpa using e
  subst e'
  have q' : (σ[i]?).join = some v := by simpa [capS] using q
  refine ⟨i, h.1.1, ?_, h.1.2⟩
  cases z : σ[i]? with
  | none => rw [z] at q'; cases q'
  | some w => rw [z] at q'; exact congrArg some q'
 | i :: is, y :: xs, j + 1, x, v, h, e, q => caps_get (is := is) (xs := xs) (j := j) h.2 (by simpa using e) (by simpa [capS] using q)
def cxC (X : Cx) (N : List Str) (scope : Scope) (cl : List (Str × Addr)) (C : Addr) (s : Shared) (H : Hp) (fp : List Addr) : Cx where
 prog := X.prog
 w := X.w
 K := X.K
 mg := X.mg
 base := X.base
 A := X.A
 N := N
 s₀ := s
 H₀ := H
 env := compEnvC scope cl C X.env
 outer := X.stack
 stack := X.stack
 ex := fp
 calm := true
 fn := fun _ => false
 pn := []
 xe := fun _ _ => False
def PIf (X : Cx) (ifs : List Expr) (t : TT) : Prop :=
 ∀ (pins : List (Addr × Obj)) (s : Shared) (σ : St) (H : Hp) (Q : Bool → Hp → Prop), Inv X pins σ H s → t σ H Q →
  wpAny (model X.prog X.w) X.A (forIn ifs true fun c r => if r = true then do let ok ← isTrue c X.env (eval c X.env); pure (ForInStep.yield ok) else pure (ForInStep.yield r)) (TP X pins σ Q) X.xe s
def tYes : TT := fun _ H Q => Q true H
theorem pif_nil {X : Cx} : PIf X [] tYes := fun _ _ _ H _ I h => wpAny_tests_nil ⟨H, I, h⟩
theorem pif_one {X : Cx} {c : Expr} {t : TT} (h : PT X c t) : PIf X [c] t := fun pins s σ H Q I q => wpAny_tests_one (h pins s σ H Q I q)
theorem compLoop_go {prog : Program} {w : World} {A : Around} {R : Result → Shared → Prop} {s : Shared} {elt target iter : Expr} {ifs : List Expr} {scope : Scope} {pos : Pos} {it acc : Value} {env : Env} (I : Nat → Shared → Prop)
  (turn : ∀ n s, I n s → wpAny (model prog w) A (pyNext it) (fun r s₁ => match r with
   | none => R (.ok .next) s₁
   | some v => wpAny (model prog w) A (letOwnedTupleGo target it v) (fun _ s₀ => wpAny (model prog w) A (assign target env v) (fun _ s₂ =>
     wpAny (model prog w) A (forIn ifs true fun c r => if r = true then do let ok ← isTrue c env (eval c env); pure (ForInStep.yield ok) else pure (ForInStep.yield r)) (fun ok s₃ =>
      if ok = true then wpAny (model prog w) A (eval elt env) (fun x s₄ =>
       wpAny (model prog w) A (call (.builtin "list.append") [acc, x]) (fun _ s₅ => ∃ m, m < n ∧ I m s₅) (notedBy (model prog w) A env fun e s' => R (.error e) s') s₄) (notedBy (model prog w) A env fun e s' => R (.error e) s') s₃
      else ∃ m, m < n ∧ I m s₃) (notedBy (model prog w) A env fun e s' => R (.error e) s') s₂) (notedBy (model prog w) A env fun e s' => R (.error e) s') s₀) (notedBy (model prog w) A env fun e s' => R (.error e) s') s₁) (notedBy (model prog w) A env fun e s' => R (.error e) s') s)
  (n : Nat) (h : I n s) :
  codeAny (model prog w) A (.compLoop (.ListComp elt [⟨target, iter, ifs, 0⟩] scope pos) 0 it acc env) R s := by
 refine codeAny_loop rfl I (fun n s hI => ?_) n h
 show wpAny _ A ((compTurn (.ListComp elt [⟨target, iter, ifs, 0⟩] scope pos) 0 it acc env).onRaise (fun x => do noteFrame x env; theTreesLotGoes x)) _ _ s
 refine wpAny_noted ?_
 rw [compTurn_list]
 refine wpAny_bind (wpAny_standAt (wpAny_bind (wpAny_mono (turn n s hI) (fun r s₁ h₁ => ?_) fun _ _ h' => h')))
 cases r with
 | none => exact wpAny_pure h₁
 | some v =>
  refine wpAny_bind (wpAny_mono h₁ (fun _ s₀ h₀ => ?_) fun _ _ h' => h')
  refine wpAny_bind (wpAny_mono h₀ (fun _ s₂ h₂ => wpAny_bind (wpAny_mono h₂ (fun ok s₃ h₃ => ?_) fun _ _ h' => h')) fun _ _ h' => h')
  cases ok with
  | false => exact wpAny_pure ⟨rfl, h₃⟩
  | true =>
   exact wpAny_bind (wpAny_bind (wpAny_mono h₃ (fun x s₄ h₄ => wpAny_bind (wpAny_mono h₄ (fun _ s₅ h₅ => wpAny_pure (wpAny_pure ⟨rfl, h₅⟩)) fun _ _ h' => h')) fun _ _ h' => h'))
abbrev lObj (its : List Value) (k : Nat) : Obj := { cls := .type "list", data := .seq its.toArray k }
section
variable {X : Cx} {pins : List (Addr × Obj)} {σ : St} {H2 : Hp} {s₂ : Shared} {names : List Str} {is : List Nat} {x : Str} {px pos : Pos} {scope : Scope} {cl : List (Str × Addr)} {elt iter : Expr} {ifs : List Expr} {it : Addr} {fp : List Addr}
 {tn : Nat → Heap → Prop} {J : It} {te : TE} {tt : TT}
theorem lc_back {C : Addr} {σ' : St} {H' : Hp} {s' : Shared} {its : List Value} {k : Nat} {acc : List V} (I : Inv X pins σ H2 s₂) (hf : ∀ b ∈ fp, FpOk X pins H2 b)
  (I' : Inv (cxC X (names ++ [x]) scope cl C s₂ H2 fp) [(s₂.heap.objs.size, lObj its k)] σ' H' s') (rv : Vals acc its) (hz : acc.length ≤ sizeLine) :
  Inv X pins σ (upd H' s₂.heap.objs.size (.lst acc)) s' := by
 have pD := I'.pin (s₂.heap.objs.size, lObj its k) (by simp)
 have J1 : Inv X pins σ H' s' := I.call' (ch := fp) I'.os I'.base I'.hok I'.bare fun b hb => by
  obtain ⟨_, f1, _, f3, f4, f5⟩ := hf b hb
  exact ⟨f3, f1, f4, f5⟩
 refine J1.adopt pD.2.1 I.sz (Ne.symm (Nat.ne_of_lt I.lt)) (fun y c e z => ?_) (fun p hp z => ?_) ⟨hz, its, k, rv, pD.1⟩
 ·obtain ⟨v, q⟩ := I.cell y c e
  exact absurd q.lt (by rw [z]; exact Nat.lt_irrefl _)
 ·exact absurd (Heap.lt_size (I.pin p hp).1) (by rw [z]; exact Nat.lt_irrefl _)
theorem lc_block {E : Value → Shared → Prop} {RR : Value → Addr → Result → Shared → Prop} {F : List V → Hp → Prop} (hcalm : X.calm = true) (hkind : scope.kind = .function) (hcell : ∀ y ∈ scope.names, y.2 ≠ .cell) (hx : scope.names.lookup x = some .local)
  (hcl1 : ∀ y c, cl.lookup y = some c → X.env.cells.lookup y = some c) (hcl2 : ∀ y, (y, NameKind.free) ∈ scope.names → ∃ c, cl.lookup y = some c) (hcap : Caps X scope is names) (hN : (names ++ [x]).Nodup)
  (I : Inv X pins σ H2 s₂) (T : Turn X.prog X.w X.K (.Name x px) J fp it tn) (st : tn 0 s₂.heap) (hf : ∀ b ∈ fp, FpOk X pins H2 b)
  (htest : ∀ C s H, PIf (cxC X (names ++ [x]) scope cl C s H fp) ifs tt) (helt : ∀ C s H, PE (cxC X (names ++ [x]) scope cl C s H fp) elt te)
  (W : Nat → Nat → List V → Hp → Prop) (m0 : Nat) (w0 : W 0 m0 [] H2)
  (step : ∀ i m acc H, W i m acc H → (J.stop i H ∧ F acc H) ∨ (J.go i H ∧ acc.length < sizeLine ∧ ∃ N : List V → Hp → Prop, (∀ acc' H', N acc' H' → ∃ m', m' < m ∧ W (i + 1) m' acc' H') ∧ ∀ v H', J.yld i H v H' → tt (capS σ is ++ [some v]) H' fun b H3 => if b = true then te (capS σ is ++ [some v]) H3 fun y H4 => N (acc ++ [y]) H4 else N acc H3))
  (hRR : ∀ C σ' H' s' its k acc, s₂.heap.objs.size < C → Inv (cxC X (names ++ [x]) scope cl C s₂ H2 fp) [(s₂.heap.objs.size, lObj its k)] σ' H' s' → Vals acc its → acc.length ≤ sizeLine → F acc H' → RR (.ref s₂.heap.objs.size) C (.ok .next) s') :
  wpAny (model X.prog X.w) X.A (newList []) (fun acc s₃ => wpAny (model X.prog X.w) X.A (newFunctionEnv scope X.env.globals cl [] X.env.qual none .none (some X.env)) (fun cenv s₄ =>
   codeAny (model X.prog X.w) X.A (.compStart (.ListComp elt [⟨.Name x px, iter, ifs, 0⟩] scope pos) 0 (.ref it) acc { cenv with scope := relabel scope X.env }) (RR acc cenv.locals) s₄) E s₃) E s₂ := by
 refine wpAny_newObj_type (wpAny_newFunctionEnv hcell (by intro y hy; simp at hy) (fun h₁ hns₁ hsb₁ => ?_) hkind)
 dsimp only at hns₁ hsb₁ ⊢
 generalize hH2 : s₂.heap.push { cls := .type "list", dict := none, data := .seq ([] : List Value).toArray } = G2 at hns₁ hsb₁ ⊢
 have hC : G2.objs.size = s₂.heap.objs.size + 1 := by rw [← hH2, Heap.size_push]
 have old : ∀ b o, s₂.heap.get? b = some o → h₁.get? b = some o := fun b o e => hsb₁.extBut b o (Nat.ne_of_lt (Nat.lt_of_lt_of_le (Heap.lt_size e) (by rw [hC]; exact Nat.le_succ _))) (Heap.get?_push_of_some _ (hH2 ▸ Heap.get?_push_of_some _ e))
 have hD₁ : h₁.get? s₂.heap.objs.size = some (lObj [] 0) := hsb₁.extBut _ _ (Nat.ne_of_lt (by rw [hC]; exact Nat.lt_succ_self _)) (Heap.get?_push_of_some _ (hH2 ▸ Heap.get?_push_size _ rfl))
 clear hsb₁
 generalize hCC : G2.objs.size = C at hns₁ hC ⊢
 have hDC : s₂.heap.objs.size < C := by omega
 have fpl : ∀ b ∈ fp, b < s₂.heap.objs.size := fun b hb => by
  obtain ⟨o, e, _⟩ := T.obj 0 _ st b hb
  exact Heap.lt_size e
 have clt : ∀ y c, cl.lookup y = some c → c < s₂.heap.objs.size := fun y c e => by
  obtain ⟨v, q⟩ := I.cell y c (hcl1 y c e)
  exact q.lt
 have kindEq : ∀ y, (compEnvC scope cl C X.env).kindOf y = (scope.names.lookup y).map fun k => if (k == NameKind.free && X.env.scope.kind == .function && X.env.kindOf y == some .cell) = true then NameKind.cell else k := fun y => lookup_relabel scope.names y
 have fnk : (X.env.scope.kind == ScopeKind.function) = true := by rw [I.ok.kind]; rfl
 have ok' : (cxC X (names ++ [x]) scope cl C s₂ H2 fp).Ok := by
  refine ⟨I.ok.mod, hkind, I.ok.glob, I.ok.blt, Nat.le_of_lt hDC, fun y z c h1 h2 => I.ok.inj y z c (hcl1 y c h1) (hcl1 z c h2), fun y hy => ?_, fun y c h _ => (by cases h), fun _ => I.ok.hd hcalm, I.ok.frames, .inl rfl, fun b hb => ⟨?_, fun y c e => ?_⟩, I.bs, Nat.le_trans I.ok.bsz I.sz, fun b o e hb => ?_, fun b hb hz => ?_, I.stack, I.stkFree⟩
  ·have hy' : (compEnvC scope cl C X.env).kindOf y = some .cell ∨ (compEnvC scope cl C X.env).kindOf y = some .free := hy
   rw [kindEq] at hy'
   cases e : scope.names.lookup y with
   | none => rw [e] at hy'; rcases hy' with z | z <;> cases z
   | some k =>
    have hk : k = .free := by
     rw [e] at hy'
     by_cases hc : k = .free
     ·exact hc
     ·have hb : (k == NameKind.free) = false := by simpa using hc
      simp only [hb, Bool.false_and, Bool.false_eq_true, if_false, Option.map_some] at hy'
      rcases hy' with z | z
      ·have z' : k = .cell := Option.some.inj z
       exact absurd z' (hcell (y, k) (PySem.mem_of_lookup e))
      ·exact Option.some.inj z
    subst hk
    exact hcl2 y (PySem.mem_of_lookup e)
  ·exact Nat.ne_of_lt (Nat.lt_trans (fpl b hb) hDC)
  ·exact (hf b hb).2.2.2.2.1 y c (hcl1 y c e)
  ·rcases (hf b hb).2.2.2.1 with z | z
   ·exact I.ok.noex b o e z
   ·exact absurd (Nat.lt_of_lt_of_le (Heap.lt_size e) (Nat.le_trans I.ok.bsz z)) (Nat.lt_irrefl _)
  ·rcases List.mem_cons.mp (I.stkSub b hz) with z | z
   ·exact (hf b hb).2.1 z
   ·exact (hf b hb).2.2.1 z
 have nD : s₂.heap.objs.size ∉ frs X.stack := fun hz => by
  obtain ⟨_, o, ho, _⟩ := I.stack.mem hz
  exact absurd (Heap.lt_size ho) (Nat.lt_irrefl _)
 have freshD : H2 s₂.heap.objs.size = none := I.hok.fresh (Nat.le_refl _)
 have start : ∀ tk, Inv (cxC X (names ++ [x]) scope cl C s₂ H2 fp) [(s₂.heap.objs.size, lObj [] 0)] (capS σ is ++ [none]) H2 { s₂ with heap := h₁, toks := tk } := fun tk => by
  refine ⟨ok', rfl, I.bare, Un.kept old, ⟨_, hns₁, fun i y v e1 e2 e3 => ?_⟩, fun y c e => ?_, I.hok.fresh (Nat.le_of_lt hDC), fun y c e => I.freeC y c (hcl1 y c e), fun p hp => ?_, I.hok.kept old, ?_⟩
  ·have hi : i < names.length := by
    by_cases hi : i < names.length
    ·exact hi
    ·have hl : (capS σ is).length ≤ i := by
      unfold capS
      rw [List.length_map, caps_len hcap]
      omega
     rw [List.getElem?_append_right hl] at e2
     rcases Nat.eq_zero_or_pos (i - (capS σ is).length) with z | z
     ·rw [z] at e2
      cases e2
     ·rw [List.getElem?_eq_none (by simp; omega)] at e2
      cases e2
   have hl : i < (capS σ is).length := by
    unfold capS
    rw [List.length_map, caps_len hcap]
    exact hi
   have e1' : names[i]? = some y := by
    have : (names ++ [x])[i]? = some y := e1
    rwa [List.getElem?_append_left hi] at this
   rw [List.getElem?_append_left hl] at e2
   obtain ⟨j, g1, g2, g3, g4⟩ := caps_get hcap e1' e2
   obtain ⟨m, hn, hl'⟩ := I.loc
   obtain ⟨u, ru, lk⟩ := hl' j y v g1 g2 (.inr (.inl g4))
   refine ⟨u, ru, .inr ⟨.inl ?_, ?_⟩⟩
   ·show (compEnvC scope cl C X.env).kindOf y = some .cell
    rw [kindEq, g3]
    have hk : X.env.kindOf y = some .cell := g4
    rw [hk, fnk]
    rfl
   ·obtain ⟨c, hc⟩ := hcl2 y (PySem.mem_of_lookup g3)
    refine ⟨c, hc, ?_⟩
    rcases lk with ⟨k1, _⟩ | ⟨_, c', hc', hcell'⟩
    ·have hk : X.env.kindOf y = some .cell := g4
     rw [hk] at k1
     cases k1
    ·have := hcl1 y c hc
     rw [hc'] at this
     cases this
     obtain ⟨o, ho, hd⟩ := hcell'
     exact ⟨o, old _ _ ho, hd⟩
  ·obtain ⟨v, o, ho, hd⟩ := I.cell y c (hcl1 y c e)
   exact ⟨v, o, old _ _ ho, hd⟩
  ·have hp' : p ∈ [(s₂.heap.objs.size, lObj [] 0)] := by simpa [cxC] using hp
   have e := List.mem_singleton.mp hp'
   subst e
   exact ⟨hD₁, freshD, Nat.ne_of_lt hDC, nD, fun v z => by cases z⟩
  ·show (capS σ is ++ [none]).length = (names ++ [x]).length
   unfold capS
   rw [List.length_append, List.length_append, List.length_map, caps_len hcap]
   rfl
 have slot : (names ++ [x])[is.length]? = some x := by
  rw [caps_len hcap, List.getElem?_append_right (Nat.le_refl _)]
  simp
 have setS : ∀ v : V, (capS σ is ++ [none]).set is.length (some v) = capS σ is ++ [some v] := fun v => by
  have hl : (capS σ is).length = is.length := by unfold capS; rw [List.length_map]
  rw [List.set_append_right _ _ (by omega), hl, Nat.sub_self]
  rfl
 have locX : Loc (cxC X (names ++ [x]) scope cl C s₂ H2 fp).env.scope x := .inl (lookup_relabel_local hx)
 have stat : ∀ {H' : Hp} {its : List Value} {k : Nat}, (∀ b ∈ fp, H' b = none) → ∀ b ∈ fp, FpOk (cxC X (names ++ [x]) scope cl C s₂ H2 fp) [(s₂.heap.objs.size, lObj its k)] H' b := fun {H' its k} hn b hb => by
  refine ⟨hn b hb, ?_, fun hz => ok'.exfs b hb hz, .inl hb, fun y c e => (hf b hb).2.2.2.2.1 y c (hcl1 y c e), fun p hp z => ?_⟩
  ·exact Nat.ne_of_lt (Nat.lt_trans (fpl b hb) hDC)
  ·have hp' : p ∈ [(s₂.heap.objs.size, lObj its k)] := by simpa [cxC] using hp
   have e := List.mem_singleton.mp hp'
   subst e
   exact Nat.ne_of_lt (fpl b hb) (Eq.symm z)
 have loop : ∀ s₃ : Shared, (∃ tk, s₃ = { s₂ with heap := h₁, toks := tk }) →
   codeAny (model X.prog X.w) X.A (.compLoop (.ListComp elt [⟨.Name x px, iter, ifs, 0⟩] scope pos) 0 (.ref it) (.ref s₂.heap.objs.size) (compEnvC scope cl C X.env)) (RR (.ref s₂.heap.objs.size) C) s₃ := by
  rintro s₃ ⟨tk, rfl⟩
  refine compLoop_go (fun n s' => ∃ i acc its k H', Inv (cxC X (names ++ [x]) scope cl C s₂ H2 fp) [(s₂.heap.objs.size, lObj its k)] (capS σ is ++ [none]) H' s' ∧ tn i s'.heap ∧ (∀ b ∈ fp, H' b = none) ∧ Vals acc its ∧ acc.length ≤ sizeLine ∧ W i n acc H') ?_ m0
   ⟨0, [], [], 0, H2, start tk, T.keep _ _ _ st (fun b _ o e => old b o e), fun b hb => (hf b hb).1, .nil, Nat.zero_le _, w0⟩
  rintro n s3 ⟨i, acc, its, k, H3, I3, st3, fr3, rv, hz, w3⟩
  rcases step i n acc H3 w3 with ⟨stop, fin⟩ | ⟨go, hlt, N, hNx, more⟩
  ·refine thn (T.done (cxC X (names ++ [x]) scope cl C s₂ H2 fp) rfl rfl rfl rfl i _ s3 _ H3 _ I3 (stat fr3) st3 stop) fun r s4 ⟨hr, I4⟩ => ?_
   subst hr
   exact hRR C _ H3 s4 its k acc hDC I4 rv hz fin
  ·refine thn (T.item (cxC X (names ++ [x]) scope cl C s₂ H2 fp) rfl rfl rfl rfl i _ s3 _ H3 _ I3 (stat fr3) st3 go) fun r s4 ⟨u, hr, h4⟩ => ?_
   subst hr
   refine thn h4 fun _ s4' ⟨v, H5, I5, r5, y5, st5, fr5⟩ => ?_
   have I5' := I5.pinned (stat fr5) (T.obj _ _ st5)
   refine wpAny_assign_Name ?_
   refine store_ok (X := cxC X (names ++ [x]) scope cl C s₂ H2 fp) I5' hN slot locX r5 (fun s6 I6 => ?_) (.inr (lookup_relabel_local hx))
   rw [setS] at I6
   have ev := more v H5 y5
   refine wpAny_mono (htest C s₂ H2 _ s6 _ H5 _ I6 ev) (fun b s7 h7 => ?_) (fun _ _ f => f.elim)
   obtain ⟨H7, I7, q7⟩ := h7
   have again : ∀ {s8 : Shared} {H8 : Hp} {acc' : List V} {its' : List Value} {k' m' : Nat}, Inv (cxC X (names ++ [x]) scope cl C s₂ H2 fp) [(s₂.heap.objs.size, lObj its' k')] (capS σ is ++ [some v]) H8 s8 →
     (∀ b ∈ fp, ∀ o, s4'.heap.get? b = some o → s8.heap.get? b = some o ∧ H8 b = none) → Vals acc' its' → acc'.length ≤ sizeLine → m' < n → W (i + 1) m' acc' H8 →
     ∃ m, m < n ∧ ∃ i acc its k H', Inv (cxC X (names ++ [x]) scope cl C s₂ H2 fp) [(s₂.heap.objs.size, lObj its k)] (capS σ is ++ [none]) H' s8 ∧ tn i s8.heap ∧ (∀ b ∈ fp, H' b = none) ∧ Vals acc its ∧ acc.length ≤ sizeLine ∧ W i m acc H' := by
    intro s8 H8 acc' its' k' m' I8 kp rv' hz' hm w8
    refine ⟨m', hm, i + 1, acc', its', k', H8, I8.weak (by rw [List.length_append, List.length_append]; rfl) (fun j z e => ?_), T.keep _ _ _ st5 (fun b hb o e => (kp b hb o e).1), fun b hb => ?_, rv', hz', w8⟩
    ·by_cases hj : j < (capS σ is).length
     ·rw [List.getElem?_append_left hj] at e ⊢
      exact e
     ·rw [List.getElem?_append_right (by omega)] at e
      rcases Nat.eq_zero_or_pos (j - (capS σ is).length) with q | q
      ·rw [q] at e
       cases e
      ·rw [List.getElem?_eq_none (by simp; omega)] at e
       cases e
    ·obtain ⟨o, e, _⟩ := T.obj _ _ st5 b hb
     exact (kp b hb o e).2
   have pins7 : ∀ b ∈ fp, ∀ o, s4'.heap.get? b = some o → s7.heap.get? b = some o ∧ H7 b = none := fun b hb o e => by
    have q := I7.pin (b, o) (List.mem_append_right _ (List.mem_append_right _ (mem_pinsAt hb e)))
    exact ⟨q.1, q.2.1⟩
   cases b with
   | false =>
    rw [if_neg Bool.false_ne_true] at q7
    obtain ⟨m', hm, w7⟩ := hNx _ _ q7
    rw [if_neg Bool.false_ne_true]
    exact again I7.unpinned pins7 rv hz hm w7
   | true =>
    rw [if_pos rfl] at q7
    rw [if_pos rfl]
    refine wpAny_mono (helt C s₂ H2 _ s7 _ H7 _ I7 q7) (fun y s8 h8 => ?_) (fun _ _ f => f.elim)
    obtain ⟨yv, H8, I8, r8, q8⟩ := h8
    obtain ⟨m', hm, w8⟩ := hNx _ _ q8
    have pD := I8.pin (s₂.heap.objs.size, lObj its k) (List.mem_append_right _ (List.mem_append_left _ (by simp)))
    have hlen := rv.length
    refine wpAny_list_append_plain (items := its.toArray) ⟨k, pD.1⟩ (fun h' hl' sb => ?_) (by rw [List.size_toArray]; omega)
    obtain ⟨k', hk'⟩ := hl'
    have I9 : Inv (cxC X (names ++ [x]) scope cl C s₂ H2 fp) [] (capS σ is ++ [some v]) H8 { s8 with heap := h' } :=
     (I8.pins_of (pins' := []) (fun p hp => absurd hp (by simp))).turned (t' := s8.toks) (fun b o hb e => (sb.2 b hb).trans e) pD.2.1 pD.2.2.1 (.inr (Nat.le_refl _)) (fun z c e => Nat.ne_of_lt (clt z c e)) (fun p hp => absurd (show p ∈ ([] : List (Addr × Obj)) from hp) (by simp))
    have eD : h'.get? s₂.heap.objs.size = some (lObj (its ++ [y]) k') := by
     rw [hk']
     simp
    have I10 := I9.pins_of (pins' := [(s₂.heap.objs.size, lObj (its ++ [y]) k')]) fun p hp => by
     have e := List.mem_singleton.mp hp
     subst e
     exact ⟨eD, pD.2.1, pD.2.2.1, pD.2.2.2.1, fun v z => by cases z⟩
    refine again I10 (fun b hb o e => ?_) (rv.append (.cons r8 .nil)) ?_ hm w8
    ·have q := I8.pin (b, o) (List.mem_append_right _ (List.mem_append_right _ (mem_pinsAt hb e)))
     exact ⟨(sb.2 b (Nat.ne_of_lt (fpl b hb))).trans q.1, q.2.1⟩
    ·rw [List.length_append, List.length_singleton]
     omega
 exact codeAny_compStart_list (loop _ ⟨_, rfl⟩) (T.self X.A 0 _ _ _ (T.keep _ _ _ st fun b _ o e => old b o e) (loop _ ⟨_, rfl⟩))
end
def lcOk (scope sc : Scope) (x : Str) (names : List Str) : Bool :=
 decide (scope.kind = .function) && scope.names.all (fun p => decide (p.2 ≠ .cell)) && (scope.names.all fun p => decide (p.2 ≠ .free) || decide (sc.names.lookup p.1 = some .cell)) &&
  (scope.names.all fun p => decide (p.2 ≠ .local) || decide (scope.names.lookup p.1 = some .local)) && decide (scope.names.lookup x = some .local) && decide (names ++ [x]).Nodup
theorem lcOk_of {scope sc : Scope} {x : Str} {names : List Str} (h : lcOk scope sc x names = true) : scope.kind = .function ∧ (∀ y ∈ scope.names, y.2 ≠ .cell) ∧ (∀ y, (y, NameKind.free) ∈ scope.names → sc.names.lookup y = some .cell) ∧
  (∀ y ∈ scope.names, y.2 = .local → scope.names.lookup y.1 = some .local) ∧ scope.names.lookup x = some .local ∧ (names ++ [x]).Nodup := by
 unfold lcOk at h
 simp only [Bool.and_eq_true, List.all_eq_true, Bool.or_eq_true, decide_eq_true_eq] at h
 obtain ⟨⟨⟨⟨⟨h1, h2⟩, h3⟩, h4⟩, h5⟩, h6⟩ := h
 refine ⟨h1, h2, fun y hy => ?_, fun y hy e => ?_, h5, h6⟩
 ·rcases h3 _ hy with z | z
  ·exact absurd rfl z
  ·exact z
 ·rcases h4 y hy with z | z
  ·exact absurd e z
  ·exact z
def LcGo (J : It) (σ : St) (is : List Nat) (tt : TT) (te : TE) (Q : VK) (H1 : Hp) : Prop := ∃ W : Nat → Nat → List V → Hp → Prop, (∃ m, W 0 m [] H1) ∧ ∀ i m acc H, W i m acc H →
 (J.stop i H ∧ ∀ p, H p = none → Q (.ref p) (upd H p (.lst acc))) ∨
 (J.go i H ∧ acc.length < sizeLine ∧ ∃ N : List V → Hp → Prop, (∀ acc' H', N acc' H' → ∃ m', m' < m ∧ W (i + 1) m' acc' H') ∧ ∀ v H', J.yld i H v H' → tt (capS σ is ++ [some v]) H' fun b H3 => if b = true then te (capS σ is ++ [some v]) H3 fun y H4 => N (acc ++ [y]) H4 else N acc H3)
def tLc (wi : TI) (is : List Nat) (tt : TT) (te : TE) : TE := fun σ H Q => wi σ H fun J H1 => LcGo J σ is tt te Q H1
section
variable {X : Cx} {names : List Str} {is : List Nat} {x : Str} {px pos : Pos} {scope : Scope} {elt iter : Expr} {ifs : List Expr} {te : TE} {tt : TT} {wi : TI}
theorem Inv.behind {pins : List (Addr × Obj)} {σ : St} {H : Hp} {s s₂ : Shared} {C : Addr} {H2 : Hp} {σ2 : St} (I : Inv X pins σ H s) (I2 : Inv X pins σ2 H2 s₂) (hC : s₂.heap.objs.size < C) (hn : H C = none) {h' : Heap} (sb : Heap.SameBut C s.heap h') : Inv X pins σ H { s with heap := h' } := by
 refine I.turned (t' := s.toks) (fun b o hb e => (sb.2 b hb).trans e) hn (Nat.ne_of_gt (Nat.lt_trans I2.lt hC)) (.inr (Nat.le_of_lt (Nat.lt_of_le_of_lt I2.sz hC))) (fun y c e z => ?_) (fun p hp z => ?_)
 ·obtain ⟨v, q⟩ := I2.cell y c e
  exact Nat.ne_of_lt (Nat.lt_trans q.lt hC) z
 ·exact Nat.ne_of_lt (Nat.lt_trans (Heap.lt_size (I2.pin p hp).1) hC) z
theorem clos_of {pins : List (Addr × Obj)} {σ : St} {H : Hp} {s : Shared} (I : Inv X pins σ H s) (hfree : ∀ y, (y, NameKind.free) ∈ scope.names → X.env.scope.names.lookup y = some .cell) :
  ∃ cl, closureFor scope X.env = pure cl ∧ (∀ y c, cl.lookup y = some c → X.env.cells.lookup y = some c) ∧ ∀ y, (y, NameKind.free) ∈ scope.names → ∃ c, cl.lookup y = some c :=
 close_of fun y hy => I.ok.has y (.inl (hfree y hy))
theorem pe_lc (sc : Scope) (is : List Nat) (names : List Str) (hsc : X.env.scope = sc) (hcalm : X.calm = true) (hok : lcOk scope sc x names = true) (hcap : Caps X scope is names)
  (hi : PI X (.Name x px) iter wi) (htest : ∀ cl C s H fp, PIf (cxC X (names ++ [x]) scope cl C s H fp) ifs tt) (helt : ∀ cl C s H fp, PE (cxC X (names ++ [x]) scope cl C s H fp) elt te)
  (hs : ∀ x, foldedSetIterable iter X.env x = pure x := by intro _; rfl) : PE X (.ListComp elt [⟨.Name x px, iter, ifs, 0⟩] scope pos) (tLc wi is tt te) := by
 intro pins s σ H Q I h
 subst hsc
 obtain ⟨hkind, hcell, hfree, hnames, hx, hN⟩ := lcOk_of hok
 obtain ⟨cl, hclos, hcl1, hcl2⟩ := clos_of I hfree
 rw [eval_ListComp]
 refine wpAny_comprehension_free (use := none) rfl hs hclos hkind hnames (wpAny_mono (hi pins s σ H _ I h) (fun v s1 h1 => wpAny_mono h1 (fun itv s2 h2 => ?_) fun _ _ e => e) fun _ _ e => e)
 obtain ⟨it, fp, tn, J, H2, e, I2, T, st2, f2, W, ⟨m0, w0⟩, step⟩ := h2
 subst e
 refine lc_block (F := fun acc H' => ∀ p, H' p = none → Q (.ref p) (upd H' p (.lst acc))) (RR := fun acc C => compPost (model X.prog X.w) X.A X.xe none (EP X pins σ Q) acc C) hcalm hkind hcell hx hcl1 hcl2 hcap hN I2 T st2 f2 (fun C s H => htest cl C s H fp) (fun C s H => helt cl C s H fp) W m0 w0 step ?_
 intro C σ' H' s' its k acc hC I' rv hz fin
 have J1 := lc_back I2 f2 I' rv hz
 obtain ⟨m, hn, _⟩ := I'.loc
 have hCn : upd H' s2.heap.objs.size (.lst acc) C = none := by
  rw [upd_ne (Nat.ne_of_gt hC)]
  exact I'.free
 refine ⟨m, hn, fun h' sb => ?_⟩
 exact ⟨.ref s2.heap.objs.size, _, J1.behind I2 hC hCn sb, rfl, fin _ (I'.pin (s2.heap.objs.size, lObj its k) (by simp)).2.1⟩
theorem ps_setLc (sc : Scope) (is : List Nat) (names : List Str) {i : Nat} {y : Str} {py spos : Pos} (nd : X.N.Nodup) (hy : X.N[i]? = some y) (hly : Loc X.env.scope y) (hsc : X.env.scope = sc) (hcalm : X.calm = true) (hok : lcOk scope sc x names = true) (hcap : Caps X scope is names)
  (hi : PI X (.Name x px) iter wi) (htest : ∀ cl C s H fp, PIf (cxC X (names ++ [x]) scope cl C s H fp) ifs tt) (helt : ∀ cl C s H fp, PE (cxC X (names ++ [x]) scope cl C s H fp) elt te)
  (hs : ∀ x, foldedSetIterable iter X.env x = pure x := by intro _; rfl) (hsw : swapsWith (.ListComp elt [⟨.Name x px, iter, ifs, 0⟩] scope pos) (some (.Name y py)) spos.line X.env = pure true := by rfl)
  (hf : X.fn y = true ∨ X.env.scope.names.lookup y = some .local := by first | exact .inl rfl | exact .inr rfl | assumption) :
  PS X (.Assign [.Name y py] (.ListComp elt [⟨.Name x px, iter, ifs, 0⟩] scope pos) spos) (fun D σ H => tLc wi is tt te σ H fun v H1 => D.nx (σ.set i (some v)) H1) := by
 intro pins s σ H D I h
 subst hsc
 obtain ⟨hkind, hcell, hfree, hnames, hx, hN⟩ := lcOk_of hok
 obtain ⟨cl, hclos, hcl1, hcl2⟩ := clos_of I hfree
 rw [exec_Assign_Name_used _ _ _ _ hsw]
 refine wpAny_bind (wpAny_standAt (wpAny_bind ?_))
 show wpAny _ X.A (do let _ ← comprehension (.ListComp elt [⟨.Name x px, iter, ifs, 0⟩] scope pos) scope X.env _ (newList []) false (eval iter X.env) (some (assign (.Name y py) X.env))) _ _ s
 refine wpAny_bind (wpAny_mono (wpAny_comprehension_free (use := some (assign (.Name y py) X.env)) (Q := fun _ s' => SP X pins D .next s') rfl hs hclos hkind hnames
  (wpAny_mono (hi pins s σ H _ I h) (fun v s1 h1 => wpAny_mono h1 (fun itv s2 h2 => ?_) fun _ _ e => e) fun _ _ e => e)) (fun _ s' hq => wpAny_pure (wpAny_pure hq)) fun _ _ e => e)
 obtain ⟨it, fp, tn, J, H2, e, I2, T, st2, f2, W, ⟨m0, w0⟩, step⟩ := h2
 subst e
 refine lc_block (F := fun acc H' => ∀ p, H' p = none → D.nx (σ.set i (some (.ref p))) (upd H' p (.lst acc))) (RR := fun acc C => compPost (model X.prog X.w) X.A X.xe (some (assign (.Name y py) X.env)) (fun _ s' => SP X pins D .next s') acc C) hcalm hkind hcell hx hcl1 hcl2 hcap hN I2 T st2 f2 (fun C s H => htest cl C s H fp) (fun C s H => helt cl C s H fp) W m0 w0 step ?_
 intro C σ' H' s' its k acc hC I' rv hz fin
 have J1 := lc_back I2 f2 I' rv hz
 obtain ⟨m, hn, _⟩ := I'.loc
 have hCn : upd H' s2.heap.objs.size (.lst acc) C = none := by
  rw [upd_ne (Nat.ne_of_gt hC)]
  exact I'.free
 show wpAny _ X.A (assign (.Name y py) X.env (.ref s2.heap.objs.size)) _ _ _
 refine wpAny_assign_Name (store_ok2 J1 nd hy hly (v := .ref s2.heap.objs.size) rfl (fun s'' J2 sb2 => ?_) hf)
 obtain ⟨a, sb2, ha⟩ := sb2
 have hCa : C ≠ a := by
  rcases ha with z | z
  ·rw [z]
   exact Nat.ne_of_gt (Nat.lt_trans I2.lt hC)
  ·obtain ⟨v, q⟩ := I2.cell y a z
   exact Nat.ne_of_gt (Nat.lt_trans q.lt hC)
 refine ⟨m, hn.sameBut sb2 hCa, fun h' sb => ?_⟩
 exact ⟨_, _, J2.behind I2 hC hCn sb, fin _ (I'.pin (s2.heap.objs.size, lObj its k) (by simp)).2.1⟩
end
section
variable {K : PySem.W.Frag} {σ : St} {is : List Nat} {tt : TT} {te : TE} {Q : VK} {H : Hp}
theorem lc_list {a : Addr} {xs : List V} (Pv : Nat → List V → Hp → Prop) (hn : xs.length ≤ 1000000) (h0 : Pv 0 [] H) (hb : ∀ i acc H, Pv i acc H → acc.length ≤ i) (hl : ∀ i acc H, i ≤ xs.length → Pv i acc H → SqL K H a xs)
  (hs : ∀ i x acc H, xs[i]? = some x → Pv i acc H → tt (capS σ is ++ [some x]) H fun b H3 => if b = true then te (capS σ is ++ [some x]) H3 fun y H4 => Pv (i + 1) (acc ++ [y]) H4 else Pv (i + 1) acc H3)
  (hd : ∀ acc H, Pv xs.length acc H → ∀ p, H p = none → Q (.ref p) (upd H p (.lst acc))) :
  LcGo (Itl K a) σ is tt te Q H := by
 refine ⟨fun i m acc H => m = xs.length - i ∧ i ≤ xs.length ∧ Pv i acc H, ⟨xs.length, by simp, Nat.zero_le _, h0⟩, ?_⟩
 rintro i m acc H ⟨rfl, hi, p⟩
 have q := hl i acc H hi p
 by_cases hlt : i < xs.length
 ·refine .inr ⟨⟨xs, xs[i], q, by simp [hlt]⟩, ?_, Pv (i + 1), fun acc' H' p' => ⟨xs.length - (i + 1), by omega, rfl, hlt, p'⟩, fun v H' y => ?_⟩
  ·have := hb i acc H p
   have := sizeLine_eq
   omega
  ·obtain ⟨e, y⟩ := y
   subst e
   exact hs i v acc _ (y xs q) p
 ·have e : i = xs.length := by omega
  subst e
  exact .inl ⟨⟨xs, q, Nat.le_refl _⟩, hd acc H p⟩
end
end L2
namespace L2
open PySem PySem.Spec PyProof.Rows
def kitBB (T n : String) : Option Bool := if (Value.type T == Value.type n) = true then some true else if PySem.W.kitMeta n = true then (fastBuiltinMro T).map (·.contains (.type n)) else none
theorem kit_bb (K : PySem.W.Frag) (T n : String) : PySem.W.kitOne K (.type T) (.type n) = kitBB T n := rfl
def rIsi (K : PySem.W.Frag) : List V → Hp → VK → Prop := fun xs H Q => ∃ x T n b, xs = [x, .ty n] ∧ TyOf K H x (.type T) ∧ kitBB T n = some b ∧ Q (.bl b) H
section
variable {X : Cx}
theorem call_isi : CallR X (.builtin "isinstance") (rIsi X.K) := by
 intro pins s σ H xs us Q I r h
 obtain ⟨x, T, n, b, rfl, ty, e, q⟩ := h
 obtain ⟨u, w', rfl, rx, rn⟩ := vals2 r
 cases rn
 exact isinst_ok I rx ty (by rw [kit_bb]; exact e) fun tk => ⟨.bl b, H, I.tok _, rfl, q⟩
end
theorem boot_isi : bootBuiltins "isinstance" = some (.builtin "isinstance") := by decide +kernel
theorem isi_list_list : kitBB "list" "list" = some true := by decide +kernel
theorem isi_str_str : kitBB "str" "str" = some true := by decide +kernel
theorem isi_tuple_list : kitBB "tuple" "list" = some false := by decide +kernel
theorem isi_int_bool : kitBB "int" "bool" = some false := by decide +kernel
theorem isi_str_bool : kitBB "str" "bool" = some false := by decide +kernel
end L2
namespace L2
open PySem PySem.Spec PyProof.Rows
def Its (l : List Nat) : It := ⟨fun i _ => i < l.length, fun i H x H' => H' = H ∧ ∃ c, l[i]? = some c ∧ x = .str (S [c]), fun i _ => l.length ≤ i⟩
theorem S_get (l : List Nat) (i : Nat) : (S l).cps[i]? = l[i]? := by simp [S]
theorem turn_str {P : Program} {w : World} {K : PySem.W.Frag} {tg : Expr} (l : List Nat) (it : Addr) (t : Tok) : Turn P w K tg (Its l) [it] it (fun i h => h.IsStrIter it "str_ascii_iterator" (S l) t i) where
 mem := by simp
 obj := fun i h st b hb => by
  have e : b = it := by simpa using hb
  subst e
  obtain ⟨o, e, c, d⟩ := st
  exact ⟨o, e, fun v z => by rw [d] at z; cases z⟩
 keep := fun i h h' st k => let ⟨o, ho, r⟩ := st; ⟨o, k it (by simp) o ho, r⟩
 item := by
  intro X hP hw hK hc i pins s σ H E I hf st hg
  subst hP hw hK
  obtain ⟨f0, f1, f2, f3, f4, f5⟩ := hf it (by simp)
  have hi : i < l.length := hg
  refine wpAny_pyNext_ascii_item st (c := l[i]) (by rw [S_get]; simp [hi]) fun h' st' sb => ?_
  have I1 : Inv X pins σ H { s with heap := h', toks := s.toks + 1 } := I.turned (fun b o hb e => (sb.2 b hb).trans e) f0 f1 f3 f4 f5
  obtain ⟨o, e, c, d⟩ := id st'
  exact ⟨_, rfl, go_of (s := { s with heap := h', toks := s.toks + 1 }) e c d (by decide) ⟨.str (S [l[i]]), H, I1, ⟨_, rfl⟩, ⟨rfl, l[i], by simp [hi], rfl⟩, st', fun b hb => (hf b hb).1⟩⟩
 done := by
  intro X hP hw hK hc i pins s σ H E I hf st hg
  subst hP hw hK
  obtain ⟨f0, f1, f2, f3, f4, f5⟩ := hf it (by simp)
  have hi : l.length ≤ i := hg
  exact wpAny_pyNext_ascii_end (I.ok.hd hc) st (by rw [S_get]; exact List.getElem?_eq_none hi) fun h' eb => ⟨rfl, I.turned (t' := s.toks) (fun b o hb e => eb b o hb e) f0 f1 f3 f4 f5⟩
 self := fun _ _ _ _ _ st h => wpAny_pyIter_striter_ascii st h
def Ascii (l : List Nat) : Prop := ∀ c ∈ l, c < 128
def iStr (tl : TE) : TI := fun σ H R => tl σ H fun x H1 => ∃ l, x = .str (S l) ∧ Ascii l ∧ R (Its l) H1
section
variable {X : Cx} {tg : Expr}
theorem pi_str {e : Expr} {te : TE} (he : PE X e te) : PI X tg e (iStr te) := by
 intro pins s σ H R I h
 refine thn (he pins s σ H _ I h) fun v s1 ⟨x, H1, I1, r1, q1⟩ => ?_
 obtain ⟨l, e, ha, q⟩ := q1
 subst e
 obtain ⟨t, rfl⟩ := r1
 refine wpAny_pyIter_ascii ?_ ?_
 ·rw [Array.all_eq_true']
  intro c hc
  have : c ∈ l := by simpa [S] using hc
  exact decide_eq_true (ha c this)
 ·refine ⟨s1.heap.objs.size, [s1.heap.objs.size], _, _, H1, rfl, I1.kept (t' := s1.toks) fun b o e => Heap.get?_push_of_some _ e, turn_str l _ t, ⟨_, Heap.get?_push_size _ rfl, rfl, rfl⟩, fun b hb => ?_, q⟩
  have e : b = s1.heap.objs.size := by simpa using hb
  subst e
  exact I1.fpOk (Nat.le_refl _) (I1.hok.fresh (Nat.le_refl _))
end
theorem for_str {l : List Nat} {g : TG} {tb : TS} {D : Ends} {σ : St} {H : Hp} (Pv : Nat → St → Hp → Prop) (h0 : Pv 0 σ H)
  (hs : ∀ i c σ H, l[i]? = some c → Pv i σ H → g (.str (S [c])) σ H fun σ2 H2 => tb { D with nx := Pv (i + 1), ct := Pv (i + 1), bk := D.nx } σ2 H2) (hd : ∀ σ H, Pv l.length σ H → D.nx σ H) :
  ∃ W : Nat → Nat → St → Hp → Prop, (∃ m, W 0 m σ H) ∧ ∀ i m σ H, W i m σ H →
   ((Its l).stop i H ∧ D.nx σ H) ∨ ((Its l).go i H ∧ ∃ N : St → Hp → Prop, (∀ σ' H', N σ' H' → ∃ m', m' < m ∧ W (i + 1) m' σ' H') ∧ ∀ x H', (Its l).yld i H x H' → g x σ H' fun σ2 H2 => tb { D with nx := N, ct := N, bk := D.nx } σ2 H2) := by
 refine ⟨fun i m σ H => m = l.length - i ∧ i ≤ l.length ∧ Pv i σ H, ⟨l.length, by simp, Nat.zero_le _, h0⟩, ?_⟩
 rintro i m σ H ⟨rfl, hi, p⟩
 by_cases hlt : i < l.length
 ·refine .inr ⟨hlt, Pv (i + 1), fun σ' H' p' => ⟨l.length - (i + 1), by omega, rfl, hlt, p'⟩, fun x H' y => ?_⟩
  obtain ⟨e, c, hc, ex⟩ := y
  subst e ex
  exact hs i c σ _ hc p
 ·have e : i = l.length := by omega
  subst e
  exact .inl ⟨Nat.le_refl _, hd σ H p⟩
end L2
namespace L2
open PySem PySem.Spec PyProof.Rows
abbrev sv (l : List Nat) : V := .str (S l)
theorem strsAre_of : ∀ {ls : List (List Nat)} {us : List Value}, Vals (ls.map sv) us → StrsAre us (ls.map S)
 | [], us, r => by
  cases r
  exact .nil
 | l :: ls, us, r => by
  rw [List.map_cons] at r
  cases r with
  | cons r1 r2 =>
   obtain ⟨t, e⟩ := r1
   subst e
   exact .cons _ t (strsAre_of r2)
theorem vals_strs : ∀ {us : List Value} {ss : List Str}, StrsAre us ss → Vals (ss.map V.str) us
 | _, _, .nil => .nil
 | _, _, .cons x t h => .cons ⟨t, rfl⟩ (vals_strs h)
theorem erase_at : ∀ {ls : List (List Nat)} {w : List Nat}, w ∈ ls → ∃ j : Nat, ls[j]? = some w ∧ (∀ m : Nat, m < j → ls[m]? ≠ some w) ∧ ls.erase w = ls.eraseIdx j
 | [], w, h => by simp at h
 | l :: ls, w, h => by
  by_cases e : l = w
  ·subst e
   exact ⟨0, rfl, fun m hm => by omega, by simp⟩
  ·have h' : w ∈ ls := by
    rcases List.mem_cons.mp h with z | z
    ·exact absurd z.symm e
    ·exact z
   obtain ⟨j, h1, h2, h3⟩ := erase_at h'
   refine ⟨j + 1, by simpa using h1, fun m hm => ?_, ?_⟩
   ·cases m with
    | zero => simpa using e
    | succ m => simpa using h2 m (by omega)
   ·have : (l == w) = false := by simpa using e
    rw [List.erase_cons, this]
    simp [h3]
theorem eraseIdx_map' {α β : Type} (f : α → β) : ∀ (l : List α) (j : Nat), (l.eraseIdx j).map f = (l.map f).eraseIdx j
 | [], _ => by simp
 | _ :: _, 0 => rfl
 | a :: l, j + 1 => by
  show f a :: (l.eraseIdx j).map f = f a :: (l.map f).eraseIdx j
  rw [eraseIdx_map' f l j]
section
variable {X : Cx}
def rRemS : V → List V → Hp → VK → Prop := fun x vs H Q => ∃ (l : Addr) (ls : List (List Nat)) (w : List Nat), x = .ref l ∧ vs = [sv w] ∧ H l = some (.lst (ls.map sv)) ∧ w ∈ ls ∧ Q .non (upd H l (.lst ((ls.erase w).map sv)))
def eqW (w : List Nat) : Value → Bool
 | .str z _ => z.cps.toList == w
 | _ => false
theorem mt_removeS : MtM X "list.remove" rRemS := by
 intro pins s σ H x vs v us Q I rx rv h
 obtain ⟨l, ls, w, rfl, rfl, hH, hm, q⟩ := h
 cases rx
 obtain ⟨u, rfl, ru⟩ := rv.one
 obtain ⟨t, rfl⟩ := ru
 obtain ⟨z, its, n, r, hl, e⟩ := I.lstM hH
 obtain ⟨ps, rfl, ep⟩ := strs_of (ls := ls) r
 have hlen : ps.length = ls.length := by
  have := congrArg List.length ep
  simpa using this
 have get : ∀ (m : Nat) (hm : m < (strValues ps).toArray.size), eqW w (strValues ps).toArray[m] = (ls[m]? == some w) := fun m hm => by
  have hm' : m < ps.length := by simpa [strValues] using hm
  have hm2 : m < ls.length := by omega
  have e1 : (ps.map (·.1))[m]? = (ls.map S)[m]? := by rw [ep]
  rw [List.getElem?_map, List.getElem?_map, List.getElem?_eq_getElem hm', List.getElem?_eq_getElem hm2] at e1
  have e2 : ps[m].1 = S ls[m] := by simpa using e1
  have e3 : (strValues ps).toArray[m] = Value.str ps[m].1 ps[m].2 := by simp [strValues]
  rw [e3]
  show (ps[m].1.cps.toList == w) = _
  rw [e2, S_cps, List.getElem?_eq_getElem hm2]
  by_cases q : ls[m] = w
  ·simp [q]
  ·simp [q]
 obtain ⟨j, j1, j2, j3⟩ := erase_at hm
 have hj : j < ls.length := (List.getElem?_eq_some_iff.mp j1).1
 refine call_meets F.slot_list_remove ⟨_, e, rfl⟩ F.entry_list_remove (F.args_list_remove_2 _ _)
  (MeetsSeq.list_remove l (strValues ps).toArray n (.str (S w) t) (eqW w) (fun y hy => ?_) j (by simp [strValues]; omega) ?_ (fun m hm hlt => ?_) (by simp only [List.size_toArray]; omega)) ⟨e, ?_⟩
 ·have hy' : y ∈ strValues ps := by simpa using hy
  obtain ⟨p, hp, rfl⟩ := List.mem_map.mp hy'
  have := PySem.SeqRoads2.EqGives.str p.1 (S w) p.2 t
  rw [S_cps] at this
  exact this
 ·rw [get, j1]
  simp
 ·rw [get m hm]
  exact beq_false_of_ne (j2 m hlt)
 ·refine ⟨.non, _, I.lset (its' := (strValues ps).eraseIdx j) hH e (by simp) ?_ ?_, rfl, q⟩
  ·rw [j3, eraseIdx_map']
   exact r.eraseIdx _
  ·rw [List.length_map]
   have := List.length_erase_le (a := w) (l := ls)
   rw [List.length_map] at z
   omega
end
end L2
namespace L2
open PySem PySem.Spec PyProof.Rows
section
variable {X : Cx}
theorem op_addN : OpR X (binaryOp .Add) (fun x y H Q => ∃ a b : List Nat, x = .str (S a) ∧ y = .str (S b) ∧ a.length + b.length ≤ sizeLine ∧ Q (.str (S (a ++ b))) H) := by
 intro pins s σ H x y v u Q I rx ry h
 obtain ⟨a, b, rfl, rfl, hz, q⟩ := h
 exact op_add_str pins s σ H _ _ v u Q I rx ry ⟨S a, S b, rfl, rfl, by rw [S_len, S_len]; exact hz, by rw [S_app]; exact q⟩
theorem op_ltN : OpR X (compareOp .Lt) (fun x y H Q => ∃ a b : List Nat, x = .str (S a) ∧ y = .str (S b) ∧ Q (.bl (decide (a < b))) H) := by
 intro pins s σ H x y v u Q I rx ry h
 obtain ⟨a, b, rfl, rfl, q⟩ := h
 exact op_lt_str pins s σ H _ _ v u Q I rx ry ⟨S a, S b, rfl, rfl, by rw [S_cps, S_cps]; exact q⟩
end
theorem boot_list : bootBuiltins "list" = some (.type "list") := by decide +kernel
theorem boot_str : bootBuiltins "str" = some (.type "str") := by decide +kernel
theorem boot_int : bootBuiltins "int" = some (.type "int") := by decide +kernel
theorem boot_bool : bootBuiltins "bool" = some (.type "bool") := by decide +kernel
theorem boot_tuple : bootBuiltins "tuple" = some (.type "tuple") := by decide +kernel
end L2
namespace L2
open PySem PySem.Spec PyProof.Rows PySem.SeqAt
section
variable {X : Cx}
theorem op_neNil (hu : X.A.units < cLine) : OpR X (compareOp .NotEq) (fun x y H Q => ∃ p q xs, x = .ref p ∧ y = .ref q ∧ SqL X.K H p xs ∧ SqL X.K H q [] ∧ Q (.bl (!xs.isEmpty)) H) := by
 intro pins s σ H x y v u Q I rx ry h
 obtain ⟨p, q, xs, rfl, rfl, hp, hq, k⟩ := h
 cases rx
 cases ry
 obtain ⟨i1, r1, l1, z1⟩ := I.list hp
 obtain ⟨i2, r2, l2, z2⟩ := I.list hq
 have e2 : i2 = [] := by
  have := r2.length
  exact List.length_eq_zero_iff.mp this.symm
 subst e2
 cases xs with
 | nil =>
  have e1 : i1 = [] := List.length_eq_zero_iff.mp r1.length.symm
  subst e1
  exact RcNeAt.lists (e := fun _ => true) l1.isList l2.isList rfl hu (fun j h1 _ => absurd h1 (by simp)) X.prog X.w X.xe _ ⟨.bl false, H, I, rfl, k⟩
 | cons y ys =>
  have e1 := r1.length
  exact RcNeAt.lists_lengths l1.isList l2.isList (by simp at e1 ⊢; intro z; subst z; simp at e1) hu X.prog X.w X.xe _ ⟨.bl true, H, I, rfl, k⟩
def repN (n : Nat) (l : List Nat) : List Nat := (List.replicate n l).flatten
theorem rep_fold (l : List Nat) : ∀ (n : Nat) (acc : Array Nat), (List.replicate n l.toArray).foldl (· ++ ·) acc = acc ++ (repN n l).toArray
 | 0, acc => by simp [repN]
 | n + 1, acc => by
  rw [List.replicate_succ, List.foldl_cons, rep_fold l n]
  unfold repN
  rw [List.replicate_succ, List.flatten_cons]
  simp
theorem mul_S (l : List Nat) (n : Nat) (h : 1 < n) (hl : l ≠ []) : Txt.mul (S l) (n : Int) = S (repN n l) := by
 unfold Txt.mul
 rw [if_neg (by omega)]
 have e : ((n : Int) == 1 || (S l).length == 0) = false := by
  rw [S_len, Bool.or_eq_false_iff]
  refine ⟨by simp; omega, ?_⟩
  have : l.length ≠ 0 := fun z => hl (List.length_eq_zero_iff.mp z)
  simpa using this
 rw [e]
 simp only [Bool.false_eq_true, if_false, Int.toNat_natCast]
 have hc : (S l).cps = l.toArray := rfl
 rw [hc, rep_fold]
 unfold S
 simp
theorem op_mulN : OpR X (binaryOp .Mult) (fun x y H Q => ∃ (l : List Nat) (n : Nat), x = .str (S l) ∧ y = .int (n : Int) ∧ 1 < n ∧ l ≠ [] ∧ l.length * n ≤ 1000000 ∧ Q (.str (S (repN n l))) H) := by
 intro pins s σ H x y v u Q I rx ry h
 obtain ⟨l, n, rfl, rfl, hn, hl, hz, k⟩ := h
 obtain ⟨t, rfl⟩ := rx
 obtain ⟨t', rfl⟩ := ry
 have hsz := sizeLine_eq
 have hl0 : 0 < l.length := by
  rcases Nat.eq_zero_or_pos l.length with z | z
  ·exact absurd (List.length_eq_zero_iff.mp z) hl
  ·exact z
 have hnb : n ≤ 1000000 := Nat.le_trans (Nat.le_mul_of_pos_left n hl0) hz
 refine SB.mul ⟨?_, fun _ _ => ?_, fun _ _ => ?_⟩ fun t2 k2 => ?_
 ·have e1 : decide ((n : Int) < -(2 ^ 63 : Int)) = false := decide_eq_false (by omega)
  have e2 : decide ((n : Int) ≥ 2 ^ 63) = false := decide_eq_false (by omega)
  rw [e1, e2]
  rfl
 ·rw [S_len]
  have hlb : l.length ≤ 1000000 := Nat.le_trans (Nat.le_mul_of_pos_right _ (by omega)) hz
  have : (1000000 : Int) ≤ (2 ^ 63 - 1) / (n : Int) := by
   rw [Int.le_ediv_iff_mul_le (by omega)]
   omega
  omega
 ·rw [S_len]
  unfold Builtin.Str.tooLong
  exact decide_eq_false (by simp only [Int.toNat_natCast]; omega)
 ·rw [mul_S l n hn hl]
  exact ⟨.str (S (repN n l)), H, I.tok _, ⟨t2, rfl⟩, k⟩
def kitAnyBB (T : String) : List String → Option Bool
 | [] => some false
 | n :: r => match kitBB T n with
  | some true => some true
  | some false => kitAnyBB T r
  | none => none
theorem kitAny_bb (K : PySem.W.Frag) (T : String) : ∀ ns : List String, PySem.W.kitAny K (.type T) (ns.map Value.type) = kitAnyBB T ns
 | [] => rfl
 | n :: r => by
  show (match PySem.W.kitOne K (.type T) (.type n) with | some true => some true | some false => PySem.W.kitAny K (.type T) (r.map Value.type) | none => none) = _
  rw [kit_bb, kitAny_bb K T r]
  rfl
theorem vals_ty : ∀ {ns : List String} {us : List Value}, Vals (ns.map V.ty) us → us = ns.map Value.type
 | [], us, r => by
  cases r
  rfl
 | n :: ns, us, r => by
  rw [List.map_cons] at r
  cases r with
  | cons r1 r2 =>
   cases r1
   rw [vals_ty r2]
   rfl
theorem isinstT_ok {pins : List (Addr × Obj)} {σ : St} {H : Hp} {s : Shared} {A : Around} {E : Value → Shared → Prop} {Q : Value → Shared → Prop} {x : V} {u : Value} {T : String} {tp : Addr} {ns : List String} {b : Bool} (I : Inv X pins σ H s) (rx : RelV x u) (ty : TyOf X.K H x (.type T))
  (ht : H tp = some (.tup (ns.map V.ty))) (e : kitAnyBB T ns = some b) (h : ∀ tk, Q (.bool b) { s with toks := tk }) : wpAny (model X.prog X.w) A (call (.builtin "isinstance") [u, .ref tp]) Q E s := by
 obtain ⟨_, its, rv, ⟨o, h1, h2, n, h3⟩⟩ := (show ObjOk X.prog X.w H s.heap tp (.tup (ns.map V.ty)) from I.hok tp _ ht)
 have ei := vals_ty rv
 subst ei
 have htp : s.heap.get? tp = some ⟨.type "tuple", o.dict, .seq (ns.map Value.type).toArray n, o.slots⟩ := by
  rw [h1]
  obtain ⟨c, d, dt, sl⟩ := o
  simp only at h2 h3
  subst h2 h3
  rfl
 have ek : PySem.W.kitAny X.K (.type T) (ns.map Value.type) = some b := by rw [kitAny_bb]; exact e
 cases ty with
 | non => cases (show u = Value.none from rx); exact PySem.W.kia_tup PySem.W.kitx_none I.kIn True.intro htp ek (fun z => nomatch z) h
 | bl y => cases (show u = Value.bool y from rx); exact PySem.W.kia_tup PySem.W.kitx_bool I.kIn True.intro htp ek (fun z => nomatch z) h
 | int i => obtain ⟨t, q⟩ := (show ∃ t, u = Value.int i t from rx); cases q; exact PySem.W.kia_tup PySem.W.kitx_int I.kIn True.intro htp ek (fun z => nomatch z) h
 | str y => obtain ⟨t, q⟩ := (show ∃ t, u = Value.str y t from rx); cases q; exact PySem.W.kia_tup PySem.W.kitx_str I.kIn True.intro htp ek (fun z => nomatch z) h
 | flt y => obtain ⟨t, q⟩ := (show ∃ t, u = Value.float y t from rx); cases q; exact PySem.W.kia_tup PySem.W.kitx_float I.kIn True.intro htp ek (fun z => nomatch z) h
 | @lst a xs ea =>
  cases (show u = Value.ref a from rx)
  obtain ⟨_, _, n', _, h1'⟩ := (show ObjOk X.prog X.w H s.heap a (.lst xs) from I.hok a _ ea)
  exact PySem.W.kia_tup PySem.W.kitx_list I.kIn ⟨_, h1', rfl⟩ htp ek (fun z => nomatch z) h
 | @frz a ob xs ea =>
  cases (show u = Value.ref a from rx)
  obtain ⟨_, _, _, n', _, h1'⟩ := (show ObjOk X.prog X.w H s.heap a (.frz ob (.lst xs)) from I.hok a _ ea)
  exact PySem.W.kia_tup PySem.W.kitx_list I.kIn ⟨_, h1', rfl⟩ htp ek (fun z => nomatch z) h
 | @tup a xs ea =>
  cases (show u = Value.ref a from rx)
  obtain ⟨_, _, _, p⟩ := (show ObjOk X.prog X.w H s.heap a (.tup xs) from I.hok a _ ea)
  obtain ⟨o', h1', h2', _⟩ := p
  exact PySem.W.kia_tup PySem.W.kitx_tuple I.kIn ⟨o', h1', h2'⟩ htp ek (fun z => nomatch z) h
 | @dK a kvs ea =>
  cases (show u = Value.ref a from rx)
  obtain ⟨_, _, vs, _, p⟩ := (show ObjOk X.prog X.w H s.heap a (.dK kvs) from I.hok a _ ea)
  obtain ⟨o', es, ep, h1', h2', _⟩ := p
  exact PySem.W.kia_tup PySem.W.kitx_dict I.kIn ⟨o', h1', h2'.1⟩ htp ek (fun z => nomatch z) h
 | @dT a kvs ea =>
  cases (show u = Value.ref a from rx)
  obtain ⟨_, _, xs, _, o', es, ep, h1', h2', _⟩ := (show ObjOk X.prog X.w H s.heap a (.dT kvs) from I.hok a _ ea)
  exact PySem.W.kia_tup PySem.W.kitx_dict I.kIn ⟨o', h1', h2'.1⟩ htp ek (fun z => nomatch z) h
theorem call_isiT : CallR X (.builtin "isinstance") (fun xs H Q => ∃ x T tp ns b, xs = [x, .ref tp] ∧ TyOf X.K H x (.type T) ∧ H tp = some (.tup (ns.map V.ty)) ∧ kitAnyBB T ns = some b ∧ Q (.bl b) H) := by
 intro pins s σ H xs us Q I r h
 obtain ⟨x, T, tp, ns, b, rfl, ty, ht, e, q⟩ := h
 obtain ⟨u, w', rfl, rx, rn⟩ := vals2 r
 cases rn
 exact isinstT_ok I rx ty ht e fun tk => ⟨.bl b, H, I.tok _, rfl, q⟩
end
theorem isiT_tuple : kitAnyBB "tuple" ["list", "tuple"] = some true := by decide +kernel
theorem isiT_list : kitAnyBB "list" ["list", "tuple"] = some true := by decide +kernel
theorem isiT_str : kitAnyBB "str" ["list", "tuple"] = some false := by decide +kernel
theorem isiT_int : kitAnyBB "int" ["list", "tuple"] = some false := by decide +kernel
theorem isiT_str2 : kitAnyBB "str" ["str", "int"] = some true := by decide +kernel
theorem isiT_int2 : kitAnyBB "int" ["str", "int"] = some true := by decide +kernel
theorem isi_int_str : kitBB "int" "str" = some false := by decide +kernel
end L2
namespace L2
open PySem PySem.Spec PyProof.Rows
def tSeqM (t u : TS) : TS := fun D σ H => ∃ M : St → Hp → Prop, (∀ σ H, M σ H → u D σ H) ∧ t { D with nx := M } σ H
section
variable {X : Cx} {st : Stmt} {rest : List Stmt} {t u : TS}
theorem pss_consM (h1 : PS X st t) (h2 : PSs X rest u) : PSs X (st :: rest) (tSeqM t u) := by
 intro pins s σ H D I h
 obtain ⟨M, hM, q⟩ := h
 refine wpAny_execs_cons (thn (h1 pins s σ H { D with nx := M } I q) fun f s1 q => ?_)
 cases f with
 | next =>
  obtain ⟨σ', H', I', q⟩ := q
  exact h2 pins s1 σ' H' D I' (hM σ' H' q)
 | ret v => exact q
 | brk => exact q
 | cont => exact q
end
theorem rise_pw : ∀ (p : List Nat) (ls : List (List Nat)), risingS (S p) (ls.map S) = true → (p :: ls).Pairwise fun a b => ¬ b < a
 | p, [], _ => by simp
 | p, x :: r, h => by
  have h' : (!ltCps (S x).cps.toList (S p).cps.toList && risingS (S x) (r.map S)) = true := h
  rw [Bool.and_eq_true, S_cps, S_cps, ltCps_eq, Bool.not_eq_true', decide_eq_false_iff_not] at h'
  have ih := rise_pw x r h'.2
  refine List.pairwise_cons.mpr ⟨fun b hb => ?_, ih⟩
  rcases List.mem_cons.mp hb with e | e
  ·rw [e]
   exact h'.1
  ·have h2 := (List.pairwise_cons.mp ih).1 b e
   intro z
   rcases List.le_total x b with y | y
   ·rcases List.le_total p x with y2 | y2
    ·exact absurd z (List.not_lt.mpr (List.le_trans y2 y))
    ·have : x = p := List.le_antisymm y2 (List.not_lt.mp h'.1)
     rw [this] at h2
     exact h2 z
   ·have : x = b := List.le_antisymm (List.not_lt.mp h2) y
    rw [this] at h'
    exact h'.1 z
theorem sorted_pw : ∀ ls : List (List Nat), sortedS (ls.map S) = true → ls.Pairwise fun a b => ¬ b < a
 | [], _ => by simp
 | x :: r, h => rise_pw x r h
theorem map_S_of : ∀ ss : List Str, (ss.map fun z => z.cps.toList).map S = ss
 | [] => rfl
 | z :: r => by
  rw [List.map_cons, List.map_cons, S_of, map_S_of r]
theorem perm_S {ss : List Str} {ls : List (List Nat)} (h : ss.Perm (ls.map S)) : (ss.map fun z => z.cps.toList).Perm ls := by
 have := h.map fun z : Str => z.cps.toList
 rw [List.map_map] at this
 have e : ((fun z : Str => z.cps.toList) ∘ S) = id := by
  funext l
  exact S_cps l
 rw [e, List.map_id] at this
 exact this
section
variable {X : Cx}
theorem call_sortedS : CallR X (.builtin "sorted") (fun xs H Q => ∃ (p : Addr) (ls : List (List Nat)), xs = [.ref p] ∧ SqL X.K H p (ls.map sv) ∧ ls.length < 64 ∧
  ∀ ls' : List (List Nat), ls'.Perm ls → (ls'.Pairwise fun a b => ¬ b < a) → ∀ q, H q = none → Q (.ref q) (upd H q (.lst (ls'.map sv)))) := by
 intro pins s σ H xs us Q I r h
 obtain ⟨p, ls, rfl, hp, h64, k⟩ := h
 obtain ⟨u, rfl, ru⟩ := vals1 r
 cases ru
 obtain ⟨its, rv, pl, hz⟩ := I.list hp
 have hl := rv.length
 rw [List.length_map] at hl
 refine sorted_strs pl.isList (strsAre_of rv) (by omega) fun out ss' a1 a2 a3 => ?_
 obtain ⟨e, he⟩ := sortedAll_at s.heap its out
 obtain ⟨ls', hls⟩ : ∃ ls' : List (List Nat), ss' = ls'.map S := ⟨_, (map_S_of ss').symm⟩
 have hperm : ls'.Perm ls := by
  have := perm_S (ss := ss') a2
  rw [hls, List.map_map] at this
  have e2 : ((fun z : Str => z.cps.toList) ∘ S) = id := by
   funext l
   exact S_cps l
  rw [e2, List.map_id] at this
  exact this
 subst hls
 have hv : Vals (ls'.map sv) out.toList := by
  have := vals_strs a1
  rw [List.map_map] at this
  exact this
 have hn : H (s.heap.objs.size + 1) = none := I.hok.fresh (Nat.le_succ _)
 refine ⟨.ref (s.heap.objs.size + 1), _, I.laid (t' := s.toks) (o := .lst (ls'.map sv)) (fun b o q => sortedAll_old q) (Nat.le_succ _) ?_, rfl, k ls' hperm (sorted_pw ls' a3) _ hn⟩
 refine ⟨?_, out.toList, e, hv, ?_⟩
 ·rw [List.length_map, hperm.length_eq]
  have := sizeLine_eq
  omega
 ·rw [he]
theorem boot_sorted_ : bootBuiltins "sorted" = some (.builtin "sorted") := by decide +kernel
end
end L2
namespace L2
open PySem PySem.Spec PyProof.Rows
section
variable {X : Cx}
end
end L2
set_option maxHeartbeats 4000000
namespace WH
open PySem L2
def Letters (l : List Nat) : Prop := ∀ c ∈ l, 97 ≤ c ∧ c ≤ 122
theorem letters_nil : Letters [] := fun _ h => nomatch h
theorem Letters.app {a b : List Nat} (h : Letters a) (k : Letters b) : Letters (a ++ b) := fun c hc => (List.mem_append.mp hc).elim (h c) (k c)
theorem Letters.take {a : List Nat} (h : Letters a) (n : Nat) : Letters (a.take n) := fun c hc => h c (List.mem_of_mem_take hc)
theorem Letters.ascii {a : List Nat} (h : Letters a) : Ascii a := fun c hc => by
 have := h c hc
 omega
def alpha : List Nat := (List.range 26).map (97 + ·)
theorem alpha_eq : ("abcdefghijklmnopqrstuvwxyz" : Str) = S alpha := by decide +kernel
theorem nil_eq : ("" : Str) = S [] := by decide +kernel
theorem alpha_letters : Letters alpha := by
 intro c hc
 obtain ⟨k, hk, rfl⟩ := List.mem_map.mp hc
 have := List.mem_range.mp hk
 omega
theorem alpha_at (z : Int) : atI alpha (z % 26) = some (97 + (z % 26).toNat) := by
 obtain ⟨k, hk⟩ : ∃ k : Nat, z % 26 = (k : Int) := ⟨(z % 26).toNat, by omega⟩
 rw [hk]
 refine atI_nat ?_
 have : k < 26 := by omega
 unfold alpha
 rw [List.getElem?_map, List.getElem?_range this]
 rfl
inductive Deed where
 | put (w : List Nat) | take (w : List Nat) | has (w : List Nat) | all (t : List Nat) | longest (t : List Nat) | ahead (t : List Nat) | at_ (z : Int)
 deriving DecidableEq
def Deed.name : Deed → Str
 | .put _ => "put" | .take _ => "take" | .has _ => "has" | .all _ => "all" | .longest _ => "longest" | .ahead _ => "ahead" | .at_ _ => "at"
def Deed.arg : Deed → V
 | .put w => sv w | .take w => sv w | .has w => sv w | .all w => sv w | .longest w => sv w | .ahead w => sv w | .at_ z => .int z
def tag : Deed → Nat
 | .put _ => 0 | .take _ => 1 | .has _ => 2 | .all _ => 3 | .longest _ => 4 | .ahead _ => 5 | .at_ _ => 6
def nameN : Nat → Str
 | 0 => "put" | 1 => "take" | 2 => "has" | 3 => "all" | 4 => "longest" | 5 => "ahead" | _ => "at"
theorem tag_name (d : Deed) : d.name = nameN (tag d) := by cases d <;> rfl
theorem tag_lt (d : Deed) : tag d < 7 := by cases d <;> simp [tag]
theorem names_part : ∀ i : Fin 7, ∀ j : Fin 7, decide (V.str (nameN i.val) = V.str (nameN j.val)) = decide (i.val = j.val) := by decide +kernel
theorem dname (d e : Deed) : decide (V.str d.name = V.str e.name) = decide (tag d = tag e) := by
 have := names_part ⟨tag d, tag_lt d⟩ ⟨tag e, tag_lt e⟩
 simp only [tag_name d, tag_name e]
 exact this
def DeedAt (H : Hp) (p : Addr) (d : Deed) : Prop := H p = some (.tup [.str d.name, d.arg])
def DeedsAt (H : Hp) (ps : List Addr) (ds : List Deed) : Prop := Paired (DeedAt H) ps ds
theorem DeedsAt.same {H H' : Hp} (h : Same H H') {ps : List Addr} {ds : List Deed} (q : DeedsAt H ps ds) : DeedsAt H' ps ds := Paired.mapP q fun _ _ z => h _ _ z
theorem DeedsAt.get {H : Hp} : ∀ {ps : List Addr} {ds : List Deed} {i : Nat} {d : Deed}, DeedsAt H ps ds → ds[i]? = some d → ∃ p, ps[i]? = some p ∧ DeedAt H p d
 | _, _, _, _, .nil, e => by simp at e
 | _, _, 0, _, .cons r _, e => by
  simp at e
  subst e
  exact ⟨_, rfl, r⟩
 | _, _, i + 1, d, .cons _ t, e => by
  obtain ⟨p, h1, h2⟩ := DeedsAt.get (i := i) (d := d) t (by simpa using e)
  exact ⟨p, by simpa using h1, h2⟩
theorem DeedsAt.snoc {H : Hp} {ps : List Addr} {ds : List Deed} {p : Addr} {d : Deed} (q : DeedsAt H ps ds) (r : DeedAt H p d) : DeedsAt H (ps ++ [p]) (ds ++ [d]) := Paired.snoc q r
theorem DeedsAt.length {H : Hp} {ps : List Addr} {ds : List Deed} (q : DeedsAt H ps ds) : ps.length = ds.length := Paired.length q
def Made (d : Deed) : Prop := ∃ w, (d = .put w ∨ d = .take w ∨ d = .has w) ∧ Letters w ∧ w.length ≤ 100
theorem Made.word {d : Deed} (h : Made d) : ∃ w, d.arg = sv w ∧ Letters w ∧ w.length ≤ 100 := by
 obtain ⟨w, e, h1, h2⟩ := h
 rcases e with rfl | rfl | rfl <;> exact ⟨w, rfl, h1, h2⟩
theorem ints_at {ns : List Int} {i : Nat} (h : i < ns.length) : atI (ns.map V.int) (i : Int) = some (.int ns[i]) := atI_nat (by rw [List.getElem?_map, List.getElem?_eq_getElem h]; rfl)
theorem same_new {H : Hp} {p : Addr} {o : HO} (h : H p = none) : Same H (upd H p o) := fun b u e => by
 rw [upd_ne (ne_of_none e h)]
 exact e
theorem same_upd {H H' : Hp} {p : Addr} {o : HO} (s : Same H H') (h : H p = none) : Same H (upd H' p o) := fun b u e => by
 rw [upd_ne (ne_of_none e h)]
 exact s b u e
theorem DeedsAt.updL {H : Hp} {r : Addr} {xs : List V} {o : HO} {ps : List Addr} {ds : List Deed} (q : DeedsAt H ps ds) (h : H r = some (.lst xs)) : DeedsAt (upd H r o) ps ds := Paired.mapP q fun p d z => by
 show upd H r o p = _
 rw [upd_ne (ne_of z h (by intro y; cases y))]
 exact z
def Sc (v : V) : Prop := (∃ l, v = sv l) ∨ ∃ z, v = .int z
def ItemL (H : Hp) : Nat → V → V → Nat → Prop
 | 0, x, y, c => x = y ∧ Sc x ∧ c = 1
 | k + 1, x, y, c => ∃ (p q : Addr) (xs ys : List V) (d : Nat), x = .ref p ∧ y = .ref q ∧ ((H p = some (.tup xs) ∧ H q = some (.tup ys)) ∨ (H p = some (.lst xs) ∧ H q = some (.lst ys))) ∧ xs.length = ys.length ∧ xs.length ≤ 1000 ∧
   (∀ (i : Nat) a b, xs[i]? = some a → ys[i]? = some b → ItemL H k a b d) ∧ c = d * xs.length + 1
structure Ent where
 p : Addr
 x : V
 y : V
 k : Nat
 c : Nat
def EntAt (H0 H : Hp) (e : Ent) : Prop := H e.p = some (.tup [e.x, e.y]) ∧ ItemL H0 e.k e.x e.y e.c
def cost (es : List Ent) : Nat := (es.map (·.c)).sum
theorem cost_app (a b : List Ent) : cost (a ++ b) = cost a + cost b := by
 unfold cost
 rw [List.map_append, List.sum_append]
theorem ItemL.pos {H : Hp} : ∀ {k : Nat} {x y : V} {c : Nat}, ItemL H k x y c → 1 ≤ c
 | 0, _, _, _, h => by
  have := h.2.2
  omega
 | _ + 1, _, _, _, ⟨_, _, _, _, _, _, _, _, _, _, _, h⟩ => by omega
theorem cost_len {H0 H : Hp} : ∀ {es : List Ent}, (∀ e ∈ es, EntAt H0 H e) → es.length ≤ cost es
 | [], _ => Nat.zero_le _
 | e :: es, h => by
  have h1 := (h e (List.mem_cons_self ..)).2.pos
  have h2 := cost_len fun e' he' => h e' (List.mem_cons_of_mem _ he')
  show es.length + 1 ≤ cost ([e] ++ es)
  rw [cost_app]
  have : cost [e] = e.c := by simp [cost]
  omega
def long : List Nat := repN 4 alpha
theorem long_letters : Letters long := by
 intro c hc
 unfold long repN at hc
 obtain ⟨l, hl, hc⟩ := List.mem_flatten.mp hc
 rw [(List.mem_replicate.mp hl).2] at hc
 exact alpha_letters c hc
theorem long_cut {k : Int} (h0 : 0 ≤ k) (h1 : k ≤ 100) : Letters (cutN long none (some k)) ∧ (cutN long none (some k)).length ≤ 100 := by
 obtain ⟨n, rfl⟩ : ∃ n : Nat, k = (n : Int) := ⟨k.toNat, by omega⟩
 rw [cutN_to]
 refine ⟨long_letters.take n, ?_⟩
 rw [List.length_take]
 omega
inductive Ans where
 | bool (b : Bool) | words (ls : List (List Nat)) | opt (o : Option (List Nat)) | num (n : Nat)
def AnsAt (H : Hp) (v : V) : Ans → Prop
 | .bool b => v = .bl b
 | .words ls => ∃ p, v = .ref p ∧ H p = some (.lst (ls.map sv))
 | .opt none => v = .non
 | .opt (some w) => v = sv w
 | .num n => v = .int (n : Int)
def AnswersAt (H : Hp) (vs : List V) (as : List Ans) : Prop := Paired (AnsAt H) vs as
theorem AnsAt.same {H H' : Hp} (h : Same H H') {v : V} : ∀ {a : Ans}, AnsAt H v a → AnsAt H' v a
 | .bool _, q => q
 | .words _, ⟨p, e, q⟩ => ⟨p, e, h _ _ q⟩
 | .opt none, q => q
 | .opt (some _), q => q
 | .num _, q => q
theorem AnswersAt.same {H H' : Hp} (h : Same H H') {vs : List V} {as : List Ans} (q : AnswersAt H vs as) : AnswersAt H' vs as := Paired.mapP q fun _ _ z => z.same h
theorem AnswersAt.get {H : Hp} : ∀ {vs : List V} {as : List Ans} {i : Nat} {a : Ans}, AnswersAt H vs as → as[i]? = some a → ∃ v, vs[i]? = some v ∧ AnsAt H v a
 | _, _, _, _, .nil, e => by simp at e
 | _, _, 0, _, .cons r _, e => by
  simp at e
  subst e
  exact ⟨_, rfl, r⟩
 | _, _, i + 1, d, .cons _ t, e => by
  obtain ⟨p, h1, h2⟩ := AnswersAt.get (i := i) (a := d) t (by simpa using e)
  exact ⟨p, by simpa using h1, h2⟩
theorem AnswersAt.length {H : Hp} {vs : List V} {as : List Ans} (q : AnswersAt H vs as) : vs.length = as.length := Paired.length q
def srt (W : List (List Nat)) : List (List Nat) := W.mergeSort fun a b => decide (¬ b < a)
def stepW (W : List (List Nat)) : Deed → List (List Nat)
 | .put w => if w ∈ W then W else W ++ [w]
 | .take w => W.erase w
 | _ => W
def ans (W : List (List Nat)) : Deed → Ans
 | .put w => .bool (!decide (w ∈ W))
 | .take w => .bool (decide (w ∈ W))
 | .has w => .bool (decide (w ∈ W))
 | .all t => .words ((srt W).filter fun w => t.isPrefixOf w)
 | .longest t => .opt ((srt W).filter fun w => w.isPrefixOf t).getLast?
 | .ahead t => .num (W.filter fun w => decide (w < t)).length
 | .at_ z => .opt (if 0 ≤ z then (srt W)[z.toNat]? else none)
def run : List (List Nat) → List Deed → List Ans
 | _, [] => []
 | W, d :: ds => ans W d :: run (stepW W d) ds
def after (W : List (List Nat)) (ds : List Deed) : List (List Nat) := ds.foldl stepW W
theorem run_length : ∀ (W : List (List Nat)) (ds : List Deed), (run W ds).length = ds.length
 | _, [] => rfl
 | W, d :: ds => by
  show (run (stepW W d) ds).length + 1 = ds.length + 1
  rw [run_length (stepW W d) ds]
theorem run_get : ∀ (W : List (List Nat)) (ds : List Deed) (i : Nat) (d : Deed), ds[i]? = some d → (run W ds)[i]? = some (ans (after W (ds.take i)) d)
 | _, [], i, d, h => by simp at h
 | W, e :: ds, 0, d, h => by
  simp at h
  subst h
  rfl
 | W, e :: ds, i + 1, d, h => by
  have := run_get (stepW W e) ds i d (by simpa using h)
  simpa [run, after] using this
theorem after_snoc (W : List (List Nat)) (ds : List Deed) (d : Deed) : after W (ds ++ [d]) = stepW (after W ds) d := by
 unfold after
 rw [List.foldl_append]
 rfl
theorem nodup_step {W : List (List Nat)} (h : W.Nodup) (d : Deed) : (stepW W d).Nodup := by
 cases d with
 | put w =>
  show (if w ∈ W then W else W ++ [w]).Nodup
  split
  ·exact h
  ·rename_i hw
   rw [List.nodup_append]
   refine ⟨h, by simp, fun a ha b hb => ?_⟩
   rw [List.mem_singleton.mp hb]
   rintro rfl
   exact hw ha
 | take w => exact h.erase w
 | _ => exact h
theorem nodup_after {W : List (List Nat)} (h : W.Nodup) : ∀ ds : List Deed, (after W ds).Nodup := fun ds => by
 induction ds generalizing W with
 | nil => exact h
 | cons d ds ih => exact ih (nodup_step h d)
theorem mem_step_put (W : List (List Nat)) (w v : List Nat) : v ∈ stepW W (.put w) ↔ v = w ∨ v ∈ W := by
 show v ∈ (if w ∈ W then W else W ++ [w]) ↔ _
 split
 ·rename_i hw
  constructor
  ·exact .inr
  ·rintro (rfl | h)
   ·exact hw
   ·exact h
 ·rw [List.mem_append, List.mem_singleton]
  exact or_comm
theorem in_sv (w : List Nat) (W : List (List Nat)) : inV (sv w) (W.map sv) = decide (w ∈ W) := by
 unfold inV
 rw [Bool.eq_iff_iff, List.any_eq_true, decide_eq_true_eq]
 constructor
 ·rintro ⟨y, hy, e⟩
  obtain ⟨v, hv, rfl⟩ := List.mem_map.mp hy
  have e' : (S v == S w) = true := e
  rw [← S_inj (eq_of_beq e')]
  exact hv
 ·intro h
  exact ⟨sv w, List.mem_map.mpr ⟨w, h, rfl⟩, by show (S w == S w) = true; exact beq_self_eq_true _⟩
theorem flat_sv (W : List (List Nat)) : (W.map sv).all flatV = true := by
 rw [List.all_eq_true]
 intro y hy
 obtain ⟨v, _, rfl⟩ := List.mem_map.mp hy
 rfl
theorem step_len (W : List (List Nat)) (d : Deed) : (stepW W d).length ≤ W.length + 1 := by
 cases d with
 | put w =>
  show (if w ∈ W then W else W ++ [w]).length ≤ _
  split
  ·omega
  ·rw [List.length_append]; exact Nat.le_refl _
 | take w =>
  have : (W.erase w).length ≤ W.length := List.length_erase_le
  show (W.erase w).length ≤ _
  omega
 | _ => exact Nat.le_succ _
theorem after_len : ∀ (W : List (List Nat)) (ds : List Deed), (after W ds).length ≤ W.length + ds.length
 | W, [] => Nat.le_refl _
 | W, d :: ds => by
  have h1 := after_len (stepW W d) ds
  have h2 := step_len W d
  show (after (stepW W d) ds).length ≤ W.length + (ds.length + 1)
  omega
theorem after_words {ds : List Deed} (h : ∀ d ∈ ds, Made d) : ∀ W : List (List Nat), (∀ v ∈ W, Letters v ∧ v.length ≤ 100) → ∀ v ∈ after W ds, Letters v ∧ v.length ≤ 100 := by
 induction ds with
 | nil => exact fun W hW => hW
 | cons d ds ih =>
  intro W hW
  refine ih (fun e he => h e (List.mem_cons_of_mem _ he)) (stepW W d) fun v hv => ?_
  obtain ⟨w, hc, hl, hn⟩ := h d (List.mem_cons_self ..)
  rcases hc with rfl | rfl | rfl
  ·rcases (mem_step_put W w v).mp hv with rfl | z
   ·exact ⟨hl, hn⟩
   ·exact hW v z
  ·exact hW v (List.mem_of_mem_erase hv)
  ·exact hW v hv
theorem le_tot (a b : List Nat) : (decide (¬ b < a) || decide (¬ a < b)) = true := by
 rcases List.le_total a b with h | h
 ·have : ¬ b < a := List.not_lt.mpr h
  simp [this]
 ·have : ¬ a < b := List.not_lt.mpr h
  simp [this]
theorem srt_pw (W : List (List Nat)) : (srt W).Pairwise fun a b => ¬ b < a := by
 have := List.pairwise_mergeSort (le := fun a b : List Nat => decide (¬ b < a)) (fun a b c h1 h2 => by
  have h1' := List.not_lt.mp (of_decide_eq_true h1)
  have h2' := List.not_lt.mp (of_decide_eq_true h2)
  exact decide_eq_true (List.not_lt.mpr (List.le_trans h1' h2'))) le_tot W
 exact this.imp fun h => of_decide_eq_true h
theorem srt_perm (W : List (List Nat)) : (srt W).Perm W := List.mergeSort_perm _ _
theorem srt_eq {W l : List (List Nat)} (h : l.Perm W) (p : l.Pairwise fun a b => ¬ b < a) : l = srt W :=
 List.Perm.eq_of_pairwise (le := fun a b => ¬ b < a) (fun a b _ _ h1 h2 => List.le_antisymm (List.not_lt.mp h1) (List.not_lt.mp h2)) p (srt_pw W) (h.trans (srt_perm W).symm)
theorem pre_take (t w : List Nat) : t.isPrefixOf w = decide (w.take t.length = t) := by
 rw [Bool.eq_iff_iff, List.isPrefixOf_iff_prefix, decide_eq_true_eq, List.prefix_iff_eq_take]
 exact eq_comm
theorem DeedsAt.app {H : Hp} : ∀ {ps qs : List Addr} {ds es : List Deed}, DeedsAt H ps ds → DeedsAt H qs es → DeedsAt H (ps ++ qs) (ds ++ es)
 | _, _, _, _, .nil, h => h
 | _, _, _, _, .cons r t, h => .cons r (DeedsAt.app t h)
theorem a_eq : ("a" : Str) = S [97] := by decide +kernel
def Ask (t : List Nat) : Prop := Letters t ∧ t.length ≤ 101
instance : DecidablePred Ask := fun t => by unfold Ask Letters; infer_instance
theorem lt_of_pre : ∀ {a b : List Nat}, a <+: b → a.length < b.length → a < b
 | [], [], _, h => by simp at h
 | [], _ :: _, _, _ => List.nil_lt_cons _ _
 | x :: a, [], ⟨t, e⟩, _ => by cases e
 | x :: a, y :: b, ⟨t, e⟩, h => by
  have e' : x = y ∧ a ++ t = b := by simpa using e
  rw [List.cons_lt_cons_iff]
  exact .inr ⟨e'.1, lt_of_pre ⟨t, e'.2⟩ (by simpa using h)⟩
theorem longest_none {W : List (List Nat)} {t : List Nat} (h : ((srt W).filter fun w => w.isPrefixOf t).getLast? = none) : ∀ w ∈ W, ¬ w <+: t := fun w hw hp => by
 rw [List.getLast?_eq_none_iff] at h
 have : w ∈ (srt W).filter fun w => w.isPrefixOf t := List.mem_filter.mpr ⟨(srt_perm W).mem_iff.mpr hw, List.isPrefixOf_iff_prefix.mpr hp⟩
 rw [h] at this
 cases this
theorem longest_some {W : List (List Nat)} {t v : List Nat} (h : ((srt W).filter fun w => w.isPrefixOf t).getLast? = some v) : v ∈ W ∧ v <+: t ∧ ∀ w ∈ W, w <+: t → w.length ≤ v.length := by
 have hm := List.mem_of_getLast? h
 obtain ⟨hv1, hv2⟩ := List.mem_filter.mp hm
 have hvp : v <+: t := List.isPrefixOf_iff_prefix.mp hv2
 refine ⟨(srt_perm W).mem_iff.mp hv1, hvp, fun w hw hp => ?_⟩
 have hwf : w ∈ (srt W).filter fun w => w.isPrefixOf t := List.mem_filter.mpr ⟨(srt_perm W).mem_iff.mpr hw, List.isPrefixOf_iff_prefix.mpr hp⟩
 have hpw := (srt_pw W).filter (fun w => w.isPrefixOf t)
 rcases List.eq_nil_or_concat ((srt W).filter fun w => w.isPrefixOf t) with e | ⟨l, b, e⟩
 ·rw [e] at hwf
  cases hwf
 ·rw [List.concat_eq_append] at e
  rw [e, List.getLast?_append] at h
  have hb : b = v := by simpa using h
  subst hb
  rw [e] at hwf hpw
  have hlt : ¬ b < w := by
   rcases List.mem_append.mp hwf with z | z
   ·exact (List.pairwise_append.mp hpw).2.2 w z b (by simp)
   ·rw [List.mem_singleton.mp z]
    exact List.lt_irrefl b
  rcases Nat.lt_or_ge b.length w.length with y | y
  ·exact absurd (lt_of_pre (List.prefix_of_prefix_length_le hvp hp (by omega)) y) hlt
  ·exact y
def Line (t : List Nat) : Prop := Letters t ∧ t.length ≤ 105
instance : DecidablePred Line := fun t => by unfold Line Letters; infer_instance
theorem get_sv {ls : List (List Nat)} {j : Nat} {x : V} (hx : (ls.map sv)[j]? = some x) : ∃ t, ls[j]? = some t ∧ x = sv t := by
 rw [List.getElem?_map] at hx
 cases e : ls[j]? with
 | none => rw [e] at hx; cases hx
 | some z => rw [e] at hx; exact ⟨z, rfl, (Option.some.inj hx).symm⟩
end WH
set_option maxHeartbeats 4000000
namespace WH
def cnt (W : List (List Nat)) (t : List Nat) : Nat := (W.filter fun w => t.isPrefixOf w).length
def ind (b : Bool) : Nat := if b then 1 else 0
theorem cnt_cons (w : List Nat) (W : List (List Nat)) (t : List Nat) : cnt (w :: W) t = ind (t.isPrefixOf w) + cnt W t := by
 unfold cnt ind
 rw [List.filter_cons]
 split <;> simp <;> omega
theorem sum_add {α : Type} (f g : α → Nat) : ∀ l : List α, (l.map fun x => f x + g x).sum = (l.map f).sum + (l.map g).sum
 | [] => rfl
 | x :: l => by
  simp only [List.map_cons, List.sum_cons, sum_add f g l]
  omega
theorem sum_zero {α : Type} {f : α → Nat} : ∀ {l : List α}, (∀ x ∈ l, f x = 0) → (l.map f).sum = 0
 | [], _ => rfl
 | x :: l, h => by
  rw [List.map_cons, List.sum_cons, h x (List.mem_cons_self ..), sum_zero fun y hy => h y (List.mem_cons_of_mem _ hy)]
theorem sum_one {f : Nat → Nat} {c : Nat} : ∀ {l : List Nat}, l.Nodup → c ∈ l → f c = 1 → (∀ x ∈ l, x ≠ c → f x = 0) → (l.map f).sum = 1
 | [], _, h, _, _ => nomatch h
 | x :: l, hn, h, h1, h0 => by
  rw [List.map_cons, List.sum_cons]
  rw [List.nodup_cons] at hn
  by_cases e : x = c
  ·subst e
   rw [h1, sum_zero fun y hy => h0 y (List.mem_cons_of_mem _ hy) (fun z => hn.1 (z ▸ hy))]
  ·rw [h0 x (List.mem_cons_self ..) e]
   rcases List.mem_cons.mp h with z | z
   ·exact absurd z.symm e
   ·rw [sum_one hn.2 z h1 fun y hy => h0 y (List.mem_cons_of_mem _ hy)]
theorem pre_app (u a b : List Nat) : (u ++ a).isPrefixOf (u ++ b) = a.isPrefixOf b := by
 induction u with
 | nil => rfl
 | cons x u ih =>
  show ((x == x) && (u ++ a).isPrefixOf (u ++ b)) = _
  rw [ih, beq_self_eq_true, Bool.true_and]
theorem pre_self (u a : List Nat) : u.isPrefixOf (u ++ a) = true := List.isPrefixOf_iff_prefix.mpr ⟨a, rfl⟩
theorem lt_app (u a b : List Nat) : u ++ a < u ++ b ↔ a < b := by
 induction u with
 | nil => rfl
 | cons x u ih =>
  show x :: (u ++ a) < x :: (u ++ b) ↔ _
  rw [List.cons_lt_cons_iff]
  constructor
  ·rintro (h | ⟨_, h⟩)
   ·exact absurd h (Nat.lt_irrefl _)
   ·exact ih.mp h
  ·exact fun h => .inr ⟨rfl, ih.mpr h⟩
theorem pre_cons1 (c : Nat) (x : Nat) (r : List Nat) : [c].isPrefixOf (x :: r) = (c == x) := by
 show ((c == x) && List.isPrefixOf [] r) = _
 cases r <;> simp [List.isPrefixOf]
theorem cnt_split {W : List (List Nat)} {t : List Nat} {ks : List Nat} (hk : ks.Nodup) (h : ∀ w ∈ W, ∀ c, (t ++ [c]).isPrefixOf w = true → c ∈ ks) :
  cnt W t = W.count t + (ks.map fun c => cnt W (t ++ [c])).sum := by
 induction W with
 | nil =>
  have e : (ks.map fun c => cnt [] (t ++ [c])).sum = 0 := sum_zero fun c _ => rfl
  show 0 = 0 + _
  rw [e]
 | cons w W ih =>
  have ih' := ih fun w' hw' => h w' (List.mem_cons_of_mem _ hw')
  rw [cnt_cons, ih']
  have e : (ks.map fun c => cnt (w :: W) (t ++ [c])) = ks.map fun c => ind ((t ++ [c]).isPrefixOf w) + cnt W (t ++ [c]) := by
   congr 1
   funext c
   exact cnt_cons w W (t ++ [c])
  rw [e, sum_add, List.count_cons]
  have key : ind (t.isPrefixOf w) = ind (w == t) + (ks.map fun c => ind ((t ++ [c]).isPrefixOf w)).sum := by
   by_cases hp : t.isPrefixOf w = true
   ·obtain ⟨r, rfl⟩ := List.isPrefixOf_iff_prefix.mp hp
    cases r with
    | nil =>
     rw [List.append_nil]
     have : (ks.map fun c => ind ((t ++ [c]).isPrefixOf t)).sum = 0 := sum_zero fun c _ => by
      have : (t ++ [c]).isPrefixOf t = false := by
       have := pre_app t [c] []
       rw [List.append_nil] at this
       rw [this]; rfl
      rw [this]; rfl
     rw [this]
     have := pre_self t []
     rw [List.append_nil] at this
     rw [this]; simp [ind]
    | cons x r =>
     have hx : x ∈ ks := h (t ++ x :: r) (List.mem_cons_self ..) x (by rw [pre_app, pre_cons1]; simp)
     have e1 : (ks.map fun c => ind ((t ++ [c]).isPrefixOf (t ++ x :: r))).sum = 1 := sum_one (c := x) hk hx (by rw [pre_app, pre_cons1]; simp [ind]) fun y _ hy => by
      rw [pre_app, pre_cons1]
      simp [ind, hy]
     rw [e1, pre_self]
     have : (t ++ x :: r == t) = false := by
      rw [beq_eq_false_iff_ne]
      intro z
      have := congrArg List.length z
      simp at this
     rw [this]; rfl
   ·have e0 : (w == t) = false := by
     rw [beq_eq_false_iff_ne]
     rintro rfl
     have := pre_self w []
     rw [List.append_nil] at this
     exact hp this
    have : (ks.map fun c => ind ((t ++ [c]).isPrefixOf w)).sum = 0 := sum_zero fun c _ => by
     have : ¬ (t ++ [c]).isPrefixOf w = true := fun z => by
      obtain ⟨r, rfl⟩ := List.isPrefixOf_iff_prefix.mp z
      rw [List.append_assoc] at hp
      exact hp (pre_self t _)
     simp [ind, this]
    rw [this, e0]
    simp [ind, hp]
  have : (if (w == t) = true then 1 else 0) = ind (w == t) := rfl
  rw [this]
  omega
def lessU (W : List (List Nat)) (u v : List Nat) : Nat := (W.filter fun w => u.isPrefixOf w && decide (w < u ++ v)).length
theorem lessU_cons (w : List Nat) (W : List (List Nat)) (u v : List Nat) : lessU (w :: W) u v = ind (u.isPrefixOf w && decide (w < u ++ v)) + lessU W u v := by
 unfold lessU ind
 rw [List.filter_cons]
 split <;> simp <;> omega
theorem lessU_nil (W : List (List Nat)) (u : List Nat) : lessU W u [] = 0 := by
 unfold lessU
 rw [List.length_eq_zero_iff, List.filter_eq_nil_iff]
 intro w _ h
 rw [Bool.and_eq_true, decide_eq_true_eq] at h
 obtain ⟨r, rfl⟩ := List.isPrefixOf_iff_prefix.mp h.1
 have := (lt_app u r []).mp (by simpa using h.2)
 exact List.not_lt_nil _ this
theorem lessU_split {W : List (List Nat)} {u v : List Nat} {c : Nat} {ks : List Nat} (hk : ks.Nodup) (h : ∀ w ∈ W, ∀ c, (u ++ [c]).isPrefixOf w = true → c ∈ ks) :
  lessU W u (c :: v) = W.count u + ((ks.filter fun x => decide (x < c)).map fun x => cnt W (u ++ [x])).sum + lessU W (u ++ [c]) v := by
 induction W with
 | nil =>
  have e : ((ks.filter fun x => decide (x < c)).map fun x => cnt [] (u ++ [x])).sum = 0 := sum_zero fun c _ => rfl
  show 0 = 0 + _ + 0
  rw [e]
 | cons w W ih =>
  have ih' := ih fun w' hw' => h w' (List.mem_cons_of_mem _ hw')
  rw [lessU_cons, ih', lessU_cons, List.count_cons]
  have e : ((ks.filter fun x => decide (x < c)).map fun x => cnt (w :: W) (u ++ [x])) = (ks.filter fun x => decide (x < c)).map fun x => ind ((u ++ [x]).isPrefixOf w) + cnt W (u ++ [x]) := by
   congr 1
   funext c
   exact cnt_cons w W (u ++ [c])
  rw [e, sum_add]
  have key : ind (u.isPrefixOf w && decide (w < u ++ c :: v)) = ind (w == u) + ((ks.filter fun x => decide (x < c)).map fun x => ind ((u ++ [x]).isPrefixOf w)).sum + ind ((u ++ [c]).isPrefixOf w && decide (w < u ++ [c] ++ v)) := by
   by_cases hp : u.isPrefixOf w = true
   ·obtain ⟨r, rfl⟩ := List.isPrefixOf_iff_prefix.mp hp
    cases r with
    | nil =>
     have z : ∀ x, (u ++ [x]).isPrefixOf (u ++ []) = false := fun x => by rw [pre_app]; rfl
     rw [sum_zero fun x _ => by rw [z]; rfl, z]
     have : u ++ [] < u ++ c :: v := (lt_app u [] (c :: v)).mpr (List.nil_lt_cons _ _)
     rw [decide_eq_true this, hp, List.append_nil]
     simp [ind]
    | cons x r =>
     have hx : x ∈ ks := h (u ++ x :: r) (List.mem_cons_self ..) x (by rw [pre_app, pre_cons1]; simp)
     have e0 : (u ++ x :: r == u) = false := by
      rw [beq_eq_false_iff_ne]
      intro z
      have := congrArg List.length z
      simp at this
     rw [e0, hp]
     have q : ∀ y, (u ++ [y]).isPrefixOf (u ++ x :: r) = (y == x) := fun y => by rw [pre_app, pre_cons1]
     have lt1 : (u ++ x :: r < u ++ c :: v) ↔ (x < c ∨ x = c ∧ r < v) := by rw [lt_app, List.cons_lt_cons_iff]
     have lt2 : x = c → ((u ++ x :: r < u ++ [c] ++ v) ↔ r < v) := by
      rintro rfl
      rw [List.append_assoc, lt_app]
      show x :: r < x :: v ↔ _
      rw [List.cons_lt_cons_iff]
      constructor
      ·rintro (z | ⟨_, z⟩)
       ·exact absurd z (Nat.lt_irrefl _)
       ·exact z
      ·exact fun z => .inr ⟨rfl, z⟩
     rw [q c]
     rcases Nat.lt_trichotomy x c with hlt | heq | hgt
     ·have s1 : ((ks.filter fun x => decide (x < c)).map fun y => ind ((u ++ [y]).isPrefixOf (u ++ x :: r))).sum = 1 := sum_one (c := x) (hk.filter _) (List.mem_filter.mpr ⟨hx, decide_eq_true hlt⟩) (by rw [q]; simp [ind]) fun y _ hy => by
       rw [q]; simp [ind, hy]
      rw [s1, decide_eq_true (lt1.mpr (.inl hlt))]
      have : (c == x) = false := by rw [beq_eq_false_iff_ne]; omega
      rw [this]
      simp [ind]
     ·subst heq
      have s1 : ((ks.filter fun y => decide (y < x)).map fun y => ind ((u ++ [y]).isPrefixOf (u ++ x :: r))).sum = 0 := sum_zero fun y hy => by
       have := of_decide_eq_true (List.mem_filter.mp hy).2
       rw [q]
       have : (y == x) = false := by rw [beq_eq_false_iff_ne]; omega
       rw [this]; rfl
      rw [s1, beq_self_eq_true]
      by_cases hrv : r < v
      ·rw [decide_eq_true (lt1.mpr (.inr ⟨rfl, hrv⟩)), decide_eq_true ((lt2 rfl).mpr hrv)]
       simp [ind]
      ·have a1 : ¬ (u ++ x :: r < u ++ x :: v) := fun z => (lt1.mp z).elim (Nat.lt_irrefl _) fun z => hrv z.2
       have a2 : ¬ (u ++ x :: r < u ++ [x] ++ v) := fun z => hrv ((lt2 rfl).mp z)
       rw [decide_eq_false a1, decide_eq_false a2]
       simp [ind]
     ·have s1 : ((ks.filter fun y => decide (y < c)).map fun y => ind ((u ++ [y]).isPrefixOf (u ++ x :: r))).sum = 0 := sum_zero fun y hy => by
       have := of_decide_eq_true (List.mem_filter.mp hy).2
       rw [q]
       have : (y == x) = false := by rw [beq_eq_false_iff_ne]; omega
       rw [this]; rfl
      have a1 : ¬ (u ++ x :: r < u ++ c :: v) := fun z => (lt1.mp z).elim (fun z => by omega) fun z => by omega
      have : (c == x) = false := by rw [beq_eq_false_iff_ne]; omega
      rw [s1, decide_eq_false a1, this]
      simp [ind]
   ·have e0 : (w == u) = false := by
     rw [beq_eq_false_iff_ne]
     rintro rfl
     have := pre_self w []
     rw [List.append_nil] at this
     exact hp this
    have z : ∀ c, (u ++ [c]).isPrefixOf w = false := fun c => by
     rw [Bool.eq_false_iff]
     intro z
     obtain ⟨r, rfl⟩ := List.isPrefixOf_iff_prefix.mp z
     rw [List.append_assoc] at hp
     exact hp (pre_self u _)
    rw [sum_zero fun x _ => by rw [z]; rfl, z, e0]
    simp [ind, hp]
  have : (if (w == u) = true then 1 else 0) = ind (w == u) := rfl
  rw [this]
  omega
theorem less_root (W : List (List Nat)) (t : List Nat) : (W.filter fun w => decide (w < t)).length = lessU W [] t := by
 unfold lessU
 congr 2
theorem lessU_le (W : List (List Nat)) (u v : List Nat) : lessU W u v ≤ cnt W u := by
 induction W with
 | nil => exact Nat.le_refl _
 | cons w W ih =>
  rw [lessU_cons, cnt_cons]
  have : ind (u.isPrefixOf w && decide (w < u ++ v)) ≤ ind (u.isPrefixOf w) := by
   unfold ind
   cases u.isPrefixOf w <;> simp
   split <;> omega
  omega
theorem cnt_pos {W : List (List Nat)} {t : List Nat} : 0 < cnt W t ↔ ∃ w ∈ W, t <+: w := by
 unfold cnt
 rw [List.length_pos_iff_exists_mem]
 constructor
 ·rintro ⟨w, hw⟩
  obtain ⟨h1, h2⟩ := List.mem_filter.mp hw
  exact ⟨w, h1, List.isPrefixOf_iff_prefix.mp h2⟩
 ·rintro ⟨w, h1, h2⟩
  exact ⟨w, List.mem_filter.mpr ⟨h1, List.isPrefixOf_iff_prefix.mpr h2⟩⟩
theorem cnt_le (W : List (List Nat)) (t : List Nat) : cnt W t ≤ W.length := List.length_filter_le _ _
theorem cnt_perm {W W' : List (List Nat)} (h : W.Perm W') (t : List Nat) : cnt W t = cnt W' t := (h.filter _).length_eq
theorem cnt_app (W W' : List (List Nat)) (t : List Nat) : cnt (W ++ W') t = cnt W t + cnt W' t := by
 unfold cnt
 rw [List.filter_append, List.length_append]
theorem cnt_erase {W : List (List Nat)} {w : List Nat} (h : w ∈ W) (t : List Nat) : cnt W t = ind (t.isPrefixOf w) + cnt (W.erase w) t := by
 rw [cnt_perm (List.perm_cons_erase h) t, cnt_cons]
def kidsL (ex : List Nat → Bool) (u : List Nat) : List Nat := (List.range' 97 26).filter fun c => ex (u ++ [c])
theorem rng_sorted : (List.range' 97 26).Pairwise (· < ·) := by decide
theorem kids_sorted (ex : List Nat → Bool) (u : List Nat) : (kidsL ex u).Pairwise (· < ·) := rng_sorted.filter _
theorem kids_nodup (ex : List Nat → Bool) (u : List Nat) : (kidsL ex u).Nodup := (kids_sorted ex u).imp fun h => Nat.ne_of_lt h
theorem mem_kids {ex : List Nat → Bool} {u : List Nat} {c : Nat} : c ∈ kidsL ex u ↔ (97 ≤ c ∧ c ≤ 122) ∧ ex (u ++ [c]) = true := by
 unfold kidsL
 rw [List.mem_filter, List.mem_range'_1]
 constructor
 ·rintro ⟨h, e⟩; exact ⟨⟨h.1, by omega⟩, e⟩
 ·rintro ⟨h, e⟩; exact ⟨⟨h.1, by omega⟩, e⟩
theorem rise_eq {a b : List (List Nat)} (ha : a.Pairwise (· < ·)) (hb : b.Pairwise (· < ·)) (h : ∀ x, x ∈ a ↔ x ∈ b) : a = b := by
 have na : a.Nodup := ha.imp fun h => by rintro rfl; exact List.lt_irrefl _ h
 have nb : b.Nodup := hb.imp fun h => by rintro rfl; exact List.lt_irrefl _ h
 have p : a.Perm b := (List.perm_ext_iff_of_nodup na nb).mpr h
 exact List.Perm.eq_of_pairwise (le := (· < ·)) (fun x y _ _ h1 h2 => absurd (List.lt_trans h1 h2) (List.lt_irrefl _)) ha hb p
def pre (ex : List Nat → Bool) : Nat → List Nat → List (List Nat)
 | 0, u => [u]
 | n + 1, u => u :: (kidsL ex u).flatMap fun c => pre ex n (u ++ [c])
theorem pre_begins {ex : List Nat → Bool} : ∀ {n : Nat} {u v : List Nat}, v ∈ pre ex n u → u <+: v
 | 0, u, v, h => by rw [List.mem_singleton.mp h]; exact List.prefix_refl _
 | n + 1, u, v, h => by
  rcases List.mem_cons.mp h with e | e
  ·rw [e]; exact List.prefix_refl _
  ·obtain ⟨c, _, hc⟩ := List.mem_flatMap.mp e
   exact (List.prefix_append u [c]).trans (pre_begins hc)
theorem lt_of_ext {u v : List Nat} {c : Nat} (h : u ++ [c] <+: v) : u < v := by
 obtain ⟨r, rfl⟩ := h
 have := (lt_app u [] ([c] ++ r)).mpr (List.nil_lt_cons _ _)
 simpa using this
theorem lt_of_letters {u v w : List Nat} {c d : Nat} (h : c < d) (hv : u ++ [c] <+: v) (hw : u ++ [d] <+: w) : v < w := by
 obtain ⟨r, rfl⟩ := hv
 obtain ⟨r', rfl⟩ := hw
 rw [List.append_assoc, List.append_assoc, lt_app]
 exact List.cons_lt_cons_iff.mpr (.inl h)
theorem flat_rise {u : List Nat} {f : Nat → List (List Nat)} : ∀ {ks : List Nat}, ks.Pairwise (· < ·) → (∀ c ∈ ks, (f c).Pairwise (· < ·)) → (∀ c ∈ ks, ∀ v ∈ f c, u ++ [c] <+: v) → (ks.flatMap f).Pairwise (· < ·)
 | [], _, _, _ => List.Pairwise.nil
 | c :: ks, hk, h1, h2 => by
  rw [List.flatMap_cons, List.pairwise_append]
  rw [List.pairwise_cons] at hk
  refine ⟨h1 c (List.mem_cons_self ..), flat_rise hk.2 (fun d hd => h1 d (List.mem_cons_of_mem _ hd)) (fun d hd => h2 d (List.mem_cons_of_mem _ hd)), fun v hv w hw => ?_⟩
  obtain ⟨d, hd, hw⟩ := List.mem_flatMap.mp hw
  exact lt_of_letters (hk.1 d hd) (h2 c (List.mem_cons_self ..) v hv) (h2 d (List.mem_cons_of_mem _ hd) w hw)
theorem pre_rise {ex : List Nat → Bool} : ∀ (n : Nat) (u : List Nat), (pre ex n u).Pairwise (· < ·)
 | 0, u => List.pairwise_singleton _ _
 | n + 1, u => by
  show (u :: (kidsL ex u).flatMap fun c => pre ex n (u ++ [c])).Pairwise (· < ·)
  rw [List.pairwise_cons]
  refine ⟨fun v hv => ?_, flat_rise (u := u) (kids_sorted ex u) (fun c _ => pre_rise n (u ++ [c])) fun c _ v hv => pre_begins hv⟩
  obtain ⟨c, _, hc⟩ := List.mem_flatMap.mp hv
  exact lt_of_ext (pre_begins hc)
structure Dom (ex : List Nat → Bool) (m : Nat) : Prop where
 up : ∀ u c, ex (u ++ [c]) = true → ex u = true
 let_ : ∀ u c, ex (u ++ [c]) = true → 97 ≤ c ∧ c ≤ 122
 len : ∀ u, ex u = true → u.length ≤ m
theorem Dom.ups {ex : List Nat → Bool} {m : Nat} (D : Dom ex m) (u : List Nat) : ∀ r : List Nat, ex (u ++ r) = true → ex u = true := fun r => by
 rcases List.eq_nil_or_concat r with e | ⟨r', c, e⟩
 ·subst e; rw [List.append_nil]; exact id
 ·subst e
  intro h
  rw [List.concat_eq_append, ← List.append_assoc] at h
  have : r'.length < (r'.concat c).length := by simp
  exact Dom.ups D u r' (D.up _ c h)
 termination_by r => r.length
theorem mem_pre {ex : List Nat → Bool} {m : Nat} (D : Dom ex m) : ∀ {n : Nat} {u : List Nat}, m ≤ n + u.length → ex u = true → ∀ v, v ∈ pre ex n u ↔ u <+: v ∧ ex v = true
 | 0, u, hn, hu, v => by
  show v ∈ [u] ↔ _
  rw [List.mem_singleton]
  constructor
  ·rintro rfl; exact ⟨List.prefix_refl _, hu⟩
  ·rintro ⟨⟨r, rfl⟩, hv⟩
   have := D.len _ hv
   rw [List.length_append] at this
   have : r = [] := List.length_eq_zero_iff.mp (by omega)
   rw [this, List.append_nil]
 | n + 1, u, hn, hu, v => by
  show v ∈ u :: (kidsL ex u).flatMap (fun c => pre ex n (u ++ [c])) ↔ _
  rw [List.mem_cons, List.mem_flatMap]
  constructor
  ·rintro (rfl | ⟨c, hc, hv⟩)
   ·exact ⟨List.prefix_refl _, hu⟩
   ·have hc' := (mem_kids.mp hc).2
    have := (mem_pre D (n := n) (u := u ++ [c]) (by rw [List.length_append]; simp; omega) hc' v).mp hv
    exact ⟨(List.prefix_append u [c]).trans this.1, this.2⟩
  ·rintro ⟨⟨r, rfl⟩, hv⟩
   cases r with
   | nil => left; rw [List.append_nil]
   | cons c r =>
    right
    have e : u ++ c :: r = (u ++ [c]) ++ r := by simp
    have hc : ex (u ++ [c]) = true := D.ups _ r (e ▸ hv)
    refine ⟨c, mem_kids.mpr ⟨D.let_ u c hc, hc⟩, (mem_pre D (n := n) (u := u ++ [c]) (by rw [List.length_append]; simp; omega) hc _).mpr ⟨⟨r, e.symm⟩, hv⟩⟩
theorem sub_split {L : List (List Nat)} {ex : List Nat → Bool} (hL : L.Pairwise (· < ·)) (t : List Nat) (h : ∀ w ∈ L, ∀ c, t ++ [c] <+: w → c ∈ kidsL ex t) :
  (L.filter fun w => t.isPrefixOf w) = (if t ∈ L then [t] else []) ++ (kidsL ex t).flatMap fun c => L.filter fun w => (t ++ [c]).isPrefixOf w := by
 have hflat : ((kidsL ex t).flatMap fun c => L.filter fun w => (t ++ [c]).isPrefixOf w).Pairwise (· < ·) := flat_rise (u := t) (kids_sorted ex t) (fun c _ => hL.filter _) fun c _ v hv => List.isPrefixOf_iff_prefix.mp (List.mem_filter.mp hv).2
 refine rise_eq (hL.filter _) ?_ fun v => ?_
 ·rw [List.pairwise_append]
  refine ⟨?_, hflat, fun a ha b hb => ?_⟩
  ·split
   ·exact List.pairwise_singleton _ _
   ·exact List.Pairwise.nil
  ·obtain ⟨c, _, hc⟩ := List.mem_flatMap.mp hb
   have hb' := List.isPrefixOf_iff_prefix.mp (List.mem_filter.mp hc).2
   split at ha
   ·rw [List.mem_singleton.mp ha]
    exact lt_of_ext hb'
   ·cases ha
 ·rw [List.mem_filter, List.mem_append, List.mem_flatMap, List.isPrefixOf_iff_prefix]
  constructor
  ·rintro ⟨hv, ⟨r, rfl⟩⟩
   cases r with
   | nil =>
    left
    rw [List.append_nil] at hv ⊢
    rw [if_pos hv]
    exact List.mem_singleton.mpr rfl
   | cons c r =>
    right
    have hp : t ++ [c] <+: t ++ c :: r := ⟨r, by simp⟩
    exact ⟨c, h _ hv c hp, List.mem_filter.mpr ⟨hv, List.isPrefixOf_iff_prefix.mpr hp⟩⟩
  ·rintro (hv | ⟨c, _, hv⟩)
   ·split at hv
    ·rename_i ht
     rw [List.mem_singleton.mp hv]
     exact ⟨ht, List.prefix_refl _⟩
    ·cases hv
   ·obtain ⟨h1, h2⟩ := List.mem_filter.mp hv
    exact ⟨h1, (List.prefix_append t [c]).trans (List.isPrefixOf_iff_prefix.mp h2)⟩
theorem flat_get {f : Nat → List (List Nat)} (ks1 : List Nat) (c : Nat) (ks2 : List Nat) {i : Nat} (h1 : (ks1.map fun x => (f x).length).sum ≤ i) (h2 : i < (ks1.map fun x => (f x).length).sum + (f c).length) :
  ((ks1 ++ c :: ks2).flatMap f)[i]? = (f c)[i - (ks1.map fun x => (f x).length).sum]? := by
 have el : (ks1.flatMap f).length = (ks1.map fun x => (f x).length).sum := by rw [List.length_flatMap]
 rw [List.flatMap_append, List.getElem?_append_right (by rw [el]; exact h1), el, List.flatMap_cons, List.getElem?_append_left (by omega)]
end WH
set_option maxHeartbeats 4000000
namespace L2
open PySem PySem.Spec PyProof.Rows
section
variable {X : Cx} {pins : List (Addr × Obj)} {σ : St} {H : Hp} {s : Shared}
theorem Inv.thaw {d : Addr} {o : Obj} {kvs : List (Key × V)} (I : Inv X pins σ H s) (e : H d = some (.frz o (.dK kvs))) (h0 : ∀ o' u', X.H₀ d ≠ some (.frz o' u')) : Inv X pins σ (upd H d (.dK kvs)) s := by
 have up : ∀ b u, H b = some u → (∀ o' u', u ≠ .frz o' u') → upd H d (.dK kvs) b = some u := fun b u q n => by
  rw [upd_ne (by rintro rfl; rw [e] at q; cases q; exact n _ _ rfl)]
  exact q
 have nn : ∀ b, H b = none → upd H d (.dK kvs) b = none := fun b q => by
  rw [upd_ne (by rintro rfl; rw [e] at q; cases q)]
  exact q
 refine ⟨I.ok, I.os, I.bare, ⟨I.base.keep, I.base.slot, fun b ob e1 n hx => nn b (I.base.free b ob e1 n hx), I.base.there, fun b xs q => up _ _ (I.base.tups b xs q) (fun _ _ z => by cases z), fun b ob u q => ?_, fun b ps q => ?_⟩, I.loc, I.cell, nn _ I.free, fun x c q => nn _ (I.freeC x c q), fun p hp => ?_, fun b u q => ?_, I.len⟩
 ·rw [upd_ne (by rintro rfl; exact h0 _ _ q)]
  exact I.base.frzs b ob u q
 ·obtain ⟨m, q'⟩ := I.base.tbls b ps q
  exact ⟨m, up _ _ q' (fun _ _ z => by cases z)⟩
 ·obtain ⟨e1, n, r⟩ := I.pin p hp
  exact ⟨e1, nn _ n, r⟩
 ·by_cases hb : b = d
  ·subst hb
   rw [upd_same] at q
   cases q
   obtain ⟨_, w⟩ := (show ObjOk X.prog X.w H s.heap b (.frz o (.dK kvs)) from I.hok b _ e)
   exact w.stay (fun _ _ _ q => q) (fun c q => up _ _ q (fun _ _ z => by cases z)) fun c xs q => up _ _ q (fun _ _ z => by cases z)
  ·rw [upd_ne hb] at q
   exact (I.hok b u q).stay (fun _ _ _ q => q) (fun c q => up _ _ q (fun _ _ z => by cases z)) fun c xs q => up _ _ q (fun _ _ z => by cases z)
theorem Inv.freeze {d : Addr} {o : Obj} {kvs : List (Key × V)} (I : Inv X pins σ H s) (e : H d = some (.dK kvs)) (ho : s.heap.get? d = some o) : Inv X pins σ (upd H d (.frz o (.dK kvs))) s := by
 have w : ObjOk X.prog X.w H s.heap d (.dK kvs) := I.hok d _ e
 exact I.write (t' := s.toks) (h' := s.heap) (x := d) (e := d) (by rw [e]; exact True.intro) (.inl rfl) (fun _ _ _ q => q) ⟨o, ho⟩ ⟨ho, w⟩
end
def Thaws (H₀ H H' : Hp) : Prop := H' = H ∨ ∃ d o kvs, H d = some (.frz o (.dK kvs)) ∧ (∀ o' u', H₀ d ≠ some (.frz o' u')) ∧ H' = upd H d (.dK kvs)
theorem Inv.thaws {X : Cx} {pins : List (Addr × Obj)} {σ : St} {H H' : Hp} {s : Shared} (I : Inv X pins σ H s) (t : Thaws X.H₀ H H') : Inv X pins σ H' s := by
 rcases t with rfl | ⟨d, o, kvs, e, h0, rfl⟩
 ·exact I
 ·exact I.thaw e h0
def tThaw (H₀ : Hp) (t : TE) : TE := fun σ H Q => t σ H fun v H1 => ∃ H2, Thaws H₀ H1 H2 ∧ Q v H2
theorem pe_thaw {X : Cx} {e : Expr} {t : TE} (h : PE X e t) : PE X e (tThaw X.H₀ t) := fun pins s σ H Q I q =>
 thn (h pins s σ H _ I q) fun u s1 ⟨v, H1, I1, r, H2, th, q2⟩ => ⟨v, H2, I1.thaws th, r, q2⟩
def tSeqT (H₀ : Hp) (t u : TS) : TS := fun D σ H => t { D with nx := fun σ' H' => ∃ H2, Thaws H₀ H' H2 ∧ u D σ' H2 } σ H
theorem pss_consT {X : Cx} {st : Stmt} {rest : List Stmt} {t u : TS} (h1 : PS X st t) (h2 : PSs X rest u) : PSs X (st :: rest) (tSeqT X.H₀ t u) := by
 intro pins s σ H D I h
 refine wpAny_execs_cons (thn (h1 pins s σ H _ I h) fun f s1 q => ?_)
 cases f with
 | next =>
  obtain ⟨σ', H', I', H2, th, q⟩ := q
  exact h2 pins s1 σ' H2 D (I'.thaws th) q
 | ret v => exact q
 | brk => exact q
 | cont => exact q
def epOf (o : Obj) : Nat := match o.data with
 | .dict _ ep => ep
 | _ => 0
theorem frz_at {P : Program} {w : World} {H : Hp} {h : Heap} {d : Addr} {o : Obj} {kvs : List (Key × V)} (ok : HOk P w H h) (e : H d = some (.frz o (.dK kvs))) :
  (d == sysModules) = false ∧ ∃ vs, KV kvs vs ∧ h.DictAt (mixKind P w) d vs (epOf o) := by
 obtain ⟨e1, z, hd, vs, r, o', es, ep, e2, c, dt, rest⟩ := (show ObjOk P w H h d (.frz o (.dK kvs)) from ok d _ e)
 rw [e1] at e2
 cases e2
 have e3 : epOf o = ep := by
  unfold epOf
  rw [dt]
 subst e3
 exact ⟨hd, vs, r, o, es, e1, c, dt, rest⟩
theorem KV.get : ∀ {kvs : List (Key × V)} {vs : List (Key × Value)} {i : Nat} {kv : Key × V}, KV kvs vs → kvs[i]? = some kv → ∃ q, vs[i]? = some q ∧ kv.1 = q.1 ∧ RelV kv.2 q.2
 | _, _, _, _, .nil, e => by simp at e
 | _, _, 0, _, .cons r _, e => by
  simp at e
  subst e
  exact ⟨_, rfl, r⟩
 | _, _, i + 1, kv, .cons _ t, e => by
  obtain ⟨u, h1, h2⟩ := KV.get (i := i) (kv := kv) t (by simpa using e)
  exact ⟨u, by simpa using h1, h2⟩
theorem rel_of_is {P : Program} {w : World} {k : Key} {v : Value} (h : (mixKind P w).is k v = true) : RelV (kV k) v := by
 rcases keyIs_shape h with ⟨i, t, rfl, rfl⟩ | ⟨x, t, rfl, rfl⟩
 ·exact ⟨t, rfl⟩
 ·exact ⟨t, rfl⟩
def Iti (o : Obj) (d : Addr) (kvs : List (Key × V)) : It :=
 ⟨fun i H => H d = some (.frz o (.dK kvs)) ∧ i < kvs.length, fun i H x H' => ∃ kv p, kvs[i]? = some kv ∧ H p = none ∧ x = .ref p ∧ H' = upd H p (.tup [kV kv.1, kv.2]), fun i H => H d = some (.frz o (.dK kvs)) ∧ kvs.length ≤ i⟩
theorem entry_dii : entryFor table "dict_itemiterator.__iter__" = some Builtin.«dict_keyiterator.__iter__» :=
 PySem.entryFor_alias (id' := "dict_keyiterator.__iter__")
  (by kernel_rfl)
  (by first | rfl | decide +kernel)
  (by decide +kernel)
  (by kernel_rfl)
theorem turn_items {P : Program} {w : World} {K : PySem.W.Frag} {elts : List Expr} {x1} {pt : Pos} (o : Obj) (d it : Addr) (kvs : List (Key × V)) :
  Turn P w K (.Tuple elts x1 pt) (Iti o d kvs) [it] it (fun i h => ∃ ok ov, IsItemIter h it d i kvs.length (epOf o) ok ov) where
 mem := by simp
 obj := fun i h st b hb => by
  have e : b = it := by simpa using hb
  subst e
  obtain ⟨ok, ov, st⟩ := st
  exact ⟨_, st, fun v z => by
   have z' : Data.fields _ = Data.cell v := z
   cases z'⟩
 keep := fun i h h' ⟨ok, ov, st⟩ k => ⟨ok, ov, k it (by simp) _ st⟩
 item := by
  intro X hP hw hK hc i pins s σ H E I hf st hg
  subst hP hw hK
  obtain ⟨e, hi⟩ := hg
  obtain ⟨hd, vs, r, dd⟩ := frz_at I.hok e
  obtain ⟨ok, ov, st⟩ := st
  have hl := KV.length r
  obtain ⟨q, hq, e1, e2⟩ := KV.get r (List.getElem?_eq_getElem hi)
  obtain ⟨q1, q2⟩ := q
  obtain ⟨f0, f1, f2, f3, f4, f5⟩ := hf it (by simp)
  have hil : it < s.heap.objs.size := Heap.lt_size st
  rw [hl] at st
  refine wpAny_pyNext_items_item st dd hq fun key h' hk hio ht hsz kk => ?_
  refine ⟨_, rfl, wpAny_letOwnedTupleGo_items hio fun h2 he2 hs2 => ?_⟩
  replace hs2 : Heap.SameBut it h' h2 := hs2
  have I1 : Inv X pins σ H { s with heap := h2 } := I.turned (t' := s.toks) (it := it) (fun b o hb q => (hs2.2 b hb).trans (kk b o hb q)) f0 f1 f3 f4 f5
  obtain ⟨g0, g1, g2, g3, g4, g5⟩ := I.fpOk (Nat.le_refl s.heap.objs.size) (I.hok.fresh (Nat.le_refl s.heap.objs.size))
  have hne : s.heap.objs.size ≠ it := Nat.ne_of_gt hil
  have I2 := I1.adopt (D := s.heap.objs.size) (o := .tup [kV kvs[i].1, kvs[i].2]) g0 I.sz g1 g4 g5 ?_
  ·refine ⟨.ref s.heap.objs.size, _, I2, rfl, ⟨kvs[i], _, List.getElem?_eq_getElem hi, g0, rfl, rfl⟩, ⟨key, q2, by rw [hl]; exact he2⟩, fun b hb => ?_⟩
   have e : b = it := by simpa using hb
   subst e
   rw [upd_ne hne.symm]
   exact f0
  ·have e1' : kvs[i].1 = q1 := e1
   refine ⟨by show 2 ≤ sizeLine; rw [sizeLine_eq]; omega, [key, q2], .cons (by rw [e1']; exact rel_of_is hk) (.cons e2 .nil), ⟨_, (hs2.2 _ hne).trans ht, rfl, _, rfl⟩⟩
 done := by
  intro X hP hw hK hc i pins s σ H E I hf st hg
  subst hP hw hK
  obtain ⟨e, hi⟩ := hg
  obtain ⟨hd, vs, r, dd⟩ := frz_at I.hok e
  obtain ⟨ok, ov, st⟩ := st
  have hl := KV.length r
  obtain ⟨f0, f1, f2, f3, f4, f5⟩ := hf it (by simp)
  rw [hl] at st
  exact wpAny_pyNext_items_end (I.ok.hd hc) st dd (List.getElem?_eq_none (by omega)) fun h' eb => ⟨rfl, I.turned (t' := s.toks) (fun b o hb e => eb b o hb e) f0 f1 f3 f4 f5⟩
 self := fun A i s Q E ⟨ok, ov, st⟩ hQ => by
  have hT : s.TypeIs (.ref it) "dict_itemiterator" := ⟨_, st, rfl⟩
  refine wpAny_pyIter_slot hT PySem.F.slot_dict_itemiterator_iter (wpAny_call_entry PySem.F.slot_dict_itemiterator_iter hT entry_dii ?_ (PySem.F.args_dict_itemiterator_iter_1 _))
  show wpAny _ _ (ret (.ref it)) _ _ s
  exact wpAny_pure ⟨_, rfl, "dict_itemiterator", _, hT, PySem.F.slot_dict_itemiterator_next.lookup, hQ⟩
section
variable {X : Cx} {o : Expr} {td : TE} {elts : List Expr} {x1 : Nat} {pt apos cpos : Pos}
def iItems (td : TE) : TI := fun σ H R => td σ H fun x H1 => ∃ d kvs, x = .ref d ∧ ((H1 d = some (.dK kvs) ∧ ∀ o, R (Iti o d kvs) (upd H1 d (.frz o (.dK kvs)))) ∨ ∃ o, H1 d = some (.frz o (.dK kvs)) ∧ R (Iti o d kvs) H1)
theorem pi_items (ho : PE X o td) (hb : attributeBase o "items" X.env (eval o X.env) = eval o X.env := by rfl) (hline : (apos.endLine == cpos.line) = true := by rfl) :
  PI X (.Tuple elts x1 pt) (.Call (.Attribute o "items" apos) [] [] cpos) (iItems td) := by
 intro pins s σ H R I h
 refine wpAny_Call_method (T := "dict") (id := "dict.items") hb rfl hline PySem.F.plainAttrs_dict PySem.F.slot_dict_items PySem.F.type_dict_items (thn (ho pins s σ H _ I h) fun u s1 ⟨x, H1, I1, rx, d, kvs, ex, q⟩ => ?_)
 subst ex
 obtain rfl : u = Value.ref d := rx
 have rd : Rd H1 d (.dK kvs) := q.elim (fun z => .inl z.1) fun ⟨o, z, _⟩ => .inr ⟨o, z⟩
 obtain ⟨z, hd, vs, rel, dd⟩ := dk_rd I1.hok rd
 refine ⟨dd.typeIs, dd.mapOf.noDict, ?_⟩
 show wpAny _ _ (callWith cpos (.builtin "dict.items") [.ref d] [] []) _ _ s1
 refine method_meetsIn PySem.F.slot_dict_items PySem.F.entry_dict_items rfl (PySem.evalArgs_none ⟨rfl, dd.typeIs, PySem.F.args_dict_items_1 _, _, meets_dict_items (mixKind X.prog X.w) d hd, ⟨vs, dd⟩, ?_⟩)
 have I2 : Inv X pins σ H1 { s1 with heap := s1.heap.push { cls := .type "dict_items", data := .fields #[.ref d] } } := I1.kept (t' := s1.toks) fun b u e => Heap.get?_push_of_some _ e
 have dl : d < s1.heap.objs.size := let ⟨_, _, _, ho, _⟩ := dd; Heap.lt_size ho
 have hz : (s1.heap.push { cls := .type "dict_items", data := .fields #[.ref d] }).objs.size = s1.heap.objs.size + 1 := Heap.size_push ..
 have fin : ∀ (ob : Obj) (H2 : Hp), H2 d = some (.frz ob (.dK kvs)) → R (Iti ob d kvs) H2 → Inv X pins σ H2 { s1 with heap := s1.heap.push { cls := .type "dict_items", data := .fields #[.ref d] } } →
   wpAny (model X.prog X.w) X.A (pyIter (.ref s1.heap.objs.size)) (PIE X pins σ (.Tuple elts x1 pt) R) X.xe { s1 with heap := s1.heap.push { cls := .type "dict_items", data := .fields #[.ref d] } } := by
  intro ob H2 e2 q2 I3
  obtain ⟨_, vs', rel', da⟩ := frz_at I3.hok e2
  have hl := KV.length rel'
  refine wpAny_pyIter_items (knd := mixKind X.prog X.w) (d := d) (kvs := vs') (ep := epOf ob) ⟨_, Heap.get?_push_size _ rfl, rfl, rfl⟩ da ?_
  refine ⟨(s1.heap.push { cls := .type "dict_items", data := .fields #[.ref d] }).objs.size, [(s1.heap.push { cls := .type "dict_items", data := .fields #[.ref d] }).objs.size], _, Iti ob d kvs, H2, rfl, I3.kept (t' := s1.toks) fun b u e => Heap.get?_push_of_some _ e, turn_items ob d _ kvs,
   ⟨.none, .none, by rw [hl]; exact Heap.get?_push_size _ rfl⟩, fun b hb => ?_, q2⟩
  have e : b = (s1.heap.push { cls := .type "dict_items", data := .fields #[.ref d] }).objs.size := by simpa using hb
  subst e
  exact I3.fpOk (Nat.le_refl _) (I3.hok.fresh (Nat.le_refl _))
 rcases q with ⟨e, q⟩ | ⟨ob, e, q⟩
 ·obtain ⟨ob, _, _, hob, _⟩ := dd
  exact fin ob _ upd_same (q ob) (I2.freeze e (Heap.get?_push_of_some _ hob))
 ·exact fin ob H1 e q I2
end
theorem for_items {o : Obj} {d : Addr} {kvs : List (Key × V)} {g : TG} {tb : TS} {D : Ends} {σ : St} {H : Hp} (Pv : Nat → St → Hp → Prop) (h0 : Pv 0 σ H) (hl : ∀ i σ H, i ≤ kvs.length → Pv i σ H → H d = some (.frz o (.dK kvs)))
  (hs : ∀ i kv p σ H, kvs[i]? = some kv → H p = none → Pv i σ H → g (.ref p) σ (upd H p (.tup [kV kv.1, kv.2])) fun σ2 H2 => tb { D with nx := Pv (i + 1), ct := Pv (i + 1), bk := D.nx } σ2 H2) (hd : ∀ σ H, Pv kvs.length σ H → D.nx σ H) :
  ∃ W : Nat → Nat → St → Hp → Prop, (∃ m, W 0 m σ H) ∧ ∀ i m σ H, W i m σ H →
   ((Iti o d kvs).stop i H ∧ D.nx σ H) ∨ ((Iti o d kvs).go i H ∧ ∃ N : St → Hp → Prop, (∀ σ' H', N σ' H' → ∃ m', m' < m ∧ W (i + 1) m' σ' H') ∧ ∀ x H', (Iti o d kvs).yld i H x H' → g x σ H' fun σ2 H2 => tb { D with nx := N, ct := N, bk := D.nx } σ2 H2) := by
 refine ⟨fun i m σ H => m = kvs.length - i ∧ i ≤ kvs.length ∧ Pv i σ H, ⟨kvs.length, by simp, Nat.zero_le _, h0⟩, ?_⟩
 rintro i m σ H ⟨rfl, hi, p⟩
 have q := hl i σ H hi p
 by_cases hlt : i < kvs.length
 ·refine .inr ⟨⟨q, hlt⟩, Pv (i + 1), fun σ' H' p' => ⟨kvs.length - (i + 1), by omega, rfl, hlt, p'⟩, fun x H' y => ?_⟩
  obtain ⟨kv, b, e1, e2, rfl, rfl⟩ := y
  exact hs i kv b σ H e1 e2 p
 ·have e : i = kvs.length := by omega
  subst e
  exact .inl ⟨⟨q, Nat.le_refl _⟩, hd σ H p⟩
def Itv (K : PySem.W.Frag) (a : Addr) (n : Nat) : It :=
 ⟨fun i H => (∃ xs, SqL K H a xs ∧ xs.length = n) ∧ i < n, fun i H x H' => H' = H ∧ ∀ xs, SqL K H a xs → xs[n - 1 - i]? = some x, fun i _ => i = n⟩
theorem turn_rev {P : Program} {w : World} {K : PySem.W.Frag} {tg : Expr} (a it : Addr) (n : Nat) : Turn P w K tg (Itv K a n) [it] it (fun i h => h.IsRevIter it a ((n : Int) - 1 - (i : Int))) where
 mem := by simp
 obj := fun i h st b hb => by
  have e : b = it := by simpa using hb
  subst e
  obtain ⟨o, e, c, d⟩ := st
  exact ⟨o, e, fun v z => by rw [d] at z; cases z⟩
 keep := fun i h h' st k => st.at fun o e => k it (by simp) o e
 item := by
  intro X hP hw hK hc i pins s σ H E I hf st hg
  subst hP hw hK
  obtain ⟨⟨xs, hq, hn⟩, hi⟩ := hg
  obtain ⟨its, rv, p, hz⟩ := I.list hq
  have hx : xs[n - 1 - i]? = some (xs[n - 1 - i]'(by omega)) := List.getElem?_eq_getElem (by omega)
  obtain ⟨u, hu, ru⟩ := rv.get hx
  obtain ⟨f0, f1, f2, f3, f4, f5⟩ := hf it (by simp)
  have e : (n : Int) - 1 - (i : Int) = ((n - 1 - i : Nat) : Int) := by omega
  rw [e] at st
  refine wpAny_pyNext_rev_item st p.isList (x := u) (by simpa using hu) fun h' st' sb => ?_
  have I1 : Inv X pins σ H { s with heap := h' } := I.turned (t' := s.toks) (fun b o hb e => (sb.2 b hb).trans e) f0 f1 f3 f4 f5
  obtain ⟨o, e, c, d⟩ := id st'
  have e2 : ((n - 1 - i : Nat) : Int) - 1 = (n : Int) - 1 - ((i + 1 : Nat) : Int) := by omega
  rw [e2] at st'
  exact ⟨u, rfl, go_of (s := { s with heap := h' }) e c d (by decide) ⟨_, H, I1, ru, ⟨rfl, fun ys hy => by rw [I.list_inj hy hq]; exact hx⟩, st', fun b hb => (hf b hb).1⟩⟩
 done := by
  intro X hP hw hK hc i pins s σ H E I hf st hg
  subst hP hw hK
  have hg' : i = n := hg
  subst hg'
  obtain ⟨f0, f1, f2, f3, f4, f5⟩ := hf it (by simp)
  have e : (i : Int) - 1 - (i : Int) = -1 := by omega
  rw [e] at st
  exact wpAny_pyNext_rev_end (I.ok.hd hc) st fun h' eb => ⟨rfl, I.turned (t' := s.toks) (fun b o hb e => eb b o hb e) f0 f1 f3 f4 f5⟩
 self := fun _ _ _ _ _ st h => wpAny_pyIter_revIter st h
section
variable {X : Cx} {tg : Expr}
def iRev (K : PySem.W.Frag) (ta : TA) : TI := fun σ H R => ta σ H fun vs H1 => ∃ a xs, vs = [.ref a] ∧ SqL K H1 a xs ∧ R (Itv K a xs.length) H1
theorem pi_rev {a : Expr} {ta : TA} {p pos : Pos} (hg : Gl X "reversed") (hm : X.mg "reversed" = none) (ha : PA X [a] ta) (hs : starEach [a] X.env = [(false, eval a X.env)] := by rfl) : PI X tg (.Call (.Name "reversed" p) [a] [] pos) (iRev X.K ta) := by
 intro pins s σ H R I h
 refine Call_ (ld_blt I hg hm PyProof.Rows.boot_reversed (PyProof.Rows.callWith_type1 (thn (ha pos pins s σ H _ I h) fun us s1 ⟨vs, H1, I1, r1, q1⟩ => ?_) hs rfl))
 obtain ⟨a, xs, e, hq, q⟩ := q1
 subst e
 cases r1 with
 | cons r rr =>
  cases rr
  cases r
  obtain ⟨its, rv, p, hz⟩ := I1.list hq
  have hl := rv.length
  refine call_reversed_list p.isList ?_
  have st : (s1.heap.push (revObj a ((its.toArray.size : Int) - 1))).IsRevIter s1.heap.objs.size a ((xs.length : Int) - 1 - ((0 : Nat) : Int)) := by
   refine ⟨_, Heap.get?_push_size _ rfl, rfl, ?_⟩
   have e : (its.toArray.size : Int) - 1 = (xs.length : Int) - 1 - ((0 : Nat) : Int) := by simp [hl]
   rw [e]
   rfl
  refine wpAny_pyIter_revIter (s := { s1 with heap := s1.heap.push (revObj a ((its.toArray.size : Int) - 1)) }) st ?_
  refine ⟨s1.heap.objs.size, [s1.heap.objs.size], _, _, H1, rfl, I1.kept (t' := s1.toks) fun b o e => Heap.get?_push_of_some _ e, turn_rev a _ xs.length, st, fun b hb => ?_, q⟩
  have e : b = s1.heap.objs.size := by simpa using hb
  subst e
  exact I1.fpOk (Nat.le_refl _) (I1.hok.fresh (Nat.le_refl _))
end
theorem for_rev {K : PySem.W.Frag} {a : Addr} {xs : List V} {g : TG} {tb : TS} {D : Ends} {σ : St} {H : Hp} (Pv : Nat → St → Hp → Prop) (h0 : Pv 0 σ H) (hl : ∀ i σ H, i ≤ xs.length → Pv i σ H → SqL K H a xs)
  (hs : ∀ i x σ H, i < xs.length → xs[xs.length - 1 - i]? = some x → Pv i σ H → g x σ H fun σ2 H2 => tb { D with nx := Pv (i + 1), ct := Pv (i + 1), bk := D.nx } σ2 H2) (hd : ∀ σ H, Pv xs.length σ H → D.nx σ H) :
  ∃ W : Nat → Nat → St → Hp → Prop, (∃ m, W 0 m σ H) ∧ ∀ i m σ H, W i m σ H →
   ((Itv K a xs.length).stop i H ∧ D.nx σ H) ∨ ((Itv K a xs.length).go i H ∧ ∃ N : St → Hp → Prop, (∀ σ' H', N σ' H' → ∃ m', m' < m ∧ W (i + 1) m' σ' H') ∧ ∀ x H', (Itv K a xs.length).yld i H x H' → g x σ H' fun σ2 H2 => tb { D with nx := N, ct := N, bk := D.nx } σ2 H2) := by
 refine ⟨fun i m σ H => m = xs.length - i ∧ i ≤ xs.length ∧ Pv i σ H, ⟨xs.length, by simp, Nat.zero_le _, h0⟩, ?_⟩
 rintro i m σ H ⟨rfl, hi, p⟩
 have q := hl i σ H hi p
 by_cases hlt : i < xs.length
 ·refine .inr ⟨⟨⟨xs, q, rfl⟩, hlt⟩, Pv (i + 1), fun σ' H' p' => ⟨xs.length - (i + 1), by omega, rfl, hlt, p'⟩, fun x H' y => ?_⟩
  obtain ⟨e, y⟩ := y
  subst e
  exact hs i x σ _ hlt (y xs q) p
 ·have e : i = xs.length := by omega
  subst e
  exact .inl ⟨rfl, hd σ H p⟩
end L2
set_option maxHeartbeats 4000000
namespace L2
open PySem PySem.Spec PyProof.Rows
def Itk (o : Obj) (d : Addr) (kvs : List (Key × V)) : It :=
 ⟨fun i H => H d = some (.frz o (.dK kvs)) ∧ i < kvs.length, fun i H x H' => H' = H ∧ ∃ kv, kvs[i]? = some kv ∧ x = kV kv.1, fun i H => H d = some (.frz o (.dK kvs)) ∧ kvs.length ≤ i⟩
theorem turn_keys {P : Program} {w : World} {K : PySem.W.Frag} {tg : Expr} (o : Obj) (d it : Addr) (kvs : List (Key × V)) : Turn P w K tg (Itk o d kvs) [it] it (fun i h => h.IsKeyIter it d i kvs.length (epOf o)) where
 mem := by simp
 obj := fun i h st b hb => by
  have e : b = it := by simpa using hb
  subst e
  obtain ⟨o, e, c, d⟩ := st
  exact ⟨o, e, fun v z => by rw [d] at z; cases z⟩
 keep := fun i h h' ⟨o, e, r⟩ k => ⟨o, k it (by simp) o e, r⟩
 item := by
  intro X hP hw hK hc i pins s σ H E I hf st hg
  subst hP hw hK
  obtain ⟨e, hi⟩ := hg
  obtain ⟨hd, vs, r, dd⟩ := frz_at I.hok e
  have hl := KV.length r
  obtain ⟨q, hq, e1, e2⟩ := KV.get r (List.getElem?_eq_getElem hi)
  obtain ⟨q1, q2⟩ := q
  obtain ⟨f0, f1, f2, f3, f4, f5⟩ := hf it (by simp)
  rw [hl] at st
  refine wpAny_pyNext_dict_item st dd hq fun key h' hk st' sb => ?_
  have I1 : Inv X pins σ H { s with heap := h' } := I.turned (t' := s.toks) (fun b o hb e => (sb.2 b hb).trans e) f0 f1 f3 f4 f5
  obtain ⟨o2, e3, c3, d3⟩ := id st'
  rw [← hl] at st'
  have e1' : kvs[i].1 = q1 := e1
  exact ⟨key, rfl, go_of (s := { s with heap := h' }) e3 c3 d3 (by decide) ⟨kV kvs[i].1, H, I1, by rw [e1']; exact rel_of_is hk, ⟨rfl, kvs[i], List.getElem?_eq_getElem hi, rfl⟩, st', fun b hb => (hf b hb).1⟩⟩
 done := by
  intro X hP hw hK hc i pins s σ H E I hf st hg
  subst hP hw hK
  obtain ⟨e, hi⟩ := hg
  obtain ⟨hd, vs, r, dd⟩ := frz_at I.hok e
  have hl := KV.length r
  obtain ⟨f0, f1, f2, f3, f4, f5⟩ := hf it (by simp)
  rw [hl] at st
  exact wpAny_pyNext_dict_end (I.ok.hd hc) st dd (List.getElem?_eq_none (by omega)) fun h' eb => ⟨rfl, I.turned (t' := s.toks) (fun b o hb e => eb b o hb e) f0 f1 f3 f4 f5⟩
 self := fun A i s Q E st hQ => by
  have hT := st.typeIs
  refine wpAny_pyIter_slot hT PySem.F.slot_dict_keyiterator_iter (wpAny_call_entry PySem.F.slot_dict_keyiterator_iter hT PySem.F.entry_dict_keyiterator_iter ?_ (PySem.F.args_dict_keyiterator_iter_1 _))
  show wpAny _ _ (ret (.ref it)) _ _ s
  exact wpAny_pure ⟨_, rfl, "dict_keyiterator", _, hT, PySem.F.slot_dict_keyiterator_next.lookup, hQ⟩
section
variable {X : Cx} {o tg : Expr} {td : TE}
def iKeys (td : TE) : TI := fun σ H R => td σ H fun x H1 => ∃ d kvs, x = .ref d ∧ ((H1 d = some (.dK kvs) ∧ ∀ o, R (Itk o d kvs) (upd H1 d (.frz o (.dK kvs)))) ∨ ∃ o, H1 d = some (.frz o (.dK kvs)) ∧ R (Itk o d kvs) H1)
theorem pi_dict (ho : PE X o td) : PI X tg o (iKeys td) := by
 intro pins s σ H R I h
 refine thn (ho pins s σ H _ I h) fun u s1 ⟨x, H1, I1, rx, d, kvs, ex, q⟩ => ?_
 subst ex
 obtain rfl : u = Value.ref d := rx
 have fin : ∀ (ob : Obj) (H2 : Hp), H2 d = some (.frz ob (.dK kvs)) → R (Itk ob d kvs) H2 → Inv X pins σ H2 s1 → wpAny (model X.prog X.w) X.A (pyIter (.ref d)) (PIE X pins σ tg R) X.xe s1 := by
  intro ob H2 e2 q2 I3
  obtain ⟨hd, vs', rel', da⟩ := frz_at I3.hok e2
  have hl := KV.length rel'
  refine wpAny_pyIter_dict (knd := mixKind X.prog X.w) hd da ?_
  refine ⟨s1.heap.objs.size, [s1.heap.objs.size], _, Itk ob d kvs, H2, rfl, I3.kept (t' := s1.toks) fun b u e => Heap.get?_push_of_some _ e, turn_keys ob d _ kvs, ⟨_, Heap.get?_push_size _ rfl, rfl, by rw [hl]; rfl⟩, fun b hb => ?_, q2⟩
  have e : b = s1.heap.objs.size := by simpa using hb
  subst e
  exact I3.fpOk (Nat.le_refl _) (I3.hok.fresh (Nat.le_refl _))
 rcases q with ⟨e, q⟩ | ⟨ob, e, q⟩
 ·obtain ⟨z, hd, vs, rel, dd⟩ := dk_of I1.hok e
  obtain ⟨ob, _, _, hob, _⟩ := dd
  exact fin ob _ upd_same (q ob) (I1.freeze e hob)
 ·exact fin ob H1 e q I1
end
section
variable {σ : St} {is : List Nat} {tt : TT} {te : TE} {Q : VK} {H : Hp}
theorem lc_keys {o : Obj} {d : Addr} {kvs : List (Key × V)} (Pv : Nat → List V → Hp → Prop) (hn : kvs.length ≤ 1000000) (h0 : Pv 0 [] H) (hb : ∀ i acc H, Pv i acc H → acc.length ≤ i) (hl : ∀ i acc H, i ≤ kvs.length → Pv i acc H → H d = some (.frz o (.dK kvs)))
  (hs : ∀ i kv acc H, kvs[i]? = some kv → Pv i acc H → tt (capS σ is ++ [some (kV kv.1)]) H fun b H3 => if b = true then te (capS σ is ++ [some (kV kv.1)]) H3 fun y H4 => Pv (i + 1) (acc ++ [y]) H4 else Pv (i + 1) acc H3)
  (hd : ∀ acc H, Pv kvs.length acc H → ∀ p, H p = none → Q (.ref p) (upd H p (.lst acc))) :
  LcGo (Itk o d kvs) σ is tt te Q H := by
 refine ⟨fun i m acc H => m = kvs.length - i ∧ i ≤ kvs.length ∧ Pv i acc H, ⟨kvs.length, by simp, Nat.zero_le _, h0⟩, ?_⟩
 rintro i m acc H ⟨rfl, hi, p⟩
 have q := hl i acc H hi p
 by_cases hlt : i < kvs.length
 ·refine .inr ⟨⟨q, hlt⟩, ?_, Pv (i + 1), fun acc' H' p' => ⟨kvs.length - (i + 1), by omega, rfl, hlt, p'⟩, fun v H' y => ?_⟩
  ·have := hb i acc H p
   have := sizeLine_eq
   omega
  ·obtain ⟨e, kv, y, rfl⟩ := y
   subst e
   exact hs i kv acc _ y p
 ·have e : i = kvs.length := by omega
  subst e
  exact .inl ⟨⟨q, Nat.le_refl _⟩, hd acc H p⟩
end
end L2
set_option maxHeartbeats 4000000
namespace L2
open PySem PySem.Spec PyProof.Rows
section
variable {prog : Program} {w : World} {A : Around} {E : Value → Shared → Prop} {s : Shared} {T : String} {r d : Addr} {n : Nat} {P : Nat → Value → Prop} {OK : Heap → Prop}
theorem gather_run {Q : Value → Shared → Prop} (Ks : PySem.W.KdlSrc prog w T r d n P OK) (hh : A.handled = none) (ok0 : OK s.heap) (few : n ≤ sizeLine)
  (fin : ∀ h' tk acc c, (∀ b o, s.heap.get? b = some o → h'.get? b = some o) → h'.get? s.heap.objs.size = some { cls := .type "list", dict := none, data := .seq acc c, slots := #[] } → ItemsOf P acc n → Q (.ref s.heap.objs.size) { s with heap := h', toks := tk }) :
  wpAny (model prog w) A (runValue (.builtin "proto.collect" ⟨[.ref r], []⟩)) Q E s := by
 have lt := Ks.there _ ok0
 refine wpAny_runValue (codeAny_builtin PySem.F.entry_proto_collect ?_); rw [Around.under_plainId PySem.F.plain_proto_collect _]
 show wpAny _ A.in1 (newList [] >>= fun z => again (.builtin "list.__iadd__" ⟨[z, .ref r], []⟩)) _ _ s
 refine wpAny_bind (wpAny_newObj_type (wpAny_pure ⟨plainId_quiet PySem.F.plain_list_iadd _, codeAny_builtin PySem.F.entry_list_iadd ?_⟩)); rw [Around.under_plainId PySem.F.plain_list_iadd _]
 show wpAny _ A.in1 (Builtin.List.listExtendWith (.ref s.heap.objs.size) (.ref r) (.ref s.heap.objs.size)) _ _ { s with heap := s.heap.push { cls := .type "list", data := .seq #[] 0 } }
 refine PySem.W.kdl_extend (R := wants Q E) (s := { s with heap := s.heap.push { cls := .type "list", data := .seq #[] 0 } }) Ks hh (Ks.keep _ _ ok0 fun b _ o e => Heap.get?_push_of_some _ e) s.heap.objs.size (Nat.ne_of_gt lt.1) (Nat.ne_of_gt lt.2) (.ref s.heap.objs.size) 0 (Heap.get?_push_size _ rfl) (fun h' tk acc c kp at_ its => ?_) few
 exact fin h' tk acc c (fun b o e => kp b o (Nat.ne_of_lt (Heap.lt_size e)) (Heap.get?_push_of_some _ e)) at_ its
theorem gather_src {Q : List Value → Shared → Prop} (Ks : PySem.W.KdlSrc prog w T r d n P OK) (hh : A.handled = none) (ok0 : OK s.heap) (few : n ≤ sizeLine)
  (fin : ∀ h' tk acc, (∀ b o, s.heap.get? b = some o → h'.get? b = some o) → s.heap.objs.size < h'.objs.size → ItemsOf P acc n → Q acc.toList { s with heap := h', toks := tk }) : wpAny (model prog w) A (collect (.ref r)) Q E s := by
 unfold collect
 refine wpAny_bind (gather_run Ks hh ok0 few fun h' tk acc c kp at_ its => ?_)
 show wpAny _ A (load s.heap.objs.size >>= _) _ _ _
 exact wpAny_bind (wpAny_load at_ (wpAny_pure (fin h' tk acc kp (Heap.lt_size at_) its)))
end
theorem sorted_at {h : Heap} {a : Addr} {vs : List Value} {out : Array Value} {n : Nat} (ho : h.get? a = some (seqObj "list" vs.toArray n)) : ∃ e, (sortedHeap h a vs out).get? a = some (seqObj "list" out e) := by
 have ha : a < h.objs.size := Heap.lt_size ho
 unfold sortedHeap
 have h1 := get?_update_seq ho (fun _ => (#[] : Array Value))
 have h2 := Heap.get?_push_of_some (seqObj "list" #[] 0) (Heap.get?_push_of_some (seqObj "tuple" vs.toArray 0) h1)
 exact ⟨_, get?_update_seq h2 (fun _ => out)⟩
theorem sorted_else {h : Heap} {a : Addr} {vs : List Value} {out : Array Value} {b : Addr} {o : Obj} (hb : b ≠ a) (e : h.get? b = some o) : (sortedHeap h a vs out).get? b = some o := by
 unfold sortedHeap
 rw [Heap.get?_update_other _ _ (Ne.symm hb)]
 refine Heap.get?_push_of_some _ (Heap.get?_push_of_some _ ?_)
 rw [Heap.get?_update_other _ _ (Ne.symm hb)]
 exact e
section
variable {prog : Program} {w : World} {A : Around} {E : Value → Shared → Prop} {s : Shared}
theorem sort_down {l : Addr} {vs : List Value} {ss : List Str} {n : Nat} {F : Fin → Shared → Prop} (at0 : s.heap.get? l = some (seqObj "list" vs.toArray n)) (hS : StrsAre vs ss) (h64 : vs.length < 64)
  (fin : ∀ (out : Array Value) (ss' : List Str), StrsAre out.toList.reverse ss' → ss'.Perm ss → sortedS ss' = true → F (.done (.ret .none)) { s with heap := sortedHeap s.heap l vs out }) :
  wpAny (model prog w) A (Builtin.«list.sort» ⟨[.ref l], [(Str.ofString "reverse", .bool true)]⟩) F E s := by
 rw [list_sort_rev]
 have hlt : l < s.heap.objs.size := Heap.lt_size at0
 refine wpAny_bind (listItems_at at0 rfl (wpAny_bind (listUpdate_at at0 rfl ?_)))
 obtain ⟨e1, at1⟩ : ∃ e1, (s.heap.update l (Obj.mapSeq fun _ => #[])).get? l = some (seqObj "list" #[] e1) := ⟨_, get?_update_seq at0 (fun _ => #[])⟩
 refine wpAny_bind (seqEpoch_at at1 rfl (wpAny_bind (wpAny_newTuple (wpAny_bind (wpAny_newList (wpAny_holding ?_))))))
 have at6 : (((s.heap.update l (Obj.mapSeq fun _ => #[])).push (seqObj "tuple" vs.toArray 0)).push (seqObj "list" #[] 0)).get? l = some (seqObj "list" #[] e1) := Heap.get?_push_of_some _ (Heap.get?_push_of_some _ at1)
 show wpAny (model prog w) A _ F E { s with heap := ((s.heap.update l (Obj.mapSeq fun _ => #[])).push (seqObj "tuple" vs.toArray 0)).push (seqObj "list" #[] 0) }
 have sz : vs.toArray.size = vs.length := by simp
 have fin' : ∀ st' : SortSt, (arrOf st').Perm (pairsOf vs) → SortedToK PyProof.Rows.strKind (arrOf st') (pairsOf vs).size → F (.done (.ret .none)) { s with heap := sortedHeap s.heap l vs ((arrOf st').map (·.2)).reverse } := by
  intro st' hp hs
  obtain ⟨ss', a1, a2, a3⟩ := sorted_out_str hS hp hs
  exact fin _ ss' (by rw [Array.toList_reverse, List.reverse_reverse]; exact a1) a2 a3
 have start : (vs.toArray.zip vs.toArray).reverse.Perm (pairsOf vs) := Array.perm_iff_toList_perm.mpr (by rw [Array.toList_reverse]; exact List.reverse_perm _)
 dsimp only
 refine wpAny_bind (wpAny_rule ?_)
 by_cases h2 : vs.toArray.size < 2
 ·rw [if_pos h2, if_pos h2]
  refine wpAny_bind (wpAny_pure ?_)
  rw [StateT.run_pure]
  refine wpAny_bind (wpAny_pure ?_)
  dsimp only
  refine wpAny_bind (seqEpoch_at at6 rfl ?_)
  refine wpAny_bind (listUpdate_at at6 rfl ?_ (hsz2 := by simp only [if_true, Array.size_reverse, Array.size_map]; show (vs.toArray.zip vs.toArray).reverse.size ≤ _; rw [Array.size_reverse, Array.size_zip, sizeLine_eq]; omega))
  simp only [bne_self_eq_false, if_false, Bool.false_eq_true]
  refine wpAny_pure (fin' (SortSt.mk' general' (vs.toArray.zip vs.toArray).reverse #[] 7 none) start fun i j hij hj => ?_)
  have : i = j := by rw [pairsOf_size] at hj; omega
  subst this
  exact KeyOrd.kle_refl _
 ·rw [if_neg h2, if_neg h2]
  obtain ⟨v1, v2, vr, rfl⟩ : ∃ v1 v2 vr, vs = v1 :: v2 :: vr := by
   match vs, sz, h2 with
   | [], _, h2 => simp at h2
   | [_], _, h2 => simp at h2
   | a :: b :: c, _, _ => exact ⟨a, b, c, rfl⟩
  rw [keyKind_strs hS]
  refine wpAny_bind (wpAny_pure ?_)
  refine wpAny_bind (wpAny_mono (wpS_sortRunsK (κ := PyProof.Rows.strKind) strKind_oneLt (a₀ := pairsOf (v1 :: v2 :: vr)) (st := SortSt.mk' oneType' ((v1 :: v2 :: vr).toArray.zip (v1 :: v2 :: vr).toArray).reverse #[] 7 none)
   (Q := fun _ t => (arrOf t).Perm (pairsOf (v1 :: v2 :: vr)) ∧ failedOf t = none ∧ SortedToK PyProof.Rows.strKind (arrOf t) (pairsOf (v1 :: v2 :: vr)).size)
   hS.keysOf ⟨start, rfl, rfl, rfl⟩ (by rw [pairsOf_size]; simp) (by rw [pairsOf_size]; exact h64) fun t a1 a2 a3 => ⟨a1, a2, a3⟩) ?_ fun _ _ e => e)
  rintro ⟨⟨⟩, t⟩ s' ⟨rfl, hp, hf, hs⟩
  dsimp only
  refine wpAny_bind (seqEpoch_at at6 rfl ?_)
  refine wpAny_bind (listUpdate_at at6 rfl ?_ (hsz2 := by
   rw [if_pos rfl, Array.size_reverse]
   refine Nat.le_trans (Nat.le_of_eq ((Array.size_map ..).trans (hp.size_eq.trans (pairsOf_size _)))) ?_; rw [sizeLine_eq]; omega))
  rw [hf]
  simp only [bne_self_eq_false, if_false, Bool.false_eq_true]
  exact wpAny_pure (fin' t hp hs)
end
end L2
set_option maxHeartbeats 4000000
namespace L2
open PySem PySem.Spec PyProof.Rows
theorem paired_of {α β : Type} {R : α → β → Prop} : ∀ {xs : List α} {us : List β}, xs.length = us.length → (∀ (i : Nat) x u, xs[i]? = some x → us[i]? = some u → R x u) → Paired R xs us
 | [], [], _, _ => .nil
 | [], _ :: _, h, _ => by simp at h
 | _ :: _, [], h, _ => by simp at h
 | x :: xs, u :: us, h, k => .cons (k 0 x u rfl rfl) (paired_of (by simpa using h) fun i a b e1 e2 => k (i + 1) a b (by simpa using e1) (by simpa using e2))
theorem vals_keys {P : Program} {w : World} {kvs : List (Key × V)} {vs : List (Key × Value)} {acc : Array Value} (r : KV kvs vs) (its : ItemsOf (fun i v => ∃ k x, vs[i]? = some (k, x) ∧ (mixKind P w).is k v = true) acc vs.length) : Vals (kvs.map fun kv => kV kv.1) acc.toList := by
 have hl := KV.length r
 refine paired_of (by rw [List.length_map, hl, Array.length_toList]; exact its.1.symm) fun i x u hx hu => ?_
 rw [List.getElem?_map] at hx
 cases e : kvs[i]? with
 | none => rw [e] at hx; cases hx
 | some kv =>
  rw [e] at hx
  cases hx
  obtain ⟨q, hq, e1, e2⟩ := KV.get r e
  obtain ⟨k, y, hk, is_⟩ := its.2 i u (by rw [← Array.getElem?_toList]; exact hu)
  rw [hq] at hk
  cases hk
  have e1' : kv.1 = k := e1
  show RelV (kV kv.1) u
  rw [e1']
  exact rel_of_is is_
theorem down_pw : ∀ {ls : List (List Nat)}, (ls.Pairwise fun a b => ¬ b < a) → ls.reverse.Pairwise fun a b => ¬ a < b := fun h => by
 rw [List.pairwise_reverse]
 exact h
section
variable {X : Cx} {e : Expr} {td : TE} {p pos kp pb : Pos} {j : Nat}
def rSortD (Q : VK) (x : V) (H1 : Hp) : Prop := ∃ (d : Addr) (kvs : List (Key × V)) (ls : List (List Nat)), x = .ref d ∧ H1 d = some (.dK kvs) ∧ (kvs.map fun kv => kV kv.1) = ls.map sv ∧ ls.length < 64 ∧
 ∀ ls' : List (List Nat), ls'.Perm ls → (ls'.Pairwise fun a b => ¬ a < b) → ∀ q, H1 q = none → Q (.ref q) (upd H1 q (.lst (ls'.map sv)))
def tSortD (td : TE) : TE := fun σ H Q => td σ H fun x H1 => rSortD Q x H1
theorem run_sortD {pins : List (Addr × Obj)} {s : Shared} {σ : St} {H : Hp} {Q : VK} {d : Addr} (hc : X.calm = true) (I : Inv X pins σ H s) (h : rSortD Q (.ref d) H) :
  wpAny (model X.prog X.w) X.A (call (.builtin "sorted") [.ref d] [(Str.ofString "reverse", .bool true)]) (EP X pins σ Q) X.xe s := by
 obtain ⟨d', kvs, ls, ed, hd, ek, h64, k⟩ := h
 cases ed
 obtain ⟨z, hsy, vs, r, dd⟩ := dk_of I.hok hd
 obtain ⟨ep, da⟩ := dd.dictAt
 have hl := KV.length r
 have el : kvs.length = ls.length := by
  have := congrArg List.length ek
  rwa [List.length_map, List.length_map] at this
 refine call_function_entry_kw kind_sorted plain_sorted entry_sorted (args_sorted_rev _ _) ?_
 unfold Builtin.«sorted»
 refine wpAny_bind (m := checkCount "sorted" 1 1 _) (wpAny_pure (wpAny_bind (gather_src (PySem.W.kdl_dict hsy) (I.ok.hd hc) da (by rw [sizeLine_eq]; omega) fun h' tk acc keep grown its => ?_)))
 have hv : Vals (ls.map sv) acc.toList := by
  rw [← ek]
  exact vals_keys r its
 have hS : StrsAre acc.toList (ls.map S) := strsAre_of hv
 have hacc : acc.toList.length = ls.length := by
  have := hv.length
  rw [List.length_map] at this
  exact this.symm
 refine wpAny_bind (wpAny_newList ?_ (hsz := by rw [hacc, sizeLine_eq]; omega))
 have at0 : (h'.push (seqObj "list" acc.toList.toArray 0)).get? h'.objs.size = some (seqObj "list" acc.toList.toArray 0) := Heap.get?_push_size _ rfl
 show wpAny _ _ _ _ _ { s with heap := h'.push (seqObj "list" acc.toList.toArray 0), toks := tk }
 refine wpAny_bind (wpAny_holding (wpAny_call_entry_kw slot_list_sort ⟨_, at0, rfl⟩ entry_list_sort (sort_down at0 hS (by omega) fun out ss' a1 a2 a3 => ⟨_, rfl, wpAny_pure ⟨_, rfl, ?_⟩⟩) (args_list_sort_rev _ _)))
 obtain ⟨ls', hls⟩ : ∃ ls' : List (List Nat), ss' = ls'.map S := ⟨_, (map_S_of ss').symm⟩
 subst hls
 have hperm : ls'.Perm ls := by
  have := perm_S (ss := ls'.map S) a2
  rw [List.map_map] at this
  have e2 : ((fun z : Str => z.cps.toList) ∘ S) = id := by
   funext l
   exact S_cps l
  rw [e2, List.map_id] at this
  exact this
 have hv' : Vals (ls'.map sv) out.toList.reverse := by
  have := vals_strs a1
  rw [List.map_map] at this
  exact this
 have hv2 : Vals (ls'.reverse.map sv) out.toList := by
  refine paired_of ?_ fun i x u hx hu => ?_
  ·rw [List.length_map, List.length_reverse]
   have := hv'.length
   rw [List.length_map, List.length_reverse] at this
   exact this
  ·have hlen := hv'.length
   rw [List.length_map, List.length_reverse] at hlen
   rw [List.map_reverse] at hx
   have hi : i < out.toList.length := (List.getElem?_eq_some_iff.mp hu).1
   rw [List.getElem?_reverse (by rw [List.length_map]; omega), List.length_map] at hx
   obtain ⟨u', hu', ru⟩ := hv'.get hx
   rw [List.getElem?_reverse (by omega)] at hu'
   have e3 : out.toList.length - 1 - (ls'.length - 1 - i) = i := by omega
   rw [e3, hu] at hu'
   cases hu'
   exact ru
 have old : ∀ b o, s.heap.get? b = some o → (sortedHeap (h'.push (seqObj "list" acc.toList.toArray 0)) h'.objs.size acc.toList out).get? b = some o := fun b o q =>
  sorted_else (Nat.ne_of_lt (Heap.lt_size (keep b o q))) (Heap.get?_push_of_some _ (keep b o q))
 have hsz : s.heap.objs.size ≤ h'.objs.size := Nat.le_of_lt grown
 obtain ⟨ee, he⟩ := sorted_at (out := out) at0
 refine ⟨.ref h'.objs.size, _, I.laid (t' := tk) (o := .lst (ls'.reverse.map sv)) old hsz ⟨?_, out.toList, ee, hv2, ?_⟩, rfl, k _ ((List.reverse_perm _).trans hperm) (down_pw (sorted_pw ls' a3)) _ (I.hok.fresh hsz)⟩
 ·rw [List.length_map, List.length_reverse, hperm.length_eq, sizeLine_eq]
  omega
 ·rw [he]
theorem pe_sortD (hc : X.calm = true) (hg : Gl X "sorted") (hm : X.mg "sorted" = none) (he : PE X e td) (hs : starEach [e] X.env = [(false, eval e X.env)] := by rfl)
  (hs2 : backTo pos (starEach [e] X.env) = (false, eval e X.env) :: backTo pos (starEach [] X.env) := by rfl) (hpl : (backTo pos (starEach [e] X.env)).any (·.1) = false := by rfl) :
  PE X (.Call (.Name "sorted" p) [e] [⟨some "reverse", .Constant (.bool true) j pb, kp⟩] pos) (tSortD td) := by
 intro pins s σ H Q I h
 refine wpAny_Call_Name_kw (ld_blt I hg hm boot_sorted_ ?_)
 have hp := (pa_cons he pa_nil hs) pos pins s σ H (fun vs H1 => match vs with | [x] => rSortD Q x H1 | _ => False) I h
 refine callWith_kw (thn hp fun us s1 ⟨vs, H1, I1, r1, q1⟩ => kws_cons (thn (pe_bl pins s1 σ H1 (fun v H2 => v = .bl true ∧ H2 = H1) I1 ⟨rfl, rfl⟩) fun v s2 ⟨x, H2, I2, rx, ex, eh⟩ => kws_nil ?_)) hs2 hpl
 subst ex eh
 cases (show v = Value.bool true from rx)
 match vs, r1, q1 with
 | [x], .cons r .nil, q1 =>
  obtain ⟨d, kvs, ls, ed, rest⟩ := id q1
  subst ed
  cases r
  exact run_sortD hc I2 q1
end
theorem pe_fldK {X : Cx} {e : Expr} {f : Str} {pos : Pos} {ta : TE} (K : PySem.W.Frag) (hK : X.K = K) (he : PE X e ta) (hb : attributeBase e f X.env (eval e X.env) = eval e X.env) : PE X (.Attribute e f pos) (tFld K ta f) := by
 subst hK
 exact pe_fld he hb
end L2
set_option maxHeartbeats 4000000
namespace L2
open PySem PySem.Spec PyProof.Rows
theorem best_text (f : Nat → List Nat) : ∀ k, argBest (fun i j => decide (f j < f i)) k ≤ k ∧ ∀ j, j ≤ k → ¬ f (argBest (fun i j => decide (f j < f i)) k) < f j
 | 0 => ⟨Nat.le_refl _, fun j hj => by rw [Nat.le_zero.mp hj]; exact List.lt_irrefl _⟩
 | k + 1 => by
  obtain ⟨h1, h2⟩ := best_text f k
  by_cases h : f (argBest (fun i j => decide (f j < f i)) k) < f (k + 1)
  ·have e : argBest (fun i j => decide (f j < f i)) (k + 1) = k + 1 := by
    show (if decide _ = true then k + 1 else _) = _
    rw [if_pos (decide_eq_true h)]
   rw [e]
   refine ⟨Nat.le_refl _, fun j hj => ?_⟩
   rcases Nat.lt_or_ge k j with z | z
   ·rw [show j = k + 1 by omega]
    exact List.lt_irrefl _
   ·exact fun q => h2 j z (List.lt_trans h q)
  ·have e : argBest (fun i j => decide (f j < f i)) (k + 1) = argBest (fun i j => decide (f j < f i)) k := by
    show (if decide _ = true then k + 1 else _) = _
    rw [if_neg (by rw [decide_eq_false h]; decide)]
   rw [e]
   refine ⟨by omega, fun j hj => ?_⟩
   rcases Nat.lt_or_ge k j with z | z
   ·rw [show j = k + 1 by omega]
    exact h
   ·exact h2 j z
section
variable {X : Cx}
theorem call_maxS (hc : X.calm = true) : CallR X (.builtin "max") (fun xs H Q => ∃ (p : Addr) (ls : List (List Nat)), xs = [.ref p] ∧ SqL X.K H p (ls.map sv) ∧ ls ≠ [] ∧ ∀ l, l ∈ ls → (∀ m ∈ ls, ¬ l < m) → Q (sv l) H) := by
 intro pins s σ H xs us Q I r h
 obtain ⟨p, ls, rfl, hp, hne, k⟩ := h
 obtain ⟨u, rfl, ru⟩ := vals1 r
 cases ru
 obtain ⟨its, rv, pl, hz⟩ := I.list hp
 have hl := rv.length
 rw [List.length_map] at hl
 have hpos : 0 < ls.length := List.length_pos_iff.mpr hne
 have hlt : p < s.heap.objs.size := by obtain ⟨_, e, _⟩ := pl.isList; exact Heap.lt_size e
 have item : ∀ (i : Nat) v, its.toArray[i]? = some v → ∃ t, v = Value.str (S ((ls[i]?).getD [])) t := fun i v hv => by
  have hv' : its[i]? = some v := by simpa using hv
  have hi : i < ls.length := by
   have := (List.getElem?_eq_some_iff.mp hv').1
   omega
  obtain ⟨u, hu, t, e⟩ := rv.get (i := i) (x := sv ls[i]) (by rw [List.getElem?_map, List.getElem?_eq_getElem hi]; rfl)
  rw [hv'] at hu
  cases hu
  rw [List.getElem?_eq_getElem hi]
  exact ⟨t, e⟩
 refine call_max_walk (wpAny_pyIter_list pl.isList ?_)
 refine ⟨_, _, _, _, _, _, _, rfl, Walks.list (A := X.A.in1) (I.ok.hd hc) s.heap.objs.size p (Nat.ne_of_lt hlt) its.toArray, ⟨⟨_, Heap.get?_push_size _ rfl, rfl, rfl⟩, pl.isList.push _⟩, fun b hb => ?_, ?_, (fun i j vi vj s' Q' E' hi hj q => ?_ : CmpOf X.prog X.w X.A.in1 .Gt _ (fun i j => decide ((ls[j]?).getD [] < (ls[i]?).getD []))), fun v h' tk hP keep => ?_⟩
 ·show b < (s.heap.push _).objs.size
  rw [Heap.size_push]
  rcases List.mem_cons.mp hb with e | hb
  ·rw [e]
   exact Nat.lt_succ_self _
  ·rw [List.mem_singleton.mp hb]
   exact Nat.lt_succ_of_lt hlt
 ·show 0 < its.toArray.size
  rw [List.size_toArray]
  omega
 ·obtain ⟨t, rfl⟩ := item i vi hi
  obtain ⟨t', rfl⟩ := item j vj hj
  refine PySem.P.gt_str ?_
  rw [S_cps, S_cps]
  exact q
 ·have hb := best_text (fun i => (ls[i]?).getD []) (its.toArray.size - 1)
  generalize hg : argBest (fun i j => decide ((ls[j]?).getD [] < (ls[i]?).getD [])) (its.toArray.size - 1) = g at hP hb
  rw [List.size_toArray] at hb
  have hgl : g < ls.length := by omega
  obtain ⟨t, rfl⟩ := item g v hP
  have eg : (ls[g]?).getD [] = ls[g] := by rw [List.getElem?_eq_getElem hgl]; rfl
  rw [eg] at hb ⊢
  refine ⟨sv ls[g], H, I.kept (t' := tk) fun b o e => keep b o (fun hm => ?_) (Heap.get?_push_of_some _ e), ⟨t, rfl⟩, k _ (List.getElem_mem hgl) fun m hm => ?_⟩
  ·exact absurd (Heap.lt_size e) (by rw [List.mem_singleton.mp hm]; exact Nat.lt_irrefl _)
  ·obtain ⟨j, hj, rfl⟩ := List.getElem_of_mem hm
   have := hb.2 j (by omega)
   rw [List.getElem?_eq_getElem hj] at this
   exact this
theorem call_sumN (hc : X.calm = true) : CallR X (.builtin "sum") (fun xs H Q => ∃ (p : Addr) (ns : List Nat), xs = [.ref p] ∧ SqL X.K H p (ns.map fun n : Nat => V.int (n : Int)) ∧ (∀ n ∈ ns, n ≤ 1000000) ∧ ns.length ≤ 1000000 ∧ Q (.int (ns.sum : Nat)) H) := by
 intro pins s σ H xs us Q I r h
 obtain ⟨p, ns, rfl, hp, hsm, hlen, k⟩ := h
 obtain ⟨u, rfl, ru⟩ := vals1 r
 cases ru
 obtain ⟨its, rv, pl, hz⟩ := I.list hp
 have hl := rv.length
 rw [List.length_map] at hl
 have hlt : p < s.heap.objs.size := by obtain ⟨_, e, _⟩ := pl.isList; exact Heap.lt_size e
 have item : ∀ (i : Nat) v, its.toArray[i]? = some v → ∃ t, v = Value.int (((ns[i]?).getD 0 : Nat) : Int) t := fun i v hv => by
  have hv' : its[i]? = some v := by simpa using hv
  have hi : i < ns.length := by
   have := (List.getElem?_eq_some_iff.mp hv').1
   omega
  obtain ⟨u, hu, t, e⟩ := rv.get (i := i) (x := V.int (ns[i] : Int)) (by rw [List.getElem?_map, List.getElem?_eq_getElem hi]; rfl)
  rw [hv'] at hu
  cases hu
  rw [List.getElem?_eq_getElem hi]
  exact ⟨t, e⟩
 have ps : ∀ j, j ≤ ns.length → preSum (fun i => (((ns[i]?).getD 0 : Nat) : Int)) j = ((ns.take j).sum : Nat) ∧ (ns.take j).sum ≤ 1000000 * j := fun j => by
  induction j with
  | zero => intro _; exact ⟨rfl, Nat.le_refl _⟩
  | succ j ih =>
   intro hj
   obtain ⟨h1, h2⟩ := ih (by omega)
   have hjl : j < ns.length := by omega
   have hs := hsm _ (List.getElem_mem hjl)
   have e : (ns.take (j + 1)).sum = (ns.take j).sum + ns[j] := by
    rw [List.take_succ, List.getElem?_eq_getElem hjl, List.sum_append]
    simp
   refine ⟨?_, by omega⟩
   have ej : (((ns[j]?).getD 0 : Nat) : Int) = (ns[j] : Int) := by
    rw [List.getElem?_eq_getElem hjl]
    rfl
   show preSum _ j + (((ns[j]?).getD 0 : Nat) : Int) = _
   rw [h1, e, ej]
   omega
 refine call_sum_walk (wpAny_pyIter_list pl.isList ?_)
 refine ⟨_, _, _, _, _, _, fun i => (((ns[i]?).getD 0 : Nat) : Int), rfl, Walks.list (A := X.A.in1) (I.ok.hd hc) s.heap.objs.size p (Nat.ne_of_lt hlt) its.toArray, ⟨⟨_, Heap.get?_push_size _ rfl, rfl, rfl⟩, pl.isList.push _⟩, fun b hb => ?_, item, fun j hj => ?_, fun h' tk t' keep => ?_⟩
 ·show b < (s.heap.push _).objs.size
  rw [Heap.size_push]
  rcases List.mem_cons.mp hb with e | hb
  ·rw [e]
   exact Nat.lt_succ_self _
  ·rw [List.mem_singleton.mp hb]
   exact Nat.lt_succ_of_lt hlt
 ·have hj' : j < its.toArray.size := hj
  rw [List.size_toArray] at hj'
  have hjl : j < ns.length := by omega
  obtain ⟨h1, h2⟩ := ps (j + 1) hjl
  have hs := hsm _ (List.getElem_mem hjl)
  have ej : (((ns[j]?).getD 0 : Nat) : Int) = (ns[j] : Int) := by
   rw [List.getElem?_eq_getElem hjl]
   rfl
  show InLong (((ns[j]?).getD 0 : Nat) : Int) ∧ _
  rw [h1, ej]
  unfold InLong
  omega
 ·have e : its.toArray.size = ns.length := by rw [List.size_toArray]; omega
  refine ⟨.int (ns.sum : Nat), H, I.kept (t' := tk) fun b o e => keep b o (fun hm => ?_) (Heap.get?_push_of_some _ e), ⟨t', ?_⟩, k⟩
  ·exact absurd (Heap.lt_size e) (by rw [List.mem_singleton.mp hm]; exact Nat.lt_irrefl _)
  ·rw [e, (ps ns.length (Nat.le_refl _)).1, List.take_length]
theorem boot_max_ : bootBuiltins "max" = some (.builtin "max") := by decide +kernel
theorem boot_sum_ : bootBuiltins "sum" = some (.builtin "sum") := by decide +kernel
end
end L2
set_option maxHeartbeats 4000000
namespace L2
open PySem PySem.Spec PyProof.Rows
section
variable {prog : Program} {w : World} {A : Around} {E : Value → Shared → Prop} {s : Shared} {z TI TO p q a : Addr} {k : Nat} {xs : Array Value} {y : Str} {ty : Tok} {u v : Value}
theorem zs_item {x : Value} {c : Nat} {Q : Value → Shared → Prop} (D : ZipApart z TI TO p q a a) (hz : IsZip s.heap z TI TO .none) (hTI : IsPair s.heap TI (.ref p) (.ref q)) (hTO : IsPair s.heap TO u v) (h1 : s.heap.IsListIter p a k)
  (h2 : s.heap.IsStrIter q "str_ascii_iterator" y ty k) (hl : s.heap.IsList a xs) (hx : xs[k]? = some x) (hy : y.cps[k]? = some c)
  (fin : ∀ h', IsZip h' z TI TO (rawInt s.heap.objs.size) → IsPair h' TO x (.str ⟨#[c]⟩ s.toks) → h'.IsListIter p a (k + 1) → h'.IsStrIter q "str_ascii_iterator" y ty (k + 1) → IsPair h' s.heap.objs.size x (.str ⟨#[c]⟩ s.toks) → h'.objs.size = s.heap.objs.size + 1 →
   (∀ b o, b ≠ z → b ≠ TO → b ≠ p → b ≠ q → s.heap.get? b = some o → h'.get? b = some o) → Q (.ref s.heap.objs.size) { s with heap := h', toks := s.toks + 1 }) :
  wpAny (model prog w) A (Builtin.«zip.__next__» ⟨[.ref z], []⟩) (fun f s' => ∃ r, f = .done (.ret r) ∧ Q r s') E s := by
 show wpAny _ _ (field (.ref z) 2 >>= _) _ _ s
 refine wpAny_bind (wpAny_field hz rfl (x := .bool false) rfl ?_); show wpAny _ _ (field (.ref z) 3 >>= _) _ _ _
 refine wpAny_bind (wpAny_field hz rfl (x := .ref TI) rfl (wpAny_bind (wpAny_seqItems hTI rfl ?_))); show wpAny _ _ (Builtin.SmallTypes.ownedTupleIsFree (.ref z) >>= _) _ _ _
 refine wpAny_bind ?_; unfold Builtin.SmallTypes.ownedTupleIsFree
 refine wpAny_bind (wpAny_field hz rfl (x := .none) rfl (wpAny_pure ?_)); simp only [if_true]
 refine wpAny_bind (wpAny_rule (wpAny_bind (wpAny_field hz rfl (x := .ref TO) rfl (wpAny_bind (wpAny_setField_rec hz (by simp) fun g1 z1 e1 => ?_)))))
 replace z1 : IsZip g1 z TI TO .ellipsis := z1
 refine wpAny_bind ?_; simp only [List.zipIdx_cons, List.zipIdx_nil, List.forIn_cons, List.forIn_nil]
 refine wpAny_bind (wpAny_bind (wpAny_onRaise ?_)); show wpAny _ _ (Builtin.SmallTypes.nextOf (.ref p) >>= _) _ _ _
 refine wpAny_bind (wpAny_nextOf_list_item (h1.extBut e1.extBut D.i1z) (hl.extBut e1.extBut D.l1z) hx fun g2 p2 e2 => wpAny_pure ?_)
 have t2 : IsPair g2 TO u v := e2.extBut _ _ D.TOi1 (e1.extBut _ _ D.TOz hTO)
 refine wpAny_bind (wpAny_seqItems t2 rfl (wpAny_bind (wpAny_updateSeq_pair t2 fun g3 t3 e3 => ?_)))
 replace t3 : IsPair g3 TO x v := t3
 refine wpAny_bind (wpAny_letGo (wpAny_pure (wpAny_bind (wpAny_bind (wpAny_onRaise ?_))))); show wpAny _ _ (Builtin.SmallTypes.nextOf (.ref q) >>= _) _ _ _
 refine wpAny_bind (wpAny_nextOf_ascii_item (((h2.extBut e1.extBut D.i2z).extBut e2.extBut D.i12.symm).extBut e3.extBut D.TOi2.symm) hy fun g4 q4 e4 => wpAny_pure ?_)
 have t4 : IsPair g4 TO x v := e4.extBut _ _ D.TOi2 t3
 refine wpAny_bind (wpAny_seqItems t4 rfl (wpAny_bind (wpAny_updateSeq_pair t4 fun g5 t5 e5 => ?_)))
 replace t5 : IsPair g5 TO x (.str ⟨#[c]⟩ s.toks) := t5
 refine wpAny_bind (wpAny_letGo (wpAny_pure (wpAny_pure ?_)))
 refine wpAny_bind (wpAny_seqItems t5 rfl (wpAny_bind (wpAny_newTuple ?_)))
 have sz : g5.objs.size = s.heap.objs.size := by rw [e5.1, e4.1, e3.1, e2.1, e1.1]
 have z5 : IsZip g5 z TI TO .ellipsis := e5.extBut _ _ D.TOz.symm (e4.extBut _ _ D.i2z.symm (e3.extBut _ _ D.TOz.symm (e2.extBut _ _ D.i1z.symm z1)))
 have k5 : ∀ b o, b ≠ z → b ≠ TO → b ≠ p → b ≠ q → s.heap.get? b = some o → g5.get? b = some o := fun b o n1 n2 n3 n4 e =>
  e5.extBut _ _ n2 (e4.extBut _ _ n4 (e3.extBut _ _ n2 (e2.extBut _ _ n3 (e1.extBut _ _ n1 e))))
 have p5 : g5.IsListIter p a (k + 1) := ((p2.extBut e3.extBut D.TOi1.symm).extBut e4.extBut D.i12).extBut e5.extBut D.TOi1.symm
 have q5 : g5.IsStrIter q "str_ascii_iterator" y ty (k + 1) := q4.extBut e5.extBut D.TOi2.symm
 have zlt : z < g5.objs.size := Heap.lt_size z5
 show wpAny _ _ (Builtin.SmallTypes.ownedTupleHandOut (.ref z) (.ref g5.objs.size) >>= _) _ _ _
 refine wpAny_bind ?_; unfold Builtin.SmallTypes.ownedTupleHandOut
 have z6 : IsZip (g5.push { cls := .type "tuple", data := .seq #[x, .str ⟨#[c]⟩ s.toks] }) z TI TO .ellipsis := Heap.get?_push_of_some _ z5
 refine wpAny_bind (wpAny_setField_rec z6 (by simp) fun g7 z7 e7 => ?_)
 replace z7 : IsZip g7 z TI TO (rawInt g5.objs.size) := z7
 refine wpAny_setField_rec z7 (by simp) fun g8 z8 e8 => ?_
 replace z8 : IsZip g8 z TI TO (rawInt g5.objs.size) := z8
 have up : ∀ b o, b ≠ z → g5.get? b = some o → g8.get? b = some o := fun b o n e => e8.extBut _ _ n (e7.extBut _ _ n (Heap.get?_push_of_some _ e))
 have n8 : IsPair g8 g5.objs.size x (.str ⟨#[c]⟩ s.toks) := e8.extBut _ _ (Nat.ne_of_gt zlt) (e7.extBut _ _ (Nat.ne_of_gt zlt) (Heap.get?_push_size _ rfl))
 have s8 : g8.objs.size = g5.objs.size + 1 := by rw [e8.1, e7.1, Heap.size_push]
 rw [sz] at z8 n8 s8
 refine wpAny_pure ⟨_, rfl, ?_⟩
 show Q (.ref g5.objs.size) _
 rw [sz]
 exact fin g8 z8 (up _ _ D.TOz t5) (p5.at fun o e => up _ o D.i1z e) (let ⟨o, ho, r⟩ := q5; ⟨o, up _ o D.i2z ho, r⟩) n8 s8 fun b o n1 n2 n3 n4 e => up b o n1 (k5 b o n1 n2 n3 n4 e)
theorem zs_end {Q : Fin → Shared → Prop} (hh : A.handled = none) (D : ZipApart z TI TO p q a a) (hz : IsZip s.heap z TI TO .none) (hTI : IsPair s.heap TI (.ref p) (.ref q)) (hTO : IsPair s.heap TO u v) (h1 : s.heap.IsListIter p a k)
  (h2 : s.heap.IsStrIter q "str_ascii_iterator" y ty k) (hl : s.heap.IsList a xs) (over : xs[k]? = none ∨ y.cps[k]? = none)
  (fin : ∀ h' e, (∀ b o, b ≠ z → b ≠ TO → b ≠ p → b ≠ q → s.heap.get? b = some o → h'.get? b = some o) → (∃ o, h'.get? e = some o ∧ o.cls = .type "StopIteration") → E (.ref e) { s with heap := h' }) :
  wpAny (model prog w) A (Builtin.«zip.__next__» ⟨[.ref z], []⟩) Q E s := by
 show wpAny _ _ (field (.ref z) 2 >>= _) _ _ s
 refine wpAny_bind (wpAny_field hz rfl (x := .bool false) rfl ?_); show wpAny _ _ (field (.ref z) 3 >>= _) _ _ _
 refine wpAny_bind (wpAny_field hz rfl (x := .ref TI) rfl (wpAny_bind (wpAny_seqItems hTI rfl ?_))); show wpAny _ _ (Builtin.SmallTypes.ownedTupleIsFree (.ref z) >>= _) _ _ _
 refine wpAny_bind ?_; unfold Builtin.SmallTypes.ownedTupleIsFree
 refine wpAny_bind (wpAny_field hz rfl (x := .none) rfl (wpAny_pure ?_)); simp only [if_true]
 refine wpAny_bind (wpAny_rule (wpAny_bind (wpAny_field hz rfl (x := .ref TO) rfl (wpAny_bind (wpAny_setField_rec hz (by simp) fun g1 z1 e1 => ?_)))))
 replace z1 : IsZip g1 z TI TO .ellipsis := z1
 refine wpAny_bind ?_; simp only [List.zipIdx_cons, List.zipIdx_nil, List.forIn_cons, List.forIn_nil]
 refine wpAny_bind (wpAny_bind (wpAny_onRaise ?_)); show wpAny _ _ (Builtin.SmallTypes.nextOf (.ref p) >>= _) _ _ _
 cases hx : xs[k]? with
 | none =>
  refine wpAny_bind (wpAny_nextOf_list_end hh (h1.extBut e1.extBut D.i1z) (hl.extBut e1.extBut D.l1z) hx fun g2 e e2 he => ?_)
  obtain ⟨oe, hoe, hce⟩ := he
  have z2 : IsZip g2 z TI TO .ellipsis := e2 _ _ D.i1z.symm z1
  have nez : e ≠ z := fun r => by subst r; rw [z2] at hoe; cases hoe; simp at hce
  refine wpAny_setField_rec z2 (by simp) fun g3 _ e3 => fin g3 e (fun b o n1 _ n3 _ r => e3.extBut _ _ n1 (e2 _ _ n3 (e1.extBut _ _ n1 r))) ⟨oe, e3.extBut _ _ nez hoe, hce⟩
 | some x =>
  have hy : y.cps[k]? = none := by
   rcases over with h | h
   ·rw [hx] at h; cases h
   ·exact h
  refine wpAny_bind (wpAny_nextOf_list_item (h1.extBut e1.extBut D.i1z) (hl.extBut e1.extBut D.l1z) hx fun g2 p2 e2 => wpAny_pure ?_)
  have t2 : IsPair g2 TO u v := e2.extBut _ _ D.TOi1 (e1.extBut _ _ D.TOz hTO)
  refine wpAny_bind (wpAny_seqItems t2 rfl (wpAny_bind (wpAny_updateSeq_pair t2 fun g3 t3 e3 => ?_)))
  refine wpAny_bind (wpAny_letGo (wpAny_pure (wpAny_bind (wpAny_bind (wpAny_onRaise ?_))))); show wpAny _ _ (Builtin.SmallTypes.nextOf (.ref q) >>= _) _ _ _
  refine wpAny_bind (wpAny_nextOf_ascii_end hh (((h2.extBut e1.extBut D.i2z).extBut e2.extBut D.i12.symm).extBut e3.extBut D.TOi2.symm) hy fun g4 e e4 he => ?_)
  obtain ⟨oe, hoe, hce⟩ := he
  have z4 : IsZip g4 z TI TO .ellipsis := e4 _ _ D.i2z.symm (e3.extBut _ _ D.TOz.symm (e2.extBut _ _ D.i1z.symm z1))
  have nez : e ≠ z := fun r => by subst r; rw [z4] at hoe; cases hoe; simp at hce
  refine wpAny_setField_rec z4 (by simp) fun g5 _ e5 => fin g5 e (fun b o n1 n2 n3 n4 r => e5.extBut _ _ n1 (e4 _ _ n4 (e3.extBut _ _ n2 (e2.extBut _ _ n3 (e1.extBut _ _ n1 r))))) ⟨oe, e5.extBut _ _ nez hoe, hce⟩
theorem zs_next {x : Value} {c : Nat} {Q : Option Value → Shared → Prop} (D : ZipApart z TI TO p q a a) (hz : IsZip s.heap z TI TO .none) (hTI : IsPair s.heap TI (.ref p) (.ref q)) (hTO : IsPair s.heap TO u v) (h1 : s.heap.IsListIter p a k)
  (h2 : s.heap.IsStrIter q "str_ascii_iterator" y ty k) (hl : s.heap.IsList a xs) (hx : xs[k]? = some x) (hy : y.cps[k]? = some c)
  (fin : ∀ h', IsZip h' z TI TO (rawInt s.heap.objs.size) → IsPair h' TO x (.str ⟨#[c]⟩ s.toks) → h'.IsListIter p a (k + 1) → h'.IsStrIter q "str_ascii_iterator" y ty (k + 1) → IsPair h' s.heap.objs.size x (.str ⟨#[c]⟩ s.toks) → h'.objs.size = s.heap.objs.size + 1 →
   (∀ b o, b ≠ z → b ≠ TO → b ≠ p → b ≠ q → s.heap.get? b = some o → h'.get? b = some o) → Q (some (.ref s.heap.objs.size)) { s with heap := h', toks := s.toks + 1 }) :
  wpAny (model prog w) A (pyNext (.ref z)) Q E s := by
 have hT : s.TypeIs (.ref z) "zip" := ⟨_, hz, rfl⟩
 unfold pyNext
 exact wpAny_bind (wpAny_attempt (wpAny_callSpecial?_slot (name := Str.ofString "__next__") hT PySem.F.slot_zip_next (wpAny_call_entry PySem.F.slot_zip_next hT PySem.F.entry_zip_next
  (zs_item D hz hTI hTO h1 h2 hl hx hy fun h' a1 a2 a3 a4 a5 a6 a7 => wpAny_pure (fin h' a1 a2 a3 a4 a5 a6 a7)) (PySem.F.args_zip_next_1 _))))
theorem zs_stop {Q : Option Value → Shared → Prop} (hh : A.handled = none) (D : ZipApart z TI TO p q a a) (hz : IsZip s.heap z TI TO .none) (hTI : IsPair s.heap TI (.ref p) (.ref q)) (hTO : IsPair s.heap TO u v) (h1 : s.heap.IsListIter p a k)
  (h2 : s.heap.IsStrIter q "str_ascii_iterator" y ty k) (hl : s.heap.IsList a xs) (over : xs[k]? = none ∨ y.cps[k]? = none)
  (fin : ∀ h', (∀ b o, b ≠ z → b ≠ TO → b ≠ p → b ≠ q → s.heap.get? b = some o → h'.get? b = some o) → Q none { s with heap := h' }) : wpAny (model prog w) A (pyNext (.ref z)) Q E s := by
 have hT : s.TypeIs (.ref z) "zip" := ⟨_, hz, rfl⟩
 unfold pyNext
 refine wpAny_bind (wpAny_attempt (wpAny_callSpecial?_slot (name := Str.ofString "__next__") hT PySem.F.slot_zip_next (wpAny_call_entry PySem.F.slot_zip_next hT PySem.F.entry_zip_next (zs_end hh D hz hTI hTO h1 h2 hl over fun h' e hk he => ?_) (PySem.F.args_zip_next_1 _))))
 obtain ⟨o, ho, hc⟩ := he
 exact wpAny_bind (wpAny_isInstance (T := "StopIteration") (b := true) ⟨o, ho, hc⟩ isSubtype_stop (wpAny_pure (fin _ hk)))
end
abbrev zsH (h : Heap) (a : Addr) (y : Str) (ty : Tok) : Heap := ((((h.push { cls := .type "list_iterator", data := .fields #[.ref a, .int 0 0] }).push { cls := .type "str_ascii_iterator", data := .fields #[.str y ty, .int 0 0] }).push { cls := .type "tuple", data := .seq #[.ref h.objs.size, .ref (h.objs.size + 1)] }).push { cls := .type "tuple", data := .seq #[.none, .none] }).push
 { cls := .type "zip", data := .fields #[.none, .bool false, .bool false, .ref (h.objs.size + 2), .ref (h.objs.size + 3)] }
theorem zs_meets (a : Addr) (xs : Array Value) (y : Str) (ty : Tok) (hy : y.cps.all (fun c => decide (c < 128)) = true) :
  Meets (Builtin.«zip.__new__» ⟨[.type "zip", .ref a, .str y ty], []⟩) (fun _ R s => s.heap.IsList a xs ∧ R (.ok (.ret (.ref (s.heap.objs.size + 4)))) { s with heap := zsH s.heap a y ty }) :=
 .of_wp fun prog w A R s h => by
  obtain ⟨hp, g, d, tk, os⟩ := s; obtain ⟨hl, h⟩ := h
  have hsub := sub_zip
  have hL1 : Heap.IsList (Shared.heap ⟨hp, g, d, tk, os⟩) a xs := hl
  wp_walk using wpAny_pyIter_list hL1, wpAny_pyIter_ascii (x := y) (t := ty) hy
  refine ⟨_, rfl, ?_⟩
  simp only [Heap.size_push]
  exact h
section
variable {prog : Program} {w : World} {A : Around} {E : Value → Shared → Prop} {s : Shared}
theorem zs_call {a : Addr} {xs : Array Value} {y : Str} {ty : Tok} {Q : Value → Shared → Prop} (hl : s.heap.IsList a xs) (hy : y.cps.all (fun c => decide (c < 128)) = true)
  (fin : IsZip (zsH s.heap a y ty) (s.heap.objs.size + 4) (s.heap.objs.size + 2) (s.heap.objs.size + 3) .none → IsPair (zsH s.heap a y ty) (s.heap.objs.size + 2) (.ref s.heap.objs.size) (.ref (s.heap.objs.size + 1)) →
   IsPair (zsH s.heap a y ty) (s.heap.objs.size + 3) .none .none → (zsH s.heap a y ty).IsListIter s.heap.objs.size a 0 → (zsH s.heap a y ty).IsStrIter (s.heap.objs.size + 1) "str_ascii_iterator" y ty 0 →
   (∀ b o, s.heap.get? b = some o → (zsH s.heap a y ty).get? b = some o) → Q (.ref (s.heap.objs.size + 4)) { s with heap := zsH s.heap a y ty }) :
  wpAny (model prog w) A (call (.type "zip") [.ref a, .str y ty]) Q E s := by
 refine callType_new PySem.F.called_zip (by decide) (PySem.F.typeCall_zip_2 _ _) (PySem.F.newCall_zip_2 _ _) (fun o => PySem.F.args_object_init_3 o _ _) PySem.F.entry_zip_new (zs_meets a xs y ty hy) ⟨hl, ?_⟩
 have at_ : ∀ {h : Heap} {o : Obj} {n : Nat}, h.objs.size = n → o.isFreed = false → (h.push o).get? n = some o := fun {h o n} e f => by
  rw [← e]
  exact Heap.get?_push_size _ f
 have z1 : ∀ (h : Heap) (o : Obj), (h.push o).objs.size = h.objs.size + 1 := fun h o => Heap.size_push ..
 have g5 : IsZip (zsH s.heap a y ty) (s.heap.objs.size + 4) (s.heap.objs.size + 2) (s.heap.objs.size + 3) .none := at_ (by rw [z1, z1, z1, z1]) rfl
 have g4 : IsPair (zsH s.heap a y ty) (s.heap.objs.size + 3) .none .none := Heap.get?_push_of_some _ (at_ (by rw [z1, z1, z1]) rfl)
 have g3 : IsPair (zsH s.heap a y ty) (s.heap.objs.size + 2) (.ref s.heap.objs.size) (.ref (s.heap.objs.size + 1)) := Heap.get?_push_of_some _ (Heap.get?_push_of_some _ (at_ (by rw [z1, z1]) rfl))
 have g2 : (zsH s.heap a y ty).get? (s.heap.objs.size + 1) = some { cls := .type "str_ascii_iterator", data := .fields #[.str y ty, .int 0 0] } := Heap.get?_push_of_some _ (Heap.get?_push_of_some _ (Heap.get?_push_of_some _ (at_ (by rw [z1]) rfl)))
 have g1 : (zsH s.heap a y ty).get? s.heap.objs.size = some { cls := .type "list_iterator", data := .fields #[.ref a, .int 0 0] } := Heap.get?_push_of_some _ (Heap.get?_push_of_some _ (Heap.get?_push_of_some _ (Heap.get?_push_of_some _ (at_ rfl rfl))))
 exact ⟨⟨_, g5, rfl⟩, fin g5 g3 g4 ⟨_, g1, rfl, rfl⟩ ⟨_, g2, rfl, rfl⟩ fun b o e => Heap.get?_push_of_some _ (Heap.get?_push_of_some _ (Heap.get?_push_of_some _ (Heap.get?_push_of_some _ (Heap.get?_push_of_some _ e))))⟩
end
def Itz (K : PySem.W.Frag) (a : Addr) (n : Nat) (l : List Nat) : It :=
 ⟨fun i H => (∃ xs, SqL K H a xs ∧ xs.length = n) ∧ i < n ∧ i < l.length, fun i H x H' => ∃ p c, H p = none ∧ x = .ref p ∧ l[i]? = some c ∧ ∃ v, (∀ xs, SqL K H a xs → xs[i]? = some v) ∧ H' = upd H p (.tup [v, .str (S [c])]), fun i H => (∃ xs, SqL K H a xs ∧ xs.length = n) ∧ (n ≤ i ∨ l.length ≤ i)⟩
theorem turn_zip {P : Program} {w : World} {K : PySem.W.Frag} {elts : List Expr} {x1} {pt : Pos} (a z TI TO p q : Addr) (n : Nat) (l : List Nat) (ty : Tok) (D : z ≠ TI ∧ z ≠ TO ∧ z ≠ p ∧ z ≠ q ∧ TI ≠ TO ∧ TI ≠ p ∧ TI ≠ q ∧ TO ≠ p ∧ TO ≠ q ∧ p ≠ q) :
  Turn P w K (.Tuple elts x1 pt) (Itz K a n l) [z, TI, TO, p, q] z (fun i h => IsZip h z TI TO .none ∧ IsPair h TI (.ref p) (.ref q) ∧ (∃ u v, IsPair h TO u v) ∧ h.IsListIter p a i ∧ h.IsStrIter q "str_ascii_iterator" (S l) ty i) where
 mem := by simp
 obj := fun i h st b hb => by
  obtain ⟨h1, h2, ⟨u, v, h3⟩, ⟨o4, h4, c4, d4⟩, o5, h5, c5, d5⟩ := st
  simp only [List.mem_cons, List.not_mem_nil, or_false] at hb
  rcases hb with rfl | rfl | rfl | rfl | rfl
  ·exact ⟨_, h1, fun v z => by have z' : Data.fields _ = Data.cell v := z; cases z'⟩
  ·exact ⟨_, h2, fun v z => by have z' : Data.seq _ _ = Data.cell v := z; cases z'⟩
  ·exact ⟨_, h3, fun v z => by have z' : Data.seq _ _ = Data.cell v := z; cases z'⟩
  ·exact ⟨o4, h4, fun v z => by rw [d4] at z; cases z⟩
  ·exact ⟨o5, h5, fun v z => by rw [d5] at z; cases z⟩
 keep := fun i h h' st k => by
  obtain ⟨h1, h2, ⟨u, v, h3⟩, ⟨o4, h4, r4⟩, o5, h5, r5⟩ := st
  exact ⟨k z (by simp) _ h1, k TI (by simp) _ h2, ⟨u, v, k TO (by simp) _ h3⟩, ⟨o4, k p (by simp) _ h4, r4⟩, o5, k q (by simp) _ h5, r5⟩
 item := by
  intro X hP hw hK hc i pins s σ H E I hf st hg
  subst hP hw hK
  obtain ⟨⟨xs, hq, hn⟩, hi, hil⟩ := hg
  obtain ⟨its, rv, pl, hz⟩ := I.list hq
  obtain ⟨h1, h2, ⟨u, v, h3⟩, h4, h5⟩ := st
  have hx : xs[i]? = some (xs[i]'(by omega)) := List.getElem?_eq_getElem (by omega)
  obtain ⟨ux, hu, ru⟩ := rv.get hx
  obtain ⟨ol, hol, hcl, _⟩ := id pl.isList
  have na : a ≠ z ∧ a ≠ TI ∧ a ≠ TO ∧ a ≠ p ∧ a ≠ q := by
   refine ⟨?_, ?_, ?_, ?_, ?_⟩
   ·rintro rfl; rw [h1] at hol; cases hol; simp at hcl
   ·rintro rfl; rw [h2] at hol; cases hol; simp at hcl
   ·rintro rfl; rw [h3] at hol; cases hol; simp at hcl
   ·rintro rfl; obtain ⟨o, ho, hc', _⟩ := h4; rw [ho] at hol; cases hol; rw [hc'] at hcl; simp at hcl
   ·rintro rfl; obtain ⟨o, ho, hc', _⟩ := h5; rw [ho] at hol; cases hol; rw [hc'] at hcl; simp at hcl
  obtain ⟨d1, d2, d3, d4, d5, d6, d7, d8, d9, d10⟩ := D
  obtain ⟨n1, n2, n3, n4, n5⟩ := na
  have DA : ZipApart z TI TO p q a a := ⟨d1.symm, d2.symm, d3.symm, d4.symm, d5, d6, d7, d8, d9, d10, n1, n3, n4, n5, n1, n3, n4, n5⟩
  refine zs_next DA h1 h2 h3 h4 h5 pl.isList (x := ux) (c := l[i]) (by simpa using hu) (by rw [S_get]; simp [hil]) fun h' a1 a2 a3 a4 a5 a6 a7 => ?_
  refine ⟨_, rfl, wpAny_letOwnedTupleGo_zip a1 fun h9 z9 e9 => ?_⟩
  replace e9 : Heap.SameBut z h' h9 := e9
  have lt : ∀ {b o}, s.heap.get? b = some o → s.heap.objs.size ≠ b := fun e => Nat.ne_of_gt (Heap.lt_size e)
  have nz : s.heap.objs.size ≠ z := lt h1
  have I1 : Inv X pins σ H { s with heap := h9, toks := s.toks + 1 } := by
   refine I.call' (ch := [z, TI, TO, p, q]) rfl ⟨fun b o e _ _ hb => ?_, fun b o e _ _ hb => ?_, fun b o _ q _ => q, fun b o e hb => ?_, fun _ _ e => e, fun _ _ _ e => e, fun b ps e => ⟨#[], by rw [e]; simp⟩⟩ ?_ I.bare fun b hb => ?_
   ·simp only [List.mem_cons, List.not_mem_nil, or_false, not_or] at hb
    exact (e9.2 b hb.1).trans (a7 b o hb.1 hb.2.2.1 hb.2.2.2.1 hb.2.2.2.2 e)
   ·simp only [List.mem_cons, List.not_mem_nil, or_false, not_or] at hb
    exact ⟨o.slots, (e9.2 b hb.1).trans (a7 b o hb.1 hb.2.2.1 hb.2.2.2.1 hb.2.2.2.2 e)⟩
   ·simp only [List.mem_cons, List.not_mem_nil, or_false, not_or] at hb
    exact ⟨o, (e9.2 b hb.1).trans (a7 b o hb.1 hb.2.2.1 hb.2.2.2.1 hb.2.2.2.2 e)⟩
   ·intro b ob e
    have nf : ∀ b' u', H b' = some u' → b' ≠ z ∧ b' ≠ TO ∧ b' ≠ p ∧ b' ≠ q := fun b' u' e' => by
     refine ⟨?_, ?_, ?_, ?_⟩ <;> (rintro rfl; rw [(hf _ (by simp)).1] at e'; cases e')
    refine (I.hok b ob e).stay (fun c v hc' r => ?_) (fun _ r => r) fun _ _ r => r
    have hh := hc'.elim (fun z => by rw [z]; exact nf b ob e) fun z => nf c _ z
    exact (e9.2 c hh.1).trans (a7 c v hh.1 hh.2.1 hh.2.2.1 hh.2.2.2 r)
   ·obtain ⟨_, f1, _, f3, f4, f5⟩ := hf b hb
    exact ⟨f3, f1, f4, f5⟩
  obtain ⟨g0, g1, g2, g3, g4, g5⟩ := I.fpOk (Nat.le_refl s.heap.objs.size) (I.hok.fresh (Nat.le_refl s.heap.objs.size))
  have I2 := I1.adopt (D := s.heap.objs.size) (o := .tup [xs[i]'(by omega), .str (S [l[i]])]) g0 I.sz g1 g4 g5 ?_
  ·refine ⟨.ref s.heap.objs.size, _, I2, rfl, ⟨_, l[i], g0, rfl, by simp [hil], _, fun ys hy => by rw [I.list_inj hy hq]; exact hx, rfl⟩, ⟨z9, ?_, ⟨_, _, e9.extBut _ _ d2.symm a2⟩, a3.extBut e9.extBut d3.symm, a4.extBut e9.extBut d4.symm⟩, fun b hb => ?_⟩
   ·exact e9.extBut _ _ d1.symm (a7 _ _ d1.symm d5 d6 d7 h2)
   ·rw [upd_ne ?_]
    ·exact (hf b hb).1
    ·obtain ⟨o, e, _⟩ := (show ∃ o, s.heap.get? b = some o ∧ True by
      simp only [List.mem_cons, List.not_mem_nil, or_false] at hb
      rcases hb with rfl | rfl | rfl | rfl | rfl
      ·exact ⟨_, h1, trivial⟩
      ·exact ⟨_, h2, trivial⟩
      ·exact ⟨_, h3, trivial⟩
      ·obtain ⟨o, ho, _⟩ := h4; exact ⟨o, ho, trivial⟩
      ·obtain ⟨o, ho, _⟩ := h5; exact ⟨o, ho, trivial⟩)
     exact (lt e).symm
  ·refine ⟨by show 2 ≤ sizeLine; rw [sizeLine_eq]; omega, [ux, .str (S [l[i]]) s.toks], .cons ru (.cons ⟨_, rfl⟩ .nil), ⟨_, e9.extBut _ _ nz a5, rfl, _, rfl⟩⟩
 done := by
  intro X hP hw hK hc i pins s σ H E I hf st hg
  subst hP hw hK
  obtain ⟨⟨xs, hq, hn⟩, hov⟩ := hg
  obtain ⟨its, rv, pl, hz⟩ := I.list hq
  have hlen := rv.length
  obtain ⟨h1, h2, ⟨u, v, h3⟩, h4, h5⟩ := st
  obtain ⟨ol, hol, hcl, _⟩ := id pl.isList
  have na : a ≠ z ∧ a ≠ TI ∧ a ≠ TO ∧ a ≠ p ∧ a ≠ q := by
   refine ⟨?_, ?_, ?_, ?_, ?_⟩
   ·rintro rfl; rw [h1] at hol; cases hol; simp at hcl
   ·rintro rfl; rw [h2] at hol; cases hol; simp at hcl
   ·rintro rfl; rw [h3] at hol; cases hol; simp at hcl
   ·rintro rfl; obtain ⟨o, ho, hc', _⟩ := h4; rw [ho] at hol; cases hol; rw [hc'] at hcl; simp at hcl
   ·rintro rfl; obtain ⟨o, ho, hc', _⟩ := h5; rw [ho] at hol; cases hol; rw [hc'] at hcl; simp at hcl
  obtain ⟨d1, d2, d3, d4, d5, d6, d7, d8, d9, d10⟩ := D
  obtain ⟨n1, n2, n3, n4, n5⟩ := na
  have DA : ZipApart z TI TO p q a a := ⟨d1.symm, d2.symm, d3.symm, d4.symm, d5, d6, d7, d8, d9, d10, n1, n3, n4, n5, n1, n3, n4, n5⟩
  refine zs_stop (I.ok.hd hc) DA h1 h2 h3 h4 h5 pl.isList ?_ fun h' a7 => ⟨rfl, ?_⟩
  ·rcases hov with q' | q'
   ·left
    simp
    omega
   ·right
    rw [S_get]
    exact List.getElem?_eq_none q'
  ·refine I.call' (s' := { s with heap := h' }) (ch := [z, TI, TO, p, q]) rfl ⟨fun b o e _ _ hb => ?_, fun b o e _ _ hb => ?_, fun b o _ q _ => q, fun b o e hb => ?_, fun _ _ e => e, fun _ _ _ e => e, fun b ps e => ⟨#[], by rw [e]; simp⟩⟩ ?_ I.bare fun b hb => ?_
   ·simp only [List.mem_cons, List.not_mem_nil, or_false, not_or] at hb
    exact a7 b o hb.1 hb.2.2.1 hb.2.2.2.1 hb.2.2.2.2 e
   ·simp only [List.mem_cons, List.not_mem_nil, or_false, not_or] at hb
    exact ⟨o.slots, a7 b o hb.1 hb.2.2.1 hb.2.2.2.1 hb.2.2.2.2 e⟩
   ·simp only [List.mem_cons, List.not_mem_nil, or_false, not_or] at hb
    exact ⟨o, a7 b o hb.1 hb.2.2.1 hb.2.2.2.1 hb.2.2.2.2 e⟩
   ·intro b ob e
    have nf : ∀ b' u', H b' = some u' → b' ≠ z ∧ b' ≠ TO ∧ b' ≠ p ∧ b' ≠ q := fun b' u' e' => by
     refine ⟨?_, ?_, ?_, ?_⟩ <;> (rintro rfl; rw [(hf _ (by simp)).1] at e'; cases e')
    refine (I.hok b ob e).stay (fun c v hc' r => ?_) (fun _ r => r) fun _ _ r => r
    have hh := hc'.elim (fun z => by rw [z]; exact nf b ob e) fun z => nf c _ z
    exact a7 c v hh.1 hh.2.1 hh.2.2.1 hh.2.2.2 r
   ·obtain ⟨_, f1, _, f3, f4, f5⟩ := hf b hb
    exact ⟨f3, f1, f4, f5⟩
 self := fun A i s Q E st hQ => wpAny_pyIter_zip st.1 hQ
end L2
set_option maxHeartbeats 4000000
namespace L2
open PySem PySem.Spec PyProof.Rows
def nones (ns : List Str) : St := ns.map fun _ => (none : Option V)
theorem nones_get : ∀ {ns : List Str} {i : Nat} {v : V}, (nones ns)[i]? = some (some v) → False
 | [], _, _, h => by simp [nones] at h
 | _ :: _, 0, _, h => by simp [nones] at h
 | _ :: ns, i + 1, v, h => nones_get (ns := ns) (i := i) (v := v) (by simpa [nones] using h)
def ExtS (σ σ' : St) : Prop := σ'.length = σ.length ∧ ∀ (i : Nat) (v : V), σ[i]? = some (some v) → σ'[i]? = some (some v)
section
variable {X : Cx} {pins : List (Addr × Obj)} {σ : St} {H2 : Hp} {s₂ : Shared} {names : List Str} {is : List Nat} {ns : List Str} {tg : Expr} {g : TG} {pos : Pos} {scope : Scope} {cl : List (Str × Addr)} {elt iter : Expr} {ifs : List Expr} {it : Addr} {fp : List Addr}
 {tn : Nat → Heap → Prop} {J : It} {te : TE} {tt : TT}
theorem lcG_back {C : Addr} {σ' : St} {H' : Hp} {s' : Shared} {its : List Value} {k : Nat} {acc : List V} (I : Inv X pins σ H2 s₂) (hf : ∀ b ∈ fp, FpOk X pins H2 b)
  (I' : Inv (cxC X (names ++ ns) scope cl C s₂ H2 fp) [(s₂.heap.objs.size, lObj its k)] σ' H' s') (rv : Vals acc its) (hz : acc.length ≤ sizeLine) :
  Inv X pins σ (upd H' s₂.heap.objs.size (.lst acc)) s' := by
 have pD := I'.pin (s₂.heap.objs.size, lObj its k) (by simp)
 have J1 : Inv X pins σ H' s' := I.call' (ch := fp) I'.os I'.base I'.hok I'.bare fun b hb => by
  obtain ⟨_, f1, _, f3, f4, f5⟩ := hf b hb
  exact ⟨f3, f1, f4, f5⟩
 refine J1.adopt pD.2.1 I.sz (Ne.symm (Nat.ne_of_lt I.lt)) (fun y c e z => ?_) (fun p hp z => ?_) ⟨hz, its, k, rv, pD.1⟩
 ·obtain ⟨v, q⟩ := I.cell y c e
  exact absurd q.lt (by rw [z]; exact Nat.lt_irrefl _)
 ·exact absurd (Heap.lt_size (I.pin p hp).1) (by rw [z]; exact Nat.lt_irrefl _)
theorem lcG_block {E : Value → Shared → Prop} {RR : Value → Addr → Result → Shared → Prop} {F : List V → Hp → Prop} (hcalm : X.calm = true) (hkind : scope.kind = .function) (hcell : ∀ y ∈ scope.names, y.2 ≠ .cell)
  (hcl1 : ∀ y c, cl.lookup y = some c → X.env.cells.lookup y = some c) (hcl2 : ∀ y, (y, NameKind.free) ∈ scope.names → ∃ c, cl.lookup y = some c) (hcap : Caps X scope is names)
  (I : Inv X pins σ H2 s₂) (T : Turn X.prog X.w X.K tg J fp it tn) (st : tn 0 s₂.heap) (hf : ∀ b ∈ fp, FpOk X pins H2 b)
  (hpg : ∀ C s H, PG (cxC X (names ++ ns) scope cl C s H fp) tg g) (htest : ∀ C s H, PIf (cxC X (names ++ ns) scope cl C s H fp) ifs tt) (helt : ∀ C s H, PE (cxC X (names ++ ns) scope cl C s H fp) elt te)
  (W : Nat → Nat → List V → Hp → Prop) (m0 : Nat) (w0 : W 0 m0 [] H2)
  (step : ∀ i m acc H, W i m acc H → (J.stop i H ∧ F acc H) ∨ (J.go i H ∧ acc.length < sizeLine ∧ ∃ N : List V → Hp → Prop, (∀ acc' H', N acc' H' → ∃ m', m' < m ∧ W (i + 1) m' acc' H') ∧ ∀ v H', J.yld i H v H' → g v (capS σ is ++ nones ns) H' fun σ2 H2' => ExtS (capS σ is ++ nones ns) σ2 ∧ tt σ2 H2' fun b H3 => if b = true then te σ2 H3 fun y H4 => N (acc ++ [y]) H4 else N acc H3))
  (hRR : ∀ C σ' H' s' its k acc, s₂.heap.objs.size < C → Inv (cxC X (names ++ ns) scope cl C s₂ H2 fp) [(s₂.heap.objs.size, lObj its k)] σ' H' s' → Vals acc its → acc.length ≤ sizeLine → F acc H' → RR (.ref s₂.heap.objs.size) C (.ok .next) s') :
  wpAny (model X.prog X.w) X.A (newList []) (fun acc s₃ => wpAny (model X.prog X.w) X.A (newFunctionEnv scope X.env.globals cl [] X.env.qual none .none (some X.env)) (fun cenv s₄ =>
   codeAny (model X.prog X.w) X.A (.compStart (.ListComp elt [⟨tg, iter, ifs, 0⟩] scope pos) 0 (.ref it) acc { cenv with scope := relabel scope X.env }) (RR acc cenv.locals) s₄) E s₃) E s₂ := by
 refine wpAny_newObj_type (wpAny_newFunctionEnv hcell (by intro y hy; simp at hy) (fun h₁ hns₁ hsb₁ => ?_) hkind)
 dsimp only at hns₁ hsb₁ ⊢
 generalize hH2 : s₂.heap.push { cls := .type "list", dict := none, data := .seq ([] : List Value).toArray } = G2 at hns₁ hsb₁ ⊢
 have hC : G2.objs.size = s₂.heap.objs.size + 1 := by rw [← hH2, Heap.size_push]
 have old : ∀ b o, s₂.heap.get? b = some o → h₁.get? b = some o := fun b o e => hsb₁.extBut b o (Nat.ne_of_lt (Nat.lt_of_lt_of_le (Heap.lt_size e) (by rw [hC]; exact Nat.le_succ _))) (Heap.get?_push_of_some _ (hH2 ▸ Heap.get?_push_of_some _ e))
 have hD₁ : h₁.get? s₂.heap.objs.size = some (lObj [] 0) := hsb₁.extBut _ _ (Nat.ne_of_lt (by rw [hC]; exact Nat.lt_succ_self _)) (Heap.get?_push_of_some _ (hH2 ▸ Heap.get?_push_size _ rfl))
 clear hsb₁
 generalize hCC : G2.objs.size = C at hns₁ hC ⊢
 have hDC : s₂.heap.objs.size < C := by omega
 have fpl : ∀ b ∈ fp, b < s₂.heap.objs.size := fun b hb => by
  obtain ⟨o, e, _⟩ := T.obj 0 _ st b hb
  exact Heap.lt_size e
 have clt : ∀ y c, cl.lookup y = some c → c < s₂.heap.objs.size := fun y c e => by
  obtain ⟨v, q⟩ := I.cell y c (hcl1 y c e)
  exact q.lt
 have kindEq : ∀ y, (compEnvC scope cl C X.env).kindOf y = (scope.names.lookup y).map fun k => if (k == NameKind.free && X.env.scope.kind == .function && X.env.kindOf y == some .cell) = true then NameKind.cell else k := fun y => lookup_relabel scope.names y
 have fnk : (X.env.scope.kind == ScopeKind.function) = true := by rw [I.ok.kind]; rfl
 have ok' : (cxC X (names ++ ns) scope cl C s₂ H2 fp).Ok := by
  refine ⟨I.ok.mod, hkind, I.ok.glob, I.ok.blt, Nat.le_of_lt hDC, fun y z c h1 h2 => I.ok.inj y z c (hcl1 y c h1) (hcl1 z c h2), fun y hy => ?_, fun y c h _ => (by cases h), fun _ => I.ok.hd hcalm, I.ok.frames, .inl rfl, fun b hb => ⟨?_, fun y c e => ?_⟩, I.bs, Nat.le_trans I.ok.bsz I.sz, fun b o e hb => ?_, fun b hb hz => ?_, I.stack, I.stkFree⟩
  ·have hy' : (compEnvC scope cl C X.env).kindOf y = some .cell ∨ (compEnvC scope cl C X.env).kindOf y = some .free := hy
   rw [kindEq] at hy'
   cases e : scope.names.lookup y with
   | none => rw [e] at hy'; rcases hy' with z | z <;> cases z
   | some k =>
    have hk : k = .free := by
     rw [e] at hy'
     by_cases hc : k = .free
     ·exact hc
     ·have hb : (k == NameKind.free) = false := by simpa using hc
      simp only [hb, Bool.false_and, Bool.false_eq_true, if_false, Option.map_some] at hy'
      rcases hy' with z | z
      ·have z' : k = .cell := Option.some.inj z
       exact absurd z' (hcell (y, k) (PySem.mem_of_lookup e))
      ·exact Option.some.inj z
    subst hk
    exact hcl2 y (PySem.mem_of_lookup e)
  ·exact Nat.ne_of_lt (Nat.lt_trans (fpl b hb) hDC)
  ·exact (hf b hb).2.2.2.2.1 y c (hcl1 y c e)
  ·rcases (hf b hb).2.2.2.1 with z | z
   ·exact I.ok.noex b o e z
   ·exact absurd (Nat.lt_of_lt_of_le (Heap.lt_size e) (Nat.le_trans I.ok.bsz z)) (Nat.lt_irrefl _)
  ·rcases List.mem_cons.mp (I.stkSub b hz) with z | z
   ·exact (hf b hb).2.1 z
   ·exact (hf b hb).2.2.1 z
 have nD : s₂.heap.objs.size ∉ frs X.stack := fun hz => by
  obtain ⟨_, o, ho, _⟩ := I.stack.mem hz
  exact absurd (Heap.lt_size ho) (Nat.lt_irrefl _)
 have freshD : H2 s₂.heap.objs.size = none := I.hok.fresh (Nat.le_refl _)
 have start : ∀ tk, Inv (cxC X (names ++ ns) scope cl C s₂ H2 fp) [(s₂.heap.objs.size, lObj [] 0)] (capS σ is ++ nones ns) H2 { s₂ with heap := h₁, toks := tk } := fun tk => by
  refine ⟨ok', rfl, I.bare, Un.kept old, ⟨_, hns₁, fun i y v e1 e2 e3 => ?_⟩, fun y c e => ?_, I.hok.fresh (Nat.le_of_lt hDC), fun y c e => I.freeC y c (hcl1 y c e), fun p hp => ?_, I.hok.kept old, ?_⟩
  ·have hi : i < names.length := by
    by_cases hi : i < names.length
    ·exact hi
    ·have hl : (capS σ is).length ≤ i := by
      unfold capS
      rw [List.length_map, caps_len hcap]
      omega
     rw [List.getElem?_append_right hl] at e2
     exact (nones_get e2).elim
   have hl : i < (capS σ is).length := by
    unfold capS
    rw [List.length_map, caps_len hcap]
    exact hi
   have e1' : names[i]? = some y := by
    have : (names ++ ns)[i]? = some y := e1
    rwa [List.getElem?_append_left hi] at this
   rw [List.getElem?_append_left hl] at e2
   obtain ⟨j, g1, g2, g3, g4⟩ := caps_get hcap e1' e2
   obtain ⟨m, hn, hl'⟩ := I.loc
   obtain ⟨u, ru, lk⟩ := hl' j y v g1 g2 (.inr (.inl g4))
   refine ⟨u, ru, .inr ⟨.inl ?_, ?_⟩⟩
   ·show (compEnvC scope cl C X.env).kindOf y = some .cell
    rw [kindEq, g3]
    have hk : X.env.kindOf y = some .cell := g4
    rw [hk, fnk]
    rfl
   ·obtain ⟨c, hc⟩ := hcl2 y (PySem.mem_of_lookup g3)
    refine ⟨c, hc, ?_⟩
    rcases lk with ⟨k1, _⟩ | ⟨_, c', hc', hcell'⟩
    ·have hk : X.env.kindOf y = some .cell := g4
     rw [hk] at k1
     cases k1
    ·have := hcl1 y c hc
     rw [hc'] at this
     cases this
     obtain ⟨o, ho, hd⟩ := hcell'
     exact ⟨o, old _ _ ho, hd⟩
  ·obtain ⟨v, o, ho, hd⟩ := I.cell y c (hcl1 y c e)
   exact ⟨v, o, old _ _ ho, hd⟩
  ·have hp' : p ∈ [(s₂.heap.objs.size, lObj [] 0)] := by simpa [cxC] using hp
   have e := List.mem_singleton.mp hp'
   subst e
   exact ⟨hD₁, freshD, Nat.ne_of_lt hDC, nD, fun v z => by cases z⟩
  ·show (capS σ is ++ nones ns).length = (names ++ ns).length
   unfold capS
   unfold nones
   rw [List.length_append, List.length_append, List.length_map, List.length_map, caps_len hcap]
 have stat : ∀ {H' : Hp} {its : List Value} {k : Nat}, (∀ b ∈ fp, H' b = none) → ∀ b ∈ fp, FpOk (cxC X (names ++ ns) scope cl C s₂ H2 fp) [(s₂.heap.objs.size, lObj its k)] H' b := fun {H' its k} hn b hb => by
  refine ⟨hn b hb, ?_, fun hz => ok'.exfs b hb hz, .inl hb, fun y c e => (hf b hb).2.2.2.2.1 y c (hcl1 y c e), fun p hp z => ?_⟩
  ·exact Nat.ne_of_lt (Nat.lt_trans (fpl b hb) hDC)
  ·have hp' : p ∈ [(s₂.heap.objs.size, lObj its k)] := by simpa [cxC] using hp
   have e := List.mem_singleton.mp hp'
   subst e
   exact Nat.ne_of_lt (fpl b hb) (Eq.symm z)
 have loop : ∀ s₃ : Shared, (∃ tk, s₃ = { s₂ with heap := h₁, toks := tk }) →
   codeAny (model X.prog X.w) X.A (.compLoop (.ListComp elt [⟨tg, iter, ifs, 0⟩] scope pos) 0 (.ref it) (.ref s₂.heap.objs.size) (compEnvC scope cl C X.env)) (RR (.ref s₂.heap.objs.size) C) s₃ := by
  rintro s₃ ⟨tk, rfl⟩
  refine compLoop_go (fun n s' => ∃ i acc its k H', Inv (cxC X (names ++ ns) scope cl C s₂ H2 fp) [(s₂.heap.objs.size, lObj its k)] (capS σ is ++ nones ns) H' s' ∧ tn i s'.heap ∧ (∀ b ∈ fp, H' b = none) ∧ Vals acc its ∧ acc.length ≤ sizeLine ∧ W i n acc H') ?_ m0
   ⟨0, [], [], 0, H2, start tk, T.keep _ _ _ st (fun b _ o e => old b o e), fun b hb => (hf b hb).1, .nil, Nat.zero_le _, w0⟩
  rintro n s3 ⟨i, acc, its, k, H3, I3, st3, fr3, rv, hz, w3⟩
  rcases step i n acc H3 w3 with ⟨stop, fin⟩ | ⟨go, hlt, N, hNx, more⟩
  ·refine thn (T.done (cxC X (names ++ ns) scope cl C s₂ H2 fp) rfl rfl rfl rfl i _ s3 _ H3 _ I3 (stat fr3) st3 stop) fun r s4 ⟨hr, I4⟩ => ?_
   subst hr
   exact hRR C _ H3 s4 its k acc hDC I4 rv hz fin
  ·refine thn (T.item (cxC X (names ++ ns) scope cl C s₂ H2 fp) rfl rfl rfl rfl i _ s3 _ H3 _ I3 (stat fr3) st3 go) fun r s4 ⟨u, hr, h4⟩ => ?_
   subst hr
   refine thn h4 fun _ s4' ⟨v, H5, I5, r5, y5, st5, fr5⟩ => ?_
   have I5' := I5.pinned (stat fr5) (T.obj _ _ st5)
   refine wpAny_mono (hpg C s₂ H2 _ s4' _ H5 v u _ I5' r5 (more v H5 y5)) (fun _ s6 h6 => ?_) (fun _ _ f => f.elim)
   obtain ⟨σ6, H6, I6, xt6, ev⟩ := h6
   refine wpAny_mono (htest C s₂ H2 _ s6 _ H6 _ I6 ev) (fun b s7 h7 => ?_) (fun _ _ f => f.elim)
   obtain ⟨H7, I7, q7⟩ := h7
   have again : ∀ {s8 : Shared} {H8 : Hp} {acc' : List V} {its' : List Value} {k' m' : Nat}, Inv (cxC X (names ++ ns) scope cl C s₂ H2 fp) [(s₂.heap.objs.size, lObj its' k')] σ6 H8 s8 →
     (∀ b ∈ fp, ∀ o, s4'.heap.get? b = some o → s8.heap.get? b = some o ∧ H8 b = none) → Vals acc' its' → acc'.length ≤ sizeLine → m' < n → W (i + 1) m' acc' H8 →
     ∃ m, m < n ∧ ∃ i acc its k H', Inv (cxC X (names ++ ns) scope cl C s₂ H2 fp) [(s₂.heap.objs.size, lObj its k)] (capS σ is ++ nones ns) H' s8 ∧ tn i s8.heap ∧ (∀ b ∈ fp, H' b = none) ∧ Vals acc its ∧ acc.length ≤ sizeLine ∧ W i m acc H' := by
    intro s8 H8 acc' its' k' m' I8 kp rv' hz' hm w8
    refine ⟨m', hm, i + 1, acc', its', k', H8, I8.weak xt6.1.symm xt6.2, T.keep _ _ _ st5 (fun b hb o e => (kp b hb o e).1), fun b hb => ?_, rv', hz', w8⟩
    ·obtain ⟨o, e, _⟩ := T.obj _ _ st5 b hb
     exact (kp b hb o e).2
   have pins7 : ∀ b ∈ fp, ∀ o, s4'.heap.get? b = some o → s7.heap.get? b = some o ∧ H7 b = none := fun b hb o e => by
    have q := I7.pin (b, o) (List.mem_append_right _ (List.mem_append_right _ (mem_pinsAt hb e)))
    exact ⟨q.1, q.2.1⟩
   cases b with
   | false =>
    rw [if_neg Bool.false_ne_true] at q7
    obtain ⟨m', hm, w7⟩ := hNx _ _ q7
    rw [if_neg Bool.false_ne_true]
    exact again I7.unpinned pins7 rv hz hm w7
   | true =>
    rw [if_pos rfl] at q7
    rw [if_pos rfl]
    refine wpAny_mono (helt C s₂ H2 _ s7 _ H7 _ I7 q7) (fun y s8 h8 => ?_) (fun _ _ f => f.elim)
    obtain ⟨yv, H8, I8, r8, q8⟩ := h8
    obtain ⟨m', hm, w8⟩ := hNx _ _ q8
    have pD := I8.pin (s₂.heap.objs.size, lObj its k) (List.mem_append_right _ (List.mem_append_left _ (by simp)))
    have hlen := rv.length
    refine wpAny_list_append_plain (items := its.toArray) ⟨k, pD.1⟩ (fun h' hl' sb => ?_) (by rw [List.size_toArray]; omega)
    obtain ⟨k', hk'⟩ := hl'
    have I9 : Inv (cxC X (names ++ ns) scope cl C s₂ H2 fp) [] σ6 H8 { s8 with heap := h' } :=
     (I8.pins_of (pins' := []) (fun p hp => absurd hp (by simp))).turned (t' := s8.toks) (fun b o hb e => (sb.2 b hb).trans e) pD.2.1 pD.2.2.1 (.inr (Nat.le_refl _)) (fun z c e => Nat.ne_of_lt (clt z c e)) (fun p hp => absurd (show p ∈ ([] : List (Addr × Obj)) from hp) (by simp))
    have eD : h'.get? s₂.heap.objs.size = some (lObj (its ++ [y]) k') := by
     rw [hk']
     simp
    have I10 := I9.pins_of (pins' := [(s₂.heap.objs.size, lObj (its ++ [y]) k')]) fun p hp => by
     have e := List.mem_singleton.mp hp
     subst e
     exact ⟨eD, pD.2.1, pD.2.2.1, pD.2.2.2.1, fun v z => by cases z⟩
    refine again I10 (fun b hb o e => ?_) (rv.append (.cons r8 .nil)) ?_ hm w8
    ·have q := I8.pin (b, o) (List.mem_append_right _ (List.mem_append_right _ (mem_pinsAt hb e)))
     exact ⟨(sb.2 b (Nat.ne_of_lt (fpl b hb))).trans q.1, q.2.1⟩
    ·rw [List.length_append, List.length_singleton]
     omega
 exact codeAny_compStart_list (loop _ ⟨_, rfl⟩) (T.self X.A 0 _ _ _ (T.keep _ _ _ st fun b _ o e => old b o e) (loop _ ⟨_, rfl⟩))
end
def lcOkG (scope sc : Scope) (ns names : List Str) : Bool :=
 decide (scope.kind = .function) && scope.names.all (fun p => decide (p.2 ≠ .cell)) && (scope.names.all fun p => decide (p.2 ≠ .free) || decide (sc.names.lookup p.1 = some .cell)) &&
  (scope.names.all fun p => decide (p.2 ≠ .local) || decide (scope.names.lookup p.1 = some .local)) && decide (names ++ ns).Nodup
theorem lcOkG_of {scope sc : Scope} {ns names : List Str} (h : lcOkG scope sc ns names = true) : scope.kind = .function ∧ (∀ y ∈ scope.names, y.2 ≠ .cell) ∧ (∀ y, (y, NameKind.free) ∈ scope.names → sc.names.lookup y = some .cell) ∧
  (∀ y ∈ scope.names, y.2 = .local → scope.names.lookup y.1 = some .local) ∧ (names ++ ns).Nodup := by
 unfold lcOkG at h
 simp only [Bool.and_eq_true, List.all_eq_true, Bool.or_eq_true, decide_eq_true_eq] at h
 obtain ⟨⟨⟨⟨h1, h2⟩, h3⟩, h4⟩, h6⟩ := h
 refine ⟨h1, h2, fun y hy => ?_, fun y hy e => ?_, h6⟩
 ·rcases h3 _ hy with z | z
  ·exact absurd rfl z
  ·exact z
 ·rcases h4 y hy with z | z
  ·exact absurd e z
  ·exact z
def LcGoG (J : It) (σ : St) (is : List Nat) (ns : List Str) (g : TG) (tt : TT) (te : TE) (Q : VK) (H1 : Hp) : Prop := ∃ W : Nat → Nat → List V → Hp → Prop, (∃ m, W 0 m [] H1) ∧ ∀ i m acc H, W i m acc H →
 (J.stop i H ∧ ∀ p, H p = none → Q (.ref p) (upd H p (.lst acc))) ∨
 (J.go i H ∧ acc.length < sizeLine ∧ ∃ N : List V → Hp → Prop, (∀ acc' H', N acc' H' → ∃ m', m' < m ∧ W (i + 1) m' acc' H') ∧ ∀ v H', J.yld i H v H' → g v (capS σ is ++ nones ns) H' fun σ2 H2' => ExtS (capS σ is ++ nones ns) σ2 ∧ tt σ2 H2' fun b H3 => if b = true then te σ2 H3 fun y H4 => N (acc ++ [y]) H4 else N acc H3)
def tLcG (wi : TI) (is : List Nat) (ns : List Str) (g : TG) (tt : TT) (te : TE) : TE := fun σ H Q => wi σ H fun J H1 => LcGoG J σ is ns g tt te Q H1
section
variable {X : Cx} {names ns : List Str} {is : List Nat} {tg : Expr} {pos : Pos} {scope : Scope} {elt iter : Expr} {ifs : List Expr} {te : TE} {tt : TT} {wi : TI} {g : TG}
theorem pe_lcG (sc : Scope) (is : List Nat) (names ns : List Str) (hsc : X.env.scope = sc) (hcalm : X.calm = true) (hok : lcOkG scope sc ns names = true) (hcap : Caps X scope is names)
  (hi : PI X tg iter wi) (hpg : ∀ cl C s H fp, PG (cxC X (names ++ ns) scope cl C s H fp) tg g) (htest : ∀ cl C s H fp, PIf (cxC X (names ++ ns) scope cl C s H fp) ifs tt) (helt : ∀ cl C s H fp, PE (cxC X (names ++ ns) scope cl C s H fp) elt te)
  (hs : ∀ x, foldedSetIterable iter X.env x = pure x := by intro _; rfl) : PE X (.ListComp elt [⟨tg, iter, ifs, 0⟩] scope pos) (tLcG wi is ns g tt te) := by
 intro pins s σ H Q I h
 subst hsc
 obtain ⟨hkind, hcell, hfree, hnames, hN⟩ := lcOkG_of hok
 obtain ⟨cl, hclos, hcl1, hcl2⟩ := clos_of I hfree
 rw [eval_ListComp]
 refine wpAny_comprehension_free (use := none) rfl hs hclos hkind hnames (wpAny_mono (hi pins s σ H _ I h) (fun v s1 h1 => wpAny_mono h1 (fun itv s2 h2 => ?_) fun _ _ e => e) fun _ _ e => e)
 obtain ⟨it, fp, tn, J, H2, e, I2, T, st2, f2, W, ⟨m0, w0⟩, step⟩ := h2
 subst e
 refine lcG_block (F := fun acc H' => ∀ p, H' p = none → Q (.ref p) (upd H' p (.lst acc))) (RR := fun acc C => compPost (model X.prog X.w) X.A X.xe none (EP X pins σ Q) acc C) hcalm hkind hcell hcl1 hcl2 hcap I2 T st2 f2 (fun C s H => hpg cl C s H fp) (fun C s H => htest cl C s H fp) (fun C s H => helt cl C s H fp) W m0 w0 step ?_
 intro C σ' H' s' its k acc hC I' rv hz fin
 have J1 := lcG_back I2 f2 I' rv hz
 obtain ⟨m, hn, _⟩ := I'.loc
 have hCn : upd H' s2.heap.objs.size (.lst acc) C = none := by
  rw [upd_ne (Nat.ne_of_gt hC)]
  exact I'.free
 refine ⟨m, hn, fun h' sb => ?_⟩
 exact ⟨.ref s2.heap.objs.size, _, J1.behind I2 hC hCn sb, rfl, fin _ (I'.pin (s2.heap.objs.size, lObj its k) (by simp)).2.1⟩
end
section
variable {X : Cx} {elts : List Expr} {x1 : Nat} {pt : Pos}
def iZip (K : PySem.W.Frag) (ta : TA) : TI := fun σ H R => ta σ H fun vs H1 => ∃ a xs l, vs = [.ref a, .str (S l)] ∧ SqL K H1 a xs ∧ Ascii l ∧ R (Itz K a xs.length l) H1
theorem boot_zip_ : bootBuiltins "zip" = some (.type "zip") := by decide +kernel
theorem pi_zip {e1 e2 : Expr} {ta : TA} {p pos : Pos} (hg : Gl X "zip") (hm : X.mg "zip" = none) (ha : PA X [e1, e2] ta) (hs : starEach [e1, e2] X.env = [(false, eval e1 X.env), (false, eval e2 X.env)] := by rfl) (hs2 : starEach [e2] X.env = [(false, eval e2 X.env)] := by rfl) :
  PI X (.Tuple elts x1 pt) (.Call (.Name "zip" p) [e1, e2] [] pos) (iZip X.K ta) := by
 intro pins s σ H R I h
 refine Call_ (ld_blt I hg hm boot_zip_ (PyProof.Rows.callWith_type1 (thn (ha pos pins s σ H _ I h) fun us s1 ⟨vs, H1, I1, r1, q1⟩ => ?_) (by rw [hs, hs2]) (by rw [hs2]; rfl)))
 obtain ⟨a, xs, l, e, hq, hl, q⟩ := q1
 subst e
 cases r1 with
 | cons r rr =>
  cases rr with
  | cons r' rr =>
   cases rr
   cases r
   obtain ⟨ty, rfl⟩ := r'
   obtain ⟨its, rv, pl, hz⟩ := I1.list hq
   have hasc : (S l).cps.all (fun c => decide (c < 128)) = true := by
    rw [Array.all_eq_true']
    intro c hc
    have : c ∈ l := by simpa [S] using hc
    exact decide_eq_true (hl c this)
   refine zs_call pl.isList hasc fun g5 g3 g4 g1 g2 old => ?_
   have I2 : Inv X pins σ H1 { s1 with heap := zsH s1.heap a (S l) ty } := I1.kept (t' := s1.toks) old
   refine wpAny_pyIter_zip (s := { s1 with heap := zsH s1.heap a (S l) ty }) g5 ?_
   refine ⟨s1.heap.objs.size + 4, [s1.heap.objs.size + 4, s1.heap.objs.size + 2, s1.heap.objs.size + 3, s1.heap.objs.size, s1.heap.objs.size + 1], _, _, H1, rfl, I2, turn_zip a _ _ _ _ _ xs.length l ty (by refine ⟨?_, ?_, ?_, ?_, ?_, ?_, ?_, ?_, ?_, ?_⟩ <;> exact fun z => by have z' : (_ : Nat) = _ := z; omega), ⟨g5, g3, ⟨_, _, g4⟩, g1, g2⟩, fun b hb => ?_, q⟩
   have hb' : s1.heap.objs.size ≤ b := by
    simp only [List.mem_cons, List.not_mem_nil, or_false] at hb
    rcases hb with e | e | e | e | e <;> (rw [e]; first | exact Nat.le_refl _ | exact Nat.le_add_right _ _)
   exact I1.fpOk hb' (I1.hok.fresh hb')
end
section
variable {K : PySem.W.Frag} {σ : St} {is : List Nat} {ns : List Str} {g : TG} {tt : TT} {te : TE} {Q : VK} {H : Hp}
theorem lc_zip {a : Addr} {xs : List V} {l : List Nat} (Pv : Nat → List V → Hp → Prop) (hn : xs.length ≤ 1000000) (h0 : Pv 0 [] H) (hb : ∀ i acc H, Pv i acc H → acc.length ≤ i) (hl : ∀ i acc H, i ≤ xs.length → Pv i acc H → SqL K H a xs)
  (hs : ∀ i x c p acc H, xs[i]? = some x → l[i]? = some c → H p = none → Pv i acc H → g (.ref p) (capS σ is ++ nones ns) (upd H p (.tup [x, .str (S [c])])) fun σ2 H2' => ExtS (capS σ is ++ nones ns) σ2 ∧ tt σ2 H2' fun b H3 => if b = true then te σ2 H3 fun y H4 => Pv (i + 1) (acc ++ [y]) H4 else Pv (i + 1) acc H3)
  (hd : ∀ acc H, Pv (min xs.length l.length) acc H → ∀ p, H p = none → Q (.ref p) (upd H p (.lst acc))) :
  LcGoG (Itz K a xs.length l) σ is ns g tt te Q H := by
 refine ⟨fun i m acc H => m = xs.length - i ∧ i ≤ xs.length ∧ i ≤ l.length ∧ Pv i acc H, ⟨xs.length, by simp, Nat.zero_le _, Nat.zero_le _, h0⟩, ?_⟩
 rintro i m acc H ⟨rfl, hi, hil, p⟩
 have q := hl i acc H hi p
 by_cases hlt : i < xs.length ∧ i < l.length
 ·refine .inr ⟨⟨⟨xs, q, rfl⟩, hlt⟩, ?_, Pv (i + 1), fun acc' H' p' => ⟨xs.length - (i + 1), by omega, rfl, hlt.1, hlt.2, p'⟩, fun v H' y => ?_⟩
  ·have := hb i acc H p
   have := sizeLine_eq
   omega
  ·obtain ⟨r, c, hr, rfl, hc, x, hx, rfl⟩ := y
   exact hs i x c r acc H (hx xs q) hc hr p
 ·have e : i = min xs.length l.length := by omega
  subst e
  exact .inl ⟨⟨⟨xs, q, rfl⟩, by omega⟩, hd acc H p⟩
end
theorem pg_tupK {X : Cx} {es : List Expr} {k : Nat} {t : TGs} {pos : Pos} (K : PySem.W.Frag) (hK : X.K = K) (n : Nat) (hc : X.calm = true) (h : PGs X es t)
  (hn : (assignEach es X.env).length = n := by rfl) (hst : (assignEach es X.env).findIdx? (·.1) = none := by rfl) : PG X (.Tuple es k pos) (gTup K n t) := by
 subst hK
 exact pg_tup hc h hn hst
end L2
set_option maxHeartbeats 4000000
namespace L2
open PySem PySem.Spec PyProof.Rows
section
variable {X : Cx}
theorem call_list_dict (hc : X.calm = true) : CallR X (.type "list") (fun xs H Q => ∃ (d : Addr) (kvs : List (Key × V)), xs = [.ref d] ∧ H d = some (.dK kvs) ∧ ∀ q, H q = none → Q (.ref q) (upd H q (.lst (kvs.map fun kv => kV kv.1)))) := by
 intro pins s σ H xs us Q I r h
 obtain ⟨d, kvs, rfl, hd, k⟩ := h
 obtain ⟨u, rfl, ru⟩ := vals1 r
 cases ru
 obtain ⟨z, hsy, vs, rk, dd⟩ := dk_of I.hok hd
 obtain ⟨ep, da⟩ := dd.dictAt
 have hl := KV.length rk
 refine PySem.W.kdl_call (PySem.W.kdl_dict hsy) (I.ok.hd hc) da (by rw [← hl]; exact z) fun h' tk acc c keep at_ its => ?_
 have hv := vals_keys rk its
 have hf : H s.heap.objs.size = none := I.hok.fresh (Nat.le_refl _)
 exact ⟨.ref s.heap.objs.size, _, I.laid (t' := tk) (o := .lst (kvs.map fun kv => kV kv.1)) keep (Nat.le_refl _) ⟨by rw [List.length_map]; exact z, acc.toList, c, hv, by rw [at_]⟩, rfl, k _ hf⟩
def rEqA (K : PySem.W.Frag) : R2 := fun x y H Q => rEq x y H Q ∨ ∃ p q ls, x = .ref p ∧ y = .ref q ∧ SqL K H p (List.map sv ls) ∧ SqL K H q (List.map sv ls) ∧ Q (.bl true) H
theorem op_eqA (hu : X.A.units < cLine) : OpR X (compareOp .Eq) (rEqA X.K) := by
 intro pins s σ H x y v u Q I rx ry h
 rcases h with h | ⟨p, q, ls, rfl, rfl, hp, hq, k⟩
 ·exact op_eq pins s σ H x y v u Q I rx ry h
 ·cases rx
  cases ry
  obtain ⟨i1, r1, l1, z1⟩ := I.list hp
  obtain ⟨i2, r2, l2, z2⟩ := I.list hq
  have e1 := r1.length
  have e2 := r2.length
  rw [List.length_map] at e1 e2
  refine SeqAt.eq_listAt (e := fun _ => true) l1.isList l2.isList (by simp; omega) hu (fun j h1 h2 => ?_) ⟨.bl true, H, I, ?_, k⟩
  ·have hj : j < ls.length := by
    have : j < i1.length := by simpa using h1
    omega
   have hx : (ls.map sv)[j]? = some (sv ls[j]) := by rw [List.getElem?_map, List.getElem?_eq_getElem hj]; rfl
   obtain ⟨u1, hu1, t1, q1⟩ := r1.get hx
   obtain ⟨u2, hu2, t2, q2⟩ := r2.get hx
   have a1 : i1.toArray[j] = Value.str (S ls[j]) t1 := by
    have : i1[j]? = some (Value.str (S ls[j]) t1) := by rw [hu1, q1]
    obtain ⟨_, e⟩ := List.getElem?_eq_some_iff.mp this
    simpa using e
   have a2 : i2.toArray[j] = Value.str (S ls[j]) t2 := by
    have : i2[j]? = some (Value.str (S ls[j]) t2) := by rw [hu2, q2]
    obtain ⟨_, e⟩ := List.getElem?_eq_some_iff.mp this
    simpa using e
   rw [a1, a2]
   have := SeqAt.EqAt.str_str (A := X.A.in1) (s := s) (S ls[j]) t1 (S ls[j]) t2
   rwa [beq_self_eq_true] at this
  ·show _ = Value.bool true
   congr 1
   rw [List.all_eq_true]
   intro _ _
   rfl
end
end L2
set_option maxHeartbeats 4000000
namespace WH
open PySem L2
structure Tw where
 p : Addr
 d : Addr
 x : Addr
abbrev NM := List Nat → Option Tw
def A (N : NM) (t : List Nat) : V := match N t with
 | some y => .ref y.p
 | none => .non
theorem A_some {N : NM} {t : List Nat} {y : Tw} (h : N t = some y) : A N t = .ref y.p := by
 unfold A
 rw [h]
theorem A_none {N : NM} {t : List Nat} (h : N t = none) : A N t = .non := by
 unfold A
 rw [h]
def key (c : Nat) : Key := Sum.inr (S [c])
theorem key_inj1 {a b : Nat} (h : key a = key b) : a = b := by
 have := S_inj (Sum.inr.inj h)
 simpa using this
def kv (N : NM) (t : List Nat) (ks : List Nat) : List (Key × V) := ks.map fun c => (key c, A N (t ++ [c]))
theorem kv_len (N : NM) (t : List Nat) (ks : List Nat) : (kv N t ks).length = ks.length := List.length_map ..
theorem kv_get {N : NM} {t : List Nat} {ks : List Nat} {i : Nat} {q : Key × V} (h : (kv N t ks)[i]? = some q) : ∃ c, ks[i]? = some c ∧ q = (key c, A N (t ++ [c])) := by
 unfold kv at h
 rw [List.getElem?_map] at h
 cases e : ks[i]? with
 | none => rw [e] at h; cases h
 | some c => rw [e] at h; exact ⟨c, rfl, (Option.some.inj h).symm⟩
theorem kv_congr {N N' : NM} {t : List Nat} {ks : List Nat} (h : ∀ c ∈ ks, A N (t ++ [c]) = A N' (t ++ [c])) : kv N t ks = kv N' t ks := List.map_congr_left fun c hc => by rw [h c hc]
theorem valV_kv (N : NM) (t : List Nat) (c : Nat) : ∀ ks : List Nat, valV (kv N t ks) (key c) = if c ∈ ks then some (A N (t ++ [c])) else none
 | [] => rfl
 | a :: ks => by
  show valV ((key a, A N (t ++ [a])) :: kv N t ks) (key c) = _
  by_cases e : a = c
  ·subst e
   rw [valV_pos rfl, if_pos (List.mem_cons_self ..)]
  ·rw [valV_neg (fun z => e (key_inj1 z)), valV_kv N t c ks]
   by_cases m : c ∈ ks
   ·rw [if_pos m, if_pos (List.mem_cons_of_mem _ m)]
   ·rw [if_neg m, if_neg fun z => (List.mem_cons.mp z).elim (fun y => e y.symm) m]
theorem kv_put {N : NM} {t : List Nat} {ks : List Nat} {c : Nat} (h : c ∉ ks) (v : V) : putK (kv N t ks) (key c) v = kv N t ks ++ [(key c, v)] := putK_new v (by rw [valV_kv, if_neg h])
theorem putF_here {x : Str} {v y : V} {r : List (Str × V)} : putF x y ((x, v) :: r) = (x, y) :: r := by
 unfold putF
 rw [if_pos rfl]
theorem putF_there {x n : Str} {v y : V} {r : List (Str × V)} (h : ¬ n = x) : putF x y ((n, v) :: r) = (n, v) :: putF x y r := by
 rw [putF, if_neg h]
def flds (t : List Nat) (h : Bool) (m : Nat) (d : Addr) : List (Str × V) := [("text", sv t), ("here", .bl h), ("many", .int (m : Int)), ("longer", .ref d)]
theorem n_th : ¬ (("text" : Str) = "here") := by decide +kernel
theorem n_tm : ¬ (("text" : Str) = "many") := by decide +kernel
theorem n_tl : ¬ (("text" : Str) = "longer") := by decide +kernel
theorem n_hm : ¬ (("here" : Str) = "many") := by decide +kernel
theorem n_hl : ¬ (("here" : Str) = "longer") := by decide +kernel
theorem n_ml : ¬ (("many" : Str) = "longer") := by decide +kernel
section
variable (t : List Nat) (h : Bool) (m : Nat) (d : Addr)
theorem f_text : (flds t h m d).lookup ("text" : Str) = some (sv t) := look_here
theorem f_here : (flds t h m d).lookup ("here" : Str) = some (.bl h) := (look_there (Ne.symm n_th)).trans look_here
theorem f_many : (flds t h m d).lookup ("many" : Str) = some (.int (m : Int)) := (look_there (Ne.symm n_tm)).trans ((look_there (Ne.symm n_hm)).trans look_here)
theorem f_longer : (flds t h m d).lookup ("longer" : Str) = some (.ref d) := (look_there (Ne.symm n_tl)).trans ((look_there (Ne.symm n_hl)).trans ((look_there (Ne.symm n_ml)).trans look_here))
theorem f_no {n : Str} (h1 : n ≠ "text") (h2 : n ≠ "here") (h3 : n ≠ "many") (h4 : n ≠ "longer") : (flds t h m d).lookup n = none := (look_there h1).trans ((look_there h2).trans ((look_there h3).trans ((look_there h4).trans rfl)))
theorem p_here (b : Bool) : putF "here" (.bl b) (flds t h m d) = flds t b m d := by
 unfold flds
 rw [putF_there n_th, putF_here]
theorem p_many (k : Nat) : putF "many" (.int (k : Int)) (flds t h m d) = flds t h k d := by
 unfold flds
 rw [putF_there n_tm, putF_there n_hm, putF_here]
theorem p_longer (e : Addr) : putF "longer" (.ref e) (flds t h m d) = flds t h m e := by
 unfold flds
 rw [putF_there n_tl, putF_there n_hl, putF_there n_ml, putF_here]
theorem f_made : putF "longer" (.ref d) (putF "many" (.int 0) (putF "here" (.bl false) (putF "text" (sv t) []))) = flds t false 0 d := by
 show putF "longer" (.ref d) (putF "many" (.int 0) (putF "here" (.bl false) [("text", sv t)])) = _
 rw [putF_there n_th]
 show putF "longer" (.ref d) (putF "many" (.int 0) [("text", sv t), ("here", .bl false)]) = _
 rw [putF_there n_tm, putF_there n_hm]
 show putF "longer" (.ref d) [("text", sv t), ("here", .bl false), ("many", .int 0)] = _
 rw [putF_there n_tl, putF_there n_hl, putF_there n_ml]
 rfl
end
theorem flds_inj {t t' : List Nat} {h h' : Bool} {m m' : Nat} {d d' : Addr} (e : flds t h m d = flds t' h' m' d') : t = t' := by
 unfold flds at e
 have e1 := (List.cons.inj e).1
 have e2 : sv t = sv t' := (Prod.mk.inj e1).2
 have e3 : S t = S t' := by injection e2
 exact S_inj e3
def Kp (Z : Addr → Prop) (H H' : Hp) : Prop := ∀ b o, H b = some o → (Z b → (∃ xs, o = .lst xs) ∨ ∃ xs, o = .tup xs) → H' b = some o
theorem Kp.refl (Z : Addr → Prop) (H : Hp) : Kp Z H H := fun _ _ e _ => e
theorem Kp.trans {Z : Addr → Prop} {H H1 H2 : Hp} (a : Kp Z H H1) (b : Kp Z H1 H2) : Kp Z H H2 := fun c o e n => b c o (a c o e n) n
theorem Kp.same {Z : Addr → Prop} {H H' : Hp} (s : Same H H') : Kp Z H H' := fun c o e _ => s c o e
theorem Kp.lst {Z : Addr → Prop} {H H' : Hp} (k : Kp Z H H') {a : Addr} {xs : List V} (e : H a = some (.lst xs)) : H' a = some (.lst xs) := k _ _ e fun _ => .inl ⟨_, rfl⟩
theorem Kp.tup {Z : Addr → Prop} {H H' : Hp} (k : Kp Z H H') {a : Addr} {xs : List V} (e : H a = some (.tup xs)) : H' a = some (.tup xs) := k _ _ e fun _ => .inr ⟨_, rfl⟩
theorem Kp.zone {Z : Addr → Prop} {H H' : Hp} (k : Kp Z H H') (hz : ∀ b, H b = none → Z b) : ∀ b, H' b = none → Z b := fun b e => by
 cases q : H b with
 | none => exact hz b q
 | some o =>
  refine Classical.byContradiction fun n => ?_
  have := k b o q fun z => absurd z n
  rw [e] at this
  cases this
theorem Kp.but {Z : Addr → Prop} {H H' : Hp} {p : Addr} {u : HO} (e : H p = some u) (hp : Z p) (n1 : ∀ xs, u ≠ .lst xs) (n2 : ∀ xs, u ≠ .tup xs) (k : ∀ b o, H b = some o → b ≠ p → H' b = some o) : Kp Z H H' := fun b o q n => by
 refine k b o q ?_
 rintro rfl
 rw [e] at q
 cases q
 rcases n hp with ⟨xs, z⟩ | ⟨xs, z⟩
 ·exact n1 xs z
 ·exact n2 xs z
def setN {α : Type} (N : List Nat → α) (u : List Nat) (z : α) : List Nat → α := fun v => if v = u then z else N v
theorem setN_at {α : Type} (N : List Nat → α) (u : List Nat) (z : α) : setN N u z u = z := if_pos rfl
theorem setN_ne {α : Type} (N : List Nat → α) {u v : List Nat} (z : α) (h : v ≠ u) : setN N u z v = N v := if_neg h
theorem ext_ne (u : List Nat) (c : Nat) : u ++ [c] ≠ u := fun h => by
 have := congrArg List.length h
 simp at this
theorem ext_inj {u v : List Nat} {c e : Nat} (h : u ++ [c] = v ++ [e]) : u = v ∧ c = e := by
 have := List.append_inj' h rfl
 exact ⟨this.1, by simpa using this.2⟩
structure HedAt (C CH : Addr) (Z : Addr → Prop) (H : Hp) (g : Addr) (N : NM) (hr : List Nat → Bool) (mn : List Nat → Nat) : Prop where
 gt : ∃ dg y, H g = some (.ins CH dg [("root", .ref y.p)]) ∧ N [] = some y
 tw : ∀ t y, N t = some y → H y.p = some (.ins C y.x (flds t (hr t) (mn t) y.d)) ∧ Z y.p ∧ Z y.d ∧ ∃ ks : List Nat, H y.d = some (.dK (kv N t ks)) ∧ ks.Nodup ∧ ∀ c, c ∈ ks ↔ (N (t ++ [c])).isSome = true
 inj : ∀ t t' y y', N t = some y → N t' = some y' → y.d = y'.d → t = t'
 dom : Dom (fun t => (N t).isSome) 110
section
variable {C CH : Addr} {Z : Addr → Prop} {H H' : Hp} {g : Addr} {N : NM} {hr : List Nat → Bool} {mn : List Nat → Nat} {t : List Nat} {y : Tw}
theorem HedAt.same (h : HedAt C CH Z H g N hr mn) (s : Same H H') : HedAt C CH Z H' g N hr mn where
 gt := let ⟨dg, y, e, n⟩ := h.gt; ⟨dg, y, s _ _ e, n⟩
 tw := fun t y e => let ⟨a, b, c, ks, d, f⟩ := h.tw t y e; ⟨s _ _ a, b, c, ks, s _ _ d, f⟩
 inj := h.inj
 dom := h.dom
theorem HedAt.perm (h : HedAt C CH Z H g N hr mn) {ks : List Nat} (nd : ks.Nodup) (m : ∀ c, c ∈ ks ↔ (N (t ++ [c])).isSome = true) : ks.Perm (kidsL (fun t => (N t).isSome) t) :=
 (List.perm_ext_iff_of_nodup nd (kids_nodup _ _)).mpr fun c => by
  rw [mem_kids, m]
  exact ⟨fun z => ⟨h.dom.let_ t c z, z⟩, fun z => z.2⟩
theorem kids_le (ex : List Nat → Bool) (t : List Nat) : (kidsL ex t).length ≤ 26 := by
 have := List.length_filter_le (fun c => ex (t ++ [c])) (List.range' 97 26)
 simpa [kidsL] using this
theorem HedAt.few (h : HedAt C CH Z H g N hr mn) {ks : List Nat} (nd : ks.Nodup) (m : ∀ c, c ∈ ks ↔ (N (t ++ [c])).isSome = true) : ks.length ≤ 26 := by
 rw [(h.perm nd m).length_eq]
 exact kids_le _ _
theorem HedAt.gne (h : HedAt C CH Z H g N hr mn) (ht : N t = some y) : g ≠ y.p := by
 obtain ⟨dg, y0, e, _⟩ := h.gt
 have e2 := (h.tw t y ht).1
 intro z
 rw [z, e2] at e
 have e3 := HO.ins.inj (Option.some.inj e)
 have := congrArg List.length e3.2.2
 simp [flds] at this
theorem HedAt.pne (h : HedAt C CH Z H g N hr mn) {t' : List Nat} {y' : Tw} (ht : N t = some y) (ht' : N t' = some y') (n : t' ≠ t) : y'.p ≠ y.p := by
 have e1 := (h.tw t y ht).1
 have e2 := (h.tw t' y' ht').1
 intro z
 rw [z, e1] at e2
 have e3 := HO.ins.inj (Option.some.inj e2)
 exact n (flds_inj e3.2.2).symm
theorem HedAt.dne (h : HedAt C CH Z H g N hr mn) {t' : List Nat} {y' : Tw} (ht : N t = some y) (ht' : N t' = some y') : y'.d ≠ y.p := by
 have e1 := (h.tw t y ht).1
 obtain ⟨_, _, _, ks, e2, _⟩ := h.tw t' y' ht'
 intro z
 rw [z, e1] at e2
 cases e2
theorem HedAt.grow (h : HedAt C CH Z H g N hr mn) {c : Nat} {z : Tw} {ks : List Nat} (ht : N t = some y) (hc : 97 ≤ c ∧ c ≤ 122) (hl : t.length < 110) (hn : N (t ++ [c]) = none)
  (hk : H y.d = some (.dK (kv N t ks))) (nd : ks.Nodup) (hm : ∀ c, c ∈ ks ↔ (N (t ++ [c])).isSome = true)
  (h1 : H' z.p = some (.ins C z.x (flds (t ++ [c]) false 0 z.d))) (h2 : H' z.d = some (.dK [])) (h3 : H' y.d = some (.dK (putK (kv N t ks) (key c) (.ref z.p)))) (kp : ∀ b o, H b = some o → b ≠ y.d → H' b = some o) (z1 : Z z.p) (z2 : Z z.d) (zn : H z.d = none) :
  HedAt C CH Z H' g (setN N (t ++ [c]) (some z)) (setN hr (t ++ [c]) false) (setN mn (t ++ [c]) 0) := by
 have hcn : c ∉ ks := fun q => by
  have := (hm c).mp q
  rw [hn] at this
  cases this
 have yd := (h.tw t y ht).1
 have up : ∀ v e, N (v ++ [e]) ≠ none → N v ≠ none := fun v e q r => by
  have := h.dom.up v e (by cases s : N (v ++ [e]) with | none => exact absurd s q | some _ => rfl)
  rw [r] at this
  cases this
 refine ⟨?_, fun v w hv => ?_, fun v v' w w' hv hv' e => ?_, ⟨fun u e q => ?_, fun u e q => ?_, fun u q => ?_⟩⟩
 ·obtain ⟨dg, y0, e, n⟩ := h.gt
  refine ⟨dg, y0, kp _ _ e (ne_of e hk (by intro q; cases q)), ?_⟩
  rw [setN_ne _ _ (by simp)]
  exact n
 ·by_cases e : v = t ++ [c]
  ·subst e
   rw [setN_at] at hv
   cases hv
   rw [setN_at, setN_at]
   refine ⟨h1, z1, z2, [], h2, List.nodup_nil, fun e => ?_⟩
   rw [setN_ne _ _ (fun q => ext_ne _ _ q)]
   have : N (t ++ [c] ++ [e]) = none := by
    cases s : N (t ++ [c] ++ [e]) with
    | none => rfl
    | some _ => exact absurd hn (up _ e (by rw [s]; exact fun q => nomatch q))
   rw [this]
   simp
  ·rw [setN_ne _ _ e] at hv
   rw [setN_ne _ _ e, setN_ne _ _ e]
   obtain ⟨a1, a2, a3, ks', a4, a5, a6⟩ := h.tw v w hv
   have np : w.p ≠ y.d := ne_of a1 hk (by intro q; cases q)
   by_cases e2 : v = t
   ·subst e2
    rw [ht] at hv
    cases hv
    rw [hk] at a4
    refine ⟨kp _ _ a1 np, a2, a3, ks ++ [c], ?_, ?_, fun e => ?_⟩
    ·rw [h3, kv_put hcn]
     show _ = some (HO.dK ((ks ++ [c]).map _))
     rw [List.map_append]
     show some (HO.dK (kv N v ks ++ [(key c, V.ref z.p)])) = some (HO.dK (kv (setN N (v ++ [c]) (some z)) v ks ++ [(key c, A (setN N (v ++ [c]) (some z)) (v ++ [c]))]))
     rw [A_some (setN_at N (v ++ [c]) (some z))]
     rw [kv_congr (N' := setN N (v ++ [c]) (some z)) fun e he => by
      unfold A
      rw [setN_ne N (some z) (show v ++ [e] ≠ v ++ [c] from fun q => hcn (by rw [← (ext_inj q).2]; exact he))]]
    ·rw [List.nodup_append]
     refine ⟨nd, by simp, fun a ha b hb => ?_⟩
     rw [List.mem_singleton.mp hb]
     rintro rfl
     exact hcn ha
    ·rw [List.mem_append, List.mem_singleton]
     by_cases e3 : e = c
     ·subst e3
      rw [setN_at]
      simp
     ·rw [setN_ne _ _ (fun q => e3 (ext_inj q).2), hm e]
      exact ⟨fun z => z.elim id fun z => absurd z e3, .inl⟩
   ·have nd' : w.d ≠ y.d := fun q => e2 (h.inj v t w y hv ht q)
    refine ⟨kp _ _ a1 np, a2, a3, ks', ?_, a5, fun e => ?_⟩
    ·rw [kp _ _ a4 nd']
     rw [kv_congr (N' := setN N (t ++ [c]) (some z)) fun e he => by
      unfold A
      rw [setN_ne N (some z) (show v ++ [e] ≠ t ++ [c] from fun q => e2 (ext_inj q).1)]]
    ·rw [setN_ne _ _ (fun q => e2 (ext_inj q).1)]
     exact a6 e
 ·by_cases e1 : v = t ++ [c]
  ·by_cases e2 : v' = t ++ [c]
   ·rw [e1, e2]
   ·subst e1
    rw [setN_at] at hv
    rw [setN_ne _ _ e2] at hv'
    cases hv
    obtain ⟨_, _, _, ks', a4, _⟩ := h.tw v' w' hv'
    rw [← e, zn] at a4
    cases a4
  ·rw [setN_ne _ _ e1] at hv
   by_cases e2 : v' = t ++ [c]
   ·subst e2
    rw [setN_at] at hv'
    cases hv'
    obtain ⟨_, _, _, ks', a4, _⟩ := h.tw v w hv
    rw [e, zn] at a4
    cases a4
   ·rw [setN_ne _ _ e2] at hv'
    exact h.inj v v' w w' hv hv' e
 ·by_cases e1 : u = t ++ [c]
  ·show (setN N (t ++ [c]) (some z) u).isSome = true
   rw [e1, setN_at]
   rfl
  ·show (setN N (t ++ [c]) (some z) u).isSome = true
   rw [setN_ne _ _ e1]
   by_cases e2 : u ++ [e] = t ++ [c]
   ·rw [(ext_inj e2).1, ht]
    rfl
   ·have q' : (setN N (t ++ [c]) (some z) (u ++ [e])).isSome = true := q
    rw [setN_ne _ _ e2] at q'
    exact h.dom.up u e q'
 ·by_cases e2 : u ++ [e] = t ++ [c]
  ·rw [(ext_inj e2).2]
   exact hc
  ·have q' : (setN N (t ++ [c]) (some z) (u ++ [e])).isSome = true := q
   rw [setN_ne _ _ e2] at q'
   exact h.dom.let_ u e q'
 ·by_cases e1 : u = t ++ [c]
  ·rw [e1, List.length_append]
   simp
   omega
  ·have q' : (setN N (t ++ [c]) (some z) u).isSome = true := q
   rw [setN_ne _ _ e1] at q'
   exact h.dom.len u q'
theorem HedAt.mark (h : HedAt C CH Z H g N hr mn) {b : Bool} {m : Nat} (ht : N t = some y) : HedAt C CH Z (upd H y.p (.ins C y.x (flds t b m y.d))) g N (setN hr t b) (setN mn t m) := by
 have yd := (h.tw t y ht).1
 refine ⟨?_, fun v w hv => ?_, h.inj, h.dom⟩
 ·obtain ⟨dg, y0, e, n⟩ := h.gt
  exact ⟨dg, y0, by rw [upd_ne (h.gne ht)]; exact e, n⟩
 ·obtain ⟨a1, a2, a3, ks', a4, a5⟩ := h.tw v w hv
  refine ⟨?_, a2, a3, ks', by rw [upd_ne (h.dne ht hv)]; exact a4, a5⟩
  by_cases e : v = t
  ·subst e
   rw [ht] at hv
   cases hv
   rw [setN_at, setN_at, upd_same]
  ·rw [setN_ne _ _ e, setN_ne _ _ e, upd_ne (h.pne ht hv e)]
   exact a1
def dropN (N : NM) (t : List Nat) (mn : List Nat → Nat) (z : Tw) : NM := fun v => if v = t then some z else if v.dropLast = t ∧ v ≠ [] ∧ mn v = 0 then none else N v
theorem dropN_at (N : NM) (t : List Nat) (mn : List Nat → Nat) (z : Tw) : dropN N t mn z t = some z := if_pos rfl
theorem dropN_kid (N : NM) (t : List Nat) (mn : List Nat → Nat) (z : Tw) (c : Nat) : dropN N t mn z (t ++ [c]) = if mn (t ++ [c]) = 0 then none else N (t ++ [c]) := by
 unfold dropN
 rw [if_neg (ext_ne t c)]
 by_cases e : mn (t ++ [c]) = 0
 ·rw [if_pos e, if_pos ⟨by simp, by simp, e⟩]
 ·rw [if_neg e, if_neg fun q => e q.2.2]
theorem dropN_else (N : NM) (t : List Nat) (mn : List Nat → Nat) (z : Tw) {v : List Nat} (h1 : v ≠ t) (h2 : ∀ c, v ≠ t ++ [c]) : dropN N t mn z v = N v := by
 unfold dropN
 rw [if_neg h1, if_neg]
 rintro ⟨q1, q2, _⟩
 refine h2 (v.getLast q2) ?_
 rw [← q1]
 exact (List.dropLast_concat_getLast q2).symm
theorem dropN_some {N : NM} {mn : List Nat → Nat} {z w : Tw} {v : List Nat} (h : dropN N t mn z v = some w) : (v = t ∧ w = z) ∨ (v ≠ t ∧ N v = some w ∧ ∀ c, v = t ++ [c] → mn v ≠ 0) := by
 by_cases e : v = t
 ·subst e
  rw [dropN_at] at h
  exact .inl ⟨rfl, (Option.some.inj h).symm⟩
 ·right
  by_cases k : ∃ c, v = t ++ [c]
  ·obtain ⟨c, rfl⟩ := k
   rw [dropN_kid] at h
   by_cases e2 : mn (t ++ [c]) = 0
   ·rw [if_pos e2] at h
    cases h
   ·rw [if_neg e2] at h
    exact ⟨e, h, fun _ _ => e2⟩
  ·rw [dropN_else N t mn z e fun c q => k ⟨c, q⟩] at h
   exact ⟨e, h, fun c q => absurd ⟨c, q⟩ k⟩
theorem HedAt.settle (h : HedAt C CH Z H g N hr mn) {d' : Addr} {ks : List Nat} {m : Nat} (ht : N t = some y) (hk : H y.d = some (.dK (kv N t ks))) (nd : ks.Nodup) (hm : ∀ c, c ∈ ks ↔ (N (t ++ [c])).isSome = true)
  (h1 : H' y.p = some (.ins C y.x (flds t (hr t) m d'))) (h2 : H' d' = some (.dK (kv N t (ks.filter fun c => decide (0 < mn (t ++ [c])))))) (kp : ∀ b o, H b = some o → b ≠ y.p → H' b = some o) (zd : Z d') (dn : H d' = none)
  (hno : ∀ c, (N (t ++ [c])).isSome = true → mn (t ++ [c]) = 0 → ∀ e, N (t ++ [c] ++ [e]) = none) :
  HedAt C CH Z H' g (dropN N t mn { y with d := d' }) hr (setN mn t m) := by
 have yd := h.tw t y ht
 have same : ∀ v, (∀ c, v ≠ t ++ [c]) → A (dropN N t mn { y with d := d' }) v = A N v := fun v hv => by
  by_cases e : v = t
  ·subst e
   rw [A_some (dropN_at ..), A_some ht]
  ·unfold A
   rw [dropN_else N t mn _ e hv]
 refine ⟨?_, fun v w hv => ?_, fun v v' w w' hv hv' e => ?_, ⟨fun u e q => ?_, fun u e q => ?_, fun u q => ?_⟩⟩
 ·obtain ⟨dg, y0, e, n⟩ := h.gt
  by_cases e0 : t = []
  ·subst e0
   rw [ht] at n
   cases n
   exact ⟨dg, { y with d := d' }, kp _ _ e (h.gne ht), dropN_at ..⟩
  ·refine ⟨dg, y0, kp _ _ e (h.gne ht), ?_⟩
   rw [dropN_else N t mn _ (fun q => e0 q.symm) (by simp)]
   exact n
 ·rcases dropN_some hv with ⟨rfl, rfl⟩ | ⟨e, hv', hz⟩
  ·rw [setN_at]
   refine ⟨h1, yd.2.1, zd, ks.filter fun c => decide (0 < mn (v ++ [c])), ?_, nd.filter _, fun c => ?_⟩
   ·rw [h2]
    rw [kv_congr (N' := dropN N v mn { y with d := d' }) fun c hc => by
     have hc' := of_decide_eq_true (List.mem_filter.mp hc).2
     unfold A
     rw [dropN_kid, if_neg (by omega)]]
   ·rw [List.mem_filter, hm, dropN_kid, decide_eq_true_eq]
    by_cases e2 : mn (v ++ [c]) = 0
    ·rw [if_pos e2]
     exact ⟨fun q => by omega, fun q => by cases q⟩
    ·rw [if_neg e2]
     exact ⟨fun q => q.1, fun q => ⟨q, by omega⟩⟩
  ·rw [setN_ne _ _ e]
   obtain ⟨a1, a2, a3, ks', a4, a5, a6⟩ := h.tw v w hv'
   refine ⟨kp _ _ a1 (h.pne ht hv' e), a2, a3, ks', ?_, a5, fun c => ?_⟩
   ·rw [kp _ _ a4 (h.dne ht hv')]
    rw [kv_congr (N' := dropN N t mn { y with d := d' }) fun c hc => (same _ fun c' q => e (ext_inj q).1).symm]
   ·rw [a6]
    by_cases e2 : v ++ [c] = t
    ·rw [e2, dropN_at, ht]
     rfl
    ·rw [dropN_else N t mn _ e2 fun c' q => e (ext_inj q).1]
 ·rcases dropN_some hv with ⟨rfl, rfl⟩ | ⟨e1, hv1, _⟩
  ·rcases dropN_some hv' with ⟨rfl, rfl⟩ | ⟨e2, hv2, _⟩
   ·rfl
   ·obtain ⟨_, _, _, ks', a4, _⟩ := h.tw v' w' hv2
    have e' : d' = w'.d := e
    rw [← e', dn] at a4
    cases a4
  ·rcases dropN_some hv' with ⟨rfl, rfl⟩ | ⟨e2, hv2, _⟩
   ·obtain ⟨_, _, _, ks', a4, _⟩ := h.tw v w hv1
    have e' : w.d = d' := e
    rw [e', dn] at a4
    cases a4
   ·exact h.inj v v' w w' hv1 hv2 e
 ·have q' : (dropN N t mn { y with d := d' } (u ++ [e])).isSome = true := q
  obtain ⟨w, hw⟩ := Option.isSome_iff_exists.mp q'
  show (dropN N t mn { y with d := d' } u).isSome = true
  by_cases e1 : u = t
  ·rw [e1, dropN_at]
   rfl
  ·have hN : N (u ++ [e]) ≠ none := by
    rcases dropN_some hw with ⟨r, _⟩ | ⟨_, r, _⟩
    ·rw [r, ht]
     exact fun z => nomatch z
    ·rw [r]
     exact fun z => nomatch z
   have hu : (N u).isSome = true := h.dom.up u e (by cases s : N (u ++ [e]) with | none => exact absurd s hN | some _ => rfl)
   by_cases k : ∃ c, u = t ++ [c]
   ·obtain ⟨c, rfl⟩ := k
    rw [dropN_kid]
    by_cases e2 : mn (t ++ [c]) = 0
    ·exact absurd (hno c hu e2 e) hN
    ·rw [if_neg e2]
     exact hu
   ·rw [dropN_else N t mn _ e1 fun c r => k ⟨c, r⟩]
    exact hu
 ·have q' : (dropN N t mn { y with d := d' } (u ++ [e])).isSome = true := q
  obtain ⟨w, hw⟩ := Option.isSome_iff_exists.mp q'
  refine h.dom.let_ u e ?_
  rcases dropN_some hw with ⟨r, _⟩ | ⟨_, r, _⟩
  ·show (N (u ++ [e])).isSome = true
   rw [r, ht]
   rfl
  ·show (N (u ++ [e])).isSome = true
   rw [r]
   rfl
 ·have q' : (dropN N t mn { y with d := d' } u).isSome = true := q
  obtain ⟨w, hw⟩ := Option.isSome_iff_exists.mp q'
  refine h.dom.len u ?_
  rcases dropN_some hw with ⟨r, _⟩ | ⟨_, r, _⟩
  ·show (N u).isSome = true
   rw [r, ht]
   rfl
  ·show (N u).isSome = true
   rw [r]
   rfl
end
structure DayAt (C CH : Addr) (Z : Addr → Prop) (H : Hp) (g : Addr) (W : List (List Nat)) : Prop where
 hed : ∃ N : NM, HedAt C CH Z H g N (fun t => decide (t ∈ W)) (cnt W) ∧ ∀ t, (N t).isSome = true ↔ t = [] ∨ 0 < cnt W t
 nd : W.Nodup
 wd : ∀ w ∈ W, Letters w ∧ w.length ≤ 110
end WH
set_option maxHeartbeats 4000000
namespace WH
open PySem L2
structure Sett (W1 Wn : List (List Nat)) (w : List Nat) : Prop where
 off : ∀ t, ¬ t <+: w → cnt W1 t = cnt Wn t
 le : ∀ t, cnt Wn t ≤ cnt W1 t
 mem : ∀ t, t <+: w → 0 < cnt W1 t
 nd : Wn.Nodup
def mnK (Wn : List (List Nat)) (w : List Nat) (st : List Nat → Nat) (k : Nat) : List Nat → Nat := fun t => if t <+: w ∧ t.length < k then st t else cnt Wn t
def DomK (W1 Wn : List (List Nat)) (w : List Nat) (k : Nat) (t : List Nat) : Prop := t = [] ∨ (0 < cnt W1 t ∧ ¬ (t <+: w ∧ k < t.length ∧ cnt Wn t = 0))
theorem cnt_ext_le (W : List (List Nat)) (t r : List Nat) : cnt W (t ++ r) ≤ cnt W t := by
 induction W with
 | nil => exact Nat.le_refl _
 | cons w W ih =>
  rw [cnt_cons, cnt_cons]
  have : ind ((t ++ r).isPrefixOf w) ≤ ind (t.isPrefixOf w) := by
   unfold ind
   by_cases h : (t ++ r).isPrefixOf w = true
   ·obtain ⟨s, rfl⟩ := List.isPrefixOf_iff_prefix.mp h
    rw [List.append_assoc, pre_self, if_pos rfl]
    split <;> omega
   ·rw [if_neg h]
    omega
  omega
theorem count_ind {W : List (List Nat)} (h : W.Nodup) (t : List Nat) : W.count t = ind (decide (t ∈ W)) := by
 unfold ind
 by_cases m : t ∈ W
 ·rw [decide_eq_true m, if_pos rfl]
  have h1 : 0 < W.count t := List.count_pos_iff.mpr m
  have h2 : W.count t ≤ 1 := List.nodup_iff_count.mp h t
  omega
 ·rw [decide_eq_false m, if_neg (by decide), List.count_eq_zero.mpr m]
theorem take_pre (w : List Nat) (k : Nat) : w.take k <+: w := List.take_prefix k w
theorem pre_eq_take {t w : List Nat} (h : t <+: w) : t = w.take t.length := List.prefix_iff_eq_take.mp h
theorem take_succ' {w : List Nat} {k : Nat} (h : k < w.length) : w.take (k + 1) = w.take k ++ [w[k]] := by
 rw [List.take_succ, List.getElem?_eq_getElem h]
 rfl
section
variable {C CH : Addr} {Z : Addr → Prop} {H H' : Hp} {g : Addr} {N : NM} {W1 Wn : List (List Nat)} {w : List Nat} {st : List Nat → Nat} {k : Nat} {y : Tw}
theorem settle_sum (S : Sett W1 Wn w) (D : ∀ t, (N t).isSome = true ↔ DomK W1 Wn w (k + 1) t) (hk : k ≤ w.length) {ks : List Nat} (nd : ks.Nodup) (hm : ∀ c, c ∈ ks ↔ (N (w.take k ++ [c])).isSome = true) :
  ind (decide (w.take k ∈ Wn)) + ((ks.filter fun c => decide (0 < mnK Wn w st (k + 1) (w.take k ++ [c]))).map fun c => mnK Wn w st (k + 1) (w.take k ++ [c])).sum = cnt Wn (w.take k) := by
 have e : ∀ c, mnK Wn w st (k + 1) (w.take k ++ [c]) = cnt Wn (w.take k ++ [c]) := fun c => by
  unfold mnK
  rw [if_neg]
  rintro ⟨_, h⟩
  rw [List.length_append, List.length_take] at h
  simp at h
  omega
 simp only [e]
 rw [cnt_split (W := Wn) (t := w.take k) (ks := ks.filter fun c => decide (0 < cnt Wn (w.take k ++ [c]))) (nd.filter _) fun v hv c hc => ?_, count_ind S.nd]
 have hp : 0 < cnt Wn (w.take k ++ [c]) := cnt_pos.mpr ⟨v, hv, List.isPrefixOf_iff_prefix.mp hc⟩
 refine List.mem_filter.mpr ⟨(hm c).mpr ((D _).mpr (.inr ⟨Nat.lt_of_lt_of_le hp (S.le _), fun q => by omega⟩)), decide_eq_true hp⟩
theorem settle_step (S : Sett W1 Wn w) (h : HedAt C CH Z H g N (fun t => decide (t ∈ Wn)) (mnK Wn w st (k + 1))) (D : ∀ t, (N t).isSome = true ↔ DomK W1 Wn w (k + 1) t) (hk : k ≤ w.length) {d' : Addr} {ks : List Nat}
  (ht : N (w.take k) = some y) (hkv : H y.d = some (.dK (kv N (w.take k) ks))) (nd : ks.Nodup) (hm : ∀ c, c ∈ ks ↔ (N (w.take k ++ [c])).isSome = true)
  (h1 : H' y.p = some (.ins C y.x (flds (w.take k) (decide (w.take k ∈ Wn)) (ind (decide (w.take k ∈ Wn)) + ((ks.filter fun c => decide (0 < mnK Wn w st (k + 1) (w.take k ++ [c]))).map fun c => mnK Wn w st (k + 1) (w.take k ++ [c])).sum) d')))
  (h2 : H' d' = some (.dK (kv N (w.take k) (ks.filter fun c => decide (0 < mnK Wn w st (k + 1) (w.take k ++ [c])))))) (kp : ∀ b o, H b = some o → b ≠ y.p → H' b = some o) (zd : Z d') (dn : H d' = none) :
  ∃ N' : NM, HedAt C CH Z H' g N' (fun t => decide (t ∈ Wn)) (mnK Wn w st k) ∧ (∀ t, (N' t).isSome = true ↔ DomK W1 Wn w k t) ∧ ∀ j, j < k → N' (w.take j) = N (w.take j) := by
 have hlen : (w.take k).length = k := by rw [List.length_take]; omega
 have ek : ∀ c, mnK Wn w st (k + 1) (w.take k ++ [c]) = cnt Wn (w.take k ++ [c]) := fun c => by
  unfold mnK
  rw [if_neg]
  rintro ⟨_, h⟩
  rw [List.length_append, hlen] at h
  simp at h
 rw [settle_sum S D hk nd hm] at h1
 have hno : ∀ c, (N (w.take k ++ [c])).isSome = true → mnK Wn w st (k + 1) (w.take k ++ [c]) = 0 → ∀ e, N (w.take k ++ [c] ++ [e]) = none := fun c _ h0 e => by
  rw [ek] at h0
  have hz : cnt Wn (w.take k ++ [c] ++ [e]) = 0 := by
   have := cnt_ext_le Wn (w.take k ++ [c]) [e]
   omega
  cases q : N (w.take k ++ [c] ++ [e]) with
  | none => rfl
  | some _ =>
   exfalso
   rcases (D _).mp (by rw [q]; rfl) with z | ⟨z1, z2⟩
   ·simp at z
   ·by_cases hp : w.take k ++ [c] ++ [e] <+: w
    ·refine z2 ⟨hp, ?_, hz⟩
     rw [List.length_append, List.length_append, hlen]
     simp
    ·rw [S.off _ hp] at z1
     omega
 have R := h.settle ht hkv nd hm h1 h2 kp zd dn hno
 have em : setN (mnK Wn w st (k + 1)) (w.take k) (cnt Wn (w.take k)) = mnK Wn w st k := by
  funext v
  by_cases e : v = w.take k
  ·rw [e, setN_at]
   unfold mnK
   rw [if_neg (by rw [hlen]; exact fun q => Nat.lt_irrefl _ q.2)]
  ·rw [setN_ne _ _ e]
   unfold mnK
   by_cases q : v <+: w ∧ v.length < k
   ·rw [if_pos q, if_pos ⟨q.1, by omega⟩]
   ·rw [if_neg q, if_neg]
    rintro ⟨q1, q2⟩
    have : v.length = k := by
     rcases Nat.lt_or_ge v.length k with z | z
     ·exact absurd ⟨q1, z⟩ q
     ·omega
    exact e (by rw [pre_eq_take q1, this])
 rw [em] at R
 refine ⟨_, R, fun v => ?_, fun j hj => ?_⟩
 ·by_cases e : v = w.take k
  ·rw [e, dropN_at]
   refine ⟨fun _ => .inr ⟨S.mem _ (take_pre w k), fun q => ?_⟩, fun _ => rfl⟩
   rw [hlen] at q
   omega
  ·by_cases c : ∃ c, v = w.take k ++ [c]
   ·obtain ⟨c, rfl⟩ := c
    rw [dropN_kid, ek]
    have hl : (w.take k ++ [c]).length = k + 1 := by rw [List.length_append, hlen]; rfl
    by_cases z : cnt Wn (w.take k ++ [c]) = 0
    ·rw [if_pos z]
     refine ⟨fun q => by simp at q, fun q => ?_⟩
     rcases q with q | ⟨q1, q2⟩
     ·simp at q
     ·exfalso
      by_cases hp : w.take k ++ [c] <+: w
      ·exact q2 ⟨hp, by omega, z⟩
      ·rw [S.off _ hp] at q1
       omega
    ·rw [if_neg z, D]
     exact ⟨fun q => q.elim .inl fun q => .inr ⟨q.1, fun r => z r.2.2⟩, fun q => q.elim .inl fun q => .inr ⟨q.1, fun r => z r.2.2⟩⟩
   ·rw [dropN_else _ _ _ _ e fun c' q => c ⟨c', q⟩, D]
    refine ⟨fun q => q.elim .inl fun q => .inr ⟨q.1, fun r => ?_⟩, fun q => q.elim .inl fun q => .inr ⟨q.1, fun r => q.2 ⟨r.1, by omega, r.2.2⟩⟩⟩
    rcases Nat.lt_or_ge (k + 1) v.length with z | z
    ·exact q.2 ⟨r.1, z, r.2.2⟩
    ·have hv : v.length = k + 1 := by omega
     have hkl : k < w.length := by
      have := r.1.length_le
      omega
     refine c ⟨w[k], ?_⟩
     rw [pre_eq_take r.1, hv, take_succ' hkl]
 ·have hjl : (w.take j).length = j := by rw [List.length_take]; omega
  refine dropN_else _ _ _ _ (fun q => ?_) fun c q => ?_
  ·have := congrArg List.length q
   rw [hjl, hlen] at this
   omega
  ·have := congrArg List.length q
   rw [hjl, List.length_append, hlen] at this
   simp at this
   omega
theorem settle_end (S : Sett W1 Wn w) (h : HedAt C CH Z H g N (fun t => decide (t ∈ Wn)) (mnK Wn w st 0)) (D : ∀ t, (N t).isSome = true ↔ DomK W1 Wn w 0 t) :
  HedAt C CH Z H g N (fun t => decide (t ∈ Wn)) (cnt Wn) ∧ ∀ t, (N t).isSome = true ↔ t = [] ∨ 0 < cnt Wn t := by
 have em : mnK Wn w st 0 = cnt Wn := by
  funext v
  unfold mnK
  rw [if_neg fun q => Nat.not_lt_zero _ q.2]
 rw [em] at h
 refine ⟨h, fun t => (D t).trans ⟨fun q => q.elim .inl fun ⟨q1, q2⟩ => ?_, fun q => q.elim .inl fun q => .inr ⟨Nat.lt_of_lt_of_le q (S.le t), fun r => by omega⟩⟩⟩
 by_cases e : t = []
 ·exact .inl e
 ·right
  by_cases hp : t <+: w
  ·rcases Nat.eq_zero_or_pos (cnt Wn t) with z | z
   ·exact absurd ⟨hp, List.length_pos_iff.mpr e, z⟩ q2
   ·exact z
  ·rw [← S.off t hp]
   exact q1
end
theorem ind_pre {t w : List Nat} (h : ¬ t <+: w) : ind (t.isPrefixOf w) = 0 := by
 unfold ind
 rw [if_neg fun q => h (List.isPrefixOf_iff_prefix.mp q)]
theorem ind_pre1 {t w : List Nat} (h : t <+: w) : ind (t.isPrefixOf w) = 1 := by
 unfold ind
 rw [if_pos (List.isPrefixOf_iff_prefix.mpr h)]
theorem cnt_one (w t : List Nat) : cnt [w] t = ind (t.isPrefixOf w) := by rw [cnt_cons]; rfl
theorem sett_put {W : List (List Nat)} {w : List Nat} (nd : W.Nodup) (h : w ∉ W) : Sett (W ++ [w]) (W ++ [w]) w where
 off := fun _ _ => rfl
 le := fun _ => Nat.le_refl _
 mem := fun t ht => by
  rw [cnt_app, cnt_one, ind_pre1 ht]
  omega
 nd := by
  rw [List.nodup_append]
  refine ⟨nd, by simp, fun a ha b hb => ?_⟩
  rw [List.mem_singleton.mp hb]
  rintro rfl
  exact h ha
theorem sett_take {W : List (List Nat)} {w : List Nat} (nd : W.Nodup) (h : w ∈ W) : Sett W (W.erase w) w where
 off := fun t ht => by
  rw [cnt_erase h t, ind_pre ht, Nat.zero_add]
 le := fun t => by
  rw [cnt_erase h t]
  omega
 mem := fun t ht => cnt_pos.mpr ⟨w, h, ht⟩
 nd := nd.erase w
end WH
set_option maxHeartbeats 4000000
namespace WH
open PySem L2
def spAnswersF (F : Deed → Prop) (K : PySem.W.Frag) : Sp := fun vs H Q _ => ∃ (a : Addr) (ps : List Addr) (ds : List Deed), vs = [.ref a] ∧ H a = some (.lst (ps.map V.ref)) ∧ DeedsAt H ps ds ∧ (∀ d ∈ ds, F d) ∧ ds.length ≤ 450 ∧
 ∀ (r : Addr) (us : List V) (H' : Hp), H r = none → H' r = some (.lst us) → AnswersAt H' us (run [] ds) → Same H H' → Q (.ref r) H'
def Fine3 (d : Deed) : Prop := ∃ w, (d = .put w ∨ d = .take w ∨ d = .has w) ∧ Letters w ∧ w.length ≤ 110
theorem Made.fine3 {d : Deed} (h : Made d) : Fine3 d := by
 obtain ⟨w, e, h1, h2⟩ := h
 exact ⟨w, e, h1, by omega⟩
def spDo (F : Deed → Prop) (C CH : Addr) : Sp := fun vs H Q _ => ∃ (Z : Addr → Prop) (g : Addr) (W : List (List Nat)) (p : Addr) (d : Deed), vs = [.ref g, .ref p] ∧ DayAt C CH Z H g W ∧ (∀ b, H b = none → Z b) ∧ DeedAt H p d ∧ F d ∧ W.length ≤ 450 ∧
 ∀ v H', AnsAt H' v (ans W d) → (∀ q, v = .ref q → H q = none) → DayAt C CH Z H' g (stepW W d) → Kp Z H H' → Q v H'
def spAll (F : Deed → Prop) (C CH : Addr) : Sp := fun vs H Q _ => ∃ (Z : Addr → Prop) (g a : Addr) (ps : List Addr) (ds : List Deed), vs = [.ref g, .ref a] ∧ DayAt C CH Z H g [] ∧ (∀ b, H b = none → Z b) ∧ H a = some (.lst (ps.map V.ref)) ∧ DeedsAt H ps ds ∧ (∀ d ∈ ds, F d) ∧ ds.length ≤ 450 ∧
 ∀ r us H', H r = none → H' r = some (.lst us) → AnswersAt H' us (run [] ds) → DayAt C CH Z H' g (after [] ds) → Kp Z H H' → Q (.ref r) H'
theorem run_snoc : ∀ (W : List (List Nat)) (ds : List Deed) (d : Deed), run W (ds ++ [d]) = run W ds ++ [ans (after W ds) d]
 | _, [], _ => rfl
 | W, e :: ds, d => by
  show ans W e :: run (stepW W e) (ds ++ [d]) = ans W e :: (run (stepW W e) ds ++ _)
  rw [run_snoc (stepW W e) ds d]
  rfl
theorem AnsAt.kp {Z : Addr → Prop} {H H' : Hp} (h : Kp Z H H') {v : V} : ∀ {a : Ans}, AnsAt H v a → AnsAt H' v a
 | .bool _, q => q
 | .words _, ⟨p, e, q⟩ => ⟨p, e, h.lst q⟩
 | .opt none, q => q
 | .opt (some _), q => q
 | .num _, q => q
theorem AnsAt.upd {H : Hp} {r : Addr} {o : HO} {v : V} (n : v ≠ .ref r) : ∀ {a : Ans}, AnsAt H v a → AnsAt (upd H r o) v a
 | .bool _, q => q
 | .words _, ⟨p, e, q⟩ => ⟨p, e, by rw [upd_ne (fun z => n (by rw [e, z]))]; exact q⟩
 | .opt none, q => q
 | .opt (some _), q => q
 | .num _, q => q
theorem answers_upd {H : Hp} {r : Addr} {o : HO} : ∀ {us : List V} {as : List Ans}, AnswersAt H us as → (∀ v ∈ us, v ≠ .ref r) → AnswersAt (upd H r o) us as
 | _, _, .nil, _ => .nil
 | _, _, .cons q t, n => .cons (q.upd (n _ (List.mem_cons_self ..))) (answers_upd t fun v hv => n v (List.mem_cons_of_mem _ hv))
theorem DeedsAt.kp {Z : Addr → Prop} {H H' : Hp} (h : Kp Z H H') {ps : List Addr} {ds : List Deed} (q : DeedsAt H ps ds) : DeedsAt H' ps ds := Paired.mapP q fun _ _ z => h.tup z
theorem DayAt.keep {C CH : Addr} {Z : Addr → Prop} {H H' : Hp} {g : Addr} {W : List (List Nat)} (h : DayAt C CH Z H g W) (k : ∀ b o, H b = some o → (∀ xs, o ≠ .lst xs) → H' b = some o) : DayAt C CH Z H' g W := by
 obtain ⟨⟨N, hA, hD⟩, nd, wd⟩ := h
 refine ⟨⟨N, ⟨?_, fun t x hx => ?_, hA.inj, hA.dom⟩, hD⟩, nd, wd⟩
 ·obtain ⟨dg', y', q1, q2⟩ := hA.gt
  exact ⟨dg', y', k _ _ q1 (by intro _ z; cases z), q2⟩
 ·obtain ⟨q1, q2, q3, ks', q4, q5⟩ := hA.tw t x hx
  exact ⟨k _ _ q1 (by intro _ z; cases z), q2, q3, ks', k _ _ q4 (by intro _ z; cases z), q5⟩
theorem iteD0 {b : Bool} {A B : Prop} (e : b = false) (h : B) : if b = true then A else B := by
 subst e
 exact iteF h
theorem iteD1 {b : Bool} {A B : Prop} (e : b = true) (h : A) : if b = true then A else B := by
 subst e
 exact iteT h
end WH
set_option maxHeartbeats 4000000
namespace WH
open PySem L2
def optV : Option (List Nat) → V
 | none => .non
 | some w => sv w
theorem optV_at (H : Hp) : ∀ o : Option (List Nat), AnsAt H (optV o) (.opt o)
 | none => rfl
 | some _ => rfl
theorem optV_no (o : Option (List Nat)) (q : Addr) : optV o ≠ .ref q := by
 cases o <;> exact fun z => nomatch z
theorem longest_eq {W : List (List Nat)} {t : List Nat} {j : Nat} (h : t.take j ∈ W) (hj : j ≤ t.length) (hm : ∀ i, j < i → i ≤ t.length → t.take i ∉ W) : ((srt W).filter fun w => w.isPrefixOf t).getLast? = some (t.take j) := by
 cases e : ((srt W).filter fun w => w.isPrefixOf t).getLast? with
 | none => exact absurd (take_pre t j) (longest_none e _ h)
 | some v =>
  obtain ⟨h1, h2, h3⟩ := longest_some e
  have hl := h3 _ h (take_pre t j)
  have hlen : (t.take j).length = j := by rw [List.length_take]; omega
  have hv := h2.length_le
  have ev := pre_eq_take h2
  rcases Nat.lt_or_ge j v.length with z | z
  ·rw [ev] at h1
   exact absurd h1 (hm _ z hv)
  ·have : v.length = j := by omega
   rw [ev, this]
theorem longest_no {W : List (List Nat)} {t : List Nat} (hm : ∀ i, i ≤ t.length → t.take i ∉ W) : ((srt W).filter fun w => w.isPrefixOf t).getLast? = none := by
 cases e : ((srt W).filter fun w => w.isPrefixOf t).getLast? with
 | none => rfl
 | some v =>
  obtain ⟨h1, h2, _⟩ := longest_some e
  have ev := pre_eq_take h2
  rw [ev] at h1
  exact absurd h1 (hm _ h2.length_le)
theorem no_more {N : NM} {W : List (List Nat)} {t : List Nat} {k i : Nat} (D : ∀ t, (N t).isSome = true ↔ t = [] ∨ 0 < cnt W t) (hk : k = t.length ∨ N (t.take (k + 1)) = none) (hi : k < i) (hl : i ≤ t.length) : t.take i ∉ W := fun hm => by
 rcases hk with e | e
 ·omega
 ·have hp : t.take (k + 1) <+: t.take i := by
   have : t.take (k + 1) = (t.take i).take (k + 1) := by rw [List.take_take, Nat.min_eq_left (by omega)]
   rw [this]
   exact take_pre _ _
  have := (D (t.take (k + 1))).mpr (.inr (cnt_pos.mpr ⟨_, hm, hp⟩))
  rw [e] at this
  cases this
theorem srt_rise {W : List (List Nat)} (h : W.Nodup) : (srt W).Pairwise (· < ·) := by
 have h1 := srt_pw W
 have h2 : (srt W).Nodup := (srt_perm W).nodup_iff.mpr h
 refine (h1.and h2).imp fun {a b} ⟨x, y⟩ => ?_
 by_cases z : a < b
 ·exact z
 ·exact absurd (List.le_antisymm (List.not_lt.mp x) (List.not_lt.mp z)) y
theorem pre_words {W : List (List Nat)} {ex : List Nat → Bool} (D : Dom ex 110) (nd : W.Nodup) (hex : ∀ t, ex t = true ↔ t = [] ∨ 0 < cnt W t) {t : List Nat} (ht : ex t = true) :
  ((pre ex (110 - t.length) t).filter fun u => decide (u ∈ W)) = (srt W).filter fun w => t.isPrefixOf w := by
 have hl := D.len t ht
 refine rise_eq ((pre_rise _ _).filter _) ((srt_rise nd).filter _) fun v => ?_
 rw [List.mem_filter, List.mem_filter, mem_pre D (by omega) ht, decide_eq_true_eq, List.isPrefixOf_iff_prefix, (srt_perm W).mem_iff]
 constructor
 ·rintro ⟨⟨h1, _⟩, h3⟩
  exact ⟨h3, h1⟩
 ·rintro ⟨h1, h2⟩
  exact ⟨⟨h2, (hex v).mpr (.inr (cnt_pos.mpr ⟨v, h1, List.prefix_refl _⟩))⟩, h1⟩
theorem sub_len {α : Type} [DecidableEq α] : ∀ {l m : List α}, l.Nodup → (∀ x ∈ l, x ∈ m) → l.length ≤ m.length
 | [], _, _, _ => Nat.zero_le _
 | x :: l, m, h, s => by
  rw [List.nodup_cons] at h
  have hx : x ∈ m := s x (List.mem_cons_self ..)
  have h1 : l.length ≤ (m.erase x).length := sub_len h.2 fun y hy => (List.mem_erase_of_ne (by rintro rfl; exact h.1 hy)).mpr (s y (List.mem_cons_of_mem _ hy))
  have h2 := List.length_erase_of_mem hx
  have h3 := List.length_pos_of_mem hx
  rw [List.length_cons]
  omega
def begsOf (W : List (List Nat)) : List (List Nat) := [] :: W.flatMap fun w => (List.range w.length).map fun i => w.take (i + 1)
theorem begsOf_len {W : List (List Nat)} (h : ∀ w ∈ W, w.length ≤ 110) : (begsOf W).length ≤ 1 + 110 * W.length := by
 unfold begsOf
 rw [List.length_cons]
 have : ∀ W : List (List Nat), (∀ w ∈ W, w.length ≤ 110) → (W.flatMap fun w => (List.range w.length).map fun i => w.take (i + 1)).length ≤ 110 * W.length := by
  intro W
  induction W with
  | nil => intro _; exact Nat.le_refl _
  | cons w W ih =>
   intro h
   rw [List.flatMap_cons, List.length_append, List.length_map, List.length_range, List.length_cons]
   have h1 := ih fun v hv => h v (List.mem_cons_of_mem _ hv)
   have h2 := h w (List.mem_cons_self ..)
   omega
 have := this W h
 omega
theorem pre_few {W : List (List Nat)} {ex : List Nat → Bool} (D : Dom ex 110) (hw : ∀ w ∈ W, w.length ≤ 110) (hex : ∀ t, ex t = true ↔ t = [] ∨ 0 < cnt W t) {t : List Nat} (ht : ex t = true) : (pre ex (110 - t.length) t).length ≤ 1 + 110 * W.length := by
 have hl := D.len t ht
 refine Nat.le_trans (sub_len ((pre_rise _ _).imp fun h => by rintro rfl; exact List.lt_irrefl _ h) fun v hv => ?_) (begsOf_len hw)
 have hv' := ((mem_pre D (by omega) ht v).mp hv).2
 rcases (hex v).mp hv' with e | e
 ·rw [e]
  exact List.mem_cons_self ..
 ·obtain ⟨w, hwm, hp⟩ := cnt_pos.mp e
  by_cases e0 : v = []
  ·rw [e0]
   exact List.mem_cons_self ..
  ·refine List.mem_cons_of_mem _ (List.mem_flatMap.mpr ⟨w, hwm, List.mem_map.mpr ⟨v.length - 1, List.mem_range.mpr ?_, ?_⟩⟩)
   ·have := hp.length_le
    have := List.length_pos_iff.mpr e0
    omega
   ·have := List.length_pos_iff.mpr e0
    have e1 : v.length - 1 + 1 = v.length := by omega
    rw [e1]
    exact (pre_eq_take hp).symm
def Fine7 (d : Deed) : Prop := (∃ z, d = .at_ z) ∨ Fine3 d ∨ (∃ t, d = .all t ∧ Letters t ∧ t.length ≤ 110) ∨ (∃ t, d = .longest t ∧ Letters t ∧ t.length ≤ 110) ∨ ∃ t, d = .ahead t ∧ Letters t ∧ t.length ≤ 110
abbrev exN (N : NM) : List Nat → Bool := fun t => (N t).isSome
abbrev preN (N : NM) (u : List Nat) : List (List Nat) := pre (exN N) (110 - u.length) u
theorem fm_congr {α β : Type} {f g : α → List β} : ∀ {l : List α}, (∀ x ∈ l, f x = g x) → l.flatMap f = l.flatMap g
 | [], _ => rfl
 | x :: l, h => by
  rw [List.flatMap_cons, List.flatMap_cons, h x (List.mem_cons_self ..), fm_congr fun y hy => h y (List.mem_cons_of_mem _ hy)]
theorem preN_step {N : NM} (D : Dom (exN N) 110) {u : List Nat} (hu : exN N u = true) : preN N u = u :: (kidsL (exN N) u).flatMap fun c => preN N (u ++ [c]) := by
 have hl := D.len u hu
 have e : ∀ c, (u ++ [c]).length = u.length + 1 := fun c => by simp
 unfold preN
 cases h : 110 - u.length with
 | zero =>
  have : kidsL (exN N) u = [] := by
   rw [List.eq_nil_iff_forall_not_mem]
   intro c hc
   have := D.len _ (mem_kids.mp hc).2
   rw [e] at this
   omega
  rw [this]
  rfl
 | succ n =>
  show u :: (kidsL (exN N) u).flatMap (fun c => pre (exN N) n (u ++ [c])) = _
  congr 1
  refine fm_congr fun c _ => ?_
  rw [e]
  congr 1
  omega
theorem preN_pos (N : NM) (u : List Nat) : 1 ≤ (preN N u).length := by
 unfold preN
 cases 110 - u.length with
 | zero => exact Nat.le_refl _
 | succ n =>
  show 1 ≤ (u :: _).length
  rw [List.length_cons]
  omega
theorem flat_ge (N : NM) : ∀ S : List (List Nat), S.length ≤ (S.flatMap (preN N)).length
 | [] => Nat.le_refl _
 | u :: S => by
  rw [List.flatMap_cons, List.length_append, List.length_cons]
  have h1 := preN_pos N u
  have h2 := flat_ge N S
  omega
theorem kids_down {ex : List Nat → Bool} {u : List Nat} {ks : List Nat} {ls : List (List Nat)} (hk : ks.Perm (kidsL ex u)) (hp : ls.Perm (ks.map fun c => [c])) (hd : ls.Pairwise fun a b => ¬ a < b) : ls = (kidsL ex u).reverse.map fun c => [c] := by
 have h1 : ls.reverse.Pairwise fun a b => ¬ b < a := by
  rw [List.pairwise_reverse]
  exact hd
 have h2 : ((kidsL ex u).map fun c => [c]).Pairwise fun a b : List Nat => ¬ b < a := by
  rw [List.pairwise_map]
  refine (kids_sorted ex u).imp fun {a b} h => ?_
  rw [List.cons_lt_cons_iff]
  rintro (z | ⟨_, z⟩)
  ·omega
  ·exact List.not_lt_nil _ z
 have h3 : ls.reverse.Perm ((kidsL ex u).map fun c => [c]) := (List.reverse_perm _).trans (hp.trans (hk.map _))
 have h4 := List.Perm.eq_of_pairwise (le := fun a b => ¬ b < a) (fun a b _ _ x y => List.le_antisymm (List.not_lt.mp x) (List.not_lt.mp y)) h1 h2 h3
 rw [List.map_reverse, ← h4, List.reverse_reverse]
theorem none_with {W : List (List Nat)} {t : List Nat} (h : cnt W t = 0) : ((srt W).filter fun w => t.isPrefixOf w) = [] := by
 have : ((srt W).filter fun w => t.isPrefixOf w).length = 0 := by
  have e := cnt_perm (srt_perm W) t
  unfold cnt at e h
  omega
 exact List.length_eq_zero_iff.mp this
theorem cnt_none {N : NM} {W : List (List Nat)} {t : List Nat} {k : Nat} (D : ∀ t, (N t).isSome = true ↔ t = [] ∨ 0 < cnt W t) (hk : k < t.length) (hn : N (t.take (k + 1)) = none) : cnt W t = 0 := by
 rcases Nat.eq_zero_or_pos (cnt W t) with z | z
 ·exact z
 ·obtain ⟨w, hw, hp⟩ := cnt_pos.mp z
  have := (D (t.take (k + 1))).mpr (.inr (cnt_pos.mpr ⟨w, hw, (take_pre t (k + 1)).trans hp⟩))
  rw [hn] at this
  cases this
end WH
set_option maxHeartbeats 4000000
namespace WH
open PySem L2
def aheadN (W : List (List Nat)) (u : List Nat) (ks : List Nat) (c : Nat) : Nat := ind (decide (u ∈ W)) + ((ks.filter fun x => decide (x < c)).map fun x => cnt W (u ++ [x])).sum
theorem ahead_perm {W : List (List Nat)} {u : List Nat} {ks ks' : List Nat} (h : ks.Perm ks') (c : Nat) : aheadN W u ks c = aheadN W u ks' c := by
 unfold aheadN
 rw [((h.filter fun x => decide (x < c)).map fun x => cnt W (u ++ [x])).sum_nat]
theorem split_at {l : List Nat} {c : Nat} (hl : l.Pairwise (· < ·)) (hc : c ∈ l) : ∃ a b, l = a ++ c :: b ∧ (l.filter fun x => decide (x < c)) = a := by
 obtain ⟨a, b, rfl⟩ := List.append_of_mem hc
 refine ⟨a, b, rfl, ?_⟩
 rw [List.pairwise_append] at hl
 obtain ⟨h1, h2, h3⟩ := hl
 rw [List.pairwise_cons] at h2
 rw [List.filter_append, List.filter_eq_self.mpr fun x hx => decide_eq_true (h3 x hx c (List.mem_cons_self ..)), List.filter_eq_nil_iff.mpr fun x hx => ?_, List.append_nil]
 rcases List.mem_cons.mp hx with e | e
 ·rw [e]
  simp
 ·have := h2.1 x e
  simp
  omega
theorem cnt_len (W : List (List Nat)) (t : List Nat) : ((srt W).filter fun w => t.isPrefixOf w).length = cnt W t := cnt_perm (srt_perm W) t
section
variable {W : List (List Nat)} {ex : List Nat → Bool} {u : List Nat}
theorem below (nd : W.Nodup) (hex : ∀ c, 0 < cnt W (u ++ [c]) → c ∈ kidsL ex u) : ((srt W).filter fun w => u.isPrefixOf w) = (if u ∈ W then [u] else []) ++ (kidsL ex u).flatMap fun c => (srt W).filter fun w => (u ++ [c]).isPrefixOf w := by
 have := sub_split (L := srt W) (ex := ex) (srt_rise nd) u fun w hw c hp => hex c (cnt_pos.mpr ⟨w, (srt_perm W).mem_iff.mp hw, hp⟩)
 have e : (u ∈ srt W) = (u ∈ W) := propext (srt_perm W).mem_iff
 simp only [e] at this
 exact this
theorem head_len (W : List (List Nat)) (u : List Nat) : (if u ∈ W then [u] else []).length = ind (decide (u ∈ W)) := by
 unfold ind
 by_cases h : u ∈ W
 ·rw [if_pos h, decide_eq_true h, if_pos rfl]
  rfl
 ·rw [if_neg h, decide_eq_false h]
  rfl
theorem at_get (nd : W.Nodup) (hex : ∀ c, 0 < cnt W (u ++ [c]) → c ∈ kidsL ex u) {c lf : Nat} (hc : c ∈ kidsL ex u) (h1 : aheadN W u (kidsL ex u) c ≤ lf) (h2 : lf < aheadN W u (kidsL ex u) c + cnt W (u ++ [c])) :
  ((srt W).filter fun w => u.isPrefixOf w)[lf]? = ((srt W).filter fun w => (u ++ [c]).isPrefixOf w)[lf - aheadN W u (kidsL ex u) c]? := by
 obtain ⟨a, b, e, ea⟩ := split_at (kids_sorted ex u) hc
 have es : (a.map fun x => ((srt W).filter fun w => (u ++ [x]).isPrefixOf w).length).sum = (a.map fun x => cnt W (u ++ [x])).sum := by
  congr 1
  exact List.map_congr_left fun x _ => cnt_len W (u ++ [x])
 have ea' : aheadN W u (kidsL ex u) c = ind (decide (u ∈ W)) + (a.map fun x => cnt W (u ++ [x])).sum := by
  unfold aheadN
  rw [ea]
 rw [below nd hex, List.getElem?_append_right (by rw [head_len]; omega), head_len, e]
 rw [flat_get (f := fun c => (srt W).filter fun w => (u ++ [c]).isPrefixOf w) a c b (by rw [es]; omega) (by rw [es, cnt_len]; omega), es]
 rw [e] at ea'
 congr 1
 omega
theorem at_max (nd : W.Nodup) (hex : ∀ c, 0 < cnt W (u ++ [c]) → c ∈ kidsL ex u) {c lf : Nat} (hc : c ∈ kidsL ex u) (hlf : lf < cnt W u) (hm : ∀ x ∈ kidsL ex u, aheadN W u (kidsL ex u) x ≤ lf → x ≤ c) : lf < aheadN W u (kidsL ex u) c + cnt W (u ++ [c]) := by
 obtain ⟨a, b, e, ea⟩ := split_at (kids_sorted ex u) hc
 have ea' : aheadN W u (kidsL ex u) c = ind (decide (u ∈ W)) + (a.map fun x => cnt W (u ++ [x])).sum := by
  unfold aheadN
  rw [ea]
 cases b with
 | nil =>
  have := cnt_split (W := W) (t := u) (kids_nodup ex u) fun w hw x hp => hex x (cnt_pos.mpr ⟨w, hw, List.isPrefixOf_iff_prefix.mp hp⟩)
  rw [count_ind nd, e, List.map_append, List.sum_append] at this
  simp at this
  omega
 | cons c' b =>
  have hc' : c' ∈ kidsL ex u := by
   rw [e]
   simp
  have hlt : c < c' := by
   have := kids_sorted ex u
   rw [e, List.pairwise_append, List.pairwise_cons] at this
   exact this.2.1.1 c' (List.mem_cons_self ..)
  obtain ⟨a2, b2, e2, ea2⟩ := split_at (kids_sorted ex u) hc'
  have ha2 : a2 = a ++ [c] := by
   rw [e] at e2
   have hn : (a ++ c :: c' :: b).Nodup := by
    rw [← e]
    exact kids_nodup ex u
   have e3 : a ++ [c] ++ c' :: b = a2 ++ c' :: b2 := by
    rw [← e2]
    simp
   rw [← ea2, e]
   have hs := kids_sorted ex u
   rw [e, List.pairwise_append, List.pairwise_cons, List.pairwise_cons] at hs
   obtain ⟨s1, ⟨s2, s3, s4⟩, s5⟩ := hs
   rw [List.filter_append, List.filter_eq_self.mpr fun x hx => decide_eq_true (s5 x hx c' (by simp)), List.filter_cons, if_pos (decide_eq_true hlt), List.filter_eq_nil_iff.mpr fun x hx => ?_]
   rcases List.mem_cons.mp hx with q | q
   ·rw [q]
    simp
   ·have := s3 x q
    simp
    omega
  have e4 : aheadN W u (kidsL ex u) c' = aheadN W u (kidsL ex u) c + cnt W (u ++ [c]) := by
   rw [ea']
   unfold aheadN
   rw [ea2, ha2, List.map_append, List.sum_append]
   simp
   omega
  rcases Nat.lt_or_ge lf (aheadN W u (kidsL ex u) c + cnt W (u ++ [c])) with z | z
  ·exact z
  ·have := hm c' hc' (by omega)
   omega
theorem at_some (nd : W.Nodup) (hex : ∀ c, 0 < cnt W (u ++ [c]) → c ∈ kidsL ex u) {lf : Nat} (hlf : lf < cnt W u) (h : 0 < lf ∨ u ∉ W) : ∃ c ∈ kidsL ex u, aheadN W u (kidsL ex u) c ≤ lf := by
 have hs := cnt_split (W := W) (t := u) (kids_nodup ex u) fun w hw x hp => hex x (cnt_pos.mpr ⟨w, hw, List.isPrefixOf_iff_prefix.mp hp⟩)
 rw [count_ind nd] at hs
 have hi : ind (decide (u ∈ W)) ≤ lf := by
  unfold ind
  by_cases m : u ∈ W
  ·rw [decide_eq_true m, if_pos rfl]
   rcases h with z | z
   ·exact z
   ·exact absurd m z
  ·rw [decide_eq_false m, if_neg (by decide)]
   exact Nat.zero_le _
 cases e : kidsL ex u with
 | nil =>
  rw [e] at hs
  simp at hs
  omega
 | cons c b =>
  refine ⟨c, List.mem_cons_self .., ?_⟩
  unfold aheadN
  have hp := kids_sorted ex u
  rw [e, List.pairwise_cons] at hp
  rw [List.filter_eq_nil_iff.mpr fun x hx => ?_]
  ·simpa using hi
  ·rcases List.mem_cons.mp hx with q | q
   ·rw [q]
    simp
   ·have := hp.1 x q
    simp
    omega
theorem at_here (nd : W.Nodup) (hex : ∀ c, 0 < cnt W (u ++ [c]) → c ∈ kidsL ex u) (h : u ∈ W) : ((srt W).filter fun w => u.isPrefixOf w)[0]? = some u := by
 rw [below nd hex, if_pos h]
 rfl
end
theorem sum_filter_le (p : Nat → Bool) (f : Nat → Nat) : ∀ l : List Nat, ((l.filter p).map f).sum ≤ (l.map f).sum
 | [] => Nat.le_refl _
 | x :: l => by
  have ih := sum_filter_le p f l
  rw [List.filter_cons, List.map_cons, List.sum_cons]
  split
  ·rw [List.map_cons, List.sum_cons]
   omega
  ·omega
theorem ahead_path {W : List (List Nat)} {ex : List Nat → Bool} (nd : W.Nodup) (hex : ∀ u c, 0 < cnt W (u ++ [c]) → c ∈ kidsL ex u) (t : List Nat) (n : Nat) (hn : n ≤ t.length) (hz : lessU W (t.take n) (t.drop n) = 0) :
  ∀ m i, m + i = n → lessU W (t.take i) (t.drop i) = ((List.range m).map fun j => aheadN W (t.take (i + j)) (kidsL ex (t.take (i + j))) ((t[i + j]?).getD 0)).sum
 | 0, i, h => by
  have : i = n := by omega
  subst this
  rw [hz]
  rfl
 | m + 1, i, h => by
  have hi : i < t.length := by omega
  have ed : t.drop i = t[i] :: t.drop (i + 1) := List.drop_eq_getElem_cons hi
  have et : t.take i ++ [t[i]] = t.take (i + 1) := (take_succ' hi).symm
  rw [ed, lessU_split (ks := kidsL ex (t.take i)) (kids_nodup ex _) fun w hw c hp => hex _ c (cnt_pos.mpr ⟨w, hw, List.isPrefixOf_iff_prefix.mp hp⟩), et, ahead_path nd hex t n hn hz m (i + 1) (by omega), count_ind nd]
  rw [List.range_succ_eq_map, List.map_cons, List.sum_cons, List.map_map]
  have e0 : aheadN W (t.take (i + 0)) (kidsL ex (t.take (i + 0))) ((t[i + 0]?).getD 0) = ind (decide (t.take i ∈ W)) + ((kidsL ex (t.take i)).filter (fun x => decide (x < t[i])) |>.map fun x => cnt W (t.take i ++ [x])).sum := by
   unfold aheadN
   rw [Nat.add_zero, List.getElem?_eq_getElem hi]
   rfl
  rw [e0]
  congr 2
  refine List.map_congr_left fun j _ => ?_
  show aheadN W (t.take (i + 1 + j)) _ _ = aheadN W (t.take (i + (j + 1))) _ _
  rw [show i + 1 + j = i + (j + 1) by omega]
end WH
set_option maxHeartbeats 4000000
namespace WH
open PySem L2
def TwigAt (W : List (List Nat)) (H : Hp) (q : Addr) (t : List Nat) : Prop := H q = some (.tup [sv t, .bl (decide (t ∈ W)), .int (cnt W t : Nat)])
def TwigsAt (W : List (List Nat)) (H : Hp) (qs : List Addr) (ts : List (List Nat)) : Prop := Paired (TwigAt W H) qs ts
theorem TwigsAt.same {W : List (List Nat)} {H H' : Hp} (h : Same H H') {qs : List Addr} {ts : List (List Nat)} (q : TwigsAt W H qs ts) : TwigsAt W H' qs ts := Paired.mapP q fun _ _ z => h _ _ z
theorem TwigsAt.get {W : List (List Nat)} {H : Hp} : ∀ {ps : List Addr} {ds : List (List Nat)} {i : Nat} {d : List Nat}, TwigsAt W H ps ds → ds[i]? = some d → ∃ p, ps[i]? = some p ∧ TwigAt W H p d
 | _, _, _, _, .nil, e => by simp at e
 | _, _, 0, _, .cons r _, e => by
  simp at e
  subst e
  exact ⟨_, rfl, r⟩
 | _, _, i + 1, d, .cons _ t, e => by
  obtain ⟨p, h1, h2⟩ := TwigsAt.get (i := i) (d := d) t (by simpa using e)
  exact ⟨p, by simpa using h1, h2⟩
def BegsOf (W ts : List (List Nat)) : Prop := ts.Pairwise (· < ·) ∧ ∀ t, t ∈ ts ↔ 0 < cnt W t
theorem BegsOf.eq {W ts us : List (List Nat)} (a : BegsOf W ts) (b : BegsOf W us) : ts = us := rise_eq a.1 b.1 fun t => (a.2 t).trans (b.2 t).symm
theorem begs_none {W : List (List Nat)} (h : W.length = 0) : BegsOf W [] := by
 rw [List.length_eq_zero_iff.mp h]
 exact ⟨List.Pairwise.nil, fun t => ⟨(fun z => nomatch z), fun z => absurd z (Nat.lt_irrefl 0)⟩⟩
theorem cnt_all (W : List (List Nat)) : cnt W [] = W.length := by
 unfold cnt
 rw [List.filter_eq_self.mpr fun w _ => by cases w <;> rfl]
theorem begs_pre {W : List (List Nat)} {N : NM} (D : Dom (exN N) 110) (hex : ∀ t, exN N t = true ↔ t = [] ∨ 0 < cnt W t) (h : 0 < W.length) : BegsOf W (preN N []) := by
 refine ⟨pre_rise _ _, fun t => ?_⟩
 rw [mem_pre D (n := 110 - ([] : List Nat).length) (by simp) ((hex []).mpr (.inl rfl)), hex]
 constructor
 ·rintro ⟨_, e | e⟩
  ·rw [e, cnt_all]
   exact h
  ·exact e
 ·exact fun z => ⟨⟨t, rfl⟩, .inr z⟩
def spTwigs (F : Deed → Prop) (K : PySem.W.Frag) : Sp := fun vs H Q _ => ∃ (a : Addr) (ps : List Addr) (ds : List Deed), vs = [.ref a] ∧ H a = some (.lst (ps.map V.ref)) ∧ DeedsAt H ps ds ∧ (∀ d ∈ ds, F d) ∧ ds.length ≤ 450 ∧
 ∀ (l : Addr) (qs : List Addr) (ts : List (List Nat)) (H' : Hp), BegsOf (after [] ds) ts → H l = none → H' l = some (.lst (qs.map V.ref)) → TwigsAt (after [] ds) H' qs ts → Same H H' → Q (.ref l) H'
end WH
set_option maxHeartbeats 1000000
namespace TS
open PySem PyProof.Rows
def gal : Bool → Keyed → Array Keyed → Nat → Nat → Nat → StateT SortSt Sem (Option Nat) := sortPriv% PySem.Builtin.gallop
variable {κ : KeyKind}
def ky (κ : KeyKind) (p : Keyed) : κ.α := (κ.keyOf p.1).getD κ.dflt
def Kd (κ : KeyKind) (p : Keyed) : Prop := ∃ a, κ.keyOf p.1 = some a
def bey (κ : KeyKind) (left : Bool) (key p : Keyed) : Bool := if left then κ.blt (ky κ p) (ky κ key) else !κ.blt (ky κ key) (ky κ p)
section
variable {prog : Program} {w : World} {A : Around} {E : Value → Shared → Prop} {s : Shared}
theorem lt_ok (hO : κ.OneLt) {st : SortSt} {x y : Keyed} {Q : Option Bool → SortSt → Prop} (hk : kindOf st = oneType') (hx : Kd κ x) (hy : Kd κ y) (h : Q (some (κ.blt (ky κ x) (ky κ y))) st) : wpS (model prog w) A E s (lt' x y) Q st := by
 obtain ⟨a, ha⟩ := hx
 obtain ⟨b, hb⟩ := hy
 unfold ky at h
 rw [ha, hb] at h
 rw [lt'_eq]
 refine wpS_bind (wpS_get ?_)
 rw [hk, keyLt'_oneType]
 refine wpS_bind (wpS_lift (wpAny_attempt (hO prog w A _ s x.1 y.1 a b ha hb ⟨rfl, ?_⟩)))
 exact wpS_pure h
theorem elem_ok {st : SortSt} {arr : Array Keyed} {i : Nat} {p : Keyed} {Q : Keyed → SortSt → Prop} (e : arr[i]? = some p) (h : Q p st) : wpS (model prog w) A E s (elem' arr i) Q st := by
 rw [elem'_eq, e]
 exact wpS_pure h
theorem bey_ok (hO : κ.OneLt) {st : SortSt} {left : Bool} {key p : Keyed} {arr : Array Keyed} {j : Nat} {Q : Option Bool → SortSt → Prop} (hk : kindOf st = oneType') (e : arr[j]? = some p) (hp : Kd κ p) (hq : Kd κ key) (h : Q (some (bey κ left key p)) st) :
  wpS (model prog w) A E s (do let x ← elem' arr j; if left = true then lt' x key else (do let r ← lt' key x; pure (Option.map (fun b => !b) r))) Q st := by
 refine wpS_bind (elem_ok e ?_)
 cases left with
 | true => exact lt_ok hO hk hp hq h
 | false => exact wpS_bind (lt_ok hO hk hq hp (wpS_pure h))
theorem gal_ok (hO : κ.OneLt) {left : Bool} {key : Keyed} {arr : Array Keyed} {base n hint : Nat} {st : SortSt} {Q : Option Nat → SortSt → Prop} (hk : kindOf st = oneType') (h0 : hint < n) (hkey : Kd κ key) (P : Nat → Bool)
  (hP : ∀ i, i < n → ∃ p, arr[base + i]? = some p ∧ Kd κ p ∧ P i = bey κ left key p) (mono : ∀ i j, i ≤ j → j < n → P j = true → P i = true)
  (h : ∀ k, k ≤ n → (∀ i, i < k → P i = true) → (∀ i, k ≤ i → i < n → P i = false) → Q (some k) st) : wpS (model prog w) A E s (gal left key arr base n hint) Q st := by
 have hb : ∀ i, i < n → ∀ {Q' : Option Bool → SortSt → Prop}, Q' (some (P i)) st → wpS (model prog w) A E s (do let x ← elem' arr (base + i); if left = true then lt' x key else (do let r ← lt' key x; pure (Option.map (fun b => !b) r))) Q' st := fun i hi Q' hq => by
  obtain ⟨p, e, hp, hPi⟩ := hP i hi
  rw [hPi] at hq
  exact bey_ok hO hk e hp hkey hq
 have nmono : ∀ i j, i ≤ j → j < n → P i = false → P j = false := fun i j hij hj e => by
  cases e' : P j with
  | false => rfl
  | true =>
   rw [mono i j hij hj e'] at e
   cases e
 refine wpS_bind (hb hint h0 ?_)
 dsimp only
 cases hr : P hint with
 | true =>
  rw [if_pos rfl]
  refine wpS_bind (wpS_mono (wpS_forRange (I := fun x c st' => st' = st ∧ ∃ l o, c = (none, l, o) ∧ l < o ∧ x < o ∧ l < n - hint ∧ (∀ i, i ≤ hint + l → P i = true))
   (Q := fun c st' => st' = st ∧ ∃ l o, c = (none, l, o) ∧ l < o ∧ l < n - hint ∧ (∀ i, i ≤ hint + l → P i = true) ∧ (n - hint ≤ o ∨ P (hint + o) = false)) ?step ?fin ⟨rfl, 0, 1, rfl, by omega, by omega, by omega, fun i hi => mono i hint hi h0 hr⟩) ?post)
  case step =>
   rintro x c st' _ hx ⟨rfl, l, o, rfl, h1, h2, h3, h4⟩
   dsimp only
   split
   ·exact wpS_pure ⟨rfl, l, o, rfl, h1, h3, h4, .inl (by omega)⟩
   ·refine wpS_bind (hb (hint + o) (by omega) ?_)
    dsimp only
    cases e : P (hint + o) with
    | false => exact wpS_pure ⟨rfl, l, o, rfl, h1, h3, h4, .inr e⟩
    | true => exact wpS_pure ⟨rfl, o, 2 * o + 1, rfl, by omega, by omega, by omega, fun i hi => mono i _ hi (by omega) e⟩
  case fin =>
   rintro c st' ⟨rfl, l, o, rfl, h1, h2, h3, h4⟩
   exact ⟨rfl, l, o, rfl, h1, h3, h4, .inl (by omega)⟩
  case post =>
   rintro c st ⟨rfl, l, o, rfl, h1, h3, h4, h5⟩
   dsimp only
   have hlo : ∀ i, i < hint + l + 1 → P i = true := fun i hi => h4 i (by omega)
   have hhi : ∀ i, hint + min o (n - hint) ≤ i → i < n → P i = false := fun i hi hn => by
    rcases h5 with y | y
    ·omega
    ·by_cases z : n - hint ≤ o
     ·omega
     ·exact nmono (hint + o) i (by omega) hn y
   have hle : hint + l + 1 ≤ hint + min o (n - hint) := by omega
   have hn : hint + min o (n - hint) ≤ n := by omega
   generalize hint + l + 1 = lo at hlo hle ⊢
   generalize hint + min o (n - hint) = hi at hhi hle hn ⊢
   refine wpS_bind (wpS_mono (wpS_forRange (I := fun x c st' => st' = st ∧ ∃ l r, c = (none, l, r) ∧ l ≤ r ∧ r ≤ n ∧ r - l ≤ n - x ∧ (∀ i, i < l → P i = true) ∧ (∀ i, r ≤ i → i < n → P i = false))
    (Q := fun c st' => st' = st ∧ ∃ l k, c = (none, l, k) ∧ k ≤ n ∧ (∀ i, i < k → P i = true) ∧ (∀ i, k ≤ i → i < n → P i = false)) ?_ ?_ ⟨rfl, lo, hi, rfl, hle, hn, by omega, hlo, hhi⟩) ?_)
   ·rintro x c st' _ hx ⟨rfl, l, r, rfl, a1, a2, a3, a4, a5⟩
    dsimp only
    split
    ·have : l = r := by omega
     subst this
     exact wpS_pure ⟨rfl, l, l, rfl, a2, a4, a5⟩
    ·refine wpS_bind (hb (l + (r - l) / 2) (by omega) ?_)
     dsimp only
     cases e : P (l + (r - l) / 2) with
     | true => exact wpS_pure ⟨rfl, _, r, rfl, by omega, a2, by omega, fun i hi => mono i _ (by omega) (by omega) e, a5⟩
     | false => exact wpS_pure ⟨rfl, l, _, rfl, by omega, by omega, by omega, a4, fun i hi hn => nmono _ i hi hn e⟩
   ·rintro c st' ⟨rfl, l, r, rfl, a1, a2, a3, a4, a5⟩
    have : l = r := by omega
    subst this
    exact ⟨rfl, l, l, rfl, a2, a4, a5⟩
   ·rintro c st' ⟨rfl, l, k, rfl, a2, a4, a5⟩
    exact wpS_pure (h k a2 a4 a5)
 | false =>
  rw [if_neg Bool.false_ne_true]
  refine wpS_bind (wpS_mono (wpS_forRange (I := fun x c st' => st' = st ∧ ∃ l o, c = (none, l, o) ∧ l < o ∧ x < o ∧ l ≤ hint ∧ (∀ i, hint - l ≤ i → i < n → P i = false))
   (Q := fun c st' => st' = st ∧ ∃ l o, c = (none, l, o) ∧ l < o ∧ l ≤ hint ∧ (∀ i, hint - l ≤ i → i < n → P i = false) ∧ (hint + 1 ≤ o ∨ P (hint - o) = true)) ?step ?fin ⟨rfl, 0, 1, rfl, by omega, by omega, by omega, fun i hi hn => nmono hint i (by omega) hn hr⟩) ?post)
  case step =>
   rintro x c st' _ hx ⟨rfl, l, o, rfl, h1, h2, h3, h4⟩
   dsimp only
   split
   ·exact wpS_pure ⟨rfl, l, o, rfl, h1, h3, h4, .inl (by omega)⟩
   ·refine wpS_bind (hb (hint - o) (by omega) ?_)
    dsimp only
    cases e : P (hint - o) with
    | true => exact wpS_pure ⟨rfl, l, o, rfl, h1, h3, h4, .inr e⟩
    | false => exact wpS_pure ⟨rfl, o, 2 * o + 1, rfl, by omega, by omega, by omega, fun i hi hn => nmono _ i hi hn e⟩
  case fin =>
   rintro c st' ⟨rfl, l, o, rfl, h1, h2, h3, h4⟩
   exact ⟨rfl, l, o, rfl, h1, h3, h4, .inl (by omega)⟩
  case post =>
   rintro c st ⟨rfl, l, o, rfl, h1, h3, h4, h5⟩
   dsimp only
   have hlo : ∀ i, i < hint + 1 - min o (hint + 1) → P i = true := fun i hi => by
    rcases h5 with y | y
    ·omega
    ·exact mono i (hint - o) (by omega) (by omega) y
   have hhi : ∀ i, hint - l ≤ i → i < n → P i = false := h4
   have hle : hint + 1 - min o (hint + 1) ≤ hint - l := by omega
   have hn : hint - l ≤ n := by omega
   generalize hint + 1 - min o (hint + 1) = lo at hlo hle ⊢
   generalize hint - l = hi at hhi hle hn ⊢
   refine wpS_bind (wpS_mono (wpS_forRange (I := fun x c st' => st' = st ∧ ∃ l r, c = (none, l, r) ∧ l ≤ r ∧ r ≤ n ∧ r - l ≤ n - x ∧ (∀ i, i < l → P i = true) ∧ (∀ i, r ≤ i → i < n → P i = false))
    (Q := fun c st' => st' = st ∧ ∃ l k, c = (none, l, k) ∧ k ≤ n ∧ (∀ i, i < k → P i = true) ∧ (∀ i, k ≤ i → i < n → P i = false)) ?_ ?_ ⟨rfl, lo, hi, rfl, hle, hn, by omega, hlo, hhi⟩) ?_)
   ·rintro x c st' _ hx ⟨rfl, l, r, rfl, a1, a2, a3, a4, a5⟩
    dsimp only
    split
    ·have : l = r := by omega
     subst this
     exact wpS_pure ⟨rfl, l, l, rfl, a2, a4, a5⟩
    ·refine wpS_bind (hb (l + (r - l) / 2) (by omega) ?_)
     dsimp only
     cases e : P (l + (r - l) / 2) with
     | true => exact wpS_pure ⟨rfl, _, r, rfl, by omega, a2, by omega, fun i hi => mono i _ (by omega) (by omega) e, a5⟩
     | false => exact wpS_pure ⟨rfl, l, _, rfl, by omega, by omega, by omega, a4, fun i hi hn => nmono _ i hi hn e⟩
   ·rintro c st' ⟨rfl, l, r, rfl, a1, a2, a3, a4, a5⟩
    have : l = r := by omega
    subst this
    exact ⟨rfl, l, l, rfl, a2, a4, a5⟩
   ·rintro c st' ⟨rfl, l, k, rfl, a2, a4, a5⟩
    exact wpS_pure (h k a2 a4 a5)
end
end TS
set_option maxHeartbeats 1000000
namespace TS
open PySem PyProof.Rows
variable {κ : KeyKind}
def Le (κ : KeyKind) (p q : Keyed) : Prop := κ.kle (ky κ p) (ky κ q)
theorem Le.refl (p : Keyed) : Le κ p p := κ.irrefl _
theorem Le.trans {p q r : Keyed} (h : Le κ p q) (k : Le κ q r) : Le κ p r := KeyOrd.kle_trans h k
theorem le_of_lt {p q : Keyed} (h : κ.blt (ky κ p) (ky κ q) = true) : Le κ p q := KeyOrd.kle_of_klt h
theorem le_of_nlt {p q : Keyed} (h : κ.blt (ky κ q) (ky κ p) = false) : Le κ p q := h
section
variable {prog : Program} {w : World} {A : Around} {E : Value → Shared → Prop} {s : Shared}
theorem gal2_ok (hO : κ.OneLt) {left : Bool} {key : Keyed} {arr : Array Keyed} {base n hint : Nat} {st : SortSt} {Q : Option Nat → SortSt → Prop} (L : List Keyed) (hk : kindOf st = oneType') (h0 : hint < n) (hkey : Kd κ key)
  (hL : (arr.toList.drop base).take n = L) (hlen : L.length = n) (hKd : ∀ p ∈ L, Kd κ p) (hs : L.Pairwise (Le κ))
  (h : ∀ k, k ≤ n → (∀ p ∈ L.take k, bey κ left key p = true) → (∀ p ∈ L.drop k, bey κ left key p = false) → Q (some k) st) : wpS (model prog w) A E s (gal left key arr base n hint) Q st := by
 have hg : ∀ i, i < n → arr[base + i]? = L[i]? := fun i hi => by
  rw [← hL, List.getElem?_take_of_lt hi, List.getElem?_drop]
  simp
 refine gal_ok hO hk h0 hkey (fun i => (L[i]?).elim false (bey κ left key)) (fun i hi => ?_) (fun i j hij hj e => ?_) (fun k hk1 hk2 hk3 => h k hk1 (fun p hp => ?_) fun p hp => ?_)
 ·have hi' : i < L.length := by omega
  refine ⟨L[i], by rw [hg i hi]; exact List.getElem?_eq_getElem hi', hKd _ (List.getElem_mem hi'), ?_⟩
  rw [List.getElem?_eq_getElem hi']
  rfl
 ·have hj' : j < L.length := by omega
  have hi' : i < L.length := by omega
  rw [List.getElem?_eq_getElem hj'] at e
  rw [List.getElem?_eq_getElem hi']
  have e' : bey κ left key L[j] = true := e
  show bey κ left key L[i] = true
  rcases Nat.lt_or_ge i j with y | y
  ·have hle : Le κ L[i] L[j] := List.pairwise_iff_getElem.mp hs i j hi' hj' y
   cases left with
   | true => exact KeyOrd.klt_of_kle_of_klt hle e'
   | false =>
    have e2 : (!κ.blt (ky κ key) (ky κ L[j])) = true := e'
    have e3 : κ.blt (ky κ key) (ky κ L[j]) = false := by simpa using e2
    have : κ.blt (ky κ key) (ky κ L[i]) = false := Le.trans hle (q := L[j]) (r := key) e3
    show (!κ.blt (ky κ key) (ky κ L[i])) = true
    rw [this]
    rfl
  ·have : i = j := by omega
   subst this
   exact e'
 ·obtain ⟨i, hi, rfl⟩ := List.mem_iff_getElem.mp hp
  rw [List.length_take] at hi
  have := hk2 i (by omega)
  rw [List.getElem?_eq_getElem (show i < L.length by omega)] at this
  rw [List.getElem_take]
  exact this
 ·obtain ⟨i, hi, rfl⟩ := List.mem_iff_getElem.mp hp
  rw [List.length_drop] at hi
  have := hk3 (k + i) (by omega) (by omega)
  rw [List.getElem?_eq_getElem (show k + i < L.length by omega)] at this
  rw [List.getElem_drop]
  exact this
end
structure Mg (κ : KeyKind) (A B : List Keyed) (ia ib : Nat) (out : List Keyed) : Prop where
 perm : out.Perm (A.take ia ++ B.take ib)
 pw : out.Pairwise (Le κ)
 low : ∀ o ∈ out, ∀ x, x ∈ A.drop ia ∨ x ∈ B.drop ib → Le κ o x
theorem Mg.symm {A B : List Keyed} {ia ib : Nat} {out : List Keyed} (h : Mg κ A B ia ib out) : Mg κ B A ib ia out := ⟨h.perm.trans List.perm_append_comm, h.pw, fun o ho x hx => h.low o ho x hx.symm⟩
theorem Mg.addA {A B : List Keyed} {ia ib : Nat} {out : List Keyed} (h : Mg κ A B ia ib out) (hA : A.Pairwise (Le κ)) (k : Nat) (hk : ∀ x ∈ (A.drop ia).take k, ∀ y ∈ B.drop ib, Le κ x y) : Mg κ A B (ia + k) ib (out ++ (A.drop ia).take k) := by
 have hd : (A.drop ia).Pairwise (Le κ) := hA.sublist (List.drop_sublist _ _)
 have hsp : (A.drop ia).take k ++ (A.drop ia).drop k = A.drop ia := List.take_append_drop _ _
 refine ⟨?_, ?_, ?_⟩
 ·rw [List.take_add]
  refine (h.perm.append_right _).trans ?_
  rw [List.append_assoc, List.append_assoc]
  exact List.Perm.append_left _ List.perm_append_comm
 ·rw [List.pairwise_append]
  exact ⟨h.pw, hd.sublist (List.take_sublist _ _), fun o ho x hx => h.low o ho x (.inl (List.mem_of_mem_take hx))⟩
 ·intro o ho x hx
  have hx' : x ∈ (A.drop ia).drop k ∨ x ∈ B.drop ib := by
   rw [List.drop_drop]
   exact hx
  rcases List.mem_append.mp ho with y | y
  ·exact h.low o y x (hx'.imp List.mem_of_mem_drop id)
  ·rcases hx' with z | z
   ·rw [← hsp] at hd
    exact (List.pairwise_append.mp hd).2.2 o y x z
   ·exact hk o y x z
theorem Mg.addB {A B : List Keyed} {ia ib : Nat} {out : List Keyed} (h : Mg κ A B ia ib out) (hB : B.Pairwise (Le κ)) (k : Nat) (hk : ∀ x ∈ (B.drop ib).take k, ∀ y ∈ A.drop ia, Le κ x y) : Mg κ A B ia (ib + k) (out ++ (B.drop ib).take k) := (h.symm.addA hB k hk).symm
theorem Mg.done {A B : List Keyed} {ia ib : Nat} {out : List Keyed} (h : Mg κ A B ia ib out) (ha : A.length ≤ ia) (hb : B.length ≤ ib) : out.Perm (A ++ B) ∧ out.Pairwise (Le κ) := by
 refine ⟨?_, h.pw⟩
 have := h.perm
 rwa [List.take_of_length_le ha, List.take_of_length_le hb] at this
theorem Mg.restAB {A B : List Keyed} {ia ib : Nat} {out : List Keyed} (h : Mg κ A B ia ib out) (hA : A.Pairwise (Le κ)) (hB : B.Pairwise (Le κ)) (hk : ∀ x ∈ A.drop ia, ∀ y ∈ B.drop ib, Le κ x y) :
  (out ++ A.drop ia ++ B.drop ib).Perm (A ++ B) ∧ (out ++ A.drop ia ++ B.drop ib).Pairwise (Le κ) := by
 have h1 := h.addA hA A.length (fun x hx y hy => hk x (List.mem_of_mem_take hx) y hy)
 rw [List.take_of_length_le (by rw [List.length_drop]; omega)] at h1
 have h2 := h1.addB hB B.length (fun x hx y hy => by
  rw [List.drop_eq_nil_of_le (by omega)] at hy
  cases hy)
 rw [List.take_of_length_le (by rw [List.length_drop]; omega)] at h2
 exact h2.done (by omega) (by omega)
theorem Mg.restBA {A B : List Keyed} {ia ib : Nat} {out : List Keyed} (h : Mg κ A B ia ib out) (hA : A.Pairwise (Le κ)) (hB : B.Pairwise (Le κ)) (hk : ∀ x ∈ B.drop ib, ∀ y ∈ A.drop ia, Le κ x y) :
  (out ++ B.drop ib ++ A.drop ia).Perm (A ++ B) ∧ (out ++ B.drop ib ++ A.drop ia).Pairwise (Le κ) := by
 obtain ⟨h1, h2⟩ := h.symm.restAB hB hA hk
 exact ⟨h1.trans List.perm_append_comm, h2⟩
end TS
set_option maxHeartbeats 2000000
namespace TS
open PySem PyProof.Rows
variable {κ : KeyKind}
def mlo : Array Keyed → Array Keyed → StateT SortSt Sem (Array Keyed) := sortPriv% PySem.Builtin.mergeLo
def Gs (st st' : SortSt) : Prop := ∃ g, st' = SortSt.mk' (kindOf st) (arrOf st) (pendingOf st) g (failedOf st)
theorem Gs.refl (st : SortSt) : Gs st st := ⟨gallopOf st, rfl⟩
theorem Gs.kind {st st' : SortSt} (h : Gs st st') : kindOf st' = kindOf st := by
 obtain ⟨g, rfl⟩ := h
 rfl
theorem Gs.set {st st' : SortSt} (h : Gs st st') (g : Nat) : Gs st (SortSt.mk' (kindOf st') (arrOf st') (pendingOf st') g (failedOf st')) := by
 obtain ⟨g', rfl⟩ := h
 exact ⟨g, rfl⟩
theorem wpS_ite {M : Model} {A : Around} {E : Value → Shared → Prop} {s : Shared} {σ α : Type} {c : Prop} [Decidable c] {m n : StateT σ Sem α} {Q : α → σ → Prop} {st : σ} (h : c → wpS M A E s m Q st) (k : ¬ c → wpS M A E s n Q st) : wpS M A E s (if c then m else n) Q st := by
 by_cases e : c
 ·rw [if_pos e]
  exact h e
 ·rw [if_neg e]
  exact k e
theorem nbeq {i j : Nat} (h : ¬ (i == j) = true) : ¬ i = j := fun z => h (by simp [z])
def Good (κ : KeyKind) (a b : Array Keyed) (R : Array Keyed) : Prop := R.toList.Perm (a.toList ++ b.toList) ∧ R.toList.Pairwise (Le κ)
theorem ext_to (a : Array Keyed) (i : Nat) : (a.extract i).toList = a.toList.drop i := by
 rw [Array.toList_extract]
 exact List.take_of_length_le (by simp)
theorem ext_k (a : Array Keyed) (i k : Nat) : (a.extract i (i + k)).toList = (a.toList.drop i).take k := by
 rw [Array.toList_extract, List.extract_eq_take_drop, Nat.add_sub_cancel_left]
theorem drop_at {a : Array Keyed} {i : Nat} (h : i < a.size) : a.toList.drop i = a[i] :: a.toList.drop (i + 1) := by
 rw [List.drop_eq_getElem_cons (by simpa using h)]
 simp
theorem mem_at {a : Array Keyed} {i : Nat} (h : i < a.size) : a[i] ∈ a.toList := by simp
section
variable {prog : Program} {w : World} {A : Around} {E : Value → Shared → Prop} {s : Shared}
theorem mlo_ok (hO : κ.OneLt) {a b : Array Keyed} {st : SortSt} {Q : Array Keyed → SortSt → Prop} (hk : kindOf st = oneType') (hKa : ∀ p ∈ a.toList, Kd κ p) (hKb : ∀ p ∈ b.toList, Kd κ p)
  (hA : a.toList.Pairwise (Le κ)) (hB : b.toList.Pairwise (Le κ)) (ha0 : 0 < a.size) (hb0 : 0 < b.size) (hfirst : ∀ x ∈ a.toList, Le κ b[0] x) (hlast : ∀ y ∈ b.toList, Le κ y a[a.size - 1])
  (h : ∀ R st', Gs st st' → Good κ a b R → Q R st') : wpS (model prog w) A E s (mlo a b) Q st := by
 have hM0 : Mg κ a.toList b.toList 0 1 [b[0]] := by
  have h0 : Mg κ a.toList b.toList 0 0 [] := ⟨by simp, List.Pairwise.nil, fun o ho => nomatch ho⟩
  have := h0.addB hB 1 (fun x hx y hy => by
   rw [drop_at hb0] at hx
   have hx' : x = b[0] := by simpa using hx
   rw [hx']
   exact hfirst y (List.mem_of_mem_drop hy))
  rw [drop_at hb0] at this
  simpa using this
 have oDone : ∀ {out : Array Keyed} {ia ib : Nat}, Mg κ a.toList b.toList ia ib out.toList → (b.size ≤ ib ∨ a.size ≤ ia) → Good κ a b (out ++ a.extract ia ++ b.extract ib) := fun {out ia ib} hM hor => by
  have := hM.restAB hA hB (fun x hx y hy => by
   rcases hor with z | z
   ·rw [List.drop_eq_nil_of_le (by simpa using z)] at hy
    cases hy
   ·rw [List.drop_eq_nil_of_le (by simpa using z)] at hx
    cases hx)
  unfold Good
  rw [Array.toList_append, Array.toList_append, ext_to, ext_to]
  exact this
 have oLast : ∀ {out : Array Keyed} {ia ib : Nat}, Mg κ a.toList b.toList ia ib out.toList → ia + 1 = a.size → Good κ a b (out ++ b.extract ib ++ a.extract ia) := fun {out ia ib} hM hia => by
  have := hM.restBA hA hB (fun x hx y hy => by
   rw [drop_at (show ia < a.size by omega), List.drop_eq_nil_of_le (by simp; omega)] at hy
   have hy' : y = a[ia] := by simpa using hy
   rw [hy']
   have := hlast x (List.mem_of_mem_drop hx)
   have e : a.size - 1 = ia := by omega
   simpa only [e] using this)
  unfold Good
  rw [Array.toList_append, Array.toList_append, ext_to, ext_to]
  exact this
 have pushB : ∀ {out : Array Keyed} {ia ib : Nat} (hib : ib < b.size), Mg κ a.toList b.toList ia ib out.toList → (∀ y ∈ a.toList.drop ia, Le κ b[ib] y) → Mg κ a.toList b.toList ia (ib + 1) (out.push b[ib]).toList := fun {out ia ib} hib hM hle => by
  have := hM.addB hB 1 (fun x hx y hy => by
   rw [drop_at hib] at hx
   have hx' : x = b[ib] := by simpa using hx
   rw [hx']
   exact hle y hy)
  rw [drop_at hib] at this
  simpa using this
 have pushA : ∀ {out : Array Keyed} {ia ib : Nat} (hia : ia < a.size), Mg κ a.toList b.toList ia ib out.toList → (∀ y ∈ b.toList.drop ib, Le κ a[ia] y) → Mg κ a.toList b.toList (ia + 1) ib (out.push a[ia]).toList := fun {out ia ib} hia hM hle => by
  have := hM.addA hA 1 (fun x hx y hy => by
   rw [drop_at hia] at hx
   have hx' : x = a[ia] := by simpa using hx
   rw [hx']
   exact hle y hy)
  rw [drop_at hia] at this
  simpa using this
 have headA : ∀ {ia : Nat} (hia : ia < a.size), ∀ y ∈ a.toList.drop ia, Le κ a[ia] y := fun {ia} hia y hy => by
  have hd : (a.toList.drop ia).Pairwise (Le κ) := hA.sublist (List.drop_sublist _ _)
  rw [drop_at hia] at hd hy
  rcases List.mem_cons.mp hy with rfl | z
  ·exact Le.refl _
  ·exact (List.pairwise_cons.mp hd).1 y z
 have headB : ∀ {ib : Nat} (hib : ib < b.size), ∀ y ∈ b.toList.drop ib, Le κ b[ib] y := fun {ib} hib y hy => by
  have hd : (b.toList.drop ib).Pairwise (Le κ) := hB.sublist (List.drop_sublist _ _)
  rw [drop_at hib] at hd hy
  rcases List.mem_cons.mp hy with rfl | z
  ·exact Le.refl _
  ·exact (List.pairwise_cons.mp hd).1 y z
 refine wpS_bind (wpS_lift (wpAny_rule ⟨rfl, ?_⟩))
 refine wpS_bind (elem_ok (Array.getElem?_eq_getElem hb0) ?_)
 refine wpS_ite (fun e => wpS_pure (h _ _ (Gs.refl _) (oDone (out := #[b[0]]) hM0 (.inl (by have e' : 1 = b.size := eq_of_beq e; omega))))) fun nb => ?_
 refine wpS_ite (fun e => wpS_pure (h _ _ (Gs.refl _) (oLast (out := #[b[0]]) hM0 (eq_of_beq e)))) fun na => ?_
 have nb' : 1 < b.size := by
  have : ¬ 1 = b.size := nbeq nb
  omega
 have na' : 0 + 1 < a.size := by
  have : ¬ 0 + 1 = a.size := nbeq na
  omega
 refine wpS_bind (wpS_get ?_)
 refine wpS_bind (wpS_mono (wpS_forRange (I := fun x c st' => Gs st st' ∧ ∃ out ia ib mg, c = (none, out, ia, ib, mg) ∧ ia + 1 < a.size ∧ ib < b.size ∧ Mg κ a.toList b.toList ia ib out.toList ∧ x ≤ ia + ib)
  (Q := fun c st' => Gs st st' ∧ ∃ R r, c = (some R, r) ∧ Good κ a b R) ?step ?fin ⟨Gs.refl _, _, _, _, _, rfl, na', nb', hM0, by omega⟩) ?post)
 case post =>
  rintro c st' ⟨hG, R, r, rfl, hR⟩
  exact wpS_pure (h R st' hG hR)
 case fin =>
  rintro c st' ⟨hG, out, ia, ib, mg, rfl, h1, h2, h3, h4⟩
  omega
 case step =>
  rintro x c st1 _ hx ⟨hG, out, ia, ib, mg, rfl, h1, h2, hM, h4⟩
  refine wpS_bind (wpS_mono (wpS_forRange (I := fun y c st' => Gs st st' ∧ ∃ out ia ib ac bc, c = (none, out, ia, ib, ac, bc) ∧ ia + 1 < a.size ∧ ib < b.size ∧ Mg κ a.toList b.toList ia ib out.toList ∧ x + y ≤ ia + ib)
   (Q := fun c st' => Gs st st' ∧ ((∃ R r, c = (some R, r) ∧ Good κ a b R) ∨ ∃ out ia ib ac bc, c = (none, out, ia, ib, ac, bc) ∧ ia + 1 < a.size ∧ ib < b.size ∧ Mg κ a.toList b.toList ia ib out.toList ∧ x + 1 ≤ ia + ib)) ?step1 ?fin1 ⟨hG, _, _, _, _, _, rfl, h1, h2, hM, by omega⟩) ?post1)
  case fin1 =>
   rintro c st' ⟨hG, out, ia, ib, ac, bc, rfl, h1, h2, h3, h4⟩
   omega
  case step1 =>
   rintro y c st2 _ hy ⟨hG2, out, ia, ib, ac, bc, rfl, h1, h2, hM, h4⟩
   have h1' : ia < a.size := by omega
   refine wpS_bind (elem_ok (Array.getElem?_eq_getElem h2) ?_)
   refine wpS_bind (elem_ok (Array.getElem?_eq_getElem h1') ?_)
   refine wpS_bind (lt_ok hO (by rw [hG2.kind]; exact hk) (hKb _ (mem_at h2)) (hKa _ (mem_at h1')) ?_)
   refine wpS_ite (fun e => ?_) (fun e => ?_)
   ·refine wpS_bind (elem_ok (Array.getElem?_eq_getElem h2) ?_)
    have hM' := pushB h2 hM (fun y hy => (le_of_lt e).trans (headA h1' y hy))
    refine wpS_ite (fun e1 => wpS_pure ⟨hG2, .inl ⟨_, _, rfl, oDone (ia := ia) (ib := ib + 1) hM' (.inl (by have e1' : ib + 1 = b.size := eq_of_beq e1; omega))⟩⟩) (fun e1 => ?_)
    have e1' : ib + 1 < b.size := by
     have : ¬ ib + 1 = b.size := nbeq e1
     omega
    exact wpS_ite (fun _ => wpS_pure ⟨hG2, .inr ⟨_, ia, ib + 1, _, _, rfl, h1, e1', hM', by omega⟩⟩) (fun _ => wpS_pure ⟨hG2, _, ia, ib + 1, _, _, rfl, h1, e1', hM', by omega⟩)
   ·have e : κ.blt (ky κ b[ib]) (ky κ a[ia]) = false := by simpa using e
    refine wpS_bind (elem_ok (Array.getElem?_eq_getElem h1') ?_)
    have hM' := pushA h1' hM (fun y hy => (le_of_nlt e).trans (headB h2 y hy))
    refine wpS_ite (fun e1 => wpS_pure ⟨hG2, .inl ⟨_, _, rfl, oLast hM' (eq_of_beq e1)⟩⟩) (fun e1 => ?_)
    have e1' : ia + 1 + 1 < a.size := by
     have : ¬ ia + 1 + 1 = a.size := nbeq e1
     omega
    exact wpS_ite (fun _ => wpS_pure ⟨hG2, .inr ⟨_, ia + 1, ib, _, _, rfl, e1', h2, hM', by omega⟩⟩) (fun _ => wpS_pure ⟨hG2, _, ia + 1, ib, _, _, rfl, e1', h2, hM', by omega⟩)
  case post1 =>
   rintro c st2 ⟨hG2, hc⟩
   rcases hc with ⟨R, r, rfl, hR⟩ | ⟨out, ia, ib, ac, bc, rfl, h1, h2, hM, h4⟩
   ·exact wpS_pure ⟨hG2, R, _, rfl, hR⟩
   refine wpS_bind (wpS_lift (wpAny_rule ⟨rfl, ?_⟩))
   refine wpS_bind (wpS_mono (wpS_forRange (I := fun y c st' => Gs st st' ∧ ∃ out ia ib mg ac bc, c = (none, out, ia, ib, mg, ac, bc) ∧ ia + 1 < a.size ∧ ib < b.size ∧ Mg κ a.toList b.toList ia ib out.toList ∧ x + 1 + y ≤ ia + ib)
    (Q := fun c st' => Gs st st' ∧ ((∃ R r, c = (some R, r) ∧ Good κ a b R) ∨ ∃ out ia ib mg ac bc, c = (none, out, ia, ib, mg, ac, bc) ∧ ia + 1 < a.size ∧ ib < b.size ∧ Mg κ a.toList b.toList ia ib out.toList ∧ x + 1 ≤ ia + ib)) ?step2 ?fin2 ⟨hG2, _, ia, ib, _, _, _, rfl, h1, h2, hM, by omega⟩) ?post2)
   case fin2 =>
    rintro c st' ⟨hG, out, ia, ib, mg, ac, bc, rfl, h1, h2, h3, h4⟩
    omega
   case post2 =>
    rintro c st3 ⟨hG3, hc⟩
    rcases hc with ⟨R, r, rfl, hR⟩ | ⟨out, ia, ib, mg, ac, bc, rfl, h1, h2, hM, h4⟩
    ·exact wpS_pure ⟨hG3, R, _, rfl, hR⟩
    ·exact wpS_bind (wpS_modify (wpS_pure ⟨hG3.set _, _, ia, ib, _, rfl, h1, h2, hM, by omega⟩))
   case step2 =>
   rintro y c st3 _ hy ⟨hG3, out, ia, ib, mg, ac, bc, rfl, h1, h2, hM, h4⟩
   refine wpS_ite (fun _ => ?_) (fun _ => ?_) <;> (
   refine wpS_bind (wpS_modify ?_)
   have hGg : ∀ g, Gs st (SortSt.mk' (kindOf st3) (arrOf st3) (pendingOf st3) g (failedOf st3)) := fun g => hG3.set g
   have h1' : ia < a.size := by omega
   refine wpS_bind (elem_ok (Array.getElem?_eq_getElem h2) ?_)
   refine wpS_bind (gal2_ok hO (a.toList.drop ia) ((hGg _).kind.trans hk) (by show 0 < a.size - ia; omega) (hKb _ (mem_at h2)) (List.take_of_length_le (by simp)) (by simp) (fun p hp => hKa p (List.mem_of_mem_drop hp)) (hA.sublist (List.drop_sublist _ _)) fun k q1 q2 q3 => ?_)
   have hle1 : ∀ x ∈ (a.toList.drop ia).take k, Le κ x b[ib] := fun x hx => by
    have : (!κ.blt (ky κ b[ib]) (ky κ x)) = true := q2 x hx
    exact le_of_nlt (by simpa using this)
   have hnx : ∀ x ∈ a.toList.drop (ia + k), Le κ b[ib] x := fun x hx => by
    have : (!κ.blt (ky κ b[ib]) (ky κ x)) = false := q3 x (by rw [List.drop_drop]; exact hx)
    exact le_of_lt (by simpa using this)
   have hMk : Mg κ a.toList b.toList (ia + k) ib (out ++ a.extract ia (ia + k)).toList := by
    rw [Array.toList_append, ext_k]
    exact hM.addA hA k (fun x hx y hy => (hle1 x hx).trans (headB h2 y hy))
   have q1' : ia + k ≤ a.size := by
    have : k ≤ a.size - ia := q1
    omega
   refine wpS_ite (fun hk0 => ?_) (fun hk0 => ?_)
   ·refine wpS_ite (fun e1 => wpS_pure ⟨hGg _, .inl ⟨_, _, rfl, oLast hMk (eq_of_beq e1)⟩⟩) (fun e0 => ?_)
    refine wpS_ite (fun e1 => wpS_pure ⟨hGg _, .inl ⟨_, _, rfl, oDone (ia := ia + k) (ib := ib) hMk (.inr (by have e1' : ia + k = a.size := eq_of_beq e1; omega))⟩⟩) (fun e1 => ?_)
    have hj1 : ia + k + 1 < a.size := by
     have : ¬ ia + k + 1 = a.size := nbeq e0
     have : ¬ ia + k = a.size := nbeq e1
     omega
    have hja : (ia + k) < a.size := by omega
    refine wpS_bind (elem_ok (Array.getElem?_eq_getElem h2) ?_)
    have hM2 := pushB h2 hMk hnx
    refine wpS_ite (fun e1 => wpS_pure ⟨hGg _, .inl ⟨_, _, rfl, oDone (ia := (ia + k)) (ib := ib + 1) hM2 (.inl (by have e1' : ib + 1 = b.size := eq_of_beq e1; omega))⟩⟩) (fun e1 => ?_)
    have e2 : ib + 1 < b.size := by
     have : ¬ ib + 1 = b.size := nbeq e1
     omega
    refine wpS_bind (elem_ok (Array.getElem?_eq_getElem hja) ?_)
    refine wpS_bind (gal2_ok hO (b.toList.drop (ib + 1)) ((hGg _).kind.trans hk) (by show 0 < b.size - (ib + 1); omega) (hKa _ (mem_at hja)) (List.take_of_length_le (by simp)) (by simp) (fun p hp => hKb p (List.mem_of_mem_drop hp)) (hB.sublist (List.drop_sublist _ _)) fun k2 q1 q2 q3 => ?_)
    have hlt2 : ∀ x ∈ (b.toList.drop (ib + 1)).take k2, Le κ x a[(ia + k)] := fun x hx => le_of_lt (q2 x hx)
    have hge2 : ∀ x ∈ b.toList.drop (ib + 1 + k2), Le κ a[(ia + k)] x := fun x hx => le_of_nlt (q3 x (by rw [List.drop_drop]; exact hx))
    have hM3 : Mg κ a.toList b.toList (ia + k) (ib + 1 + k2) ((out ++ a.extract ia (ia + k)).push b[ib] ++ b.extract (ib + 1) (ib + 1 + k2)).toList := by
     rw [Array.toList_append, ext_k]
     exact hM2.addB hB k2 (fun x hx y hy => (hlt2 x hx).trans (headA hja y hy))
    have q1' : ib + 1 + k2 ≤ b.size := by
     have : k2 ≤ b.size - (ib + 1) := q1
     omega
    refine wpS_ite (fun hk2 => ?_) (fun hk2 => ?_)
    ·refine wpS_ite (fun e1 => wpS_pure ⟨hGg _, .inl ⟨_, _, rfl, oDone (ia := (ia + k)) (ib := ib + 1 + k2) hM3 (.inl (by have e1' : ib + 1 + k2 = b.size := eq_of_beq e1; omega))⟩⟩) (fun e1 => ?_)
     have hjb : ib + 1 + k2 < b.size := by
      have : ¬ ib + 1 + k2 = b.size := nbeq e1
      omega
     refine wpS_bind (elem_ok (Array.getElem?_eq_getElem hja) ?_)
     have hM4 := pushA hja hM3 hge2
     refine wpS_ite (fun e1 => wpS_pure ⟨hGg _, .inl ⟨_, _, rfl, oLast hM4 (eq_of_beq e1)⟩⟩) (fun e1 => ?_)
     have e1' : (ia + k) + 1 + 1 < a.size := by
      have : ¬ (ia + k) + 1 + 1 = a.size := nbeq e1
      omega
     exact wpS_ite (fun _ => wpS_pure ⟨hGg _, .inr ⟨_, (ia + k) + 1, (ib + 1 + k2), _, _, _, rfl, e1', hjb, hM4, by omega⟩⟩) (fun _ => wpS_pure ⟨hGg _, _, (ia + k) + 1, (ib + 1 + k2), _, _, _, rfl, e1', hjb, hM4, by omega⟩)
    ·have hk0 : k2 = 0 := by omega
     subst hk0
     refine wpS_bind (elem_ok (Array.getElem?_eq_getElem hja) ?_)
     have hM4 := pushA hja hM2 hge2
     refine wpS_ite (fun e1 => wpS_pure ⟨hGg _, .inl ⟨_, _, rfl, oLast hM4 (eq_of_beq e1)⟩⟩) (fun e1 => ?_)
     have e1' : (ia + k) + 1 + 1 < a.size := by
      have : ¬ (ia + k) + 1 + 1 = a.size := nbeq e1
      omega
     exact wpS_ite (fun _ => wpS_pure ⟨hGg _, .inr ⟨_, (ia + k) + 1, (ib + 1), _, _, _, rfl, e1', e2, hM4, by omega⟩⟩) (fun _ => wpS_pure ⟨hGg _, _, (ia + k) + 1, (ib + 1), _, _, _, rfl, e1', e2, hM4, by omega⟩)
   ·have hk0 : k = 0 := by omega
    subst hk0
    have hja : ia < a.size := by omega
    refine wpS_bind (elem_ok (Array.getElem?_eq_getElem h2) ?_)
    have hM2 := pushB h2 hM hnx
    refine wpS_ite (fun e1 => wpS_pure ⟨hGg _, .inl ⟨_, _, rfl, oDone (ia := ia) (ib := ib + 1) hM2 (.inl (by have e1' : ib + 1 = b.size := eq_of_beq e1; omega))⟩⟩) (fun e1 => ?_)
    have e2 : ib + 1 < b.size := by
     have : ¬ ib + 1 = b.size := nbeq e1
     omega
    refine wpS_bind (elem_ok (Array.getElem?_eq_getElem hja) ?_)
    refine wpS_bind (gal2_ok hO (b.toList.drop (ib + 1)) ((hGg _).kind.trans hk) (by show 0 < b.size - (ib + 1); omega) (hKa _ (mem_at hja)) (List.take_of_length_le (by simp)) (by simp) (fun p hp => hKb p (List.mem_of_mem_drop hp)) (hB.sublist (List.drop_sublist _ _)) fun k2 q1 q2 q3 => ?_)
    have hlt2 : ∀ x ∈ (b.toList.drop (ib + 1)).take k2, Le κ x a[ia] := fun x hx => le_of_lt (q2 x hx)
    have hge2 : ∀ x ∈ b.toList.drop (ib + 1 + k2), Le κ a[ia] x := fun x hx => le_of_nlt (q3 x (by rw [List.drop_drop]; exact hx))
    have hM3 : Mg κ a.toList b.toList ia (ib + 1 + k2) (out.push b[ib] ++ b.extract (ib + 1) (ib + 1 + k2)).toList := by
     rw [Array.toList_append, ext_k]
     exact hM2.addB hB k2 (fun x hx y hy => (hlt2 x hx).trans (headA hja y hy))
    have q1' : ib + 1 + k2 ≤ b.size := by
     have : k2 ≤ b.size - (ib + 1) := q1
     omega
    refine wpS_ite (fun hk2 => ?_) (fun hk2 => ?_)
    ·refine wpS_ite (fun e1 => wpS_pure ⟨hGg _, .inl ⟨_, _, rfl, oDone (ia := ia) (ib := ib + 1 + k2) hM3 (.inl (by have e1' : ib + 1 + k2 = b.size := eq_of_beq e1; omega))⟩⟩) (fun e1 => ?_)
     have hjb : ib + 1 + k2 < b.size := by
      have : ¬ ib + 1 + k2 = b.size := nbeq e1
      omega
     refine wpS_bind (elem_ok (Array.getElem?_eq_getElem hja) ?_)
     have hM4 := pushA hja hM3 hge2
     refine wpS_ite (fun e1 => wpS_pure ⟨hGg _, .inl ⟨_, _, rfl, oLast hM4 (eq_of_beq e1)⟩⟩) (fun e1 => ?_)
     have e1' : ia + 1 + 1 < a.size := by
      have : ¬ ia + 1 + 1 = a.size := nbeq e1
      omega
     exact wpS_ite (fun _ => wpS_pure ⟨hGg _, .inr ⟨_, ia + 1, (ib + 1 + k2), _, _, _, rfl, e1', hjb, hM4, by omega⟩⟩) (fun _ => wpS_pure ⟨hGg _, _, ia + 1, (ib + 1 + k2), _, _, _, rfl, e1', hjb, hM4, by omega⟩)
    ·have hk0 : k2 = 0 := by omega
     subst hk0
     refine wpS_bind (elem_ok (Array.getElem?_eq_getElem hja) ?_)
     have hM4 := pushA hja hM2 hge2
     refine wpS_ite (fun e1 => wpS_pure ⟨hGg _, .inl ⟨_, _, rfl, oLast hM4 (eq_of_beq e1)⟩⟩) (fun e1 => ?_)
     have e1' : ia + 1 + 1 < a.size := by
      have : ¬ ia + 1 + 1 = a.size := nbeq e1
      omega
     exact wpS_ite (fun _ => wpS_pure ⟨hGg _, .inr ⟨_, ia + 1, (ib + 1), _, _, _, rfl, e1', e2, hM4, by omega⟩⟩) (fun _ => wpS_pure ⟨hGg _, _, ia + 1, (ib + 1), _, _, _, rfl, e1', e2, hM4, by omega⟩)
   )
end
end TS
set_option maxHeartbeats 2000000
namespace TS
open PySem PyProof.Rows
variable {κ : KeyKind}
def mhi : Array Keyed → Array Keyed → StateT SortSt Sem (Array Keyed) := sortPriv% PySem.Builtin.mergeHi
structure Mh (κ : KeyKind) (A B : List Keyed) (na nb : Nat) (R : List Keyed) : Prop where
 perm : R.Perm (A.drop na ++ B.drop nb)
 pw : R.Pairwise (Le κ)
 low : ∀ o ∈ R, ∀ x, x ∈ A.take na ∨ x ∈ B.take nb → Le κ x o
theorem Mh.symm {A B : List Keyed} {na nb : Nat} {R : List Keyed} (h : Mh κ A B na nb R) : Mh κ B A nb na R := ⟨h.perm.trans List.perm_append_comm, h.pw, fun o ho x hx => h.low o ho x hx.symm⟩
theorem Mh.addA {A B : List Keyed} {na nb : Nat} {R : List Keyed} (h : Mh κ A B na nb R) (hA : A.Pairwise (Le κ)) (hn : na ≤ A.length) (m : Nat) (hm : m ≤ na) (hk : ∀ x ∈ (A.take na).drop m, ∀ y ∈ B.take nb, Le κ y x) : Mh κ A B m nb ((A.take na).drop m ++ R) := by
 have hd : (A.take na).Pairwise (Le κ) := hA.sublist (List.take_sublist _ _)
 have hsp : A.take m ++ (A.take na).drop m = A.take na := by
  have := List.take_append_drop m (A.take na)
  rwa [List.take_take, Nat.min_eq_left hm] at this
 have hdr : A.drop m = (A.take na).drop m ++ A.drop na := by
  have := List.drop_append_of_le_length (l₁ := A.take na) (l₂ := A.drop na) (i := m) (by rw [List.length_take]; omega)
  rwa [List.take_append_drop] at this
 refine ⟨?_, ?_, ?_⟩
 ·rw [hdr, List.append_assoc]
  exact List.Perm.append_left _ h.perm
 ·rw [List.pairwise_append]
  exact ⟨hd.sublist (List.drop_sublist _ _), h.pw, fun x hx o ho => h.low o ho x (.inl (List.mem_of_mem_drop hx))⟩
 ·intro o ho x hx
  rcases List.mem_append.mp ho with y | y
  ·rcases hx with z | z
   ·rw [← hsp] at hd
    exact (List.pairwise_append.mp hd).2.2 x z o y
   ·exact hk o y x z
  ·exact h.low o y x (hx.imp (fun z => by rw [← hsp]; exact List.mem_append_left _ z) id)
theorem Mh.addB {A B : List Keyed} {na nb : Nat} {R : List Keyed} (h : Mh κ A B na nb R) (hB : B.Pairwise (Le κ)) (hn : nb ≤ B.length) (m : Nat) (hm : m ≤ nb) (hk : ∀ x ∈ (B.take nb).drop m, ∀ y ∈ A.take na, Le κ y x) : Mh κ A B na m ((B.take nb).drop m ++ R) := (h.symm.addA hB hn m hm hk).symm
theorem Mh.restBA {A B : List Keyed} {na nb : Nat} {R : List Keyed} (h : Mh κ A B na nb R) (hA : A.Pairwise (Le κ)) (hB : B.Pairwise (Le κ)) (hna : na ≤ A.length) (hnb : nb ≤ B.length) (hk : ∀ x ∈ B.take nb, ∀ y ∈ A.take na, Le κ y x) :
  (A.take na ++ B.take nb ++ R).Perm (A ++ B) ∧ (A.take na ++ B.take nb ++ R).Pairwise (Le κ) := by
 have h1 := (h.addB hB hnb 0 (by omega) (by rw [List.drop_zero]; exact hk)).addA hA hna 0 (by omega) (fun x hx y hy => by cases hy)
 rw [List.drop_zero, List.drop_zero] at h1
 rw [List.append_assoc]
 exact ⟨h1.perm, h1.pw⟩
theorem Mh.restAB {A B : List Keyed} {na nb : Nat} {R : List Keyed} (h : Mh κ A B na nb R) (hA : A.Pairwise (Le κ)) (hB : B.Pairwise (Le κ)) (hna : na ≤ A.length) (hnb : nb ≤ B.length) (hk : ∀ x ∈ A.take na, ∀ y ∈ B.take nb, Le κ y x) :
  (B.take nb ++ A.take na ++ R).Perm (A ++ B) ∧ (B.take nb ++ A.take na ++ R).Pairwise (Le κ) := by
 obtain ⟨h1, h2⟩ := h.symm.restBA hB hA hnb hna hk
 exact ⟨h1.trans List.perm_append_comm, h2⟩
theorem ext_0 (a : Array Keyed) (n : Nat) : (a.extract 0 n).toList = a.toList.take n := by
 rw [Array.toList_extract]
 simp
theorem ext_m (a : Array Keyed) (m n : Nat) : (a.extract m n).toList = (a.toList.take n).drop m := by
 rw [Array.toList_extract, List.extract_eq_take_drop, List.drop_take]
theorem take_at {a : Array Keyed} {n : Nat} (h : n < a.size) : (a.toList.take (n + 1)).drop n = [a[n]] := by
 rw [List.drop_take, Nat.add_sub_cancel_left, drop_at h]
 rfl
section
variable {prog : Program} {w : World} {A : Around} {E : Value → Shared → Prop} {s : Shared}
theorem mhi_ok (hO : κ.OneLt) {a b : Array Keyed} {st : SortSt} {Q : Array Keyed → SortSt → Prop} (hk : kindOf st = oneType') (hKa : ∀ p ∈ a.toList, Kd κ p) (hKb : ∀ p ∈ b.toList, Kd κ p)
  (hA : a.toList.Pairwise (Le κ)) (hB : b.toList.Pairwise (Le κ)) (ha0 : 0 < a.size) (hb0 : 0 < b.size) (hfirst : ∀ x ∈ a.toList, Le κ b[0] x) (hlast : ∀ y ∈ b.toList, Le κ y a[a.size - 1])
  (h : ∀ R st', Gs st st' → Good κ a b R → Q R st') : wpS (model prog w) A E s (mhi a b) Q st := by
 have la : a.toList.length = a.size := by simp
 have lb : b.toList.length = b.size := by simp
 have oDone : ∀ {out : Array Keyed} {na nb : Nat}, Mh κ a.toList b.toList na nb out.reverse.toList → na ≤ a.size → nb ≤ b.size → (na = 0 ∨ nb = 0) → Good κ a b (a.extract 0 na ++ b.extract 0 nb ++ out.reverse) := fun {out na nb} hM h1 h2 hor => by
  have := hM.restBA hA hB (by omega) (by omega) (fun x hx y hy => by
   rcases hor with rfl | rfl
   ·cases hy
   ·cases hx)
  unfold Good
  rw [Array.toList_append, Array.toList_append, ext_0, ext_0]
  exact this
 have oFirst : ∀ {out : Array Keyed} {na nb : Nat}, Mh κ a.toList b.toList na nb out.reverse.toList → na ≤ a.size → nb = 1 → Good κ a b (b.extract 0 nb ++ a.extract 0 na ++ out.reverse) := fun {out na nb} hM h1 h2 => by
  subst h2
  have := hM.restAB hA hB (by omega) (by omega) (fun x hx y hy => by
   have e := take_at hb0
   rw [List.drop_zero] at e
   rw [e] at hy
   rw [List.mem_singleton.mp hy]
   exact hfirst x (List.mem_of_mem_take hx))
  unfold Good
  rw [Array.toList_append, Array.toList_append, ext_0, ext_0]
  exact this
 have pushA : ∀ {out : Array Keyed} {na nb : Nat} (hn : na < a.size), Mh κ a.toList b.toList (na + 1) nb out.reverse.toList → (∀ y ∈ b.toList.take nb, Le κ y a[na]) → Mh κ a.toList b.toList na nb (out.push a[na]).reverse.toList := fun {out na nb} hn hM hle => by
  have := hM.addA hA (by omega) na (by omega) (fun x hx y hy => by
   rw [take_at hn] at hx
   rw [List.mem_singleton.mp hx]
   exact hle y hy)
  rw [take_at hn] at this
  simpa using this
 have pushB : ∀ {out : Array Keyed} {na nb : Nat} (hn : nb < b.size), Mh κ a.toList b.toList na (nb + 1) out.reverse.toList → (∀ y ∈ a.toList.take na, Le κ y b[nb]) → Mh κ a.toList b.toList na nb (out.push b[nb]).reverse.toList := fun {out na nb} hn hM hle => by
  have := hM.addB hB (by omega) nb (by omega) (fun x hx y hy => by
   rw [take_at hn] at hx
   rw [List.mem_singleton.mp hx]
   exact hle y hy)
  rw [take_at hn] at this
  simpa using this
 have topA : ∀ {na : Nat} (hn : na < a.size), ∀ y ∈ a.toList.take (na + 1), Le κ y a[na] := fun {na} hn y hy => by
  have hd : (a.toList.take (na + 1)).Pairwise (Le κ) := hA.sublist (List.take_sublist _ _)
  have e : a.toList.take na ++ [a[na]] = a.toList.take (na + 1) := by
   have := List.take_append_drop na (a.toList.take (na + 1))
   rwa [List.take_take, Nat.min_eq_left (by omega), take_at hn] at this
  rw [← e] at hd hy
  rcases List.mem_append.mp hy with z | z
  ·exact (List.pairwise_append.mp hd).2.2 y z _ (by simp)
  ·rw [List.mem_singleton.mp z]
   exact Le.refl _
 have topB : ∀ {nb : Nat} (hn : nb < b.size), ∀ y ∈ b.toList.take (nb + 1), Le κ y b[nb] := fun {nb} hn y hy => by
  have hd : (b.toList.take (nb + 1)).Pairwise (Le κ) := hB.sublist (List.take_sublist _ _)
  have e : b.toList.take nb ++ [b[nb]] = b.toList.take (nb + 1) := by
   have := List.take_append_drop nb (b.toList.take (nb + 1))
   rwa [List.take_take, Nat.min_eq_left (by omega), take_at hn] at this
  rw [← e] at hd hy
  rcases List.mem_append.mp hy with z | z
  ·exact (List.pairwise_append.mp hd).2.2 y z _ (by simp)
  ·rw [List.mem_singleton.mp z]
   exact Le.refl _
 obtain ⟨la1, hla1⟩ : ∃ n, a.size = n + 1 := ⟨a.size - 1, by omega⟩
 have hla1' : la1 < a.size := by omega
 have hM0 : Mh κ a.toList b.toList la1 b.size (#[] |>.push a[la1]).reverse.toList := by
  refine pushA (out := #[]) hla1' ⟨?_, ?_, ?_⟩ (fun y hy => ?_)
  ·rw [List.drop_eq_nil_of_le (by omega), List.drop_eq_nil_of_le (by omega)]
   exact List.Perm.nil
  ·exact List.Pairwise.nil
  ·intro o ho
   cases ho
  ·have := hlast y (List.mem_of_mem_take hy)
   have e : a.size - 1 = la1 := by omega
   simpa only [e] using this
 have ela : a.size - 1 = la1 := by omega
 refine wpS_bind (wpS_lift (wpAny_rule ⟨rfl, ?_⟩))
 refine wpS_bind (elem_ok (p := a[la1]) (by rw [ela]; exact Array.getElem?_eq_getElem hla1') ?_)
 rw [ela]
 refine wpS_ite (fun e => wpS_pure (h _ _ (Gs.refl _) (oDone hM0 (by omega) (by omega) (.inl (eq_of_beq e))))) fun na0 => ?_
 refine wpS_ite (fun e => wpS_pure (h _ _ (Gs.refl _) (oFirst hM0 (by omega) (eq_of_beq e)))) fun nb0 => ?_
 have na' : 0 < la1 := by
  have : ¬ la1 = 0 := nbeq na0
  omega
 have nb' : 1 < b.size := by
  have : ¬ b.size = 1 := nbeq nb0
  omega
 refine wpS_bind (wpS_get ?_)
 refine wpS_bind (wpS_mono (wpS_forRange (I := fun x c st' => Gs st st' ∧ ∃ na nb out mg, c = (none, na, nb, out, mg) ∧ 0 < na ∧ 1 < nb ∧ na ≤ a.size ∧ nb ≤ b.size ∧ Mh κ a.toList b.toList na nb out.reverse.toList ∧ x + na + nb ≤ a.size + b.size)
  (Q := fun c st' => Gs st st' ∧ ∃ R r, c = (some R, r) ∧ Good κ a b R) ?step ?fin ⟨Gs.refl _, la1, b.size, _, _, rfl, na', nb', by omega, by omega, hM0, by omega⟩) ?post)
 case post =>
  rintro c st' ⟨hG, R, r, rfl, hR⟩
  exact wpS_pure (h R st' hG hR)
 case fin =>
  rintro c st' ⟨hG, na, nb, out, mg, rfl, h1, h2, h3, h4, h5, h6⟩
  omega
 case step =>
  rintro x c st1 _ hx ⟨hG, na, nb, out, mg, rfl, h1, h2, h3, h4, hM, h6⟩
  refine wpS_bind (wpS_mono (wpS_forRange (I := fun y c st' => Gs st st' ∧ ∃ na nb out ac bc, c = (none, na, nb, out, ac, bc) ∧ 0 < na ∧ 1 < nb ∧ na ≤ a.size ∧ nb ≤ b.size ∧ Mh κ a.toList b.toList na nb out.reverse.toList ∧ x + y + na + nb ≤ a.size + b.size)
   (Q := fun c st' => Gs st st' ∧ ((∃ R r, c = (some R, r) ∧ Good κ a b R) ∨ ∃ na nb out ac bc, c = (none, na, nb, out, ac, bc) ∧ 0 < na ∧ 1 < nb ∧ na ≤ a.size ∧ nb ≤ b.size ∧ Mh κ a.toList b.toList na nb out.reverse.toList ∧ x + 1 + na + nb ≤ a.size + b.size)) ?step1 ?fin1 ⟨hG, na, nb, _, _, _, rfl, h1, h2, h3, h4, hM, by omega⟩) ?post1)
  case fin1 =>
   rintro c st' ⟨hG, na, nb, out, ac, bc, rfl, h1, h2, h3, h4, h5, h6⟩
   omega
  case step1 =>
   rintro y c st2 _ hy ⟨hG2, na, nb, out, ac, bc, rfl, h1, h2, h3, h4, hM, h6⟩
   obtain ⟨m, rfl⟩ : ∃ m, na = m + 1 := ⟨na - 1, by omega⟩
   obtain ⟨n, rfl⟩ : ∃ n, nb = n + 1 := ⟨nb - 1, by omega⟩
   have hm : m < a.size := by omega
   have hn : n < b.size := by omega
   refine wpS_bind (elem_ok (Array.getElem?_eq_getElem hn) ?_)
   refine wpS_bind (elem_ok (Array.getElem?_eq_getElem hm) ?_)
   refine wpS_bind (lt_ok hO (by rw [hG2.kind]; exact hk) (hKb _ (mem_at hn)) (hKa _ (mem_at hm)) ?_)
   refine wpS_ite (fun e => ?_) (fun e => ?_)
   ·refine wpS_bind (elem_ok (Array.getElem?_eq_getElem hm) ?_)
    have hM' := pushA hm hM (fun y hy => (topB hn y hy).trans (le_of_lt e))
    refine wpS_ite (fun e1 => wpS_pure ⟨hG2, .inl ⟨_, _, rfl, oDone (na := m) (nb := n + 1) hM' (by omega) (by omega) (.inl (eq_of_beq e1))⟩⟩) (fun e1 => ?_)
    have e1' : 0 < m := by
     have : ¬ m = 0 := nbeq e1
     omega
    exact wpS_ite (fun _ => wpS_pure ⟨hG2, .inr ⟨m, n + 1, _, _, _, rfl, e1', h2, by omega, by omega, hM', by omega⟩⟩) (fun _ => wpS_pure ⟨hG2, m, n + 1, _, _, _, rfl, e1', h2, by omega, by omega, hM', by omega⟩)
   ·have e : κ.blt (ky κ b[n]) (ky κ a[m]) = false := by simpa using e
    refine wpS_bind (elem_ok (Array.getElem?_eq_getElem hn) ?_)
    have hM' := pushB hn hM (fun y hy => (topA hm y hy).trans (le_of_nlt e))
    refine wpS_ite (fun e1 => wpS_pure ⟨hG2, .inl ⟨_, _, rfl, oFirst (na := m + 1) (nb := n) hM' (by omega) (eq_of_beq e1)⟩⟩) (fun e1 => ?_)
    have e1' : 1 < n := by
     have : ¬ n = 1 := nbeq e1
     omega
    exact wpS_ite (fun _ => wpS_pure ⟨hG2, .inr ⟨m + 1, n, _, _, _, rfl, h1, e1', by omega, by omega, hM', by omega⟩⟩) (fun _ => wpS_pure ⟨hG2, m + 1, n, _, _, _, rfl, h1, e1', by omega, by omega, hM', by omega⟩)
  case post1 =>
   rintro c st2 ⟨hG2, hc⟩
   rcases hc with ⟨R, r, rfl, hR⟩ | ⟨na, nb, out, ac, bc, rfl, h1, h2, h3, h4, hM, h6⟩
   ·exact wpS_pure ⟨hG2, R, _, rfl, hR⟩
   refine wpS_bind (wpS_lift (wpAny_rule ⟨rfl, ?_⟩))
   refine wpS_bind (wpS_mono (wpS_forRange (I := fun y c st' => Gs st st' ∧ ∃ na nb out mg ac bc, c = (none, na, nb, out, mg, ac, bc) ∧ 0 < na ∧ 1 < nb ∧ na ≤ a.size ∧ nb ≤ b.size ∧ Mh κ a.toList b.toList na nb out.reverse.toList ∧ x + 1 + y + na + nb ≤ a.size + b.size)
    (Q := fun c st' => Gs st st' ∧ ((∃ R r, c = (some R, r) ∧ Good κ a b R) ∨ ∃ na nb out mg ac bc, c = (none, na, nb, out, mg, ac, bc) ∧ 0 < na ∧ 1 < nb ∧ na ≤ a.size ∧ nb ≤ b.size ∧ Mh κ a.toList b.toList na nb out.reverse.toList ∧ x + 1 + na + nb ≤ a.size + b.size)) ?step2 ?fin2 ⟨hG2, na, nb, _, _, _, _, rfl, h1, h2, h3, h4, hM, by omega⟩) ?post2)
   case fin2 =>
    rintro c st' ⟨hG, na, nb, out, mg, ac, bc, rfl, h1, h2, h3, h4, h5, h6⟩
    omega
   case post2 =>
    rintro c st3 ⟨hG3, hc⟩
    rcases hc with ⟨R, r, rfl, hR⟩ | ⟨na, nb, out, mg, ac, bc, rfl, h1, h2, h3, h4, hM, h6⟩
    ·exact wpS_pure ⟨hG3, R, _, rfl, hR⟩
    ·exact wpS_bind (wpS_modify (wpS_pure ⟨hG3.set _, na, nb, _, _, rfl, h1, h2, h3, h4, hM, by omega⟩))
   case step2 =>
   rintro y c st3 _ hy ⟨hG3, na, nb, out, mg, ac, bc, rfl, h1, h2, h3, h4, hM, h6⟩
   obtain ⟨n, rfl⟩ : ∃ n, nb = n + 1 := ⟨nb - 1, by omega⟩
   have hn : n < b.size := by omega
   refine wpS_ite (fun _ => ?_) (fun _ => ?_) <;> (
   refine wpS_bind (wpS_modify ?_)
   have hGg : ∀ g, Gs st (SortSt.mk' (kindOf st3) (arrOf st3) (pendingOf st3) g (failedOf st3)) := fun g => hG3.set g
   refine wpS_bind (elem_ok (Array.getElem?_eq_getElem hn) ?_)
   refine wpS_bind (gal2_ok hO (a.toList.take na) ((hGg _).kind.trans hk) (by show na - 1 < na; omega) (hKb _ (mem_at hn)) rfl (by show (a.toList.take na).length = na; rw [List.length_take]; omega) (fun p hp => hKa p (List.mem_of_mem_take hp)) (hA.sublist (List.take_sublist _ _)) fun k q1 q2 q3 => ?_)
   have q1 : k ≤ na := q1
   have hge : ∀ x ∈ (a.toList.take na).drop k, Le κ b[n] x := fun x hx => by
    have : (!κ.blt (ky κ b[n]) (ky κ x)) = false := q3 x hx
    exact le_of_lt (by simpa using this)
   have hle : ∀ x ∈ a.toList.take k, Le κ x b[n] := fun x hx => by
    have : (!κ.blt (ky κ b[n]) (ky κ x)) = true := q2 x (by rw [List.take_take, Nat.min_eq_left q1]; exact hx)
    exact le_of_nlt (by simpa using this)
   have hMk : Mh κ a.toList b.toList k (n + 1) (out ++ (a.extract k na).reverse).reverse.toList := by
    rw [Array.reverse_append, Array.reverse_reverse, Array.toList_append, ext_m]
    exact hM.addA hA (by omega) k q1 (fun x hx y hy => (topB hn y hy).trans (hge x hx))
   refine wpS_ite (fun hk0 => ?_) (fun hk0 => ?_)
   ·refine wpS_ite (fun e1 => wpS_pure ⟨hGg _, .inl ⟨_, _, rfl, oDone (na := k) (nb := n + 1) hMk (by omega) (by omega) (.inl (eq_of_beq e1))⟩⟩) (fun e1 => ?_)
    have hk1 : 0 < k := by
     have : ¬ k = 0 := nbeq e1
     omega
    have hM2 := pushB hn hMk hle
    refine wpS_bind (elem_ok (Array.getElem?_eq_getElem hn) ?_)
    refine wpS_ite (fun e1 => wpS_pure ⟨hGg _, .inl ⟨_, _, rfl, oFirst (na := k) (nb := n) hM2 (by omega) (eq_of_beq e1)⟩⟩) (fun e1 => ?_)
    have hn1 : 1 < n := by
     have : ¬ n = 1 := nbeq e1
     omega
    obtain ⟨m, rfl⟩ : ∃ m, k = m + 1 := ⟨k - 1, by omega⟩
    have hm : m < a.size := by omega
    refine wpS_bind (elem_ok (Array.getElem?_eq_getElem hm) ?_)
    refine wpS_bind (gal2_ok hO (b.toList.take n) ((hGg _).kind.trans hk) (by show n - 1 < n; omega) (hKa _ (mem_at hm)) rfl (by show (b.toList.take n).length = n; rw [List.length_take]; omega) (fun p hp => hKb p (List.mem_of_mem_take hp)) (hB.sublist (List.take_sublist _ _)) fun k2 p1 p2 p3 => ?_)
    have p1 : k2 ≤ n := p1
    have hge2 : ∀ x ∈ (b.toList.take n).drop k2, Le κ a[m] x := fun x hx => le_of_nlt (p3 x hx)
    have hle2 : ∀ x ∈ b.toList.take k2, Le κ x a[m] := fun x hx => le_of_lt (p2 x (by rw [List.take_take, Nat.min_eq_left p1]; exact hx))
    have hM3 : Mh κ a.toList b.toList (m + 1) k2 ((out ++ (a.extract (m + 1) na).reverse).push b[n] ++ (b.extract k2 n).reverse).reverse.toList := by
     rw [Array.reverse_append, Array.reverse_reverse, Array.toList_append, ext_m]
     exact hM2.addB hB (by omega) k2 p1 (fun x hx y hy => (topA hm y hy).trans (hge2 x hx))
    refine wpS_ite (fun hj0 => ?_) (fun hj0 => ?_)
    ·refine wpS_ite (fun e1 => wpS_pure ⟨hGg _, .inl ⟨_, _, rfl, oFirst (na := m + 1) (nb := k2) hM3 (by omega) (eq_of_beq e1)⟩⟩) (fun e1 => ?_)
     refine wpS_ite (fun e2 => wpS_pure ⟨hGg _, .inl ⟨_, _, rfl, oDone (na := m + 1) (nb := k2) hM3 (by omega) (by omega) (.inr (eq_of_beq e2))⟩⟩) (fun e2 => ?_)
     have hk2 : 1 < k2 := by
      have : ¬ k2 = 1 := nbeq e1
      have : ¬ k2 = 0 := nbeq e2
      omega
     refine wpS_bind (elem_ok (Array.getElem?_eq_getElem hm) ?_)
     have hM4 := pushA hm hM3 hle2
     refine wpS_ite (fun e3 => wpS_pure ⟨hGg _, .inl ⟨_, _, rfl, oDone (na := m) (nb := k2) hM4 (by omega) (by omega) (.inl (eq_of_beq e3))⟩⟩) (fun e3 => ?_)
     have hm0 : 0 < m := by
      have : ¬ m = 0 := nbeq e3
      omega
     exact wpS_ite (fun _ => wpS_pure ⟨hGg _, .inr ⟨m, k2, _, _, _, _, rfl, hm0, hk2, by omega, by omega, hM4, by omega⟩⟩) (fun _ => wpS_pure ⟨hGg _, m, k2, _, _, _, _, rfl, hm0, hk2, by omega, by omega, hM4, by omega⟩)
    ·have hj0 : ¬ n - k2 > 0 := hj0
     have hk2 : k2 = n := by omega
     subst hk2
     refine wpS_bind (elem_ok (Array.getElem?_eq_getElem hm) ?_)
     have hM4 := pushA hm hM2 hle2
     refine wpS_ite (fun e3 => wpS_pure ⟨hGg _, .inl ⟨_, _, rfl, oDone (na := m) (nb := k2) hM4 (by omega) (by omega) (.inl (eq_of_beq e3))⟩⟩) (fun e3 => ?_)
     have hm0 : 0 < m := by
      have : ¬ m = 0 := nbeq e3
      omega
     exact wpS_ite (fun _ => wpS_pure ⟨hGg _, .inr ⟨m, k2, _, _, _, _, rfl, hm0, hn1, by omega, by omega, hM4, by omega⟩⟩) (fun _ => wpS_pure ⟨hGg _, m, k2, _, _, _, _, rfl, hm0, hn1, by omega, by omega, hM4, by omega⟩)
   ·have hk0 : ¬ na - k > 0 := hk0
    have hk1 : k = na := by omega
    subst hk1
    have hk1 : 0 < k := h1
    have hM2 := pushB hn hM hle
    refine wpS_bind (elem_ok (Array.getElem?_eq_getElem hn) ?_)
    refine wpS_ite (fun e1 => wpS_pure ⟨hGg _, .inl ⟨_, _, rfl, oFirst (na := k) (nb := n) hM2 (by omega) (eq_of_beq e1)⟩⟩) (fun e1 => ?_)
    have hn1 : 1 < n := by
     have : ¬ n = 1 := nbeq e1
     omega
    obtain ⟨m, rfl⟩ : ∃ m, k = m + 1 := ⟨k - 1, by omega⟩
    have hm : m < a.size := by omega
    refine wpS_bind (elem_ok (Array.getElem?_eq_getElem hm) ?_)
    refine wpS_bind (gal2_ok hO (b.toList.take n) ((hGg _).kind.trans hk) (by show n - 1 < n; omega) (hKa _ (mem_at hm)) rfl (by show (b.toList.take n).length = n; rw [List.length_take]; omega) (fun p hp => hKb p (List.mem_of_mem_take hp)) (hB.sublist (List.take_sublist _ _)) fun k2 p1 p2 p3 => ?_)
    have p1 : k2 ≤ n := p1
    have hge2 : ∀ x ∈ (b.toList.take n).drop k2, Le κ a[m] x := fun x hx => le_of_nlt (p3 x hx)
    have hle2 : ∀ x ∈ b.toList.take k2, Le κ x a[m] := fun x hx => le_of_lt (p2 x (by rw [List.take_take, Nat.min_eq_left p1]; exact hx))
    have hM3 : Mh κ a.toList b.toList (m + 1) k2 (out.push b[n] ++ (b.extract k2 n).reverse).reverse.toList := by
     rw [Array.reverse_append, Array.reverse_reverse, Array.toList_append, ext_m]
     exact hM2.addB hB (by omega) k2 p1 (fun x hx y hy => (topA hm y hy).trans (hge2 x hx))
    refine wpS_ite (fun hj0 => ?_) (fun hj0 => ?_)
    ·refine wpS_ite (fun e1 => wpS_pure ⟨hGg _, .inl ⟨_, _, rfl, oFirst (na := m + 1) (nb := k2) hM3 (by omega) (eq_of_beq e1)⟩⟩) (fun e1 => ?_)
     refine wpS_ite (fun e2 => wpS_pure ⟨hGg _, .inl ⟨_, _, rfl, oDone (na := m + 1) (nb := k2) hM3 (by omega) (by omega) (.inr (eq_of_beq e2))⟩⟩) (fun e2 => ?_)
     have hk2 : 1 < k2 := by
      have : ¬ k2 = 1 := nbeq e1
      have : ¬ k2 = 0 := nbeq e2
      omega
     refine wpS_bind (elem_ok (Array.getElem?_eq_getElem hm) ?_)
     have hM4 := pushA hm hM3 hle2
     refine wpS_ite (fun e3 => wpS_pure ⟨hGg _, .inl ⟨_, _, rfl, oDone (na := m) (nb := k2) hM4 (by omega) (by omega) (.inl (eq_of_beq e3))⟩⟩) (fun e3 => ?_)
     have hm0 : 0 < m := by
      have : ¬ m = 0 := nbeq e3
      omega
     exact wpS_ite (fun _ => wpS_pure ⟨hGg _, .inr ⟨m, k2, _, _, _, _, rfl, hm0, hk2, by omega, by omega, hM4, by omega⟩⟩) (fun _ => wpS_pure ⟨hGg _, m, k2, _, _, _, _, rfl, hm0, hk2, by omega, by omega, hM4, by omega⟩)
    ·have hj0 : ¬ n - k2 > 0 := hj0
     have hk2 : k2 = n := by omega
     subst hk2
     refine wpS_bind (elem_ok (Array.getElem?_eq_getElem hm) ?_)
     have hM4 := pushA hm hM2 hle2
     refine wpS_ite (fun e3 => wpS_pure ⟨hGg _, .inl ⟨_, _, rfl, oDone (na := m) (nb := k2) hM4 (by omega) (by omega) (.inl (eq_of_beq e3))⟩⟩) (fun e3 => ?_)
     have hm0 : 0 < m := by
      have : ¬ m = 0 := nbeq e3
      omega
     exact wpS_ite (fun _ => wpS_pure ⟨hGg _, .inr ⟨m, k2, _, _, _, _, rfl, hm0, hn1, by omega, by omega, hM4, by omega⟩⟩) (fun _ => wpS_pure ⟨hGg _, m, k2, _, _, _, _, rfl, hm0, hn1, by omega, by omega, hM4, by omega⟩)
   )
end
end TS
set_option maxHeartbeats 2000000
namespace TS
open PySem PyProof.Rows
variable {κ : KeyKind}
def cnt : Nat → Nat → StateT SortSt Sem (Option Nat) := sortPriv% PySem.Builtin.countRun
def bin : Nat → Nat → Nat → StateT SortSt Sem Bool := sortPriv% PySem.Builtin.binarySort
structure Bs (κ : KeyKind) (a₀ : Array Keyed) (st : SortSt) : Prop where
 perm : (arrOf st).Perm a₀
 failed : failedOf st = none
 kind : kindOf st = oneType'
def Dist (κ : KeyKind) (xs : Array Keyed) : Prop := ∀ i j, i < j → j < xs.size → KK κ xs i ≠ KK κ xs j
def Up (κ : KeyKind) (xs : Array Keyed) (lo hi : Nat) : Prop := ∀ i j, lo ≤ i → i ≤ j → j < hi → κ.kle (KK κ xs i) (KK κ xs j)
def Down (κ : KeyKind) (xs : Array Keyed) (lo hi : Nat) : Prop := ∀ i j, lo ≤ i → i ≤ j → j < hi → κ.kle (KK κ xs j) (KK κ xs i)
theorem KK_at {xs : Array Keyed} {i : Nat} (h : i < xs.size) : KK κ xs i = ky κ xs[i] := by
 unfold KK
 rw [Array.getElem?_eq_getElem h]
 rfl
theorem Bs.size {a₀ : Array Keyed} {st : SortSt} (h : Bs κ a₀ st) : (arrOf st).size = a₀.size := h.perm.size_eq
theorem Bs.kd {a₀ : Array Keyed} {st : SortSt} (h : Bs κ a₀ st) (h0 : ∀ p ∈ a₀.toList, Kd κ p) : ∀ p ∈ (arrOf st).toList, Kd κ p := fun p hp => h0 p ((Array.perm_iff_toList_perm.mp h.perm).mem_iff.mp hp)
theorem dist_iff (xs : Array Keyed) : Dist κ xs ↔ xs.toList.Pairwise fun p q => ky κ p ≠ ky κ q := by
 rw [List.pairwise_iff_getElem]
 constructor
 ·intro h i j hi hj hij
  have hi' : i < xs.size := by simpa using hi
  have hj' : j < xs.size := by simpa using hj
  have := h i j hij hj'
  rw [KK_at hi', KK_at hj'] at this
  simpa using this
 ·intro h i j hij hj
  have hi : i < xs.size := by omega
  rw [KK_at hi, KK_at hj]
  have := h i j (by simpa using hi) (by simpa using hj) hij
  simpa using this
theorem Bs.dist {a₀ : Array Keyed} {st : SortSt} (h : Bs κ a₀ st) (hd : Dist κ a₀) : Dist κ (arrOf st) := by
 rw [dist_iff] at hd ⊢
 exact ((Array.perm_iff_toList_perm.mp h.perm).pairwise_iff (fun {x y} hxy => Ne.symm hxy)).mpr hd
theorem Bs.set {a₀ : Array Keyed} {st : SortSt} (h : Bs κ a₀ st) {xs : Array Keyed} (hp : xs.Perm (arrOf st)) : Bs κ a₀ (setArr st xs) := ⟨hp.trans h.perm, h.failed, h.kind⟩
section
variable {prog : Program} {w : World} {A : Around} {E : Value → Shared → Prop} {s : Shared} {a₀ : Array Keyed}
theorem ltKK_ok (hO : κ.OneLt) {st : SortSt} {i j : Nat} {Q : Option Bool → SortSt → Prop} (hB : Bs κ a₀ st) (h0 : ∀ p ∈ a₀.toList, Kd κ p) (hi : i < a₀.size) (hj : j < a₀.size) (h : Q (some (κ.blt (KK κ (arrOf st) i) (KK κ (arrOf st) j))) st) :
  wpS (model prog w) A E s (ltAt' i j) Q st := by
 have hi' : i < (arrOf st).size := by rw [hB.size]; exact hi
 have hj' : j < (arrOf st).size := by rw [hB.size]; exact hj
 rw [KK_at hi', KK_at hj'] at h
 rw [ltAt'_eq]
 refine wpS_bind (wpS_get ?_)
 refine wpS_bind (elem_ok (Array.getElem?_eq_getElem hi') ?_)
 refine wpS_bind (elem_ok (Array.getElem?_eq_getElem hj') ?_)
 exact lt_ok hO hB.kind (hB.kd h0 _ (by simp)) (hB.kd h0 _ (by simp)) h
theorem cnt_ok (hO : κ.OneLt) {st : SortSt} {lo nrem : Nat} {Q : Option Nat → SortSt → Prop} (hB : Bs κ a₀ st) (h0 : ∀ p ∈ a₀.toList, Kd κ p) (hd : Dist κ a₀) (h1 : 1 ≤ nrem) (hn : lo + nrem ≤ a₀.size)
  (h : ∀ m xs, 1 ≤ m → m ≤ nrem → xs.Perm (arrOf st) → (∀ k, k < lo → xs[k]? = (arrOf st)[k]?) → Up κ xs lo (lo + m) → Q (some m) (setArr st xs)) : wpS (model prog w) A E s (cnt lo nrem) Q st := by
 have hup : ∀ {xs : Array Keyed} {x : Nat}, Up κ xs lo (lo + x) → 1 ≤ x → κ.blt (KK κ xs (lo + x)) (KK κ xs (lo + x - 1)) = false → Up κ xs lo (lo + (x + 1)) := fun {xs x} hU hx e i j hi hij hj => by
  rcases Nat.lt_or_ge j (lo + x) with y | y
  ·exact hU i j hi hij y
  ·have : j = lo + x := by omega
   subst this
   rcases Nat.lt_or_ge i (lo + x) with z | z
   ·exact KeyOrd.kle_trans (hU i (lo + x - 1) hi (by omega) (by omega)) e
   ·have : i = lo + x := by omega
    subst this
    exact KeyOrd.kle_refl _
 refine wpS_bind (wpS_mono (wpS_forRange (I := fun x c st' => st' = st ∧ c = (none, x) ∧ Up κ (arrOf st) lo (lo + x))
  (Q := fun c st' => st' = st ∧ ∃ n, c = (none, n) ∧ 1 ≤ n ∧ n ≤ nrem ∧ Up κ (arrOf st) lo (lo + n) ∧ (n = nrem ∨ κ.blt (KK κ (arrOf st) (lo + n)) (KK κ (arrOf st) (lo + n - 1)) = true)) ?step ?fin ⟨rfl, rfl, ?init⟩) ?post)
 case init =>
  intro i j hi hij hj
  have : i = j := by omega
  subst this
  exact KeyOrd.kle_refl _
 case fin =>
  rintro c st' ⟨rfl, rfl, hU⟩
  have : max 1 nrem = nrem := by omega
  rw [this] at hU ⊢
  exact ⟨rfl, nrem, rfl, h1, by omega, hU, .inl rfl⟩
 case step =>
  rintro x c st' hx1 hx ⟨rfl, rfl, hU⟩
  refine wpS_bind (ltKK_ok hO hB h0 (by show lo + x < _; omega) (by show lo + x - 1 < _; omega) ?_)
  refine wpS_ite (fun e => wpS_pure ⟨rfl, x, rfl, hx1, by omega, hU, .inr e⟩) (fun e => wpS_pure ⟨rfl, rfl, hup hU hx1 (by simpa using e)⟩)
 case post =>
 rintro c st ⟨rfl, n, rfl, hn1, hn2, hU, hor⟩
 have hself : setArr st (arrOf st) = st := rfl
 refine wpS_ite (fun e => wpS_pure (h n (arrOf st) hn1 hn2 (Array.Perm.refl _) (fun _ _ => rfl) hU)) (fun e => ?_)
 have hne : ¬ n = nrem := nbeq e
 have hlt := hor.resolve_left hne
 have hdst := hB.dist hd
 have hsz := hB.size
 refine wpS_ite (fun hgt => ?_) (fun hgt => ?_)
 ·have hgt : n > 1 := hgt
  refine wpS_bind (ltKK_ok hO hB h0 (by omega) (by show lo + n - 1 < _; omega) ?_)
  refine wpS_ite (fun _ => wpS_pure (h n (arrOf st) hn1 hn2 (Array.Perm.refl _) (fun _ _ => rfl) hU)) (fun e => ?_)
  exfalso
  have e1 : κ.blt (KK κ (arrOf st) lo) (KK κ (arrOf st) (lo + n - 1)) = false := by simpa using e
  exact hdst lo (lo + n - 1) (by omega) (by omega) (κ.total _ _ e1 (hU lo (lo + n - 1) (by omega) (by omega) (by omega)))
 ·have hgt : ¬ n > 1 := hgt
  have hn1' : n = 1 := by omega
  subst hn1'
  refine wpS_bind (wpS_lift (wpAny_rule ⟨rfl, ?_⟩))
  refine wpS_bind (wpS_mono (wpS_forRange (I := fun x c st' => st' = st ∧ c = (none, x, 0) ∧ Down κ (arrOf st) lo (lo + x))
   (Q := fun c st' => st' = st ∧ ∃ n, c = (none, n, 0) ∧ 2 ≤ n ∧ n ≤ nrem ∧ Down κ (arrOf st) lo (lo + n)) ?_ ?_ ⟨rfl, rfl, ?_⟩) ?_)
  ·rintro x c st' hx1 hx ⟨rfl, rfl, hD⟩
   have hx1 : 2 ≤ x := hx1
   refine wpS_bind (ltKK_ok hO hB h0 (by show lo + x < _; omega) (by show lo + x - 1 < _; omega) ?_)
   refine wpS_ite (fun e => ?_) (fun e => ?_)
   ·refine wpS_ite (fun z => absurd (show (0 : Nat) > 0 from z) (by decide)) (fun _ => wpS_pure ⟨rfl, rfl, fun i j hi hij hj => ?_⟩)
    rcases Nat.lt_or_ge j (lo + x) with y | y
    ·exact hD i j hi hij y
    ·have : j = lo + x := by omega
     subst this
     rcases Nat.lt_or_ge i (lo + x) with z | z
     ·exact KeyOrd.kle_trans (KeyOrd.kle_of_klt e) (hD i (lo + x - 1) hi (by omega) (by omega))
     ·have : i = lo + x := by omega
      subst this
      exact KeyOrd.kle_refl _
   ·refine wpS_bind (ltKK_ok hO hB h0 (by show lo + x - 1 < _; omega) (by show lo + x < _; omega) ?_)
    refine wpS_ite (fun _ => wpS_pure ⟨rfl, x, rfl, hx1, by omega, hD⟩) (fun e' => ?_)
    exfalso
    have e1 : κ.blt (KK κ (arrOf st') (lo + x)) (KK κ (arrOf st') (lo + x - 1)) = false := by simpa using e
    have e2 : κ.blt (KK κ (arrOf st') (lo + x - 1)) (KK κ (arrOf st') (lo + x)) = false := by simpa using e'
    exact hdst (lo + x - 1) (lo + x) (by omega) (by omega) (κ.total _ _ e2 e1)
  ·rintro c st' ⟨rfl, rfl, hD⟩
   have : max (1 + 1) nrem = nrem := by omega
   have e : max ((none (α := Option Nat), 1).snd + 1) nrem = nrem := this
   rw [e] at hD ⊢
   exact ⟨rfl, nrem, rfl, by omega, by omega, hD⟩
  ·intro i j hi hij hj
   have hj : j < lo + 2 := hj
   rcases Nat.lt_or_ge i j with y | y
   ·have : i = lo := by omega
    subst this
    have : j = i + 1 := by omega
    subst this
    exact KeyOrd.kle_of_klt hlt
   ·have : i = j := by omega
    subst this
    exact KeyOrd.kle_refl _
  ·rintro c st ⟨rfl, n, rfl, hn1, hn2, hD⟩
   refine wpS_ite (fun z => absurd (show (0 : Nat) > 0 from z) (by decide)) (fun _ => ?_)
   refine wpS_bind (wpS_modify ?_)
   have hB2 : Bs κ a₀ (setArr st (mirror (arrOf st) lo (lo + n) ((lo + n - lo) / 2))) := hB.set (mirror_perm _ _ _ _)
   have hle : lo + n ≤ (arrOf st).size := by omega
   have hfr : ∀ k, k < lo → (mirror (arrOf st) lo (lo + n) ((lo + n - lo) / 2))[k]? = (arrOf st)[k]? := fun k hk => by
    rw [getElem?_mirror_all hle, if_neg (by omega)]
   have hU2 : Up κ (mirror (arrOf st) lo (lo + n) ((lo + n - lo) / 2)) lo (lo + n) := fun i j hi hij hj => by
    rw [KK_mirror hle, KK_mirror hle, if_pos (by omega), if_pos (by omega)]
    exact hD _ _ (by omega) (by omega) (by omega)
   have hpm := mirror_perm (arrOf st) lo (lo + n) ((lo + n - lo) / 2)
   generalize hys : mirror (arrOf st) lo (lo + n) ((lo + n - lo) / 2) = ys at hB2 hfr hU2 hpm
   refine wpS_bind (wpS_mono (wpS_forRange (I := fun x c st' => st' = setArr st ys ∧ c = (none, x) ∧ Up κ ys lo (lo + x))
    (Q := fun c st' => st' = setArr st ys ∧ ∃ n, c = (none, n) ∧ 1 ≤ n ∧ n ≤ nrem ∧ Up κ ys lo (lo + n)) ?_ ?_ ⟨by rw [← hys]; rfl, rfl, hU2⟩) ?_)
   ·rintro x c st' hx1 hx ⟨rfl, rfl, hU⟩
    have hx1 : n ≤ x := hx1
    refine wpS_bind (ltKK_ok hO hB2 h0 (by show lo + x < _; omega) (by show lo + x - 1 < _; omega) ?_)
    exact wpS_ite (fun e => wpS_pure ⟨rfl, x, rfl, by omega, by omega, hU⟩) (fun e => wpS_pure ⟨rfl, rfl, hup hU (by omega) (by simpa using e)⟩)
   ·rintro c st' ⟨rfl, rfl, hU⟩
    have e : max n nrem = nrem := by omega
    rw [show max (none (α := Option Nat), n, 0).snd.fst nrem = nrem from e] at hU ⊢
    exact ⟨rfl, nrem, rfl, by omega, by omega, hU⟩
   ·rintro c st' ⟨rfl, m, rfl, hm1, hm2, hU⟩
    exact wpS_pure (h m ys hm1 hm2 hpm hfr hU)
end
end TS
set_option maxHeartbeats 2000000
namespace TS
open PySem PyProof.Rows
variable {κ : KeyKind}
section
variable {prog : Program} {w : World} {A : Around} {E : Value → Shared → Prop} {s : Shared} {a₀ : Array Keyed}
theorem bin_ok (hO : κ.OneLt) {st : SortSt} {lo n ok : Nat} {Q : Bool → SortSt → Prop} (hB : Bs κ a₀ st) (h0 : ∀ p ∈ a₀.toList, Kd κ p) (h1 : 1 ≤ ok) (hok : ok ≤ n) (hn : lo + n ≤ a₀.size) (hU : Up κ (arrOf st) lo (lo + ok))
  (h : ∀ xs, xs.Perm (arrOf st) → (∀ k, k < lo → xs[k]? = (arrOf st)[k]?) → Up κ xs lo (lo + n) → Q true (setArr st xs)) : wpS (model prog w) A E s (bin lo n ok) Q st := by
 have emx : max ok 1 = ok := by omega
 refine wpS_bind (wpS_mono (wpS_forRange (I := fun k c st' => c = (none, ()) ∧ ∃ ys, st' = setArr st ys ∧ ys.Perm (arrOf st) ∧ (∀ k, k < lo → ys[k]? = (arrOf st)[k]?) ∧ Up κ ys lo (lo + k))
  (Q := fun c st' => c = (none, ()) ∧ ∃ ys, st' = setArr st ys ∧ ys.Perm (arrOf st) ∧ (∀ k, k < lo → ys[k]? = (arrOf st)[k]?) ∧ Up κ ys lo (lo + n)) ?step ?fin ⟨rfl, arrOf st, rfl, Array.Perm.refl _, fun _ _ => rfl, by rw [emx]; exact hU⟩) ?post)
 case post =>
  rintro c st' ⟨rfl, ys, rfl, hp, hf, hU'⟩
  exact wpS_pure (h ys hp hf hU')
 case fin =>
  rintro c st' ⟨rfl, ys, rfl, hp, hf, hU'⟩
  have e : max (max ok 1) n = n := by omega
  rw [e] at hU'
  exact ⟨rfl, ys, rfl, hp, hf, hU'⟩
 case step =>
  rintro k c st' hk1 hk2 ⟨rfl, ys, rfl, hp, hf, hU'⟩
  have hk1 : ok ≤ k := by omega
  have hB2 : Bs κ a₀ (setArr st ys) := hB.set hp
  have hsz : ys.size = a₀.size := hB2.size
  refine wpS_bind (wpS_mono (wpS_forRange (I := fun x c st' => st' = setArr st ys ∧ ∃ l r, c = (none, l, r) ∧ l ≤ r ∧ r ≤ k ∧ r - l ≤ k - x ∧ (∀ i, i < l → κ.kle (KK κ ys (lo + i)) (KK κ ys (lo + k))) ∧ (∀ i, r ≤ i → i < k → κ.kle (KK κ ys (lo + k)) (KK κ ys (lo + i))))
   (Q := fun c st' => st' = setArr st ys ∧ ∃ l r, c = (none, l, r) ∧ l ≤ k ∧ (∀ i, i < l → κ.kle (KK κ ys (lo + i)) (KK κ ys (lo + k))) ∧ (∀ i, l ≤ i → i < k → κ.kle (KK κ ys (lo + k)) (KK κ ys (lo + i)))) ?_ ?_ ⟨rfl, 0, k, rfl, by omega, by omega, by omega, fun i hi => by omega, fun i h1 h2 => by omega⟩) ?_)
  ·rintro x c st' _ hx ⟨rfl, l, r, rfl, a1, a2, a3, a4, a5⟩
   refine wpS_ite (fun e => ?_) (fun e => ?_)
   ·have e : l ≥ r := e
    have : l = r := by omega
    subst this
    exact wpS_pure ⟨rfl, l, l, rfl, a2, a4, a5⟩
   ·have e : ¬ l ≥ r := e
    refine wpS_bind (ltKK_ok hO hB2 h0 (by omega) (by show lo + (l + r) / 2 < _; omega) ?_)
    refine wpS_ite (fun e' => ?_) (fun e' => ?_)
    ·have e' : κ.klt (KK κ ys (lo + k)) (KK κ ys (lo + (l + r) / 2)) := e'
     refine wpS_pure ⟨rfl, l, (l + r) / 2, rfl, by omega, by omega, by omega, a4, fun i hi hik => ?_⟩
     exact KeyOrd.kle_trans (KeyOrd.kle_of_klt e') (hU' _ _ (by omega) (by omega) (by omega))
    ·have e' : κ.kle (KK κ ys (lo + (l + r) / 2)) (KK κ ys (lo + k)) := by
      have : ¬ κ.blt (KK κ ys (lo + k)) (KK κ ys (lo + (l + r) / 2)) = true := e'
      simpa [KeyOrd.kle] using this
     refine wpS_pure ⟨rfl, (l + r) / 2 + 1, r, rfl, by omega, by omega, by omega, fun i hi => ?_, a5⟩
     exact KeyOrd.kle_trans (hU' _ _ (by omega) (by omega) (by omega)) e'
  ·rintro c st' ⟨rfl, l, r, rfl, a1, a2, a3, a4, a5⟩
   have : l = r := by omega
   subst this
   exact ⟨rfl, l, l, rfl, a2, a4, a5⟩
  ·rintro c st' ⟨rfl, l, r, rfl, a2, a4, a5⟩
   refine wpS_bind (wpS_modify (wpS_pure ⟨rfl, bubble ys (lo + k) (lo + k - (lo + l)), rfl, (bubble_perm _ _ _).trans hp, fun j hj => ?_, fun i j hi hij hj => ?_⟩))
   ·rw [getElem?_bubble (by omega) _ (by omega), if_neg (by omega), if_neg (by omega)]
    exact hf j hj
   ·have hKK : ∀ q, KK κ (bubble ys (lo + k) (lo + k - (lo + l))) q = if q = lo + l then KK κ ys (lo + k) else if lo + l < q ∧ q ≤ lo + k then KK κ ys (q - 1) else KK κ ys q := fun q => by
     rw [KK_bubble (by omega) (by omega), show lo + k - (lo + k - (lo + l)) = lo + l by omega]
    rw [hKK, hKK]
    have hlow : ∀ q, lo ≤ q → q < lo + l → κ.kle (KK κ ys q) (KK κ ys (lo + k)) := fun q h1 h2 => by
     have := a4 (q - lo) (by omega)
     rwa [show lo + (q - lo) = q by omega] at this
    have hhigh : ∀ q, lo + l ≤ q → q < lo + k → κ.kle (KK κ ys (lo + k)) (KK κ ys q) := fun q h1 h2 => by
     have := a5 (q - lo) (by omega) (by omega)
     rwa [show lo + (q - lo) = q by omega] at this
    by_cases i1 : i = lo + l
    ·rw [if_pos i1]
     by_cases j1 : j = lo + l
     ·rw [if_pos j1]
      exact KeyOrd.kle_refl _
     ·rw [if_neg j1, if_pos (by omega)]
      exact hhigh _ (by omega) (by omega)
    ·rw [if_neg i1]
     by_cases i2 : lo + l < i ∧ i ≤ lo + k
     ·rw [if_pos i2, if_neg (by omega), if_pos (by omega)]
      exact hU' _ _ (by omega) (by omega) (by omega)
     ·rw [if_neg i2]
      by_cases j1 : j = lo + l
      ·rw [if_pos j1]
       exact hlow _ hi (by omega)
      ·rw [if_neg j1]
       by_cases j2 : lo + l < j ∧ j ≤ lo + k
       ·rw [if_pos j2]
        exact hU' _ _ hi (by omega) (by omega)
       ·rw [if_neg j2]
        exact hU' _ _ hi hij (by omega)
end
end TS
set_option maxHeartbeats 2000000
namespace TS
open PySem PyProof.Rows
variable {κ : KeyKind}
def mat : Nat → StateT SortSt Sem Bool := sortPriv% PySem.Builtin.mergeAt
theorem wpS_set {M : Model} {A : Around} {E : Value → Shared → Prop} {s : Shared} {σ : Type} {x st : σ} {Q : PUnit → σ → Prop} (h : Q ⟨⟩ x) : wpS M A E s (set x : StateT σ Sem PUnit) Q st := by
 unfold wpS
 rw [StateT.run_set]
 exact wpAny_pure ⟨rfl, h⟩
theorem laid_over : ∀ (M : List Keyed) (o base : Nat) (a : Array Keyed), base + o + M.length ≤ a.size → ((M.zipIdx o).foldl (fun a (pj : Keyed × Nat) => a.setIfInBounds (base + pj.2) pj.1) a).toList = a.toList.take (base + o) ++ M ++ a.toList.drop (base + o + M.length)
 | [], o, base, a, _ => by simp
 | p :: M, o, base, a, h => by
  have hlt : base + o < a.size := by
   simp only [List.length_cons] at h
   omega
  rw [List.zipIdx_cons, List.foldl_cons]
  show (List.foldl _ (a.setIfInBounds (base + o) p) _).toList = _
  rw [laid_over M (o + 1) base (a.setIfInBounds (base + o) p) (by rw [Array.size_setIfInBounds]; simp only [List.length_cons] at h; omega)]
  rw [Array.toList_setIfInBounds]
  have e1 : (a.toList.set (base + o) p).take (base + (o + 1)) = a.toList.take (base + o) ++ [p] := by
   rw [show base + (o + 1) = base + o + 1 by omega, List.take_add_one, List.take_set_of_le (Nat.le_refl _), List.getElem?_set_self (by simpa using hlt)]
   rfl
  have e2 : (a.toList.set (base + o) p).drop (base + (o + 1) + M.length) = a.toList.drop (base + o + (p :: M).length) := by
   rw [List.drop_set_of_lt (by omega)]
   congr 1
   simp only [List.length_cons]
   omega
  rw [e1, e2]
  simp
section
variable {prog : Program} {w : World} {A : Around} {E : Value → Shared → Prop} {s : Shared}
theorem mat_ok (hO : κ.OneLt) {st : SortSt} {i sa na nb pw pw2 : Nat} {Q : Bool → SortSt → Prop} (hk : kindOf st = oneType') (hf : failedOf st = none) (h0 : ∀ p ∈ (arrOf st).toList, Kd κ p)
  (hp1 : (pendingOf st)[i]? = some (sa, na, pw)) (hp2 : (pendingOf st)[i + 1]? = some (sa + na, nb, pw2)) (ha : 1 ≤ na) (hb : 1 ≤ nb) (hsz : sa + na + nb ≤ (arrOf st).size)
  (hX : (((arrOf st).toList.drop sa).take na).Pairwise (Le κ)) (hY : (((arrOf st).toList.drop (sa + na)).take nb).Pairwise (Le κ))
  (h : ∀ xs Z g, xs.toList = (arrOf st).toList.take sa ++ Z ++ (arrOf st).toList.drop (sa + na + nb) → Z.Perm (((arrOf st).toList.drop sa).take na ++ ((arrOf st).toList.drop (sa + na)).take nb) → Z.Pairwise (Le κ) →
   Q true (SortSt.mk' (kindOf st) xs (((pendingOf st).setIfInBounds i (sa, na + nb, pw)).eraseIdxIfInBounds (i + 1)) g (failedOf st))) : wpS (model prog w) A E s (mat i) Q st := by
 refine wpS_bind (wpS_get ?_)
 rw [hp1, hp2]
 refine wpS_bind (wpS_set ?_)
 have hsb : sa + na < (arrOf st).size := by omega
 refine wpS_bind (elem_ok (Array.getElem?_eq_getElem hsb) ?_)
 generalize hl : (arrOf st).toList = l at *
 have hll : l.length = (arrOf st).size := by rw [← hl]; simp
 have hat : ∀ (j : Nat) (hj : j < (arrOf st).size), l[j]? = some (arrOf st)[j] := fun j hj => by
  rw [← hl]
  simp [hj]
 have hXl : ((l.drop sa).take na).length = na := by rw [List.length_take, List.length_drop]; omega
 have hYl : ((l.drop (sa + na)).take nb).length = nb := by rw [List.length_take, List.length_drop]; omega
 have hXm : ∀ p ∈ (l.drop sa).take na, Kd κ p := fun p hp => h0 p (List.mem_of_mem_drop (List.mem_of_mem_take hp))
 have hYm : ∀ p ∈ (l.drop (sa + na)).take nb, Kd κ p := fun p hp => h0 p (List.mem_of_mem_drop (List.mem_of_mem_take hp))
 have hD : l.drop (sa + na) = (l.drop (sa + na)).take nb ++ l.drop (sa + na + nb) := by
  have := List.take_append_drop nb (l.drop (sa + na))
  rw [List.drop_drop] at this
  exact this.symm
 have hD1 : l.drop sa = (l.drop sa).take na ++ l.drop (sa + na) := by
  have := List.take_append_drop na (l.drop sa)
  rw [List.drop_drop] at this
  exact this.symm
 have headY : ∀ y ∈ (l.drop (sa + na)).take nb, Le κ (arrOf st)[sa + na] y := fun y hy => by
  obtain ⟨j, hj, rfl⟩ := List.mem_iff_getElem.mp hy
  have e0 : ((l.drop (sa + na)).take nb)[0]'(by omega) = (arrOf st)[sa + na] := by
   have := hat (sa + na) hsb
   rw [List.getElem_take, List.getElem_drop]
   exact (List.getElem?_eq_some_iff.mp this).2
  rcases Nat.eq_zero_or_pos j with z | z
  ·subst z
   rw [e0]
   exact Le.refl _
  ·rw [← e0]
   exact List.pairwise_iff_getElem.mp hY 0 j (by omega) hj z
 have hlx : sa + na - 1 < (arrOf st).size := by omega
 have lastX : ∀ x ∈ (l.drop sa).take na, Le κ x (arrOf st)[sa + na - 1] := fun x hx => by
  obtain ⟨j, hj, rfl⟩ := List.mem_iff_getElem.mp hx
  have e0 : ((l.drop sa).take na)[na - 1]'(by omega) = (arrOf st)[sa + na - 1] := by
   have := hat (sa + na - 1) hlx
   rw [List.getElem_take, List.getElem_drop]
   have e := (List.getElem?_eq_some_iff.mp this).2
   rw [← e]
   congr 1
   omega
  rcases Nat.lt_or_ge j (na - 1) with z | z
  ·rw [← e0]
   exact List.pairwise_iff_getElem.mp hX j (na - 1) hj (by omega) z
  ·have : j = na - 1 := by omega
   subst this
   rw [e0]
   exact Le.refl _
 have keep : (∀ x ∈ (l.drop sa).take na, ∀ y ∈ (l.drop (sa + na)).take nb, Le κ x y) → Q true (SortSt.mk' (kindOf st) (arrOf st) (((pendingOf st).setIfInBounds i (sa, na + nb, pw)).eraseIdxIfInBounds (i + 1)) (gallopOf st) (failedOf st)) := fun hxy => by
  refine h (arrOf st) ((l.drop sa).take na ++ (l.drop (sa + na)).take nb) (gallopOf st) ?_ (List.Perm.refl _) ?_
  ·rw [hl, List.append_assoc, List.append_assoc, ← hD, ← hD1, List.take_append_drop]
  ·rw [List.pairwise_append]
   exact ⟨hX, hY, hxy⟩
 have hkey : Kd κ (arrOf st)[sa + na] := h0 _ (by rw [← hl]; simp)
 refine wpS_bind (gal2_ok hO ((l.drop sa).take na) hk (by omega) hkey (by rw [hl]) hXl hXm hX fun k q1 q2 q3 => ?_)
 have hle1 : ∀ x ∈ ((l.drop sa).take na).take k, Le κ x (arrOf st)[sa + na] := fun x hx => by
  have : (!κ.blt (ky κ (arrOf st)[sa + na]) (ky κ x)) = true := q2 x hx
  exact le_of_nlt (by simpa using this)
 have hge1 : ∀ x ∈ ((l.drop sa).take na).drop k, Le κ (arrOf st)[sa + na] x := fun x hx => by
  have : (!κ.blt (ky κ (arrOf st)[sa + na]) (ky κ x)) = false := q3 x hx
  exact le_of_lt (by simpa using this)
 refine wpS_ite (fun e => wpS_pure (keep fun x hx y hy => ?_)) (fun e => ?_)
 ·have e : na - k = 0 := eq_of_beq e
  exact (hle1 x (by rw [List.take_of_length_le (by omega)]; exact hx)).trans (headY y hy)
 have e : ¬ na - k = 0 := nbeq e
 have hidx : sa + k + (na - k) - 1 = sa + na - 1 := by omega
 refine wpS_bind (elem_ok (p := (arrOf st)[sa + na - 1]) (by show (arrOf st)[sa + k + (na - k) - 1]? = _; rw [hidx]; exact Array.getElem?_eq_getElem hlx) ?_)
 have hkey2 : Kd κ (arrOf st)[sa + na - 1] := h0 _ (by rw [← hl]; simp)
 refine wpS_bind (gal2_ok hO ((l.drop (sa + na)).take nb) hk (by omega) hkey2 (by rw [hl]) hYl hYm hY fun n2 p1 p2 p3 => ?_)
 have hle2 : ∀ y ∈ ((l.drop (sa + na)).take nb).take n2, Le κ y (arrOf st)[sa + na - 1] := fun y hy => le_of_lt (p2 y hy)
 have hge2 : ∀ y ∈ ((l.drop (sa + na)).take nb).drop n2, Le κ (arrOf st)[sa + na - 1] y := fun y hy => le_of_nlt (p3 y hy)
 refine wpS_ite (fun e2 => wpS_pure (keep fun x hx y hy => ?_)) (fun e2 => ?_)
 ·have e2 : n2 = 0 := eq_of_beq e2
  subst e2
  exact (lastX x hx).trans (hge2 y hy)
 have e2 : ¬ n2 = 0 := nbeq e2
 have hx1 : ((arrOf st).extract (sa + k) (sa + na)).toList = ((l.drop sa).take na).drop k := by
  rw [ext_m, hl, List.drop_take, List.drop_take, List.drop_drop]
  congr 1
  omega
 have hy1 : ((arrOf st).extract (sa + na) (sa + na + n2)).toList = ((l.drop (sa + na)).take nb).take n2 := by
  rw [ext_k, hl, List.take_take, Nat.min_eq_left p1]
 have hxs : ((arrOf st).extract (sa + k) (sa + na)).size = na - k := by
  rw [← Array.length_toList, hx1, List.length_drop, hXl]
 have hys : ((arrOf st).extract (sa + na) (sa + na + n2)).size = n2 := by
  rw [← Array.length_toList, hy1, List.length_take, hYl]
  omega
 have hy0 : ((arrOf st).extract (sa + na) (sa + na + n2))[0]'(by omega) = (arrOf st)[sa + na] := by simp
 have hx0 : ((arrOf st).extract (sa + k) (sa + na))[((arrOf st).extract (sa + k) (sa + na)).size - 1]'(by omega) = (arrOf st)[sa + na - 1] := by
  rw [Array.getElem_extract]
  congr 1
  rw [hxs]
  omega
 have hXs : ((l.drop sa).take na).take k ++ ((l.drop sa).take na).drop k = (l.drop sa).take na := List.take_append_drop _ _
 have hYs : ((l.drop (sa + na)).take nb).take n2 ++ ((l.drop (sa + na)).take nb).drop n2 = (l.drop (sa + na)).take nb := List.take_append_drop _ _
 have fin : ∀ (R : Array Keyed) (g : Nat), Good κ ((arrOf st).extract (sa + k) (sa + na)) ((arrOf st).extract (sa + na) (sa + na + n2)) R →
   Q true (SortSt.mk' (kindOf st) (List.foldl (fun a (pj : Keyed × Nat) => a.setIfInBounds (sa + k + pj.2) pj.1) (arrOf st) R.toList.zipIdx) (((pendingOf st).setIfInBounds i (sa, na + nb, pw)).eraseIdxIfInBounds (i + 1)) g (failedOf st)) := fun R g hR => by
  obtain ⟨hRp, hRs⟩ := hR
  rw [hx1, hy1] at hRp
  have hRl : R.toList.length = na - k + n2 := by
   have e1 : (((l.drop sa).take na).drop k).length = na - k := by rw [List.length_drop, hXl]
   have e2 : (((l.drop (sa + na)).take nb).take n2).length = n2 := by rw [List.length_take, hYl]; omega
   rw [hRp.length_eq, List.length_append, e1, e2]
  refine h _ (((l.drop sa).take na).take k ++ R.toList ++ ((l.drop (sa + na)).take nb).drop n2) g ?_ ?_ ?_
  ·rw [laid_over R.toList 0 (sa + k) (arrOf st) (by omega), hl, hRl]
   have e1 : l.take (sa + k + 0) = l.take sa ++ ((l.drop sa).take na).take k := by
    rw [Nat.add_zero, List.take_add, List.take_take, Nat.min_eq_left q1]
   have e3 : l.drop (sa + k + 0 + (na - k + n2)) = ((l.drop (sa + na)).take nb).drop n2 ++ l.drop (sa + na + nb) := by
    rw [show sa + k + 0 + (na - k + n2) = sa + na + n2 by omega, ← List.drop_drop (i := n2) (j := sa + na)]
    conv => lhs; rw [hD]
    rw [List.drop_append_of_le_length (by omega)]
   rw [e1, e3]
   simp only [List.append_assoc]
  ·refine List.Perm.trans ?_ (show (((l.drop sa).take na).take k ++ (((l.drop sa).take na).drop k ++ ((l.drop (sa + na)).take nb).take n2) ++ ((l.drop (sa + na)).take nb).drop n2).Perm _ from ?_)
   ·exact (hRp.append_left _).append_right _
   ·have : ((l.drop sa).take na).take k ++ (((l.drop sa).take na).drop k ++ ((l.drop (sa + na)).take nb).take n2) ++ ((l.drop (sa + na)).take nb).drop n2 = (((l.drop sa).take na).take k ++ ((l.drop sa).take na).drop k) ++ (((l.drop (sa + na)).take nb).take n2 ++ ((l.drop (sa + na)).take nb).drop n2) := by simp only [List.append_assoc]
    rw [this, hXs, hYs]
  ·have pX := hX
   rw [← hXs, List.pairwise_append] at pX
   have pY := hY
   rw [← hYs, List.pairwise_append] at pY
   have hmem : ∀ m ∈ R.toList, m ∈ ((l.drop sa).take na).drop k ∨ m ∈ ((l.drop (sa + na)).take nb).take n2 := fun m hm => List.mem_append.mp (hRp.mem_iff.mp hm)
   rw [List.pairwise_append, List.pairwise_append]
   refine ⟨⟨pX.1, hRs, fun x hx m hm => ?_⟩, pY.2.1, fun z hz y hy => ?_⟩
   ·rcases hmem m hm with y | y
    ·exact pX.2.2 x hx m y
    ·exact (hle1 x hx).trans (headY m (List.mem_of_mem_take y))
   ·rcases List.mem_append.mp hz with z1 | z1
    ·exact (hle1 z z1).trans (headY y (List.mem_of_mem_drop hy))
    ·rcases hmem z z1 with z2 | z2
     ·exact (lastX z (List.mem_of_mem_drop z2)).trans (hge2 y hy)
     ·exact pY.2.2 z z2 y hy
 have hXK : ∀ p ∈ ((arrOf st).extract (sa + k) (sa + na)).toList, Kd κ p := fun p hp => by
  rw [hx1] at hp
  exact hXm p (List.mem_of_mem_drop hp)
 have hYK : ∀ p ∈ ((arrOf st).extract (sa + na) (sa + na + n2)).toList, Kd κ p := fun p hp => by
  rw [hy1] at hp
  exact hYm p (List.mem_of_mem_take hp)
 have hXp : ((arrOf st).extract (sa + k) (sa + na)).toList.Pairwise (Le κ) := by
  rw [hx1]
  exact hX.sublist (List.drop_sublist _ _)
 have hYp : ((arrOf st).extract (sa + na) (sa + na + n2)).toList.Pairwise (Le κ) := by
  rw [hy1]
  exact hY.sublist (List.take_sublist _ _)
 have hfi : ∀ x ∈ ((arrOf st).extract (sa + k) (sa + na)).toList, Le κ (((arrOf st).extract (sa + na) (sa + na + n2))[0]'(by omega)) x := fun x hx => by
  rw [hx1] at hx
  rw [hy0]
  exact hge1 x hx
 have hla : ∀ y ∈ ((arrOf st).extract (sa + na) (sa + na + n2)).toList, Le κ y (((arrOf st).extract (sa + k) (sa + na))[((arrOf st).extract (sa + k) (sa + na)).size - 1]'(by omega)) := fun y hy => by
  rw [hy1] at hy
  rw [hx0]
  exact hle2 y hy
 have fin2 : ∀ (R : Array Keyed) (st' : SortSt), Gs (SortSt.mk' (kindOf st) (arrOf st) (((pendingOf st).setIfInBounds i (sa, na + nb, pw)).eraseIdxIfInBounds (i + 1)) (gallopOf st) (failedOf st)) st' → Good κ ((arrOf st).extract (sa + k) (sa + na)) ((arrOf st).extract (sa + na) (sa + na + n2)) R →
   Q (failedOf st').isNone (SortSt.mk' (kindOf st') (List.foldl (fun a (pj : Keyed × Nat) => a.setIfInBounds (sa + k + pj.2) pj.1) (arrOf st') R.toList.zipIdx) (pendingOf st') (gallopOf st') (failedOf st')) := fun R st' hG hR => by
  obtain ⟨g, rfl⟩ := hG
  have := fin R g hR
  show Q (failedOf st).isNone _
  rw [show (failedOf st).isNone = true by rw [hf]; rfl]
  exact this
 have px : 0 < ((arrOf st).extract (sa + k) (sa + na)).size := by omega
 have py : 0 < ((arrOf st).extract (sa + na) (sa + na + n2)).size := by omega
 refine wpS_ite (fun _ => wpS_bind (mlo_ok hO hk hXK hYK hXp hYp px py hfi hla fun R st' hG hR => ?_)) (fun _ => wpS_bind (mhi_ok hO hk hXK hYK hXp hYp px py hfi hla fun R st' hG hR => ?_))
 ·exact wpS_bind (wpS_modify (wpS_bind (wpS_get (wpS_pure (fin2 R st' hG hR)))))
 ·exact wpS_bind (wpS_modify (wpS_bind (wpS_get (wpS_pure (fin2 R st' hG hR)))))
end
end TS
set_option maxHeartbeats 2000000
namespace TS
open PySem PyProof.Rows
variable {κ : KeyKind}
abbrev Run := Nat × Nat × Nat
def Ch : Nat → List Run → Nat → Prop
 | s, [], e => s = e
 | s, r :: rs, e => r.1 = s ∧ 1 ≤ r.2.1 ∧ Ch (s + r.2.1) rs e
theorem ch_app : ∀ {s e : Nat} {p q : List Run}, Ch s (p ++ q) e ↔ ∃ m, Ch s p m ∧ Ch m q e
 | s, e, [], q => ⟨fun h => ⟨s, rfl, h⟩, fun ⟨m, h1, h2⟩ => by cases h1; exact h2⟩
 | s, e, r :: p, q => by
  show (r.1 = s ∧ 1 ≤ r.2.1 ∧ Ch _ (p ++ q) e) ↔ _
  rw [ch_app (p := p)]
  exact ⟨fun ⟨h1, h2, m, h3, h4⟩ => ⟨m, ⟨h1, h2, h3⟩, h4⟩, fun ⟨m, ⟨h1, h2, h3⟩, h4⟩ => ⟨h1, h2, m, h3, h4⟩⟩
theorem ch_len : ∀ {s e : Nat} {p : List Run}, Ch s p e → s + p.length ≤ e
 | s, e, [], h => by cases h; exact Nat.le_refl _
 | s, e, r :: p, h => by
  have := ch_len h.2.2
  have := h.2.1
  rw [List.length_cons]
  omega
theorem ch_mem : ∀ {s e : Nat} {p : List Run}, Ch s p e → ∀ r ∈ p, s ≤ r.1 ∧ r.1 + r.2.1 ≤ e
 | s, e, [], h, r, hr => nomatch hr
 | s, e, q :: p, h, r, hr => by
  have hl := ch_len h.2.2
  rcases List.mem_cons.mp hr with rfl | z
  ·have := h.1
   omega
  ·have := ch_mem h.2.2 r z
   omega
structure Rn (κ : KeyKind) (a₀ : Array Keyed) (lo : Nat) (st : SortSt) : Prop where
 bs : Bs κ a₀ st
 ch : Ch 0 (pendingOf st).toList lo
 up : ∀ r ∈ (pendingOf st).toList, (((arrOf st).toList.drop r.1).take r.2.1).Pairwise (Le κ)
theorem split2 {p : Array Run} {i : Nat} (h : i + 1 < p.size) : ∃ pre x y post, p.toList = pre ++ x :: y :: post ∧ pre.length = i ∧ p[i]? = some x ∧ p[i + 1]? = some y := by
 have h1 : i < p.toList.length := by simp; omega
 have h2 : i + 1 < p.toList.length := by simp; omega
 refine ⟨p.toList.take i, p.toList[i], p.toList[i + 1], p.toList.drop (i + 2), ?_, by rw [List.length_take]; omega, ?_, ?_⟩
 ·rw [← List.drop_eq_getElem_cons h2, ← List.drop_eq_getElem_cons h1, List.take_append_drop]
 ·rw [Array.getElem?_eq_getElem (by omega)]
  simp
 ·rw [Array.getElem?_eq_getElem h]
  simp
theorem pend_eq {p : Array Run} {i : Nat} {pre post : List Run} {x y v : Run} (e : p.toList = pre ++ x :: y :: post) (hl : pre.length = i) : ((p.setIfInBounds i v).eraseIdxIfInBounds (i + 1)).toList = pre ++ v :: post := by
 subst hl
 have : ((p.setIfInBounds pre.length v).eraseIdxIfInBounds (pre.length + 1)).toList = (p.toList.set pre.length v).eraseIdx (pre.length + 1) := by simp
 rw [this, e, List.set_append_right _ _ (Nat.le_refl _), Nat.sub_self, List.set_cons_zero, List.eraseIdx_append_of_length_le (by omega)]
 simp
section
variable {prog : Program} {w : World} {A : Around} {E : Value → Shared → Prop} {s : Shared} {a₀ : Array Keyed}
theorem mat_inv (hO : κ.OneLt) {st : SortSt} {i lo : Nat} {Q : Bool → SortSt → Prop} (h0 : ∀ p ∈ a₀.toList, Kd κ p) (hR : Rn κ a₀ lo st) (hlo : lo ≤ a₀.size) (hi : i + 1 < (pendingOf st).size)
  (h : ∀ st', Rn κ a₀ lo st' → (pendingOf st').size + 1 = (pendingOf st).size → (arrOf st').toList.drop lo = (arrOf st).toList.drop lo → Q true st') : wpS (model prog w) A E s (mat i) Q st := by
 obtain ⟨pre, ⟨sa, na, pw⟩, ⟨sb, nb, pw2⟩, post, ep, hpl, h1, h2⟩ := split2 hi
 have hch := hR.ch
 rw [ep, ch_app] at hch
 obtain ⟨m, c1, c2, c3, c4, c5, c6⟩ := hch
 have c2 : sa = m := c2
 have c3 : 1 ≤ na := c3
 have c4 : sb = m + na := c4
 have c5 : 1 ≤ nb := c5
 subst c2 c4
 have c6 : Ch (sa + na + nb) post lo := c6
 have hle := ch_len c6
 have hsz := hR.bs.size
 refine mat_ok hO hR.bs.kind hR.bs.failed (hR.bs.kd h0) h1 h2 c3 c5 (by omega) (hR.up (sa, na, pw) (by rw [ep]; simp)) (hR.up (sa + na, nb, pw2) (by rw [ep]; simp)) fun xs Z g ex hZ hZs => ?_
 have hZl : Z.length = na + nb := by
  rw [hZ.length_eq, List.length_append, List.length_take, List.length_take, List.length_drop, List.length_drop]
  have : (arrOf st).toList.length = (arrOf st).size := by simp
  omega
 have hlen : (arrOf st).toList.length = (arrOf st).size := by simp
 have hpe := pend_eq (v := (sa, na + nb, pw)) ep hpl
 refine h _ ⟨⟨?_, hR.bs.failed, hR.bs.kind⟩, ?_, ?_⟩ ?_ ?_
 ·refine Array.perm_iff_toList_perm.mpr ?_
  show xs.toList.Perm _
  refine List.Perm.trans ?_ (Array.perm_iff_toList_perm.mp hR.bs.perm)
  rw [ex]
  have e1 : (arrOf st).toList = (arrOf st).toList.take sa ++ (((arrOf st).toList.drop sa).take na ++ ((arrOf st).toList.drop (sa + na)).take nb) ++ (arrOf st).toList.drop (sa + na + nb) := by
   have d1 := List.take_append_drop sa (arrOf st).toList
   have d2 := List.take_append_drop na ((arrOf st).toList.drop sa)
   have d3 := List.take_append_drop nb ((arrOf st).toList.drop (sa + na))
   rw [List.drop_drop] at d2 d3
   rw [List.append_assoc, List.append_assoc, d3, d2, d1]
  conv => rhs; rw [e1]
  exact (hZ.append_left _).append_right _
 ·show Ch 0 _ lo
  rw [hpe, ch_app]
  exact ⟨sa, c1, rfl, by show 1 ≤ na + nb; omega, by show Ch (sa + (na + nb)) post lo; rw [← Nat.add_assoc]; exact c6⟩
 ·intro r hr
  have hr : r ∈ ((((pendingOf st).setIfInBounds i (sa, na + nb, pw)).eraseIdxIfInBounds (i + 1))).toList := hr
  rw [hpe] at hr
  show ((xs.toList.drop r.1).take r.2.1).Pairwise (Le κ)
  rw [ex]
  rcases List.mem_append.mp hr with y | y
  ·have hb := ch_mem c1 r y
   have : ((((arrOf st).toList.take sa ++ Z ++ (arrOf st).toList.drop (sa + na + nb)).drop r.1).take r.2.1) = ((arrOf st).toList.drop r.1).take r.2.1 := by
    rw [List.append_assoc, List.drop_append_of_le_length (by rw [List.length_take]; omega), List.take_append_of_le_length (by rw [List.length_drop, List.length_take]; omega), List.drop_take, List.take_take, Nat.min_eq_left (by omega)]
   rw [this]
   exact hR.up r (by rw [ep]; exact List.mem_append_left _ y)
  ·rcases List.mem_cons.mp y with rfl | z
   ·show ((((arrOf st).toList.take sa ++ Z ++ (arrOf st).toList.drop (sa + na + nb)).drop sa).take (na + nb)).Pairwise (Le κ)
    have hl1 : ((arrOf st).toList.take sa).length = sa := by rw [List.length_take]; omega
    rw [List.append_assoc, List.drop_append_of_le_length (by omega), List.drop_eq_nil_of_le (by omega), List.nil_append, List.take_append_of_le_length (by omega), List.take_of_length_le (by omega)]
    exact hZs
   ·have hb := ch_mem c6 r z
    have hl1 : ((arrOf st).toList.take sa ++ Z).length = sa + na + nb := by rw [List.length_append, List.length_take]; omega
    have : ((((arrOf st).toList.take sa ++ Z ++ (arrOf st).toList.drop (sa + na + nb)).drop r.1).take r.2.1) = ((arrOf st).toList.drop r.1).take r.2.1 := by
     rw [List.drop_append, List.drop_eq_nil_of_le (by omega), List.nil_append, List.drop_drop, hl1, show sa + na + nb + (r.1 - (sa + na + nb)) = r.1 by omega]
    rw [this]
    exact hR.up r (by rw [ep]; simp [z])
 ·have e1 : (pendingOf st).size = pre.length + (2 + post.length) := by
   rw [← Array.length_toList, ep, List.length_append]
   simp only [List.length_cons]
   omega
  have e2 : (((pendingOf st).setIfInBounds i (sa, na + nb, pw)).eraseIdxIfInBounds (i + 1)).size = pre.length + (1 + post.length) := by
   rw [← Array.length_toList, hpe, List.length_append]
   simp only [List.length_cons]
   omega
  show (((pendingOf st).setIfInBounds i (sa, na + nb, pw)).eraseIdxIfInBounds (i + 1)).size + 1 = _
  omega
 ·show xs.toList.drop lo = _
  have hl1 : ((arrOf st).toList.take sa ++ Z).length = sa + na + nb := by rw [List.length_append, List.length_take]; omega
  rw [ex, List.drop_append, List.drop_eq_nil_of_le (by omega), List.nil_append, List.drop_drop, hl1, show sa + na + nb + (lo - (sa + na + nb)) = lo by omega]
def rp (r : Run) : Nat × Nat := (r.1, r.2.1)
theorem ch_rp : ∀ {s e : Nat} {p q : List Run}, p.map rp = q.map rp → Ch s p e → Ch s q e
 | s, e, [], [], _, h => h
 | s, e, [], _ :: _, h, _ => by cases h
 | s, e, _ :: _, [], h, _ => by cases h
 | s, e, x :: p, y :: q, h, c => by
  rw [List.map_cons, List.map_cons] at h
  have h1 : (x.1, x.2.1) = (y.1, y.2.1) := (List.cons.inj h).1
  have e1 : x.1 = y.1 := (Prod.mk.inj h1).1
  have e2 : x.2.1 = y.2.1 := (Prod.mk.inj h1).2
  refine ⟨e1 ▸ c.1, e2 ▸ c.2.1, ?_⟩
  rw [← e2]
  exact ch_rp (List.cons.inj h).2 c.2.2
theorem Rn.pend {st : SortSt} {lo : Nat} (hR : Rn κ a₀ lo st) {p : Array Run} (h : (pendingOf st).toList.map rp = p.toList.map rp) : Rn κ a₀ lo (setPending st p) := by
 refine ⟨⟨hR.bs.perm, hR.bs.failed, hR.bs.kind⟩, ch_rp h hR.ch, fun r hr => ?_⟩
 have : rp r ∈ (pendingOf st).toList.map rp := by
  rw [h]
  exact List.mem_map_of_mem hr
 obtain ⟨r', hr', e⟩ := List.mem_map.mp this
 have e1 : r'.1 = r.1 := (Prod.mk.inj e).1
 have e2 : r'.2.1 = r.2.1 := (Prod.mk.inj e).2
 have := hR.up r' hr'
 rw [e1, e2] at this
 exact this
theorem Rn.push {st : SortSt} {lo n : Nat} (hR : Rn κ a₀ lo st) (hn : 1 ≤ n) (hs : (((arrOf st).toList.drop lo).take n).Pairwise (Le κ)) : Rn κ a₀ (lo + n) (setPending st ((pendingOf st).push (lo, n, 0))) := by
 refine ⟨⟨hR.bs.perm, hR.bs.failed, hR.bs.kind⟩, ?_, fun r hr => ?_⟩
 ·show Ch 0 ((pendingOf st).push (lo, n, 0)).toList (lo + n)
  rw [Array.toList_push, ch_app]
  exact ⟨lo, hR.ch, rfl, hn, rfl⟩
 ·have hr : r ∈ ((pendingOf st).push (lo, n, 0)).toList := hr
  rw [Array.toList_push] at hr
  rcases List.mem_append.mp hr with y | y
  ·exact hR.up r y
  ·rw [List.mem_singleton.mp y]
   exact hs
theorem mod_rp (p : Array Run) (i : Nat) (v : Nat) : p.toList.map rp = (p.modify i fun x => match x with | (st, len, _) => (st, len, v)).toList.map rp := by
 refine List.ext_getElem? fun j => ?_
 rw [List.getElem?_map, List.getElem?_map]
 simp only [Array.getElem?_toList, Array.getElem?_modify]
 by_cases e : i = j
 ·subst e
  rw [if_pos rfl]
  cases p[i]? with
  | none => rfl
  | some r =>
   obtain ⟨a, b, c⟩ := r
   rfl
 ·rw [if_neg e]
end
end TS
set_option maxHeartbeats 2000000
namespace TS
open PySem PyProof.Rows
variable {κ : KeyKind}
theorem ite_lt {c : Prop} [Decidable c] {n : Nat} (h : ¬ n ≤ 1) : (if c then n - 2 - 1 else n - 2) + 1 < n := by
 split <;> omega
theorem sub2_lt {n : Nat} (h : n > 1) : n - 2 + 1 < n := by omega
theorem up_seg {xs : Array Keyed} {lo n : Nat} (h : lo + n ≤ xs.size) (hU : Up κ xs lo (lo + n)) : ((xs.toList.drop lo).take n).Pairwise (Le κ) := by
 rw [List.pairwise_iff_getElem]
 intro i j hi hj hij
 have hj' : j < n := by
  rw [List.length_take] at hj
  omega
 have := hU (lo + i) (lo + j) (by omega) (by omega) (by omega)
 rw [KK_at (by omega), KK_at (by omega)] at this
 rw [List.getElem_take, List.getElem_take, List.getElem_drop, List.getElem_drop]
 unfold Le
 simpa using this
section
variable {prog : Program} {w : World} {A : Around} {E : Value → Shared → Prop} {s : Shared} {a₀ : Array Keyed}
theorem Rn.set {st : SortSt} {lo : Nat} {xs : Array Keyed} (hR : Rn κ a₀ lo st) (hlo : lo ≤ a₀.size) (hp : xs.Perm (arrOf st)) (hf : ∀ k, k < lo → xs[k]? = (arrOf st)[k]?) : Rn κ a₀ lo (setArr st xs) := by
 refine ⟨hR.bs.set hp, hR.ch, fun r hr => ?_⟩
 have hb := ch_mem hR.ch r hr
 have hu := hR.up r hr
 have : (xs.toList.drop r.1).take r.2.1 = ((arrOf st).toList.drop r.1).take r.2.1 := by
  refine List.ext_getElem? fun j => ?_
  rcases Nat.lt_or_ge j r.2.1 with y | y
  ·rw [List.getElem?_take_of_lt y, List.getElem?_take_of_lt y, List.getElem?_drop, List.getElem?_drop]
   simpa using hf (r.1 + j) (by omega)
  ·rw [List.getElem?_eq_none (by rw [List.length_take]; omega), List.getElem?_eq_none (by rw [List.length_take]; omega)]
 show ((xs.toList.drop r.1).take r.2.1).Pairwise (Le κ)
 rw [this]
 exact hu
theorem sr_ok (hO : κ.OneLt) {st : SortSt} {Q : Unit → SortSt → Prop} (hB : Bs κ a₀ st) (h0 : ∀ p ∈ a₀.toList, Kd κ p) (hd : Dist κ a₀) (hpe : pendingOf st = #[]) (h2 : 2 ≤ a₀.size)
  (h : ∀ st', Bs κ a₀ st' → (arrOf st').toList.Pairwise (Le κ) → Q () st') : wpS (model prog w) A E s sortRuns' Q st := by
 refine wpS_bind (wpS_get ?_)
 have hsz := hB.size
 have hR0 : Rn κ a₀ 0 st := ⟨hB, by rw [hpe]; exact rfl, fun r hr => by rw [hpe] at hr; cases hr⟩
 refine wpS_bind (wpS_mono (wpS_forRange (I := fun x c st' => ∃ lo, c = (none, lo) ∧ x ≤ lo ∧ lo ≤ a₀.size ∧ Rn κ a₀ lo st')
  (Q := fun c st' => c = (none, a₀.size) ∧ Rn κ a₀ a₀.size st') ?step ?fin ⟨0, rfl, Nat.le_refl _, by omega, hR0⟩) ?post)
 case fin =>
  rintro c st' ⟨lo, rfl, h1, h3, hR⟩
  have e : max 0 (arrOf st).size = a₀.size := by omega
  have : lo = a₀.size := by
   have h1 : max 0 (arrOf st).size ≤ lo := h1
   omega
  subst this
  exact ⟨rfl, hR⟩
 case step =>
  rintro x c st1 _ hx ⟨lo, rfl, h1, h3, hR⟩
  refine wpS_ite (fun e => ?_) (fun e => ?_)
  ·have e : lo ≥ (arrOf st).size := e
   have : lo = a₀.size := by omega
   subst this
   exact wpS_pure ⟨rfl, hR⟩
  have e : ¬ lo ≥ (arrOf st).size := e
  refine wpS_bind (cnt_ok hO hR.bs h0 hd (by show 1 ≤ (arrOf st).size - lo; omega) (by show lo + ((arrOf st).size - lo) ≤ _; omega) fun m xs m1 m2 mp mf mU => ?_)
  have m2 : m ≤ (arrOf st).size - lo := m2
  have hR1 := hR.set h3 mp mf
  have hB1 := hR1.bs
  have hmr : minRun' (arrOf st).size (arrOf st).size 0 = minRun' (arrOf st).size (arrOf st).size 0 := rfl
  refine wpS_ite (fun em => ?_) (fun em => ?_)
  ·have em : m < minRun' (arrOf st).size (arrOf st).size 0 := em
   refine wpS_bind (wpS_lift (wpAny_rule ⟨rfl, ?_⟩))
   refine wpS_bind (bin_ok (n := (min ((arrOf st).size - lo) (minRun' (arrOf st).size (arrOf st).size 0))) hO hB1 h0 m1 (by omega) (by omega) mU fun ys yp yf yU => ?_)
   have hR2 := hR1.set h3 yp yf
   refine wpS_ite (fun z => absurd (show false = true from z) Bool.false_ne_true) (fun _ => ?_)
   have hD : (((arrOf (setArr (setArr st1 xs) ys)).toList.drop lo).take (min ((arrOf st).size - lo) (minRun' (arrOf st).size (arrOf st).size 0))).Pairwise (Le κ) := up_seg (by have := hR2.bs.size; omega) yU
   refine wpS_bind (wpS_get ?_)
   cases hb : (pendingOf (setArr (setArr st1 xs) ys)).back? with
   | none => exact wpS_bind (wpS_modify (wpS_pure ⟨lo + (min ((arrOf st).size - lo) (minRun' (arrOf st).size (arrOf st).size 0)), rfl, by omega, by omega, hR2.push (by omega) hD⟩))
   | some r =>
    obtain ⟨s1, n1, p1⟩ := r
    refine wpS_bind (wpS_mono (wpS_forRange (I := fun y c st' => c = (none, ()) ∧ Rn κ a₀ lo st' ∧ (arrOf st').toList.drop lo = (arrOf (setArr (setArr st1 xs) ys)).toList.drop lo)
     (Q := fun c st' => c = (none, ()) ∧ Rn κ a₀ lo st' ∧ (arrOf st').toList.drop lo = (arrOf (setArr (setArr st1 xs) ys)).toList.drop lo) ?_ (fun c st' hh => hh) ⟨rfl, hR2, rfl⟩) ?_)
    ·rintro y c st2 _ hy ⟨rfl, hR2, hd2⟩
     refine wpS_bind (wpS_get ?_)
     dsimp only
     by_cases hg : (pendingOf st2).size > 1
     ·rw [if_pos hg, Array.getElem?_eq_getElem (show (pendingOf st2).size - 2 < (pendingOf st2).size by omega)]
      refine wpS_ite (fun _ => wpS_pure ⟨rfl, hR2, hd2⟩) (fun _ => ?_)
      refine wpS_bind (mat_inv hO h0 hR2 h3 (sub2_lt hg) fun st3 hR3 _ hd3 => ?_)
      exact wpS_pure ⟨rfl, hR3, hd3.trans hd2⟩
     ·rw [if_neg hg]
      exact wpS_pure ⟨rfl, hR2, hd2⟩
    ·rintro c st2 ⟨rfl, hR2, hd2⟩
     refine wpS_bind (wpS_modify ?_)
     have hR3 := hR2.pend (mod_rp (pendingOf st2) ((pendingOf st2).size - 1) (power' (arrOf st).size (2 * s1 + n1) (2 * s1 + n1 + n1 + (min ((arrOf st).size - lo) (minRun' (arrOf st).size (arrOf st).size 0))) (arrOf st).size))
     refine wpS_bind (wpS_modify (wpS_pure ⟨lo + (min ((arrOf st).size - lo) (minRun' (arrOf st).size (arrOf st).size 0)), rfl, by omega, by omega, hR3.push (by omega) ?_⟩))
     show (((arrOf st2).toList.drop lo).take (min ((arrOf st).size - lo) (minRun' (arrOf st).size (arrOf st).size 0))).Pairwise (Le κ)
     rw [hd2]
     exact hD
  ·
   have hD : (((arrOf (setArr st1 xs)).toList.drop lo).take m).Pairwise (Le κ) := up_seg (by have := hR1.bs.size; omega) mU
   refine wpS_bind (wpS_get ?_)
   cases hb : (pendingOf (setArr st1 xs)).back? with
   | none => exact wpS_bind (wpS_modify (wpS_pure ⟨lo + m, rfl, by omega, by omega, hR1.push (by omega) hD⟩))
   | some r =>
    obtain ⟨s1, n1, p1⟩ := r
    refine wpS_bind (wpS_mono (wpS_forRange (I := fun y c st' => c = (none, ()) ∧ Rn κ a₀ lo st' ∧ (arrOf st').toList.drop lo = (arrOf (setArr st1 xs)).toList.drop lo)
     (Q := fun c st' => c = (none, ()) ∧ Rn κ a₀ lo st' ∧ (arrOf st').toList.drop lo = (arrOf (setArr st1 xs)).toList.drop lo) ?_ (fun c st' hh => hh) ⟨rfl, hR1, rfl⟩) ?_)
    ·rintro y c st2 _ hy ⟨rfl, hR2, hd2⟩
     refine wpS_bind (wpS_get ?_)
     dsimp only
     by_cases hg : (pendingOf st2).size > 1
     ·rw [if_pos hg, Array.getElem?_eq_getElem (show (pendingOf st2).size - 2 < (pendingOf st2).size by omega)]
      refine wpS_ite (fun _ => wpS_pure ⟨rfl, hR2, hd2⟩) (fun _ => ?_)
      refine wpS_bind (mat_inv hO h0 hR2 h3 (sub2_lt hg) fun st3 hR3 _ hd3 => ?_)
      exact wpS_pure ⟨rfl, hR3, hd3.trans hd2⟩
     ·rw [if_neg hg]
      exact wpS_pure ⟨rfl, hR2, hd2⟩
    ·rintro c st2 ⟨rfl, hR2, hd2⟩
     refine wpS_bind (wpS_modify ?_)
     have hR3 := hR2.pend (mod_rp (pendingOf st2) ((pendingOf st2).size - 1) (power' (arrOf st).size (2 * s1 + n1) (2 * s1 + n1 + n1 + m) (arrOf st).size))
     refine wpS_bind (wpS_modify (wpS_pure ⟨lo + m, rfl, by omega, by omega, hR3.push (by omega) ?_⟩))
     show (((arrOf st2).toList.drop lo).take m).Pairwise (Le κ)
     rw [hd2]
     exact hD
 case post =>
  rintro c st1 ⟨rfl, hR⟩
  refine wpS_bind (wpS_mono (wpS_forRange (I := fun x c st' => c = (none, ()) ∧ Rn κ a₀ a₀.size st' ∧ (pendingOf st').size + x ≤ a₀.size + 1)
   (Q := fun c st' => c = (none, ()) ∧ Rn κ a₀ a₀.size st' ∧ (pendingOf st').size ≤ 1) ?_ ?_ ⟨rfl, hR, ?_⟩) ?_)
  ·rintro y c st2 _ hy ⟨rfl, hR2, hs⟩
   refine wpS_bind (wpS_get ?_)
   refine wpS_ite (fun e => wpS_pure ⟨rfl, hR2, e⟩) (fun e => ?_)
   have e : ¬ (pendingOf st2).size ≤ 1 := e
   refine wpS_bind (mat_inv hO h0 hR2 (Nat.le_refl _) (ite_lt e) fun st3 hR3 hs3 _ => ?_)
   exact wpS_pure ⟨rfl, hR3, by omega⟩
  ·rintro c st' ⟨rfl, hR', hs⟩
   have hs : (pendingOf st').size + max 0 (arrOf st).size ≤ a₀.size + 1 := hs
   exact ⟨rfl, hR', by omega⟩
  ·have := ch_len hR.ch
   have e : (pendingOf st1).toList.length = (pendingOf st1).size := by simp
   omega
  ·rintro c st' ⟨rfl, hR', hs⟩
   refine wpS_pure (h st' hR'.bs ?_)
   have hch := hR'.ch
   have hup := hR'.up
   have e : (pendingOf st').toList.length = (pendingOf st').size := by simp
   generalize (pendingOf st').toList = p at *
   match p, hch, hup, e with
   | [], hch, _, _ =>
    have : 0 = a₀.size := hch
    omega
   | [r], hch, hup, _ =>
    have c1 : r.1 = 0 := hch.1
    have c2 : 0 + r.2.1 = a₀.size := hch.2.2
    have := hup r (by simp)
    rw [c1, List.drop_zero, List.take_of_length_le (by have := hR'.bs.size; simp; omega)] at this
    exact this
   | _ :: _ :: _, _, _, e =>
    simp only [List.length_cons] at e
    omega
end
end TS
set_option maxHeartbeats 2000000
namespace TS
open PySem PySem.Spec PyProof.Rows
section
variable {prog : Program} {w : World} {A : Around} {E : Value → Shared → Prop} {s : Shared}
theorem up_of_pw {κ : KeyKind} {xs : Array Keyed} (hp : xs.toList.Pairwise (Le κ)) {n : Nat} (hn : n = xs.size) : SortedToK κ xs n := fun i j hij hj => by
 subst hn
 rw [KK_at (by omega), KK_at hj]
 rcases Nat.lt_or_ge i j with y | y
 ·have := List.pairwise_iff_getElem.mp hp i j (by simp; omega) (by simpa using hj) y
  simpa [Le] using this
 ·have : i = j := by omega
  subst this
  exact KeyOrd.kle_refl _
theorem tree_ok {κ : KeyKind} (hO : κ.OneLt) {l : Addr} {v1 v2 : Value} {vr : List Value} {ep : Nat} {F : Fin → Shared → Prop} (at0 : s.heap.get? l = some (seqObj "list" (v1 :: v2 :: vr).toArray ep))
  (kd : ∀ p ∈ (pairsOf (v1 :: v2 :: vr)).toList, Kd κ p) (dst : Dist κ (pairsOf (v1 :: v2 :: vr))) (kk : keyKind' (v1 :: v2 :: vr).toArray = pure oneType') (short : (v1 :: v2 :: vr).length ≤ sizeLine)
  (q : ∀ z : SortSt, (arrOf z).Perm (pairsOf (v1 :: v2 :: vr)) → SortedToK κ (arrOf z) (pairsOf (v1 :: v2 :: vr)).size → F (.done (.ret .none)) { s with heap := sortedHeap s.heap l (v1 :: v2 :: vr) ((arrOf z).map (·.2)) }) :
  wpAny (model prog w) A (Builtin.«list.sort» ⟨[.ref l], []⟩) F E s := by
 have lt0 := Heap.lt_size at0
 rw [list_sort_plain]
 refine wpAny_bind (listItems_at at0 rfl (wpAny_bind (listUpdate_at at0 rfl ?_)))
 obtain ⟨e1, at1⟩ : ∃ e1, (s.heap.update l (Obj.mapSeq fun _ => #[])).get? l = some (seqObj "list" #[] e1) := ⟨_, get?_update_seq at0 fun _ => #[]⟩
 refine wpAny_bind (seqEpoch_at at1 rfl (wpAny_bind (wpAny_newTuple (wpAny_bind (wpAny_newList (wpAny_holding ?_))))))
 have at2 : (((s.heap.update l (Obj.mapSeq fun _ => #[])).push (seqObj "tuple" (v1 :: v2 :: vr).toArray 0)).push (seqObj "list" #[] 0)).get? l = some (seqObj "list" #[] e1) := by
  have n1 : l ≠ (s.heap.update l (Obj.mapSeq fun _ => #[])).objs.size := by
   rw [Heap.size_update]
   exact Nat.ne_of_lt lt0
  have n2 : l ≠ ((s.heap.update l (Obj.mapSeq fun _ => #[])).push (seqObj "tuple" (v1 :: v2 :: vr).toArray 0)).objs.size := by
   rw [size_push', Heap.size_update]
   exact Nat.ne_of_lt (Nat.lt_succ_of_lt lt0)
  rw [Heap.get?_push_ne _ _ _ n2, Heap.get?_push_ne _ _ _ n1]
  exact at1
 show wpAny (model prog w) A _ F E { s with heap := ((s.heap.update l (Obj.mapSeq fun _ => #[])).push (seqObj "tuple" (v1 :: v2 :: vr).toArray 0)).push (seqObj "list" #[] 0) }
 dsimp only
 have big : ¬ (v1 :: v2 :: vr).toArray.size < 2 := by simp
 rw [if_neg big, if_neg big, kk]
 refine wpAny_bind (wpAny_pure ?_)
 have run := sr_ok (prog := prog) (w := w) (A := A) (E := E) (s := { s with heap := ((s.heap.update l (Obj.mapSeq fun _ => #[])).push (seqObj "tuple" (v1 :: v2 :: vr).toArray 0)).push (seqObj "list" #[] 0) }) hO (a₀ := pairsOf (v1 :: v2 :: vr)) (st := SortSt.mk' oneType' (pairsOf (v1 :: v2 :: vr)) #[] 7 none)
  (Q := fun _ z => Bs κ (pairsOf (v1 :: v2 :: vr)) z ∧ (arrOf z).toList.Pairwise (Le κ)) ⟨Array.Perm.refl _, rfl, rfl⟩ kd dst rfl (by rw [pairsOf_size]; simp) fun z b p => ⟨b, p⟩
 refine wpAny_bind (wpAny_mono run ?_ fun _ _ e => e)
 rintro ⟨⟨⟩, z⟩ s' ⟨rfl, b, p⟩
 dsimp only
 have szz : ((arrOf z).map (·.2)).size ≤ sizeLine := by
  rw [Array.size_map, b.size, pairsOf_size]
  exact short
 refine wpAny_bind (seqEpoch_at at2 rfl (wpAny_bind (listUpdate_at at2 rfl ?_ (hsz2 := Nat.le_succ_of_le szz))))
 rw [b.failed]
 simp only [bne_self_eq_false, Bool.false_eq_true, if_false]
 exact wpAny_pure (q z b.perm (up_of_pw p b.size.symm))
theorem dist_strs {vs : List Value} {ss : List Str} (hS : StrsAre vs ss) (nd : ss.Nodup) : Dist strKind (pairsOf vs) := by
 rw [dist_iff, pairsOf_toList]
 have e : (vs.zip vs).map (fun p => ky strKind p) = ss.map fun z => z.cps.toList := by
  clear nd
  induction hS with
  | nil => rfl
  | cons _ ih =>
   rename_i ih
   simp only [List.zip_cons_cons, List.map_cons]
   rw [ih]
   rfl
 have nd2 : (ss.map fun z : Str => z.cps.toList).Nodup := by
  rw [List.nodup_iff_pairwise_ne, List.pairwise_map]
  exact (List.nodup_iff_pairwise_ne.mp nd).imp fun {x y} h k => h (by rw [← L2.S_of x, ← L2.S_of y]; exact congrArg L2.S k)
 rw [← e, List.nodup_iff_pairwise_ne, List.pairwise_map] at nd2
 exact nd2
theorem kd_strs {vs : List Value} {ss : List Str} (hS : StrsAre vs ss) : ∀ p ∈ (pairsOf vs).toList, Kd strKind p := hS.keysOf
theorem sorted_long {l : Addr} {v1 v2 : Value} {vr : List Value} {ss : List Str} {Q : Value → Shared → Prop} (hl : s.heap.IsList l (v1 :: v2 :: vr).toArray) (hS : StrsAre (v1 :: v2 :: vr) ss) (nd : ss.Nodup) (short : (v1 :: v2 :: vr).length ≤ sizeLine)
  (h : ∀ (out : Array Value) (ss' : List Str), StrsAre out.toList ss' → ss'.Perm ss → sortedS ss' = true → Q (.ref (s.heap.objs.size + 1)) { s with heap := sortedAll s.heap (v1 :: v2 :: vr) out }) :
  wpAny (model prog w) A (call (.builtin "sorted") [.ref l]) Q E s := by
 refine Calls.call_function_entry kind_sorted plain_sorted entry_sorted (args_sorted1 _) ?_
 unfold Builtin.«sorted»
 refine wpAny_bind (m := checkCount "sorted" 1 1 _) (wpAny_pure (wpAny_bind (collect_list hl (wpAny_bind (wpAny_newList ?_)))))
 have sz : ((s.heap.push (seqObj "list" #[] 0)).update s.heap.objs.size (Obj.mapSeq (· ++ (v1 :: v2 :: vr).toArray))).objs.size = s.heap.objs.size + 1 := by
  rw [Heap.size_update, size_push']
 have at0 : (((s.heap.push (seqObj "list" #[] 0)).update s.heap.objs.size (Obj.mapSeq (· ++ (v1 :: v2 :: vr).toArray))).push (seqObj "list" (v1 :: v2 :: vr).toArray 0)).get? (s.heap.objs.size + 1) = some (seqObj "list" (v1 :: v2 :: vr).toArray 0) := by
  rw [← sz]
  exact Heap.get?_push_size _ rfl
 show wpAny _ _ _ _ _ { s with heap := ((s.heap.push (seqObj "list" #[] 0)).update s.heap.objs.size (Obj.mapSeq (· ++ (v1 :: v2 :: vr).toArray))).push (seqObj "list" (v1 :: v2 :: vr).toArray 0) }
 rw [sz]
 refine wpAny_bind (wpAny_holding (wpAny_call_entry slot_list_sort ⟨_, at0, rfl⟩ entry_list_sort (tree_ok strKind_oneLt at0 (kd_strs hS) (dist_strs hS nd) (keyKind_strs hS) short fun z a1 a2 => ⟨_, rfl, ?_⟩) (args_list_sort _)))
 obtain ⟨ss', h1, h2, h3⟩ := sorted_out_str hS a1 a2
 exact wpAny_pure ⟨_, rfl, h _ ss' h1 h2 h3⟩
end
end TS
namespace L2
open PySem PySem.Spec PyProof.Rows
section
variable {X : Cx}
theorem call_sortedL : CallR X (.builtin "sorted") (fun xs H Q => ∃ (p : Addr) (ls : List (List Nat)), xs = [.ref p] ∧ SqL X.K H p (ls.map sv) ∧ ls.Nodup ∧
  ∀ ls' : List (List Nat), ls'.Perm ls → (ls'.Pairwise fun a b => ¬ b < a) → ∀ q, H q = none → Q (.ref q) (upd H q (.lst (ls'.map sv)))) := by
 intro pins s σ H xs us Q I r h
 obtain ⟨p, ls, rfl, hp, nd, k⟩ := h
 by_cases h64 : ls.length < 64
 ·exact call_sortedS pins s σ H _ us Q I r ⟨p, ls, rfl, hp, h64, k⟩
 obtain ⟨u, rfl, ru⟩ := vals1 r
 cases ru
 obtain ⟨its, rv, pl, hz⟩ := I.list hp
 have hlen := rv.length
 rw [List.length_map] at hlen hz
 have hS := strsAre_of rv
 have ndS : (ls.map S).Nodup := by
  rw [List.nodup_iff_pairwise_ne, List.pairwise_map]
  exact (List.nodup_iff_pairwise_ne.mp nd).imp fun {x y} hxy e => hxy (S_inj e)
 match its, hS, pl, hlen with
 | [], _, _, hlen => simp only [List.length_nil] at hlen; omega
 | [_], _, _, hlen => simp only [List.length_cons, List.length_nil] at hlen; omega
 | v1 :: v2 :: vr, hS, pl, hlen =>
  refine TS.sorted_long pl.isList hS ndS (by omega) fun out ss' a1 a2 a3 => ?_
  obtain ⟨e, he⟩ := sortedAll_at s.heap (v1 :: v2 :: vr) out
  obtain ⟨ls', rfl⟩ : ∃ ls' : List (List Nat), ss' = ls'.map S := ⟨_, (map_S_of ss').symm⟩
  have e2 : ((fun z : Str => z.cps.toList) ∘ S) = id := funext S_cps
  have hperm : ls'.Perm ls := by
   have := perm_S a2
   rwa [List.map_map, e2, List.map_id] at this
  have hv : Vals (ls'.map sv) out.toList := by
   have := vals_strs a1
   rwa [List.map_map] at this
  refine ⟨.ref (s.heap.objs.size + 1), _, I.laid (t' := s.toks) (o := .lst (ls'.map sv)) (fun b o q => sortedAll_old q) (Nat.le_succ _) ⟨?_, out.toList, e, hv, by rw [he]⟩, rfl, k ls' hperm (sorted_pw ls' a3) _ (I.hok.fresh (Nat.le_succ _))⟩
  rw [List.length_map, hperm.length_eq]
  exact hz
end
end L2
set_option maxHeartbeats 4000000
namespace K07
open PySem L2 WH
def top (i : Nat) : Stmt := PySem.Challenge.pw_wordhedge_k07_whole_twigs.main.body.getD i (.Pass ⟨0, 0, 0, 0⟩)
abbrev sTwig : Stmt := top 1
abbrev sHedge : Stmt := top 5
abbrev sTInit : Stmt := inClass sTwig 0
abbrev sPutHere : Stmt := inClass sTwig 2
abbrev sTakeHere : Stmt := inClass sTwig 3
abbrev sFollow : Stmt := inClass sTwig 4
abbrev sGrow : Stmt := inClass sTwig 5
abbrev sSettle : Stmt := inClass sTwig 6
structure PTxt (K : PySem.W.Frag) (mg : Str → Option Value) (C CH : Addr) : Prop where
 cl_Twig : Cls K C
 cl_Hedge : Cls K CH
 nT : NoAttr K C "text"
 nH : NoAttr K C "here"
 nM : NoAttr K C "many"
 nL : NoAttr K C "longer"
 nR : NoAttr K CH "root"
 mg_Twig : mg "Twig" = some (.ref C)
 mg_Hedge : mg "Hedge" = some (.ref CH)
 reversed : mg "reversed" = none
theorem few {fs : List (Str × V)} {f : Str} {y : V} {n : Nat} (h : fs.length < n) : (putF f y fs).length < n + 1 := Nat.lt_of_le_of_lt (length_putF ..) (Nat.succ_lt_succ h)
theorem four (t : List Nat) (h : Bool) (m : Nat) (d : Addr) : (flds t h m d).length < 1000 := by show 4 < 1000; decide
def spTInit (C : Addr) : Sp := fun vs H Q _ => ∃ (p dx : Addr) (t : List Nat), vs = [.ref p, sv t] ∧ H p = some (.ins C dx []) ∧ ∀ (d : Addr) (H' : Hp), H d = none → H' p = some (.ins C dx (flds t false 0 d)) → H' d = some (.dK []) → (∀ b o, H b = some o → b ≠ p → H' b = some o) → Q .non H'
def spPutHere (C : Addr) : Sp := fun vs H Q _ => ∃ (p dx d : Addr) (t : List Nat) (h : Bool) (m : Nat), vs = [.ref p] ∧ H p = some (.ins C dx (flds t h m d)) ∧ (h = true → Q (.bl false) H) ∧ (h = false → Q (.bl true) (upd H p (.ins C dx (flds t true (m + 1) d))))
def spTakeHere (C : Addr) : Sp := fun vs H Q _ => ∃ (p dx d : Addr) (t : List Nat) (h : Bool) (m : Nat), vs = [.ref p] ∧ H p = some (.ins C dx (flds t h m d)) ∧ (h = false → Q (.bl false) H) ∧ (h = true → 0 < m ∧ Q (.bl true) (upd H p (.ins C dx (flds t false (m - 1) d))))
def spFollow (C : Addr) : Sp := fun vs H Q _ => ∃ (p dx d : Addr) (t : List Nat) (h : Bool) (m : Nat) (kvs : List (Key × V)) (x : Str), vs = [.ref p, .str x] ∧ H p = some (.ins C dx (flds t h m d)) ∧ H d = some (.dK kvs) ∧ Q ((valV kvs (Sum.inr x : Key)).getD .non) H
def spGrow (C CH : Addr) : Sp := fun vs H Q _ => ∃ (Z : Addr → Prop) (g : Addr) (N : NM) (hr : List Nat → Bool) (mn : List Nat → Nat) (t : List Nat) (y : Tw) (c : Nat), vs = [.ref y.p, sv [c]] ∧ HedAt C CH Z H g N hr mn ∧ N t = some y ∧ (97 ≤ c ∧ c ≤ 122) ∧ t.length < 110 ∧ (∀ b, H b = none → Z b) ∧
 (∀ z, N (t ++ [c]) = some z → Q (.ref z.p) H) ∧ (N (t ++ [c]) = none → ∀ z H', HedAt C CH Z H' g (setN N (t ++ [c]) (some z)) (setN hr (t ++ [c]) false) (setN mn (t ++ [c]) 0) → Kp Z H H' → Q (.ref z.p) H')
def spSettle (C : Addr) : Sp := fun vs H Q _ => ∃ (p dx d : Addr) (t : List Nat) (h : Bool) (m : Nat) (N : NM) (ks : List Nat) (mf : Nat → Nat), vs = [.ref p] ∧ H p = some (.ins C dx (flds t h m d)) ∧ H d = some (.dK (kv N t ks)) ∧ ks.Nodup ∧ ks.length ≤ 26 ∧
 (∀ c ∈ ks, ∃ z hz, N (t ++ [c]) = some z ∧ H z.p = some (.ins C z.x (flds (t ++ [c]) hz (mf c) z.d))) ∧
 ∀ (d' : Addr) (H' : Hp), H d' = none → H' p = some (.ins C dx (flds t h (ind h + ((ks.filter fun c => decide (0 < mf c)).map mf).sum) d')) → H' d' = some (.dK (kv N t (ks.filter fun c => decide (0 < mf c)))) → (∀ b o, H b = some o → b ≠ p → H' b = some o) → Q .non H'
section
variable {P : Program} {w : World} {K : PySem.W.Frag} {mg : Str → Option Value} {base : Heap} {C CH : Addr}
theorem scTI : FnScope ["self", "text"] ["self", "text"] (defScope sTInit) := ⟨rfl, rfl, rfl, by decide +kernel, rfl, by decide +kernel, by decide +kernel⟩
theorem ok_tinit {f : Addr} {fd : FuncData} (F : Fun K "__init__" "Twig.__init__" sTInit f fd) (T : PTxt K mg C CH) : FnOk P w K mg base CX0 1 f fd ["self", "text"] (spTInit C) := by
 refine F.ok scTI (fun vs H Q E h => ?_) (fun cdv AA outer s H vs Q E hr h => ?_)
 ·obtain ⟨p, dx, t, rfl, _⟩ := h
  rfl
 ·obtain ⟨p, dx, t, rfl, hp, k⟩ := h
  refine ⟨_, (pss_cons (ps_fld (pv 0) (pv 1) rfl)
   (pss_cons (ps_fld (pv 0) pe_bl rfl)
   (pss_cons (ps_fld (pv 0) pe_int rfl)
   (pss_one (ps_fld (pv 0) pe_dnewK rfl))))), ?_⟩
  refine ⟨_, rfl, _, rfl, p, C, dx, [], rfl, hp, T.cl_Twig, T.nT, (by show 0 < 1000; decide), ?_⟩
  refine ⟨_, rfl, p, C, dx, _, rfl, upd_same, T.cl_Twig, T.nH, Nat.lt_trans (few (n := 1) (by show 0 < 1; decide)) (by decide), ?_⟩
  refine ⟨_, rfl, p, C, dx, _, rfl, upd_same, T.cl_Twig, T.nM, Nat.lt_trans (few (few (n := 1) (by show 0 < 1; decide))) (by decide), ?_⟩
  intro d hd
  have npd : p ≠ d := ne_of_none upd_same hd
  refine ⟨_, rfl, p, C, dx, _, rfl, (by rw [upd_ne npd]; exact upd_same), T.cl_Twig, T.nL, Nat.lt_trans (few (few (few (n := 1) (by show 0 < 1; decide)))) (by decide), ?_⟩
  have hd0 : H d = none := by
   rw [upd_ne npd.symm, upd_ne npd.symm, upd_ne npd.symm] at hd
   exact hd
  refine k d _ hd0 (upd_same.trans (congrArg (fun l => some (HO.ins C dx l)) (f_made t d))) (by rw [upd_ne npd.symm]; exact upd_same) fun b o e hb => ?_
  rw [upd_ne hb, upd_ne (ne_of_none e hd0), upd_ne hb, upd_ne hb, upd_ne hb]
  exact e
theorem scPH : FnScope ["self"] ["self"] (defScope sPutHere) := ⟨rfl, rfl, rfl, by decide +kernel, rfl, by decide +kernel, by decide +kernel⟩
theorem ok_puthere {f : Addr} {fd : FuncData} (F : Fun K "put_here" "Twig.put_here" sPutHere f fd) (T : PTxt K mg C CH) : FnOk P w K mg base CX0 1 f fd ["self"] (spPutHere C) := by
 refine F.ok scPH (fun vs H Q E h => ?_) (fun cdv AA outer s H vs Q E hr h => ?_)
 ·obtain ⟨p, dx, d, t, h, m, rfl, _⟩ := h
  rfl
 ·obtain ⟨p, dx, d, t, h, m, rfl, hp, k1, k2⟩ := h
  refine ⟨_, (pss_cons (ps_if (pt_val (pe_fld (pv 0) rfl)) (pss_one (ps_ret pe_bl)) pss_nil)
   (pss_cons (ps_fld (pv 0) pe_bl rfl)
   (pss_cons (ps_fld (pv 0) (pe_op op_add (pe_fld (pv 0) rfl) pe_int) rfl)
   (pss_one (ps_ret pe_bl))))), ?_⟩
  refine ⟨_, rfl, p, C, dx, _, _, rfl, hp, T.cl_Twig, T.nH, f_here .., h, rfl, ?_⟩
  cases h with
  | true => exact iteT (k1 rfl)
  | false =>
   refine iteF ?_
   refine ⟨_, rfl, p, C, dx, _, rfl, hp, T.cl_Twig, T.nH, four .., ?_⟩
   rw [p_here]
   refine ⟨_, rfl, p, C, dx, _, _, rfl, upd_same, T.cl_Twig, T.nM, f_many .., _, _, rfl, rfl, _, rfl, p, C, dx, _, rfl, upd_same, T.cl_Twig, T.nM, four .., ?_⟩
   have e : ((m : Int) + 1) = ((m + 1 : Nat) : Int) := by omega
   show Q (.bl true) (upd (upd H p (.ins C dx (flds t true m d))) p (.ins C dx (putF "many" (.int ((m : Int) + 1)) (flds t true m d))))
   rw [e, p_many, upd_upd]
   exact k2 rfl
theorem scTH : FnScope ["self"] ["self"] (defScope sTakeHere) := ⟨rfl, rfl, rfl, by decide +kernel, rfl, by decide +kernel, by decide +kernel⟩
theorem ok_takehere {f : Addr} {fd : FuncData} (F : Fun K "take_here" "Twig.take_here" sTakeHere f fd) (T : PTxt K mg C CH) : FnOk P w K mg base CX0 1 f fd ["self"] (spTakeHere C) := by
 refine F.ok scTH (fun vs H Q E h => ?_) (fun cdv AA outer s H vs Q E hr h => ?_)
 ·obtain ⟨p, dx, d, t, h, m, rfl, _⟩ := h
  rfl
 ·obtain ⟨p, dx, d, t, h, m, rfl, hp, k1, k2⟩ := h
  refine ⟨_, (pss_cons (ps_if (pt_not (pt_val (pe_fld (pv 0) rfl))) (pss_one (ps_ret pe_bl)) pss_nil)
   (pss_cons (ps_fld (pv 0) pe_bl rfl)
   (pss_cons (ps_fld (pv 0) (pe_op op_sub (pe_fld (pv 0) rfl) pe_int) rfl)
   (pss_one (ps_ret pe_bl))))), ?_⟩
  refine ⟨_, rfl, p, C, dx, _, _, rfl, hp, T.cl_Twig, T.nH, f_here .., h, rfl, ?_⟩
  cases h with
  | false => exact iteT (k1 rfl)
  | true =>
   refine iteF ?_
   obtain ⟨hm, k2⟩ := k2 rfl
   refine ⟨_, rfl, p, C, dx, _, rfl, hp, T.cl_Twig, T.nH, four .., ?_⟩
   rw [p_here]
   refine ⟨_, rfl, p, C, dx, _, _, rfl, upd_same, T.cl_Twig, T.nM, f_many .., _, _, rfl, rfl, _, rfl, p, C, dx, _, rfl, upd_same, T.cl_Twig, T.nM, four .., ?_⟩
   have e : ((m : Int) - 1) = ((m - 1 : Nat) : Int) := by omega
   show Q (.bl true) (upd (upd H p (.ins C dx (flds t false m d))) p (.ins C dx (putF "many" (.int ((m : Int) - 1)) (flds t false m d))))
   rw [e, p_many, upd_upd]
   exact k2
theorem scFo : FnScope ["self", "letter"] ["self", "letter"] (defScope sFollow) := ⟨rfl, rfl, rfl, by decide +kernel, rfl, by decide +kernel, by decide +kernel⟩
theorem ok_follow {f : Addr} {fd : FuncData} (F : Fun K "follow" "Twig.follow" sFollow f fd) (T : PTxt K mg C CH) : FnOk P w K mg base CX0 1 f fd ["self", "letter"] (spFollow C) := by
 refine F.ok scFo (fun vs H Q E h => ?_) (fun cdv AA outer s H vs Q E hr h => ?_)
 ·obtain ⟨p, dx, d, t, h, m, kvs, x, rfl, _⟩ := h
  rfl
 ·obtain ⟨p, dx, d, t, h, m, kvs, x, rfl, hp, hd, k⟩ := h
  have hu := hu_of hr
  refine ⟨_, (pss_one (ps_ret (pe_dget1 hu (pe_fld (pv 0) rfl) (pv 1) ⟨rfl, rfl, rfl, rfl⟩))), ?_⟩
  exact ⟨_, rfl, p, C, dx, _, _, rfl, hp, T.cl_Twig, T.nL, f_longer .., d, rfl, .inl ⟨kvs, .inl hd⟩, _, rfl, _, DGet.k (k := Sum.inr x) hd, k⟩
theorem scGr : FnScope ["self", "letter"] ["self", "letter"] (defScope sGrow) := ⟨rfl, rfl, rfl, by decide +kernel, rfl, by decide +kernel, by decide +kernel⟩
theorem ok_grow {f fI : Addr} {fd fdI : FuncData} (F : Fun K "grow" "Twig.grow" sGrow f fd) (T : PTxt K mg C CH) (M_Twig : Mk K C fI) (FI : Fun K "__init__" "Twig.__init__" sTInit fI fdI) (b_Twig : Binds K fdI ["self", "text"] []) : FnOk P w K mg base CX0 3 f fd ["self", "letter"] (spGrow C CH) := by
 have G_Twig : FnOk P w K mg base CX0 1 fI fdI ["self", "text"] (spTInit C) := ok_tinit FI T
 refine F.ok scGr (fun vs H Q E h => ?_) (fun cdv AA outer s H vs Q E hr h => ?_)
 ·obtain ⟨Z, g, N, hr', mn, t, y, c, rfl, _⟩ := h
  rfl
 ·obtain ⟨Z, g, N, hr', mn, t, y, c, rfl, hA, ht, hc, hl, hZ, k1, k2⟩ := h
  have hu := hu_of hr
  have hr_Twig : Room 2 _ := hr
  have hsz := sizeLine_eq
  obtain ⟨hp, zp, zd, ks, hd, nd, hm⟩ := hA.tw t y ht
  refine ⟨_, (pss_consM (ps_if (pt_cmp (pc_dnotin hu (pv 1) (pe_fld (pv 0) rfl))) (pss_one (ps_dput hu (pe_fld (pv 0) rfl) (pv 1) (pe_make M_Twig G_Twig hr_Twig rfl T.mg_Twig b_Twig .nil pass0 (pa_cons (pe_op op_addN (pe_fld (pv 0) rfl) (pv 1)) pa_nil)) rfl)) pss_nil)
   (pss_one (ps_ret (pe_dget hu (pe_fld (pv 0) rfl) (pv 1) (fun _ _ => rfl))))), ?_⟩
  refine ⟨fun σ' H' => σ' = [some (.ref y.p), some (sv [c])] ∧ ∃ z kvs, H' y.p = some (.ins C y.x (flds t (hr' t) (mn t) y.d)) ∧ H' y.d = some (.dK kvs) ∧ valV kvs (key c) = some (.ref z) ∧ Q (.ref z) H', ?_, ?_⟩
  ·rintro σ' H' ⟨rfl, z, kvs, e1, e2, e3, q⟩
   refine ⟨_, rfl, y.p, C, y.x, _, _, rfl, e1, T.cl_Twig, T.nL, f_longer .., _, rfl, y.d, _, rfl, (by rw [← e3]; exact DGet.k (k := key c) e2), q⟩
  ·refine ⟨_, rfl, _, rfl, y.p, C, y.x, _, _, rfl, hp, T.cl_Twig, T.nL, f_longer .., y.d, _, rfl, DGet.k (k := key c) hd, _, rfl, ?_⟩
   rw [valV_kv]
   by_cases hcm : c ∈ ks
   ·rw [if_pos hcm]
    refine iteF ?_
    obtain ⟨z, hz⟩ := Option.isSome_iff_exists.mp ((hm c).mp hcm)
    exact ⟨rfl, z.p, _, hp, hd, by rw [valV_kv, if_pos hcm, A_some hz], k1 z hz⟩
   ·rw [if_neg hcm]
    refine iteT ?_
    have hn : N (t ++ [c]) = none := by
     cases q : N (t ++ [c]) with
     | none => rfl
     | some _ => exact absurd ((hm c).mpr (by rw [q]; rfl)) hcm
    refine ⟨_, rfl, y.p, C, y.x, _, _, rfl, hp, T.cl_Twig, T.nT, f_text .., _, rfl, t, [c], rfl, rfl, (by show t.length + 1 ≤ _; omega), ?_⟩
    intro x xd nx nxd nex
    refine ⟨x, xd, t ++ [c], rfl, upd_same, fun d' H1 hd' h1 h2 kp => ⟨rfl, ?_⟩⟩
    have s0 : Same H H1 := fun b o e => kp b o (by rw [upd_ne (ne_of_none e nx), upd_ne (ne_of_none e nxd)]; exact e) (ne_of_none e nx)
    have dx' : d' ≠ x := fun q => by
     rw [q, upd_same] at hd'
     cases hd'
    have dxd : d' ≠ xd := fun q => by
     rw [q, upd_ne nex, upd_same] at hd'
     cases hd'
    have dn : H d' = none := by
     rw [upd_ne dx', upd_ne dxd] at hd'
     exact hd'
    have nyx : x ≠ y.d := fun q => by
     rw [← q, nx] at hd
     cases hd
    have nyd : d' ≠ y.d := fun q => by
     rw [← q, dn] at hd
     cases hd
    refine ⟨_, rfl, y.p, C, y.x, _, _, rfl, s0 _ _ hp, T.cl_Twig, T.nL, f_longer .., _, rfl, y.d, _, rfl, DPut.k (k := key c) (s0 _ _ hd) (small1000 (by have := hA.few nd hm; rw [kv_len]; omega)), ?_⟩
    have hpd : y.p ≠ y.d := ne_of hp hd (by intro z; cases z)
    have HG := hA.grow (H' := upd H1 y.d (.dK (putK (kv N t ks) (key c) (.ref x)))) (z := ⟨x, d', xd⟩) ht hc hl hn hd nd hm (by show upd H1 y.d _ x = _; rw [upd_ne nyx]; exact h1) (by show upd H1 y.d _ d' = _; rw [upd_ne nyd]; exact h2) upd_same
     (fun b o e hb => by rw [upd_ne hb]; exact s0 _ _ e) (hZ x nx) (hZ d' dn) dn
    refine ⟨rfl, x, _, by rw [upd_ne hpd]; exact s0 _ _ hp, upd_same, by rw [valV_put, if_pos rfl], k2 hn ⟨x, d', xd⟩ _ HG ?_⟩
    exact Kp.but hd zd (by intro _ z; cases z) (by intro _ z; cases z) fun b o e hb => by rw [upd_ne hb]; exact s0 _ _ e
theorem scSe : FnScope ["self", "kept", "many", "letter", "twig"] ["self"] (defScope sSettle) := ⟨rfl, rfl, rfl, by decide +kernel, rfl, by decide +kernel, by decide +kernel⟩
theorem ok_settle {f : Addr} {fd : FuncData} (F : Fun K "settle" "Twig.settle" sSettle f fd) (T : PTxt K mg C CH) : FnOk P w K mg base CX0 1 f fd ["self"] (spSettle C) := by
 refine F.ok scSe (fun vs H Q E h => ?_) (fun cdv AA outer s H vs Q E hr h => ?_)
 ·obtain ⟨p, dx, d, t, h, m, N, ks, mf, rfl, _⟩ := h
  rfl
 ·obtain ⟨p, dx, d, t, h, m, N, ks, mf, rfl, hp, hd, ndk, hl, hz, k⟩ := h
  have hu := hu_of hr
  have nd := scSe.nd
  have hsz := sizeLine_eq
  have npd : p ≠ d := ne_of hp hd (by intro z; cases z)
  refine ⟨_, (pss_cons (ps_set (i := 1) nd rfl (Or.inl rfl) pe_dnewK)
   (pss_consM (ps_set (i := 2) nd rfl (Or.inl rfl) (pe_ifExp (pt_val (pe_fld (pv 0) rfl)) pe_int pe_int))
   (pss_consT (ps_for PassesOwn.never rfl (pi_items (pe_fld (pv 0) rfl)) (pg_tup rfl (pgs_cons (pg_name (i := 3) nd rfl (Or.inl rfl)) (pgs_cons (pg_name (i := 4) nd rfl (Or.inl rfl)) pgs_nil))) (pss_one (ps_if (pt_cmpR op_gt (pe_fld (pv 4) rfl) pe_int (nomark _)) (pss_cons (ps_dput hu (pv 1) (pv 3) (pv 4) rfl)
   (pss_one (ps_set (i := 2) nd rfl (Or.inl rfl) (pe_op op_add (pv 2) (pe_fld (pv 4) rfl))))) pss_nil)))
   (pss_cons (ps_fld (pv 0) (pv 1) rfl)
   (pss_one (ps_fld (pv 0) (pv 2) rfl)))))), ?_⟩
  intro q hq
  have nqd : q ≠ d := fun z => by rw [z, hd] at hq; cases hq
  have nqp : p ≠ q := ne_of_none hp hq
  have hp1 : (upd H q (.dK [])) p = some (.ins C dx (flds t h m d)) := by rw [upd_ne nqp]; exact hp
  have hd1 : (upd H q (.dK [])) d = some (.dK (kv N t ks)) := by rw [upd_ne nqd.symm]; exact hd
  refine ⟨fun σ' H' => σ' = [some (.ref p), some (.ref q), some (.int (ind h : Nat)), none, none] ∧ H' = upd H q (.dK []), ?_, ?_⟩
  ·rintro σ' H' ⟨rfl, rfl⟩
   refine ⟨_, rfl, p, C, dx, _, _, rfl, hp1, T.cl_Twig, T.nL, f_longer .., d, _, rfl, .inl ⟨hd1, fun o => for_items (fun i σ' H' => ∃ l u : Option V, σ' = [some (.ref p), some (.ref q), some (.int ((ind h + (((ks.take i).filter fun c => decide (0 < mf c)).map mf).sum : Nat) : Int)), l, u] ∧
    H' d = some (.frz o (.dK (kv N t ks))) ∧ H' q = some (.dK (kv N t ((ks.take i).filter fun c => decide (0 < mf c)))) ∧ ∀ b o', H b = some o' → b ≠ d → H' b = some o') ?_ ?_ ?_ ?_⟩⟩
   ·refine ⟨none, none, rfl, upd_same, by rw [upd_ne nqd]; exact upd_same, fun b o' e hb => ?_⟩
    rw [upd_ne hb, upd_ne (ne_of_none e hq)]
    exact e
   ·rintro i σ' H' _ ⟨l, u, rfl, e1, _⟩
    exact e1
   ·rintro i kv' b σ' H' hi hb ⟨l, u, rfl, e1, e2, e3⟩
    obtain ⟨c, hc, rfl⟩ := kv_get hi
    have hcm : c ∈ ks := List.mem_of_getElem? hc
    obtain ⟨z, hz1, hN, hz2⟩ := hz c hcm
    have nzd : z.p ≠ d := ne_of hz2 hd (by intro z; cases z)
    have nzb : z.p ≠ b := ne_of_none (e3 _ _ hz2 nzd) hb
    have hzb : (upd H' b (.tup [kV (key c), A N (t ++ [c])])) z.p = some (.ins C z.x (flds (t ++ [c]) hz1 (mf c) z.d)) := by rw [upd_ne nzb]; exact e3 _ _ hz2 nzd
    have tk : ks.take (i + 1) = ks.take i ++ [c] := by rw [List.take_succ, hc]; rfl
    have nqb : q ≠ b := ne_of_none e2 hb
    have ndb : d ≠ b := ne_of_none e1 hb
    refine ⟨b, _, rfl, SqT.of upd_same, rfl, _, _, rfl, _, _, rfl, rfl, ?_⟩
    refine ⟨_, rfl, z.p, C, z.x, _, _, A_some hN, hzb, T.cl_Twig, T.nM, f_many .., _, _, rfl, rfl, _, rfl, ?_⟩
    refine ite2 (fun hgt => ?_) (fun hle => ?_)
    ·have hpos : 0 < mf c := by
      have := of_decide_eq_true hgt
      omega
     have ef : (ks.take (i + 1)).filter (fun c => decide (0 < mf c)) = (ks.take i).filter (fun c => decide (0 < mf c)) ++ [c] := by
      rw [tk, List.filter_append, List.filter_cons, if_pos (decide_eq_true hpos), List.filter_nil]
     have hcn : c ∉ (ks.take i).filter fun c => decide (0 < mf c) := fun y => by
      have y' := (List.mem_filter.mp y).1
      have hn := ndk
      have hsub : (ks.take (i + 1)).Nodup := hn.sublist (List.take_sublist ..)
      rw [tk, List.nodup_append] at hsub
      exact hsub.2.2 c y' c (by simp) rfl
     have nzq : z.p ≠ q := ne_of_none hz2 hq
     have hfl : ((ks.take i).filter fun c => decide (0 < mf c)).length ≤ 26 := Nat.le_trans (List.length_filter_le _ _) (Nat.le_trans (List.length_take_le' ..) hl)
     refine ⟨_, rfl, _, rfl, _, rfl, q, _, rfl, DPut.k (k := key c) (by rw [upd_ne nqb]; exact e2) (small1000 (by rw [kv_len]; omega)), ?_⟩
     refine ⟨_, rfl, _, rfl, z.p, C, z.x, _, _, A_some hN, (by rw [upd_ne nzq]; exact hzb), T.cl_Twig, T.nM, f_many .., _, _, rfl, rfl, ?_⟩
     refine ⟨some (kV (key c)), some (A N (t ++ [c])), ?_, by rw [upd_ne nqd.symm, upd_ne ndb]; exact e1, ?_, fun b' o' e hb' => ?_⟩
     ·have es : ((ind h + (((ks.take (i + 1)).filter fun c => decide (0 < mf c)).map mf).sum : Nat) : Int) = ((ind h + (((ks.take i).filter fun c => decide (0 < mf c)).map mf).sum : Nat) : Int) + (mf c : Int) := by
       rw [ef, List.map_append, List.sum_append]
       simp
       omega
      rw [es]
      rfl
     ·rw [upd_same, kv_put hcn, ef]
      show _ = some (HO.dK ((((ks.take i).filter fun c => decide (0 < mf c)) ++ [c]).map _))
      rw [List.map_append]
      rfl
     ·rw [upd_ne (ne_of_none e hq), upd_ne (ne_of_none (e3 _ _ e hb') hb)]
      exact e3 _ _ e hb'
    ·have hpos : ¬ 0 < mf c := by
      intro z
      exact hle (decide_eq_true (by omega))
     have ef : (ks.take (i + 1)).filter (fun c => decide (0 < mf c)) = (ks.take i).filter (fun c => decide (0 < mf c)) := by
      rw [tk, List.filter_append, List.filter_cons, if_neg (by rw [decide_eq_false hpos]; decide), List.filter_nil, List.append_nil]
     refine ⟨some (kV (key c)), some (A N (t ++ [c])), by rw [ef]; rfl, by rw [upd_ne ndb]; exact e1, by rw [upd_ne nqb, ef]; exact e2, fun b' o' e hb' => ?_⟩
     rw [upd_ne (ne_of_none (e3 _ _ e hb') hb)]
     exact e3 _ _ e hb'
   ·rintro σ' H' ⟨l, u, rfl, e1, e2, e3⟩
    rw [kv_len, List.take_length] at e2
    refine ⟨upd H' d (.dK (kv N t ks)), .inr ⟨d, o, _, e1, fun o' u' z => ?_, rfl⟩, ?_⟩
    ·have z' : H d = some (.frz o' u') := z
     rw [hd] at z'
     cases z'
    ·refine ⟨_, rfl, _, rfl, p, C, dx, _, rfl, (by rw [upd_ne npd]; exact e3 _ _ hp npd), T.cl_Twig, T.nL, four .., ?_⟩
     rw [p_longer]
     refine ⟨_, rfl, _, rfl, p, C, dx, _, rfl, upd_same, T.cl_Twig, T.nM, four .., ?_⟩
     rw [kv_len, List.take_length, p_many, upd_upd]
     refine k q _ hq upd_same (by rw [upd_ne nqp.symm, upd_ne nqd]; exact e2) fun b o' e hb => ?_
     rw [upd_ne hb]
     by_cases hbd : b = d
     ·rw [hbd, upd_same, ← hd, ← hbd, e]
     ·rw [upd_ne hbd]
      exact e3 _ _ e hbd
  ·refine ⟨_, rfl, p, C, dx, _, _, rfl, hp1, T.cl_Twig, T.nH, f_here .., h, rfl, ?_⟩
   cases h with
   | true => exact iteT ⟨rfl, rfl⟩
   | false => exact iteF ⟨rfl, rfl⟩
end
abbrev sHInit : Stmt := inClass sHedge 0
abbrev sPut : Stmt := inClass sHedge 1
abbrev sTake : Stmt := inClass sHedge 2
abbrev sHas : Stmt := inClass sHedge 3
abbrev sPath : Stmt := inClass sHedge 9
abbrev sBack : Stmt := top 4
structure HTxt (mg : Str → Option Value) (fSB : Addr) : Prop where
 settle_back : mg "settle_back" = some (.ref fSB)
def spHInit (C CH : Addr) : Sp := fun vs H Q _ => ∃ (g dx : Addr) (Z : Addr → Prop), vs = [.ref g] ∧ H g = some (.ins CH dx []) ∧ (∀ b, H b = none → Z b) ∧ ∀ H', DayAt C CH Z H' g [] → (∀ b o, H b = some o → b ≠ g → H' b = some o) → Q .non H'
def pathV (N : NM) (w : List Nat) (k : Nat) : List V := (List.range (k + 1)).map fun j => A N (w.take j)
theorem pathV_succ (N : NM) (w : List Nat) (k : Nat) : pathV N w (k + 1) = pathV N w k ++ [A N (w.take (k + 1))] := by
 unfold pathV
 rw [List.range_succ, List.map_append]
 rfl
theorem pathV_last (N : NM) (w : List Nat) (k : Nat) : atI (pathV N w k) (-1) = some (A N (w.take k)) := by
 unfold pathV
 rw [List.range_succ, List.map_append]
 exact atI_last _ _
theorem pathV_len (N : NM) (w : List Nat) (k : Nat) : (pathV N w k).length = k + 1 := by simp [pathV]
theorem pathV_get {N : NM} {w : List Nat} {k j : Nat} (h : j ≤ k) : (pathV N w k)[j]? = some (A N (w.take j)) := by
 unfold pathV
 rw [List.getElem?_map, List.getElem?_range (by omega)]
 rfl
theorem pathV_congr {N N' : NM} {w : List Nat} {k : Nat} (h : ∀ j, j ≤ k → A N (w.take j) = A N' (w.take j)) : pathV N w k = pathV N' w k := List.map_congr_left fun j hj => h j (by have := List.mem_range.mp hj; omega)
def spBack (C CH : Addr) : Sp := fun vs H Q _ => ∃ (Z : Addr → Prop) (g : Addr) (N : NM) (W1 Wn : List (List Nat)) (w : List Nat) (st : List Nat → Nat) (l : Addr), vs = [.ref l] ∧ Sett W1 Wn w ∧ HedAt C CH Z H g N (fun t => decide (t ∈ Wn)) (mnK Wn w st (w.length + 1)) ∧
 (∀ t, (N t).isSome = true ↔ DomK W1 Wn w (w.length + 1) t) ∧ (∀ b, H b = none → Z b) ∧ H l = some (.lst (pathV N w w.length)) ∧ w.length ≤ 110 ∧
 ∀ H', (∃ N' : NM, HedAt C CH Z H' g N' (fun t => decide (t ∈ Wn)) (cnt Wn) ∧ ∀ t, (N' t).isSome = true ↔ t = [] ∨ 0 < cnt Wn t) → Kp Z H H' → Q .non H'
def spPath (C CH : Addr) : Sp := fun vs H Q _ => ∃ (Z : Addr → Prop) (g : Addr) (N : NM) (hr : List Nat → Bool) (mn : List Nat → Nat) (w : List Nat), vs = [.ref g, sv w] ∧ HedAt C CH Z H g N hr mn ∧ Letters w ∧ w.length ≤ 1000 ∧
 ∀ (k : Nat) (l : Addr) (H' : Hp), k ≤ w.length → (∀ j, j ≤ k → (N (w.take j)).isSome = true) → (k = w.length ∨ N (w.take (k + 1)) = none) → H l = none → H' l = some (.lst (pathV N w k)) → Same H H' → Q (.ref l) H'
def spPut (C CH : Addr) : Sp := fun vs H Q _ => ∃ (Z : Addr → Prop) (g : Addr) (W : List (List Nat)) (w : List Nat), vs = [.ref g, sv w] ∧ DayAt C CH Z H g W ∧ (∀ b, H b = none → Z b) ∧ Letters w ∧ w.length ≤ 110 ∧
 ∀ H', DayAt C CH Z H' g (stepW W (.put w)) → Kp Z H H' → Q (.bl (!decide (w ∈ W))) H'
def spTake (C CH : Addr) : Sp := fun vs H Q _ => ∃ (Z : Addr → Prop) (g : Addr) (W : List (List Nat)) (w : List Nat), vs = [.ref g, sv w] ∧ DayAt C CH Z H g W ∧ (∀ b, H b = none → Z b) ∧ Letters w ∧ w.length ≤ 110 ∧
 ∀ H', DayAt C CH Z H' g (stepW W (.take w)) → Kp Z H H' → Q (.bl (decide (w ∈ W))) H'
def spHas (C CH : Addr) : Sp := fun vs H Q _ => ∃ (Z : Addr → Prop) (g : Addr) (W : List (List Nat)) (w : List Nat), vs = [.ref g, sv w] ∧ DayAt C CH Z H g W ∧ Letters w ∧ w.length ≤ 110 ∧ ∀ H', Same H H' → Q (.bl (decide (w ∈ W))) H'
section
variable {P : Program} {w : World} {K : PySem.W.Frag} {mg : Str → Option Value} {base : Heap} {C CH : Addr}
theorem scHI : FnScope ["self"] ["self"] (defScope sHInit) := ⟨rfl, rfl, rfl, by decide +kernel, rfl, by decide +kernel, by decide +kernel⟩
theorem ok_hinit {f fI : Addr} {fd fdI : FuncData} (F : Fun K "__init__" "Hedge.__init__" sHInit f fd) (T : PTxt K mg C CH) (M_Twig : Mk K C fI) (FI : Fun K "__init__" "Twig.__init__" sTInit fI fdI) (b_Twig : Binds K fdI ["self", "text"] []) : FnOk P w K mg base CX0 3 f fd ["self"] (spHInit C CH) := by
 have G_Twig : FnOk P w K mg base CX0 1 fI fdI ["self", "text"] (spTInit C) := ok_tinit FI T
 refine F.ok scHI (fun vs H Q E h => ?_) (fun cdv AA outer s H vs Q E hr h => ?_)
 ·obtain ⟨g, dx, Z, rfl, _⟩ := h
  rfl
 ·obtain ⟨g, dx, Z, rfl, hg, hZ, k⟩ := h
  have hr_Twig : Room 2 _ := hr
  refine ⟨_, (pss_one (ps_fld (pv 0) (pe_make M_Twig G_Twig hr_Twig rfl T.mg_Twig b_Twig .nil pass0 (pa_cons pe_str pa_nil)) rfl)), ?_⟩
  intro x xd nx nxd nex
  refine ⟨x, xd, [], congrArg (fun z => [V.ref x, V.str z]) nil_eq, upd_same, fun d' H1 hd' h1 h2 kp => ⟨rfl, ?_⟩⟩
  have s0 : Same H H1 := fun b o e => kp b o (by rw [upd_ne (ne_of_none e nx), upd_ne (ne_of_none e nxd)]; exact e) (ne_of_none e nx)
  have dx' : d' ≠ x := fun q => by
   rw [q, upd_same] at hd'
   cases hd'
  have dxd : d' ≠ xd := fun q => by
   rw [q, upd_ne nex, upd_same] at hd'
   cases hd'
  have dn : H d' = none := by
   rw [upd_ne dx', upd_ne dxd] at hd'
   exact hd'
  have ngx : x ≠ g := fun q => by
   rw [q, hg] at nx
   cases nx
  have ngd : d' ≠ g := fun q => by
   rw [q, hg] at dn
   cases dn
  refine ⟨_, rfl, g, CH, dx, [], rfl, s0 _ _ hg, T.cl_Hedge, T.nR, (by show 0 < 1000; decide), ?_⟩
  refine k _ ⟨⟨fun t => if t = [] then some ⟨x, d', xd⟩ else none, ⟨⟨dx, ⟨x, d', xd⟩, upd_same, if_pos rfl⟩, fun t y e => ?_, fun t t' y y' e e' _ => ?_, ⟨fun u c e => ?_, fun u c e => ?_, fun u e => ?_⟩⟩, fun t => ?_⟩, List.nodup_nil, fun _ z => nomatch z⟩ fun b o e hb => ?_
  ·by_cases et : t = []
   ·subst et
    rw [if_pos rfl] at e
    cases e
    refine ⟨?_, hZ x nx, hZ d' dn, [], ?_, List.nodup_nil, fun c => ?_⟩
    ·show upd H1 g _ x = _
     rw [upd_ne ngx]
     exact h1
    ·show upd H1 g _ d' = _
     rw [upd_ne ngd]
     exact h2
    ·simp
   ·rw [if_neg et] at e
    cases e
  ·by_cases et : t = []
   ·by_cases et' : t' = []
    ·rw [et, et']
    ·rw [if_neg et'] at e'
     cases e'
   ·rw [if_neg et] at e
    cases e
  ·simp at e
  ·simp at e
  ·by_cases et : u = []
   ·rw [et]
    exact Nat.zero_le _
   ·simp [et] at e
  ·show (if t = [] then some _ else none : Option Tw).isSome = true ↔ t = [] ∨ 0 < cnt [] t
   by_cases et : t = []
   ·rw [if_pos et]
    exact ⟨fun _ => .inl et, fun _ => rfl⟩
   ·rw [if_neg et]
    exact ⟨(fun z => nomatch z), fun z => z.elim (fun z => absurd z et) fun z => absurd z (Nat.lt_irrefl 0)⟩
  ·rw [upd_ne hb]
   exact s0 _ _ e
theorem scSB : FnScope ["path", "twig"] ["path"] (defScope sBack) := ⟨rfl, rfl, rfl, by decide +kernel, rfl, by decide +kernel, by decide +kernel⟩
theorem ok_back {f fS : Addr} {fd fdS : FuncData} (F : Fun K "settle_back" "settle_back" sBack f fd) (T : PTxt K mg C CH) (m_settle : Meth K C "settle" fS) (FS : Fun K "settle" "Twig.settle" sSettle fS fdS) (b_settle : Binds K fdS ["self"] []) : FnOk P w K mg base CX0 2 f fd ["path"] (spBack C CH) := by
 have G_settle : FnOk P w K mg base CX0 1 fS fdS ["self"] (spSettle C) := ok_settle FS T
 refine F.ok scSB (fun vs H Q E h => ?_) (fun cdv AA outer s H vs Q E hr h => ?_)
 ·obtain ⟨Z, g, N, W1, Wn, w, st, l, rfl, _⟩ := h
  rfl
 ·obtain ⟨Z, g, N, W1, Wn, w, st, l, rfl, S, hA, hD, hZ, hl, hw, k⟩ := h
  have nd := scSB.nd
  have hr_settle : Room 1 _ := hr
  refine ⟨_, (pss_one (ps_for PassesOwn.never rfl (pi_rev rfl T.reversed (pa_cons (pv 0) pa_nil)) (pg_name (i := 1) nd rfl (Or.inl rfl)) (pss_one (ps_expr (pe_meth0 (pv 1) T.cl_Twig m_settle G_settle hr_settle b_settle .nil pass0))))), ?_⟩
  refine ⟨_, rfl, l, _, rfl, SqL.of hl, for_rev (K := K) (fun i σ' H' => ∃ v : Option V, σ' = [some (.ref l), v] ∧ H' l = some (.lst (pathV N w w.length)) ∧ Kp Z H H' ∧ ∃ N' : NM, HedAt C CH Z H' g N' (fun t => decide (t ∈ Wn)) (mnK Wn w st (w.length + 1 - i)) ∧
   (∀ t, (N' t).isSome = true ↔ DomK W1 Wn w (w.length + 1 - i) t) ∧ ∀ j, j < w.length + 1 - i → N' (w.take j) = N (w.take j)) ⟨none, rfl, hl, Kp.refl _ _, N, hA, hD, fun _ _ => rfl⟩ ?_ ?_ ?_⟩
  ·rintro i σ' H' _ ⟨v, rfl, e, _⟩
   exact SqL.of e
  ·rintro i x σ' H' hi hx ⟨v, rfl, e, kp, N', hA', hD', hN'⟩
   rw [pathV_len] at hi hx
   obtain ⟨k', hk'⟩ : ∃ k', w.length - i = k' := ⟨_, rfl⟩
   have ek : w.length + 1 - i = k' + 1 := by omega
   have ek2 : w.length + 1 - 1 - i = k' := by omega
   have ek3 : w.length + 1 - (i + 1) = k' := by omega
   rw [ek] at hA' hD' hN'
   rw [ek2, pathV_get (by omega)] at hx
   have hlen : (w.take k').length = k' := by rw [List.length_take]; omega
   have hin : (N' (w.take k')).isSome = true := (hD' _).mpr (.inr ⟨S.mem _ (take_pre w k'), fun q => by rw [hlen] at q; omega⟩)
   obtain ⟨y, hy⟩ := Option.isSome_iff_exists.mp hin
   have hy0 : N (w.take k') = some y := by rw [← hN' k' (by omega)]; exact hy
   have ex : x = V.ref y.p := by
    rw [A_some hy0] at hx
    exact (Option.some.inj hx).symm
   subst ex
   obtain ⟨hp, zp, zd, ks, hd, ndk, hm⟩ := hA'.tw _ y hy
   refine ⟨_, rfl, y.p, y.x, _, rfl, hp, f_no _ _ _ _ (by decide +kernel) (by decide +kernel) (by decide +kernel) (by decide +kernel), ?_⟩
   refine ⟨y.p, y.x, y.d, _, _, _, N', ks, fun c => mnK Wn w st (k' + 1) (w.take k' ++ [c]), rfl, hp, hd, ndk, hA'.few ndk hm, fun c hc => ?_, fun d' H2 hd' h1 h2 kp2 => ?_⟩
   ·obtain ⟨z, hz⟩ := Option.isSome_iff_exists.mp ((hm c).mp hc)
    exact ⟨z, _, hz, (hA'.tw _ z hz).1⟩
   ·obtain ⟨N2, hA2, hD2, hN2⟩ := settle_step S hA' hD' (by omega) hy hd ndk hm h1 h2 kp2 (kp.zone hZ d' hd') hd'
    refine ⟨_, rfl, kp2 _ _ e (ne_of e hp (by intro z; cases z)), kp.trans (Kp.but hp zp (by intro _ z; cases z) (by intro _ z; cases z) kp2), N2, ?_⟩
    rw [ek3]
    exact ⟨hA2, hD2, fun j hj => (hN2 j hj).trans (hN' j (by omega))⟩
  ·rintro σ' H' ⟨v, rfl, e, kp, N', hA', hD', hN'⟩
   rw [pathV_len, Nat.sub_self] at hA' hD'
   obtain ⟨r1, r2⟩ := settle_end S hA' hD'
   exact k H' ⟨N', r1, r2⟩ kp
theorem scPA : FnScope ["self", "text", "path", "letter", "twig"] ["self", "text"] (defScope sPath) := ⟨rfl, rfl, rfl, by decide +kernel, rfl, by decide +kernel, by decide +kernel⟩
theorem ok_path {f fF : Addr} {fd fdF : FuncData} (F : Fun K "path_along" "Hedge.path_along" sPath f fd) (T : PTxt K mg C CH) (m_follow : Meth K C "follow" fF) (FF : Fun K "follow" "Twig.follow" sFollow fF fdF) (b_follow : Binds K fdF ["self", "letter"] []) : FnOk P w K mg base CX0 2 f fd ["self", "text"] (spPath C CH) := by
 have G_follow : FnOk P w K mg base CX0 1 fF fdF ["self", "letter"] (spFollow C) := ok_follow FF T
 refine F.ok scPA (fun vs H Q E h => ?_) (fun cdv AA outer s H vs Q E hr h => ?_)
 ·obtain ⟨Z, g, N, hr', mn, w, rfl, _⟩ := h
  rfl
 ·obtain ⟨Z, g, N, hr', mn, w, rfl, hA, hwl, hw, k⟩ := h
  have nd := scPA.nd
  have hr_follow : Room 1 _ := hr
  have hsz := sizeLine_eq
  obtain ⟨dg, y0, hg, hy0⟩ := hA.gt
  refine ⟨_, (pss_cons (ps_set (i := 2) nd rfl (Or.inl rfl) (pe_lst (pa_cons (pe_fld (pv 0) rfl) pa_nil)))
   (pss_cons (ps_for PassesOwn.never rfl (pi_str (pv 1)) (pg_name (i := 3) nd rfl (Or.inl rfl)) (pss_cons (ps_set (i := 4) nd rfl (Or.inl rfl) (pe_meth (pe_ix ix_list (pv 2) (pe_un un_neg pe_int) (fun _ _ => rfl)) T.cl_Twig m_follow G_follow hr_follow b_follow .nil pass0 (pa_cons (pv 3) pa_nil)))
   (pss_cons (ps_if (pt_cmp (pc_isN (pv 4))) (pss_one ps_break) pss_nil)
   (pss_one (ps_expr (pe_bm PySem.F.plainAttrs_list PySem.F.slot_list_append PySem.F.type_list_append mt_append (pv 2) (pa_cons (pv 4) pa_nil)))))))
   (pss_one (ps_ret (pv 2))))), ?_⟩
  refine ⟨_, rfl, g, CH, dg, _, _, rfl, hg, T.cl_Hedge, T.nR, look_here, (by show 1 ≤ _; omega), fun l hl => ?_⟩
  have s1 : Same H (upd H l (.lst [V.ref y0.p])) := same_new hl
  have e0 : pathV N w 0 = [V.ref y0.p] := by
   show [A N (w.take 0)] = _
   rw [List.take_zero, A_some hy0]
  have fin : ∀ (k' : Nat) (H' : Hp), k' ≤ w.length → (∀ j, j ≤ k' → (N (w.take j)).isSome = true) → (k' = w.length ∨ N (w.take (k' + 1)) = none) → H' l = some (.lst (pathV N w k')) → Same H H' → Q (.ref l) H' := fun k' H' h1 h2 h3 h4 h5 => k k' l H' h1 h2 h3 hl h4 h5
  refine ⟨_, rfl, w, rfl, hwl.ascii, for_str (fun i σ' H' => ∃ u v : Option V, σ' = [some (.ref g), some (sv w), some (.ref l), u, v] ∧ H' l = some (.lst (pathV N w i)) ∧ Same H H' ∧ ∀ j, j ≤ i → (N (w.take j)).isSome = true) ?_ ?_ ?_⟩
  ·refine ⟨none, none, rfl, by rw [upd_same, e0], s1, fun j hj => ?_⟩
   rw [Nat.le_zero.mp hj, List.take_zero, hy0]
   rfl
  ·rintro i c σ' H' hi ⟨u, v, rfl, e, sm, hN⟩
   have hil : i < w.length := (List.getElem?_eq_some_iff.mp hi).1
   obtain ⟨y, hy⟩ := Option.isSome_iff_exists.mp (hN i (Nat.le_refl _))
   obtain ⟨hp, zp, zd, ks, hd, ndk, hm⟩ := (hA.same sm).tw _ y hy
   have tk : w.take (i + 1) = w.take i ++ [c] := by rw [List.take_succ, hi]; rfl
   have ev : (valV (kv N (w.take i) ks) (Sum.inr (S [c]) : Key)).getD .non = A N (w.take (i + 1)) := by
    have e1 : valV (kv N (w.take i) ks) (Sum.inr (S [c]) : Key) = _ := valV_kv N (w.take i) c ks
    rw [e1, tk]
    by_cases hc : c ∈ ks
    ·rw [if_pos hc]
     rfl
    ·rw [if_neg hc]
     have : N (w.take i ++ [c]) = none := by
      cases q : N (w.take i ++ [c]) with
      | none => rfl
      | some _ => exact absurd ((hm c).mpr (by rw [q]; rfl)) hc
     rw [A_none this]
     rfl
   refine ⟨_, rfl, _, rfl, l, _, _, V.ref y.p, rfl, rfl, SqL.of e, (by rw [← A_some hy]; exact pathV_last N w i), y.p, y.x, _, rfl, hp, f_no _ _ _ _ (by decide +kernel) (by decide +kernel) (by decide +kernel) (by decide +kernel), _, rfl, ?_⟩
   refine ⟨y.p, y.x, y.d, _, _, _, _, S [c], rfl, hp, hd, ?_⟩
   rw [ev]
   refine ⟨_, rfl, _, rfl, ?_⟩
   cases hn : N (w.take (i + 1)) with
   | none =>
    rw [A_none hn]
    refine iteT ?_
    exact ⟨_, rfl, fin i H' (by omega) hN (.inr hn) e sm⟩
   | some z =>
    rw [A_some hn]
    refine iteF ?_
    refine ⟨_, rfl, .inl ⟨rfl, _, SqL.of e⟩, _, rfl, l, _, _, rfl, rfl, e, (by rw [pathV_len]; omega), ?_⟩
    refine ⟨_, _, rfl, ?_, fun b o q => ?_, fun j hj => ?_⟩
    ·rw [upd_same, pathV_succ, A_some hn]
    ·rw [upd_ne (ne_of_none q hl)]
     exact sm _ _ q
    ·rcases Nat.lt_or_ge i j with z | z
     ·have : j = i + 1 := by omega
      rw [this, hn]
      rfl
     ·exact hN j z
  ·rintro σ' H' ⟨u, v, rfl, e, sm, hN⟩
   exact ⟨_, rfl, fin w.length H' (Nat.le_refl _) hN (.inl rfl) e sm⟩
theorem scHa : FnScope ["self", "word", "last"] ["self", "word"] (defScope sHas) := ⟨rfl, rfl, rfl, by decide +kernel, rfl, by decide +kernel, by decide +kernel⟩
theorem root_no {v : V} {m : Str} (h : m ≠ "root") : List.lookup m [(("root" : Str), v)] = none := (look_there h).trans rfl
theorem not_there {N : NM} {W : List (List Nat)} {w : List Nat} {k : Nat} (D : ∀ t, (N t).isSome = true ↔ t = [] ∨ 0 < cnt W t) (hk : k < w.length) (hn : N (w.take (k + 1)) = none) : w ∉ W := fun hm => by
 have : (N (w.take (k + 1))).isSome = true := (D _).mpr (.inr (cnt_pos.mpr ⟨w, hm, take_pre w (k + 1)⟩))
 rw [hn] at this
 cases this
theorem ok_has {f fA : Addr} {fd fdA : FuncData} (F : Fun K "has" "Hedge.has" sHas f fd) (T : PTxt K mg C CH) (m_path_along : Meth K CH "path_along" fA) (G_path_along : FnOk P w K mg base CX0 2 fA fdA ["self", "text"] (spPath C CH)) (b_path_along : Binds K fdA ["self", "text"] []) : FnOk P w K mg base CX0 3 f fd ["self", "word"] (spHas C CH) := by
 refine F.ok scHa (fun vs H Q E h => ?_) (fun cdv AA outer s H vs Q E hr h => ?_)
 ·obtain ⟨Z, g, W, w, rfl, _⟩ := h
  rfl
 ·obtain ⟨Z, g, W, w, rfl, hDay, hwl, hw, k⟩ := h
  have nd := scHa.nd
  have hr_path_along : Room 2 _ := hr
  obtain ⟨⟨N, hA, hD⟩, hnd, hwd⟩ := hDay
  obtain ⟨dg, y0, hg, hy0⟩ := hA.gt
  refine ⟨_, (pss_cons (ps_set (i := 2) nd rfl (Or.inl rfl) (pe_ix ix_list (pe_meth (pv 0) T.cl_Hedge m_path_along G_path_along hr_path_along b_path_along .nil pass0 (pa_cons (pv 1) pa_nil)) (pe_un un_neg pe_int) (fun _ _ => rfl)))
   (pss_one (ps_ret (pe_and (pe_cmpR op_eq (pe_fld (pv 2) rfl) (pv 1) (nomark _)) (pe_one (pe_fld (pv 2) rfl)))))), ?_⟩
  refine ⟨_, rfl, g, dg, _, rfl, hg, root_no (by decide +kernel), _, rfl, Z, g, N, _, _, w, rfl, hA, hwl, by omega, fun k' l H' hk hN hlast hl e sm => ?_⟩
  obtain ⟨y, hy⟩ := Option.isSome_iff_exists.mp (hN k' (Nat.le_refl _))
  obtain ⟨hp, zp, zd, ks, hd, ndk, hm⟩ := (hA.same sm).tw _ y hy
  refine ⟨_, rfl, l, _, _, V.ref y.p, rfl, rfl, SqL.of e, (by rw [← A_some hy]; exact pathV_last N w k'), ?_⟩
  refine ⟨_, rfl, y.p, C, y.x, _, _, rfl, hp, T.cl_Twig, T.nT, f_text .., _, rfl, rfl, _, rfl, ?_⟩
  rw [dec_S]
  by_cases ek : k' = w.length
  ·subst ek
   have et : w.take w.length = w := List.take_length
   rw [et] at hp hy
   rw [decide_eq_true et]
   refine iteT ?_
   refine ⟨_, rfl, y.p, C, y.x, _, _, rfl, (by rw [hp]), T.cl_Twig, T.nH, f_here .., ?_⟩
   exact k H' sm
  ·have hlt : k' < w.length := by omega
   have hne : ¬ w.take k' = w := fun z => by
    have := congrArg List.length z
    rw [List.length_take] at this
    omega
   rw [decide_eq_false hne]
   refine iteF ?_
   have hn := not_there hD hlt (hlast.resolve_left ek)
   have := k H' sm
   rw [decide_eq_false hn] at this
   exact this
theorem scTa : FnScope ["self", "word", "path"] ["self", "word"] (defScope sTake) := ⟨rfl, rfl, rfl, by decide +kernel, rfl, by decide +kernel, by decide +kernel⟩
theorem ok_take {f fA fTH fSB : Addr} {fd fdA fdTH fdSB : FuncData} (F : Fun K "take" "Hedge.take" sTake f fd) (T : PTxt K mg C CH) (TH : HTxt mg fSB) (m_path_along : Meth K CH "path_along" fA) (G_path_along : FnOk P w K mg base CX0 2 fA fdA ["self", "text"] (spPath C CH)) (b_path_along : Binds K fdA ["self", "text"] [])
  (m_take_here : Meth K C "take_here" fTH) (FTH : Fun K "take_here" "Twig.take_here" sTakeHere fTH fdTH) (b_take_here : Binds K fdTH ["self"] []) (F_settle_back : Fun K "settle_back" "settle_back" sBack fSB fdSB) (G_settle_back : FnOk P w K mg base CX0 2 fSB fdSB ["path"] (spBack C CH)) (b_settle_back : Binds K fdSB ["path"] []) :
  FnOk P w K mg base CX0 3 f fd ["self", "word"] (spTake C CH) := by
 have G_take_here : FnOk P w K mg base CX0 1 fTH fdTH ["self"] (spTakeHere C) := ok_takehere FTH T
 refine F.ok scTa (fun vs H Q E h => ?_) (fun cdv AA outer s H vs Q E hr h => ?_)
 ·obtain ⟨Z, g, W, w, rfl, _⟩ := h
  rfl
 ·obtain ⟨Z, g, W, w, rfl, hDay, hZ, hwl, hw, k⟩ := h
  have nd := scTa.nd
  have hr_path_along : Room 2 _ := hr
  have hr_settle_back : Room 2 _ := hr
  have hr_take_here : Room 1 _ := hr.mono (by decide)
  obtain ⟨⟨N, hA, hD⟩, hnd, hwd⟩ := id hDay
  obtain ⟨dg, y0, hg, hy0⟩ := hA.gt
  refine ⟨_, (pss_cons (ps_set (i := 2) nd rfl (Or.inl rfl) (pe_meth (pv 0) T.cl_Hedge m_path_along G_path_along hr_path_along b_path_along .nil pass0 (pa_cons (pv 1) pa_nil)))
   (pss_cons (ps_if (PW.pt (pw_or (pt_cmpR op_ne (pe_fld (pe_ix ix_list (pv 2) (pe_un un_neg pe_int) (fun _ _ => rfl)) rfl) (pv 1) (nomark _)) (pw_or1 (pt_not (pt_val (pe_meth0 (pe_ix ix_list (pv 2) (pe_un un_neg pe_int) (fun _ _ => rfl)) T.cl_Twig m_take_here G_take_here hr_take_here b_take_here .nil pass0)))))) (pss_one (ps_ret pe_bl)) pss_nil)
   (pss_cons (ps_expr (pe_call G_settle_back hr_settle_back rfl TH.settle_back F_settle_back.kp b_settle_back .nil pass0 (pa_cons (pv 2) pa_nil)))
   (pss_one (ps_ret pe_bl))))), ?_⟩
  refine ⟨_, rfl, g, dg, _, rfl, hg, root_no (by decide +kernel), _, rfl, Z, g, N, _, _, w, rfl, hA, hwl, by omega, fun k' l H' hk hN hlast hl e sm => ?_⟩
  obtain ⟨y, hy⟩ := Option.isSome_iff_exists.mp (hN k' (Nat.le_refl _))
  obtain ⟨hp, zp, zd, ks, hd, ndk, hm⟩ := (hA.same sm).tw _ y hy
  have elast : atI (pathV N w k') (-1) = some (V.ref y.p) := by rw [← A_some hy]; exact pathV_last N w k'
  have stay : w ∉ W → Q (.bl false) H' := fun hn => by
   have e1 : stepW W (.take w) = W := List.erase_of_not_mem hn
   have := k H' (by rw [e1]; exact ⟨⟨N, hA.same sm, hD⟩, hnd, hwd⟩) (Kp.same sm)
   rw [decide_eq_false hn] at this
   exact this
  refine ⟨_, rfl, _, rfl, l, _, _, V.ref y.p, rfl, rfl, SqL.of e, elast, y.p, C, y.x, _, _, rfl, hp, T.cl_Twig, T.nT, f_text .., _, rfl, rfl, _, rfl, ?_⟩
  rw [dec_S]
  by_cases ek : k' = w.length
  ·subst ek
   have et : w.take w.length = w := List.take_length
   rw [et] at hp hy hd hm
   rw [decide_eq_true et]
   refine iteF ?_
   refine ⟨_, rfl, _, rfl, l, _, _, V.ref y.p, rfl, rfl, SqL.of e, elast, y.p, y.x, _, rfl, hp, f_no _ _ _ _ (by decide +kernel) (by decide +kernel) (by decide +kernel) (by decide +kernel), ?_⟩
   refine ⟨y.p, y.x, y.d, w, _, _, rfl, hp, fun hf => ⟨_, rfl, iteT (stay (of_decide_eq_false hf))⟩, fun ht => ?_⟩
   have hmem : w ∈ W := of_decide_eq_true ht
   have hpos : 0 < cnt W w := cnt_pos.mpr ⟨w, hmem, List.prefix_refl _⟩
   refine ⟨hpos, _, rfl, iteF ?_⟩
   have hM := (hA.same sm).mark (b := false) (m := cnt W w - 1) hy
   have Sx := sett_take hnd hmem
   have eh : setN (fun t => decide (t ∈ W)) w false = fun t => decide (t ∈ W.erase w) := by
    funext t
    by_cases q : t = w
    ·rw [q, setN_at, decide_eq_false fun z => (hnd.mem_erase_iff.mp z).1 rfl]
    ·rw [setN_ne _ _ q]
     exact decide_eq_decide.mpr ⟨fun z => hnd.mem_erase_iff.mpr ⟨q, z⟩, fun z => (hnd.mem_erase_iff.mp z).2⟩
   have em : setN (cnt W) w (cnt W w - 1) = mnK (W.erase w) w (setN (cnt W) w (cnt W w - 1)) (w.length + 1) := by
    funext t
    unfold mnK
    by_cases q : t <+: w
    ·rw [if_pos ⟨q, Nat.lt_succ_of_le q.length_le⟩]
    ·rw [if_neg fun z => q z.1, setN_ne (cnt W) _ (show t ≠ w from fun z => q (by rw [z]; exact List.prefix_refl _)), Sx.off t q]
   rw [eh, em] at hM
   have kpM : Kp Z H' (upd H' y.p (.ins C y.x (flds w false (cnt W w - 1) y.d))) := Kp.but hp zp (by intro _ z; cases z) (by intro _ z; cases z) fun b o q hb => by rw [upd_ne hb]; exact q
   refine ⟨_, rfl, Z, g, N, W, W.erase w, w, _, l, rfl, Sx, hM, fun t => (hD t).trans ⟨fun z => z.elim .inl fun z => .inr ⟨z, fun r => ?_⟩, fun z => z.elim .inl fun z => .inr z.1⟩, (Kp.same sm |>.trans kpM).zone hZ, kpM.lst e, hw, fun H2 hN2 kp2 => ?_⟩
   ·have := r.1.length_le
    omega
   ·have := k H2 ⟨hN2, hnd.erase w, fun v hv => hwd v (List.mem_of_mem_erase hv)⟩ (((Kp.same sm).trans kpM).trans kp2)
    rw [decide_eq_true hmem] at this
    exact this
  ·have hlt : k' < w.length := by omega
   have hne : ¬ w.take k' = w := fun z => by
    have := congrArg List.length z
    rw [List.length_take] at this
    omega
   rw [decide_eq_false hne]
   refine iteT ?_
   exact iteT (stay (not_there hD hlt (hlast.resolve_left ek)))
theorem scPu : FnScope ["self", "word", "path", "letter"] ["self", "word"] (defScope sPut) := ⟨rfl, rfl, rfl, by decide +kernel, rfl, by decide +kernel, by decide +kernel⟩
theorem ok_put {f fG fPH fSB : Addr} {fd fdG fdPH fdSB : FuncData} (F : Fun K "put" "Hedge.put" sPut f fd) (T : PTxt K mg C CH) (TH : HTxt mg fSB) (m_grow : Meth K C "grow" fG) (G_grow : FnOk P w K mg base CX0 3 fG fdG ["self", "letter"] (spGrow C CH)) (b_grow : Binds K fdG ["self", "letter"] [])
  (m_put_here : Meth K C "put_here" fPH) (FPH : Fun K "put_here" "Twig.put_here" sPutHere fPH fdPH) (b_put_here : Binds K fdPH ["self"] []) (F_settle_back : Fun K "settle_back" "settle_back" sBack fSB fdSB) (G_settle_back : FnOk P w K mg base CX0 2 fSB fdSB ["path"] (spBack C CH)) (b_settle_back : Binds K fdSB ["path"] []) :
  FnOk P w K mg base CX0 4 f fd ["self", "word"] (spPut C CH) := by
 have G_put_here : FnOk P w K mg base CX0 1 fPH fdPH ["self"] (spPutHere C) := ok_puthere FPH T
 refine F.ok scPu (fun vs H Q E h => ?_) (fun cdv AA outer s H vs Q E hr h => ?_)
 ·obtain ⟨Z, g, W, w, rfl, _⟩ := h
  rfl
 ·obtain ⟨Z, g, W, w, rfl, hDay, hZ, hwl, hw, k⟩ := h
  have nd := scPu.nd
  have hr_grow : Room 3 _ := hr
  have hr_settle_back : Room 2 _ := hr.mono (by decide)
  have hr_put_here : Room 1 _ := hr.mono (by decide)
  have hsz := sizeLine_eq
  obtain ⟨⟨N, hA, hD⟩, hnd, hwd⟩ := id hDay
  obtain ⟨dg, y0, hg, hy0⟩ := hA.gt
  refine ⟨_, (pss_cons (ps_set (i := 2) nd rfl (Or.inl rfl) (pe_lst (pa_cons (pe_fld (pv 0) rfl) pa_nil)))
   (pss_cons (ps_for PassesOwn.never rfl (pi_str (pv 1)) (pg_name (i := 3) nd rfl (Or.inl rfl)) (pss_one (ps_expr (pe_bm PySem.F.plainAttrs_list PySem.F.slot_list_append PySem.F.type_list_append mt_append (pv 2) (pa_cons (pe_meth (pe_ix ix_list (pv 2) (pe_un un_neg pe_int) (fun _ _ => rfl)) T.cl_Twig m_grow G_grow hr_grow b_grow .nil pass0 (pa_cons (pv 3) pa_nil)) pa_nil)))))
   (pss_cons (ps_if (pt_not (pt_val (pe_meth0 (pe_ix ix_list (pv 2) (pe_un un_neg pe_int) (fun _ _ => rfl)) T.cl_Twig m_put_here G_put_here hr_put_here b_put_here .nil pass0))) (pss_one (ps_ret pe_bl)) pss_nil)
   (pss_cons (ps_expr (pe_call G_settle_back hr_settle_back rfl TH.settle_back F_settle_back.kp b_settle_back .nil pass0 (pa_cons (pv 2) pa_nil)))
   (pss_one (ps_ret pe_bl)))))), ?_⟩
  refine ⟨_, rfl, g, CH, dg, _, _, rfl, hg, T.cl_Hedge, T.nR, look_here, (by show 1 ≤ _; omega), fun l hl => ?_⟩
  have s1 : Same H (upd H l (.lst [V.ref y0.p])) := same_new hl
  refine ⟨_, rfl, w, rfl, hwl.ascii, for_str (fun i σ' H' => ∃ u : Option V, σ' = [some (.ref g), some (sv w), some (.ref l), u] ∧ Kp Z H H' ∧ ∃ N' : NM, HedAt C CH Z H' g N' (fun t => decide (t ∈ W)) (cnt W) ∧ H' l = some (.lst (pathV N' w i)) ∧
   (∀ t, (N' t).isSome = true ↔ (t = [] ∨ 0 < cnt W t) ∨ (t <+: w ∧ t.length ≤ i))) ?_ ?_ ?_⟩
  ·refine ⟨none, rfl, Kp.same s1, N, hA.same s1, ?_, fun t => (hD t).trans ⟨.inl, fun z => z.elim id fun z => .inl (List.length_eq_zero_iff.mp (by omega))⟩⟩
   rw [upd_same]
   show _ = some (HO.lst [A N (w.take 0)])
   rw [List.take_zero, A_some hy0]
  ·rintro i c σ' H' hi ⟨u, rfl, kp, N', hA', e, hD'⟩
   have hil : i < w.length := (List.getElem?_eq_some_iff.mp hi).1
   have tk : w.take (i + 1) = w.take i ++ [c] := by rw [List.take_succ, hi]; rfl
   have hlen : (w.take i).length = i := by rw [List.length_take]; omega
   obtain ⟨y, hy⟩ := Option.isSome_iff_exists.mp ((hD' (w.take i)).mpr (.inr ⟨take_pre w i, by omega⟩))
   obtain ⟨hp, zp, zd, ks, hd, ndk, hm⟩ := hA'.tw _ y hy
   have hcl : 97 ≤ c ∧ c ≤ 122 := hwl c (List.mem_of_getElem? hi)
   have hpl : (pathV N' w i).length < sizeLine := by rw [pathV_len]; omega
   refine ⟨_, rfl, .inl ⟨rfl, _, SqL.of e⟩, _, rfl, _, rfl, l, _, _, V.ref y.p, rfl, rfl, SqL.of e, (by rw [← A_some hy]; exact pathV_last N' w i), y.p, y.x, _, rfl, hp, f_no _ _ _ _ (by decide +kernel) (by decide +kernel) (by decide +kernel) (by decide +kernel), _, rfl, ?_⟩
   refine ⟨Z, g, N', _, _, w.take i, y, c, rfl, hA', hy, hcl, by omega, kp.zone hZ, fun z hz => ?_, fun hn z H2 hA2 kp2 => ?_⟩
   ·refine ⟨l, _, _, rfl, rfl, e, hpl, ?_⟩
    have up : ∀ b o, H' b = some o → b ≠ l → upd H' l (.lst (pathV N' w i ++ [V.ref z.p])) b = some o := fun b o q hb => by rw [upd_ne hb]; exact q
    have hA3 : HedAt C CH Z (upd H' l (.lst (pathV N' w i ++ [V.ref z.p]))) g N' (fun t => decide (t ∈ W)) (cnt W) := by
     refine ⟨?_, fun t x hx => ?_, hA'.inj, hA'.dom⟩
     ·obtain ⟨dg', y', q1, q2⟩ := hA'.gt
      exact ⟨dg', y', up _ _ q1 (ne_of q1 e (by intro z; cases z)), q2⟩
     ·obtain ⟨q1, q2, q3, ks', q4, q5⟩ := hA'.tw t x hx
      exact ⟨up _ _ q1 (ne_of q1 e (by intro z; cases z)), q2, q3, ks', up _ _ q4 (ne_of q4 e (by intro z; cases z)), q5⟩
    refine ⟨_, rfl, fun b o q n => ?_, N', hA3, ?_, fun t => (hD' t).trans ⟨fun z => z.elim .inl fun z => .inr ⟨z.1, by omega⟩, fun r => r.elim .inl fun r => ?_⟩⟩
    ·rw [upd_ne (ne_of_none q hl)]
     exact kp b o q n
    ·rw [upd_same, pathV_succ, tk, A_some hz]
    ·rcases Nat.lt_or_ge i t.length with q | q
     ·have : t = w.take (i + 1) := by
       rw [pre_eq_take r.1]
       congr 1
       omega
      rw [this, tk]
      exact (hD' _).mp (by rw [hz]; rfl)
     ·exact .inr ⟨r.1, q⟩
   ·have el := kp2.lst e
    refine ⟨l, _, _, rfl, rfl, el, hpl, ?_⟩
    have nl : ∀ {b o}, H2 b = some o → (∀ xs, o ≠ HO.lst xs) → upd H2 l (.lst (pathV N' w i ++ [V.ref z.p])) b = some o := fun {b o} q n => by
     rw [upd_ne (ne_of q el (n _))]
     exact q
    have hzero : cnt W (w.take i ++ [c]) = 0 := by
     rcases Nat.eq_zero_or_pos (cnt W (w.take i ++ [c])) with q | q
     ·exact q
     ·have := (hD' (w.take i ++ [c])).mpr (.inl (.inr q))
      rw [hn] at this
      cases this
    have hnot : (w.take i ++ [c]) ∉ W := fun q => by
     have := cnt_pos.mpr ⟨_, q, List.prefix_refl _⟩
     omega
    have eh : setN (fun t => decide (t ∈ W)) (w.take i ++ [c]) false = fun t => decide (t ∈ W) := by
     funext t
     by_cases q : t = w.take i ++ [c]
     ·rw [q, setN_at, decide_eq_false hnot]
     ·rw [setN_ne _ _ q]
    have em : setN (cnt W) (w.take i ++ [c]) 0 = cnt W := by
     funext t
     by_cases q : t = w.take i ++ [c]
     ·rw [q, setN_at, hzero]
     ·rw [setN_ne _ _ q]
    rw [eh, em] at hA2
    have hA3 : HedAt C CH Z (upd H2 l (.lst (pathV N' w i ++ [V.ref z.p]))) g (setN N' (w.take i ++ [c]) (some z)) (fun t => decide (t ∈ W)) (cnt W) := by
     refine ⟨?_, fun t x hx => ?_, hA2.inj, hA2.dom⟩
     ·obtain ⟨dg', y', q1, q2⟩ := hA2.gt
      exact ⟨dg', y', nl q1 (by intro _ z; cases z), q2⟩
     ·obtain ⟨q1, q2, q3, ks', q4, q5⟩ := hA2.tw t x hx
      exact ⟨nl q1 (by intro _ z; cases z), q2, q3, ks', nl q4 (by intro _ z; cases z), q5⟩
    refine ⟨_, rfl, fun b o q n => ?_, _, hA3, ?_, fun t => ?_⟩
    ·rw [upd_ne (ne_of_none q hl)]
     exact kp2 b o (kp b o q n) n
    ·rw [upd_same, pathV_succ, tk, A_some (setN_at N' (w.take i ++ [c]) (some z))]
     rw [pathV_congr (N' := setN N' (w.take i ++ [c]) (some z)) fun j hj => ?_]
     unfold A
     rw [setN_ne N' (some z) (show w.take j ≠ w.take i ++ [c] from fun q => ?_)]
     have := congrArg List.length q
     rw [List.length_append, hlen, List.length_take] at this
     simp at this
     omega
    ·by_cases q : t = w.take i ++ [c]
     ·rw [q, setN_at]
      refine ⟨fun _ => .inr ⟨by rw [← tk]; exact take_pre w (i + 1), by rw [List.length_append, hlen]; exact Nat.le_refl _⟩, fun _ => rfl⟩
     ·rw [setN_ne _ _ q, hD']
      refine ⟨fun z => z.elim .inl fun z => .inr ⟨z.1, by omega⟩, fun r => r.elim .inl fun r => .inr ⟨r.1, ?_⟩⟩
      rcases Nat.lt_or_ge i t.length with p | p
      ·refine absurd ?_ q
       rw [pre_eq_take r.1, ← tk]
       congr 1
       omega
      ·exact p
  ·rintro σ' H' ⟨u, rfl, kp, N', hA', e, hD'⟩
   obtain ⟨y, hy⟩ := Option.isSome_iff_exists.mp ((hD' w).mpr (.inr ⟨List.prefix_refl _, Nat.le_refl _⟩))
   obtain ⟨hp, zp, zd, ks, hd, ndk, hm⟩ := hA'.tw _ y hy
   have elast : atI (pathV N' w w.length) (-1) = some (V.ref y.p) := by
    have := pathV_last N' w w.length
    rw [List.take_length, A_some hy] at this
    exact this
   refine ⟨_, rfl, _, rfl, l, _, _, V.ref y.p, rfl, rfl, SqL.of e, elast, y.p, y.x, _, rfl, hp, f_no _ _ _ _ (by decide +kernel) (by decide +kernel) (by decide +kernel) (by decide +kernel), ?_⟩
   refine ⟨y.p, y.x, y.d, w, _, _, rfl, hp, fun ht => ⟨_, rfl, iteT ?_⟩, fun hf => ⟨_, rfl, iteF ?_⟩⟩
   ·have hmem : w ∈ W := of_decide_eq_true ht
    have e1 : stepW W (.put w) = W := if_pos hmem
    have := k H' (by rw [e1]; exact ⟨⟨N', hA', fun t => (hD' t).trans ⟨fun z => z.elim id fun z => .inr (cnt_pos.mpr ⟨w, hmem, z.1⟩), .inl⟩⟩, hnd, hwd⟩) kp
    rw [decide_eq_true hmem] at this
    exact this
   ·have hmem : w ∉ W := of_decide_eq_false hf
    have e1 : stepW W (.put w) = W ++ [w] := if_neg hmem
    have hM := hA'.mark (b := true) (m := cnt W w + 1) hy
    have Sx := sett_put hnd hmem
    have eh : setN (fun t => decide (t ∈ W)) w true = fun t => decide (t ∈ W ++ [w]) := by
     funext t
     by_cases q : t = w
     ·rw [q, setN_at, decide_eq_true (by simp)]
     ·rw [setN_ne _ _ q]
      exact decide_eq_decide.mpr ⟨fun z => List.mem_append_left _ z, fun z => (List.mem_append.mp z).elim id fun z => absurd (List.mem_singleton.mp z) q⟩
    have em : setN (cnt W) w (cnt W w + 1) = mnK (W ++ [w]) w (setN (cnt W) w (cnt W w + 1)) (w.length + 1) := by
     funext t
     unfold mnK
     by_cases q : t <+: w
     ·rw [if_pos ⟨q, Nat.lt_succ_of_le q.length_le⟩]
     ·rw [if_neg fun z => q z.1, setN_ne (cnt W) _ (show t ≠ w from fun z => q (by rw [z]; exact List.prefix_refl _)), cnt_app, cnt_one, ind_pre q]
      rfl
    rw [eh, em] at hM
    have kpM : Kp Z H' (upd H' y.p (.ins C y.x (flds w true (cnt W w + 1) y.d))) := Kp.but hp zp (by intro _ z; cases z) (by intro _ z; cases z) fun b o q hb => by rw [upd_ne hb]; exact q
    refine ⟨_, rfl, Z, g, N', W ++ [w], W ++ [w], w, _, l, rfl, Sx, hM, fun t => (hD' t).trans ?_, (kp.trans kpM).zone hZ, kpM.lst e, hw, fun H2 hN2 kp2 => ?_⟩
    ·unfold DomK
     rw [cnt_app, cnt_one]
     constructor
     ·rintro ((z | z) | z)
      ·exact .inl z
      ·refine .inr ⟨by omega, fun r => ?_⟩
       have := r.1.length_le
       omega
      ·refine .inr ⟨by rw [ind_pre1 z.1]; omega, fun r => by omega⟩
     ·rintro (z | ⟨z, _⟩)
      ·exact .inl (.inl z)
      ·by_cases q : t <+: w
       ·exact .inr ⟨q, q.length_le⟩
       ·rw [ind_pre q] at z
        exact .inl (.inr (by omega))
    ·have := k H2 (by
      rw [e1]
      refine ⟨hN2, Sx.nd, fun v hv => ?_⟩
      rcases List.mem_append.mp hv with z | z
      ·exact hwd v z
      ·rw [List.mem_singleton.mp z]
       exact ⟨hwl, hw⟩) ((kp.trans kpM).trans kp2)
     rw [decide_eq_false hmem] at this
     exact this
end
abbrev sDoOne : Stmt := top 10
abbrev sDoAll : Stmt := top 9
abbrev sAnswers : Stmt := top 7
structure DTxt (K : PySem.W.Frag) (mg : Str → Option Value) (C CH fOne fAll : Addr) : Prop extends PTxt K mg C CH where
 do_one : mg "do_one" = some (.ref fOne)
 do_all : mg "do_all" = some (.ref fAll)
section
variable {P : Program} {w : World} {K : PySem.W.Frag} {mg : Str → Option Value} {base : Heap} {C CH : Addr}
theorem scDA : FnScope ["hedge", "deeds", "answered", "deed"] ["hedge", "deeds"] (defScope sDoAll) := ⟨rfl, rfl, rfl, by decide +kernel, rfl, by decide +kernel, by decide +kernel⟩
theorem ok_doall {f f1 fAll : Addr} {fd fd1 : FuncData} {FF : Deed → Prop} {k1 : Nat} (F : Fun K "do_all" "do_all" sDoAll f fd) (T : DTxt K mg C CH f1 fAll) (F_do_one : Fun K "do_one" "do_one" sDoOne f1 fd1) (G_do_one : FnOk P w K mg base CX0 k1 f1 fd1 ["hedge", "deed"] (spDo FF C CH)) (b_do_one : Binds K fd1 ["hedge", "deed"] []) :
  FnOk P w K mg base CX0 (k1 + 1) f fd ["hedge", "deeds"] (spAll FF C CH) := by
 refine F.ok scDA (fun vs H Q E h => ?_) (fun cdv AA outer s H vs Q E hr h => ?_)
 ·obtain ⟨Z, g, a, ps, ds, rfl, _⟩ := h
  rfl
 ·obtain ⟨Z, g, a, ps, ds, rfl, hDay, hZ, ha, hds, hF, hlen, k⟩ := h
  have nd := scDA.nd
  have hr_do_one : Room k1 _ := hr
  have hsz := sizeLine_eq
  have hpl := hds.length
  refine ⟨_, (pss_cons (ps_set (i := 2) nd rfl (Or.inl rfl) (pe_lst pa_nil))
   (pss_cons (ps_for PassesOwn.never rfl (pi_list (pv 1)) (pg_name (i := 3) nd rfl (Or.inl rfl)) (pss_one (ps_expr (pe_bm PySem.F.plainAttrs_list PySem.F.slot_list_append PySem.F.type_list_append mt_append (pv 2) (pa_cons (pe_call G_do_one hr_do_one rfl T.do_one F_do_one.kp b_do_one .nil pass0 (pa_cons (pv 0) (pa_cons (pv 3) pa_nil))) pa_nil)))))
   (pss_one (ps_ret (pv 2))))), ?_⟩
  refine ⟨Nat.zero_le _, fun r hr0 => ?_⟩
  have s1 : Same H (upd H r (.lst [])) := same_new hr0
  refine ⟨_, rfl, a, rfl, ⟨_, SqL.of (s1 _ _ ha)⟩, for_list (K := K) (a := a) (xs := ps.map V.ref) (fun i σ' H' => ∃ (v : Option V) (us : List V), σ' = [some (.ref g), some (.ref a), some (.ref r), v] ∧ DayAt C CH Z H' g (after [] (ds.take i)) ∧ H' r = some (.lst us) ∧
   AnswersAt H' us (run [] (ds.take i)) ∧ (∀ v ∈ us, v ≠ V.ref r) ∧ Kp Z H H') ?_ ?_ ?_ ?_⟩
  ·refine ⟨none, [], rfl, hDay.keep fun b o e n => s1 _ _ e, upd_same, ?_, (fun _ z => nomatch z), Kp.same s1⟩
   rw [List.take_zero]
   exact .nil
  ·rintro i σ' H' _ ⟨v, us, rfl, _, _, _, _, kp⟩
   exact SqL.of (kp.lst ha)
  ·rintro i x σ' H' hx ⟨v, us, rfl, hDay', hr', hA, hne, kp⟩
   obtain ⟨p, hp, rfl⟩ : ∃ p, ps[i]? = some p ∧ x = V.ref p := by
    rw [List.getElem?_map] at hx
    cases e : ps[i]? with
    | none => rw [e] at hx; cases hx
    | some z => rw [e] at hx; exact ⟨z, rfl, (Option.some.inj hx).symm⟩
   have hil : i < ds.length := by
    have := (List.getElem?_eq_some_iff.mp hp).1
    omega
   have hd : ds[i]? = some ds[i] := List.getElem?_eq_getElem hil
   obtain ⟨p', hp', hdp⟩ := hds.get hd
   rw [hp] at hp'
   cases hp'
   have tk : ds.take (i + 1) = ds.take i ++ [ds[i]] := by rw [List.take_succ, hd]; rfl
   have hul : us.length ≤ 450 := by
    rw [hA.length, run_length, List.length_take]
    omega
   have hWl : (after [] (ds.take i)).length ≤ 450 := by
    have := after_len [] (ds.take i)
    rw [List.length_take] at this
    simp at this
    omega
   refine ⟨_, rfl, .inl ⟨rfl, _, SqL.of hr'⟩, _, rfl, _, rfl, Z, g, _, p, ds[i], rfl, hDay', kp.zone hZ, kp.tup hdp, hF _ (List.getElem_mem hil), hWl, fun v' H2 hv hnew hDay2 kp2 => ?_⟩
   have hr2 := kp2.lst hr'
   refine ⟨r, us, v', rfl, rfl, hr2, by omega, ?_⟩
   have nv : v' ≠ V.ref r := fun z => by
    have := hnew r z
    rw [hr'] at this
    cases this
   refine ⟨_, us ++ [v'], rfl, ?_, upd_same, ?_, fun u hu => ?_, fun b o e n => ?_⟩
   ·rw [tk, after_snoc]
    exact hDay2.keep fun b o e n => by rw [upd_ne (ne_of e hr2 (n _))]; exact e
   ·rw [tk, run_snoc]
    exact Paired.snoc (answers_upd (Paired.mapP hA fun _ _ z => z.kp kp2) hne) (hv.upd nv)
   ·rcases List.mem_append.mp hu with z | z
    ·exact hne u z
    ·rw [List.mem_singleton.mp z]
     exact nv
   ·rw [upd_ne (ne_of_none e hr0)]
    exact kp2 b o (kp b o e n) n
  ·rintro σ' H' ⟨v, us, rfl, hDay', hr', hA, hne, kp⟩
   have el : ds.take (ps.map V.ref).length = ds := by rw [List.length_map, hpl, List.take_length]
   rw [el] at hDay' hA
   exact ⟨_, rfl, k r us H' hr0 hr' hA hDay' kp⟩
theorem scAn : FnScope ["deeds"] ["deeds"] (defScope sAnswers) := ⟨rfl, rfl, rfl, by decide +kernel, rfl, by decide +kernel, by decide +kernel⟩
theorem ok_answers {f f1 fAll fI : Addr} {fd fdAll fdI : FuncData} {FF : Deed → Prop} {k1 : Nat} (F : Fun K "answers" "answers" sAnswers f fd) (T : DTxt K mg C CH f1 fAll) (F_do_all : Fun K "do_all" "do_all" sDoAll fAll fdAll) (G_do_all : FnOk P w K mg base CX0 (k1 + 4) fAll fdAll ["hedge", "deeds"] (spAll FF C CH)) (b_do_all : Binds K fdAll ["hedge", "deeds"] [])
  (M_Hedge : Mk K CH fI) (G_Hedge : FnOk P w K mg base CX0 3 fI fdI ["self"] (spHInit C CH)) (b_Hedge : Binds K fdI ["self"] []) : FnOk P w K mg base CX0 (k1 + 5) f fd ["deeds"] (spAnswersF FF K) := by
 refine F.ok scAn (fun vs H Q E h => ?_) (fun cdv AA outer s H vs Q E hr h => ?_)
 ·obtain ⟨a, ps, ds, rfl, _⟩ := h
  rfl
 ·obtain ⟨a, ps, ds, rfl, ha, hds, hF, hlen, k⟩ := h
  have hr_do_all : Room (k1 + 4) _ := hr
  have hr_Hedge : Room 4 _ := hr.mono (by omega)
  refine ⟨_, (pss_one (ps_ret (pe_call G_do_all hr_do_all rfl T.do_all F_do_all.kp b_do_all .nil pass0 (pa_cons (pe_make0 M_Hedge G_Hedge hr_Hedge rfl T.mg_Hedge b_Hedge .nil pass0) (pa_cons (pv 0) pa_nil))))), ?_⟩
  intro x dx nx ndx nex
  have z0 : ∀ b o, H b = some o → (upd (upd H dx (.own x)) x (.ins CH dx [])) b = some o := fun b o e => by
   rw [upd_ne (ne_of_none e nx), upd_ne (ne_of_none e ndx)]
   exact e
  refine ⟨x, dx, fun b => H b = none, rfl, upd_same, fun b hb => ?_, fun H1 hDay kp => ⟨rfl, ?_⟩⟩
  ·cases q : H b with
   | none => exact q
   | some o =>
    rw [z0 b o q] at hb
    cases hb
  ·have s1 : Same H H1 := fun b o e => kp b o (z0 b o e) (ne_of_none e nx)
   refine ⟨_, rfl, fun b => H b = none, x, a, ps, ds, rfl, hDay, fun b hb => s1.free hb, s1 _ _ ha, hds.same s1, hF, hlen, fun r us H2 hr0 hr1 hA hD2 kp2 => ?_⟩
   exact k r us H2 (s1.free hr0) hr1 hA fun b o e => kp2 b o (s1 b o e) fun z => by
    have z' : H b = none := z
    rw [e] at z'
    cases z'
end
abbrev sLongest : Stmt := inClass sHedge 5
def spLongest (C CH : Addr) : Sp := fun vs H Q _ => ∃ (Z : Addr → Prop) (g : Addr) (W : List (List Nat)) (t : List Nat), vs = [.ref g, sv t] ∧ DayAt C CH Z H g W ∧ Letters t ∧ t.length ≤ 1000 ∧ ∀ H', Same H H' → Q (optV ((srt W).filter fun w => w.isPrefixOf t).getLast?) H'
section
variable {P : Program} {w : World} {K : PySem.W.Frag} {mg : Str → Option Value} {base : Heap} {C CH : Addr}
theorem scLo : FnScope ["self", "line", "twig"] ["self", "line"] (defScope sLongest) := ⟨rfl, rfl, rfl, by decide +kernel, rfl, by decide +kernel, by decide +kernel⟩
theorem ok_longest {f fA : Addr} {fd fdA : FuncData} (F : Fun K "longest" "Hedge.longest" sLongest f fd) (T : PTxt K mg C CH) (m_path_along : Meth K CH "path_along" fA) (G_path_along : FnOk P w K mg base CX0 2 fA fdA ["self", "text"] (spPath C CH)) (b_path_along : Binds K fdA ["self", "text"] []) : FnOk P w K mg base CX0 3 f fd ["self", "line"] (spLongest C CH) := by
 refine F.ok scLo (fun vs H Q E h => ?_) (fun cdv AA outer s H vs Q E hr h => ?_)
 ·obtain ⟨Z, g, W, t, rfl, _⟩ := h
  rfl
 ·obtain ⟨Z, g, W, t, rfl, hDay, hwl, hw, k⟩ := h
  have nd := scLo.nd
  have hr_path_along : Room 2 _ := hr
  obtain ⟨⟨N, hA, hD⟩, hnd, hwd⟩ := hDay
  obtain ⟨dg, y0, hg, hy0⟩ := hA.gt
  refine ⟨_, (pss_cons (ps_for PassesOwn.never rfl (pi_rev rfl T.reversed (pa_cons (pe_meth (pv 0) T.cl_Hedge m_path_along G_path_along hr_path_along b_path_along .nil pass0 (pa_cons (pv 1) pa_nil)) pa_nil)) (pg_name (i := 2) nd rfl (Or.inl rfl)) (pss_one (ps_if (pt_val (pe_fld (pv 2) rfl)) (pss_one (ps_ret (pe_fld (pv 2) rfl))) pss_nil)))
   (pss_one (ps_ret pe_non))), ?_⟩
  refine ⟨_, rfl, g, dg, _, rfl, hg, root_no (by decide +kernel), _, rfl, Z, g, N, _, _, t, rfl, hA, hwl, hw, fun k' l H1 hk hN hlast hl e sm => ?_⟩
  refine ⟨l, _, rfl, SqL.of e, for_rev (K := K) (fun i σ' H' => ∃ v : Option V, σ' = [some (.ref g), some (sv t), v] ∧ H' = H1 ∧ ∀ j, k' + 1 - i ≤ j → j ≤ k' → t.take j ∉ W) ⟨none, rfl, rfl, fun j h1 h2 => by omega⟩ ?_ ?_ ?_⟩
  ·rintro i σ' H' _ ⟨v, rfl, rfl, _⟩
   exact SqL.of e
  ·rintro i x σ' H' hi hx ⟨v, rfl, rfl, hno⟩
   rw [pathV_len] at hi hx
   obtain ⟨j, hj⟩ : ∃ j, k' - i = j := ⟨_, rfl⟩
   have ej : k' + 1 - 1 - i = j := by omega
   rw [ej, pathV_get (by omega)] at hx
   obtain ⟨y, hy⟩ := Option.isSome_iff_exists.mp (hN j (by omega))
   have ex : x = V.ref y.p := by
    rw [A_some hy] at hx
    exact (Option.some.inj hx).symm
   subst ex
   obtain ⟨hp, zp, zd, ks, hd, ndk, hm⟩ := (hA.same sm).tw _ y hy
   refine ⟨_, rfl, y.p, C, y.x, _, _, rfl, hp, T.cl_Twig, T.nH, f_here .., _, rfl, ?_⟩
   refine ite2 (fun ht => ?_) (fun hf => ?_)
   ·have hmem : t.take j ∈ W := of_decide_eq_true ht
    refine ⟨_, rfl, y.p, C, y.x, _, _, rfl, hp, T.cl_Twig, T.nT, f_text .., ?_⟩
    have := k H' sm
    rw [longest_eq hmem (by omega) fun i' h1 h2 => ?_] at this
    ·exact this
    ·rcases Nat.lt_or_ge k' i' with z | z
     ·exact no_more hD hlast z h2
     ·exact hno i' (by omega) z
   ·refine ⟨_, rfl, rfl, fun j' h1 h2 => ?_⟩
    rcases Nat.lt_or_ge j j' with z | z
    ·exact hno j' (by omega) h2
    ·have : j' = j := by omega
     rw [this]
     exact fun z => hf (decide_eq_true z)
  ·rintro σ' H' ⟨v, rfl, rfl, hno⟩
   have := k H' sm
   rw [longest_no fun i hi => ?_] at this
   ·exact this
   ·rcases Nat.lt_or_ge k' i with z | z
    ·exact no_more hD hlast z hi
    ·exact hno i (by rw [pathV_len]; omega) z
end
abbrev sOrder : Stmt := top 3
abbrev sWords : Stmt := inClass sHedge 4
structure WTxt (mg : Str → Option Value) (fO : Addr) : Prop where
 in_order : mg "in_order" = some (.ref fO)
 sorted : mg "sorted" = none
def spOrder (C CH : Addr) : Sp := fun vs H Q _ => ∃ (Z : Addr → Prop) (g : Addr) (N : NM) (hr : List Nat → Bool) (mn : List Nat → Nat) (t : List Nat) (y : Tw), vs = [.ref y.p] ∧ HedAt C CH Z H g N hr mn ∧ N t = some y ∧ (preN N t).length ≤ 100000 ∧
 ∀ l H', H l = none → H' l = some (.lst ((preN N t).map (A N))) → Same H H' → Q (.ref l) H'
def spWords (C CH : Addr) : Sp := fun vs H Q _ => ∃ (Z : Addr → Prop) (g : Addr) (W : List (List Nat)) (t : List Nat), vs = [.ref g, sv t] ∧ DayAt C CH Z H g W ∧ W.length ≤ 450 ∧ Letters t ∧ t.length ≤ 110 ∧
 ∀ l H', H l = none → H' l = some (.lst (((srt W).filter fun w => t.isPrefixOf w).map sv)) → Same H H' → Q (.ref l) H'
section
variable {P : Program} {w : World} {K : PySem.W.Frag} {mg : Str → Option Value} {base : Heap} {C CH : Addr}
theorem scIO : FnScope ["first", "found", "to_come", "twig", "letter"] ["first"] (defScope sOrder) := ⟨rfl, rfl, rfl, by decide +kernel, rfl, by decide +kernel, by decide +kernel⟩
theorem ok_order {f fO fF : Addr} {fd fdF : FuncData} (F : Fun K "in_order" "in_order" sOrder f fd) (T : PTxt K mg C CH) (TW : WTxt mg fO) (m_follow : Meth K C "follow" fF) (FF : Fun K "follow" "Twig.follow" sFollow fF fdF) (b_follow : Binds K fdF ["self", "letter"] []) : FnOk P w K mg base CX0 2 f fd ["first"] (spOrder C CH) := by
 have G_follow : FnOk P w K mg base CX0 1 fF fdF ["self", "letter"] (spFollow C) := ok_follow FF T
 refine F.ok scIO (fun vs H Q E h => ?_) (fun cdv AA outer s H vs Q E hr h => ?_)
 ·obtain ⟨Z, g, N, hr', mn, t, y, rfl, _⟩ := h
  rfl
 ·obtain ⟨Z, g, N, hr', mn, t, y, rfl, hA, ht, hbig, k⟩ := h
  have nd := scIO.nd
  have hr_follow : Room 1 _ := hr
  have hsz := sizeLine_eq
  refine ⟨_, (pss_cons (ps_set (i := 1) nd rfl (Or.inl rfl) (pe_lst pa_nil))
   (pss_cons (ps_set (i := 2) nd rfl (Or.inl rfl) (pe_lst (pa_cons (pv 0) pa_nil)))
   (pss_cons (ps_while PassesOwn.never (pt_truth (pv 2) (fun _ => rfl)) (pss_cons (ps_set (i := 3) nd rfl (Or.inl rfl) (pe_bm0 PySem.F.plainAttrs_list PySem.F.slot_list_pop PySem.F.type_list_pop mt_pop (pv 2)))
   (pss_cons (ps_expr (pe_bm PySem.F.plainAttrs_list PySem.F.slot_list_append PySem.F.type_list_append mt_append (pv 1) (pa_cons (pv 3) pa_nil)))
   (pss_one (ps_for PassesOwn.never rfl (pi_list (pe_sortD rfl rfl TW.sorted (pe_fld (pv 3) rfl))) (pg_name (i := 4) nd rfl (Or.inl rfl)) (pss_one (ps_expr (pe_bm PySem.F.plainAttrs_list PySem.F.slot_list_append PySem.F.type_list_append mt_append (pv 2) (pa_cons (pe_meth (pv 3) T.cl_Twig m_follow G_follow hr_follow b_follow .nil pass0 (pa_cons (pv 4) pa_nil)) pa_nil)))))))))
   (pss_one (ps_ret (pv 1)))))), ?_⟩
  refine ⟨Nat.zero_le _, fun fo hfo => ?_⟩
  refine ⟨_, rfl, (by show 1 ≤ _; omega), fun tc htc => ?_⟩
  have nft : fo ≠ tc := ne_of_none upd_same htc
  have htc0 : H tc = none := by
   rw [upd_ne nft.symm] at htc
   exact htc
  have s1 : Same H (upd (upd H fo (.lst [])) tc (.lst [V.ref y.p])) := fun b o e => by
   rw [upd_ne (ne_of_none e htc0), upd_ne (ne_of_none e hfo)]
   exact e
  refine ⟨fun m σ' H' => ∃ (Fs Ss : List (List Nat)) (v3 v4 : Option V), m = (Ss.reverse.flatMap (preN N)).length ∧ σ' = [some (.ref y.p), some (.ref fo), some (.ref tc), v3, v4] ∧ H' fo = some (.lst (Fs.map (A N))) ∧ H' tc = some (.lst (Ss.map (A N))) ∧
   Fs ++ Ss.reverse.flatMap (preN N) = preN N t ∧ (∀ u ∈ Ss, (N u).isSome = true) ∧ Same H H', ⟨_, [], [t], none, none, rfl, rfl, ?_, ?_, ?_, ?_, s1⟩, ?_⟩
  ·rw [upd_ne nft]
   exact upd_same
  ·rw [upd_same]
   show some (HO.lst [V.ref y.p]) = some (HO.lst [A N t])
   rw [A_some ht]
  ·simp
  ·intro u hu
   rw [List.mem_singleton.mp hu, ht]
   rfl
  ·rintro m σ' H' ⟨Fs, Ss, v3, v4, rfl, rfl, e1, e2, e3, e4, sm⟩
   have hFl : Fs.length ≤ 100000 := by
    have := congrArg List.length e3
    rw [List.length_append] at this
    omega
   have hSl : Ss.length ≤ 100000 := by
    have h1 := congrArg List.length e3
    have h2 := flat_ge N Ss.reverse
    rw [List.length_append] at h1
    rw [List.length_reverse] at h2
    omega
   refine ⟨_, rfl, _, .inl ⟨_, SqL.of e2, rfl⟩, ?_⟩
   rcases List.eq_nil_or_concat Ss with e | ⟨S', u, e⟩
   ·subst e
    refine iteF ⟨_, rfl, ?_⟩
    have : Fs = preN N t := by simpa using e3
    rw [this] at e1
    exact k fo H' hfo e1 sm
   ·rw [List.concat_eq_append] at e
    subst e
    have hne : (!((S' ++ [u]).map (A N)).isEmpty) = true := by simp
    rw [hne]
    refine iteT ⟨fun σ2 H2 => ∃ m', m' < ((S' ++ [u]).reverse.flatMap (preN N)).length ∧ ∃ (Fs Ss : List (List Nat)) (v3 v4 : Option V), m' = (Ss.reverse.flatMap (preN N)).length ∧ σ2 = [some (.ref y.p), some (.ref fo), some (.ref tc), v3, v4] ∧ H2 fo = some (.lst (Fs.map (A N))) ∧ H2 tc = some (.lst (Ss.map (A N))) ∧
     Fs ++ Ss.reverse.flatMap (preN N) = preN N t ∧ (∀ u ∈ Ss, (N u).isSome = true) ∧ Same H H2, fun _ _ z => z, ?_⟩
    obtain ⟨x, hx⟩ := Option.isSome_iff_exists.mp (e4 u (by simp))
    have hu : exN N u = true := e4 u (by simp)
    have hlast : ((S' ++ [u]).map (A N))[((S' ++ [u]).map (A N)).length - 1]? = some (V.ref x.p) := by
     rw [List.map_append, List.length_append, List.length_map]
     show (S'.map (A N) ++ [A N u])[S'.length + 1 - 1]? = _
     rw [Nat.add_sub_cancel, List.getElem?_append_right (by rw [List.length_map]; omega), List.length_map, Nat.sub_self, A_some hx]
     rfl
    have hdrop : ((S' ++ [u]).map (A N)).dropLast = S'.map (A N) := by
     rw [List.map_append]
     exact List.dropLast_concat
    refine ⟨_, rfl, .inl ⟨rfl, _, SqL.of e2⟩, tc, _, V.ref x.p, rfl, rfl, e2, hlast, ?_⟩
    rw [hdrop]
    have sA : Same H (upd H' tc (.lst (S'.map (A N)))) := fun b o q => by
     rw [upd_ne (ne_of_none q htc0)]
     exact sm _ _ q
    have e1A : (upd H' tc (.lst (S'.map (A N)))) fo = some (.lst (Fs.map (A N))) := by
     rw [upd_ne nft]
     exact e1
    refine ⟨_, rfl, .inl ⟨rfl, _, SqL.of e1A⟩, _, rfl, fo, _, _, rfl, rfl, e1A, by rw [List.length_map]; omega, ?_⟩
    have sB : Same H (upd (upd H' tc (.lst (S'.map (A N)))) fo (.lst (Fs.map (A N) ++ [V.ref x.p]))) := fun b o q => by
     rw [upd_ne (ne_of_none q hfo)]
     exact sA _ _ q
    obtain ⟨hp, zp, zd, ks, hd, ndk, hm⟩ := (hA.same sB).tw _ x hx
    have hpm : ks.Perm (kidsL (exN N) u) := (hA.same sB).perm ndk hm
    refine ⟨_, rfl, x.p, C, x.x, _, _, rfl, hp, T.cl_Twig, T.nL, f_longer .., x.d, _, ks.map (fun c => [c]), rfl, hd, ?_, by rw [List.length_map]; have := hA.few ndk hm; omega, fun ls' hperm hpw q hq => ?_⟩
    ·unfold kv
     rw [List.map_map, List.map_map]
     rfl
    ·have els := kids_down hpm hperm hpw
     subst els
     have nfq : fo ≠ q := ne_of_none upd_same hq
     have ntq : tc ≠ q := ne_of_none (by rw [upd_ne nft.symm]; exact upd_same) hq
     have hq0 : H q = none := by
      cases z : H q with
      | none => rfl
      | some o =>
       rw [sB _ _ z] at hq
       cases hq
     have hkl : ((kidsL (exN N) u).reverse.map fun c => [c]).length ≤ 26 := by
      rw [List.length_map, List.length_reverse]
      exact kids_le _ _
     refine ⟨q, rfl, ⟨_, SqL.of upd_same⟩, for_list (K := K) (a := q) (xs := ((kidsL (exN N) u).reverse.map fun c => [c]).map sv) (fun i σ2 H2 => ∃ v4 : Option V, σ2 = [some (.ref y.p), some (.ref fo), some (.ref tc), some (.ref x.p), v4] ∧ H2 fo = some (.lst ((Fs ++ [u]).map (A N))) ∧
      H2 tc = some (.lst ((S' ++ ((kidsL (exN N) u).reverse.take i).map fun c => u ++ [c]).map (A N))) ∧ H2 q = some (.lst (((kidsL (exN N) u).reverse.map fun c => [c]).map sv)) ∧ Same H H2) ?_ ?_ ?_ ?_⟩
     ·refine ⟨_, rfl, ?_, ?_, upd_same, fun b o z => ?_⟩
      ·rw [upd_ne nfq, upd_same, List.map_append]
       show _ = some (HO.lst (_ ++ [A N u]))
       rw [A_some hx]
      ·rw [upd_ne ntq, upd_ne nft.symm, upd_same]
       simp
      ·rw [upd_ne (ne_of_none z hq0)]
       exact sB _ _ z
     ·rintro i σ2 H2 _ ⟨v4', rfl, _, _, f3, _⟩
      exact SqL.of f3
     ·rintro i z σ2 H2 hz ⟨v4', rfl, f1, f2, f3, sm2⟩
      obtain ⟨l, hl, rfl⟩ := get_sv hz
      obtain ⟨c, hc, rfl⟩ : ∃ c, (kidsL (exN N) u).reverse[i]? = some c ∧ l = [c] := by
       rw [List.getElem?_map] at hl
       cases e : (kidsL (exN N) u).reverse[i]? with
       | none => rw [e] at hl; cases hl
       | some c => rw [e] at hl; exact ⟨c, rfl, (Option.some.inj hl).symm⟩
      have hil : i < 26 := by
       have := (List.getElem?_eq_some_iff.mp hc).1
       rw [List.length_reverse] at this
       have := kids_le (exN N) u
       omega
      have hck : c ∈ kidsL (exN N) u := List.mem_reverse.mp (List.mem_of_getElem? hc)
      have hcs : c ∈ ks := hpm.mem_iff.mpr hck
      obtain ⟨hp2, _, _, ks2, hd2, nd2, hm2⟩ := (hA.same sm2).tw _ x hx
      have hcs2 : c ∈ ks2 := (hm2 c).mpr ((hm c).mp hcs)
      have hS2 : (S' ++ ((kidsL (exN N) u).reverse.take i).map fun c => u ++ [c]).length ≤ 100100 := by
       rw [List.length_append, List.length_map, List.length_take]
       rw [List.length_append] at hSl
       omega
      refine ⟨_, rfl, .inl ⟨rfl, _, SqL.of f2⟩, _, rfl, x.p, x.x, _, rfl, hp2, f_no _ _ _ _ (by decide +kernel) (by decide +kernel) (by decide +kernel) (by decide +kernel), _, rfl, ?_⟩
      refine ⟨x.p, x.x, x.d, _, _, _, _, S [c], rfl, hp2, hd2, ?_⟩
      have ev : (valV (kv N u ks2) (Sum.inr (S [c]) : Key)).getD .non = A N (u ++ [c]) := by
       have e1 : valV (kv N u ks2) (Sum.inr (S [c]) : Key) = _ := valV_kv N u c ks2
       rw [e1, if_pos hcs2]
       rfl
      rw [ev]
      refine ⟨tc, _, _, rfl, rfl, f2, by rw [List.length_map]; omega, ?_⟩
      refine ⟨_, rfl, by rw [upd_ne nft]; exact f1, ?_, by rw [upd_ne ntq.symm]; exact f3, fun b o z => ?_⟩
      ·rw [upd_same, List.take_succ, hc]
       show _ = some (HO.lst _)
       simp
      ·rw [upd_ne (ne_of_none z htc0)]
       exact sm2 _ _ z
     ·rintro σ2 H2 ⟨v4', rfl, f1, f2, f3, sm2⟩
      have ell : (((kidsL (exN N) u).reverse.map fun c => [c]).map sv).length = (kidsL (exN N) u).reverse.length := by simp
      rw [ell, List.take_length] at f2
      have er : (S' ++ (kidsL (exN N) u).reverse.map fun c => u ++ [c]).reverse.flatMap (preN N) = ((kidsL (exN N) u).flatMap fun c => preN N (u ++ [c])) ++ S'.reverse.flatMap (preN N) := by
       rw [List.reverse_append, ← List.map_reverse, List.reverse_reverse, List.flatMap_append, List.flatMap_map]
      have eu := preN_step hA.dom hu
      have e3' : Fs ++ (preN N u ++ S'.reverse.flatMap (preN N)) = preN N t := by
       rw [← e3, List.reverse_append]
       simp
      refine ⟨_, ?_, Fs ++ [u], _, _, _, rfl, rfl, f1, f2, ?_, fun v hv => ?_, sm2⟩
      ·rw [er, List.reverse_append]
       show _ < ((u :: S'.reverse).flatMap (preN N)).length
       rw [List.flatMap_cons, eu, List.length_append, List.length_append, List.length_cons]
       omega
      ·rw [er, ← e3', eu]
       simp
      ·rcases List.mem_append.mp hv with z | z
       ·exact e4 v (List.mem_append_left _ z)
       ·obtain ⟨c, hc, rfl⟩ := List.mem_map.mp z
        exact (mem_kids.mp (List.mem_reverse.mp hc)).2
theorem scWW : FnScope ["self", "text", "last"] ["self", "text"] (defScope sWords) := ⟨rfl, rfl, rfl, by decide +kernel, rfl, by decide +kernel, by decide +kernel⟩
theorem ok_words {f fA fO : Addr} {fd fdA fdO : FuncData} (F : Fun K "words_with" "Hedge.words_with" sWords f fd) (T : PTxt K mg C CH) (TW : WTxt mg fO) (m_path_along : Meth K CH "path_along" fA) (G_path_along : FnOk P w K mg base CX0 2 fA fdA ["self", "text"] (spPath C CH)) (b_path_along : Binds K fdA ["self", "text"] [])
  (F_in_order : Fun K "in_order" "in_order" sOrder fO fdO) (G_in_order : FnOk P w K mg base CX0 2 fO fdO ["first"] (spOrder C CH)) (b_in_order : Binds K fdO ["first"] []) : FnOk P w K mg base CX0 6 f fd ["self", "text"] (spWords C CH) := by
 refine FnOk.mono (j := 3) ?_ (by decide)
 refine F.ok scWW (fun vs H Q E h => ?_) (fun cdv AA outer s H vs Q E hr h => ?_)
 ·obtain ⟨Z, g, W, t, rfl, _⟩ := h
  rfl
 ·obtain ⟨Z, g, W, t, rfl, hDay, hWl, hwl, hw, k⟩ := h
  have nd := scWW.nd
  have hr_path_along : Room 2 _ := hr
  have hr_in_order : Room 2 _ := hr
  have hsz := sizeLine_eq
  obtain ⟨⟨N, hA, hD⟩, hnd, hwd⟩ := hDay
  obtain ⟨dg, y0, hg, hy0⟩ := hA.gt
  refine ⟨_, (pss_cons (ps_set (i := 2) nd rfl (Or.inl rfl) (pe_ix ix_list (pe_meth (pv 0) T.cl_Hedge m_path_along G_path_along hr_path_along b_path_along .nil pass0 (pa_cons (pv 1) pa_nil)) (pe_un un_neg pe_int) (fun _ _ => rfl)))
   (pss_cons (ps_if (pt_cmpR op_ne (pe_fld (pv 2) rfl) (pv 1) (nomark _)) (pss_one (ps_ret (pe_lst pa_nil))) pss_nil)
   (pss_one (ps_ret (pe_lc (defScope sWords) [] []  rfl rfl (by decide +kernel) trivial (pi_list (pe_call G_in_order hr_in_order rfl TW.in_order F_in_order.kp b_in_order .nil pass0 (pa_cons (pv 2) pa_nil))) (fun _ _ _ _ _ => pif_one (pt_val (pe_fldK K rfl (pv 0) rfl))) (fun _ _ _ _ _ => (pe_fldK K rfl (pv 0) rfl))))))), ?_⟩
  refine ⟨_, rfl, g, dg, _, rfl, hg, root_no (by decide +kernel), _, rfl, Z, g, N, _, _, t, rfl, hA, hwl, by omega, fun k' l H' hk hN hlast hl e sm => ?_⟩
  obtain ⟨y, hy⟩ := Option.isSome_iff_exists.mp (hN k' (Nat.le_refl _))
  obtain ⟨hp, zp, zd, ks, hd, ndk, hm⟩ := (hA.same sm).tw _ y hy
  refine ⟨_, rfl, l, _, _, V.ref y.p, rfl, rfl, SqL.of e, (by rw [← A_some hy]; exact pathV_last N t k'), ?_⟩
  refine ⟨_, rfl, y.p, C, y.x, _, _, rfl, hp, T.cl_Twig, T.nT, f_text .., _, rfl, rfl, _, rfl, ?_⟩
  rw [dec_S]
  by_cases ek : k' = t.length
  ·subst ek
   have et : t.take t.length = t := List.take_length
   rw [et] at hp hy
   rw [decide_eq_true et]
   refine iteF ?_
   have hex : ∀ u, exN N u = true ↔ u = [] ∨ 0 < cnt W u := hD
   have hty : exN N t = true := by
    show (N t).isSome = true
    rw [hy]
    rfl
   have hfew : (pre (exN N) (110 - t.length) t).length ≤ 1 + 110 * W.length := pre_few hA.dom (fun w hw => (hwd w hw).2) hex hty
   refine ⟨_, rfl, Z, g, N, _, _, t, y, rfl, hA.same sm, hy, (by show (pre (exN N) (110 - t.length) t).length ≤ _; omega), fun lo H2 hlo hl2 sm2 => ?_⟩
   refine ⟨lo, rfl, ⟨_, SqL.of hl2⟩, lc_list (K := K) (a := lo) (xs := (preN N t).map (A N)) (fun i acc H3 => acc = (((preN N t).take i).filter fun u => decide (u ∈ W)).map sv ∧ H3 = H2) (by rw [List.length_map]; show (pre (exN N) (110 - t.length) t).length ≤ _; omega) ⟨rfl, rfl⟩ (fun i acc H3 h => ?_) (fun i acc H3 _ h => ?_) ?_ ?_⟩
   ·rw [h.1, List.length_map]
    exact Nat.le_trans (List.length_filter_le _ _) (List.length_take_le ..)
   ·rw [h.2]
    exact SqL.of hl2
   ·rintro i x acc H3 hx ⟨rfl, rfl⟩
    obtain ⟨u, hu, rfl⟩ : ∃ u, (preN N t)[i]? = some u ∧ x = A N u := by
     rw [List.getElem?_map] at hx
     cases e : (preN N t)[i]? with
     | none => rw [e] at hx; cases hx
     | some c => rw [e] at hx; exact ⟨c, rfl, (Option.some.inj hx).symm⟩
    have hum := (mem_pre hA.dom (n := 110 - t.length) (by omega) hty u).mp (List.mem_of_getElem? hu)
    obtain ⟨z, hz⟩ := Option.isSome_iff_exists.mp hum.2
    have hpz := (hA.same (sm.trans sm2)).tw _ z hz
    have tk : (preN N t).take (i + 1) = (preN N t).take i ++ [u] := by rw [List.take_succ, hu]; rfl
    refine ⟨_, rfl, z.p, C, z.x, _, _, A_some hz, hpz.1, T.cl_Twig, T.nH, f_here .., _, rfl, ?_⟩
    rw [tk, List.filter_append, List.map_append]
    by_cases hmem : u ∈ W
    ·refine iteD1 (decide_eq_true hmem) ?_
     refine ⟨_, rfl, z.p, C, z.x, _, _, A_some hz, hpz.1, T.cl_Twig, T.nT, f_text .., ?_, rfl⟩
     rw [List.filter_cons, if_pos (decide_eq_true hmem)]
     rfl
    ·refine iteD0 (decide_eq_false hmem) ⟨?_, rfl⟩
     rw [List.filter_cons, if_neg (by rw [decide_eq_false hmem]; decide)]
     simp
   ·rintro acc H3 ⟨rfl, rfl⟩ p hp3
    have el : (preN N t).take ((preN N t).map (A N)).length = preN N t := by rw [List.length_map, List.take_length]
    rw [el]
    have ew := pre_words hA.dom hnd hex hty
    have s3 : Same H (upd H3 p (.lst (((preN N t).filter fun u => decide (u ∈ W)).map sv))) := (sm.trans sm2).trans (same_new hp3)
    refine k p _ ((sm.trans sm2).free hp3) ?_ s3
    rw [upd_same]
    show some (HO.lst (((pre (exN N) (110 - t.length) t).filter fun u => decide (u ∈ W)).map sv)) = _
    rw [ew]
  ·have hlt : k' < t.length := by omega
   have hne : ¬ t.take k' = t := fun z => by
    have := congrArg List.length z
    rw [List.length_take] at this
    omega
   rw [decide_eq_false hne]
   refine iteT ⟨Nat.zero_le _, fun p hp3 => ?_⟩
   refine k p _ (sm.free hp3) ?_ (sm.trans (same_new hp3))
   rw [upd_same, none_with (cnt_none hD hlt (hlast.resolve_left ek))]
   rfl
end
abbrev sAheadOf : Stmt := inClass sTwig 7
abbrev sLetter : Stmt := inClass sTwig 8
abbrev sHAt : Stmt := inClass sHedge 6
structure MTxt (mg : Str → Option Value) : Prop where
 max : mg "max" = none
 sum : mg "sum" = none
 zip : mg "zip" = none
def Kids (C : Addr) (H : Hp) (N : NM) (t : List Nat) (ks : List Nat) (mf : Nat → Nat) : Prop := ∀ c ∈ ks, ∃ z hz, N (t ++ [c]) = some z ∧ H z.p = some (.ins C z.x (flds (t ++ [c]) hz (mf c) z.d))
def aheadF (h : Bool) (ks : List Nat) (mf : Nat → Nat) (c : Nat) : Nat := ind h + ((ks.filter fun y => decide (y < c)).map mf).sum
def spAheadOf (C : Addr) : Sp := fun vs H Q _ => ∃ (p dx d : Addr) (t : List Nat) (h : Bool) (m : Nat) (N : NM) (ks : List Nat) (mf : Nat → Nat) (c : Nat), vs = [.ref p, sv [c]] ∧ H p = some (.ins C dx (flds t h m d)) ∧ Rd H d (.dK (kv N t ks)) ∧ Kids C H N t ks mf ∧
 ∀ H', Same H H' → Q (.int (aheadF h ks mf c : Nat)) H'
def spLetter (C : Addr) : Sp := fun vs H Q _ => ∃ (p dx d : Addr) (t : List Nat) (h : Bool) (m : Nat) (N : NM) (ks : List Nat) (mf : Nat → Nat) (lf : Nat), vs = [.ref p, .int (lf : Int)] ∧ H p = some (.ins C dx (flds t h m d)) ∧ H d = some (.dK (kv N t ks)) ∧ ks.length ≤ 26 ∧ Kids C H N t ks mf ∧
 (∃ c ∈ ks, aheadF h ks mf c ≤ lf) ∧ ∀ c H', c ∈ ks → aheadF h ks mf c ≤ lf → (∀ x ∈ ks, aheadF h ks mf x ≤ lf → x ≤ c) → Same H H' → Q (sv [c]) H'
def spHAt (C CH : Addr) : Sp := fun vs H Q _ => ∃ (Z : Addr → Prop) (g : Addr) (W : List (List Nat)) (z : Int), vs = [.ref g, .int z] ∧ DayAt C CH Z H g W ∧ W.length ≤ 450 ∧ ∀ H', Same H H' → Q (optV (if 0 ≤ z then (srt W)[z.toNat]? else none)) H'
theorem lt1 (x c : Nat) : ([x] : List Nat) < [c] ↔ x < c := by
 rw [List.cons_lt_cons_iff]
 constructor
 ·rintro (z | ⟨_, z⟩)
  ·exact z
  ·exact absurd z (List.lt_irrefl _)
 ·exact .inl
section
variable {P : Program} {w : World} {K : PySem.W.Frag} {mg : Str → Option Value} {base : Heap} {C CH : Addr}
theorem scAO : FnScope ["self", "letter", "many", "other", "twig"] ["self", "letter"] (defScope sAheadOf) := ⟨rfl, rfl, rfl, by decide +kernel, rfl, by decide +kernel, by decide +kernel⟩
theorem ok_aheadof {f : Addr} {fd : FuncData} (F : Fun K "ahead_of" "Twig.ahead_of" sAheadOf f fd) (T : PTxt K mg C CH) : FnOk P w K mg base CX0 1 f fd ["self", "letter"] (spAheadOf C) := by
 refine F.ok scAO (fun vs H Q E h => ?_) (fun cdv AA outer s H vs Q E hr h => ?_)
 ·obtain ⟨p, dx, d, t, h, m, N, ks, mf, c, rfl, _⟩ := h
  rfl
 ·obtain ⟨p, dx, d, t, h, m, N, ks, mf, c, rfl, hp, rd, hz, k⟩ := h
  have nd := scAO.nd
  have dne : ∀ {b C' dx' fs}, H b = some (.ins C' dx' fs) → b ≠ d := fun {b C' dx' fs} e => by
   rintro rfl
   rcases rd with q | ⟨o, q⟩ <;> rw [e] at q <;> cases q
  refine ⟨_, (pss_consM (ps_set (i := 2) nd rfl (Or.inl rfl) (pe_ifExp (pt_val (pe_fld (pv 0) rfl)) pe_int pe_int))
   (pss_consT (ps_for PassesOwn.never rfl (pi_items (pe_fld (pv 0) rfl)) (pg_tup rfl (pgs_cons (pg_name (i := 3) nd rfl (Or.inl rfl)) (pgs_cons (pg_name (i := 4) nd rfl (Or.inl rfl)) pgs_nil))) (pss_one (ps_if (pt_cmpR op_ltN (pv 3) (pv 1) (nomark _)) (pss_one (ps_set (i := 2) nd rfl (Or.inl rfl) (pe_op op_add (pv 2) (pe_fld (pv 4) rfl)))) pss_nil)))
   (pss_one (ps_ret (pv 2))))), ?_⟩
  refine ⟨fun σ' H' => σ' = [some (.ref p), some (sv [c]), some (.int (ind h : Nat)), none, none] ∧ H' = H, ?_, ?_⟩
  ·rintro σ' H1 ⟨rfl, eH⟩
   have eH' := eH.symm
   subst eH'
   refine ⟨_, rfl, p, C, dx, _, _, rfl, hp, T.cl_Twig, T.nL, f_longer .., d, kv N t ks, rfl, ?_⟩
   rcases rd with hd | ⟨o, hd⟩
   ·refine .inl ⟨hd, fun o => for_items (fun i σ' H' => ∃ l u : Option V, σ' = [some (.ref p), some (sv [c]), some (.int ((ind h + (((ks.take i).filter fun y => decide (y < c)).map mf).sum : Nat) : Int)), l, u] ∧
    H' d = some (.frz o (.dK (kv N t ks))) ∧ ∀ b o', H b = some o' → b ≠ d → H' b = some o') ?_ ?_ ?_ ?_⟩
    ·exact ⟨none, none, rfl, upd_same, fun b o' e hb => by rw [upd_ne hb]; exact e⟩
    ·rintro i σ' H' _ ⟨l, u, rfl, e1, _⟩
     exact e1
    ·rintro i kv' b σ' H' hi hb ⟨l, u, rfl, e1, e3⟩
     obtain ⟨x, hx, rfl⟩ := kv_get hi
     have hxm : x ∈ ks := List.mem_of_getElem? hx
     obtain ⟨z, hz1, hN, hz2⟩ := hz x hxm
     have nzd : z.p ≠ d := dne hz2
     have nzb : z.p ≠ b := ne_of_none (e3 _ _ hz2 nzd) hb
     have hzb : (upd H' b (.tup [kV (key x), A N (t ++ [x])])) z.p = some (.ins C z.x (flds (t ++ [x]) hz1 (mf x) z.d)) := by rw [upd_ne nzb]; exact e3 _ _ hz2 nzd
     have tk : ks.take (i + 1) = ks.take i ++ [x] := by rw [List.take_succ, hx]; rfl
     have ndb : d ≠ b := ne_of_none e1 hb
     have keep : ∀ b' o', H b' = some o' → b' ≠ d → (upd H' b (.tup [kV (key x), A N (t ++ [x])])) b' = some o' := fun b' o' e hb' => by
      rw [upd_ne (ne_of_none (e3 _ _ e hb') hb)]
      exact e3 _ _ e hb'
     refine ⟨b, _, rfl, SqT.of upd_same, rfl, _, _, rfl, _, _, rfl, rfl, ?_⟩
     refine ⟨_, rfl, _, rfl, [x], [c], rfl, rfl, _, rfl, ?_⟩
     refine ite2 (fun hgt => ?_) (fun hle => ?_)
     ·have hlt : x < c := (lt1 x c).mp (of_decide_eq_true hgt)
      have ef : (ks.take (i + 1)).filter (fun y => decide (y < c)) = (ks.take i).filter (fun y => decide (y < c)) ++ [x] := by
       rw [tk, List.filter_append, List.filter_cons, if_pos (decide_eq_true hlt), List.filter_nil]
      refine ⟨_, rfl, _, rfl, z.p, C, z.x, _, _, A_some hN, hzb, T.cl_Twig, T.nM, f_many .., _, _, rfl, rfl, ?_⟩
      refine ⟨some (kV (key x)), some (A N (t ++ [x])), ?_, by rw [upd_ne ndb]; exact e1, keep⟩
      have es : ((ind h + (((ks.take (i + 1)).filter fun y => decide (y < c)).map mf).sum : Nat) : Int) = ((ind h + (((ks.take i).filter fun y => decide (y < c)).map mf).sum : Nat) : Int) + (mf x : Int) := by
       rw [ef, List.map_append, List.sum_append]
       simp
       omega
      rw [es]
      rfl
     ·have hlt : ¬ x < c := fun q => hle (decide_eq_true ((lt1 x c).mpr q))
      have ef : (ks.take (i + 1)).filter (fun y => decide (y < c)) = (ks.take i).filter (fun y => decide (y < c)) := by
       rw [tk, List.filter_append, List.filter_cons, if_neg (by rw [decide_eq_false hlt]; decide), List.filter_nil, List.append_nil]
      exact ⟨some (kV (key x)), some (A N (t ++ [x])), by rw [ef]; rfl, by rw [upd_ne ndb]; exact e1, keep⟩
    ·rintro σ' H' ⟨l, u, rfl, e1, e3⟩
     rw [kv_len, List.take_length]
     refine ⟨upd H' d (.dK (kv N t ks)), .inr ⟨d, o, _, e1, fun o' u' z => ?_, rfl⟩, ?_⟩
     ·have z' : H d = some (HO.frz o' u') := z
      rw [hd] at z'
      cases z'
     ·refine ⟨_, rfl, k _ fun b o' e => ?_⟩
      by_cases hbd : b = d
      ·subst hbd
       rw [hd] at e
       rw [upd_same, e]
      ·rw [upd_ne hbd]
       exact e3 _ _ e hbd
   ·refine .inr ⟨o, hd, for_items (fun i σ' H' => ∃ l u : Option V, σ' = [some (.ref p), some (sv [c]), some (.int ((ind h + (((ks.take i).filter fun y => decide (y < c)).map mf).sum : Nat) : Int)), l, u] ∧
    H' d = some (.frz o (.dK (kv N t ks))) ∧ ∀ b o', H b = some o' → b ≠ d → H' b = some o') ?_ ?_ ?_ ?_⟩
    ·exact ⟨none, none, rfl, hd, fun b o' e _ => e⟩
    ·rintro i σ' H' _ ⟨l, u, rfl, e1, _⟩
     exact e1
    ·rintro i kv' b σ' H' hi hb ⟨l, u, rfl, e1, e3⟩
     obtain ⟨x, hx, rfl⟩ := kv_get hi
     have hxm : x ∈ ks := List.mem_of_getElem? hx
     obtain ⟨z, hz1, hN, hz2⟩ := hz x hxm
     have nzd : z.p ≠ d := dne hz2
     have nzb : z.p ≠ b := ne_of_none (e3 _ _ hz2 nzd) hb
     have hzb : (upd H' b (.tup [kV (key x), A N (t ++ [x])])) z.p = some (.ins C z.x (flds (t ++ [x]) hz1 (mf x) z.d)) := by rw [upd_ne nzb]; exact e3 _ _ hz2 nzd
     have tk : ks.take (i + 1) = ks.take i ++ [x] := by rw [List.take_succ, hx]; rfl
     have ndb : d ≠ b := ne_of_none e1 hb
     have keep : ∀ b' o', H b' = some o' → b' ≠ d → (upd H' b (.tup [kV (key x), A N (t ++ [x])])) b' = some o' := fun b' o' e hb' => by
      rw [upd_ne (ne_of_none (e3 _ _ e hb') hb)]
      exact e3 _ _ e hb'
     refine ⟨b, _, rfl, SqT.of upd_same, rfl, _, _, rfl, _, _, rfl, rfl, ?_⟩
     refine ⟨_, rfl, _, rfl, [x], [c], rfl, rfl, _, rfl, ?_⟩
     refine ite2 (fun hgt => ?_) (fun hle => ?_)
     ·have hlt : x < c := (lt1 x c).mp (of_decide_eq_true hgt)
      have ef : (ks.take (i + 1)).filter (fun y => decide (y < c)) = (ks.take i).filter (fun y => decide (y < c)) ++ [x] := by
       rw [tk, List.filter_append, List.filter_cons, if_pos (decide_eq_true hlt), List.filter_nil]
      refine ⟨_, rfl, _, rfl, z.p, C, z.x, _, _, A_some hN, hzb, T.cl_Twig, T.nM, f_many .., _, _, rfl, rfl, ?_⟩
      refine ⟨some (kV (key x)), some (A N (t ++ [x])), ?_, by rw [upd_ne ndb]; exact e1, keep⟩
      have es : ((ind h + (((ks.take (i + 1)).filter fun y => decide (y < c)).map mf).sum : Nat) : Int) = ((ind h + (((ks.take i).filter fun y => decide (y < c)).map mf).sum : Nat) : Int) + (mf x : Int) := by
       rw [ef, List.map_append, List.sum_append]
       simp
       omega
      rw [es]
      rfl
     ·have hlt : ¬ x < c := fun q => hle (decide_eq_true ((lt1 x c).mpr q))
      have ef : (ks.take (i + 1)).filter (fun y => decide (y < c)) = (ks.take i).filter (fun y => decide (y < c)) := by
       rw [tk, List.filter_append, List.filter_cons, if_neg (by rw [decide_eq_false hlt]; decide), List.filter_nil, List.append_nil]
      exact ⟨some (kV (key x)), some (A N (t ++ [x])), by rw [ef]; rfl, by rw [upd_ne ndb]; exact e1, keep⟩
    ·rintro σ' H' ⟨l, u, rfl, e1, e3⟩
     rw [kv_len, List.take_length]
     refine ⟨H', .inl rfl, _, rfl, k _ fun b o' e => ?_⟩
     by_cases hbd : b = d
     ·subst hbd
      rw [hd] at e
      rw [e1, e]
     ·exact e3 _ _ e hbd
  ·refine ⟨_, rfl, p, C, dx, _, _, rfl, hp, T.cl_Twig, T.nH, f_here .., h, rfl, ?_⟩
   cases h with
   | true => exact iteT ⟨rfl, rfl⟩
   | false => exact iteF ⟨rfl, rfl⟩
end
section
variable {P : Program} {w : World} {K : PySem.W.Frag} {mg : Str → Option Value} {base : Heap} {C CH : Addr}
theorem scLA : FnScope ["self", "place"] ["self", "place"] (defScope sLetter) := ⟨rfl, rfl, rfl, by decide +kernel, rfl, by decide +kernel, by decide +kernel⟩
theorem ok_letter {f fO : Addr} {fd fdO : FuncData} (F : Fun K "letter_at" "Twig.letter_at" sLetter f fd) (T : PTxt K mg C CH) (TM : MTxt mg) (m_ahead_of : Meth K C "ahead_of" fO) (FO : Fun K "ahead_of" "Twig.ahead_of" sAheadOf fO fdO) (b_ahead_of : Binds K fdO ["self", "letter"] []) : FnOk P w K mg base CX0 2 f fd ["self", "place"] (spLetter C) := by
 have G_ahead_of : FnOk P w K mg base CX0 1 fO fdO ["self", "letter"] (spAheadOf C) := ok_aheadof FO T
 refine F.ok scLA (fun vs H Q E h => ?_) (fun cdv AA outer s H vs Q E hr h => ?_)
 ·obtain ⟨p, dx, d, t, h, m, N, ks, mf, lf, rfl, _⟩ := h
  rfl
 ·obtain ⟨p, dx, d, t, h, m, N, ks, mf, lf, rfl, hp, hd, hkl, hz, hex, k⟩ := h
  have nd := scLA.nd
  have hr_ahead_of : Room 1 _ := hr
  have npd : p ≠ d := ne_of hp hd (by intro z; cases z)
  refine ⟨_, (pss_one (ps_ret (pe_thaw (pe_callB (call_maxS rfl) rfl TM.max boot_max_ (pa_cons (pe_lc (defScope sLetter) [1, 0] ["place", "self"]  rfl rfl (by decide +kernel) ⟨⟨rfl, rfl, rfl⟩, ⟨⟨rfl, rfl, rfl⟩, trivial⟩⟩ (pi_dict (pe_fld (pv 0) rfl)) (fun _ _ _ _ _ => pif_one (pt_cmpR op_le (pe_meth (pv 1) T.cl_Twig m_ahead_of G_ahead_of hr_ahead_of b_ahead_of .nil pass0 (pa_cons (pv 2) pa_nil)) (pv 0) (nomark _))) (fun _ _ _ _ _ => (pv 2))) pa_nil))))), ?_⟩
  refine ⟨_, rfl, p, C, dx, _, _, rfl, hp, T.cl_Twig, T.nL, f_longer .., d, kv N t ks, rfl, .inl ⟨hd, fun o => ?_⟩⟩
  refine lc_keys (fun i acc H' => acc = (((ks.take i).filter fun c => decide (aheadF h ks mf c ≤ lf)).map fun c => sv [c]) ∧ H' d = some (.frz o (.dK (kv N t ks))) ∧ ∀ b o', H b = some o' → b ≠ d → H' b = some o') (by rw [kv_len]; omega) ⟨rfl, upd_same, fun b o' e hb => by rw [upd_ne hb]; exact e⟩
   (fun i acc H' q => by rw [q.1, List.length_map]; exact Nat.le_trans (List.length_filter_le _ _) (List.length_take_le ..)) (fun i acc H' _ q => q.2.1) ?_ ?_
  ·rintro i kv' acc H' hi ⟨rfl, e1, e3⟩
   obtain ⟨c, hc, rfl⟩ := kv_get hi
   have tk : ks.take (i + 1) = ks.take i ++ [c] := by rw [List.take_succ, hc]; rfl
   have hp' := e3 _ _ hp npd
   refine ⟨_, rfl, p, dx, _, rfl, hp', f_no _ _ _ _ (by decide +kernel) (by decide +kernel) (by decide +kernel) (by decide +kernel), _, rfl, ?_⟩
   refine ⟨p, dx, d, t, h, m, N, ks, mf, c, rfl, hp', .inr ⟨o, e1⟩, fun x hx => ?_, fun H2 sm => ?_⟩
   ·obtain ⟨z, hz1, hN, hz2⟩ := hz x hx
    exact ⟨z, hz1, hN, e3 _ _ hz2 (ne_of hz2 hd (by intro z; cases z))⟩
   ·refine ⟨_, rfl, _, _, rfl, rfl, _, rfl, ?_⟩
    have keep : ∀ b o', H b = some o' → b ≠ d → H2 b = some o' := fun b o' e hb => sm _ _ (e3 _ _ e hb)
    refine ite2 (fun hgt => ?_) (fun hle => ?_)
    ·have hle : aheadF h ks mf c ≤ lf := by
      have := of_decide_eq_true hgt
      omega
     refine ⟨_, rfl, ?_, sm _ _ e1, keep⟩
     rw [tk, List.filter_append, List.filter_cons, if_pos (decide_eq_true hle), List.filter_nil, List.map_append]
     rfl
    ·have hgt : ¬ aheadF h ks mf c ≤ lf := fun q => hle (decide_eq_true (by omega))
     refine ⟨?_, sm _ _ e1, keep⟩
     rw [tk, List.filter_append, List.filter_cons, if_neg (by rw [decide_eq_false hgt]; decide), List.filter_nil, List.append_nil]
  ·rintro acc H' ⟨rfl, e1, e3⟩ q hq
   rw [kv_len, List.take_length]
   have emap : ((ks.filter fun c => decide (aheadF h ks mf c ≤ lf)).map fun c => sv [c]) = ((ks.filter fun c => decide (aheadF h ks mf c ≤ lf)).map fun c => [c]).map sv := by
    rw [List.map_map]
    rfl
   rw [emap]
   have ndq : d ≠ q := ne_of_none e1 hq
   refine ⟨q, _, rfl, SqL.of upd_same, ?_, fun l hl hmax => ?_⟩
   ·obtain ⟨c, hc, hle⟩ := hex
    intro z
    have : [c] ∈ ((ks.filter fun c => decide (aheadF h ks mf c ≤ lf)).map fun c => [c]) := List.mem_map.mpr ⟨c, List.mem_filter.mpr ⟨hc, decide_eq_true hle⟩, rfl⟩
    rw [z] at this
    cases this
   ·obtain ⟨c, hc, rfl⟩ := List.mem_map.mp hl
    obtain ⟨hck, hcl⟩ := List.mem_filter.mp hc
    refine ⟨_, .inr ⟨d, o, _, by rw [upd_ne ndq]; exact e1, fun o' u' z => ?_, rfl⟩, k c _ hck (of_decide_eq_true hcl) (fun x hx hxl => ?_) fun b o' e => ?_⟩
    ·have z' : H d = some (HO.frz o' u') := z
     rw [hd] at z'
     cases z'
    ·have := hmax [x] (List.mem_map.mpr ⟨x, List.mem_filter.mpr ⟨hx, decide_eq_true hxl⟩, rfl⟩)
     rw [lt1] at this
     omega
    ·by_cases hbd : b = d
     ·subst hbd
      rw [hd] at e
      rw [upd_same, e]
     ·rw [upd_ne hbd, upd_ne (ne_of_none (e3 _ _ e hbd) hq)]
      exact e3 _ _ e hbd
theorem scAt : FnScope ["self", "place", "twig", "left", "letter"] ["self", "place"] (defScope sHAt) := ⟨rfl, rfl, rfl, by decide +kernel, rfl, by decide +kernel, by decide +kernel⟩
theorem ok_hat {f fO fL fF : Addr} {fd fdO fdL fdF : FuncData} (F : Fun K "at" "Hedge.at" sHAt f fd) (T : PTxt K mg C CH) (m_ahead_of : Meth K C "ahead_of" fO) (FO : Fun K "ahead_of" "Twig.ahead_of" sAheadOf fO fdO) (b_ahead_of : Binds K fdO ["self", "letter"] [])
  (m_letter_at : Meth K C "letter_at" fL) (G_letter_at : FnOk P w K mg base CX0 2 fL fdL ["self", "place"] (spLetter C)) (b_letter_at : Binds K fdL ["self", "place"] [])
  (m_follow : Meth K C "follow" fF) (FF : Fun K "follow" "Twig.follow" sFollow fF fdF) (b_follow : Binds K fdF ["self", "letter"] []) : FnOk P w K mg base CX0 5 f fd ["self", "place"] (spHAt C CH) := by
 have G_ahead_of : FnOk P w K mg base CX0 1 fO fdO ["self", "letter"] (spAheadOf C) := ok_aheadof FO T
 have G_follow : FnOk P w K mg base CX0 1 fF fdF ["self", "letter"] (spFollow C) := ok_follow FF T
 refine FnOk.mono (j := 3) ?_ (by decide)
 refine F.ok scAt (fun vs H Q E h => ?_) (fun cdv AA outer s H vs Q E hr h => ?_)
 ·obtain ⟨Z, g, W, z, rfl, _⟩ := h
  rfl
 ·obtain ⟨Z, g, W, z, rfl, hDay, hWl, k⟩ := h
  have nd := scAt.nd
  have hr_ahead_of : Room 1 _ := hr.mono (by decide)
  have hr_follow : Room 1 _ := hr.mono (by decide)
  have hr_letter_at : Room 2 _ := hr
  obtain ⟨⟨N, hA, hD⟩, hnd, hwd⟩ := hDay
  obtain ⟨dg, y0, hg, hy0⟩ := hA.gt
  obtain ⟨hp0, _⟩ := hA.tw _ y0 hy0
  have hall : cnt W [] = W.length := by
   unfold cnt
   rw [List.filter_eq_self.mpr fun w _ => by cases w <;> rfl]
  have hsl : (srt W).length = W.length := (srt_perm W).length_eq
  refine ⟨_, (pss_cons (ps_if (PW.pt (pw_or (pt_cmpR op_lt (pv 1) pe_int (nomark _)) (pw_or1 (pt_cmpR op_ge (pv 1) (pe_fld (pe_fld (pv 0) rfl) rfl) (nomark _))))) (pss_one (ps_ret pe_non)) pss_nil)
   (pss_cons (ps_set (i := 2) nd rfl (Or.inl rfl) (pe_fld (pv 0) rfl))
   (pss_cons (ps_set (i := 3) nd rfl (Or.inl rfl) (pv 1))
   (pss_cons (ps_while PassesOwn.never (PW.pt (pw_or (pt_cmpR op_gt (pv 3) pe_int (nomark _)) (pw_or1 (pt_not (pt_val (pe_fld (pv 2) rfl)))))) (pss_cons (ps_set (i := 4) nd rfl (Or.inl rfl) (pe_meth (pv 2) T.cl_Twig m_letter_at G_letter_at hr_letter_at b_letter_at .nil pass0 (pa_cons (pv 3) pa_nil)))
   (pss_cons (ps_set (i := 3) nd rfl (Or.inl rfl) (pe_op op_sub (pv 3) (pe_meth (pv 2) T.cl_Twig m_ahead_of G_ahead_of hr_ahead_of b_ahead_of .nil pass0 (pa_cons (pv 4) pa_nil))))
   (pss_one (ps_set (i := 2) nd rfl (Or.inl rfl) (pe_meth (pv 2) T.cl_Twig m_follow G_follow hr_follow b_follow .nil pass0 (pa_cons (pv 4) pa_nil)))))))
   (pss_one (ps_ret (pe_fld (pv 2) rfl))))))), ?_⟩
  refine ⟨_, rfl, _, _, rfl, rfl, _, rfl, ?_⟩
  refine ite2 (fun hneg => ?_) (fun hpos => ?_)
  ·refine iteT ?_
   have hz : ¬ 0 ≤ z := by
    have := of_decide_eq_true hneg
    omega
   have := k H (Same.refl H)
   rw [if_neg hz] at this
   exact this
  ·have hz : 0 ≤ z := by
    rcases Int.lt_or_le z 0 with q | q
    ·exact absurd (decide_eq_true q) hpos
    ·exact q
   obtain ⟨n, rfl⟩ : ∃ n : Nat, z = (n : Int) := ⟨z.toNat, by omega⟩
   have kn : ∀ H', Same H H' → Q (optV (srt W)[n]?) H' := fun H' sm => by
    have := k H' sm
    rw [if_pos hz] at this
    exact this
   refine ⟨_, rfl, _, rfl, g, CH, dg, _, _, rfl, hg, T.cl_Hedge, T.nR, look_here, y0.p, C, y0.x, _, _, rfl, hp0, T.cl_Twig, T.nM, f_many .., _, _, rfl, rfl, _, rfl, ?_⟩
   refine ite2 (fun hbig => ?_) (fun hsm => ?_)
   ·have hb : W.length ≤ n := by
     have := of_decide_eq_true hbig
     rw [hall] at this
     omega
    have := kn H (Same.refl H)
    rw [List.getElem?_eq_none (by omega)] at this
    exact this
   ·have hb : n < W.length := by
     rcases Nat.lt_or_ge n W.length with q | q
     ·exact q
     ·exact absurd (decide_eq_true (by rw [hall]; omega)) hsm
    refine ⟨_, rfl, g, CH, dg, _, _, rfl, hg, T.cl_Hedge, T.nR, look_here, ?_⟩
    refine ⟨_, rfl, ?_⟩
    refine ⟨fun m σ' H' => ∃ (u : List Nat) (y : Tw) (lf : Nat) (v4 : Option V), m = 111 - u.length ∧ σ' = [some (.ref g), some (.int (n : Int)), some (.ref y.p), some (.int (lf : Int)), v4] ∧ Same H H' ∧ N u = some y ∧ lf < cnt W u ∧
     ((srt W).filter fun w => u.isPrefixOf w)[lf]? = (srt W)[n]?, ⟨_, [], y0, n, none, rfl, rfl, Same.refl H, hy0, by omega, ?_⟩, ?_⟩
    ·rw [List.filter_eq_self.mpr fun w _ => by cases w <;> rfl]
    ·rintro m σ' H' ⟨u, y, lf, v4, rfl, rfl, sm, hy, hlf, hat⟩
     have hul : u.length ≤ 110 := hA.dom.len u (by show (N u).isSome = true; rw [hy]; rfl)
     obtain ⟨hp, zp, zd, ks, hd, ndk, hm⟩ := (hA.same sm).tw _ y hy
     have hpm : ks.Perm (kidsL (exN N) u) := (hA.same sm).perm ndk hm
     have hex : ∀ c, 0 < cnt W (u ++ [c]) → c ∈ kidsL (exN N) u := fun c hc => hpm.mem_iff.mp ((hm c).mpr ((hD _).mpr (.inr hc)))
     have kids : ∀ {H2 : Hp}, Same H H2 → Kids C H2 N u ks fun c => cnt W (u ++ [c]) := fun {H2} s2 c hc => by
      obtain ⟨x, hx⟩ := Option.isSome_iff_exists.mp ((hm c).mp hc)
      exact ⟨x, _, hx, ((hA.same s2).tw _ x hx).1⟩
     have eF : ∀ c, aheadF (decide (u ∈ W)) ks (fun c => cnt W (u ++ [c])) c = aheadN W u (kidsL (exN N) u) c := fun c => ahead_perm hpm c
     have hsome : (0 < lf ∨ u ∉ W) → ∃ c ∈ ks, aheadF (decide (u ∈ W)) ks (fun c => cnt W (u ++ [c])) c ≤ lf := fun hor => by
      obtain ⟨c, hc, hle⟩ := at_some hnd hex hlf hor
      exact ⟨c, hpm.mem_iff.mpr hc, by rw [eF]; exact hle⟩
     have step : ∀ (c : Nat) (H2 : Hp), c ∈ ks → aheadF (decide (u ∈ W)) ks (fun c => cnt W (u ++ [c])) c ≤ lf → (∀ x ∈ ks, aheadF (decide (u ∈ W)) ks (fun c => cnt W (u ++ [c])) x ≤ lf → x ≤ c) → Same H' H2 →
       ∃ (x : Tw), N (u ++ [c]) = some x ∧ lf - aheadF (decide (u ∈ W)) ks (fun c => cnt W (u ++ [c])) c < cnt W (u ++ [c]) ∧ ((srt W).filter fun w => (u ++ [c]).isPrefixOf w)[lf - aheadF (decide (u ∈ W)) ks (fun c => cnt W (u ++ [c])) c]? = (srt W)[n]? := fun c H2 hc hle hmax _ => by
      obtain ⟨x, hx⟩ := Option.isSome_iff_exists.mp ((hm c).mp hc)
      have hck := hpm.mem_iff.mp hc
      rw [eF] at hle
      have hlt := at_max hnd hex hck hlf fun x hx hxl => hmax x (hpm.mem_iff.mpr hx) (by rw [eF]; exact hxl)
      refine ⟨x, hx, by rw [eF]; omega, ?_⟩
      rw [eF, ← at_get hnd hex hck hle hlt]
      exact hat
     refine ⟨_, rfl, _, _, rfl, rfl, _, rfl, ?_⟩
     refine ite2 (fun hl => ?_) (fun hl => ?_)
     ·have hor : 0 < lf ∨ u ∉ W := .inl (by have := of_decide_eq_true hl; omega)
      refine iteT ⟨fun σ2 H2 => ∃ m', m' < 111 - u.length ∧ ∃ (u : List Nat) (y : Tw) (lf : Nat) (v4 : Option V), m' = 111 - u.length ∧ σ2 = [some (.ref g), some (.int (n : Int)), some (.ref y.p), some (.int (lf : Int)), v4] ∧ Same H H2 ∧ N u = some y ∧ lf < cnt W u ∧
       ((srt W).filter fun w => u.isPrefixOf w)[lf]? = (srt W)[n]?, fun _ _ z => z, ?_⟩
      refine ⟨_, rfl, y.p, y.x, _, rfl, hp, f_no _ _ _ _ (by decide +kernel) (by decide +kernel) (by decide +kernel) (by decide +kernel), _, rfl, y.p, y.x, y.d, u, _, _, N, ks, fun c => cnt W (u ++ [c]), lf, rfl, hp, hd, hA.few ndk hm, kids sm, hsome hor, fun c H2 hc hle hmax s2 => ?_⟩
      obtain ⟨x, hx, hlt, hget⟩ := step c H2 hc hle hmax s2
      refine ⟨_, rfl, _, rfl, y.p, y.x, _, rfl, s2 _ _ hp, f_no _ _ _ _ (by decide +kernel) (by decide +kernel) (by decide +kernel) (by decide +kernel), _, rfl, y.p, y.x, y.d, u, _, _, N, ks, fun c => cnt W (u ++ [c]), c, rfl, s2 _ _ hp, .inl (s2 _ _ hd), kids (sm.trans s2), fun H3 s3 => ⟨_, _, rfl, rfl, ?_⟩⟩
      have s23 := s2.trans s3
      refine ⟨_, rfl, y.p, y.x, _, rfl, s23 _ _ hp, f_no _ _ _ _ (by decide +kernel) (by decide +kernel) (by decide +kernel) (by decide +kernel), _, rfl, y.p, y.x, y.d, u, _, _, kv N u ks, S [c], rfl, s23 _ _ hp, s23 _ _ hd, ?_⟩
      have ev : (valV (kv N u ks) (Sum.inr (S [c]) : Key)).getD .non = V.ref x.p := by
       have e1 : valV (kv N u ks) (Sum.inr (S [c]) : Key) = _ := valV_kv N u c ks
       rw [e1, if_pos hc, A_some hx]
       rfl
      rw [ev]
      have esub : (lf : Int) - ((aheadF (decide (u ∈ W)) ks (fun c => cnt W (u ++ [c])) c : Nat) : Int) = ((lf - aheadF (decide (u ∈ W)) ks (fun c => cnt W (u ++ [c])) c : Nat) : Int) := by omega
      refine ⟨111 - (u ++ [c]).length, by rw [List.length_append]; show 111 - (u.length + 1) < _; omega, u ++ [c], x, _, some (sv [c]), rfl, ?_, sm.trans s23, hx, hlt, hget⟩
      rw [← esub]
      rfl
     ·have hl0 : lf = 0 := by
       rcases Nat.eq_zero_or_pos lf with q | q
       ·exact q
       ·exact absurd (decide_eq_true (by omega)) hl
      refine ⟨_, rfl, y.p, C, y.x, _, _, rfl, hp, T.cl_Twig, T.nH, f_here .., _, rfl, ?_⟩
      by_cases hu : u ∈ W
      ·refine iteD0 (by rw [decide_eq_true hu]; rfl) ?_
       refine ⟨_, rfl, y.p, C, y.x, _, _, rfl, hp, T.cl_Twig, T.nT, f_text .., ?_⟩
       have := kn H' sm
       rw [← hat, hl0, at_here hnd hex hu] at this
       exact this
      ·have hor : 0 < lf ∨ u ∉ W := .inr hu
       refine iteD1 (by rw [decide_eq_false hu]; rfl) ⟨fun σ2 H2 => ∃ m', m' < 111 - u.length ∧ ∃ (u : List Nat) (y : Tw) (lf : Nat) (v4 : Option V), m' = 111 - u.length ∧ σ2 = [some (.ref g), some (.int (n : Int)), some (.ref y.p), some (.int (lf : Int)), v4] ∧ Same H H2 ∧ N u = some y ∧ lf < cnt W u ∧
       ((srt W).filter fun w => u.isPrefixOf w)[lf]? = (srt W)[n]?, fun _ _ z => z, ?_⟩
       refine ⟨_, rfl, y.p, y.x, _, rfl, hp, f_no _ _ _ _ (by decide +kernel) (by decide +kernel) (by decide +kernel) (by decide +kernel), _, rfl, y.p, y.x, y.d, u, _, _, N, ks, fun c => cnt W (u ++ [c]), lf, rfl, hp, hd, hA.few ndk hm, kids sm, hsome hor, fun c H2 hc hle hmax s2 => ?_⟩
       obtain ⟨x, hx, hlt, hget⟩ := step c H2 hc hle hmax s2
       refine ⟨_, rfl, _, rfl, y.p, y.x, _, rfl, s2 _ _ hp, f_no _ _ _ _ (by decide +kernel) (by decide +kernel) (by decide +kernel) (by decide +kernel), _, rfl, y.p, y.x, y.d, u, _, _, N, ks, fun c => cnt W (u ++ [c]), c, rfl, s2 _ _ hp, .inl (s2 _ _ hd), kids (sm.trans s2), fun H3 s3 => ⟨_, _, rfl, rfl, ?_⟩⟩
       have s23 := s2.trans s3
       refine ⟨_, rfl, y.p, y.x, _, rfl, s23 _ _ hp, f_no _ _ _ _ (by decide +kernel) (by decide +kernel) (by decide +kernel) (by decide +kernel), _, rfl, y.p, y.x, y.d, u, _, _, kv N u ks, S [c], rfl, s23 _ _ hp, s23 _ _ hd, ?_⟩
       have ev : (valV (kv N u ks) (Sum.inr (S [c]) : Key)).getD .non = V.ref x.p := by
        have e1 : valV (kv N u ks) (Sum.inr (S [c]) : Key) = _ := valV_kv N u c ks
        rw [e1, if_pos hc, A_some hx]
        rfl
       rw [ev]
       have esub : (lf : Int) - ((aheadF (decide (u ∈ W)) ks (fun c => cnt W (u ++ [c])) c : Nat) : Int) = ((lf - aheadF (decide (u ∈ W)) ks (fun c => cnt W (u ++ [c])) c : Nat) : Int) := by omega
       refine ⟨111 - (u ++ [c]).length, by rw [List.length_append]; show 111 - (u.length + 1) < _; omega, u ++ [c], x, _, some (sv [c]), rfl, ?_, sm.trans s23, hx, hlt, hget⟩
       rw [← esub]
       rfl
end
abbrev sAhead : Stmt := inClass sHedge 7
def spAhead (C CH : Addr) : Sp := fun vs H Q _ => ∃ (Z : Addr → Prop) (g : Addr) (W : List (List Nat)) (t : List Nat), vs = [.ref g, sv t] ∧ DayAt C CH Z H g W ∧ W.length ≤ 450 ∧ Letters t ∧ t.length ≤ 110 ∧ ∀ H', Same H H' → Q (.int ((W.filter fun w => decide (w < t)).length : Nat)) H'
section
variable {P : Program} {w : World} {K : PySem.W.Frag} {mg : Str → Option Value} {base : Heap} {C CH : Addr}
theorem scAd : FnScope ["self", "text"] ["self", "text"] (defScope sAhead) := ⟨rfl, rfl, rfl, by decide +kernel, rfl, by decide +kernel, by decide +kernel⟩
theorem ok_ahead {f fA fO : Addr} {fd fdA fdO : FuncData} (F : Fun K "ahead" "Hedge.ahead" sAhead f fd) (T : PTxt K mg C CH) (TM : MTxt mg) (m_path_along : Meth K CH "path_along" fA) (G_path_along : FnOk P w K mg base CX0 2 fA fdA ["self", "text"] (spPath C CH)) (b_path_along : Binds K fdA ["self", "text"] [])
  (m_ahead_of : Meth K C "ahead_of" fO) (FO : Fun K "ahead_of" "Twig.ahead_of" sAheadOf fO fdO) (b_ahead_of : Binds K fdO ["self", "letter"] []) : FnOk P w K mg base CX0 4 f fd ["self", "text"] (spAhead C CH) := by
 have G_ahead_of : FnOk P w K mg base CX0 1 fO fdO ["self", "letter"] (spAheadOf C) := ok_aheadof FO T
 refine FnOk.mono (j := 3) ?_ (by decide)
 refine F.ok scAd (fun vs H Q E h => ?_) (fun cdv AA outer s H vs Q E hr h => ?_)
 ·obtain ⟨Z, g, W, t, rfl, _⟩ := h
  rfl
 ·obtain ⟨Z, g, W, t, rfl, hDay, hWl, hwl, hw, k⟩ := h
  have nd := scAd.nd
  have nd2 : (["twig", "letter"] : List Str).Nodup := by decide +kernel
  have hr_path_along : Room 2 _ := hr
  have hr_ahead_of : Room 1 _ := hr.mono (by decide)
  obtain ⟨⟨N, hA, hD⟩, hnd, hwd⟩ := hDay
  obtain ⟨dg, y0, hg, hy0⟩ := hA.gt
  have hex : ∀ u c, 0 < cnt W (u ++ [c]) → c ∈ kidsL (exN N) u := fun u c hc => by
   have hc' : (N (u ++ [c])).isSome = true := (hD _).mpr (.inr hc)
   exact mem_kids.mpr ⟨hA.dom.let_ u c hc', hc'⟩
  refine ⟨_, (pss_one (ps_ret (pe_callB (call_sumN rfl) rfl TM.sum boot_sum_ (pa_cons (pe_lcG (defScope sAhead) [] [] ["twig", "letter"] rfl rfl (by decide +kernel) trivial (pi_zip rfl TM.zip (pa_cons (pe_meth (pv 0) T.cl_Hedge m_path_along G_path_along hr_path_along b_path_along .nil pass0 (pa_cons (pv 1) pa_nil)) (pa_cons (pv 1) pa_nil))) (fun _ _ _ _ _ => pg_tupK K rfl 2 rfl (pgs_cons (pg_name (i := 0) nd2 rfl (Or.inl rfl)) (pgs_cons (pg_name (i := 1) nd2 rfl (Or.inl rfl)) pgs_nil))) (fun _ _ _ _ _ => pif_nil) (fun _ _ _ _ _ => (pe_meth (pv 0) T.cl_Twig m_ahead_of G_ahead_of hr_ahead_of b_ahead_of .nil pass0 (pa_cons (pv 1) pa_nil)))) pa_nil)))), ?_⟩
  refine ⟨_, rfl, g, dg, _, rfl, hg, root_no (by decide +kernel), _, rfl, Z, g, N, _, _, t, rfl, hA, hwl, by omega, fun k' l H1 hk hN hlast hl e sm => ?_⟩
  refine ⟨_, rfl, l, _, t, rfl, SqL.of e, hwl.ascii, ?_⟩
  have hf : ∀ j, aheadN W (t.take j) (kidsL (exN N) (t.take j)) ((t[j]?).getD 0) ≤ W.length := fun j => by
   unfold aheadN
   have h1 : ((((kidsL (exN N) (t.take j)).filter fun x => decide (x < (t[j]?).getD 0))).map fun x => cnt W (t.take j ++ [x])).sum ≤ ((kidsL (exN N) (t.take j)).map fun x => cnt W (t.take j ++ [x])).sum := sum_filter_le _ _ _
   have h2 := cnt_split (W := W) (t := t.take j) (kids_nodup (exN N) _) fun w hw x hp => hex _ x (cnt_pos.mpr ⟨w, hw, List.isPrefixOf_iff_prefix.mp hp⟩)
   rw [count_ind hnd] at h2
   have h3 := cnt_le W (t.take j)
   omega
  refine lc_zip (K := K) (fun i acc H' => acc = ((List.range i).map fun j => aheadN W (t.take j) (kidsL (exN N) (t.take j)) ((t[j]?).getD 0)).map (fun n : Nat => V.int (n : Int)) ∧ Same H1 H') (by rw [pathV_len]; omega) ⟨rfl, Same.refl H1⟩
   (fun i acc H' q => by rw [q.1, List.length_map, List.length_map, List.length_range]; exact Nat.le_refl _) (fun i acc H' _ q => SqL.of (q.2 _ _ e)) ?_ ?_
  ·rintro i x c p acc H' hx hc hp ⟨rfl, s2⟩
   have hik : i ≤ k' := by
    have := (List.getElem?_eq_some_iff.mp hx).1
    rw [pathV_len] at this
    omega
   rw [pathV_get hik] at hx
   obtain ⟨y, hy⟩ := Option.isSome_iff_exists.mp (hN i hik)
   have ex : x = V.ref y.p := by
    rw [A_some hy] at hx
    exact (Option.some.inj hx).symm
   subst ex
   have s3 : Same H1 (upd H' p (.tup [V.ref y.p, .str (S [c])])) := s2.trans (same_new hp)
   obtain ⟨hpy, zp, zd, ks, hd, ndk, hm⟩ := (hA.same (sm.trans s3)).tw _ y hy
   have hpm : ks.Perm (kidsL (exN N) (t.take i)) := (hA.same (sm.trans s3)).perm ndk hm
   refine ⟨p, _, rfl, SqT.of upd_same, rfl, _, _, rfl, _, _, rfl, rfl, ⟨rfl, fun j v hv => ?_⟩, ?_⟩
   ·exact (nones_get (ns := ["twig", "letter"]) (show (nones ["twig", "letter"])[j]? = some (some v) from hv)).elim
   ·simp only [tYes, if_true]
    refine ⟨_, rfl, y.p, y.x, _, rfl, hpy, f_no _ _ _ _ (by decide +kernel) (by decide +kernel) (by decide +kernel) (by decide +kernel), _, rfl, ?_⟩
    refine ⟨y.p, y.x, y.d, t.take i, _, _, N, ks, fun c => cnt W (t.take i ++ [c]), c, rfl, hpy, .inl hd, fun x hx => ?_, fun H3 s4 => ⟨?_, s3.trans s4⟩⟩
    ·obtain ⟨z, hz⟩ := Option.isSome_iff_exists.mp ((hm x).mp hx)
     exact ⟨z, _, hz, ((hA.same (sm.trans s3)).tw _ z hz).1⟩
    ·have eF : aheadF (decide (t.take i ∈ W)) ks (fun c => cnt W (t.take i ++ [c])) c = aheadN W (t.take i) (kidsL (exN N) (t.take i)) ((t[i]?).getD 0) := by
      rw [hc]
      exact ahead_perm hpm c
     rw [eF, List.range_succ, List.map_append, List.map_append]
     rfl
  ·rintro acc H' ⟨rfl, s2⟩ p hp
   rw [pathV_len]
   refine ⟨p, _, rfl, SqL.of upd_same, fun n hn => ?_, ?_, ?_⟩
   ·obtain ⟨j, _, rfl⟩ := List.mem_map.mp hn
    have := hf j
    omega
   ·rw [List.length_map, List.length_range]
    omega
   ·have hz : lessU W (t.take (min (k' + 1) t.length)) (t.drop (min (k' + 1) t.length)) = 0 := by
     rcases hlast with q | q
     ·rw [Nat.min_eq_right (by omega), List.drop_length]
      exact lessU_nil _ _
     ·by_cases hkt : k' < t.length
      ·rw [Nat.min_eq_left (by omega)]
       have h1 := lessU_le W (t.take (k' + 1)) (t.drop (k' + 1))
       have h2 : cnt W (t.take (k' + 1)) = 0 := by
        rcases Nat.eq_zero_or_pos (cnt W (t.take (k' + 1))) with z | z
        ·exact z
        ·have := (hD _).mpr (.inr z)
         rw [q] at this
         cases this
       omega
      ·rw [Nat.min_eq_right (by omega), List.drop_length]
       exact lessU_nil _ _
    have hsum := ahead_path hnd hex t (min (k' + 1) t.length) (Nat.min_le_right _ _) hz (min (k' + 1) t.length) 0 (by omega)
    rw [List.take_zero, List.drop_zero] at hsum
    have e1 : (List.range (min (k' + 1) t.length)).map (fun j => aheadN W (t.take (0 + j)) (kidsL (exN N) (t.take (0 + j))) ((t[0 + j]?).getD 0)) = (List.range (min (k' + 1) t.length)).map (fun j => aheadN W (t.take j) (kidsL (exN N) (t.take j)) ((t[j]?).getD 0)) := List.map_congr_left fun j _ => by rw [Nat.zero_add]
    rw [e1] at hsum
    rw [← hsum, ← less_root]
    exact k _ (sm.trans (s2.trans (same_new hp)))
end
abbrev sTold : Stmt := inClass sTwig 1
abbrev sTwigs : Stmt := inClass sHedge 8
abbrev sBehind : Stmt := top 8
def spTold (C : Addr) : Sp := fun vs H Q _ => ∃ (p dx d : Addr) (t : List Nat) (h : Bool) (m : Nat), vs = [.ref p] ∧ H p = some (.ins C dx (flds t h m d)) ∧ ∀ q, H q = none → Q (.ref q) (upd H q (.tup [sv t, .bl h, .int (m : Int)]))
def spTwigsH (C CH : Addr) : Sp := fun vs H Q _ => ∃ (Z : Addr → Prop) (g : Addr) (W : List (List Nat)), vs = [.ref g] ∧ DayAt C CH Z H g W ∧ W.length ≤ 450 ∧
 ∀ (l : Addr) (qs : List Addr) (ts : List (List Nat)) (H' : Hp), BegsOf W ts → H l = none → H' l = some (.lst (qs.map V.ref)) → TwigsAt W H' qs ts → Same H H' → Q (.ref l) H'
section
variable {P : Program} {w : World} {K : PySem.W.Frag} {mg : Str → Option Value} {base : Heap} {C CH : Addr}
theorem scTo : FnScope ["self"] ["self"] (defScope sTold) := ⟨rfl, rfl, rfl, by decide +kernel, rfl, by decide +kernel, by decide +kernel⟩
theorem ok_told {f : Addr} {fd : FuncData} (F : Fun K "told" "Twig.told" sTold f fd) (T : PTxt K mg C CH) : FnOk P w K mg base CX0 1 f fd ["self"] (spTold C) := by
 refine F.ok scTo (fun vs H Q E h => ?_) (fun cdv AA outer s H vs Q E hr h => ?_)
 ·obtain ⟨p, dx, d, t, h, m, rfl, _⟩ := h
  rfl
 ·obtain ⟨p, dx, d, t, h, m, rfl, hp, k⟩ := h
  have hsz := sizeLine_eq
  refine ⟨_, (pss_one (ps_ret (pe_tup (pa_cons (pe_fld (pv 0) rfl) (pa_cons (pe_fld (pv 0) rfl) (pa_cons (pe_fld (pv 0) rfl) pa_nil)))))), ?_⟩
  exact ⟨_, rfl, p, C, dx, _, _, rfl, hp, T.cl_Twig, T.nT, f_text .., _, rfl, p, C, dx, _, _, rfl, hp, T.cl_Twig, T.nH, f_here .., _, rfl, p, C, dx, _, _, rfl, hp, T.cl_Twig, T.nM, f_many .., (by show 3 ≤ _; omega), k⟩
theorem scTw : FnScope ["self"] ["self"] (defScope sTwigs) := ⟨rfl, rfl, rfl, by decide +kernel, rfl, by decide +kernel, by decide +kernel⟩
theorem ok_twigs {f fO fTo : Addr} {fd fdO fdTo : FuncData} (F : Fun K "twigs" "Hedge.twigs" sTwigs f fd) (T : PTxt K mg C CH) (TW : WTxt mg fO) (F_in_order : Fun K "in_order" "in_order" sOrder fO fdO) (G_in_order : FnOk P w K mg base CX0 2 fO fdO ["first"] (spOrder C CH)) (b_in_order : Binds K fdO ["first"] [])
  (m_told : Meth K C "told" fTo) (FTo : Fun K "told" "Twig.told" sTold fTo fdTo) (b_told : Binds K fdTo ["self"] []) : FnOk P w K mg base CX0 3 f fd ["self"] (spTwigsH C CH) := by
 have G_told : FnOk P w K mg base CX0 1 fTo fdTo ["self"] (spTold C) := ok_told FTo T
 refine F.ok scTw (fun vs H Q E h => ?_) (fun cdv AA outer s H vs Q E hr h => ?_)
 ·obtain ⟨Z, g, W, rfl, _⟩ := h
  rfl
 ·obtain ⟨Z, g, W, rfl, hDay, hWl, k⟩ := h
  have nd := scTw.nd
  have hr_in_order : Room 2 _ := hr
  have hr_told : Room 1 _ := hr.mono (by decide)
  have hsz := sizeLine_eq
  obtain ⟨⟨N, hA, hD⟩, hnd, hwd⟩ := hDay
  obtain ⟨dg, y0, hg, hy0⟩ := hA.gt
  obtain ⟨hp0, _⟩ := hA.tw _ y0 hy0
  refine ⟨_, (pss_cons (ps_if (pt_cmpR op_eq (pe_fld (pe_fld (pv 0) rfl) rfl) pe_int (nomark _)) (pss_one (ps_ret (pe_lst pa_nil))) pss_nil)
   (pss_one (ps_ret (pe_lc (defScope sTwigs) [] []  rfl rfl (by decide +kernel) trivial (pi_list (pe_call G_in_order hr_in_order rfl TW.in_order F_in_order.kp b_in_order .nil pass0 (pa_cons (pe_fld (pv 0) rfl) pa_nil))) (fun _ _ _ _ _ => pif_nil) (fun _ _ _ _ _ => (pe_meth0 (pv 0) T.cl_Twig m_told G_told hr_told b_told .nil pass0)))))), ?_⟩
  refine ⟨_, rfl, g, CH, dg, _, _, rfl, hg, T.cl_Hedge, T.nR, look_here, y0.p, C, y0.x, _, _, rfl, hp0, T.cl_Twig, T.nM, f_many .., rfl, _, rfl, ?_⟩
  by_cases h0 : W.length = 0
  ·refine iteD1 (decide_eq_true (by rw [cnt_all, h0]; rfl)) ⟨Nat.zero_le _, fun l hl => ?_⟩
   exact k l [] [] _ (begs_none h0) hl upd_same .nil (same_new hl)
  ·refine iteD0 (decide_eq_false fun z => ?_) ?_
   ·rw [cnt_all] at z
    have z' : ((W.length : Nat) : Int) = 0 := by injection z
    omega
   ·have hex : ∀ u, exN N u = true ↔ u = [] ∨ 0 < cnt W u := hD
    have hroot : exN N [] = true := (hex []).mpr (.inl rfl)
    have hfew : (pre (exN N) (110 - ([] : List Nat).length) []).length ≤ 1 + 110 * W.length := pre_few hA.dom (fun w hw => (hwd w hw).2) hex hroot
    refine ⟨_, rfl, g, CH, dg, _, _, rfl, hg, T.cl_Hedge, T.nR, look_here, Z, g, N, _, _, [], y0, rfl, hA, hy0, (by show (pre (exN N) (110 - ([] : List Nat).length) []).length ≤ _; omega), fun lo H2 hlo hl2 sm2 => ?_⟩
    refine ⟨lo, rfl, ⟨_, SqL.of hl2⟩, lc_list (K := K) (a := lo) (xs := (preN N []).map (A N)) (fun i acc H3 => ∃ qs : List Addr, acc = qs.map V.ref ∧ TwigsAt W H3 qs ((preN N []).take i) ∧ Same H2 H3) (by rw [List.length_map]; show (pre (exN N) (110 - ([] : List Nat).length) []).length ≤ _; omega) ⟨[], rfl, .nil, Same.refl H2⟩ (fun i acc H3 h => ?_) (fun i acc H3 _ h => ?_) ?_ ?_⟩
    ·obtain ⟨qs, rfl, hq, _⟩ := h
     have := Paired.length hq
     rw [List.length_map, this]
     exact List.length_take_le ..
    ·obtain ⟨qs, _, _, s3⟩ := h
     exact SqL.of (s3 _ _ hl2)
    ·rintro i x acc H3 hx ⟨qs, rfl, hq, s3⟩
     obtain ⟨u, hu, rfl⟩ : ∃ u, (preN N [])[i]? = some u ∧ x = A N u := by
      rw [List.getElem?_map] at hx
      cases e : (preN N [])[i]? with
      | none => rw [e] at hx; cases hx
      | some c => rw [e] at hx; exact ⟨c, rfl, (Option.some.inj hx).symm⟩
     have hum := (mem_pre hA.dom (n := 110 - ([] : List Nat).length) (by simp) hroot u).mp (List.mem_of_getElem? hu)
     obtain ⟨z, hz⟩ := Option.isSome_iff_exists.mp hum.2
     have hpz := ((hA.same (sm2.trans s3)).tw _ z hz).1
     have tk : (preN N []).take (i + 1) = (preN N []).take i ++ [u] := by rw [List.take_succ, hu]; rfl
     simp only [tYes, if_true]
     rw [A_some hz]
     refine ⟨_, rfl, z.p, z.x, _, rfl, hpz, f_no _ _ _ _ (by decide +kernel) (by decide +kernel) (by decide +kernel) (by decide +kernel), ?_⟩
     refine ⟨z.p, z.x, z.d, u, _, _, rfl, hpz, fun q hq0 => ⟨qs ++ [q], by rw [List.map_append]; rfl, ?_, s3.trans (same_new hq0)⟩⟩
     rw [tk]
     exact Paired.snoc (TwigsAt.same (same_new hq0) hq) upd_same
    ·rintro acc H3 ⟨qs, rfl, hq, s3⟩ p hp3
     have el : (preN N []).take ((preN N []).map (A N)).length = preN N [] := by rw [List.length_map, List.take_length]
     rw [el] at hq
     exact k p qs _ _ (begs_pre hA.dom hex (by omega)) ((sm2.trans s3).free hp3) upd_same (TwigsAt.same (same_new hp3) hq) ((sm2.trans s3).trans (same_new hp3))
theorem scTB : FnScope ["deeds", "hedge"] ["deeds"] (defScope sBehind) := ⟨rfl, rfl, rfl, by decide +kernel, rfl, by decide +kernel, by decide +kernel⟩
theorem ok_behind {f f1 fAll fI fT : Addr} {fd fdAll fdI fdT : FuncData} {FF : Deed → Prop} {k1 : Nat} (F : Fun K "twigs_behind" "twigs_behind" sBehind f fd) (T : DTxt K mg C CH f1 fAll) (F_do_all : Fun K "do_all" "do_all" sDoAll fAll fdAll) (G_do_all : FnOk P w K mg base CX0 (k1 + 4) fAll fdAll ["hedge", "deeds"] (spAll FF C CH)) (b_do_all : Binds K fdAll ["hedge", "deeds"] [])
  (M_Hedge : Mk K CH fI) (G_Hedge : FnOk P w K mg base CX0 3 fI fdI ["self"] (spHInit C CH)) (b_Hedge : Binds K fdI ["self"] []) (m_twigs : Meth K CH "twigs" fT) (G_twigs : FnOk P w K mg base CX0 3 fT fdT ["self"] (spTwigsH C CH)) (b_twigs : Binds K fdT ["self"] []) : FnOk P w K mg base CX0 (k1 + 5) f fd ["deeds"] (spTwigs FF K) := by
 refine F.ok scTB (fun vs H Q E h => ?_) (fun cdv AA outer s H vs Q E hr h => ?_)
 ·obtain ⟨a, ps, ds, rfl, _⟩ := h
  rfl
 ·obtain ⟨a, ps, ds, rfl, ha, hds, hF, hlen, k⟩ := h
  have nd := scTB.nd
  have hr_do_all : Room (k1 + 4) _ := hr
  have hr_Hedge : Room 4 _ := hr.mono (by omega)
  have hr_twigs : Room 3 _ := hr.mono (by omega)
  refine ⟨_, (pss_cons (ps_set (i := 1) nd rfl (Or.inl rfl) (pe_make0 M_Hedge G_Hedge hr_Hedge rfl T.mg_Hedge b_Hedge .nil pass0))
   (pss_cons (ps_expr (pe_call G_do_all hr_do_all rfl T.do_all F_do_all.kp b_do_all .nil pass0 (pa_cons (pv 1) (pa_cons (pv 0) pa_nil))))
   (pss_one (ps_ret (pe_meth0 (pv 1) T.cl_Hedge m_twigs G_twigs hr_twigs b_twigs .nil pass0))))), ?_⟩
  intro x dx nx ndx nex
  have z0 : ∀ b o, H b = some o → (upd (upd H dx (.own x)) x (.ins CH dx [])) b = some o := fun b o e => by
   rw [upd_ne (ne_of_none e nx), upd_ne (ne_of_none e ndx)]
   exact e
  refine ⟨x, dx, fun b => H b = none, rfl, upd_same, fun b hb => ?_, fun H1 hDay kp => ⟨rfl, ?_⟩⟩
  ·cases q : H b with
   | none => exact q
   | some o =>
    rw [z0 b o q] at hb
    cases hb
  ·have s1 : Same H H1 := fun b o e => kp b o (z0 b o e) (ne_of_none e nx)
   refine ⟨_, rfl, _, rfl, fun b => H b = none, x, a, ps, ds, rfl, hDay, fun b hb => s1.free hb, s1 _ _ ha, hds.same s1, hF, hlen, fun r us H2 hr0 hr1 hA hD2 kp2 => ?_⟩
   have s2 : Same H H2 := fun b o e => kp2 b o (s1 b o e) fun z => by
    have z' : H b = none := z
    rw [e] at z'
    cases z'
   obtain ⟨⟨N, hAt, _⟩, _, _⟩ := id hD2
   obtain ⟨dg, y0, hg, hy0⟩ := hAt.gt
   have hWl : (after [] ds).length ≤ 450 := by
    have := after_len [] ds
    simp at this
    omega
   refine ⟨_, rfl, x, dg, _, rfl, hg, root_no (by decide +kernel), fun b => H b = none, x, after [] ds, rfl, hD2, hWl, fun l qs ts H3 hb hl0 hl3 hT s3 => ?_⟩
   exact k l qs ts H3 hb (s2.free hl0) hl3 hT (s2.trans s3)
end
section
variable {P : Program} {w : World} {K : PySem.W.Frag} {mg : Str → Option Value} {base : Heap} {C CH : Addr}
theorem scDO : FnScope ["hedge", "deed", "name", "given"] ["hedge", "deed"] (defScope sDoOne) := ⟨rfl, rfl, rfl, by decide +kernel, rfl, by decide +kernel, by decide +kernel⟩
theorem ok_doone {f fP fT fH f1 fAll f_words_with f_longest f_at f_ahead : Addr} {fd fdP fdT fdH fd_words_with fd_longest fd_at fd_ahead : FuncData} (F : Fun K "do_one" "do_one" sDoOne f fd) (T : DTxt K mg C CH f1 fAll) (m_put : Meth K CH "put" fP) (G_put : FnOk P w K mg base CX0 4 fP fdP ["self", "word"] (spPut C CH)) (b_put : Binds K fdP ["self", "word"] [])
  (m_take : Meth K CH "take" fT) (G_take : FnOk P w K mg base CX0 3 fT fdT ["self", "word"] (spTake C CH)) (b_take : Binds K fdT ["self", "word"] []) (m_has : Meth K CH "has" fH) (G_has : FnOk P w K mg base CX0 3 fH fdH ["self", "word"] (spHas C CH)) (b_has : Binds K fdH ["self", "word"] []) (m_words_with : Meth K CH "words_with" f_words_with) (G_words_with : FnOk P w K mg base CX0 6 f_words_with fd_words_with ["self", "text"] (spWords C CH)) (b_words_with : Binds K fd_words_with ["self", "text"] []) (m_longest : Meth K CH "longest" f_longest) (G_longest : FnOk P w K mg base CX0 3 f_longest fd_longest ["self", "line"] (spLongest C CH)) (b_longest : Binds K fd_longest ["self", "line"] []) (m_at : Meth K CH "at" f_at) (G_at : FnOk P w K mg base CX0 5 f_at fd_at ["self", "place"] (spHAt C CH)) (b_at : Binds K fd_at ["self", "place"] []) (m_ahead : Meth K CH "ahead" f_ahead) (G_ahead : FnOk P w K mg base CX0 4 f_ahead fd_ahead ["self", "text"] (spAhead C CH)) (b_ahead : Binds K fd_ahead ["self", "text"] []) :
  FnOk P w K mg base CX0 7 f fd ["hedge", "deed"] (spDo Fine7 C CH) := by
 refine F.ok scDO (fun vs H Q E h => ?_) (fun cdv AA outer s H vs Q E hr h => ?_)
 ·obtain ⟨Z, g, W, p, d, rfl, _⟩ := h
  rfl
 ·obtain ⟨Z, g, W, p, d, rfl, hDay, hZ, hd, hF, hWl, k⟩ := h
  have nd := scDO.nd
  have hr_put : Room 4 _ := hr.mono (by decide)
  have hr_take : Room 3 _ := hr.mono (by decide)
  have hr_has : Room 3 _ := hr.mono (by decide)
  have hr_words_with : Room 6 _ := hr.mono (by decide)
  have hr_longest : Room 3 _ := hr.mono (by decide)
  have hr_at : Room 5 _ := hr.mono (by decide)
  have hr_ahead : Room 4 _ := hr.mono (by decide)
  obtain ⟨⟨N, hA, hD⟩, hnd, hwd⟩ := id hDay
  obtain ⟨dg, y0, hg, hy0⟩ := hA.gt
  have hd' : H p = some (.tup [.str d.name, d.arg]) := hd
  refine ⟨_, (pss_cons (ps_set (i := 2) nd rfl (Or.inl rfl) (pe_ix ix_tup (pv 1) pe_int (fun _ _ => rfl)))
   (pss_cons (ps_set (i := 3) nd rfl (Or.inl rfl) (pe_ix ix_tup (pv 1) pe_int (fun _ _ => rfl)))
   (pss_cons (ps_if (pt_cmpR op_eq (pv 2) pe_str (nomark _)) (pss_one (ps_ret (pe_meth (pv 0) T.cl_Hedge m_put G_put hr_put b_put .nil pass0 (pa_cons (pv 3) pa_nil)))) pss_nil)
   (pss_cons (ps_if (pt_cmpR op_eq (pv 2) pe_str (nomark _)) (pss_one (ps_ret (pe_meth (pv 0) T.cl_Hedge m_take G_take hr_take b_take .nil pass0 (pa_cons (pv 3) pa_nil)))) pss_nil)
   (pss_cons (ps_if (pt_cmpR op_eq (pv 2) pe_str (nomark _)) (pss_one (ps_ret (pe_meth (pv 0) T.cl_Hedge m_has G_has hr_has b_has .nil pass0 (pa_cons (pv 3) pa_nil)))) pss_nil)
   (pss_cons (ps_if (pt_cmpR op_eq (pv 2) pe_str (nomark _)) (pss_one (ps_ret (pe_meth (pv 0) T.cl_Hedge m_words_with G_words_with hr_words_with b_words_with .nil pass0 (pa_cons (pv 3) pa_nil)))) pss_nil)
   (pss_cons (ps_if (pt_cmpR op_eq (pv 2) pe_str (nomark _)) (pss_one (ps_ret (pe_meth (pv 0) T.cl_Hedge m_longest G_longest hr_longest b_longest .nil pass0 (pa_cons (pv 3) pa_nil)))) pss_nil)
   (pss_cons (ps_if (pt_cmpR op_eq (pv 2) pe_str (nomark _)) (pss_one (ps_ret (pe_meth (pv 0) T.cl_Hedge m_at G_at hr_at b_at .nil pass0 (pa_cons (pv 3) pa_nil)))) pss_nil)
   (pss_one (ps_ret (pe_meth (pv 0) T.cl_Hedge m_ahead G_ahead hr_ahead b_ahead .nil pass0 (pa_cons (pv 3) pa_nil)))))))))))), ?_⟩
  refine ⟨_, rfl, p, _, _, _, rfl, rfl, SqT.of hd', rfl, ?_⟩
  refine ⟨_, rfl, p, _, _, _, rfl, rfl, SqT.of hd', rfl, ?_⟩
  rcases hF with hF | hF | hF | hF | hF
  ·skip
   obtain ⟨z, rfl⟩ := hF
   refine ⟨_, rfl, rfl, _, rfl, iteD0 ((dname (.at_ z) (.put [])).trans rfl) ?_⟩
   refine ⟨_, rfl, rfl, _, rfl, iteD0 ((dname (.at_ z) (.take [])).trans rfl) ?_⟩
   refine ⟨_, rfl, rfl, _, rfl, iteD0 ((dname (.at_ z) (.has [])).trans rfl) ?_⟩
   refine ⟨_, rfl, rfl, _, rfl, iteD0 ((dname (.at_ z) (.all [])).trans rfl) ?_⟩
   refine ⟨_, rfl, rfl, _, rfl, iteD0 ((dname (.at_ z) (.longest [])).trans rfl) ?_⟩
   refine ⟨_, rfl, rfl, _, rfl, iteD1 ((dname (.at_ z) (.at_ 0)).trans rfl) ?_⟩
   refine ⟨_, rfl, g, dg, _, rfl, hg, root_no (by decide +kernel), _, rfl, Z, g, W, z, rfl, hDay, hWl, fun H' sm => k _ H' (optV_at H' _) (fun q z => absurd z (optV_no _ q)) (hDay.keep fun b o e _ => sm _ _ e) (Kp.same sm)⟩
  ·skip
   obtain ⟨w, hc, hwl, hw⟩ := hF
   rcases hc with rfl | rfl | rfl
   ·refine ⟨_, rfl, rfl, _, rfl, iteD1 ((dname (.put w) (.put [])).trans rfl) ?_⟩
    refine ⟨_, rfl, g, dg, _, rfl, hg, root_no (by decide +kernel), _, rfl, Z, g, W, w, rfl, hDay, hZ, hwl, hw, fun H' hD' kp => k _ H' rfl (fun _ z => nomatch z) hD' kp⟩
   ·refine ⟨_, rfl, rfl, _, rfl, iteD0 ((dname (.take w) (.put [])).trans rfl) ?_⟩
    refine ⟨_, rfl, rfl, _, rfl, iteD1 ((dname (.take w) (.take [])).trans rfl) ?_⟩
    refine ⟨_, rfl, g, dg, _, rfl, hg, root_no (by decide +kernel), _, rfl, Z, g, W, w, rfl, hDay, hZ, hwl, hw, fun H' hD' kp => k _ H' rfl (fun _ z => nomatch z) hD' kp⟩
   ·refine ⟨_, rfl, rfl, _, rfl, iteD0 ((dname (.has w) (.put [])).trans rfl) ?_⟩
    refine ⟨_, rfl, rfl, _, rfl, iteD0 ((dname (.has w) (.take [])).trans rfl) ?_⟩
    refine ⟨_, rfl, rfl, _, rfl, iteD1 ((dname (.has w) (.has [])).trans rfl) ?_⟩
    refine ⟨_, rfl, g, dg, _, rfl, hg, root_no (by decide +kernel), _, rfl, Z, g, W, w, rfl, hDay, hwl, hw, fun H' sm => k _ H' rfl (fun _ z => nomatch z) (hDay.keep fun b o e _ => sm _ _ e) (Kp.same sm)⟩
  ·skip
   obtain ⟨t, rfl, hwl, hw⟩ := hF
   refine ⟨_, rfl, rfl, _, rfl, iteD0 ((dname (.all t) (.put [])).trans rfl) ?_⟩
   refine ⟨_, rfl, rfl, _, rfl, iteD0 ((dname (.all t) (.take [])).trans rfl) ?_⟩
   refine ⟨_, rfl, rfl, _, rfl, iteD0 ((dname (.all t) (.has [])).trans rfl) ?_⟩
   refine ⟨_, rfl, rfl, _, rfl, iteD1 ((dname (.all t) (.all [])).trans rfl) ?_⟩
   refine ⟨_, rfl, g, dg, _, rfl, hg, root_no (by decide +kernel), _, rfl, Z, g, W, t, rfl, hDay, hWl, hwl, hw, fun l H' hl e sm => k _ H' ⟨l, rfl, e⟩ (fun q z => by cases z; exact hl) (hDay.keep fun b o e _ => sm _ _ e) (Kp.same sm)⟩
  ·skip
   obtain ⟨t, rfl, hwl, hw⟩ := hF
   refine ⟨_, rfl, rfl, _, rfl, iteD0 ((dname (.longest t) (.put [])).trans rfl) ?_⟩
   refine ⟨_, rfl, rfl, _, rfl, iteD0 ((dname (.longest t) (.take [])).trans rfl) ?_⟩
   refine ⟨_, rfl, rfl, _, rfl, iteD0 ((dname (.longest t) (.has [])).trans rfl) ?_⟩
   refine ⟨_, rfl, rfl, _, rfl, iteD0 ((dname (.longest t) (.all [])).trans rfl) ?_⟩
   refine ⟨_, rfl, rfl, _, rfl, iteD1 ((dname (.longest t) (.longest [])).trans rfl) ?_⟩
   refine ⟨_, rfl, g, dg, _, rfl, hg, root_no (by decide +kernel), _, rfl, Z, g, W, t, rfl, hDay, hwl, by omega, fun H' sm => k _ H' (optV_at H' _) (fun q z => absurd z (optV_no _ q)) (hDay.keep fun b o e _ => sm _ _ e) (Kp.same sm)⟩
  ·skip
   obtain ⟨t, rfl, hwl, hw⟩ := hF
   refine ⟨_, rfl, rfl, _, rfl, iteD0 ((dname (.ahead t) (.put [])).trans rfl) ?_⟩
   refine ⟨_, rfl, rfl, _, rfl, iteD0 ((dname (.ahead t) (.take [])).trans rfl) ?_⟩
   refine ⟨_, rfl, rfl, _, rfl, iteD0 ((dname (.ahead t) (.has [])).trans rfl) ?_⟩
   refine ⟨_, rfl, rfl, _, rfl, iteD0 ((dname (.ahead t) (.all [])).trans rfl) ?_⟩
   refine ⟨_, rfl, rfl, _, rfl, iteD0 ((dname (.ahead t) (.longest [])).trans rfl) ?_⟩
   refine ⟨_, rfl, rfl, _, rfl, iteD0 ((dname (.ahead t) (.at_ 0)).trans rfl) ?_⟩
   refine ⟨_, rfl, g, dg, _, rfl, hg, root_no (by decide +kernel), _, rfl, Z, g, W, t, rfl, hDay, hWl, hwl, hw, fun H' sm => k _ H' rfl (fun _ z => nomatch z) (hDay.keep fun b o e _ => sm _ _ e) (Kp.same sm)⟩
end
end K07
set_option maxHeartbeats 4000000
namespace K07
open PySem L2 WH
abbrev sRoom : Stmt := top 13
abbrev sWhole : Stmt := top 14
abbrev sReply : Stmt := top 18
abbrev sKind : Stmt := top 19
def tyN : V → String
 | .non => "NoneType" | .bl _ => "bool" | .int _ => "int" | .str _ => "str" | _ => ""
def Scl (v : V) : Prop := v = .non ∨ (∃ b, v = .bl b) ∨ (∃ z, v = .int z) ∨ ∃ x, v = .str x
def isNT (T n : String) : Bool := if n == "int" then T == "int" || T == "bool" else T == n
def isN (v : V) (n : String) : Bool := isNT (tyN v) n
theorem kit_tab : ∀ T ∈ ["NoneType", "bool", "int", "str"], ∀ n ∈ ["list", "str", "bool", "int"], kitBB T n = some (isNT T n) := by decide +kernel
theorem no_list : ∀ T ∈ ["NoneType", "bool", "int", "str"], isNT T "list" = false := by decide +kernel
theorem Scl.mem {v : V} (h : Scl v) : tyN v ∈ ["NoneType", "bool", "int", "str"] := by
 rcases h with rfl | ⟨b, rfl⟩ | ⟨z, rfl⟩ | ⟨x, rfl⟩ <;> simp [tyN]
theorem Scl.ty {K : PySem.W.Frag} {H : Hp} {v : V} (h : Scl v) : TyOf K H v (.type (tyN v)) := by
 rcases h with rfl | ⟨b, rfl⟩ | ⟨z, rfl⟩ | ⟨x, rfl⟩
 ·exact TyOf.non
 ·exact TyOf.bl b
 ·exact TyOf.int z
 ·exact TyOf.str x
theorem Scl.kit {v : V} (h : Scl v) {n : String} (hn : n = "list" ∨ n = "str" ∨ n = "bool" ∨ n = "int") : kitBB (tyN v) n = some (isN v n) := by
 refine kit_tab _ h.mem n ?_
 rcases hn with rfl | rfl | rfl | rfl <;> simp
theorem Scl.self {v : V} (h : Scl v) : scal v v = true := by
 rcases h with rfl | ⟨b, rfl⟩ | ⟨z, rfl⟩ | ⟨x, rfl⟩ <;> rfl
theorem Scl.nolist {v : V} (h : Scl v) : isN v "list" = false := no_list _ h.mem
structure KTxt (mg : Str → Option Value) (fW : Addr) : Prop where
 _law_whole : mg "_law_whole" = some (.ref fW)
 len : mg "len" = none
 isi : mg "isinstance" = none
 list : mg "list" = none
 str : mg "str" = none
 int : mg "int" = none
 bool : mg "bool" = none
 sorted : mg "sorted" = none
 max : mg "max" = none
 min : mg "min" = none
 range : mg "range" = none
def spRoom (K : PySem.W.Frag) : Sp := fun vs H Q _ => ∃ (a : Addr) (ns : List Int) (m b : Int), vs = [.ref a, .int m, .int b] ∧ SqL K H a (ns.map V.int) ∧ ns.length ≤ 63 ∧ Q (.int m) H
def spWhole : Sp := fun vs H Q _ => ∃ v, vs = [v] ∧ Scl v ∧ Q (.bl (isN v "int" && !isN v "bool")) H
def spKind : Sp := fun vs H Q _ => ∃ (f u : V) (a : Ans), vs = [f, u] ∧ AnsAt H f a ∧ AnsAt H u a ∧ Q (.bl true) H
def wd (W : List (List Nat)) : List (Key × V) := W.map fun w => (Sum.inr (S w), V.bl true)
theorem wd_val (w : List Nat) : ∀ W : List (List Nat), valV (wd W) (Sum.inr (S w) : Key) = if w ∈ W then some (.bl true) else none
 | [] => rfl
 | v :: W => by
  show valV (((Sum.inr (S v) : Key), V.bl true) :: wd W) (Sum.inr (S w) : Key) = _
  by_cases e : v = w
  ·subst e
   rw [valV_pos rfl, if_pos (List.mem_cons_self ..)]
  ·rw [valV_neg (fun z => e (S_inj (Sum.inr.inj z))), wd_val w W]
   by_cases m : w ∈ W
   ·rw [if_pos m, if_pos (List.mem_cons_of_mem _ m)]
   ·rw [if_neg m, if_neg fun z => (List.mem_cons.mp z).elim (fun y => e y.symm) m]
theorem wd_put (W : List (List Nat)) (w : List Nat) : putK (wd W) (Sum.inr (S w) : Key) (V.bl true) = wd (stepW W (.put w)) := by
 show _ = wd (if w ∈ W then W else W ++ [w])
 by_cases m : w ∈ W
 ·rw [if_pos m]
  unfold putK
  rw [valV_any, wd_val, if_pos m, if_pos (show (some (V.bl true)).isSome = true from rfl)]
  unfold wd
  rw [List.map_map]
  refine List.map_congr_left fun v _ => ?_
  show (if (Sum.inr (S v) : Key) = Sum.inr (S w) then ((Sum.inr (S v) : Key), V.bl true) else _) = _
  split <;> rfl
 ·rw [if_neg m, putK_new _ (by rw [wd_val, if_neg m])]
  unfold wd
  rw [List.map_append]
  rfl
theorem wd_drop {W : List (List Nat)} (nd : W.Nodup) (w : List Nat) : dropK (wd W) (Sum.inr (S w) : Key) = wd (W.erase w) := by
 rw [nd.erase_eq_filter]
 unfold dropK wd
 rw [List.filter_map]
 congr 1
 refine List.filter_congr fun v _ => ?_
 show decide ((Sum.inr (S v) : Key) ≠ Sum.inr (S w)) = (v != w)
 by_cases e : v = w
 ·subst e
  simp
 ·have : ¬ (Sum.inr (S v) : Key) = Sum.inr (S w) := fun z => e (S_inj (Sum.inr.inj z))
  simp [this, e]
theorem wd_keys (W : List (List Nat)) : ((wd W).map fun kv => kV kv.1) = W.map sv := by
 unfold wd
 rw [List.map_map]
 rfl
def spReply (K : PySem.W.Frag) : Sp := fun vs H Q _ => ∃ (d p : Addr) (W : List (List Nat)) (dd : Deed), vs = [.ref d, .ref p] ∧ H d = some (.dK (wd W)) ∧ DeedAt H p dd ∧ Fine7 dd ∧ W.Nodup ∧ W.length < 64 ∧ (∀ w ∈ W, w.length ≤ 110) ∧
 ∀ v H', AnsAt H' v (ans W dd) → H' d = some (.dK (wd (stepW W dd))) → (∀ b o, H b = some o → b ≠ d → H' b = some o) → Q v H'
section
variable {P : Program} {w : World} {K : PySem.W.Frag} {mg : Str → Option Value} {base : Heap}
theorem scRm : FnScope ["_law_script", "_law_most", "_law_bound"] ["_law_script", "_law_most", "_law_bound"] (defScope sRoom) := ⟨rfl, rfl, rfl, by decide +kernel, rfl, by decide +kernel, by decide +kernel⟩
theorem ok_room {f fW : Addr} {fd : FuncData} (F : Fun K "_law_room" "_law_room" sRoom f fd) (T : KTxt mg fW) : FnOk P w K mg base CX0 1 f fd ["_law_script", "_law_most", "_law_bound"] (spRoom K) := by
 refine F.ok scRm (fun vs H Q E h => ?_) (fun cdv AA outer s H vs Q E hr h => ?_)
 ·obtain ⟨a, ns, m, b, rfl, _⟩ := h
  rfl
 ·obtain ⟨a, ns, m, b, rfl, hS, hl, q⟩ := h
  refine ⟨_, (pss_cons (ps_if (pt_cmpR op_gt (pe_callB call_len rfl T.len PySem.boot_len (pa_cons (pv 0) pa_nil)) pe_int (nomark _)) (pss_one (ps_ret (pv 2))) pss_nil)
   (pss_one (ps_ret (pv 1)))), ?_⟩
  refine ⟨_, rfl, _, _, rfl, .inl ⟨_, hS, rfl⟩, _, _, rfl, rfl, _, rfl, ?_⟩
  rw [decide_eq_false (by rw [List.length_map]; omega)]
  exact iteF ⟨_, rfl, q⟩
theorem scWh : FnScope ["_law_found"] ["_law_found"] (defScope sWhole) := ⟨rfl, rfl, rfl, by decide +kernel, rfl, by decide +kernel, by decide +kernel⟩
theorem ok_whole {f fW : Addr} {fd : FuncData} (F : Fun K "_law_whole" "_law_whole" sWhole f fd) (T : KTxt mg fW) : FnOk P w K mg base CX0 1 f fd ["_law_found"] spWhole := by
 refine F.ok scWh (fun vs H Q E h => ?_) (fun cdv AA outer s H vs Q E hr h => ?_)
 ·obtain ⟨v, rfl, _⟩ := h
  rfl
 ·obtain ⟨v, rfl, hv, q⟩ := h
  refine ⟨_, (pss_one (ps_ret (pe_and (pe_callB call_isi rfl T.isi boot_isi (pa_cons (pv 0) (pa_cons (pe_bltn (v := .ty "int") rfl T.int boot_int rfl) pa_nil))) (pe_one (pe_not (pe_callB call_isi rfl T.isi boot_isi (pa_cons (pv 0) (pa_cons (pe_bltn (v := .ty "bool") rfl T.bool boot_bool rfl) pa_nil)))))))), ?_⟩
  refine ⟨_, rfl, _, tyN v, _, _, rfl, hv.ty, hv.kit (by simp), isN v "int", rfl, ?_⟩
  cases e : isN v "int" with
  | false =>
   rw [e] at q
   exact iteF q
  | true =>
   rw [e] at q
   exact iteT ⟨_, rfl, _, tyN v, _, _, rfl, hv.ty, hv.kit (by simp), isN v "bool", rfl, q⟩
theorem scKi : FnScope ["_law_found", "_law_due", "_law_part"] ["_law_found", "_law_due"] (defScope sKind) := ⟨rfl, rfl, rfl, by decide +kernel, rfl, by decide +kernel, by decide +kernel⟩
theorem ok_kind {f fW : Addr} {fd fdW : FuncData} (F : Fun K "_law_kind" "_law_kind" sKind f fd) (T : KTxt mg fW) (F__law_whole : Fun K "_law_whole" "_law_whole" sWhole fW fdW) (b__law_whole : Binds K fdW ["_law_found"] []) : FnOk P w K mg base CX0 2 f fd ["_law_found", "_law_due"] spKind := by
 have G__law_whole : FnOk P w K mg base CX0 1 fW fdW ["_law_found"] spWhole := ok_whole F__law_whole T
 refine F.ok scKi (fun vs H Q E h => ?_) (fun cdv AA outer s H vs Q E hr h => ?_)
 ·obtain ⟨f, u, a, rfl, _⟩ := h
  rfl
 ·obtain ⟨f, u, a, rfl, hf, hu', k⟩ := h
  have nd := scKi.nd
  have hu0 := hr.units0
  have hr__law_whole : Room 1 _ := hr
  refine ⟨_, (pss_consM (ps_if (pt_val (pe_callB call_isi rfl T.isi boot_isi (pa_cons (pv 1) (pa_cons (pe_bltn (v := .ty "list") rfl T.list boot_list rfl) pa_nil)))) (pss_cons (ps_if (PW.pt (pw_or (pt_not (pt_val (pe_callB call_isi rfl T.isi boot_isi (pa_cons (pv 0) (pa_cons (pe_bltn (v := .ty "list") rfl T.list boot_list rfl) pa_nil))))) (pw_or1 (pt_cmpR op_ne (pe_callB call_len rfl T.len PySem.boot_len (pa_cons (pv 0) pa_nil)) (pe_callB call_len rfl T.len PySem.boot_len (pa_cons (pv 1) pa_nil)) (nomark _))))) (pss_one (ps_ret pe_bl)) pss_nil)
   (pss_one (ps_for PassesOwn.never rfl (pi_list (pv 0)) (pg_name (i := 2) nd rfl (Or.inl rfl)) (pss_one (ps_if (pt_not (pt_val (pe_callB call_isi rfl T.isi boot_isi (pa_cons (pv 2) (pa_cons (pe_bltn (v := .ty "str") rfl T.str boot_str rfl) pa_nil))))) (pss_one (ps_ret pe_bl)) pss_nil))))) (pss_one (ps_if (pt_cmpR op_ne (pe_callB call_isi rfl T.isi boot_isi (pa_cons (pv 1) (pa_cons (pe_bltn (v := .ty "str") rfl T.str boot_str rfl) pa_nil))) (pe_callB call_isi rfl T.isi boot_isi (pa_cons (pv 0) (pa_cons (pe_bltn (v := .ty "str") rfl T.str boot_str rfl) pa_nil))) (nomark _)) (pss_one (ps_ret pe_bl)) (pss_one (ps_if (pt_cmpR op_ne (pe_callB call_isi rfl T.isi boot_isi (pa_cons (pv 1) (pa_cons (pe_bltn (v := .ty "bool") rfl T.bool boot_bool rfl) pa_nil))) (pe_callB call_isi rfl T.isi boot_isi (pa_cons (pv 0) (pa_cons (pe_bltn (v := .ty "bool") rfl T.bool boot_bool rfl) pa_nil))) (nomark _)) (pss_one (ps_ret pe_bl)) (pss_one (ps_if (pt_cmpR op_ne (pe_call G__law_whole hr__law_whole rfl T._law_whole F__law_whole.kp b__law_whole .nil pass0 (pa_cons (pv 1) pa_nil)) (pe_call G__law_whole hr__law_whole rfl T._law_whole F__law_whole.kp b__law_whole .nil pass0 (pa_cons (pv 0) pa_nil)) (nomark _)) (pss_one (ps_ret pe_bl)) pss_nil)))))))
   (pss_one (ps_ret (pe_cmpR (op_eqA hu0) (pv 0) (pv 1) (nomark _))))), ?_⟩
  have hcase : (∃ v, Scl v ∧ f = v ∧ u = v) ∨ ∃ (p q : Addr) (ls : List (List Nat)), f = .ref p ∧ u = .ref q ∧ H p = some (.lst (ls.map sv)) ∧ H q = some (.lst (ls.map sv)) := by
   cases a with
   | bool b => exact .inl ⟨.bl b, .inr (.inl ⟨b, rfl⟩), hf, hu'⟩
   | num n => exact .inl ⟨.int n, .inr (.inr (.inl ⟨_, rfl⟩)), hf, hu'⟩
   | opt o =>
    cases o with
    | none => exact .inl ⟨.non, .inl rfl, hf, hu'⟩
    | some w => exact .inl ⟨sv w, .inr (.inr (.inr ⟨_, rfl⟩)), hf, hu'⟩
   | words ls =>
    obtain ⟨p, e1, hp⟩ := hf
    obtain ⟨q, e2, hq⟩ := hu'
    exact .inr ⟨p, q, ls, e1, e2, hp, hq⟩
  rcases hcase with ⟨v, hv, rfl, rfl⟩ | ⟨p, q, ls, rfl, rfl, hp, hq⟩
  ·refine ⟨fun σ' H' => (∃ x, σ' = [some u, some u, x]) ∧ H' = H, ?_, ?_⟩
   ·rintro σ' H' ⟨⟨x, rfl⟩, eH⟩
    have eH' := eH.symm
    subst eH'
    refine ⟨_, rfl, _, rfl, .inl ⟨hv.self, ?_⟩⟩
    rw [decide_eq_true rfl]
    exact k
   ·refine ⟨_, rfl, _, tyN u, _, _, rfl, hv.ty, hv.kit (by simp), _, rfl, ?_⟩
    refine iteD0 hv.nolist ?_
    refine ⟨_, rfl, _, tyN u, _, _, rfl, hv.ty, hv.kit (by simp), _, rfl, _, tyN u, _, _, rfl, hv.ty, hv.kit (by simp), rfl, _, rfl, iteNS rfl ?_⟩
    refine ⟨_, rfl, _, tyN u, _, _, rfl, hv.ty, hv.kit (by simp), _, rfl, _, tyN u, _, _, rfl, hv.ty, hv.kit (by simp), rfl, _, rfl, iteNS rfl ?_⟩
    exact ⟨_, rfl, u, rfl, hv, _, rfl, u, rfl, hv, rfl, _, rfl, iteNS rfl ⟨⟨_, rfl⟩, rfl⟩⟩
  ·refine ⟨fun σ' H' => (∃ x, σ' = [some (.ref p), some (.ref q), x]) ∧ H' = H, ?_, ?_⟩
   ·rintro σ' H' ⟨⟨x, rfl⟩, rfl⟩
    exact ⟨_, rfl, _, rfl, .inr ⟨p, q, ls, rfl, rfl, SqL.of hp, SqL.of hq, k⟩⟩
   ·refine ⟨_, rfl, _, "list", _, true, rfl, TyOf.lst hq, isi_list_list, true, rfl, iteT ?_⟩
    refine ⟨_, rfl, _, "list", _, true, rfl, TyOf.lst hp, isi_list_list, true, rfl, iteF ?_⟩
    refine ⟨_, rfl, _, _, rfl, .inl ⟨_, SqL.of hp, rfl⟩, _, rfl, _, _, rfl, .inl ⟨_, SqL.of hq, rfl⟩, rfl, _, rfl, iteNS rfl ?_⟩
    refine ⟨_, rfl, p, rfl, ⟨_, SqL.of hp⟩, for_list (K := K) (a := p) (xs := ls.map sv) (fun i σ' H' => (∃ x, σ' = [some (.ref p), some (.ref q), x]) ∧ H' = H) ⟨⟨_, rfl⟩, rfl⟩ (fun i σ' H' _ z => by rw [z.2]; exact SqL.of hp) ?_ ?_⟩
    ·rintro i x σ' H' hx ⟨⟨y, rfl⟩, rfl⟩
     obtain ⟨t, _, rfl⟩ := get_sv hx
     exact ⟨_, rfl, _, "str", _, true, rfl, TyOf.str _, isi_str_str, true, rfl, iteF ⟨⟨_, rfl⟩, rfl⟩⟩
    ·rintro σ' H' ⟨⟨y, rfl⟩, rfl⟩
     exact ⟨⟨_, rfl⟩, rfl⟩
end
end K07
set_option maxHeartbeats 4000000
namespace K07
open PySem L2 WH
theorem cut_pre (t w : List Nat) : decide (V.str (S (cutN w none (some ((S t).length : Int)))) = sv t) = t.isPrefixOf w := by
 rw [S_len, cutN_to, dec_S, pre_take]
theorem filt_step {α : Type} {l : List α} {i : Nat} {x : α} {p : α → Bool} (h : l[i]? = some x) : (l.take (i + 1)).filter p = if p x = true then (l.take i).filter p ++ [x] else (l.take i).filter p := by
 rw [List.take_succ, h]
 show (l.take i ++ [x]).filter p = _
 rw [List.filter_append, List.filter_cons]
 split <;> simp
theorem last_opt (l : List (List Nat)) : atI ([V.non] ++ l.map sv) (-1) = some (optV l.getLast?) := by
 rcases List.eq_nil_or_concat l with e | ⟨l', w, e⟩
 ·subst e
  rfl
 ·rw [List.concat_eq_append] at e
  subst e
  rw [List.map_append, ← List.append_assoc, List.getLast?_append]
  exact atI_last _ _
section
variable {P : Program} {w : World} {K : PySem.W.Frag} {mg : Str → Option Value} {base : Heap}
theorem scRe : FnScope ["_law_words", "_law_deed", "_law_row", "_law_fit", "_law_here"] ["_law_words", "_law_deed"] (defScope sReply) := ⟨rfl, rfl, rfl, by decide +kernel, rfl, by decide +kernel, by decide +kernel⟩
theorem ok_reply {f fW : Addr} {fd : FuncData} (F : Fun K "_law_reply" "_law_reply" sReply f fd) (T : KTxt mg fW) : FnOk P w K mg base CX0 1 f fd ["_law_words", "_law_deed"] (spReply K) := by
 refine F.ok scRe (fun vs H Q E h => ?_) (fun cdv AA outer s H vs Q E hr h => ?_)
 ·obtain ⟨d, p, W, dd, rfl, _⟩ := h
  rfl
 ·obtain ⟨d, p, W, dd, rfl, hd, hdp, hF, hnd, h64, hwl, k⟩ := h
  have nd := scRe.nd
  have hu := hu_of hr
  have hsz := sizeLine_eq
  have hsl : (srt W).length = W.length := (srt_perm W).length_eq
  refine ⟨_, (pss_cons (ps_set (i := 2) nd rfl (Or.inl rfl) (pe_callB call_sortedS rfl T.sorted boot_sorted_ (pa_cons (pe_callTy (call_list_dict rfl) rfl T.list boot_list (pa_cons (pv 0) pa_nil)) pa_nil)))
   (pss_cons (ps_if (pt_cmpR op_eq (pe_ix ix_tup (pv 1) pe_int (fun _ _ => rfl)) pe_str (nomark _)) (pss_one (ps_ret (pe_lc (defScope sReply) [1] ["_law_deed"]  rfl rfl (by decide +kernel) ⟨⟨rfl, rfl, rfl⟩, trivial⟩ (pi_list (pv 2)) (fun _ _ _ _ _ => pif_one (pt_cmpR op_eq (pe_slice sl_str (pv 1) po_none (po_some (pe_callB call_len_str rfl T.len PySem.boot_len (pa_cons (pe_ix (r := rIxT K) ix_tup (pv 0) pe_int (fun _ _ => rfl)) pa_nil)))) (pe_ix (r := rIxT K) ix_tup (pv 0) pe_int (fun _ _ => rfl)) (nomark _))) (fun _ _ _ _ _ => (pv 1))))) pss_nil)
   (pss_cons (ps_if (pt_cmpR op_eq (pe_ix ix_tup (pv 1) pe_int (fun _ _ => rfl)) pe_str (nomark _)) (pss_one (ps_ret (pe_callB call_len rfl T.len PySem.boot_len (pa_cons (pe_lc (defScope sReply) [1] ["_law_deed"]  rfl rfl (by decide +kernel) ⟨⟨rfl, rfl, rfl⟩, trivial⟩ (pi_list (pv 2)) (fun _ _ _ _ _ => pif_one (pt_cmpR op_ltN (pv 1) (pe_ix (r := rIxT K) ix_tup (pv 0) pe_int (fun _ _ => rfl)) (nomark _))) (fun _ _ _ _ _ => (pv 1))) pa_nil)))) pss_nil)
   (pss_cons (ps_if (pt_cmpR op_eq (pe_ix ix_tup (pv 1) pe_int (fun _ _ => rfl)) pe_str (nomark _)) (pss_one (ps_ret (pe_ix ix_list (pe_op op_cat (pe_op op_cat (pe_lst (pa_cons pe_non pa_nil)) (pv 2)) (pe_lst (pa_cons pe_non pa_nil))) (pe_callB (call_max2 rfl) rfl T.max PyProof.Rows.boot_max (pa_cons pe_int (pa_cons (pe_callB (call_min2 rfl) rfl T.min PyProof.Rows.boot_min (pa_cons (pe_op op_add (pe_callB call_len rfl T.len PySem.boot_len (pa_cons (pv 2) pa_nil)) pe_int) (pa_cons (pe_op op_add (pe_ix ix_tup (pv 1) pe_int (fun _ _ => rfl)) pe_int) pa_nil))) pa_nil))) (fun _ _ => rfl)))) pss_nil)
   (pss_cons (ps_if (pt_cmpR op_eq (pe_ix ix_tup (pv 1) pe_int (fun _ _ => rfl)) pe_str (nomark _)) (pss_cons (ps_setLc (i := 3) (defScope sReply) [1] ["_law_deed"] nd rfl (Or.inl rfl) rfl rfl (by decide +kernel) ⟨⟨rfl, rfl, rfl⟩, trivial⟩ (pi_list (pv 2)) (fun _ _ _ _ _ => pif_one (pt_cmpR op_eq (pe_slice sl_str (pe_ix (r := rIxT K) ix_tup (pv 0) pe_int (fun _ _ => rfl)) po_none (po_some (pe_callB call_len_str rfl T.len PySem.boot_len (pa_cons (pv 1) pa_nil)))) (pv 1) (nomark _))) (fun _ _ _ _ _ => (pv 1)))
   (pss_one (ps_ret (pe_ix ix_list (pe_op op_cat (pe_lst (pa_cons pe_non pa_nil)) (pv 3)) (pe_un un_neg pe_int) (fun _ _ => rfl))))) pss_nil)
   (pss_cons (ps_set (i := 4) nd rfl (Or.inl rfl) (pe_cmp (pc_din hu (pe_ix ix_tup (pv 1) pe_int (fun _ _ => rfl)) (pv 0))))
   (pss_cons (ps_if (pt_cmpR op_eq (pe_ix ix_tup (pv 1) pe_int (fun _ _ => rfl)) pe_str (nomark _)) (pss_cons (ps_dput hu (pv 0) (pe_ix ix_tup (pv 1) pe_int (fun _ _ => rfl)) pe_bl rfl)
   (pss_one (ps_ret (pe_not (pv 4))))) pss_nil)
   (pss_consM (ps_if (pt_cmpR op_eq (pe_ix ix_tup (pv 1) pe_int (fun _ _ => rfl)) pe_str (nomark _)) (pss_one (ps_expr (pe_dpop2 (pv 0) (pe_ix ix_tup (pv 1) pe_int (fun _ _ => rfl)) pe_non ⟨rfl, rfl, rfl, rfl⟩))) pss_nil)
   (pss_one (ps_ret (pv 4))))))))))), ?_⟩
  refine ⟨_, rfl, d, _, rfl, hd, fun q hq => ?_⟩
  rw [wd_keys]
  refine ⟨q, W, rfl, SqL.of upd_same, h64, fun ls' hperm hpw r hr' => ?_⟩
  have els : ls' = srt W := srt_eq hperm hpw
  subst els
  obtain ⟨H1, hH1⟩ : ∃ H1, H1 = upd (upd H q (.lst (W.map sv))) r (.lst ((srt W).map sv)) := ⟨_, rfl⟩
  rw [← hH1]
  have s1 : Same H H1 := by
   rw [hH1]
   exact (same_new hq).trans (same_new hr')
  have e1 : H1 r = some (.lst ((srt W).map sv)) := by
   rw [hH1]
   exact upd_same
  have hd1 : H1 d = some (.dK (wd W)) := s1 _ _ hd
  have hp1 : H1 p = some (.tup [.str dd.name, dd.arg]) := s1 _ _ hdp
  have asks : ∀ {H2 : Hp}, stepW W dd = W → Same H1 H2 → H2 d = some (.dK (wd (stepW W dd))) ∧ ∀ b o, H b = some o → b ≠ d → H2 b = some o := fun {H2} e s2 => by
   rw [e]
   exact ⟨s2 _ _ hd1, fun b o z _ => s2 _ _ (s1 _ _ z)⟩
  have hlen : ∀ w ∈ srt W, w.length ≤ 110 := fun w hw => hwl w ((srt_perm W).mem_iff.mp hw)
  rcases hF with ⟨z, rfl⟩ | ⟨x, hc, hx1, hx2⟩ | ⟨t, rfl, ht1, ht2⟩ | ⟨t, rfl, ht1, ht2⟩ | ⟨t, rfl, ht1, ht2⟩
  ·-- at
   refine ⟨_, rfl, p, _, _, _, rfl, rfl, SqT.of hp1, rfl, rfl, _, rfl, iteD0 ((dname (.at_ z) (.all [])).trans rfl) ?_⟩
   refine ⟨_, rfl, p, _, _, _, rfl, rfl, SqT.of hp1, rfl, rfl, _, rfl, iteD0 ((dname (.at_ z) (.ahead [])).trans rfl) ?_⟩
   refine ⟨_, rfl, p, _, _, _, rfl, rfl, SqT.of hp1, rfl, rfl, _, rfl, iteD1 ((dname (.at_ z) (.at_ 0)).trans rfl) ?_⟩
   refine ⟨(by show 1 ≤ _; omega), fun n1 h1 => ⟨_, rfl, n1, r, _, _, rfl, rfl, upd_same, (same_new h1) _ _ e1, (by rw [List.length_map]; show 1 + _ ≤ _; omega), fun n2 h2 => ⟨(by show 1 ≤ _; omega), fun n3 h3 => ⟨n2, n3, _, _, rfl, rfl, (same_new h3) _ _ upd_same, upd_same, (by rw [List.length_append, List.length_map]; show 1 + _ + 1 ≤ _; omega), fun n4 h4 => ?_⟩⟩⟩⟩
   have s2 := (((same_new (o := .lst [V.non]) h1).trans (same_new (o := .lst ([V.non] ++ (srt W).map sv)) h2)).trans (same_new (o := .lst [V.non]) h3)).trans (same_new (o := .lst ([V.non] ++ (srt W).map sv ++ [V.non])) h4)
   have hrow := s2 _ _ e1
   have hdp2 := s2 _ _ hp1
   refine ⟨_, rfl, _, _, rfl, .inl ⟨_, SqL.of hrow, rfl⟩, _, _, rfl, rfl, _, rfl, p, _, _, _, rfl, rfl, SqT.of hdp2, rfl, _, _, rfl, rfl, _, _, rfl, _, _, rfl, ?_⟩
   obtain ⟨a1, a2⟩ := asks (H2 := _) rfl s2
   refine ⟨n4, _, _, optV (if 0 ≤ z then (srt W)[z.toNat]? else none), rfl, rfl, SqL.of upd_same, ?_, k _ _ (optV_at _ _) a1 a2⟩
   have hlm : ((srt W).map sv).length = W.length := by rw [List.length_map, hsl]
   rw [hlm]
   by_cases hz : 0 ≤ z
   ·rw [if_pos hz]
    obtain ⟨n, rfl⟩ : ∃ n : Nat, z = (n : Int) := ⟨z.toNat, by omega⟩
    by_cases hn : n < W.length
    ·have ei : (if (if ((n : Int) + 1 < (W.length : Int) + 1) then ((n : Int) + 1) else ((W.length : Int) + 1)) > 0 then (if ((n : Int) + 1 < (W.length : Int) + 1) then ((n : Int) + 1) else ((W.length : Int) + 1)) else 0) = ((n + 1 : Nat) : Int) := by
      rw [if_pos (show (n : Int) + 1 < (W.length : Int) + 1 by omega), if_pos (by omega)]
      rfl
     rw [ei]
     refine atI_nat ?_
     show (V.non :: ((srt W).map sv) ++ [V.non])[n + 1]? = _
     rw [List.getElem?_append_left (by rw [List.length_cons, hlm]; omega), List.getElem?_cons_succ, List.getElem?_map]
     have hn' : n < (srt W).length := by omega
     show Option.map sv (srt W)[n]? = some (optV (srt W)[n]?)
     rw [List.getElem?_eq_getElem hn']
     rfl
    ·have ei : (if (if ((n : Int) + 1 < (W.length : Int) + 1) then ((n : Int) + 1) else ((W.length : Int) + 1)) > 0 then (if ((n : Int) + 1 < (W.length : Int) + 1) then ((n : Int) + 1) else ((W.length : Int) + 1)) else 0) = ((W.length + 1 : Nat) : Int) := by
      rw [if_neg (show ¬ (n : Int) + 1 < (W.length : Int) + 1 by omega), if_pos (by omega)]
      rfl
     rw [ei]
     refine atI_nat ?_
     show (V.non :: ((srt W).map sv) ++ [V.non])[W.length + 1]? = _
     rw [List.getElem?_append_right (by rw [List.length_cons, hlm]; omega), List.length_cons, hlm, Nat.sub_self, List.getElem?_eq_none (show (srt W).length ≤ (n : Int).toNat by omega)]
     rfl
   ·rw [if_neg hz]
    have ei : (if (if (z + 1 < (W.length : Int) + 1) then (z + 1) else ((W.length : Int) + 1)) > 0 then (if (z + 1 < (W.length : Int) + 1) then (z + 1) else ((W.length : Int) + 1)) else 0) = ((0 : Nat) : Int) := by
     rw [if_pos (show z + 1 < (W.length : Int) + 1 by omega), if_neg (by omega)]
     rfl
    rw [ei]
    exact atI_nat rfl
  ·-- put, take, has
   have deed : ∀ (dd' : Deed), dd = dd' → True := fun _ _ => trivial
   rcases hc with rfl | rfl | rfl
   ·refine ⟨_, rfl, p, _, _, _, rfl, rfl, SqT.of hp1, rfl, rfl, _, rfl, iteD0 ((dname (.put x) (.all [])).trans rfl) ?_⟩
    refine ⟨_, rfl, p, _, _, _, rfl, rfl, SqT.of hp1, rfl, rfl, _, rfl, iteD0 ((dname (.put x) (.ahead [])).trans rfl) ?_⟩
    refine ⟨_, rfl, p, _, _, _, rfl, rfl, SqT.of hp1, rfl, rfl, _, rfl, iteD0 ((dname (.put x) (.at_ 0)).trans rfl) ?_⟩
    refine ⟨_, rfl, p, _, _, _, rfl, rfl, SqT.of hp1, rfl, rfl, _, rfl, iteD0 ((dname (.put x) (.longest [])).trans rfl) ?_⟩
    refine ⟨_, rfl, p, _, _, _, rfl, rfl, SqT.of hp1, rfl, _, rfl, d, _, rfl, DGet.k (k := Sum.inr (S x)) hd1, ?_⟩
    rw [wd_val]
    refine ⟨_, rfl, p, _, _, _, rfl, rfl, SqT.of hp1, rfl, rfl, _, rfl, iteD1 ((dname (.put x) (.put [])).trans rfl) ?_⟩
    refine ⟨_, rfl, _, rfl, p, _, _, _, rfl, rfl, SqT.of hp1, rfl, d, _, rfl, DPut.k (k := Sum.inr (S x)) hd1 (by unfold wd; rw [List.length_map]; omega), ?_⟩
    rw [wd_put]
    refine ⟨_, rfl, _, rfl, k _ _ ?_ upd_same fun b o z hb => by rw [upd_ne hb]; exact s1 _ _ z⟩
    show V.bl _ = V.bl _
    congr 1
    by_cases m : x ∈ W
    ·rw [if_pos m, decide_eq_true m]; rfl
    ·rw [if_neg m, decide_eq_false m]; rfl
   ·refine ⟨_, rfl, p, _, _, _, rfl, rfl, SqT.of hp1, rfl, rfl, _, rfl, iteD0 ((dname (.take x) (.all [])).trans rfl) ?_⟩
    refine ⟨_, rfl, p, _, _, _, rfl, rfl, SqT.of hp1, rfl, rfl, _, rfl, iteD0 ((dname (.take x) (.ahead [])).trans rfl) ?_⟩
    refine ⟨_, rfl, p, _, _, _, rfl, rfl, SqT.of hp1, rfl, rfl, _, rfl, iteD0 ((dname (.take x) (.at_ 0)).trans rfl) ?_⟩
    refine ⟨_, rfl, p, _, _, _, rfl, rfl, SqT.of hp1, rfl, rfl, _, rfl, iteD0 ((dname (.take x) (.longest [])).trans rfl) ?_⟩
    refine ⟨_, rfl, p, _, _, _, rfl, rfl, SqT.of hp1, rfl, _, rfl, d, _, rfl, DGet.k (k := Sum.inr (S x)) hd1, ?_⟩
    rw [wd_val]
    refine ⟨_, rfl, p, _, _, _, rfl, rfl, SqT.of hp1, rfl, rfl, _, rfl, iteD0 ((dname (.take x) (.put [])).trans rfl) ?_⟩
    have eb : (if x ∈ W then some (V.bl true) else none).isSome = decide (x ∈ W) := by
     by_cases m : x ∈ W
     ·rw [if_pos m, decide_eq_true m]; rfl
     ·rw [if_neg m, decide_eq_false m]; rfl
    refine ⟨fun σ' H2 => (∃ x3, σ' = [some (.ref d), some (.ref p), some (.ref r), x3, some (.bl (decide (x ∈ W)))]) ∧ H2 d = some (.dK (wd (W.erase x))) ∧ ∀ b o, H b = some o → b ≠ d → H2 b = some o, ?_, ?_⟩
    ·rintro σ' H2 ⟨⟨x3, rfl⟩, g1, g2⟩
     exact ⟨_, rfl, k _ _ rfl g1 g2⟩
    ·refine ⟨_, rfl, p, _, _, _, rfl, rfl, SqT.of hp1, rfl, rfl, _, rfl, iteD1 ((dname (.take x) (.take [])).trans rfl) ?_⟩
     refine ⟨_, rfl, d, rfl, .inl ⟨_, .inl hd1⟩, _, rfl, p, _, _, _, rfl, rfl, SqT.of hp1, rfl, wd W, Sum.inr (S x), hd1, rfl, fun v hv => ?_, fun hv => ?_⟩
     ·rw [wd_drop hnd]
      refine ⟨⟨none, ?_⟩, upd_same, fun b o z hb => by rw [upd_ne hb]; exact s1 _ _ z⟩
      rw [← eb]
      rfl
     ·rw [wd_val] at hv
      have m : x ∉ W := fun m => by rw [if_pos m] at hv; cases hv
      refine ⟨⟨none, ?_⟩, by rw [List.erase_of_not_mem m]; exact hd1, fun b o z _ => s1 _ _ z⟩
      rw [← eb]
      rfl
   ·refine ⟨_, rfl, p, _, _, _, rfl, rfl, SqT.of hp1, rfl, rfl, _, rfl, iteD0 ((dname (.has x) (.all [])).trans rfl) ?_⟩
    refine ⟨_, rfl, p, _, _, _, rfl, rfl, SqT.of hp1, rfl, rfl, _, rfl, iteD0 ((dname (.has x) (.ahead [])).trans rfl) ?_⟩
    refine ⟨_, rfl, p, _, _, _, rfl, rfl, SqT.of hp1, rfl, rfl, _, rfl, iteD0 ((dname (.has x) (.at_ 0)).trans rfl) ?_⟩
    refine ⟨_, rfl, p, _, _, _, rfl, rfl, SqT.of hp1, rfl, rfl, _, rfl, iteD0 ((dname (.has x) (.longest [])).trans rfl) ?_⟩
    refine ⟨_, rfl, p, _, _, _, rfl, rfl, SqT.of hp1, rfl, _, rfl, d, _, rfl, DGet.k (k := Sum.inr (S x)) hd1, ?_⟩
    rw [wd_val]
    have eb : (if x ∈ W then some (V.bl true) else none).isSome = decide (x ∈ W) := by
     by_cases m : x ∈ W
     ·rw [if_pos m, decide_eq_true m]; rfl
     ·rw [if_neg m, decide_eq_false m]; rfl
    refine ⟨_, rfl, p, _, _, _, rfl, rfl, SqT.of hp1, rfl, rfl, _, rfl, iteD0 ((dname (.has x) (.put [])).trans rfl) ?_⟩
    refine ⟨fun σ' H2 => (∃ x3, σ' = [some (.ref d), some (.ref p), some (.ref r), x3, some (.bl (decide (x ∈ W)))]) ∧ H2 = H1, ?_, ?_⟩
    ·rintro σ' H2 ⟨⟨x3, rfl⟩, rfl⟩
     obtain ⟨a1, a2⟩ := asks rfl (Same.refl H2)
     exact ⟨_, rfl, k _ _ rfl a1 a2⟩
    ·refine ⟨_, rfl, p, _, _, _, rfl, rfl, SqT.of hp1, rfl, rfl, _, rfl, iteD0 ((dname (.has x) (.take [])).trans rfl) ⟨⟨none, ?_⟩, rfl⟩⟩
     rw [← eb]
     rfl
  ·-- all
   refine ⟨_, rfl, p, _, _, _, rfl, rfl, SqT.of hp1, rfl, rfl, _, rfl, iteD1 ((dname (.all t) (.all [])).trans rfl) ?_⟩
   refine ⟨_, rfl, r, rfl, ⟨_, SqL.of e1⟩, lc_list (K := K) (a := r) (xs := (srt W).map sv) (fun i acc H2 => acc = (((srt W).take i).filter fun w => t.isPrefixOf w).map sv ∧ H2 = H1) (by rw [List.length_map]; omega) ⟨rfl, rfl⟩ (fun i acc H2 z => ?_) (fun i acc H2 _ z => by rw [z.2]; exact SqL.of e1) ?_ ?_⟩
   ·rw [z.1, List.length_map]
    exact Nat.le_trans (List.length_filter_le _ _) (List.length_take_le ..)
   ·rintro i y acc H2 hy ⟨rfl, rfl⟩
    obtain ⟨w', hw', rfl⟩ := get_sv hy
    have hwl' := hlen w' (List.mem_of_getElem? hw')
    refine ⟨_, rfl, _, rfl, p, _, _, _, rfl, rfl, SqT.of hp1, rfl, S t, rfl, (by rw [S_len]; omega), _, rfl, w', rfl, (by omega), _, rfl, p, _, _, _, rfl, rfl, SqT.of hp1, rfl, rfl, _, rfl, ?_⟩
    rw [filt_step hw']
    by_cases hpre : t.isPrefixOf w' = true
    ·refine iteD1 ((cut_pre t w').trans hpre) ⟨_, rfl, ?_, rfl⟩
     rw [if_pos hpre, List.map_append]
     rfl
    ·refine iteD0 ((cut_pre t w').trans (Bool.eq_false_iff.mpr hpre)) ⟨?_, rfl⟩
     rw [if_neg hpre]
   ·rintro acc H2 ⟨rfl, rfl⟩ q2 hq2
    rw [List.length_map, List.take_length]
    obtain ⟨a1, a2⟩ := asks rfl (same_new (o := .lst (((srt W).filter fun w => t.isPrefixOf w).map sv)) hq2)
    exact k _ _ ⟨q2, rfl, upd_same⟩ a1 a2
  ·-- longest
   refine ⟨_, rfl, p, _, _, _, rfl, rfl, SqT.of hp1, rfl, rfl, _, rfl, iteD0 ((dname (.longest t) (.all [])).trans rfl) ?_⟩
   refine ⟨_, rfl, p, _, _, _, rfl, rfl, SqT.of hp1, rfl, rfl, _, rfl, iteD0 ((dname (.longest t) (.ahead [])).trans rfl) ?_⟩
   refine ⟨_, rfl, p, _, _, _, rfl, rfl, SqT.of hp1, rfl, rfl, _, rfl, iteD0 ((dname (.longest t) (.at_ 0)).trans rfl) ?_⟩
   refine ⟨_, rfl, p, _, _, _, rfl, rfl, SqT.of hp1, rfl, rfl, _, rfl, iteD1 ((dname (.longest t) (.longest [])).trans rfl) ?_⟩
   refine ⟨_, rfl, r, rfl, ⟨_, SqL.of e1⟩, lc_list (K := K) (a := r) (xs := (srt W).map sv) (fun i acc H2 => acc = (((srt W).take i).filter fun w => w.isPrefixOf t).map sv ∧ H2 = H1) (by rw [List.length_map]; omega) ⟨rfl, rfl⟩ (fun i acc H2 z => ?_) (fun i acc H2 _ z => by rw [z.2]; exact SqL.of e1) ?_ ?_⟩
   ·rw [z.1, List.length_map]
    exact Nat.le_trans (List.length_filter_le _ _) (List.length_take_le ..)
   ·rintro i y acc H2 hy ⟨rfl, rfl⟩
    obtain ⟨w', hw', rfl⟩ := get_sv hy
    have hwl' := hlen w' (List.mem_of_getElem? hw')
    refine ⟨_, rfl, p, _, _, _, rfl, rfl, SqT.of hp1, rfl, _, rfl, S w', rfl, (by rw [S_len]; omega), _, rfl, t, rfl, (by omega), _, rfl, rfl, _, rfl, ?_⟩
    rw [filt_step hw']
    by_cases hpre : w'.isPrefixOf t = true
    ·refine iteD1 ((cut_pre w' t).trans hpre) ⟨_, rfl, ?_, rfl⟩
     rw [if_pos hpre, List.map_append]
     rfl
    ·refine iteD0 ((cut_pre w' t).trans (Bool.eq_false_iff.mpr hpre)) ⟨?_, rfl⟩
     rw [if_neg hpre]
   ·rintro acc H2 ⟨rfl, rfl⟩ q2 hq2
    rw [List.length_map, List.take_length]
    have hfl : ((srt W).filter fun w => w.isPrefixOf t).length ≤ W.length := Nat.le_trans (List.length_filter_le _ _) (by omega)
    refine ⟨(by show 1 ≤ _; omega), fun n1 h1 => ⟨_, rfl, n1, q2, _, _, rfl, rfl, upd_same, (same_new h1) _ _ upd_same, (by rw [List.length_map]; show 1 + _ ≤ _; omega), fun n2 h2 => ?_⟩⟩
    have s2 := ((same_new (o := .lst (((srt W).filter fun w => w.isPrefixOf t).map sv)) hq2).trans (same_new (o := .lst [V.non]) h1)).trans (same_new (o := .lst ([V.non] ++ ((srt W).filter fun w => w.isPrefixOf t).map sv)) h2)
    obtain ⟨a1, a2⟩ := asks rfl s2
    exact ⟨_, rfl, n2, _, _, _, rfl, rfl, SqL.of upd_same, last_opt _, k _ _ (optV_at _ _) a1 a2⟩
  ·-- ahead
   refine ⟨_, rfl, p, _, _, _, rfl, rfl, SqT.of hp1, rfl, rfl, _, rfl, iteD0 ((dname (.ahead t) (.all [])).trans rfl) ?_⟩
   refine ⟨_, rfl, p, _, _, _, rfl, rfl, SqT.of hp1, rfl, rfl, _, rfl, iteD1 ((dname (.ahead t) (.ahead [])).trans rfl) ?_⟩
   refine ⟨_, rfl, r, rfl, ⟨_, SqL.of e1⟩, lc_list (K := K) (a := r) (xs := (srt W).map sv) (fun i acc H2 => acc = (((srt W).take i).filter fun w => decide (w < t)).map sv ∧ H2 = H1) (by rw [List.length_map]; omega) ⟨rfl, rfl⟩ (fun i acc H2 z => ?_) (fun i acc H2 _ z => by rw [z.2]; exact SqL.of e1) ?_ ?_⟩
   ·rw [z.1, List.length_map]
    exact Nat.le_trans (List.length_filter_le _ _) (List.length_take_le ..)
   ·rintro i y acc H2 hy ⟨rfl, rfl⟩
    obtain ⟨w', hw', rfl⟩ := get_sv hy
    refine ⟨_, rfl, _, rfl, p, _, _, _, rfl, rfl, SqT.of hp1, rfl, w', t, rfl, rfl, _, rfl, ?_⟩
    rw [filt_step hw']
    by_cases hpre : w' < t
    ·refine iteD1 (decide_eq_true hpre) ⟨_, rfl, ?_, rfl⟩
     rw [if_pos (decide_eq_true hpre), List.map_append]
     rfl
    ·refine iteD0 (decide_eq_false hpre) ⟨?_, rfl⟩
     rw [if_neg (by rw [decide_eq_false hpre]; decide)]
   ·rintro acc H2 ⟨rfl, rfl⟩ q2 hq2
    rw [List.length_map, List.take_length]
    obtain ⟨a1, a2⟩ := asks rfl (same_new (o := .lst (((srt W).filter fun w => decide (w < t)).map sv)) hq2)
    refine ⟨_, _, rfl, .inl ⟨_, SqL.of upd_same, rfl⟩, k _ _ ?_ a1 a2⟩
    show V.int _ = V.int _
    rw [List.length_map, ((srt_perm W).filter _).length_eq]
end
end K07
set_option maxHeartbeats 4000000
namespace K07
open PySem L2 WH
abbrev sTwigsOf : Stmt := top 20
def DictC (kvs : List (Key × V)) (f : List Nat → Nat) : Prop := ∃ ls : List (List Nat), kvs.map (·.1) = ls.map (fun t => (Sum.inr (S t) : Key)) ∧ ls.Nodup ∧ (∀ t, t ∈ ls ↔ 0 < f t) ∧ ∀ t, valV kvs (Sum.inr (S t) : Key) = if 0 < f t then some (.int (f t : Nat)) else none
theorem putK_keys (kvs : List (Key × V)) (k : Key) (v : V) : (putK kvs k v).map (·.1) = if (valV kvs k).isSome = true then kvs.map (·.1) else kvs.map (·.1) ++ [k] := by
 unfold putK
 rw [valV_any]
 split
 ·rw [List.map_map]
  refine List.map_congr_left fun kv _ => ?_
  show (if kv.1 = k then (kv.1, v) else kv).1 = kv.1
  split <;> rfl
 ·rw [List.map_append]
  rfl
theorem DictC.nil : DictC [] fun _ => 0 := ⟨[], rfl, List.nodup_nil, fun t => by simp, fun t => rfl⟩
theorem DictC.put {kvs : List (Key × V)} {f : List Nat → Nat} (h : DictC kvs f) (t : List Nat) : DictC (putK kvs (Sum.inr (S t) : Key) (.int ((f t : Nat) + 1 : Int))) fun u => if u = t then f t + 1 else f u := by
 obtain ⟨ls, h1, h2, h3, h4⟩ := h
 have hv : ∀ u, valV (putK kvs (Sum.inr (S t) : Key) (.int ((f t : Nat) + 1 : Int))) (Sum.inr (S u) : Key) = if 0 < (if u = t then f t + 1 else f u) then some (.int ((if u = t then f t + 1 else f u : Nat))) else none := fun u => by
  rw [valV_put]
  by_cases e : u = t
  ·subst e
   rw [if_pos rfl, if_pos rfl, if_pos (Nat.succ_pos _)]
   rfl
  ·rw [if_neg (fun z => e (S_inj (Sum.inr.inj z))), if_neg e, h4]
 by_cases m : 0 < f t
 ·refine ⟨ls, ?_, h2, fun u => ?_, hv⟩
  ·rw [putK_keys, h4, if_pos m, if_pos (show (some (V.int (f t : Nat))).isSome = true from rfl), h1]
  ·rw [h3]
   show 0 < f u ↔ 0 < (if u = t then f t + 1 else f u)
   by_cases e : u = t
   ·subst e
    rw [if_pos rfl]
    omega
   ·rw [if_neg e]
 ·have hn : t ∉ ls := fun z => m ((h3 t).mp z)
  refine ⟨ls ++ [t], ?_, ?_, fun u => ?_, hv⟩
  ·rw [putK_keys, h4, if_neg m, if_neg (by decide), h1, List.map_append]
   rfl
  ·rw [List.nodup_append]
   refine ⟨h2, by simp, fun a ha b hb => ?_⟩
   rw [List.mem_singleton.mp hb]
   rintro rfl
   exact hn ha
  ·rw [List.mem_append, List.mem_singleton, h3]
   show 0 < f u ∨ u = t ↔ 0 < (if u = t then f t + 1 else f u)
   by_cases e : u = t
   ·rw [if_pos e]
    exact ⟨fun _ => Nat.succ_pos _, fun _ => .inr e⟩
   ·rw [if_neg e]
    exact ⟨fun z => z.elim id fun z => absurd z e, .inl⟩
theorem DictC.to {kvs : List (Key × V)} {f g : List Nat → Nat} (h : DictC kvs f) (e : ∀ t, f t = g t) : DictC kvs g := by
 have : f = g := funext e
 rw [← this]
 exact h
def spTwigsOf (K : PySem.W.Frag) : Sp := fun vs H Q _ => ∃ (d : Addr) (W : List (List Nat)), vs = [.ref d] ∧ H d = some (.dK (wd W)) ∧ W.Nodup ∧ W.length < 64 ∧ (∀ w ∈ W, w.length ≤ 110) ∧
 ∀ (l : Addr) (qs : List Addr) (ts : List (List Nat)) (H' : Hp), BegsOf W ts → ts.length ≤ 7100 → H l = none → H' l = some (.lst (qs.map V.ref)) → TwigsAt W H' qs ts → Same H H' → Q (.ref l) H'
def fJ (W : List (List Nat)) (w : List Nat) (i j : Nat) : List Nat → Nat := fun t => cnt (W.take i) t + if t <+: w ∧ t.length < j then 1 else 0
theorem fJ_step {W : List (List Nat)} {w : List Nat} {i j : Nat} (hj : j ≤ w.length) (t : List Nat) : (if t = w.take j then fJ W w i j (w.take j) + 1 else fJ W w i j t) = fJ W w i (j + 1) t := by
 have hl : (w.take j).length = j := by rw [List.length_take]; omega
 by_cases e : t = w.take j
 ·rw [if_pos e, e]
  unfold fJ
  rw [if_neg (by rw [hl]; exact fun z => Nat.lt_irrefl _ z.2), if_pos ⟨take_pre w j, by rw [hl]; omega⟩]
 ·rw [if_neg e]
  unfold fJ
  by_cases q : t <+: w ∧ t.length < j
  ·rw [if_pos q, if_pos ⟨q.1, by omega⟩]
  ·rw [if_neg q, if_neg]
   rintro ⟨q1, q2⟩
   have : t.length = j := by
    rcases Nat.lt_or_ge t.length j with z | z
    ·exact absurd ⟨q1, z⟩ q
    ·omega
   exact e (by rw [pre_eq_take q1, this])
theorem fJ_end {W : List (List Nat)} {w : List Nat} {i : Nat} (h : W[i]? = some w) (t : List Nat) : fJ W w i (w.length + 1) t = cnt (W.take (i + 1)) t := by
 unfold fJ
 rw [List.take_succ, h]
 show _ = cnt (W.take i ++ [w]) t
 rw [cnt_app, cnt_one]
 congr 1
 by_cases q : t <+: w
 ·rw [ind_pre1 q, if_pos ⟨q, Nat.lt_succ_of_le q.length_le⟩]
 ·rw [ind_pre q, if_neg fun z => q z.1]
theorem rise_of {ls : List (List Nat)} (h1 : ls.Pairwise fun a b => ¬ b < a) (h2 : ls.Nodup) : ls.Pairwise (· < ·) := by
 refine (h1.and h2).imp fun {a b} ⟨x, y⟩ => ?_
 by_cases z : a < b
 ·exact z
 ·exact absurd (List.le_antisymm (List.not_lt.mp x) (List.not_lt.mp z)) y
section
variable {P : Program} {w : World} {K : PySem.W.Frag} {mg : Str → Option Value} {base : Heap}
theorem scTO : FnScope ["_law_words", "_law_many", "_law_word", "_law_far"] ["_law_words"] (defScope sTwigsOf) := ⟨rfl, rfl, rfl, by decide +kernel, rfl, by decide +kernel, by decide +kernel⟩
theorem ok_twigsof {f fW : Addr} {fd : FuncData} (F : Fun K "_law_twigs_of" "_law_twigs_of" sTwigsOf f fd) (T : KTxt mg fW) : FnOk P w K mg base CX0 1 f fd ["_law_words"] (spTwigsOf K) := by
 refine F.ok scTO (fun vs H Q E h => ?_) (fun cdv AA outer s H vs Q E hr h => ?_)
 ·obtain ⟨d, W, rfl, _⟩ := h
  rfl
 ·obtain ⟨d, W, rfl, hd, hnd, h64, hwl, k⟩ := h
  have nd := scTO.nd
  have hu := hu_of hr
  have hsz := sizeLine_eq
  refine ⟨_, (pss_cons (ps_set (i := 1) nd rfl (Or.inr rfl) pe_dnewK)
   (pss_cons (ps_for PassesOwn.never rfl (pi_list (pe_callTy (call_list_dict rfl) rfl T.list boot_list (pa_cons (pv 0) pa_nil))) (pg_name (i := 2) nd rfl (Or.inl rfl)) (pss_one (ps_for PassesOwn.never rfl (pi_range1 rfl T.range (pa_cons (pe_op op_add (pe_callB call_len rfl T.len PySem.boot_len (pa_cons (pv 2) pa_nil)) pe_int) pa_nil)) (pg_name (i := 3) nd rfl (Or.inl rfl)) (pss_one (ps_dput hu (pv 1) (pe_slice sl_str (pv 2) po_none (po_some (pv 3))) (pe_op op_add (pe_dget2 hu (pv 1) (pe_slice sl_str (pv 2) po_none (po_some (pv 3))) pe_int ⟨rfl, rfl, rfl, rfl⟩) pe_int) rfl)))))
   (pss_one (ps_ret (pe_lc (defScope sTwigsOf) [0, 1] ["_law_words", "_law_many"]  rfl rfl (by decide +kernel) ⟨⟨rfl, rfl, rfl⟩, ⟨⟨rfl, rfl, rfl⟩, trivial⟩⟩ (pi_list (pe_callB call_sortedL rfl T.sorted boot_sorted_ (pa_cons (pe_callTy (call_list_dict rfl) rfl T.list boot_list (pa_cons (pv 1) pa_nil)) pa_nil))) (fun _ _ _ _ _ => pif_nil) (fun _ _ _ _ _ => (pe_tup (pa_cons (pv 2) (pa_cons (pe_cmp (pc_din hu (pv 2) (pv 0))) (pa_cons (pe_dget hu (pv 1) (pv 2) (fun _ _ => rfl)) pa_nil)))))))))), ?_⟩
  intro m hm
  have s0 : Same H (upd H m (.dK [])) := same_new hm
  refine ⟨_, rfl, d, _, rfl, s0 _ _ hd, fun q hq => ?_⟩
  rw [wd_keys]
  have nmq : m ≠ q := ne_of_none upd_same hq
  have nq : H q = none := by
   cases z : H q with
   | none => rfl
   | some o => rw [s0 _ _ z] at hq; cases hq
  refine ⟨q, rfl, ⟨_, SqL.of upd_same⟩, for_list (K := K) (a := q) (xs := W.map sv) (fun i σ' H' => ∃ (x2 x3 : Option V) (kvs : List (Key × V)), σ' = [some (.ref d), some (.ref m), x2, x3] ∧ H' m = some (.dK kvs) ∧ DictC kvs (cnt (W.take i)) ∧ kvs.length ≤ 111 * i ∧ H' q = some (.lst (W.map sv)) ∧ Same H H') ?_ ?_ ?_ ?_⟩
  ·exact ⟨none, none, [], rfl, by rw [upd_ne nmq]; exact upd_same, DictC.nil.to fun t => rfl, Nat.le_refl _, upd_same, s0.trans (same_new hq)⟩
  ·rintro i σ' H' _ ⟨x2, x3, kvs, rfl, _, _, _, g, _⟩
   exact SqL.of g
  ·rintro i x σ' H' hx ⟨x2, x3, kvs, rfl, g1, g2, g3, g4, sm⟩
   obtain ⟨w', hw', rfl⟩ := get_sv hx
   have hwl' := hwl w' (List.mem_of_getElem? hw')
   have hil : i < W.length := (List.getElem?_eq_some_iff.mp hw').1
   have hlw : (S w').length = w'.length := S_len w'
   refine ⟨_, rfl, _, _, rfl, ⟨by rw [hlw]; omega, rfl⟩, _, _, rfl, rfl, _, rfl, by omega, by omega, for_range (fun j σ2 H2 => ∃ (x3 : Option V) (kvs : List (Key × V)), σ2 = [some (.ref d), some (.ref m), some (sv w'), x3] ∧ H2 m = some (.dK kvs) ∧ DictC kvs (fJ W w' i j) ∧ kvs.length ≤ 111 * i + j ∧ H2 q = some (.lst (W.map sv)) ∧ Same H H2) ?_ ?_ ?_⟩
   ·exact ⟨_, kvs, rfl, g1, g2.to fun t => by unfold fJ; rw [if_neg fun z => Nat.not_lt_zero _ z.2]; rfl, g3, g4, sm⟩
   ·rintro j σ2 H2 hj ⟨x3', kvs', rfl, f1, f2, f3, f4, sm2⟩
    have hjw : j ≤ w'.length := by omega
    have ej : (0 : Int) + (j : Int) = ((j : Nat) : Int) := by omega
    have ec : cutN w' none (some ((0 : Int) + (j : Int))) = w'.take j := by rw [ej, cutN_to]
    obtain ⟨ls, _, _, _, hval⟩ := id f2
    refine ⟨_, rfl, m, rfl, .inl ⟨_, .inl f1⟩, _, rfl, _, rfl, _, rfl, w', rfl, by omega, _, DGet.k (k := Sum.inr (S (cutN w' none (some ((0 : Int) + (j : Int)))))) f1, ?_⟩
    rw [ec, hval]
    have eg : (if 0 < fJ W w' i j (w'.take j) then some (V.int (fJ W w' i j (w'.take j) : Nat)) else none).getD (V.int 0) = V.int (fJ W w' i j (w'.take j) : Nat) := by
     split
     ·rfl
     ·rename_i z
      rw [Nat.eq_zero_of_not_pos z]
      rfl
    rw [eg]
    refine ⟨_, _, rfl, rfl, _, rfl, _, rfl, _, rfl, _, rfl, w', rfl, by omega, m, _, rfl, DPut.k (k := Sum.inr (S (cutN w' none (some ((0 : Int) + (j : Int)))))) f1 (by omega), ?_⟩
    rw [ec]
    refine ⟨_, _, rfl, upd_same, (f2.put (w'.take j)).to fun t => fJ_step hjw t, ?_, by rw [upd_ne nmq.symm]; exact f4, fun b o z => by rw [upd_ne (ne_of_none z hm)]; exact sm2 _ _ z⟩
    refine Nat.le_trans (length_putK ..) ?_
    omega
   ·rintro σ2 H2 ⟨x3', kvs', rfl, f1, f2, f3, f4, sm2⟩
    have en : ((((S w').length : Nat) : Int) + 1).toNat = w'.length + 1 := by omega
    rw [en] at f2 f3
    exact ⟨_, _, kvs', rfl, f1, f2.to fun t => fJ_end hw' t, by omega, f4, sm2⟩
  ·rintro σ' H' ⟨x2, x3, kvs, rfl, g1, g2, g3, g4, sm⟩
   rw [List.length_map, List.take_length] at g2
   obtain ⟨ls, h1, h2, h3, h4⟩ := g2
   refine ⟨_, rfl, m, _, rfl, g1, fun q2 hq2 => ?_⟩
   have ek : (kvs.map fun kv => kV kv.1) = ls.map sv := by
    have := congrArg (List.map kV) h1
    rw [List.map_map, List.map_map] at this
    exact this
   rw [ek]
   refine ⟨q2, ls, rfl, SqL.of upd_same, h2, fun ls' hperm hpw q3 hq3 => ?_⟩
   have s3 : Same H' (upd (upd H' q2 (.lst (ls.map sv))) q3 (.lst (ls'.map sv))) := (same_new hq2).trans (same_new hq3)
   have hb : BegsOf W ls' := ⟨rise_of hpw (hperm.nodup_iff.mpr h2), fun t => hperm.mem_iff.trans (h3 t)⟩
   have hl' : ls'.length ≤ 7100 := by
    have e1 := hperm.length_eq
    have e2 := congrArg List.length h1
    rw [List.length_map, List.length_map] at e2
    rw [List.length_map] at g3
    omega
   refine ⟨q3, rfl, ⟨_, SqL.of upd_same⟩, lc_list (K := K) (a := q3) (xs := ls'.map sv) (fun i acc H2 => ∃ qs : List Addr, acc = qs.map V.ref ∧ TwigsAt W H2 qs (ls'.take i) ∧ Same (upd (upd H' q2 (.lst (ls.map sv))) q3 (.lst (ls'.map sv))) H2) (by rw [List.length_map]; omega) ⟨[], rfl, .nil, Same.refl _⟩ (fun i acc H2 z => ?_) (fun i acc H2 _ z => ?_) ?_ ?_⟩
   ·obtain ⟨qs, rfl, hq', _⟩ := z
    have := Paired.length hq'
    rw [List.length_map, this]
    exact List.length_take_le ..
   ·obtain ⟨qs, _, _, s4⟩ := z
    exact SqL.of (s4 _ _ upd_same)
   ·rintro i x acc H2 hx ⟨qs, rfl, hq', s4⟩
    obtain ⟨t, ht, rfl⟩ := get_sv hx
    have hpos : 0 < cnt W t := (hb.2 t).mp (List.mem_of_getElem? ht)
    have hd2 := s4 _ _ (s3 _ _ (sm _ _ hd))
    have hm2 := s4 _ _ (s3 _ _ g1)
    have tk : ls'.take (i + 1) = ls'.take i ++ [t] := by rw [List.take_succ, ht]; rfl
    simp only [tYes, if_true]
    refine ⟨_, rfl, _, rfl, _, rfl, d, _, rfl, DGet.k (k := Sum.inr (S t)) hd2, _, rfl, _, rfl, m, V.int (cnt W t : Nat), rfl, (by rw [show some (V.int (cnt W t : Nat)) = valV kvs (Sum.inr (S t) : Key) by rw [h4, if_pos hpos]]; exact DGet.k (k := Sum.inr (S t)) hm2), (by show 3 ≤ _; omega), fun q4 hq4 => ⟨qs ++ [q4], by rw [List.map_append]; rfl, ?_, s4.trans (same_new hq4)⟩⟩
    rw [tk]
    refine Paired.snoc (TwigsAt.same (same_new hq4) hq') ?_
    show upd H2 q4 _ q4 = _
    rw [upd_same, wd_val]
    by_cases mm : t ∈ W
    ·rw [if_pos mm, decide_eq_true mm]; rfl
    ·rw [if_neg mm, decide_eq_false mm]; rfl
   ·rintro acc H2 ⟨qs, rfl, hq', s4⟩ p hp
    rw [List.length_map, List.take_length] at hq'
    have s5 := sm.trans (s3.trans s4)
    exact k p qs ls' _ hb hl' (s5.free hp) upd_same (TwigsAt.same (same_new hp) hq') (s5.trans (same_new hp))
end
end K07
set_option maxHeartbeats 4000000
namespace K07
open PySem L2 WH
abbrev sSpelt : Stmt := top 15
abbrev sPuts : Stmt := top 16
abbrev sUnturned : Stmt := top 12
abbrev sHeld : Stmt := top 17
abbrev sLaw : Stmt := top 21
def spSpelt : Sp := fun vs H Q _ => ∃ z : Int, vs = [.int z] ∧ ∀ l H', Letters l → l.length ≤ 5 → Same H H' → Q (sv l) H'
def spPuts (K : PySem.W.Frag) : Sp := fun vs H Q _ => ∃ (a : Addr) (ns : List Int), vs = [.ref a] ∧ SqL K H a (ns.map V.int) ∧ ns.length ≤ 200 ∧
 ∀ (r : Addr) (ps : List Addr) (ds : List Deed) (H' : Hp), DeedsAt H' ps ds → ds.length = ns.length → (∀ d ∈ ds, Made d) → H r = none → H' r = some (.lst (ps.map V.ref)) → Same H H' → Q (.ref r) H'
structure LTxt (mg : Str → Option Value) (fS fP : Addr) : Prop where
 _law_spelt : mg "_law_spelt" = some (.ref fS)
 _law_puts : mg "_law_puts" = some (.ref fP)
 len : mg "len" = none
 range : mg "range" = none
 int : mg "int" = none
section
variable {P : Program} {w : World} {K : PySem.W.Frag} {mg : Str → Option Value} {base : Heap}
theorem sc_spelt : FnScope ["_law_seed", "_law_signs", "_law_far", "_law_left", "_law_text"] ["_law_seed"] (defScope sSpelt) := ⟨rfl, rfl, rfl, by decide +kernel, rfl, by decide +kernel, by decide +kernel⟩
theorem far_at (z : Int) (x : Int) : ∃ y : Int, atI [V.int 0, V.int 0, V.int 0, V.int 0, V.int x] (z % 5) = some (.int y) := by
 obtain ⟨n, hn⟩ : ∃ n : Nat, z % 5 = (n : Int) := ⟨(z % 5).toNat, by omega⟩
 rw [hn]
 have : n < 5 := by omega
 match n, this with
 | 0, _ => exact ⟨_, atI_nat rfl⟩
 | 1, _ => exact ⟨_, atI_nat rfl⟩
 | 2, _ => exact ⟨_, atI_nat rfl⟩
 | 3, _ => exact ⟨_, atI_nat rfl⟩
 | 4, _ => exact ⟨_, atI_nat rfl⟩
theorem three_at (z : Int) : ∃ y : Int, atI [V.int 0, V.int 2, V.int 1] (z % 3) = some (.int y) := by
 obtain ⟨n, hn⟩ : ∃ n : Nat, z % 3 = (n : Int) := ⟨(z % 3).toNat, by omega⟩
 rw [hn]
 have : n < 3 := by omega
 match n, this with
 | 0, _ => exact ⟨_, atI_nat rfl⟩
 | 1, _ => exact ⟨_, atI_nat rfl⟩
 | 2, _ => exact ⟨_, atI_nat rfl⟩
def Sized (n : Nat) (z : Int) : Prop := 0 ≤ z ∧ ((n = 0 ∧ z ≤ 363) ∨ (n = 1 ∧ z ≤ 120) ∨ (n = 2 ∧ z ≤ 39) ∨ (n = 3 ∧ z ≤ 12) ∨ (n = 4 ∧ z ≤ 3) ∨ (n = 5 ∧ z ≤ 0))
theorem Sized.next {n : Nat} {z : Int} (h : Sized n z) (hz : 0 < z) : Sized (n + 1) ((z - 1) / 3) := by
 obtain ⟨h0, h⟩ := h
 refine ⟨by omega, ?_⟩
 rcases h with ⟨rfl, h⟩ | ⟨rfl, h⟩ | ⟨rfl, h⟩ | ⟨rfl, h⟩ | ⟨rfl, h⟩ | ⟨rfl, h⟩
 ·exact .inr (.inl ⟨rfl, by omega⟩)
 ·exact .inr (.inr (.inl ⟨rfl, by omega⟩))
 ·exact .inr (.inr (.inr (.inl ⟨rfl, by omega⟩)))
 ·exact .inr (.inr (.inr (.inr (.inl ⟨rfl, by omega⟩))))
 ·exact .inr (.inr (.inr (.inr (.inr ⟨rfl, by omega⟩))))
 ·omega
theorem ok_spelt {f g h : Addr} {fd : FuncData} (F : Fun K "_law_spelt" "_law_spelt" sSpelt f fd) (T : LTxt mg g h) : FnOk P w K mg base CX0 1 f fd ["_law_seed"] spSpelt := by
 refine F.ok sc_spelt (fun vs H Q E h => ?_) (fun cdv A outer s H vs Q E hr h => ?_)
 ·obtain ⟨z, rfl, _⟩ := h
  rfl
 ·obtain ⟨z, rfl, k⟩ := h
  have nd := sc_spelt.nd
  have hsz := sizeLine_eq
  refine ⟨_, (pss_cons (ps_set (i := 1) nd rfl (Or.inl rfl) pe_str)
   (pss_cons (ps_set (i := 2) nd rfl (Or.inl rfl) (pe_ix ix_list (pe_lst (pa_cons pe_int (pa_cons pe_int (pa_cons pe_int (pa_cons pe_int (pa_cons (pe_op op_mod (pe_op op_fdiv (pv 0) pe_int) pe_int) pa_nil)))))) (pe_op op_mod (pv 0) pe_int) (fun _ _ => rfl)))
   (pss_cons (ps_set (i := 3) nd rfl (Or.inl rfl) (pe_op op_mod (pv 0) pe_int))
   (pss_cons (ps_set (i := 4) nd rfl (Or.inl rfl) pe_str)
   (pss_cons (ps_while PassesOwn.never (pt_cmpR op_gt (pv 3) pe_int (nomark _)) (pss_cons (ps_set (i := 3) nd rfl (Or.inl rfl) (pe_op op_sub (pv 3) pe_int))
   (pss_cons (ps_set (i := 4) nd rfl (Or.inl rfl) (pe_op op_addN (pv 4) (pe_ix ix_strN (pv 1) (pe_op op_mod (pe_op op_add (pe_ix ix_list (pe_lst (pa_cons pe_int (pa_cons pe_int (pa_cons pe_int pa_nil)))) (pe_op op_mod (pv 3) pe_int) (fun _ _ => rfl)) (pv 2)) pe_int) (fun _ _ => rfl))))
   (pss_one (ps_set (i := 3) nd rfl (Or.inl rfl) (pe_op op_fdiv (pv 3) pe_int))))))
   (pss_one (ps_ret (pv 4)))))))), ?_⟩
  refine ⟨_, rfl, _, _, rfl, rfl, ⟨by decide, by decide⟩, _, _, rfl, rfl, (by show (0 : Int) < 26; decide), (by show 5 ≤ sizeLine; omega), fun p hp => ?_⟩
  obtain ⟨far, hfar⟩ := far_at z (z / 364 % 26)
  refine ⟨_, rfl, _, _, rfl, rfl, (by show (0 : Int) < 5; decide), p, _, _, _, rfl, rfl, SqL.of upd_same, hfar, ?_⟩
  refine ⟨_, rfl, _, _, rfl, rfl, (by show (0 : Int) < 364; decide), ?_⟩
  refine ⟨fun m σ H' => ∃ (l : List Nat) (y : Int), σ = [some (.int z), some (.str (S alpha)), some (.int far), some (.int y), some (.str (S l))] ∧ Same H H' ∧ Letters l ∧ Sized l.length y ∧ m = y.toNat, ⟨_, [], z % 364, ?_, same_new hp, letters_nil, ⟨by omega, .inl ⟨rfl, by omega⟩⟩, rfl⟩, ?_⟩
  ·rw [← alpha_eq, ← nil_eq]
   rfl
  ·rintro m σ H' ⟨l, y, rfl, s1, hl, hs, rfl⟩
   refine ⟨_, rfl, _, _, rfl, rfl, _, rfl, ?_⟩
   by_cases hy : (0 : Int) < y
   ·rw [decide_eq_true hy]
    refine iteT ⟨_, fun _ _ h => h, ?_⟩
    refine ⟨_, rfl, _, _, rfl, rfl, ?_⟩
    obtain ⟨c3, h3⟩ := three_at (y - 1)
    have hl5 : l.length ≤ 5 := by
     unfold Sized at hs
     omega
    refine ⟨_, rfl, _, rfl, (by show 3 ≤ sizeLine; omega), fun q hq => ?_⟩
    refine ⟨_, rfl, _, _, rfl, rfl, (by show (0 : Int) < 3; decide), q, _, _, _, rfl, rfl, SqL.of upd_same, h3, _, rfl, _, _, rfl, rfl, _, _, rfl, rfl, (by show (0 : Int) < 26; decide), alpha, _, _, rfl, rfl, (by show 26 ≤ sizeLine; omega), alpha_at _, l, _, rfl, rfl, (by show l.length + 1 ≤ sizeLine; omega), ?_⟩
    refine ⟨_, rfl, _, _, rfl, rfl, ⟨by decide, by decide⟩, ?_⟩
    refine ⟨((y - 1) / 3).toNat, by omega, l ++ [97 + ((c3 + far) % 26).toNat], (y - 1) / 3, rfl, s1.trans (same_new hq), hl.app (fun c hc => ?_), ?_, rfl⟩
    ·rw [List.mem_singleton.mp hc]
     omega
    ·rw [List.length_append, List.length_singleton]
     exact hs.next hy
   ·rw [decide_eq_false hy]
    refine iteF ⟨_, rfl, k l H' hl ?_ s1⟩
    unfold Sized at hs
    omega
theorem sc_puts : FnScope ["_law_cells", "_law_made", "_law_k", "_law_turn", "_law_word", "_law_far"] ["_law_cells"] (defScope sPuts) := ⟨rfl, rfl, rfl, by decide +kernel, rfl, by decide +kernel, by decide +kernel⟩
theorem ok_puts {f g : Addr} {fd fdS : FuncData} (F : Fun K "_law_puts" "_law_puts" sPuts f fd) (T : LTxt mg g f) (F__law_spelt : Fun K "_law_spelt" "_law_spelt" sSpelt g fdS) (b__law_spelt : Binds K fdS ["_law_seed"] []) : FnOk P w K mg base CX0 2 f fd ["_law_cells"] (spPuts K) := by
 have G__law_spelt : FnOk P w K mg base CX0 1 g fdS ["_law_seed"] spSpelt := ok_spelt F__law_spelt T
 refine F.ok sc_puts (fun vs H Q E h => ?_) (fun cdv A outer s H vs Q E hr h => ?_)
 ·obtain ⟨a, ns, rfl, _⟩ := h
  rfl
 ·obtain ⟨a, ns, rfl, hS, hlen, k⟩ := h
  have nd := sc_puts.nd
  have hr__law_spelt : Room 1 _ := hr
  have hsz := sizeLine_eq
  have eL : (ns.map V.int).length = ns.length := List.length_map ..
  refine ⟨_, (pss_cons (ps_set (i := 1) nd rfl (Or.inl rfl) (pe_lst pa_nil))
   (pss_cons (ps_for PassesOwn.never rfl (pi_range1 rfl T.range (pa_cons (pe_callB call_len rfl T.len PySem.boot_len (pa_cons (pv 0) pa_nil)) pa_nil)) (pg_name (i := 2) nd rfl (Or.inl rfl)) (pss_cons (ps_set (i := 3) nd rfl (Or.inl rfl) (pe_op op_mod (pe_ix ix_list (pv 0) (pv 2) (fun _ _ => rfl)) pe_int))
   (pss_cons (ps_set (i := 4) nd rfl (Or.inl rfl) (pe_call G__law_spelt hr__law_spelt rfl T._law_spelt F__law_spelt.kp b__law_spelt .nil pass0 (pa_cons (pe_op op_add (pe_op op_fdiv (pe_ix ix_list (pv 0) (pv 2) (fun _ _ => rfl)) pe_int) (pe_op op_fdiv (pv 2) pe_int)) pa_nil)))
   (pss_consM (ps_if (pt_cmpR op_eq (pe_op op_mod (pe_op op_fdiv (pe_ix ix_list (pv 0) (pv 2) (fun _ _ => rfl)) pe_int) pe_int) pe_int (nomark _)) (pss_one (ps_set (i := 4) nd rfl (Or.inl rfl) pe_str)) pss_nil)
   (pss_consM (ps_if (pt_cmpR op_eq (pe_op op_mod (pe_op op_fdiv (pe_ix ix_list (pv 0) (pv 2) (fun _ _ => rfl)) pe_int) pe_int) pe_int (nomark _)) (pss_cons (ps_set (i := 5) nd rfl (Or.inl rfl) (pe_op op_add (pe_op op_mod (pe_ix ix_list (pv 0) (pe_op op_mod (pe_op op_add (pv 2) pe_int) (pe_callB call_len rfl T.len PySem.boot_len (pa_cons (pv 0) pa_nil))) (fun _ _ => rfl)) pe_int) (pe_op op_mod (pv 2) pe_int)))
   (pss_one (ps_set (i := 4) nd rfl (Or.inl rfl) (pe_slice sl_str (pe_op op_mulN pe_str pe_int) po_none (po_some (pe_op op_add (pv 5) (pe_op op_mul pe_int (pe_callTy call_int1 rfl T.int boot_int (pa_cons (pe_cmpR op_gt (pe_op op_mod (pe_ix ix_list (pv 0) (pv 2) (fun _ _ => rfl)) pe_int) pe_int (nomark _)) pa_nil))))))))) pss_nil)
   (pss_one (ps_if (pt_cmpR op_lt (pv 3) pe_int (nomark _)) (pss_one (ps_expr (pe_bm PySem.F.plainAttrs_list PySem.F.slot_list_append PySem.F.type_list_append mt_append (pv 1) (pa_cons (pe_tup (pa_cons pe_str (pa_cons (pv 4) pa_nil))) pa_nil)))) (pss_one (ps_if (PW.pt (pw_and (pt_cmpR op_lt (pv 3) pe_int (nomark _)) (pw_and1 (pt_cmpR op_gt (pv 2) pe_int (nomark _))))) (pss_one (ps_expr (pe_bm PySem.F.plainAttrs_list PySem.F.slot_list_append PySem.F.type_list_append mt_append (pv 1) (pa_cons (pe_tup (pa_cons pe_str (pa_cons (pe_ix ix_tup (pe_ix ix_list (pv 1) (pe_op op_mod (pe_op op_fdiv (pe_ix ix_list (pv 0) (pv 2) (fun _ _ => rfl)) pe_int) (pv 2)) (fun _ _ => rfl)) pe_int (fun _ _ => rfl)) pa_nil))) pa_nil)))) (pss_one (ps_expr (pe_bm PySem.F.plainAttrs_list PySem.F.slot_list_append PySem.F.type_list_append mt_append (pv 1) (pa_cons (pe_tup (pa_cons pe_str (pa_cons (pv 4) pa_nil))) pa_nil)))))))))))))
   (pss_one (ps_ret (pv 1))))), ?_⟩
  refine ⟨(by show 0 ≤ sizeLine; omega), fun r hr0 => ?_⟩
  refine ⟨_, rfl, _, _, rfl, .inl ⟨_, (same_new hr0).seq hS, rfl⟩, _, rfl, by omega, by omega, for_range (fun i σ H' => ∃ (ps : List Addr) (ds : List Deed) (v2 v3 v4 v5 : Option V), σ = [some (.ref a), some (.ref r), v2, v3, v4, v5] ∧ DeedsAt H' ps ds ∧ ds.length = i ∧ (∀ d ∈ ds, Made d) ∧ H' r = some (.lst (ps.map V.ref)) ∧ Same H H') ?_ ?_ ?_⟩
  ·exact ⟨[], [], none, none, none, none, rfl, .nil, rfl, (fun d h => nomatch h), upd_same, same_new hr0⟩
  ·rintro i σ H' hi ⟨ps, ds, v2, v3, v4, v5, rfl, hd, hdl, hm, hrl, s1⟩
   have hi' : i < ns.length := by
    have : i < ((ns.map V.int).length : Int).toNat := hi
    omega
   have e0 : (0 : Int) + (i : Int) = ((i : Nat) : Int) := by omega
   rw [e0]
   have hat := ints_at hi'
   generalize ns[i] = x at hat
   have hS' := s1.seq hS
   refine ⟨_, rfl, _, rfl, a, _, _, _, rfl, rfl, hS', hat, _, _, rfl, rfl, (by show (0 : Int) < 8; decide), ?_⟩
   refine ⟨_, rfl, _, rfl, a, _, _, _, rfl, rfl, hS', hat, _, _, rfl, rfl, ⟨by decide, by decide⟩, _, rfl, _, _, rfl, rfl, ⟨by decide, by decide⟩, _, _, rfl, rfl, _, rfl, fun l H1 hl hl5 s2 => ?_⟩
   obtain ⟨M, hM⟩ : ∃ M : St → Hp → Prop, M = fun σ H1 => ∃ (wd : List Nat) (v5 : Option V), σ = [some (.ref a), some (.ref r), some (.int (i : Int)), some (.int (x % 8)), some (sv wd), v5] ∧ Letters wd ∧ wd.length ≤ 100 ∧ Same H' H1 := ⟨_, rfl⟩
   refine ⟨M, fun σ2 H2 m2 => ?_, ?_⟩
   ·rw [hM] at m2
    obtain ⟨wd, v5', rfl, hw, hwl, s3⟩ := m2
    have hS2 := (s1.trans s3).seq hS
    refine ⟨M, fun σ4 H4 m4 => ?_, ?_⟩
    ·rw [hM] at m4
     obtain ⟨wd2, v6, rfl, hw2, hwl2, s4⟩ := m4
     have s14 := s1.trans s4
     have hrl4 := s4 _ _ hrl
     have hd4 := hd.same s4
     have hpl : (ps.map V.ref).length = i := by rw [List.length_map, hd.length, hdl]
     have last : ∀ (d : Deed) (q : Addr) (H5 : Hp), Made d → H5 q = none → Same H4 H5 → ∃ (ps' : List Addr) (ds' : List Deed) (v2 v3 v4 v5 : Option V), [some (V.ref a), some (V.ref r), some (V.int (i : Int)), some (V.int (x % 8)), some (sv wd2), v6] = [some (.ref a), some (.ref r), v2, v3, v4, v5] ∧
       DeedsAt (upd (upd H5 q (.tup [.str d.name, d.arg])) r (.lst (ps.map V.ref ++ [.ref q]))) ps' ds' ∧ ds'.length = i + 1 ∧ (∀ d ∈ ds', Made d) ∧ (upd (upd H5 q (.tup [.str d.name, d.arg])) r (.lst (ps.map V.ref ++ [.ref q]))) r = some (.lst (ps'.map V.ref)) ∧ Same H (upd (upd H5 q (.tup [.str d.name, d.arg])) r (.lst (ps.map V.ref ++ [.ref q]))) := fun d q H5 hdm hq s5 => by
      have hr5 : H5 r = some (.lst (ps.map V.ref)) := s5 _ _ hrl4
      have s6 := s5.trans (same_new (o := .tup [.str d.name, d.arg]) hq)
      have hr6 := s6 _ _ hrl4
      refine ⟨ps ++ [q], ds ++ [d], _, _, _, _, rfl, ?_, by rw [List.length_append, hdl]; rfl, fun d' hd' => ?_, by rw [upd_same, List.map_append]; rfl, same_upd (s14.trans s6) hr0⟩
      ·refine DeedsAt.updL ?_ hr6
       exact (hd4.same s6).snoc (show DeedAt _ q d from upd_same)
      ·rcases List.mem_append.mp hd' with z | z
       ·exact hm d' z
       ·rw [List.mem_singleton.mp z]
        exact hdm
     have hfit : (ps.map V.ref).length < sizeLine := by omega
     refine ⟨_, rfl, _, _, rfl, rfl, _, rfl, ?_⟩
     refine ite2 (fun _ => ?_) (fun _ => ?_)
     ·refine ⟨_, rfl, .inl ⟨rfl, _, SqL.of hrl4⟩, _, rfl, (by show 2 ≤ sizeLine; omega), fun q hq => ⟨r, ps.map V.ref, .ref q, rfl, rfl, (same_new hq) _ _ hrl4, hfit, ?_⟩⟩
      exact last (.put wd2) q H4 ⟨wd2, .inl rfl, hw2, hwl2⟩ hq (Same.refl _)
     ·refine ⟨_, rfl, _, _, rfl, rfl, _, rfl, ?_⟩
      by_cases h7 : (x % 8 : Int) < 7
      ·rw [decide_eq_true h7]
       refine iteT ⟨_, rfl, _, _, rfl, rfl, _, rfl, ?_⟩
       by_cases hi0 : (0 : Int) < (i : Int)
       ·rw [decide_eq_true hi0]
        refine iteT ?_
        have hS4 := s14.seq hS
        obtain ⟨j, hj⟩ : ∃ j : Nat, x / 8 % (i : Int) = (j : Int) := ⟨(x / 8 % (i : Int)).toNat, by have := Int.emod_nonneg (x / 8) (b := (i : Int)) (by omega); omega⟩
        have hji : j < i := by
         have := Int.emod_lt_of_pos (x / 8) hi0
         omega
        have hjd : j < ds.length := by omega
        obtain ⟨pj, hpj, hdj⟩ := hd4.get (List.getElem?_eq_getElem hjd)
        obtain ⟨wj, ewj, hwj, hwjl⟩ := (hm _ (List.getElem_mem hjd)).word
        have hpj' : atI (ps.map V.ref) (x / 8 % (i : Int)) = some (.ref pj) := by
         rw [hj]
         exact atI_nat (by rw [List.getElem?_map, hpj]; rfl)
        have harg : atI [V.str ds[j].name, ds[j].arg] 1 = some (sv wj) := by
         rw [ewj]
         exact atI_nat (j := 1) rfl
        refine ⟨_, rfl, .inl ⟨rfl, _, SqL.of hrl4⟩, _, rfl, _, rfl, _, rfl, a, _, _, _, rfl, rfl, hS4, hat, _, _, rfl, rfl, ⟨by decide, by decide⟩, _, rfl, _, _, rfl, rfl, hi0, r, _, _, _, rfl, rfl, SqL.of hrl4, hpj', pj, _, _, _, rfl, rfl, SqT.of hdj, harg, (by show 2 ≤ sizeLine; omega), fun q hq => ⟨r, ps.map V.ref, .ref q, rfl, rfl, (same_new hq) _ _ hrl4, hfit, ?_⟩⟩
        exact last (.take wj) q H4 ⟨wj, .inr (.inl rfl), hwj, hwjl⟩ hq (Same.refl _)
       ·rw [decide_eq_false hi0]
        refine iteF ⟨_, rfl, .inl ⟨rfl, _, SqL.of hrl4⟩, _, rfl, (by show 2 ≤ sizeLine; omega), fun q hq => ⟨r, ps.map V.ref, .ref q, rfl, rfl, (same_new hq) _ _ hrl4, hfit, ?_⟩⟩
        exact last (.has wd2) q H4 ⟨wd2, .inr (.inr rfl), hw2, hwl2⟩ hq (Same.refl _)
      ·rw [decide_eq_false h7]
       refine iteF (iteF ⟨_, rfl, .inl ⟨rfl, _, SqL.of hrl4⟩, _, rfl, (by show 2 ≤ sizeLine; omega), fun q hq => ⟨r, ps.map V.ref, .ref q, rfl, rfl, (same_new hq) _ _ hrl4, hfit, ?_⟩⟩)
       exact last (.has wd2) q H4 ⟨wd2, .inr (.inr rfl), hw2, hwl2⟩ hq (Same.refl _)
    ·refine ⟨_, rfl, _, rfl, a, _, _, _, rfl, rfl, hS2, hat, _, _, rfl, rfl, ⟨by decide, by decide⟩, _, _, rfl, rfl, (by show (0 : Int) < 11; decide), rfl, _, rfl, ?_⟩
     refine ite2 (fun _ => ?_) (fun _ => ?_)
     ·-- the long word
      obtain ⟨j, hj⟩ : ∃ j : Nat, ((i : Int) + 1) % ((ns.map V.int).length : Int) = (j : Int) := ⟨(((i : Int) + 1) % ((ns.map V.int).length : Int)).toNat, by have := Int.emod_nonneg ((i : Int) + 1) (b := ((ns.map V.int).length : Int)) (by omega); omega⟩
      have hjn : j < ns.length := by
       have := Int.emod_lt_of_pos ((i : Int) + 1) (b := ((ns.map V.int).length : Int)) (by omega)
       omega
      have hatj : atI (ns.map V.int) (((i : Int) + 1) % ((ns.map V.int).length : Int)) = some (.int ns[j]) := by
       rw [hj]
       exact ints_at hjn
      generalize ns[j] = y at hatj
      refine ⟨_, rfl, _, rfl, _, _, rfl, rfl, _, rfl, _, _, rfl, .inl ⟨_, hS2, rfl⟩, _, _, rfl, rfl, (by show (0 : Int) < ((ns.map V.int).length : Int); omega), a, _, _, _, rfl, rfl, hS2, hatj, _, _, rfl, rfl, (by show (0 : Int) < 14; decide), _, rfl, _, _, rfl, rfl, (by show (0 : Int) < 13; decide), _, _, rfl, rfl, ?_⟩
      have hb : ∀ c : Bool, 0 ≤ (if c then (1 : Int) else 0) ∧ (if c then (1 : Int) else 0) ≤ 1 := fun c => by cases c <;> decide
      refine ⟨alpha, 4, congrArg V.str alpha_eq, rfl, by decide, by decide, by decide, _, rfl, _, rfl, _, rfl, a, _, _, _, rfl, rfl, hS2, hat, _, _, rfl, rfl, (by show (0 : Int) < 16; decide), _, _, rfl, rfl, .inr ⟨_, rfl, _, _, rfl, rfl, .inl ⟨by decide, by decide⟩, _, _, rfl, rfl, _, rfl, long, rfl, (by decide), ?_⟩⟩
      have hc := hb (decide ((12 : Int) < x % 16))
      have hcut := long_cut (k := y % 14 + (i : Int) % 13 + 75 * (if decide ((12 : Int) < x % 16) then (1 : Int) else 0)) (by omega) (by omega)
      rw [hM]
      exact ⟨_, _, rfl, hcut.1, hcut.2, s3⟩
     ·rw [hM]
      exact ⟨wd, v5', rfl, hw, hwl, s3⟩
   ·have hS1 := (s1.trans s2).seq hS
    refine ⟨_, rfl, _, rfl, a, _, _, _, rfl, rfl, hS1, hat, _, _, rfl, rfl, ⟨by decide, by decide⟩, _, _, rfl, rfl, (by show (0 : Int) < 9; decide), rfl, _, rfl, ?_⟩
    refine ite2 (fun _ => ?_) (fun _ => ?_)
    ·rw [hM]
     exact ⟨[], v5, congrArg (fun z => [some (V.ref a), some (V.ref r), some (V.int (i : Int)), some (V.int (x % 8)), some (V.str z), v5]) nil_eq, letters_nil, by decide, s2⟩
    ·rw [hM]
     exact ⟨l, v5, rfl, hl, by omega, s2⟩
  ·rintro σ H' ⟨ps, ds, v2, v3, v4, v5, rfl, hd, hdl, hm, hrl, s1⟩
   have hdl' : ds.length = ns.length := by
    have : ds.length = ((ns.map V.int).length : Int).toNat := hdl
    omega
   exact ⟨_, rfl, k r ps ds H' hd hdl' hm hr0 hrl s1⟩
end
def spUnturned : Sp := fun vs H Q _ => ∃ (x y : V) (k c : Nat), vs = [x, y] ∧ ItemL H k x y c ∧ c ≤ 1000000 ∧ ∀ H', Same H H' → Q (.bl true) H'
structure UTxt (mg : Str → Option Value) : Prop where
 len : mg "len" = none
 range : mg "range" = none
 isi : mg "isinstance" = none
 list : mg "list" = none
 tuple : mg "tuple" = none
 str : mg "str" = none
 int : mg "int" = none
 bool : mg "bool" = none
section
variable {P : Program} {w : World} {K : PySem.W.Frag} {mg : Str → Option Value} {base : Heap}
theorem sc_un : FnScope ["_law_found", "_law_due", "_law_todo", "_law_left", "_law_right", "_law_k"] ["_law_found", "_law_due"] (defScope sUnturned) := ⟨rfl, rfl, rfl, by decide +kernel, rfl, by decide +kernel, by decide +kernel⟩
theorem ok_unturned {f : Addr} {fd : FuncData} (F : Fun K "_law_unturned" "_law_unturned" sUnturned f fd) (T : UTxt mg) : FnOk P w K mg base CX0 1 f fd ["_law_found", "_law_due"] spUnturned := by
 refine F.ok sc_un (fun vs H Q E h => ?_) (fun cdv A outer s H vs Q E hr h => ?_)
 ·obtain ⟨x, y, k, c, rfl, _⟩ := h
  rfl
 ·obtain ⟨x0, y0, k0, c0, rfl, hit, hc0, k⟩ := h
  have nd := sc_un.nd
  have hu0 := hr.units0
  have hsz := sizeLine_eq
  have h2 : 2 ≤ sizeLine := by omega
  refine ⟨_, (pss_cons (ps_set (i := 2) nd rfl (Or.inl rfl) (pe_lst (pa_cons (pe_tup (pa_cons (pv 0) (pa_cons (pv 1) pa_nil))) pa_nil)))
   (pss_cons (ps_while PassesOwn.never (pt_cmpR (op_neNil hu0) (pv 2) (pe_lst pa_nil) (nomark _)) (pss_cons (ps_asg (pe_bm0 PySem.F.plainAttrs_list PySem.F.slot_list_pop PySem.F.type_list_pop mt_pop (pv 2)) (pg_tup rfl (pgs_cons (pg_name (i := 3) nd rfl (Or.inl rfl)) (pgs_cons (pg_name (i := 4) nd rfl (Or.inl rfl)) pgs_nil))))
   (pss_one (ps_if (pt_val (pe_callB call_isiT rfl T.isi boot_isi (pa_cons (pv 4) (pa_cons (pe_tup (pa_cons (pe_bltn (v := .ty "list") rfl T.list boot_list rfl) (pa_cons (pe_bltn (v := .ty "tuple") rfl T.tuple boot_tuple rfl) pa_nil))) pa_nil)))) (pss_cons (ps_if (pt_cmpR op_ne (pe_callB call_isi rfl T.isi boot_isi (pa_cons (pv 3) (pa_cons (pe_bltn (v := .ty "list") rfl T.list boot_list rfl) pa_nil))) (pe_callB call_isi rfl T.isi boot_isi (pa_cons (pv 4) (pa_cons (pe_bltn (v := .ty "list") rfl T.list boot_list rfl) pa_nil))) (nomark _)) (pss_one (ps_ret pe_bl)) pss_nil)
   (pss_cons (ps_if (PW.pt (pw_or (pt_not (pt_val (pe_callB call_isiT rfl T.isi boot_isi (pa_cons (pv 3) (pa_cons (pe_tup (pa_cons (pe_bltn (v := .ty "list") rfl T.list boot_list rfl) (pa_cons (pe_bltn (v := .ty "tuple") rfl T.tuple boot_tuple rfl) pa_nil))) pa_nil))))) (pw_or1 (pt_cmpR op_ne (pe_callB call_len rfl T.len PySem.boot_len (pa_cons (pv 3) pa_nil)) (pe_callB call_len rfl T.len PySem.boot_len (pa_cons (pv 4) pa_nil)) (nomark _))))) (pss_one (ps_ret pe_bl)) pss_nil)
   (pss_one (ps_for PassesOwn.never rfl (pi_range1 rfl T.range (pa_cons (pe_callB call_len rfl T.len PySem.boot_len (pa_cons (pv 4) pa_nil)) pa_nil)) (pg_name (i := 5) nd rfl (Or.inl rfl)) (pss_one (ps_expr (pe_bm PySem.F.plainAttrs_list PySem.F.slot_list_append PySem.F.type_list_append mt_append (pv 2) (pa_cons (pe_tup (pa_cons (pe_ix ix_seq (pv 3) (pv 5) (fun _ _ => rfl)) (pa_cons (pe_ix ix_seq (pv 4) (pv 5) (fun _ _ => rfl)) pa_nil))) pa_nil)))))))) (pss_one (ps_if (PW.pt (pw_or (pt_cmp (pc_isN (pv 3))) (pw_or1 (pt_cmp (pc_isN (pv 4)))))) (pss_one (ps_if (PW.pt (pw_or (pt_cmp (pc_notN (pv 3))) (pw_or1 (pt_cmp (pc_notN (pv 4)))))) (pss_one (ps_ret pe_bl)) pss_nil)) (pss_one (ps_if (pt_cmpR op_ne (pe_callB call_isi rfl T.isi boot_isi (pa_cons (pv 3) (pa_cons (pe_bltn (v := .ty "bool") rfl T.bool boot_bool rfl) pa_nil))) (pe_callB call_isi rfl T.isi boot_isi (pa_cons (pv 4) (pa_cons (pe_bltn (v := .ty "bool") rfl T.bool boot_bool rfl) pa_nil))) (nomark _)) (pss_one (ps_ret pe_bl)) (pss_one (ps_if (pt_cmpR op_ne (pe_callB call_isi rfl T.isi boot_isi (pa_cons (pv 3) (pa_cons (pe_bltn (v := .ty "str") rfl T.str boot_str rfl) pa_nil))) (pe_callB call_isi rfl T.isi boot_isi (pa_cons (pv 4) (pa_cons (pe_bltn (v := .ty "str") rfl T.str boot_str rfl) pa_nil))) (nomark _)) (pss_one (ps_ret pe_bl)) (pss_one (ps_if (PW.pt (pw_or (pt_not (pt_val (pe_callB call_isiT rfl T.isi boot_isi (pa_cons (pv 3) (pa_cons (pe_tup (pa_cons (pe_bltn (v := .ty "str") rfl T.str boot_str rfl) (pa_cons (pe_bltn (v := .ty "int") rfl T.int boot_int rfl) pa_nil))) pa_nil))))) (pw_or1 (pt_cmpR op_ne (pv 3) (pv 4) (nomark _))))) (pss_one (ps_ret pe_bl)) pss_nil))))))))))))
   (pss_one (ps_ret pe_bl)))), ?_⟩
  refine ⟨_, rfl, _, rfl, h2, fun p0 hp0 => ⟨(by show 1 ≤ sizeLine; omega), fun t ht => ?_⟩⟩
  have htH : H t = none := (same_new hp0).free ht
  have s0 : Same H (upd (upd H p0 (.tup [x0, y0])) t (.lst [.ref p0])) := same_upd (same_new hp0) htH
  refine ⟨fun m σ H' => ∃ (es : List Ent) (v3 v4 v5 : Option V), σ = [some x0, some y0, some (.ref t), v3, v4, v5] ∧ H' t = some (.lst (es.map fun e => V.ref e.p)) ∧ (∀ e ∈ es, EntAt H H' e) ∧ Same H H' ∧ m = cost es ∧ cost es ≤ c0,
   ⟨_, [⟨p0, x0, y0, k0, c0⟩], none, none, none, rfl, upd_same, fun e he => ?_, s0, rfl, by simp [cost]⟩, ?_⟩
  ·rw [List.mem_singleton.mp he]
   exact ⟨by rw [upd_ne (ne_of_none upd_same ht)]; exact upd_same, hit⟩
  rintro m σ H1 ⟨es, v3, v4, v5, rfl, hT, hes, s1, rfl, hbd⟩
  refine ⟨_, rfl, (by show 0 ≤ sizeLine; omega), fun q hq => ⟨t, q, _, rfl, rfl, SqL.of ((same_new hq) _ _ hT), SqL.of upd_same, _, rfl, ?_⟩⟩
  rcases List.eq_nil_or_concat es with rfl | ⟨init, e, rfl⟩
  ·refine iteF ?_
   exact k _ (s1.trans (same_new hq))
  simp only [List.concat_eq_append] at hT hes hbd ⊢
  have hne : (!(List.map (fun e => V.ref e.p) (init ++ [e])).isEmpty) = true := by simp
  rw [hne]
  refine iteT ⟨_, fun _ _ h => h, ?_⟩
  have hT2 : upd H1 q (.lst []) t = some (.lst ((init ++ [e]).map fun e => V.ref e.p)) := (same_new hq) _ _ hT
  refine ⟨_, rfl, .inl ⟨rfl, _, SqL.of hT2⟩, t, _, .ref e.p, rfl, rfl, hT2, (by simp), ?_⟩
  have hdl : ((init ++ [e]).map fun e => V.ref e.p).dropLast = init.map fun e => V.ref e.p := by simp
  rw [hdl]
  obtain ⟨H3, eH3⟩ : ∃ H3, H3 = upd (upd H1 q (.lst [])) t (.lst (init.map fun e => V.ref e.p)) := ⟨_, rfl⟩
  rw [← eH3]
  have hT3 : H3 t = some (.lst (init.map fun e => V.ref e.p)) := by rw [eH3]; exact upd_same
  have s3 : Same H H3 := by rw [eH3]; exact same_upd (s1.trans (same_new hq)) htH
  have ents : ∀ e' ∈ init ++ [e], EntAt H H3 e' := fun e' he' => by
   obtain ⟨g1, g2⟩ := hes e' he'
   refine ⟨?_, g2⟩
   rw [eH3, upd_ne (ne_of ((same_new hq) _ _ g1) hT2 (by intro z; cases z))]
   exact (same_new hq) _ _ g1
  clear eH3
  obtain ⟨ge1, ge2⟩ := ents e (by simp)
  have enti : ∀ e' ∈ init, EntAt H H3 e' := fun e' he' => ents e' (List.mem_append_left _ he')
  rw [cost_app]
  have hcost : cost [e] = e.c := by simp [cost]
  rw [hcost]
  rw [cost_app, hcost] at hbd
  obtain ⟨ep, ex, ey, ek, ec⟩ := e
  refine ⟨ep, _, rfl, SqT.of ge1, rfl, _, _, rfl, _, _, rfl, rfl, ?_⟩
  have lt : ["list", "tuple"].map V.ty = [V.ty "list", V.ty "tuple"] := rfl
  cases ek with
  | zero =>
   obtain ⟨e1, e2, e3⟩ := (show ex = ey ∧ Sc ex ∧ ec = 1 from ge2)
   subst e1 e3
   have fin : ∀ H4, Same H3 H4 → ∃ m', m' < cost init + 1 ∧ ∃ (es : List Ent) (v3 v4 v5' : Option V), [some x0, some y0, some (V.ref t), some ex, some ex, v5] = [some x0, some y0, some (.ref t), v3, v4, v5'] ∧ H4 t = some (.lst (es.map fun e => V.ref e.p)) ∧ (∀ e ∈ es, EntAt H H4 e) ∧ Same H H4 ∧ m' = cost es ∧ cost es ≤ c0 := fun H4 s4 =>
    ⟨cost init, by omega, init, _, _, _, rfl, s4 _ _ hT3, fun e' he' => ⟨s4 _ _ (enti e' he').1, (enti e' he').2⟩, s3.trans s4, rfl, by have : cost init + 1 ≤ c0 := hbd; omega⟩
   rcases e2 with ⟨l, rfl⟩ | ⟨z, rfl⟩
   ·refine ⟨_, rfl, h2, fun a ha => ⟨_, "str", a, ["list", "tuple"], false, rfl, TyOf.str _, by rw [lt]; exact upd_same, isiT_str, false, rfl, ?_⟩⟩
    refine iteF ?_
    refine ⟨_, rfl, _, rfl, iteF ⟨_, rfl, _, rfl, iteF ?_⟩⟩
    refine ⟨_, rfl, _, "str", _, false, rfl, TyOf.str _, isi_str_bool, _, rfl, _, "str", _, false, rfl, TyOf.str _, isi_str_bool, rfl, _, rfl, ?_⟩
    refine iteNS rfl ?_
    refine ⟨_, rfl, _, "str", _, true, rfl, TyOf.str _, isi_str_str, _, rfl, _, "str", _, true, rfl, TyOf.str _, isi_str_str, rfl, _, rfl, ?_⟩
    refine iteNS rfl ?_
    refine ⟨_, rfl, h2, fun b hb => ⟨_, "str", b, ["str", "int"], true, rfl, TyOf.str _, upd_same, isiT_str2, true, rfl, ?_⟩⟩
    refine iteF ⟨_, rfl, _, rfl, rfl, _, rfl, ?_⟩
    refine iteNS rfl ?_
    exact fin _ ((same_new ha).trans (same_new hb))
   ·refine ⟨_, rfl, h2, fun a ha => ⟨_, "int", a, ["list", "tuple"], false, rfl, TyOf.int _, by rw [lt]; exact upd_same, isiT_int, false, rfl, ?_⟩⟩
    refine iteF ?_
    refine ⟨_, rfl, _, rfl, iteF ⟨_, rfl, _, rfl, iteF ?_⟩⟩
    refine ⟨_, rfl, _, "int", _, false, rfl, TyOf.int _, isi_int_bool, _, rfl, _, "int", _, false, rfl, TyOf.int _, isi_int_bool, rfl, _, rfl, ?_⟩
    refine iteNS rfl ?_
    refine ⟨_, rfl, _, "int", _, false, rfl, TyOf.int _, isi_int_str, _, rfl, _, "int", _, false, rfl, TyOf.int _, isi_int_str, rfl, _, rfl, ?_⟩
    refine iteNS rfl ?_
    refine ⟨_, rfl, h2, fun b hb => ⟨_, "int", b, ["str", "int"], true, rfl, TyOf.int _, upd_same, isiT_int2, true, rfl, ?_⟩⟩
    refine iteF ⟨_, rfl, _, rfl, rfl, _, rfl, ?_⟩
    refine iteNS rfl ?_
    exact fin _ ((same_new ha).trans (same_new hb))
  | succ ek =>
   obtain ⟨p, q2, xs, ys, d, rfl, rfl, hpq, hxy, hxl, hsub, hec⟩ := ge2
   obtain ⟨ty, b, hty, ht1, ht2, ht3⟩ : ∃ (ty : String) (b : Bool), kitBB ty "list" = some b ∧ kitAnyBB ty ["list", "tuple"] = some true ∧ (∀ H4, Same H H4 → TyOf K H4 (.ref p) (.type ty) ∧ TyOf K H4 (.ref q2) (.type ty)) ∧
     (∀ H4, Same H H4 → (SqL K H4 p xs ∧ SqL K H4 q2 ys) ∨ (SqT K H4 p xs ∧ SqT K H4 q2 ys)) := by
    rcases hpq with ⟨h1, h2'⟩ | ⟨h1, h2'⟩
    ·exact ⟨"tuple", false, isi_tuple_list, isiT_tuple, fun H4 s4 => ⟨TyOf.tup (s4 _ _ h1), TyOf.tup (s4 _ _ h2')⟩, fun H4 s4 => .inr ⟨SqT.of (s4 _ _ h1), SqT.of (s4 _ _ h2')⟩⟩
    ·exact ⟨"list", true, isi_list_list, isiT_list, fun H4 s4 => ⟨TyOf.lst (s4 _ _ h1), TyOf.lst (s4 _ _ h2')⟩, fun H4 s4 => .inl ⟨SqL.of (s4 _ _ h1), SqL.of (s4 _ _ h2')⟩⟩
   have lens : ∀ H4, Same H H4 → LenV K (.ref p) H4 xs.length ∧ LenV K (.ref q2) H4 ys.length := fun H4 s4 => by
    rcases ht3 H4 s4 with ⟨g1, g2⟩ | ⟨g1, g2⟩
    ·exact ⟨.inl ⟨_, g1, rfl⟩, .inl ⟨_, g2, rfl⟩⟩
    ·exact ⟨.inr ⟨_, g1, rfl⟩, .inr ⟨_, g2, rfl⟩⟩
   refine ⟨_, rfl, h2, fun a ha => ⟨_, ty, a, ["list", "tuple"], true, rfl, (ht2 _ (s3.trans (same_new ha))).2, by rw [lt]; exact upd_same, ht1, true, rfl, ?_⟩⟩
   refine iteT ?_
   have s4 := s3.trans (same_new (o := .tup [V.ty "list", V.ty "tuple"]) ha)
   refine ⟨_, rfl, _, ty, _, b, rfl, (ht2 _ s4).1, hty, _, rfl, _, ty, _, b, rfl, (ht2 _ s4).2, hty, rfl, _, rfl, ?_⟩
   refine iteNS rfl ?_
   refine ⟨_, rfl, h2, fun a' ha' => ⟨_, ty, a', ["list", "tuple"], true, rfl, (ht2 _ (s4.trans (same_new ha'))).1, upd_same, ht1, true, rfl, ?_⟩⟩
   have s5 := s4.trans (same_new (o := .tup [V.ty "list", V.ty "tuple"]) ha')
   refine iteF ⟨_, rfl, _, _, rfl, (lens _ s5).1, _, rfl, _, _, rfl, (lens _ s5).2, rfl, _, rfl, ?_⟩
   refine iteNS (by rw [hxy]) ?_
   obtain ⟨H5, eH5⟩ : ∃ H5, H5 = upd (upd H3 a (.tup [V.ty "list", V.ty "tuple"])) a' (.tup [V.ty "list", V.ty "tuple"]) := ⟨_, rfl⟩
   rw [← eH5] at s5
   have s35 : Same H3 H5 := by rw [eH5]; exact (same_new ha).trans (same_new ha')
   rw [← eH5]
   clear eH5
   refine ⟨_, rfl, _, _, rfl, (lens _ s5).2, _, rfl, by omega, by omega, for_range (fun i σ H6 => ∃ (new : List Ent) (v5' : Option V), σ = [some x0, some y0, some (.ref t), some (.ref p), some (.ref q2), v5'] ∧ new.length = i ∧ H6 t = some (.lst ((init ++ new).map fun e => V.ref e.p)) ∧ (∀ e ∈ init ++ new, EntAt H H6 e) ∧ Same H H6 ∧ cost new = d * i) ?_ ?_ ?_⟩
   ·refine ⟨[], v5, rfl, rfl, by rw [List.append_nil]; exact s35 _ _ hT3, fun e' he' => ?_, s5, by simp [cost]⟩
    rw [List.append_nil] at he'
    exact ⟨s35 _ _ (enti e' he').1, (enti e' he').2⟩
   ·rintro i σ H6 hi ⟨new, v5', rfl, hnl, hT6, hen, s6, hcn⟩
    have hiy : i < ys.length := by
     have : i < ((ys.length : Nat) : Int).toNat := hi
     omega
    have hix : i < xs.length := by omega
    have e0 : (0 : Int) + (i : Int) = ((i : Nat) : Int) := by omega
    rw [e0]
    have hl2 : (List.map (fun e => V.ref e.p) (init ++ new)).length < sizeLine := by
     rw [List.length_map]
     have h1 := cost_len hen
     rw [cost_app] at h1
     have h3 : d * i ≤ d * xs.length := Nat.mul_le_mul_left _ (by omega)
     have h4 : cost init + ec ≤ c0 := hbd
     omega
    have ixs : ∀ H7, Same H H7 → rIx K (.ref p) (.int (i : Int)) H7 = rIx K (.ref p) (.int (i : Int)) H7 := fun _ _ => rfl
    refine ⟨_, rfl, .inl ⟨rfl, _, SqL.of hT6⟩, _, rfl, _, rfl, ?_⟩
    have hpair : ∀ b' : Addr, H6 b' = none → ∃ (new' : List Ent) (v5'' : Option V), [some x0, some y0, some (V.ref t), some (V.ref p), some (V.ref q2), some (V.int (i : Int))] = [some x0, some y0, some (.ref t), some (.ref p), some (.ref q2), v5''] ∧ new'.length = i + 1 ∧
      (upd (upd H6 b' (.tup [xs[i], ys[i]])) t (.lst ((init ++ new).map (fun e => V.ref e.p) ++ [.ref b']))) t = some (.lst ((init ++ new').map fun e => V.ref e.p)) ∧ (∀ e ∈ init ++ new', EntAt H (upd (upd H6 b' (.tup [xs[i], ys[i]])) t (.lst ((init ++ new).map (fun e => V.ref e.p) ++ [.ref b']))) e) ∧
      Same H (upd (upd H6 b' (.tup [xs[i], ys[i]])) t (.lst ((init ++ new).map (fun e => V.ref e.p) ++ [.ref b']))) ∧ cost new' = d * (i + 1) := fun b' hb' => by
     have s7 := s6.trans (same_new (o := .tup [xs[i], ys[i]]) hb')
     have hT7 := (same_new (o := .tup [xs[i], ys[i]]) hb') _ _ hT6
     refine ⟨new ++ [⟨b', xs[i], ys[i], ek, d⟩], _, rfl, by rw [List.length_append, hnl]; rfl, ?_, fun e' he' => ?_, same_upd s7 htH, by rw [cost_app, hcn]; simp [cost, Nat.mul_add]⟩
     ·rw [upd_same, ← List.append_assoc, List.map_append (l₁ := init ++ new)]
      rfl
     ·rw [← List.append_assoc] at he'
      rcases List.mem_append.mp he' with z | z
      ·obtain ⟨g1, g2⟩ := hen e' z
       refine ⟨?_, g2⟩
       have g1' := (same_new (o := .tup [xs[i], ys[i]]) hb') _ _ g1
       rw [upd_ne (ne_of g1' hT7 (by intro y; cases y))]
       exact g1'
      ·rw [List.mem_singleton.mp z]
       refine ⟨?_, hsub i _ _ (List.getElem?_eq_getElem hix) (List.getElem?_eq_getElem hiy)⟩
       show upd _ t _ b' = _
       rw [upd_ne (ne_of (upd_same (H := H6)) hT7 (by intro y; cases y))]
       exact upd_same
    have ax := atI_nat (List.getElem?_eq_getElem hix)
    have ay := atI_nat (List.getElem?_eq_getElem hiy)
    rcases ht3 H6 s6 with ⟨g1, g2⟩ | ⟨g1, g2⟩
    ·refine .inl ⟨p, xs, _, _, rfl, rfl, g1, ax, _, rfl, _, rfl, .inl ⟨q2, ys, _, _, rfl, rfl, g2, ay, h2, fun b' hb' => ⟨t, _, .ref b', rfl, rfl, (same_new hb') _ _ hT6, hl2, ?_⟩⟩⟩
     exact hpair b' hb'
    ·refine .inr (.inl ⟨p, xs, _, _, rfl, rfl, g1, ax, _, rfl, _, rfl, .inr (.inl ⟨q2, ys, _, _, rfl, rfl, g2, ay, h2, fun b' hb' => ⟨t, _, .ref b', rfl, rfl, (same_new hb') _ _ hT6, hl2, ?_⟩⟩)⟩)
     exact hpair b' hb'
   ·rintro σ H6 ⟨new, v5', rfl, hnl, hT6, hen, s6, hcn⟩
    have hn : new.length = xs.length := by
     have : new.length = ((ys.length : Nat) : Int).toNat := hnl
     omega
    have hyx : ((ys.length : Nat) : Int).toNat = xs.length := by omega
    have h4 : cost init + ec ≤ c0 := hbd
    refine ⟨cost (init ++ new), ?_, init ++ new, _, _, _, rfl, hT6, hen, s6, rfl, ?_⟩
    ·rw [cost_app, hcn, hyx, hec]
     omega
    ·rw [cost_app, hcn, hyx]
     omega
end
def spHeld (K : PySem.W.Frag) : Sp := fun vs H Q _ => ∃ (a : Addr) (ps : List Addr) (ds : List Deed), vs = [.ref a] ∧ H a = some (.lst (ps.map V.ref)) ∧ DeedsAt H ps ds ∧ (∀ d ∈ ds, Made d) ∧ ds.length ≤ 200 ∧
 ∀ (r : Addr) (H' : Hp), H r = none → H' r = some (.lst ((after [] ds).map sv)) → Same H H' → Q (.ref r) H'
section
variable {P : Program} {w : World} {K : PySem.W.Frag} {mg : Str → Option Value} {base : Heap}
theorem sc_held : FnScope ["_law_asked", "_law_words", "_law_deed"] ["_law_asked"] (defScope sHeld) := ⟨rfl, rfl, rfl, by decide +kernel, rfl, by decide +kernel, by decide +kernel⟩
theorem ok_held {f : Addr} {fd : FuncData} (F : Fun K "_law_held" "_law_held" sHeld f fd) : FnOk P w K mg base CX0 1 f fd ["_law_asked"] (spHeld K) := by
 refine F.ok sc_held (fun vs H Q E h => ?_) (fun cdv A outer s H vs Q E hr h => ?_)
 ·obtain ⟨a, ps, ds, rfl, _⟩ := h
  rfl
 ·obtain ⟨a, ps, ds, rfl, ha, hd, hm, hdl, k⟩ := h
  have nd := sc_held.nd
  have hsz := sizeLine_eq
  refine ⟨_, (pss_cons (ps_set (i := 1) nd rfl (Or.inl rfl) (pe_lst pa_nil))
   (pss_cons (ps_for PassesOwn.never rfl (pi_list (pv 0)) (pg_name (i := 2) nd rfl (Or.inl rfl)) (pss_consM (ps_if (PW.pt (pw_and (pt_cmpR op_eq (pe_ix ix_tup (pv 2) pe_int (fun _ _ => rfl)) pe_str (nomark _)) (pw_and1 (pt_cmpR op_notIn_seq (pe_ix ix_tup (pv 2) pe_int (fun _ _ => rfl)) (pv 1) (by with_unfolding_all rfl))))) (pss_one (ps_expr (pe_bm PySem.F.plainAttrs_list PySem.F.slot_list_append PySem.F.type_list_append mt_append (pv 1) (pa_cons (pe_ix ix_tup (pv 2) pe_int (fun _ _ => rfl)) pa_nil)))) pss_nil)
   (pss_one (ps_if (PW.pt (pw_and (pt_cmpR op_eq (pe_ix ix_tup (pv 2) pe_int (fun _ _ => rfl)) pe_str (nomark _)) (pw_and1 (pt_cmpR op_in_seq (pe_ix ix_tup (pv 2) pe_int (fun _ _ => rfl)) (pv 1) (by with_unfolding_all rfl))))) (pss_one (ps_expr (pe_bm PySem.F.plainAttrs_list PySem.F.slot_list_remove PySem.F.type_list_remove mt_removeS (pv 1) (pa_cons (pe_ix ix_tup (pv 2) pe_int (fun _ _ => rfl)) pa_nil)))) pss_nil))))
   (pss_one (ps_ret (pv 1))))), ?_⟩
  refine ⟨(by show 0 ≤ sizeLine; omega), fun r hr0 => ?_⟩
  have s0 : Same H (upd H r (.lst [])) := same_new hr0
  refine ⟨_, rfl, a, rfl, ⟨_, SqL.of (s0 _ _ ha)⟩, for_list (K := K) (a := a) (xs := ps.map V.ref) (fun i σ H' => ∃ v : Option V, σ = [some (.ref a), some (.ref r), v] ∧ H' r = some (.lst ((after [] (ds.take i)).map sv)) ∧ Same H H') ⟨none, rfl, upd_same, s0⟩ (fun i σ H' _ ⟨_, _, _, s1⟩ => SqL.of (s1 _ _ ha)) ?_ ?_⟩
  ·rintro i x σ H' hx ⟨v, rfl, hR, s1⟩
   obtain ⟨pd, hpd, rfl⟩ : ∃ pd, ps[i]? = some pd ∧ x = .ref pd := by
    rw [List.getElem?_map] at hx
    cases e : ps[i]? with
    | none => rw [e] at hx; cases hx
    | some z => rw [e] at hx; exact ⟨z, rfl, (Option.some.inj hx).symm⟩
   have hid : i < ds.length := by
    have := (List.getElem?_eq_some_iff.mp hpd).1
    rw [hd.length] at this
    exact this
   obtain ⟨pd', hpd', hdA⟩ := hd.get (List.getElem?_eq_getElem hid)
   rw [hpd] at hpd'
   cases hpd'
   have hW : (after [] (ds.take i)).Nodup := nodup_after List.nodup_nil _
   have hWl : (after [] (ds.take i)).length ≤ i := by
    have := after_len [] (ds.take i)
    rw [List.length_take] at this
    simp only [List.length_nil] at this
    omega
   have hsn : after [] (ds.take (i + 1)) = stepW (after [] (ds.take i)) ds[i] := by
    rw [List.take_add_one, List.getElem?_eq_getElem hid]
    exact after_snoc _ _ _
   have hmd := hm _ (List.getElem_mem hid)
   rw [hsn]
   generalize ds[i] = d at *
   generalize after [] (ds.take i) = W at *
   obtain ⟨wd, hcase, hwd, hwl⟩ := hmd
   have ewd : d.arg = sv wd := by rcases hcase with rfl | rfl | rfl <;> rfl
   have dp : decide (V.str d.name = V.str "put") = decide (tag d = 0) := dname d (.put [])
   have dt : decide (V.str d.name = V.str "take") = decide (tag d = 1) := dname d (.take [])
   have hd1 : H pd = some (.tup [.str d.name, sv wd]) := by rw [← ewd]; exact hdA
   have a1 : atI [V.str d.name, sv wd] 1 = some (sv wd) := atI_nat (j := 1) rfl
   have a0 : atI [V.str d.name, sv wd] 0 = some (.str d.name) := atI_nat (j := 0) rfl
   refine ⟨fun σ' H7 => σ' = [some (.ref a), some (.ref r), some (.ref pd)] ∧ Same H H7 ∧ H7 r = some (.lst ((if tag d = 0 then stepW W d else W).map sv)), fun σ7 H7 m7 => ?_, ?_⟩
   ·obtain ⟨rfl, s7, hR7⟩ := m7
    refine ⟨_, rfl, pd, _, _, _, rfl, rfl, SqT.of (s7 _ _ hd1), a0, rfl, _, rfl, ?_⟩
    rw [dt]
    by_cases ht : tag d = 1
    ·have hd2 : d = .take wd := by
      rcases hcase with rfl | rfl | rfl
      ·cases ht
      ·rfl
      ·cases ht
     subst hd2
     rw [decide_eq_true ht]
     rw [if_neg (by simp [tag])] at hR7
     refine iteT ⟨_, rfl, pd, _, _, _, rfl, rfl, SqT.of (s7 _ _ hd1), a1, _, rfl, r, _, rfl, .inl (SqL.of hR7), rfl, flat_sv W, _, rfl, ?_⟩
     rw [in_sv]
     by_cases hin : wd ∈ W
     ·rw [decide_eq_true hin]
      refine iteT ⟨_, rfl, .inl ⟨rfl, _, SqL.of hR7⟩, _, rfl, pd, _, _, _, rfl, rfl, SqT.of (s7 _ _ hd1), a1, r, W, wd, rfl, rfl, hR7, hin, ?_⟩
      exact ⟨_, rfl, upd_same, same_upd s7 hr0⟩
     ·rw [decide_eq_false hin]
      refine iteF ?_
      refine ⟨_, rfl, ?_, s7⟩
      rw [hR7]
      show some (HO.lst (W.map sv)) = some (HO.lst ((W.erase wd).map sv))
      rw [List.erase_of_not_mem hin]
    ·rw [decide_eq_false ht]
     refine iteF (iteF ?_)
     refine ⟨_, rfl, ?_, s7⟩
     rw [hR7]
     rcases hcase with rfl | rfl | rfl
     ·rfl
     ·exact absurd rfl ht
     ·rfl
   ·refine ⟨_, rfl, pd, _, _, _, rfl, rfl, SqT.of (s1 _ _ hd1), a0, rfl, _, rfl, ?_⟩
    rw [dp]
    by_cases ht : tag d = 0
    ·have hd2 : d = .put wd := by
      rcases hcase with rfl | rfl | rfl
      ·rfl
      ·cases ht
      ·cases ht
     subst hd2
     rw [decide_eq_true ht]
     refine iteT ⟨_, rfl, pd, _, _, _, rfl, rfl, SqT.of (s1 _ _ hd1), a1, _, rfl, r, _, rfl, .inl (SqL.of hR), rfl, flat_sv W, _, rfl, ?_⟩
     show if (if true = true then !inV (sv wd) (W.map sv) else inV (sv wd) (W.map sv)) = true then _ else _
     rw [if_pos rfl, in_sv]
     by_cases hin : wd ∈ W
     ·rw [decide_eq_true hin]
      refine iteF ?_
      refine ⟨rfl, s1, ?_⟩
      rw [hR, if_pos ht]
      show some (HO.lst (W.map sv)) = some (HO.lst ((if wd ∈ W then W else W ++ [wd]).map sv))
      rw [if_pos hin]
     ·rw [decide_eq_false hin]
      refine iteT ⟨_, rfl, .inl ⟨rfl, _, SqL.of hR⟩, _, rfl, pd, _, _, _, rfl, rfl, SqT.of (s1 _ _ hd1), a1, r, W.map sv, sv wd, rfl, rfl, hR, by rw [List.length_map]; omega, ?_⟩
      refine ⟨rfl, same_upd s1 hr0, ?_⟩
      rw [upd_same, if_pos ht]
      show some (HO.lst (W.map sv ++ [sv wd])) = some (HO.lst ((if wd ∈ W then W else W ++ [wd]).map sv))
      rw [if_neg hin, List.map_append]
      rfl
    ·rw [decide_eq_false ht]
     refine iteF (iteF ?_)
     refine ⟨rfl, s1, ?_⟩
     rw [if_neg ht]
     exact hR
  ·rintro σ H' ⟨v, rfl, hR, s1⟩
   refine ⟨_, rfl, k r H' hr0 ?_ s1⟩
   rw [hR, List.take_of_length_le (by rw [List.length_map, hd.length]; exact Nat.le_refl _)]
end
end K07
set_option maxHeartbeats 4000000
namespace K07
open PySem L2 WH
theorem seq_hide {t u : TS} {D : Ends} {σ : St} {H : Hp} (h : ∀ R : Ends, (∀ σ' H', u D σ' H' → R.nx σ' H') → (∀ v H', D.rt v H' → R.rt v H') → (∀ σ' H', D.bk σ' H' → R.bk σ' H') → (∀ σ' H', D.ct σ' H' → R.ct σ' H') → t R σ H) : tSeq t u D σ H :=
 h { D with nx := u D } (fun _ _ z => z) (fun _ _ z => z) (fun _ _ z => z) fun _ _ z => z
theorem zc_eq : ("zc" : Str) = S [122, 99] := by decide +kernel
theorem b_eq : ("b" : Str) = S [98] := by decide +kernel
theorem q_eq : ("q" : Str) = S [113] := by decide +kernel
theorem name_sv (d : Deed) : ∃ l, V.str d.name = sv l := by
 cases d
 ·exact ⟨[112, 117, 116], congrArg V.str (by decide +kernel : ("put" : Str) = S [112, 117, 116])⟩
 ·exact ⟨[116, 97, 107, 101], congrArg V.str (by decide +kernel : ("take" : Str) = S [116, 97, 107, 101])⟩
 ·exact ⟨[104, 97, 115], congrArg V.str (by decide +kernel : ("has" : Str) = S [104, 97, 115])⟩
 ·exact ⟨[97, 108, 108], congrArg V.str (by decide +kernel : ("all" : Str) = S [97, 108, 108])⟩
 ·exact ⟨[108, 111, 110, 103, 101, 115, 116], congrArg V.str (by decide +kernel : ("longest" : Str) = S [108, 111, 110, 103, 101, 115, 116])⟩
 ·exact ⟨[97, 104, 101, 97, 100], congrArg V.str (by decide +kernel : ("ahead" : Str) = S [97, 104, 101, 97, 100])⟩
 ·exact ⟨[97, 116], congrArg V.str (by decide +kernel : ("at" : Str) = S [97, 116])⟩
theorem arg_sc (d : Deed) : Sc d.arg := by
 cases d <;> first | exact .inl ⟨_, rfl⟩ | exact .inr ⟨_, rfl⟩
theorem deed_item {H : Hp} {p : Addr} {d : Deed} (h : DeedAt H p d) : ItemL H 1 (.ref p) (.ref p) 3 := by
 refine ⟨p, p, [.str d.name, d.arg], [.str d.name, d.arg], 1, rfl, rfl, .inl ⟨h, h⟩, rfl, (by show 2 ≤ 1000; omega), fun i a b ha hb => ?_, rfl⟩
 rw [ha] at hb
 cases hb
 match i, ha with
 | 0, ha => cases ha; exact ⟨rfl, .inl (name_sv d), rfl⟩
 | 1, ha => cases ha; exact ⟨rfl, arg_sc d, rfl⟩
 | i + 2, ha => simp at ha
def nP (ds : List Deed) : Nat := ds.countP fun d => decide (tag d = 0)
theorem step_put (W : List (List Nat)) (d : Deed) : (stepW W d).length ≤ W.length + if decide (tag d = 0) = true then 1 else 0 := by
 cases d with
 | put w => exact step_len W (.put w)
 | take w => exact List.length_erase_le
 | _ => exact Nat.le_refl _
theorem after_put : ∀ (ds : List Deed) (W : List (List Nat)), (after W ds).length ≤ W.length + nP ds
 | [], W => Nat.le_refl _
 | d :: ds, W => by
  have h1 := after_put ds (stepW W d)
  have h2 := step_put W d
  show (after (stepW W d) ds).length ≤ _
  unfold nP at h1 ⊢
  rw [List.countP_cons]
  omega
theorem after_fine {ds : List Deed} (h : ∀ d ∈ ds, Fine7 d) : ∀ W : List (List Nat), (∀ v ∈ W, v.length ≤ 110) → ∀ v ∈ after W ds, v.length ≤ 110 := by
 induction ds with
 | nil => exact fun W hW => hW
 | cons d ds ih =>
  intro W hW
  refine ih (fun e he => h e (List.mem_cons_of_mem _ he)) (stepW W d) fun v hv => ?_
  rcases h d (List.mem_cons_self ..) with ⟨z, rfl⟩ | ⟨w, hc, hl, hn⟩ | ⟨t, rfl, _⟩ | ⟨t, rfl, _⟩ | ⟨t, rfl, _⟩
  ·exact hW v hv
  ·rcases hc with rfl | rfl | rfl
   ·rcases (mem_step_put W w v).mp hv with rfl | z
    ·exact hn
    ·exact hW v z
   ·exact hW v (List.mem_of_mem_erase hv)
   ·exact hW v hv
  ·exact hW v hv
  ·exact hW v hv
  ·exact hW v hv
def menu (k : Int) (t : List Nat) : List Deed := [.all (t ++ [97]), .longest (t ++ [122, 99]), .ahead (t ++ [98]), .at_ (k / 2 - 1), .has (t ++ [113])]
theorem menu_fine {k : Int} {t : List Nat} (h : Letters t) (hl : t.length ≤ 100) {d : Deed} (hd : d ∈ menu k t) : Fine7 d ∧ tag d ≠ 0 := by
 have l1 : ∀ c : Nat, 97 ≤ c → c ≤ 122 → Letters (t ++ [c]) := fun c h1 h2 => h.app fun x hx => by rw [List.mem_singleton.mp hx]; exact ⟨h1, h2⟩
 have n1 : ∀ c : Nat, (t ++ [c]).length ≤ 110 := fun c => by rw [List.length_append]; show t.length + 1 ≤ 110; omega
 unfold menu at hd
 rcases List.mem_cons.mp hd with rfl | hd
 ·exact ⟨.inr (.inr (.inl ⟨_, rfl, l1 _ (by omega) (by omega), n1 _⟩)), by simp [tag]⟩
 rcases List.mem_cons.mp hd with rfl | hd
 ·refine ⟨.inr (.inr (.inr (.inl ⟨_, rfl, h.app fun x hx => ?_, ?_⟩))), by simp [tag]⟩
  ·rcases List.mem_cons.mp hx with rfl | hx
   ·omega
   ·rw [List.mem_singleton.mp hx]; omega
  ·rw [List.length_append]; show t.length + 2 ≤ 110; omega
 rcases List.mem_cons.mp hd with rfl | hd
 ·exact ⟨.inr (.inr (.inr (.inr ⟨_, rfl, l1 _ (by omega) (by omega), n1 _⟩))), by simp [tag]⟩
 rcases List.mem_cons.mp hd with rfl | hd
 ·exact ⟨.inl ⟨_, rfl⟩, by simp [tag]⟩
 rw [List.mem_singleton.mp hd]
 exact ⟨.inr (.inl ⟨_, .inr (.inr rfl), l1 _ (by omega) (by omega), n1 _⟩), by simp [tag]⟩
structure Txt (mg : Str → Option Value) (fS fP fU fH fR fW fRe fKi fTO fA fB : Addr) : Prop extends LTxt mg fS fP, KTxt mg fW where
 tuple : mg "tuple" = none
 _law_unturned : mg "_law_unturned" = some (.ref fU)
 _law_held : mg "_law_held" = some (.ref fH)
 _law_room : mg "_law_room" = some (.ref fR)
 _law_reply : mg "_law_reply" = some (.ref fRe)
 _law_kind : mg "_law_kind" = some (.ref fKi)
 _law_twigs_of : mg "_law_twigs_of" = some (.ref fTO)
 answers : mg "answers" = some (.ref fA)
 twigs_behind : mg "twigs_behind" = some (.ref fB)
def spLaw (K : PySem.W.Frag) : Sp := fun vs H Q _ => ∃ (a : Addr) (ns : List Int), vs = [.ref a] ∧ SqL K H a (ns.map V.int) ∧ ns.length ≤ 63 ∧ ∀ H', Q (.bl true) H'
theorem isi_tuple_tuple : kitBB "tuple" "tuple" = some true := by decide +kernel
section
variable {P : Program} {w : World} {K : PySem.W.Frag} {mg : Str → Option Value} {base : Heap}
theorem scL : FnScope ["_law_script", "_law_asked", "_law_mixed", "_law_k", "_law_text", "_law_menu", "_law_told", "_law_handed", "_law_found", "_law_words", "_law_due", "_law_j"] ["_law_script"] (defScope sLaw) := ⟨rfl, rfl, rfl, by decide +kernel, rfl, by decide +kernel, by decide +kernel⟩
theorem ok_law {f fS fP fU fH fR fW fRe fKi fTO fA fB : Addr} {fd fdS fdP fdU fdH fdR fdW fdRe fdKi fdTO fdA fdB : FuncData} {kA : Nat} (F : Fun K "law" "law" sLaw f fd) (T : Txt mg fS fP fU fH fR fW fRe fKi fTO fA fB)
  (F__law_spelt : Fun K "_law_spelt" "_law_spelt" sSpelt fS fdS) (b__law_spelt : Binds K fdS ["_law_seed"] [])
  (F__law_puts : Fun K "_law_puts" "_law_puts" sPuts fP fdP) (b__law_puts : Binds K fdP ["_law_cells"] [])
  (F__law_unturned : Fun K "_law_unturned" "_law_unturned" sUnturned fU fdU) (b__law_unturned : Binds K fdU ["_law_found", "_law_due"] [])
  (F__law_held : Fun K "_law_held" "_law_held" sHeld fH fdH) (b__law_held : Binds K fdH ["_law_asked"] [])
  (F__law_room : Fun K "_law_room" "_law_room" sRoom fR fdR) (b__law_room : Binds K fdR ["_law_script", "_law_most", "_law_bound"] [])
  (F__law_whole : Fun K "_law_whole" "_law_whole" sWhole fW fdW) (b__law_whole : Binds K fdW ["_law_found"] [])
  (F__law_reply : Fun K "_law_reply" "_law_reply" sReply fRe fdRe) (b__law_reply : Binds K fdRe ["_law_words", "_law_deed"] [])
  (F__law_kind : Fun K "_law_kind" "_law_kind" sKind fKi fdKi) (b__law_kind : Binds K fdKi ["_law_found", "_law_due"] [])
  (F__law_twigs_of : Fun K "_law_twigs_of" "_law_twigs_of" sTwigsOf fTO fdTO) (b__law_twigs_of : Binds K fdTO ["_law_words"] [])
  (kp_answers : PySem.W.keepIn K (.ref fA) = true) (b_answers : Binds K fdA ["deeds"] []) (G_answers : FnOk P w K mg base CX0 kA fA fdA ["deeds"] (spAnswersF Fine7 K))
  (F_twigs_behind : Fun K "twigs_behind" "twigs_behind" sBehind fB fdB) (b_twigs_behind : Binds K fdB ["deeds"] []) (G_twigs_behind : FnOk P w K mg base CX0 kA fB fdB ["deeds"] (spTwigs Fine7 K)) : FnOk P w K mg base CX0 (kA + 4) f fd ["_law_script"] (spLaw K) := by
 have G__law_puts : FnOk P w K mg base CX0 2 fP fdP ["_law_cells"] (spPuts K) := ok_puts F__law_puts T.toLTxt F__law_spelt b__law_spelt
 have G__law_unturned : FnOk P w K mg base CX0 1 fU fdU ["_law_found", "_law_due"] spUnturned := ok_unturned F__law_unturned ⟨T.len, T.range, T.isi, T.list, T.tuple, T.str, T.int, T.bool⟩
 have G__law_held : FnOk P w K mg base CX0 1 fH fdH ["_law_asked"] (spHeld K) := ok_held F__law_held
 have G__law_room : FnOk P w K mg base CX0 1 fR fdR ["_law_script", "_law_most", "_law_bound"] (spRoom K) := ok_room F__law_room T.toKTxt
 have G__law_reply : FnOk P w K mg base CX0 1 fRe fdRe ["_law_words", "_law_deed"] (spReply K) := ok_reply F__law_reply T.toKTxt
 have G__law_kind : FnOk P w K mg base CX0 2 fKi fdKi ["_law_found", "_law_due"] spKind := ok_kind F__law_kind T.toKTxt F__law_whole b__law_whole
 have G__law_twigs_of : FnOk P w K mg base CX0 1 fTO fdTO ["_law_words"] (spTwigsOf K) := ok_twigsof F__law_twigs_of T.toKTxt
 refine F.ok scL (fun vs H Q E h => ?_) (fun cdv A outer s H vs Q E hr h => ?_)
 ·obtain ⟨a, ns, rfl, _⟩ := h
  rfl
 ·obtain ⟨a, ns, rfl, hS, hlen, k⟩ := h
  have nd := scL.nd
  have hu0 := hr.units0
  have hr__law_puts : Room 2 _ := hr.mono (by omega)
  have hr__law_unturned : Room 1 _ := hr.mono (by omega)
  have hr__law_held : Room 1 _ := hr.mono (by omega)
  have hr__law_room : Room 1 _ := hr.mono (by omega)
  have hr__law_reply : Room 1 _ := hr.mono (by omega)
  have hr__law_kind : Room 2 _ := hr.mono (by omega)
  have hr__law_twigs_of : Room 1 _ := hr.mono (by omega)
  have hr_answers : Room kA _ := hr.mono (by omega)
  have hr_twigs_behind : Room kA _ := hr.mono (by omega)
  have hsz := sizeLine_eq
  refine ⟨_, (pss_cons (ps_set (i := 1) nd rfl (Or.inl rfl) (pe_call G__law_puts hr__law_puts rfl T._law_puts F__law_puts.kp b__law_puts .nil pass0 (pa_cons (pe_slice sl_list (pv 0) po_none (po_some (pe_call G__law_room hr__law_room rfl T._law_room F__law_room.kp b__law_room .nil pass0 (pa_cons (pv 0) (pa_cons pe_int (pa_cons pe_int pa_nil)))))) pa_nil)))
   (pss_consM (ps_if (PW.pt (pw_and (pt_cmpR op_gt (pe_callB call_len rfl T.len PySem.boot_len (pa_cons (pv 1) pa_nil)) pe_int (nomark _)) (pw_and1 (pt_cmpR op_eq (pe_op op_mod (pe_ix ix_list (pv 0) pe_int (fun _ _ => rfl)) pe_int) pe_int (nomark _))))) (pss_one (ps_set (i := 1) nd rfl (Or.inl rfl) (pe_op op_cat (pv 1) (pe_lc (defScope sLaw) [] []  rfl rfl (by decide +kernel) trivial (pi_list (pe_call G__law_held hr__law_held rfl T._law_held F__law_held.kp b__law_held .nil pass0 (pa_cons (pv 1) pa_nil))) (fun _ _ _ _ _ => pif_nil) (fun _ _ _ _ _ => (pe_tup (pa_cons pe_str (pa_cons (pv 0) pa_nil)))))))) pss_nil)
   (pss_cons (ps_set (i := 2) nd rfl (Or.inl rfl) (pe_lst pa_nil))
   (pss_cons (ps_for PassesOwn.never rfl (pi_range1 rfl T.range (pa_cons (pe_callB call_len rfl T.len PySem.boot_len (pa_cons (pv 1) pa_nil)) pa_nil)) (pg_name (i := 3) nd rfl (Or.inl rfl)) (pss_cons (ps_set (i := 4) nd rfl (Or.inl rfl) (pe_ix ix_tup (pe_ix ix_list (pv 1) (pv 3) (fun _ _ => rfl)) pe_int (fun _ _ => rfl)))
   (pss_cons (ps_set (i := 5) nd rfl (Or.inl rfl) (pe_lst (pa_cons (pe_tup (pa_cons pe_str (pa_cons (pe_op op_addN (pv 4) pe_str) pa_nil))) (pa_cons (pe_tup (pa_cons pe_str (pa_cons (pe_op op_addN (pv 4) pe_str) pa_nil))) (pa_cons (pe_tup (pa_cons pe_str (pa_cons (pe_op op_addN (pv 4) pe_str) pa_nil))) pa_nil)))))
   (pss_cons (ps_set (i := 5) nd rfl (Or.inl rfl) (pe_op op_cat (pv 5) (pe_lst (pa_cons (pe_tup (pa_cons pe_str (pa_cons (pe_op op_sub (pe_op op_fdiv (pv 3) pe_int) pe_int) pa_nil))) (pa_cons (pe_tup (pa_cons pe_str (pa_cons (pe_op op_addN (pv 4) pe_str) pa_nil))) pa_nil)))))
   (pss_one (ps_set (i := 2) nd rfl (Or.inl rfl) (pe_op op_cat (pv 2) (pe_lst (pa_cons (pe_ix ix_list (pv 1) (pv 3) (fun _ _ => rfl)) (pa_cons (pe_ix ix_list (pv 5) (pe_op op_mod (pv 3) pe_int) (fun _ _ => rfl)) pa_nil))))))))))
   (pss_cons (ps_set (i := 6) nd rfl (Or.inl rfl) (pe_call G_answers hr_answers rfl T.answers kp_answers b_answers .nil pass0 (pa_cons (pe_callTy call_list_of rfl T.list boot_list (pa_cons (pv 2) pa_nil)) pa_nil)))
   (pss_cons (ps_set (i := 7) nd rfl (Or.inl rfl) (pe_callTy call_list_of rfl T.list boot_list (pa_cons (pv 2) pa_nil)))
   (pss_cons (ps_set (i := 8) nd rfl (Or.inl rfl) (pe_call G_twigs_behind hr_twigs_behind rfl T.twigs_behind F_twigs_behind.kp b_twigs_behind .nil pass0 (pa_cons (pv 7) pa_nil)))
   (pss_cons (ps_if (pt_not (pt_val (pe_call G__law_unturned hr__law_unturned rfl T._law_unturned F__law_unturned.kp b__law_unturned .nil pass0 (pa_cons (pv 7) (pa_cons (pv 2) pa_nil))))) (pss_one (ps_ret pe_bl)) pss_nil)
   (pss_cons (ps_if (PW.pt (pw_or (pt_not (pt_val (pe_callB call_isi rfl T.isi boot_isi (pa_cons (pv 6) (pa_cons (pe_bltn (v := .ty "list") rfl T.list boot_list rfl) pa_nil))))) (pw_or1 (pt_cmpR op_ne (pe_callB call_len rfl T.len PySem.boot_len (pa_cons (pv 6) pa_nil)) (pe_callB call_len rfl T.len PySem.boot_len (pa_cons (pv 2) pa_nil)) (nomark _))))) (pss_one (ps_ret pe_bl)) pss_nil)
   (pss_cons (ps_set (i := 9) nd rfl (Or.inl rfl) pe_dnewK)
   (pss_cons (ps_for PassesOwn.never rfl (pi_range1 rfl T.range (pa_cons (pe_callB call_len rfl T.len PySem.boot_len (pa_cons (pv 2) pa_nil)) pa_nil)) (pg_name (i := 3) nd rfl (Or.inl rfl)) (pss_one (ps_if (pt_not (pt_val (pe_call G__law_kind hr__law_kind rfl T._law_kind F__law_kind.kp b__law_kind .nil pass0 (pa_cons (pe_ix ix_list (pv 6) (pv 3) (fun _ _ => rfl)) (pa_cons (pe_call G__law_reply hr__law_reply rfl T._law_reply F__law_reply.kp b__law_reply .nil pass0 (pa_cons (pv 9) (pa_cons (pe_ix ix_list (pv 2) (pv 3) (fun _ _ => rfl)) pa_nil))) pa_nil))))) (pss_one (ps_ret pe_bl)) pss_nil)))
   (pss_cons (ps_set (i := 10) nd rfl (Or.inl rfl) (pe_call G__law_twigs_of hr__law_twigs_of rfl T._law_twigs_of F__law_twigs_of.kp b__law_twigs_of .nil pass0 (pa_cons (pv 9) pa_nil)))
   (pss_cons (ps_if (PW.pt (pw_or (pt_not (pt_val (pe_callB call_isi rfl T.isi boot_isi (pa_cons (pv 8) (pa_cons (pe_bltn (v := .ty "list") rfl T.list boot_list rfl) pa_nil))))) (pw_or1 (pt_cmpR op_ne (pe_callB call_len rfl T.len PySem.boot_len (pa_cons (pv 8) pa_nil)) (pe_callB call_len rfl T.len PySem.boot_len (pa_cons (pv 10) pa_nil)) (nomark _))))) (pss_one (ps_ret pe_bl)) pss_nil)
   (pss_cons (ps_for PassesOwn.never rfl (pi_range1 rfl T.range (pa_cons (pe_callB call_len rfl T.len PySem.boot_len (pa_cons (pv 10) pa_nil)) pa_nil)) (pg_name (i := 3) nd rfl (Or.inl rfl)) (pss_cons (ps_if (PW.pt (pw_or (pt_not (pt_val (pe_callB call_isi rfl T.isi boot_isi (pa_cons (pe_ix ix_list (pv 8) (pv 3) (fun _ _ => rfl)) (pa_cons (pe_bltn (v := .ty "tuple") rfl T.tuple boot_tuple rfl) pa_nil))))) (pw_or1 (pt_cmpR op_ne (pe_callB call_len rfl T.len PySem.boot_len (pa_cons (pe_ix ix_list (pv 8) (pv 3) (fun _ _ => rfl)) pa_nil)) pe_int (nomark _))))) (pss_one (ps_ret pe_bl)) pss_nil)
   (pss_one (ps_for PassesOwn.never rfl (pi_range1 rfl T.range (pa_cons pe_int pa_nil)) (pg_name (i := 11) nd rfl (Or.inl rfl)) (pss_one (ps_if (pt_not (pt_val (pe_call G__law_kind hr__law_kind rfl T._law_kind F__law_kind.kp b__law_kind .nil pass0 (pa_cons (pe_ix ix_tup (pe_ix ix_list (pv 8) (pv 3) (fun _ _ => rfl)) (pv 11) (fun _ _ => rfl)) (pa_cons (pe_ix ix_tup (pe_ix ix_list (pv 10) (pv 3) (fun _ _ => rfl)) (pv 11) (fun _ _ => rfl)) pa_nil))))) (pss_one (ps_ret pe_bl)) pss_nil))))))
   (pss_one (ps_ret pe_bl)))))))))))))))), ?_⟩
  refine seq_hide fun R hR _ _ _ => ?_
  refine ⟨_, rfl, _, rfl, a, ns, _, _, rfl, hS, hlen, _, rfl, a, _, rfl, hS, fun c hc => ?_⟩
  have ems : cutV (ns.map V.int) none (some 32) = (ns.take 32).map V.int := by
   rw [List.map_take]
   exact cutV_to _ 32
  rw [ems]
  have hml : (ns.take 32).length ≤ 32 ∧ (ns.take 32).length ≤ ns.length := by rw [List.length_take]; omega
  refine ⟨c, ns.take 32, rfl, SqL.of upd_same, by omega, fun r ps ds H1 hd hdl hm hr0 hr1 s01 => ?_⟩
  have s1 : Same H H1 := (same_new hc).trans s01
  have hpl : ps.length = ds.length := hd.length
  have hdl0 : ds.length ≤ 32 := by omega
  refine hR _ _ ?_
  refine ⟨fun σ' H' => ∃ (r : Addr) (ps : List Addr) (ds : List Deed), σ' = [some (.ref a), some (.ref r), none, none, none, none, none, none, none, none, none, none] ∧ H' r = some (.lst (ps.map V.ref)) ∧ DeedsAt H' ps ds ∧ (∀ d ∈ ds, Made d) ∧ ds.length ≤ 64 ∧ nP ds ≤ 32, fun σ' H' hM => ?_, ?_⟩
  ·obtain ⟨r, ps, ds, rfl, hr1, hd, hm, hdl, hnp⟩ := hM
   have hpl : ps.length = ds.length := hd.length
   have ep : (ps.map V.ref).length = ds.length := by rw [List.length_map, hpl]
   refine seq_hide fun R hR _ _ _ => ?_
   refine ⟨(by show 0 ≤ sizeLine; omega), fun m0 hm0 => hR _ _ ?_⟩
   have s2 : Same H' (upd H' m0 (.lst [])) := same_new hm0
   refine seq_hide fun R hR _ _ _ => ?_
   refine ⟨_, rfl, _, _, rfl, .inl ⟨_, SqL.of (s2 _ _ hr1), rfl⟩, _, rfl, by omega, by omega, for_range (fun i σ H2 => ∃ (m : Addr) (qs : List Addr) (es : List Deed) (v3 v4 v5 : Option V), σ = [some (.ref a), some (.ref r), some (.ref m), v3, v4, v5, none, none, none, none, none, none] ∧ H2 m = some (.lst (qs.map V.ref)) ∧ DeedsAt H2 qs es ∧ (∀ d ∈ es, Fine7 d) ∧ es.length = 2 * i ∧ nP es = nP (ds.take i) ∧ Same H' H2) ?_ ?_ ?_⟩
   ·exact ⟨m0, [], [], none, none, none, rfl, upd_same, .nil, (fun d h => nomatch h), rfl, rfl, s2⟩
   ·rintro i σ H2 hi ⟨m, qs, es, v3, v4, v5, rfl, hq2, hqd, hfine, hel, hnpi, s3⟩
    have hid : i < ds.length := by
     have : i < ((ps.map V.ref).length : Int).toNat := hi
     omega
    have e0 : (0 : Int) + (i : Int) = ((i : Nat) : Int) := by omega
    rw [e0]
    obtain ⟨pd, hpd, hdA⟩ := hd.get (List.getElem?_eq_getElem hid)
    have hmd := hm _ (List.getElem_mem hid)
    obtain ⟨wd, ewd, hwd, hwl⟩ := hmd.word
    have etk : nP (ds.take (i + 1)) = nP (ds.take i) + nP [ds[i]] := by
     rw [List.take_add_one, List.getElem?_eq_getElem hid]
     exact List.countP_append ..
    have hf1 : Fine7 ds[i] := .inr (.inl hmd.fine3)
    have hdA2 : DeedAt H2 pd ds[i] := s3 _ _ hdA
    have hd1 : H2 pd = some (.tup [.str ds[i].name, sv wd]) := by
     rw [← ewd]
     exact hdA2
    generalize ds[i] = dd at *
    have hap : atI (ps.map V.ref) (i : Int) = some (.ref pd) := atI_nat (by rw [List.getElem?_map, hpd]; rfl)
    have a1 : atI [V.str dd.name, sv wd] 1 = some (sv wd) := atI_nat (j := 1) rfl
    refine seq_hide fun R2 hR _ _ _ => ?_
    refine ⟨_, rfl, _, rfl, r, _, _, _, rfl, rfl, SqL.of (s3 _ _ hr1), hap, pd, _, _, _, rfl, rfl, SqT.of hd1, a1, hR _ _ ?_⟩
    refine seq_hide fun R2 hR _ _ _ => ?_
    refine ⟨_, rfl, wd, [97], rfl, congrArg V.str a_eq, (by show wd.length + 1 ≤ sizeLine; omega), (by show 2 ≤ sizeLine; omega), fun q1 h1 => ?_⟩
    refine ⟨_, rfl, wd, [122, 99], rfl, congrArg V.str zc_eq, (by show wd.length + 2 ≤ sizeLine; omega), (by show 2 ≤ sizeLine; omega), fun q2 h2 => ?_⟩
    refine ⟨_, rfl, wd, [98], rfl, congrArg V.str b_eq, (by show wd.length + 1 ≤ sizeLine; omega), (by show 2 ≤ sizeLine; omega), fun q3 h3 => ?_⟩
    refine ⟨(by show 3 ≤ sizeLine; omega), fun m1 hm1 => ?_⟩
    obtain ⟨H3, hH3⟩ : ∃ H3, H3 = upd (upd (upd (upd H2 q1 (.tup [V.str "all", sv (wd ++ [97])])) q2 (.tup [V.str "longest", sv (wd ++ [122, 99])])) q3 (.tup [V.str "ahead", sv (wd ++ [98])])) m1 (.lst [V.ref q1, V.ref q2, V.ref q3]) := ⟨_, rfl⟩
    have s43 : Same H2 H3 := by
     rw [hH3]
     exact (same_new h1).trans ((same_new h2).trans ((same_new h3).trans (same_new hm1)))
    have g1 : DeedAt H3 q1 (.all (wd ++ [97])) := by
     rw [hH3]
     exact ((same_new h2).trans ((same_new h3).trans (same_new hm1))) _ _ upd_same
    have g2 : DeedAt H3 q2 (.longest (wd ++ [122, 99])) := by
     rw [hH3]
     exact ((same_new h3).trans (same_new hm1)) _ _ upd_same
    have g3 : DeedAt H3 q3 (.ahead (wd ++ [98])) := by
     rw [hH3]
     exact (same_new hm1) _ _ upd_same
    have gm : H3 m1 = some (.lst [V.ref q1, V.ref q2, V.ref q3]) := by
     rw [hH3]
     exact upd_same
    rw [← hH3]
    clear hH3
    refine hR _ _ ?_
    refine seq_hide fun R2 hR _ _ _ => ?_
    refine ⟨_, rfl, _, rfl, _, _, rfl, rfl, ⟨by decide, by decide⟩, _, _, rfl, rfl, (by show 2 ≤ sizeLine; omega), fun q4 h4 => ?_⟩
    refine ⟨_, rfl, wd, [113], rfl, congrArg V.str q_eq, (by show wd.length + 1 ≤ sizeLine; omega), (by show 2 ≤ sizeLine; omega), fun q5 h5 => ?_⟩
    refine ⟨(by show 2 ≤ sizeLine; omega), fun m2 hm2 => ?_⟩
    have s34 : Same H3 (upd (upd (upd H3 q4 (.tup [V.str "at", V.int ((i : Int) / 2 - 1)])) q5 (.tup [V.str "has", sv (wd ++ [113])])) m2 (.lst [V.ref q4, V.ref q5])) := (same_new h4).trans ((same_new h5).trans (same_new hm2))
    refine ⟨m1, m2, _, _, rfl, rfl, s34 _ _ gm, upd_same, (by show 5 ≤ sizeLine; omega), fun m3 hm3 => ?_⟩
    obtain ⟨H4, hH4⟩ : ∃ H4, H4 = upd (upd (upd (upd H3 q4 (.tup [V.str "at", V.int ((i : Int) / 2 - 1)])) q5 (.tup [V.str "has", sv (wd ++ [113])])) m2 (.lst [V.ref q4, V.ref q5])) m3 (.lst ([V.ref q1, V.ref q2, V.ref q3] ++ [V.ref q4, V.ref q5])) := ⟨_, rfl⟩
    have s35 : Same H3 H4 := by
     rw [hH4]
     exact s34.trans (same_new hm3)
    have g4 : DeedAt H4 q4 (.at_ ((i : Int) / 2 - 1)) := by
     rw [hH4]
     exact ((same_new h5).trans ((same_new hm2).trans (same_new hm3))) _ _ upd_same
    have g5 : DeedAt H4 q5 (.has (wd ++ [113])) := by
     rw [hH4]
     exact ((same_new hm2).trans (same_new hm3)) _ _ upd_same
    have gm3 : H4 m3 = some (.lst ([q1, q2, q3, q4, q5].map V.ref)) := by
     rw [hH4]
     exact upd_same
    rw [← hH4]
    clear hH4 s34
    refine hR _ _ ?_
    have hmenu : DeedsAt H4 [q1, q2, q3, q4, q5] (menu (i : Int) wd) := .cons (s35 _ _ g1) (.cons (s35 _ _ g2) (.cons (s35 _ _ g3) (.cons g4 (.cons g5 .nil))))
    have s24 : Same H2 H4 := s43.trans s35
    obtain ⟨j, hj⟩ : ∃ j : Nat, (i : Int) % 5 = (j : Int) := ⟨((i : Int) % 5).toNat, by omega⟩
    have hj5 : j < (menu (i : Int) wd).length := by
     show j < 5
     omega
    obtain ⟨pm, hpm, hmA⟩ := hmenu.get (List.getElem?_eq_getElem hj5)
    have hmf := menu_fine hwd hwl (List.getElem_mem hj5)
    generalize (menu (i : Int) wd)[j] = em at hmA hmf
    have hapm : atI ([q1, q2, q3, q4, q5].map V.ref) ((i : Int) % 5) = some (.ref pm) := by
     rw [hj]
     exact atI_nat (by rw [List.getElem?_map, hpm]; rfl)
    refine ⟨_, rfl, _, rfl, _, rfl, r, _, _, _, rfl, rfl, SqL.of (s24 _ _ (s3 _ _ hr1)), hap, _, rfl, _, rfl, _, _, rfl, rfl, (by show (0 : Int) < 5; decide), m3, _, _, _, rfl, rfl, SqL.of gm3, hapm, (by show 2 ≤ sizeLine; omega), fun n1 hn1 => ?_⟩
    have hql : (qs.map V.ref).length = es.length := by rw [List.length_map, hqd.length]
    refine ⟨m, n1, _, _, rfl, rfl, (same_new hn1) _ _ (s24 _ _ hq2), upd_same, (by rw [hql]; show es.length + 2 ≤ sizeLine; omega), fun n2 hn2 => ?_⟩
    have s45 := (same_new (o := .lst [V.ref pd, V.ref pm]) hn1).trans (same_new (o := .lst (qs.map V.ref ++ [V.ref pd, V.ref pm])) hn2)
    have s25 := s24.trans s45
    refine ⟨n2, qs ++ [pd, pm], es ++ [dd, em], _, _, _, rfl, by rw [List.map_append]; exact upd_same, (hqd.same s25).app (.cons (s25 _ _ hdA2) (.cons (s45 _ _ hmA) .nil)), fun d hd' => ?_, by rw [List.length_append, hel]; show 2 * i + 2 = 2 * (i + 1); omega, ?_, s3.trans s25⟩
    ·rcases List.mem_append.mp hd' with y | y
     ·exact hfine d y
     ·rcases List.mem_cons.mp y with rfl | y
      ·exact hf1
      ·rw [List.mem_singleton.mp y]
       exact hmf.1
    ·rw [etk, ← hnpi]
     show nP (es ++ ([dd] ++ [em])) = _
     unfold nP
     rw [List.countP_append, List.countP_append, List.countP_singleton (a := em), if_neg (by simpa using hmf.2)]
     rfl
   ·rintro σ H2 ⟨m, qs, es, v3, v4, v5, rfl, hq2, hqd, hfine, hel, hnpi, s3⟩
    have hel' : es.length ≤ 128 := by
     have : es.length = 2 * ((ps.map V.ref).length : Int).toNat := hel
     omega
    have hnp' : nP es ≤ 32 := by
     rw [hnpi]
     exact Nat.le_trans ((List.take_sublist _ _).countP_le) hnp
    clear hel hnpi hm0 s2 s3 hr1 hd hm ep hpl
    have eq : (qs.map V.ref).length = es.length := by rw [List.length_map, hqd.length]
    refine hR _ _ ?_
    refine seq_hide fun R hR _ _ _ => ?_
    refine ⟨_, rfl, m, _, rfl, .inl (SqL.of hq2), fun l1 hl1 => ?_⟩
    have s4 : Same H2 (upd H2 l1 (.lst (qs.map V.ref))) := same_new hl1
    refine ⟨l1, qs, es, rfl, upd_same, hqd.same s4, hfine, by omega, fun q us H3 hq0 hq3 hA s5 => ?_⟩
    have s23 := s4.trans s5
    have hm3 := s23 _ _ hq2
    have hd3 := hqd.same s23
    clear s4 s5 hl1 s23 hq0
    refine hR _ _ ?_
    have hul : us.length = es.length := by rw [hA.length, run_length]
    refine seq_hide fun R hR _ _ _ => ?_
    refine ⟨_, rfl, m, _, rfl, .inl (SqL.of hm3), fun l2 hl2 => hR _ _ ?_⟩
    refine seq_hide fun R hR _ _ _ => ?_
    have s6 : Same H3 (upd H3 l2 (.lst (qs.map V.ref))) := same_new hl2
    refine ⟨_, rfl, l2, qs, es, rfl, upd_same, hd3.same s6, hfine, by omega, fun l xs ts H4 hbegs hl0 hl4 htw s7 => ?_⟩
    have s34 := s6.trans s7
    have hm4 := s34 _ _ hm3
    have hd4 := hd3.same s34
    have hq4 := s34 _ _ hq3
    have hA4 := hA.same s34
    have hl24 : H4 l2 = some (.lst (qs.map V.ref)) := s7 _ _ upd_same
    clear s6 s7 hl2 s34 hl0 hm3 hd3 hA hq3 hqd hq2
    refine hR _ _ ?_
    refine seq_hide fun R hR _ _ _ => ?_
    have hit : ItemL H4 2 (.ref l2) (.ref m) (3 * (qs.map V.ref).length + 1) := by
     refine ⟨l2, m, qs.map V.ref, qs.map V.ref, 3, rfl, rfl, .inr ⟨hl24, hm4⟩, rfl, by omega, fun i x y hx hy => ?_, rfl⟩
     rw [hx] at hy
     cases hy
     have hil : i < es.length := by
      have := (List.getElem?_eq_some_iff.mp hx).1
      omega
     obtain ⟨p, hp, hpA⟩ := hd4.get (List.getElem?_eq_getElem hil)
     rw [List.getElem?_map, hp] at hx
     cases hx
     exact deed_item hpA
    refine ⟨_, rfl, _, rfl, _, _, _, _, rfl, hit, by omega, fun H5 s45 => ?_⟩
    have hm5 := s45 _ _ hm4
    have hd5 := hd4.same s45
    have hq5 := s45 _ _ hq4
    have hA5 := hA4.same s45
    have hl5 := s45 _ _ hl4
    have ht5 := htw.same s45
    clear hit hm4 hd4 hq4 hA4 hl4 htw hl24 s45
    refine ⟨true, rfl, iteF (hR _ _ ?_)⟩
    refine seq_hide fun R hR _ _ _ => ?_
    refine ⟨_, rfl, _, "list", _, true, rfl, TyOf.lst hq5, isi_list_list, true, rfl, ?_⟩
    refine iteF ⟨_, rfl, _, _, rfl, .inl ⟨_, SqL.of hq5, rfl⟩, _, rfl, _, _, rfl, .inl ⟨_, SqL.of hm5, rfl⟩, rfl, _, rfl, ?_⟩
    refine iteNS (by rw [hul, eq]) (hR _ _ ?_)
    refine seq_hide fun R hR _ _ _ => ?_
    refine fun dw hdw => hR _ _ ?_
    refine seq_hide fun R hR _ _ _ => ?_
    have s6 : Same H5 (upd H5 dw (.dK [])) := same_new hdw
    refine ⟨_, rfl, _, _, rfl, .inl ⟨_, SqL.of (s6 _ _ hm5), rfl⟩, _, rfl, by omega, by omega, for_range (fun i σ H6 => ∃ v3 : Option V, σ = [some (.ref a), some (.ref r), some (.ref m), v3, v4, v5, some (.ref q), some (.ref l2), some (.ref l), some (.ref dw), none, none] ∧ H6 dw = some (.dK (wd (after [] (es.take i)))) ∧ Same H5 H6) ?_ ?_ ?_⟩
    ·exact ⟨_, rfl, upd_same, s6⟩
    ·rintro i σ H6 hi ⟨v3', rfl, hdk, s7⟩
     have hid : i < es.length := by
      have : i < ((qs.map V.ref).length : Int).toNat := hi
      omega
     have e0 : (0 : Int) + (i : Int) = ((i : Nat) : Int) := by omega
     rw [e0]
     obtain ⟨pd, hpd, hdA⟩ := hd5.get (List.getElem?_eq_getElem hid)
     obtain ⟨u, hu1, hu2⟩ := hA5.get (run_get [] es i _ (List.getElem?_eq_getElem hid))
     have hW : (after [] (es.take i)).Nodup := nodup_after List.nodup_nil _
     have hWl : (after [] (es.take i)).length < 64 := by
      have h1 := after_put (es.take i) []
      have h2 : nP (es.take i) ≤ nP es := (List.take_sublist _ _).countP_le
      simp only [List.length_nil] at h1
      omega
     have hWw : ∀ w ∈ after [] (es.take i), w.length ≤ 110 := after_fine (fun d hd => hfine d (List.mem_of_mem_take hd)) [] (fun v hv => nomatch hv)
     have hsn : after [] (es.take (i + 1)) = stepW (after [] (es.take i)) es[i] := by
      rw [List.take_add_one, List.getElem?_eq_getElem hid]
      exact after_snoc _ _ _
     have hf := hfine _ (List.getElem_mem hid)
     rw [hsn]
     generalize es[i] = dd at *
     generalize after [] (es.take i) = W at *
     have hau : atI us (i : Int) = some u := atI_nat hu1
     have hap : atI (qs.map V.ref) (i : Int) = some (.ref pd) := atI_nat (by rw [List.getElem?_map, hpd]; rfl)
     refine ⟨_, rfl, _, rfl, q, _, _, _, rfl, rfl, SqL.of (s7 _ _ hq5), hau, _, rfl, _, rfl, _, rfl, m, _, _, _, rfl, rfl, SqL.of (s7 _ _ hm5), hap, dw, pd, W, dd, rfl, hdk, s7 _ _ hdA, hf, hW, hWl, hWw, fun v H7 hv hd7 hk7 => ?_⟩
     have s57 : Same H5 H7 := fun b o e => hk7 _ _ (s7 _ _ e) (ne_of_none e hdw)
     refine ⟨u, v, _, rfl, hu2.same s57, hv, true, rfl, iteF ?_⟩
     exact ⟨_, rfl, hd7, s57⟩
    ·rintro σ H6 ⟨v3', rfl, hdk, s7⟩
     have een : es.take ((qs.map V.ref).length : Int).toNat = es := List.take_of_length_le (by omega)
     rw [een] at hdk
     have hW : (after [] es).Nodup := nodup_after List.nodup_nil _
     have hWl : (after [] es).length < 64 := by
      have h1 := after_put es []
      simp only [List.length_nil] at h1
      omega
     have hWw : ∀ w ∈ after [] es, w.length ≤ 110 := after_fine hfine [] (fun v hv => nomatch hv)
     have hl6 := s7 _ _ hl5
     have ht6 := ht5.same s7
     clear hl5 ht5 s7 hA5 hd5 hq5 hm5 s6 hdw
     generalize after [] es = W at *
     refine hR _ _ ?_
     refine seq_hide fun R hR _ _ _ => ?_
     refine ⟨_, rfl, dw, W, rfl, hdk, hW, hWl, hWw, fun l' ys ts' H7 hb' hlen' hl0' hl7 ht7 s8 => hR _ _ ?_⟩
     have ets := hbegs.eq hb'
     subst ets
     have hl8 := s8 _ _ hl6
     have ht8 := ht6.same s8
     clear hl6 ht6 s8 hl0' hdk
     have ex : (xs.map V.ref).length = ts.length := by rw [List.length_map]; exact Paired.length ht8
     have ey : (ys.map V.ref).length = ts.length := by rw [List.length_map]; exact Paired.length ht7
     refine seq_hide fun R hR _ _ _ => ?_
     refine ⟨_, rfl, _, "list", _, true, rfl, TyOf.lst hl8, isi_list_list, true, rfl, ?_⟩
     refine iteF ⟨_, rfl, _, _, rfl, .inl ⟨_, SqL.of hl8, rfl⟩, _, rfl, _, _, rfl, .inl ⟨_, SqL.of hl7, rfl⟩, rfl, _, rfl, ?_⟩
     refine iteNS (by rw [ex, ey]) (hR _ _ ?_)
     refine seq_hide fun R hR _ _ _ => ?_
     refine ⟨_, rfl, _, _, rfl, .inl ⟨_, SqL.of hl7, rfl⟩, _, rfl, by omega, by omega, for_range (fun i σ H6 => ∃ v3 v11 : Option V, σ = [some (.ref a), some (.ref r), some (.ref m), v3, v4, v5, some (.ref q), some (.ref l2), some (.ref l), some (.ref dw), some (.ref l'), v11] ∧ H6 = H7) ⟨_, _, rfl, rfl⟩ ?_ ?_⟩
     ·rintro i σ H6 hi ⟨v3'', v11, rfl, rfl⟩
      have hid : i < ts.length := by
       have : i < ((ys.map V.ref).length : Int).toNat := hi
       omega
      have e0 : (0 : Int) + (i : Int) = ((i : Nat) : Int) := by omega
      rw [e0]
      obtain ⟨p, hp, hpA⟩ := ht8.get (List.getElem?_eq_getElem hid)
      obtain ⟨p', hp', hpA'⟩ := ht7.get (List.getElem?_eq_getElem hid)
      generalize ts[i] = t at *
      have hap : atI (xs.map V.ref) (i : Int) = some (.ref p) := atI_nat (by rw [List.getElem?_map, hp]; rfl)
      have hap' : atI (ys.map V.ref) (i : Int) = some (.ref p') := atI_nat (by rw [List.getElem?_map, hp']; rfl)
      have hpB : H6 p = some (.tup [sv t, .bl (decide (t ∈ W)), .int (cnt W t : Nat)]) := hpA
      have hpB' : H6 p' = some (.tup [sv t, .bl (decide (t ∈ W)), .int (cnt W t : Nat)]) := hpA'
      refine seq_hide fun R2 hR _ _ _ => ?_
      refine ⟨_, rfl, _, rfl, l, _, _, _, rfl, rfl, SqL.of hl8, hap, _, "tuple", _, true, rfl, TyOf.tup hpB, isi_tuple_tuple, true, rfl, ?_⟩
      refine iteF ⟨_, rfl, _, rfl, l, _, _, _, rfl, rfl, SqL.of hl8, hap, _, _, rfl, .inr ⟨_, SqT.of hpB, rfl⟩, rfl, _, rfl, ?_⟩
      refine iteNS rfl (hR _ _ ?_)
      refine ⟨_, rfl, by decide, by decide, for_range (fun j σ H' => ∃ v11 : Option V, σ = [some (.ref a), some (.ref r), some (.ref m), some (.int (i : Int)), v4, v5, some (.ref q), some (.ref l2), some (.ref l), some (.ref dw), some (.ref l'), v11] ∧ H' = H6) ⟨_, rfl, rfl⟩ ?_ ?_⟩
      ·rintro j σ H' hj ⟨v11', rfl, rfl⟩
       have hj3 : j < 3 := hj
       have e0 : (0 : Int) + (j : Int) = ((j : Nat) : Int) := by omega
       rw [e0]
       obtain ⟨v, x, hv, hva⟩ : ∃ v x, atI [sv t, .bl (decide (t ∈ W)), .int (cnt W t : Nat)] (j : Int) = some v ∧ AnsAt H' v x := by
        match j, hj3 with
        | 0, _ => exact ⟨_, .opt (some t), atI_nat (j := 0) rfl, rfl⟩
        | 1, _ => exact ⟨_, .bool (decide (t ∈ W)), atI_nat (j := 1) rfl, rfl⟩
        | 2, _ => exact ⟨_, .num (cnt W t), atI_nat (j := 2) rfl, rfl⟩
       refine ⟨_, rfl, _, rfl, l, _, _, _, rfl, rfl, SqL.of hl8, hap, _, rfl, p, _, _, _, rfl, rfl, SqT.of hpB, hv, _, rfl, _, rfl, l', _, _, _, rfl, rfl, SqL.of hl7, hap', _, rfl, p', _, _, _, rfl, rfl, SqT.of hpB', hv, v, v, x, rfl, hva, hva, true, rfl, iteF ?_⟩
       exact ⟨_, rfl, rfl⟩
      ·rintro σ H' ⟨v11', rfl, rfl⟩
       exact ⟨_, _, rfl, rfl⟩
     ·rintro σ H6 ⟨v3'', v11, rfl, rfl⟩
      exact hR _ _ (k _)
  ·have keep : ∃ (r' : Addr) (ps : List Addr) (ds : List Deed), [some (V.ref a), some (V.ref r), none, none, none, none, none, none, none, none, none, none] = [some (.ref a), some (.ref r'), none, none, none, none, none, none, none, none, none, none] ∧ H1 r' = some (.lst (ps.map V.ref)) ∧ DeedsAt H1 ps ds ∧ (∀ d ∈ ds, Made d) ∧ ds.length ≤ 64 ∧ nP ds ≤ 32 :=
    ⟨r, ps, ds, rfl, hr1, hd, hm, by omega, Nat.le_trans List.countP_le_length hdl0⟩
   refine ⟨_, rfl, _, _, rfl, .inl ⟨_, SqL.of hr1, rfl⟩, _, _, rfl, rfl, _, rfl, ?_⟩
   have ep : (ps.map V.ref).length = ds.length := by rw [List.length_map, hpl]
   by_cases h0 : 0 < ds.length
   ·rw [decide_eq_true (by omega)]
    have hat := ints_at (ns := ns) (i := 0) (by omega)
    generalize ns[0] = x at hat
    refine iteT ⟨_, rfl, a, _, _, _, rfl, rfl, s1.seq hS, hat, _, _, rfl, rfl, (by show (0 : Int) < 7; decide), rfl, _, rfl, ?_⟩
    refine ite2 (fun _ => ?_) (fun _ => keep)
    refine ⟨_, rfl, _, rfl, r, ps, ds, rfl, hr1, hd, hm, by omega, fun wl H2 hw0 hw2 s2 => ?_⟩
    have hWw := after_words hm [] (fun v hv => nomatch hv)
    have hWl : (after [] ds).length ≤ 32 := by
     have := after_len [] ds
     simp only [List.length_nil] at this
     omega
    generalize after [] ds = W at *
    refine ⟨wl, rfl, ⟨_, SqL.of hw2⟩, lc_list (K := K) (a := wl) (xs := W.map sv) (fun j acc H6 => ∃ qs : List Addr, acc = qs.map V.ref ∧ DeedsAt H6 qs ((W.take j).map Deed.take) ∧ Same H2 H6 ∧ qs.length = j) (by rw [List.length_map]; omega) ⟨[], rfl, .nil, Same.refl _, rfl⟩
     (fun j acc H6 ⟨qs, e, _, _, hq⟩ => by rw [e, List.length_map, hq]; exact Nat.le_refl _) (fun j acc H6 _ ⟨_, _, _, s6, _⟩ => SqL.of (s6 _ _ hw2)) ?_ ?_⟩
    ·rintro j x acc H6 hx ⟨qs, rfl, hq, s6, hql⟩
     obtain ⟨tx, htx, rfl⟩ := get_sv hx
     simp only [tYes, if_true]
     refine ⟨_, rfl, (by show 2 ≤ sizeLine; omega), fun p hp => ⟨qs ++ [p], by rw [List.map_append]; rfl, ?_, s6.trans (same_new hp), by rw [List.length_append, hql]; rfl⟩⟩
     rw [List.take_add_one, htx, List.map_append]
     exact (hq.same (same_new hp)).snoc (show DeedAt _ p (.take tx) from upd_same)
    ·rintro acc H6 ⟨qs, rfl, hq, s6, hql⟩ p hp
     rw [List.length_map] at hql hq
     rw [List.take_of_length_le (Nat.le_refl _)] at hq
     have s7 := s2.trans (s6.trans (same_new (o := .lst (qs.map V.ref)) hp))
     refine ⟨r, p, ps.map V.ref, qs.map V.ref, rfl, rfl, s7 _ _ hr1, upd_same, by rw [List.length_map, List.length_map]; omega, fun z hz => ?_⟩
     have s8 := s7.trans (same_new (o := .lst (ps.map V.ref ++ qs.map V.ref)) hz)
     refine ⟨z, ps ++ qs, ds ++ W.map Deed.take, rfl, by rw [List.map_append]; exact upd_same, (hd.same s8).app (hq.same ((same_new hp).trans (same_new hz))), fun d hd' => ?_, by rw [List.length_append, List.length_map]; omega, ?_⟩
     ·rcases List.mem_append.mp hd' with y | y
      ·exact hm d y
      ·obtain ⟨x, hx, rfl⟩ := List.mem_map.mp y
       exact ⟨x, .inr (.inl rfl), hWw x hx⟩
     ·have e1 : nP ds ≤ ds.length := List.countP_le_length
      have e2 : nP (W.map Deed.take) = 0 := by
       unfold nP
       rw [List.countP_map, List.countP_eq_zero]
       intro x _
       simp [tag]
      unfold nP at e1 e2 ⊢
      rw [List.countP_append]
      omega
   ·rw [decide_eq_false (by omega)]
    exact iteF (iteF keep)
end
end K07
set_option maxHeartbeats 4000000
namespace K07
open PySem L2 WH
theorem len1 {α : Type} : ∀ {us : List α}, us.length = 1 → ∃ a, us = [a]
 | [a], _ => ⟨a, rfl⟩
theorem len2 {α : Type} : ∀ {us : List α}, us.length = 2 → ∃ a b, us = [a, b]
 | [a, b], _ => ⟨a, b, rfl⟩
theorem len3 {α : Type} : ∀ {us : List α}, us.length = 3 → ∃ a b c, us = [a, b, c]
 | [a, b, c], _ => ⟨a, b, c, rfl⟩
theorem all_mk {l : PySem.W.OpenLaw} {w : World} {K : PySem.W.Frag} {h : Heap} {mg : Str → Option Value} {fa fTI fPH fTH fFo fGr fSe fSB fHI fPu fTa fHa fPA fAn fDA fDO fIO fWW fLo fAO fLA fAt fAd fTo fTw fTB fU fR fW fS fP fH fRe fKi fTO flaw C CH : Addr} (X : K.In h) (G : h.Ns mainGlobals mg) (hfa : mg "law" = some (.ref fa))
  {odTI anTI odPH anPH odTH anTH odFo anFo odGr anGr odSe anSe odSB anSB odHI anHI odPu anPu odTa anTa odHa anHa odPA anPA odAn anAn odDA anDA odDO anDO odIO anIO odWW anWW odLo anLo odAO anAO odLA anLA odAt anAt odAd anAd odTo anTo odTw anTw odTB anTB odU anU odR anR odW anW odS anS odP anP odH anH odRe anRe odKi anKi odTO anTO odlaw anlaw : Option Addr} {slTI slPH slTH slFo slGr slSe slSB slHI slPu slTa slHa slPA slAn slDA slDO slIO slWW slLo slAO slLA slAt slAd slTo slTw slTB slU slR slW slS slP slH slRe slKi slTO sllaw : Array (Option Value)} {ocTI kVTI dcTI pmTI cdTI ctTI ocPH kVPH dcPH pmPH cdPH ctPH ocTH kVTH dcTH pmTH cdTH ctTH ocFo kVFo dcFo pmFo cdFo ctFo ocGr kVGr dcGr pmGr cdGr ctGr ocSe kVSe dcSe pmSe cdSe ctSe ocSB kVSB dcSB pmSB cdSB ctSB ocHI kVHI dcHI pmHI cdHI ctHI ocPu kVPu dcPu pmPu cdPu ctPu ocTa kVTa dcTa pmTa cdTa ctTa ocHa kVHa dcHa pmHa cdHa ctHa ocPA kVPA dcPA pmPA cdPA ctPA ocAn kVAn dcAn pmAn cdAn ctAn ocDA kVDA dcDA pmDA cdDA ctDA ocDO kVDO dcDO pmDO cdDO ctDO ocIO kVIO dcIO pmIO cdIO ctIO ocWW kVWW dcWW pmWW cdWW ctWW ocLo kVLo dcLo pmLo cdLo ctLo ocAO kVAO dcAO pmAO cdAO ctAO ocLA kVLA dcLA pmLA cdLA ctLA ocAt kVAt dcAt pmAt cdAt ctAt ocAd kVAd dcAd pmAd cdAd ctAd ocTo kVTo dcTo pmTo cdTo ctTo ocTw kVTw dcTw pmTw cdTw ctTw ocTB kVTB dcTB pmTB cdTB ctTB ocU kVU dcU pmU cdU ctU ocR kVR dcR pmR cdR ctR ocW kVW dcW pmW cdW ctW ocS kVS dcS pmS cdS ctS ocP kVP dcP pmP cdP ctP ocH kVH dcH pmH cdH ctH ocRe kVRe dcRe pmRe cdRe ctRe ocKi kVKi dcKi pmKi cdKi ctKi ocTO kVTO dcTO pmTO cdTO ctTO oclaw kVlaw dclaw pmlaw cdlaw ctlaw : Value}
  (aCC : PySem.W.nsIn K mainGlobals "Twig" = some (some (.ref C)))
  (aCCH : PySem.W.nsIn K mainGlobals "Hedge" = some (some (.ref CH)))
  (aTI : PySem.W.findIn K (.ref C) "__init__" = some (some (.ref fTI))) (iTI : PySem.W.isFn K (.ref fTI) = true) (lTI : K.lookup fTI = some ⟨ocTI, odTI, .func (PySem.W.fnOf "__init__" "Twig.__init__" (defArgs sTInit) (defBody sTInit) (defScope sTInit) .none kVTI dcTI pmTI anTI cdTI ctTI), slTI⟩) (cTI : PySem.W.codeIn K cdTI "Twig.__init__" = true) (kTI : PySem.W.keepIn K (.ref fTI) = true)
  (aPH : PySem.W.findIn K (.ref C) "put_here" = some (some (.ref fPH))) (iPH : PySem.W.isFn K (.ref fPH) = true) (lPH : K.lookup fPH = some ⟨ocPH, odPH, .func (PySem.W.fnOf "put_here" "Twig.put_here" (defArgs sPutHere) (defBody sPutHere) (defScope sPutHere) .none kVPH dcPH pmPH anPH cdPH ctPH), slPH⟩) (cPH : PySem.W.codeIn K cdPH "Twig.put_here" = true) (kPH : PySem.W.keepIn K (.ref fPH) = true)
  (aTH : PySem.W.findIn K (.ref C) "take_here" = some (some (.ref fTH))) (iTH : PySem.W.isFn K (.ref fTH) = true) (lTH : K.lookup fTH = some ⟨ocTH, odTH, .func (PySem.W.fnOf "take_here" "Twig.take_here" (defArgs sTakeHere) (defBody sTakeHere) (defScope sTakeHere) .none kVTH dcTH pmTH anTH cdTH ctTH), slTH⟩) (cTH : PySem.W.codeIn K cdTH "Twig.take_here" = true) (kTH : PySem.W.keepIn K (.ref fTH) = true)
  (aFo : PySem.W.findIn K (.ref C) "follow" = some (some (.ref fFo))) (iFo : PySem.W.isFn K (.ref fFo) = true) (lFo : K.lookup fFo = some ⟨ocFo, odFo, .func (PySem.W.fnOf "follow" "Twig.follow" (defArgs sFollow) (defBody sFollow) (defScope sFollow) .none kVFo dcFo pmFo anFo cdFo ctFo), slFo⟩) (cFo : PySem.W.codeIn K cdFo "Twig.follow" = true) (kFo : PySem.W.keepIn K (.ref fFo) = true)
  (aGr : PySem.W.findIn K (.ref C) "grow" = some (some (.ref fGr))) (iGr : PySem.W.isFn K (.ref fGr) = true) (lGr : K.lookup fGr = some ⟨ocGr, odGr, .func (PySem.W.fnOf "grow" "Twig.grow" (defArgs sGrow) (defBody sGrow) (defScope sGrow) .none kVGr dcGr pmGr anGr cdGr ctGr), slGr⟩) (cGr : PySem.W.codeIn K cdGr "Twig.grow" = true) (kGr : PySem.W.keepIn K (.ref fGr) = true)
  (aSe : PySem.W.findIn K (.ref C) "settle" = some (some (.ref fSe))) (iSe : PySem.W.isFn K (.ref fSe) = true) (lSe : K.lookup fSe = some ⟨ocSe, odSe, .func (PySem.W.fnOf "settle" "Twig.settle" (defArgs sSettle) (defBody sSettle) (defScope sSettle) .none kVSe dcSe pmSe anSe cdSe ctSe), slSe⟩) (cSe : PySem.W.codeIn K cdSe "Twig.settle" = true) (kSe : PySem.W.keepIn K (.ref fSe) = true)
  (aSB : PySem.W.nsIn K mainGlobals "settle_back" = some (some (.ref fSB))) (lSB : K.lookup fSB = some ⟨ocSB, odSB, .func (PySem.W.fnOf "settle_back" "settle_back" (defArgs sBack) (defBody sBack) (defScope sBack) .none kVSB dcSB pmSB anSB cdSB ctSB), slSB⟩) (cSB : PySem.W.codeIn K cdSB "settle_back" = true) (kSB : PySem.W.keepIn K (.ref fSB) = true)
  (aHI : PySem.W.findIn K (.ref CH) "__init__" = some (some (.ref fHI))) (iHI : PySem.W.isFn K (.ref fHI) = true) (lHI : K.lookup fHI = some ⟨ocHI, odHI, .func (PySem.W.fnOf "__init__" "Hedge.__init__" (defArgs sHInit) (defBody sHInit) (defScope sHInit) .none kVHI dcHI pmHI anHI cdHI ctHI), slHI⟩) (cHI : PySem.W.codeIn K cdHI "Hedge.__init__" = true) (kHI : PySem.W.keepIn K (.ref fHI) = true)
  (aPu : PySem.W.findIn K (.ref CH) "put" = some (some (.ref fPu))) (iPu : PySem.W.isFn K (.ref fPu) = true) (lPu : K.lookup fPu = some ⟨ocPu, odPu, .func (PySem.W.fnOf "put" "Hedge.put" (defArgs sPut) (defBody sPut) (defScope sPut) .none kVPu dcPu pmPu anPu cdPu ctPu), slPu⟩) (cPu : PySem.W.codeIn K cdPu "Hedge.put" = true) (kPu : PySem.W.keepIn K (.ref fPu) = true)
  (aTa : PySem.W.findIn K (.ref CH) "take" = some (some (.ref fTa))) (iTa : PySem.W.isFn K (.ref fTa) = true) (lTa : K.lookup fTa = some ⟨ocTa, odTa, .func (PySem.W.fnOf "take" "Hedge.take" (defArgs sTake) (defBody sTake) (defScope sTake) .none kVTa dcTa pmTa anTa cdTa ctTa), slTa⟩) (cTa : PySem.W.codeIn K cdTa "Hedge.take" = true) (kTa : PySem.W.keepIn K (.ref fTa) = true)
  (aHa : PySem.W.findIn K (.ref CH) "has" = some (some (.ref fHa))) (iHa : PySem.W.isFn K (.ref fHa) = true) (lHa : K.lookup fHa = some ⟨ocHa, odHa, .func (PySem.W.fnOf "has" "Hedge.has" (defArgs sHas) (defBody sHas) (defScope sHas) .none kVHa dcHa pmHa anHa cdHa ctHa), slHa⟩) (cHa : PySem.W.codeIn K cdHa "Hedge.has" = true) (kHa : PySem.W.keepIn K (.ref fHa) = true)
  (aPA : PySem.W.findIn K (.ref CH) "path_along" = some (some (.ref fPA))) (iPA : PySem.W.isFn K (.ref fPA) = true) (lPA : K.lookup fPA = some ⟨ocPA, odPA, .func (PySem.W.fnOf "path_along" "Hedge.path_along" (defArgs sPath) (defBody sPath) (defScope sPath) .none kVPA dcPA pmPA anPA cdPA ctPA), slPA⟩) (cPA : PySem.W.codeIn K cdPA "Hedge.path_along" = true) (kPA : PySem.W.keepIn K (.ref fPA) = true)
  (aAn : PySem.W.nsIn K mainGlobals "answers" = some (some (.ref fAn))) (lAn : K.lookup fAn = some ⟨ocAn, odAn, .func (PySem.W.fnOf "answers" "answers" (defArgs sAnswers) (defBody sAnswers) (defScope sAnswers) .none kVAn dcAn pmAn anAn cdAn ctAn), slAn⟩) (cAn : PySem.W.codeIn K cdAn "answers" = true) (kAn : PySem.W.keepIn K (.ref fAn) = true)
  (aDA : PySem.W.nsIn K mainGlobals "do_all" = some (some (.ref fDA))) (lDA : K.lookup fDA = some ⟨ocDA, odDA, .func (PySem.W.fnOf "do_all" "do_all" (defArgs sDoAll) (defBody sDoAll) (defScope sDoAll) .none kVDA dcDA pmDA anDA cdDA ctDA), slDA⟩) (cDA : PySem.W.codeIn K cdDA "do_all" = true) (kDA : PySem.W.keepIn K (.ref fDA) = true)
  (aDO : PySem.W.nsIn K mainGlobals "do_one" = some (some (.ref fDO))) (lDO : K.lookup fDO = some ⟨ocDO, odDO, .func (PySem.W.fnOf "do_one" "do_one" (defArgs sDoOne) (defBody sDoOne) (defScope sDoOne) .none kVDO dcDO pmDO anDO cdDO ctDO), slDO⟩) (cDO : PySem.W.codeIn K cdDO "do_one" = true) (kDO : PySem.W.keepIn K (.ref fDO) = true)
  (aIO : PySem.W.nsIn K mainGlobals "in_order" = some (some (.ref fIO))) (lIO : K.lookup fIO = some ⟨ocIO, odIO, .func (PySem.W.fnOf "in_order" "in_order" (defArgs sOrder) (defBody sOrder) (defScope sOrder) .none kVIO dcIO pmIO anIO cdIO ctIO), slIO⟩) (cIO : PySem.W.codeIn K cdIO "in_order" = true) (kIO : PySem.W.keepIn K (.ref fIO) = true)
  (aWW : PySem.W.findIn K (.ref CH) "words_with" = some (some (.ref fWW))) (iWW : PySem.W.isFn K (.ref fWW) = true) (lWW : K.lookup fWW = some ⟨ocWW, odWW, .func (PySem.W.fnOf "words_with" "Hedge.words_with" (defArgs sWords) (defBody sWords) (defScope sWords) .none kVWW dcWW pmWW anWW cdWW ctWW), slWW⟩) (cWW : PySem.W.codeIn K cdWW "Hedge.words_with" = true) (kWW : PySem.W.keepIn K (.ref fWW) = true)
  (aLo : PySem.W.findIn K (.ref CH) "longest" = some (some (.ref fLo))) (iLo : PySem.W.isFn K (.ref fLo) = true) (lLo : K.lookup fLo = some ⟨ocLo, odLo, .func (PySem.W.fnOf "longest" "Hedge.longest" (defArgs sLongest) (defBody sLongest) (defScope sLongest) .none kVLo dcLo pmLo anLo cdLo ctLo), slLo⟩) (cLo : PySem.W.codeIn K cdLo "Hedge.longest" = true) (kLo : PySem.W.keepIn K (.ref fLo) = true)
  (aAO : PySem.W.findIn K (.ref C) "ahead_of" = some (some (.ref fAO))) (iAO : PySem.W.isFn K (.ref fAO) = true) (lAO : K.lookup fAO = some ⟨ocAO, odAO, .func (PySem.W.fnOf "ahead_of" "Twig.ahead_of" (defArgs sAheadOf) (defBody sAheadOf) (defScope sAheadOf) .none kVAO dcAO pmAO anAO cdAO ctAO), slAO⟩) (cAO : PySem.W.codeIn K cdAO "Twig.ahead_of" = true) (kAO : PySem.W.keepIn K (.ref fAO) = true)
  (aLA : PySem.W.findIn K (.ref C) "letter_at" = some (some (.ref fLA))) (iLA : PySem.W.isFn K (.ref fLA) = true) (lLA : K.lookup fLA = some ⟨ocLA, odLA, .func (PySem.W.fnOf "letter_at" "Twig.letter_at" (defArgs sLetter) (defBody sLetter) (defScope sLetter) .none kVLA dcLA pmLA anLA cdLA ctLA), slLA⟩) (cLA : PySem.W.codeIn K cdLA "Twig.letter_at" = true) (kLA : PySem.W.keepIn K (.ref fLA) = true)
  (aAt : PySem.W.findIn K (.ref CH) "at" = some (some (.ref fAt))) (iAt : PySem.W.isFn K (.ref fAt) = true) (lAt : K.lookup fAt = some ⟨ocAt, odAt, .func (PySem.W.fnOf "at" "Hedge.at" (defArgs sHAt) (defBody sHAt) (defScope sHAt) .none kVAt dcAt pmAt anAt cdAt ctAt), slAt⟩) (cAt : PySem.W.codeIn K cdAt "Hedge.at" = true) (kAt : PySem.W.keepIn K (.ref fAt) = true)
  (aAd : PySem.W.findIn K (.ref CH) "ahead" = some (some (.ref fAd))) (iAd : PySem.W.isFn K (.ref fAd) = true) (lAd : K.lookup fAd = some ⟨ocAd, odAd, .func (PySem.W.fnOf "ahead" "Hedge.ahead" (defArgs sAhead) (defBody sAhead) (defScope sAhead) .none kVAd dcAd pmAd anAd cdAd ctAd), slAd⟩) (cAd : PySem.W.codeIn K cdAd "Hedge.ahead" = true) (kAd : PySem.W.keepIn K (.ref fAd) = true)
  (aTo : PySem.W.findIn K (.ref C) "told" = some (some (.ref fTo))) (iTo : PySem.W.isFn K (.ref fTo) = true) (lTo : K.lookup fTo = some ⟨ocTo, odTo, .func (PySem.W.fnOf "told" "Twig.told" (defArgs sTold) (defBody sTold) (defScope sTold) .none kVTo dcTo pmTo anTo cdTo ctTo), slTo⟩) (cTo : PySem.W.codeIn K cdTo "Twig.told" = true) (kTo : PySem.W.keepIn K (.ref fTo) = true)
  (aTw : PySem.W.findIn K (.ref CH) "twigs" = some (some (.ref fTw))) (iTw : PySem.W.isFn K (.ref fTw) = true) (lTw : K.lookup fTw = some ⟨ocTw, odTw, .func (PySem.W.fnOf "twigs" "Hedge.twigs" (defArgs sTwigs) (defBody sTwigs) (defScope sTwigs) .none kVTw dcTw pmTw anTw cdTw ctTw), slTw⟩) (cTw : PySem.W.codeIn K cdTw "Hedge.twigs" = true) (kTw : PySem.W.keepIn K (.ref fTw) = true)
  (aTB : PySem.W.nsIn K mainGlobals "twigs_behind" = some (some (.ref fTB))) (lTB : K.lookup fTB = some ⟨ocTB, odTB, .func (PySem.W.fnOf "twigs_behind" "twigs_behind" (defArgs sBehind) (defBody sBehind) (defScope sBehind) .none kVTB dcTB pmTB anTB cdTB ctTB), slTB⟩) (cTB : PySem.W.codeIn K cdTB "twigs_behind" = true) (kTB : PySem.W.keepIn K (.ref fTB) = true)
  (aU : PySem.W.nsIn K mainGlobals "_law_unturned" = some (some (.ref fU))) (lU : K.lookup fU = some ⟨ocU, odU, .func (PySem.W.fnOf "_law_unturned" "_law_unturned" (defArgs sUnturned) (defBody sUnturned) (defScope sUnturned) .none kVU dcU pmU anU cdU ctU), slU⟩) (cU : PySem.W.codeIn K cdU "_law_unturned" = true) (kU : PySem.W.keepIn K (.ref fU) = true)
  (aR : PySem.W.nsIn K mainGlobals "_law_room" = some (some (.ref fR))) (lR : K.lookup fR = some ⟨ocR, odR, .func (PySem.W.fnOf "_law_room" "_law_room" (defArgs sRoom) (defBody sRoom) (defScope sRoom) .none kVR dcR pmR anR cdR ctR), slR⟩) (cR : PySem.W.codeIn K cdR "_law_room" = true) (kR : PySem.W.keepIn K (.ref fR) = true)
  (aW : PySem.W.nsIn K mainGlobals "_law_whole" = some (some (.ref fW))) (lW : K.lookup fW = some ⟨ocW, odW, .func (PySem.W.fnOf "_law_whole" "_law_whole" (defArgs sWhole) (defBody sWhole) (defScope sWhole) .none kVW dcW pmW anW cdW ctW), slW⟩) (cW : PySem.W.codeIn K cdW "_law_whole" = true) (kW : PySem.W.keepIn K (.ref fW) = true)
  (aS : PySem.W.nsIn K mainGlobals "_law_spelt" = some (some (.ref fS))) (lS : K.lookup fS = some ⟨ocS, odS, .func (PySem.W.fnOf "_law_spelt" "_law_spelt" (defArgs sSpelt) (defBody sSpelt) (defScope sSpelt) .none kVS dcS pmS anS cdS ctS), slS⟩) (cS : PySem.W.codeIn K cdS "_law_spelt" = true) (kS : PySem.W.keepIn K (.ref fS) = true)
  (aP : PySem.W.nsIn K mainGlobals "_law_puts" = some (some (.ref fP))) (lP : K.lookup fP = some ⟨ocP, odP, .func (PySem.W.fnOf "_law_puts" "_law_puts" (defArgs sPuts) (defBody sPuts) (defScope sPuts) .none kVP dcP pmP anP cdP ctP), slP⟩) (cP : PySem.W.codeIn K cdP "_law_puts" = true) (kP : PySem.W.keepIn K (.ref fP) = true)
  (aH : PySem.W.nsIn K mainGlobals "_law_held" = some (some (.ref fH))) (lH : K.lookup fH = some ⟨ocH, odH, .func (PySem.W.fnOf "_law_held" "_law_held" (defArgs sHeld) (defBody sHeld) (defScope sHeld) .none kVH dcH pmH anH cdH ctH), slH⟩) (cH : PySem.W.codeIn K cdH "_law_held" = true) (kH : PySem.W.keepIn K (.ref fH) = true)
  (aRe : PySem.W.nsIn K mainGlobals "_law_reply" = some (some (.ref fRe))) (lRe : K.lookup fRe = some ⟨ocRe, odRe, .func (PySem.W.fnOf "_law_reply" "_law_reply" (defArgs sReply) (defBody sReply) (defScope sReply) .none kVRe dcRe pmRe anRe cdRe ctRe), slRe⟩) (cRe : PySem.W.codeIn K cdRe "_law_reply" = true) (kRe : PySem.W.keepIn K (.ref fRe) = true)
  (aKi : PySem.W.nsIn K mainGlobals "_law_kind" = some (some (.ref fKi))) (lKi : K.lookup fKi = some ⟨ocKi, odKi, .func (PySem.W.fnOf "_law_kind" "_law_kind" (defArgs sKind) (defBody sKind) (defScope sKind) .none kVKi dcKi pmKi anKi cdKi ctKi), slKi⟩) (cKi : PySem.W.codeIn K cdKi "_law_kind" = true) (kKi : PySem.W.keepIn K (.ref fKi) = true)
  (aTO : PySem.W.nsIn K mainGlobals "_law_twigs_of" = some (some (.ref fTO))) (lTO : K.lookup fTO = some ⟨ocTO, odTO, .func (PySem.W.fnOf "_law_twigs_of" "_law_twigs_of" (defArgs sTwigsOf) (defBody sTwigsOf) (defScope sTwigsOf) .none kVTO dcTO pmTO anTO cdTO ctTO), slTO⟩) (cTO : PySem.W.codeIn K cdTO "_law_twigs_of" = true) (kTO : PySem.W.keepIn K (.ref fTO) = true)
  (alaw : PySem.W.nsIn K mainGlobals "law" = some (some (.ref flaw))) (llaw : K.lookup flaw = some ⟨oclaw, odlaw, .func (PySem.W.fnOf "law" "law" (defArgs sLaw) (defBody sLaw) (defScope sLaw) .none kVlaw dclaw pmlaw anlaw cdlaw ctlaw), sllaw⟩) (claw : PySem.W.codeIn K cdlaw "law" = true) (klaw : PySem.W.keepIn K (.ref flaw) = true)
  (pgC : PySem.W.plainGet K C Str.empty = true) (hdC : PySem.W.hasDictIn K C = true) (poC : PySem.W.plainOver K C = true) (saC : PySem.W.findIn K (.ref C) "__setattr__" = some (some (.builtin "object.__setattr__"))) (mkC : PySem.W.makesIn K C = true) (kcC : PySem.W.keepIn K (.ref C) = true)
  (nCtext : PySem.W.findIn K (.ref C) "text" = some none)
  (nChere : PySem.W.findIn K (.ref C) "here" = some none)
  (nCmany : PySem.W.findIn K (.ref C) "many" = some none)
  (nClonger : PySem.W.findIn K (.ref C) "longer" = some none)
  (pgCH : PySem.W.plainGet K CH Str.empty = true) (hdCH : PySem.W.hasDictIn K CH = true) (poCH : PySem.W.plainOver K CH = true) (saCH : PySem.W.findIn K (.ref CH) "__setattr__" = some (some (.builtin "object.__setattr__"))) (mkCH : PySem.W.makesIn K CH = true) (kcCH : PySem.W.keepIn K (.ref CH) = true)
  (nCHroot : PySem.W.findIn K (.ref CH) "root" = some none)
  (zreversed : PySem.W.nsIn K mainGlobals "reversed" = some none)
  (zlen : PySem.W.nsIn K mainGlobals "len" = some none)
  (zrange : PySem.W.nsIn K mainGlobals "range" = some none)
  (zint : PySem.W.nsIn K mainGlobals "int" = some none)
  (zisinstance : PySem.W.nsIn K mainGlobals "isinstance" = some none)
  (zlist : PySem.W.nsIn K mainGlobals "list" = some none)
  (zstr : PySem.W.nsIn K mainGlobals "str" = some none)
  (zbool : PySem.W.nsIn K mainGlobals "bool" = some none)
  (zmax : PySem.W.nsIn K mainGlobals "max" = some none)
  (zmin : PySem.W.nsIn K mainGlobals "min" = some none)
  (zsum : PySem.W.nsIn K mainGlobals "sum" = some none)
  (zzip : PySem.W.nsIn K mainGlobals "zip" = some none)
  (zsorted : PySem.W.nsIn K mainGlobals "sorted" = some none)
  (ztuple : PySem.W.nsIn K mainGlobals "tuple" = some none) :
  ∃ fd : FuncData, (∀ (s : Shared) (v : Value), BindsTo s fd ⟨[v], []⟩ [("_law_script", v)]) ∧ ∀ base : Heap, K.In base → base.Ns mainGlobals mg → FnOk l.prog w K mg base CX0 13 fa fd ["_law_script"] (spLaw K) := by
 have e := hfa.symm.trans (PySem.W.mg_of X G alaw)
 cases e
 have FTI := fun_mk (st := sTInit) lTI cTI kTI
 have bTI := FTI.binds (ps := ["self", "text"]) fun _ _ _ _ _ _ us hl => by obtain ⟨_, _, rfl⟩ := len2 hl; rfl
 have mTI : Meth K C "__init__" fTI := ⟨aTI, iTI, kTI⟩
 have FPH := fun_mk (st := sPutHere) lPH cPH kPH
 have bPH := FPH.binds (ps := ["self"]) fun _ _ _ _ _ _ us hl => by obtain ⟨_, rfl⟩ := len1 hl; rfl
 have mPH : Meth K C "put_here" fPH := ⟨aPH, iPH, kPH⟩
 have FTH := fun_mk (st := sTakeHere) lTH cTH kTH
 have bTH := FTH.binds (ps := ["self"]) fun _ _ _ _ _ _ us hl => by obtain ⟨_, rfl⟩ := len1 hl; rfl
 have mTH : Meth K C "take_here" fTH := ⟨aTH, iTH, kTH⟩
 have FFo := fun_mk (st := sFollow) lFo cFo kFo
 have bFo := FFo.binds (ps := ["self", "letter"]) fun _ _ _ _ _ _ us hl => by obtain ⟨_, _, rfl⟩ := len2 hl; rfl
 have mFo : Meth K C "follow" fFo := ⟨aFo, iFo, kFo⟩
 have FGr := fun_mk (st := sGrow) lGr cGr kGr
 have bGr := FGr.binds (ps := ["self", "letter"]) fun _ _ _ _ _ _ us hl => by obtain ⟨_, _, rfl⟩ := len2 hl; rfl
 have mGr : Meth K C "grow" fGr := ⟨aGr, iGr, kGr⟩
 have FSe := fun_mk (st := sSettle) lSe cSe kSe
 have bSe := FSe.binds (ps := ["self"]) fun _ _ _ _ _ _ us hl => by obtain ⟨_, rfl⟩ := len1 hl; rfl
 have mSe : Meth K C "settle" fSe := ⟨aSe, iSe, kSe⟩
 have FSB := fun_mk (st := sBack) lSB cSB kSB
 have bSB := FSB.binds (ps := ["path"]) fun _ _ _ _ _ _ us hl => by obtain ⟨_, rfl⟩ := len1 hl; rfl
 have gSB := PySem.W.mg_of X G aSB
 have FHI := fun_mk (st := sHInit) lHI cHI kHI
 have bHI := FHI.binds (ps := ["self"]) fun _ _ _ _ _ _ us hl => by obtain ⟨_, rfl⟩ := len1 hl; rfl
 have mHI : Meth K CH "__init__" fHI := ⟨aHI, iHI, kHI⟩
 have FPu := fun_mk (st := sPut) lPu cPu kPu
 have bPu := FPu.binds (ps := ["self", "word"]) fun _ _ _ _ _ _ us hl => by obtain ⟨_, _, rfl⟩ := len2 hl; rfl
 have mPu : Meth K CH "put" fPu := ⟨aPu, iPu, kPu⟩
 have FTa := fun_mk (st := sTake) lTa cTa kTa
 have bTa := FTa.binds (ps := ["self", "word"]) fun _ _ _ _ _ _ us hl => by obtain ⟨_, _, rfl⟩ := len2 hl; rfl
 have mTa : Meth K CH "take" fTa := ⟨aTa, iTa, kTa⟩
 have FHa := fun_mk (st := sHas) lHa cHa kHa
 have bHa := FHa.binds (ps := ["self", "word"]) fun _ _ _ _ _ _ us hl => by obtain ⟨_, _, rfl⟩ := len2 hl; rfl
 have mHa : Meth K CH "has" fHa := ⟨aHa, iHa, kHa⟩
 have FPA := fun_mk (st := sPath) lPA cPA kPA
 have bPA := FPA.binds (ps := ["self", "text"]) fun _ _ _ _ _ _ us hl => by obtain ⟨_, _, rfl⟩ := len2 hl; rfl
 have mPA : Meth K CH "path_along" fPA := ⟨aPA, iPA, kPA⟩
 have FAn := fun_mk (st := sAnswers) lAn cAn kAn
 have bAn := FAn.binds (ps := ["deeds"]) fun _ _ _ _ _ _ us hl => by obtain ⟨_, rfl⟩ := len1 hl; rfl
 have gAn := PySem.W.mg_of X G aAn
 have FDA := fun_mk (st := sDoAll) lDA cDA kDA
 have bDA := FDA.binds (ps := ["hedge", "deeds"]) fun _ _ _ _ _ _ us hl => by obtain ⟨_, _, rfl⟩ := len2 hl; rfl
 have gDA := PySem.W.mg_of X G aDA
 have FDO := fun_mk (st := sDoOne) lDO cDO kDO
 have bDO := FDO.binds (ps := ["hedge", "deed"]) fun _ _ _ _ _ _ us hl => by obtain ⟨_, _, rfl⟩ := len2 hl; rfl
 have gDO := PySem.W.mg_of X G aDO
 have FIO := fun_mk (st := sOrder) lIO cIO kIO
 have bIO := FIO.binds (ps := ["first"]) fun _ _ _ _ _ _ us hl => by obtain ⟨_, rfl⟩ := len1 hl; rfl
 have gIO := PySem.W.mg_of X G aIO
 have FWW := fun_mk (st := sWords) lWW cWW kWW
 have bWW := FWW.binds (ps := ["self", "text"]) fun _ _ _ _ _ _ us hl => by obtain ⟨_, _, rfl⟩ := len2 hl; rfl
 have mWW : Meth K CH "words_with" fWW := ⟨aWW, iWW, kWW⟩
 have FLo := fun_mk (st := sLongest) lLo cLo kLo
 have bLo := FLo.binds (ps := ["self", "line"]) fun _ _ _ _ _ _ us hl => by obtain ⟨_, _, rfl⟩ := len2 hl; rfl
 have mLo : Meth K CH "longest" fLo := ⟨aLo, iLo, kLo⟩
 have FAO := fun_mk (st := sAheadOf) lAO cAO kAO
 have bAO := FAO.binds (ps := ["self", "letter"]) fun _ _ _ _ _ _ us hl => by obtain ⟨_, _, rfl⟩ := len2 hl; rfl
 have mAO : Meth K C "ahead_of" fAO := ⟨aAO, iAO, kAO⟩
 have FLA := fun_mk (st := sLetter) lLA cLA kLA
 have bLA := FLA.binds (ps := ["self", "place"]) fun _ _ _ _ _ _ us hl => by obtain ⟨_, _, rfl⟩ := len2 hl; rfl
 have mLA : Meth K C "letter_at" fLA := ⟨aLA, iLA, kLA⟩
 have FAt := fun_mk (st := sHAt) lAt cAt kAt
 have bAt := FAt.binds (ps := ["self", "place"]) fun _ _ _ _ _ _ us hl => by obtain ⟨_, _, rfl⟩ := len2 hl; rfl
 have mAt : Meth K CH "at" fAt := ⟨aAt, iAt, kAt⟩
 have FAd := fun_mk (st := sAhead) lAd cAd kAd
 have bAd := FAd.binds (ps := ["self", "text"]) fun _ _ _ _ _ _ us hl => by obtain ⟨_, _, rfl⟩ := len2 hl; rfl
 have mAd : Meth K CH "ahead" fAd := ⟨aAd, iAd, kAd⟩
 have FTo := fun_mk (st := sTold) lTo cTo kTo
 have bTo := FTo.binds (ps := ["self"]) fun _ _ _ _ _ _ us hl => by obtain ⟨_, rfl⟩ := len1 hl; rfl
 have mTo : Meth K C "told" fTo := ⟨aTo, iTo, kTo⟩
 have FTw := fun_mk (st := sTwigs) lTw cTw kTw
 have bTw := FTw.binds (ps := ["self"]) fun _ _ _ _ _ _ us hl => by obtain ⟨_, rfl⟩ := len1 hl; rfl
 have mTw : Meth K CH "twigs" fTw := ⟨aTw, iTw, kTw⟩
 have FTB := fun_mk (st := sBehind) lTB cTB kTB
 have bTB := FTB.binds (ps := ["deeds"]) fun _ _ _ _ _ _ us hl => by obtain ⟨_, rfl⟩ := len1 hl; rfl
 have gTB := PySem.W.mg_of X G aTB
 have FU := fun_mk (st := sUnturned) lU cU kU
 have bU := FU.binds (ps := ["_law_found", "_law_due"]) fun _ _ _ _ _ _ us hl => by obtain ⟨_, _, rfl⟩ := len2 hl; rfl
 have gU := PySem.W.mg_of X G aU
 have FR := fun_mk (st := sRoom) lR cR kR
 have bR := FR.binds (ps := ["_law_script", "_law_most", "_law_bound"]) fun _ _ _ _ _ _ us hl => by obtain ⟨_, _, _, rfl⟩ := len3 hl; rfl
 have gR := PySem.W.mg_of X G aR
 have FW := fun_mk (st := sWhole) lW cW kW
 have bW := FW.binds (ps := ["_law_found"]) fun _ _ _ _ _ _ us hl => by obtain ⟨_, rfl⟩ := len1 hl; rfl
 have gW := PySem.W.mg_of X G aW
 have FS := fun_mk (st := sSpelt) lS cS kS
 have bS := FS.binds (ps := ["_law_seed"]) fun _ _ _ _ _ _ us hl => by obtain ⟨_, rfl⟩ := len1 hl; rfl
 have gS := PySem.W.mg_of X G aS
 have FP := fun_mk (st := sPuts) lP cP kP
 have bP := FP.binds (ps := ["_law_cells"]) fun _ _ _ _ _ _ us hl => by obtain ⟨_, rfl⟩ := len1 hl; rfl
 have gP := PySem.W.mg_of X G aP
 have FH := fun_mk (st := sHeld) lH cH kH
 have bH := FH.binds (ps := ["_law_asked"]) fun _ _ _ _ _ _ us hl => by obtain ⟨_, rfl⟩ := len1 hl; rfl
 have gH := PySem.W.mg_of X G aH
 have FRe := fun_mk (st := sReply) lRe cRe kRe
 have bRe := FRe.binds (ps := ["_law_words", "_law_deed"]) fun _ _ _ _ _ _ us hl => by obtain ⟨_, _, rfl⟩ := len2 hl; rfl
 have gRe := PySem.W.mg_of X G aRe
 have FKi := fun_mk (st := sKind) lKi cKi kKi
 have bKi := FKi.binds (ps := ["_law_found", "_law_due"]) fun _ _ _ _ _ _ us hl => by obtain ⟨_, _, rfl⟩ := len2 hl; rfl
 have gKi := PySem.W.mg_of X G aKi
 have FTO := fun_mk (st := sTwigsOf) lTO cTO kTO
 have bTO := FTO.binds (ps := ["_law_words"]) fun _ _ _ _ _ _ us hl => by obtain ⟨_, rfl⟩ := len1 hl; rfl
 have gTO := PySem.W.mg_of X G aTO
 have Flaw := fun_mk (st := sLaw) llaw claw klaw
 have glaw := PySem.W.mg_of X G alaw
 have clC : Cls K C := ⟨pgC, hdC, poC, saC⟩
 have gC := PySem.W.mg_of X G aCC
 have clCH : Cls K CH := ⟨pgCH, hdCH, poCH, saCH⟩
 have gCH := PySem.W.mg_of X G aCCH
 have yreversed := PySem.W.mg_none_of X G zreversed
 have ylen := PySem.W.mg_none_of X G zlen
 have yrange := PySem.W.mg_none_of X G zrange
 have yint := PySem.W.mg_none_of X G zint
 have yisinstance := PySem.W.mg_none_of X G zisinstance
 have ylist := PySem.W.mg_none_of X G zlist
 have ystr := PySem.W.mg_none_of X G zstr
 have ybool := PySem.W.mg_none_of X G zbool
 have ymax := PySem.W.mg_none_of X G zmax
 have ymin := PySem.W.mg_none_of X G zmin
 have ysum := PySem.W.mg_none_of X G zsum
 have yzip := PySem.W.mg_none_of X G zzip
 have ysorted := PySem.W.mg_none_of X G zsorted
 have ytuple := PySem.W.mg_none_of X G ztuple
 refine ⟨PySem.W.fnOf "law" "law" (defArgs sLaw) (defBody sLaw) (defScope sLaw) .none kVlaw dclaw pmlaw anlaw cdlaw ctlaw, fun s v => .of_eq rfl, fun base _ _ => ?_⟩
 have MT : Mk K C fTI := ⟨mkC, aTI, iTI, kcC⟩
 have MH : Mk K CH fHI := ⟨mkCH, aHI, iHI, kcCH⟩
 have T : PTxt K mg C CH := ⟨clC, clCH, nCtext, nChere, nCmany, nClonger, nCHroot, gC, gCH, yreversed⟩
 have D : DTxt K mg C CH fDO fDA := ⟨T, gDO, gDA⟩
 have TB : HTxt mg fSB := ⟨gSB⟩
 have Gback := ok_back (P := l.prog) (w := w) (base := base) FSB T mSe FSe bSe
 have Gpath := ok_path (P := l.prog) (w := w) (base := base) FPA T mFo FFo bFo
 have Ggrow := ok_grow (P := l.prog) (w := w) (base := base) FGr T MT FTI bTI
 have Ghin := ok_hinit (P := l.prog) (w := w) (base := base) FHI T MT FTI bTI
 have Gput := ok_put FPu T TB mGr Ggrow bGr mPH FPH bPH FSB Gback bSB
 have Gtake := ok_take FTa T TB mPA Gpath bPA mTH FTH bTH FSB Gback bSB
 have Ghas := ok_has FHa T mPA Gpath bPA
 have TW : WTxt mg fIO := ⟨gIO, ysorted⟩
 have TM : MTxt mg := ⟨ymax, ysum, yzip⟩
 have Gord := ok_order (P := l.prog) (w := w) (base := base) FIO T TW mFo FFo bFo
 have Gww := ok_words FWW T TW mPA Gpath bPA FIO Gord bIO
 have Glong := ok_longest FLo T mPA Gpath bPA
 have Glet := ok_letter (P := l.prog) (w := w) (base := base) FLA T TM mAO FAO bAO
 have Gat := ok_hat (P := l.prog) (w := w) (base := base) FAt T mAO FAO bAO mLA Glet bLA mFo FFo bFo
 have Gad := ok_ahead FAd T TM mPA Gpath bPA mAO FAO bAO
 have Gone := ok_doone FDO D mPu Gput bPu mTa Gtake bTa mHa Ghas bHa mWW Gww bWW mLo Glong bLo mAt Gat bAt mAd Gad bAd
 have Gall := ok_doall FDA D FDO Gone bDO
 have Gans := ok_answers (k1 := 4) FAn D FDA Gall bDA MH Ghin bHI
 have Gtw := ok_twigs FTw T TW FIO Gord bIO mTo FTo bTo
 have Gtb := ok_behind (k1 := 4) FTB D FDA Gall bDA MH Ghin bHI mTw Gtw bTw
 have TL : Txt mg fS fP fU fH fR fW fRe fKi fTO fAn fTB := { _law_spelt := gS, _law_puts := gP, len := ylen, range := yrange, int := yint, _law_whole := gW, isi := yisinstance, list := ylist, str := ystr, bool := ybool, sorted := ysorted, max := ymax, min := ymin, tuple := ytuple, _law_unturned := gU, _law_held := gH, _law_room := gR, _law_reply := gRe, _law_kind := gKi, _law_twigs_of := gTO, answers := gAn, twigs_behind := gTB }
 exact ok_law Flaw TL FS bS FP bP FU bU FH bH FR bR FW bW FRe bRe FKi bKi FTO bTO kAn bAn Gans FTB bTB Gtb
end K07
set_option maxHeartbeats 0
open PySem PySem.W PyProof.Rows L2
namespace K07
abbrev pw := PySem.Challenge.pw_wordhedge_k07_whole_twigs
abbrev rw' := PySem.Challenge.rw_wordhedge_k07_whole_twigs
def Q : Program := view pw [1, 3, 4, 5, 7, 8, 9, 10, 12, 13, 14, 15, 16, 17, 18, 19, 20, 21]
noncomputable def endsX (w : World) : { x : Option Shared // openEnds treeTable pw w 3148 = x } := ⟨_, by
 unfold openEnds fencedOpening topFrom
 rw [Fast.te14082659384304107361, Fast.te10274390034422433532, Fast.te14364793385576792824]⟩
noncomputable def fin (w : World) : Shared := (endsX w).1.getD {}
def adr : List Addr := [3, 27, 28, 34, 35, 41, 42, 48, 49, 55, 56, 62, 63, 69, 70, 76, 77, 81, 82, 84, 85, 95, 96, 102, 103, 116, 117, 123, 124, 130, 131, 137, 138, 142, 143, 149, 150, 156, 157, 161, 162, 166, 167, 173, 174, 176, 177, 187, 188, 194, 195, 201, 202, 208, 209, 215, 216, 222, 223, 229, 230, 236, 237, 243, 244, 250, 251, 255, 256, 262, 263, 267, 268, 272, 273]
noncomputable def KK (w : World) : Frag := adr.map fun a => (a, ((fin w).heap.get? a).getD ⟨.none, none, .plain, #[]⟩)
abbrev fo (n q : Str) (s : Stmt) (m : Str) (t : Nat) (c : Addr) : Obj := ⟨.type "function", none, .func (PySem.W.fnOf n q (defArgs s) (defBody s) (defScope s) .none .none .none (.str m t) none (.ref c) .none), #[]⟩
theorem said : OpenLaw.wellSaid rw' = true := by
 rw [Fast.te9446332074065402090]
 kernel_rfl
abbrev rr := OpenRow.toRowW (OpenLaw.row rw')
theorem left : LeftO pw Q [] (fun s => xlAt Q [] s && recOk (RowW.records rr) s) (fun s => adr.map s.heap.get?) (fun w => (KK w).map fun p => some p.2) 3148 := fun w => by
 show Option.map _ (openEnds treeTable pw w 3148) = _
 rw [(endsX w).2, Fast.te4187177175401517315]
 kernel_rfl
theorem adrs : ∀ w, adr = (KK w).map (·.1) := fun w => by
 unfold KK
 rw [List.map_map]
 exact (List.map_id adr).symm
theorem whole (w : World) (mg : Str → Option Value) (fa : Addr) (h : Heap) (KX : (KK w).In h) (G : h.Ns mainGlobals mg) (hmg : mg "law" = some (.ref fa)) :
  ∃ fd : FuncData, (∀ (s : Shared) (u : Value), BindsTo s fd ⟨[u], []⟩ [("_law_script", u)]) ∧ ∀ base : Heap, (KK w).In base → base.Ns mainGlobals mg → FnOk rw'.prog w (KK w) mg base CX0 13 fa fd ["_law_script"] (spLaw (KK w)) :=
 all_mk (C := 85) (CH := 177) (fTI := 28) (fPH := 42) (fTH := 49) (fFo := 56) (fGr := 63) (fSe := 70) (fSB := 103) (fHI := 117) (fPu := 124) (fTa := 131) (fHa := 138) (fPA := 174) (fAn := 188) (fDA := 202) (fDO := 209) (fIO := 96) (fWW := 143) (fLo := 150) (fAO := 77) (fLA := 82) (fAt := 157) (fAd := 162) (fTo := 35) (fTw := 167) (fTB := 195) (fU := 216) (fR := 223) (fW := 230) (fS := 237) (fP := 244) (fH := 251) (fRe := 256) (fKi := 263) (fTO := 268) (flaw := 273) KX G hmg
  (by kernel_rfl) (by kernel_rfl) (by kernel_rfl) (by kernel_rfl) (show _ = some (fo "__init__" "Twig.__init__" sTInit "wordhedge.twig" 187 27) by kernel_rfl) (by kernel_rfl) (by kernel_rfl) (by kernel_rfl) (by kernel_rfl) (show _ = some (fo "put_here" "Twig.put_here" sPutHere "wordhedge.twig" 187 41) by kernel_rfl) (by kernel_rfl) (by kernel_rfl) (by kernel_rfl) (by kernel_rfl) (show _ = some (fo "take_here" "Twig.take_here" sTakeHere "wordhedge.twig" 187 48) by kernel_rfl) (by kernel_rfl) (by kernel_rfl) (by kernel_rfl) (by kernel_rfl) (show _ = some (fo "follow" "Twig.follow" sFollow "wordhedge.twig" 187 55) by kernel_rfl) (by kernel_rfl) (by kernel_rfl) (by kernel_rfl) (by kernel_rfl) (show _ = some (fo "grow" "Twig.grow" sGrow "wordhedge.twig" 187 62) by kernel_rfl) (by kernel_rfl) (by kernel_rfl) (by kernel_rfl) (by kernel_rfl)
  (show _ = some (fo "settle" "Twig.settle" sSettle "wordhedge.twig" 187 69) by kernel_rfl) (by kernel_rfl) (by kernel_rfl) (by kernel_rfl) (show _ = some (fo "settle_back" "settle_back" sBack "wordhedge.hedge" 286 102) by kernel_rfl) (by kernel_rfl) (by kernel_rfl) (by kernel_rfl) (by kernel_rfl) (show _ = some (fo "__init__" "Hedge.__init__" sHInit "wordhedge.hedge" 286 116) by kernel_rfl) (by kernel_rfl) (by kernel_rfl) (by kernel_rfl) (by kernel_rfl) (show _ = some (fo "put" "Hedge.put" sPut "wordhedge.hedge" 286 123) by kernel_rfl) (by kernel_rfl) (by kernel_rfl) (by kernel_rfl) (by kernel_rfl) (show _ = some (fo "take" "Hedge.take" sTake "wordhedge.hedge" 286 130) by kernel_rfl) (by kernel_rfl) (by kernel_rfl) (by kernel_rfl) (by kernel_rfl) (show _ = some (fo "has" "Hedge.has" sHas "wordhedge.hedge" 286 137) by kernel_rfl) (by kernel_rfl) (by kernel_rfl) (by kernel_rfl)
  (by kernel_rfl) (show _ = some (fo "path_along" "Hedge.path_along" sPath "wordhedge.hedge" 286 173) by kernel_rfl) (by kernel_rfl) (by kernel_rfl) (by kernel_rfl) (show _ = some (fo "answers" "answers" sAnswers "wordhedge.day" 412 187) by kernel_rfl) (by kernel_rfl) (by kernel_rfl) (by kernel_rfl) (show _ = some (fo "do_all" "do_all" sDoAll "wordhedge.day" 412 201) by kernel_rfl) (by kernel_rfl) (by kernel_rfl) (by kernel_rfl) (show _ = some (fo "do_one" "do_one" sDoOne "wordhedge.day" 412 208) by kernel_rfl) (by kernel_rfl) (by kernel_rfl) (by kernel_rfl) (show _ = some (fo "in_order" "in_order" sOrder "wordhedge.hedge" 286 95) by kernel_rfl) (by kernel_rfl) (by kernel_rfl) (by kernel_rfl) (by kernel_rfl) (show _ = some (fo "words_with" "Hedge.words_with" sWords "wordhedge.hedge" 286 142) by kernel_rfl) (by kernel_rfl) (by kernel_rfl) (by kernel_rfl) (by kernel_rfl)
  (show _ = some (fo "longest" "Hedge.longest" sLongest "wordhedge.hedge" 286 149) by kernel_rfl) (by kernel_rfl) (by kernel_rfl) (by kernel_rfl) (by kernel_rfl) (show _ = some (fo "ahead_of" "Twig.ahead_of" sAheadOf "wordhedge.twig" 187 76) by kernel_rfl) (by kernel_rfl) (by kernel_rfl) (by kernel_rfl) (by kernel_rfl) (show _ = some (fo "letter_at" "Twig.letter_at" sLetter "wordhedge.twig" 187 81) by kernel_rfl) (by kernel_rfl) (by kernel_rfl) (by kernel_rfl) (by kernel_rfl) (show _ = some (fo "at" "Hedge.at" sHAt "wordhedge.hedge" 286 156) by kernel_rfl) (by kernel_rfl) (by kernel_rfl) (by kernel_rfl) (by kernel_rfl) (show _ = some (fo "ahead" "Hedge.ahead" sAhead "wordhedge.hedge" 286 161) by kernel_rfl) (by kernel_rfl) (by kernel_rfl) (by kernel_rfl) (by kernel_rfl) (show _ = some (fo "told" "Twig.told" sTold "wordhedge.twig" 187 34) by kernel_rfl) (by kernel_rfl) (by kernel_rfl)
  (by kernel_rfl) (by kernel_rfl) (show _ = some (fo "twigs" "Hedge.twigs" sTwigs "wordhedge.hedge" 286 166) by kernel_rfl) (by kernel_rfl) (by kernel_rfl) (by kernel_rfl) (show _ = some (fo "twigs_behind" "twigs_behind" sBehind "wordhedge.day" 412 194) by kernel_rfl) (by kernel_rfl) (by kernel_rfl) (by kernel_rfl) (show _ = some (fo "_law_unturned" "_law_unturned" sUnturned "law_wordhedge_k07_whole_twigs" 449 215) by kernel_rfl) (by kernel_rfl) (by kernel_rfl) (by kernel_rfl) (show _ = some (fo "_law_room" "_law_room" sRoom "law_wordhedge_k07_whole_twigs" 449 222) by kernel_rfl) (by kernel_rfl) (by kernel_rfl) (by kernel_rfl) (show _ = some (fo "_law_whole" "_law_whole" sWhole "law_wordhedge_k07_whole_twigs" 449 229) by kernel_rfl) (by kernel_rfl) (by kernel_rfl) (by kernel_rfl) (show _ = some (fo "_law_spelt" "_law_spelt" sSpelt "law_wordhedge_k07_whole_twigs" 449 236) by kernel_rfl)
  (by kernel_rfl) (by kernel_rfl) (by kernel_rfl) (show _ = some (fo "_law_puts" "_law_puts" sPuts "law_wordhedge_k07_whole_twigs" 449 243) by kernel_rfl) (by kernel_rfl) (by kernel_rfl) (by kernel_rfl) (show _ = some (fo "_law_held" "_law_held" sHeld "law_wordhedge_k07_whole_twigs" 449 250) by kernel_rfl) (by kernel_rfl) (by kernel_rfl) (by kernel_rfl) (show _ = some (fo "_law_reply" "_law_reply" sReply "law_wordhedge_k07_whole_twigs" 449 255) by kernel_rfl) (by kernel_rfl) (by kernel_rfl) (by kernel_rfl) (show _ = some (fo "_law_kind" "_law_kind" sKind "law_wordhedge_k07_whole_twigs" 449 262) by kernel_rfl) (by kernel_rfl) (by kernel_rfl) (by kernel_rfl) (show _ = some (fo "_law_twigs_of" "_law_twigs_of" sTwigsOf "law_wordhedge_k07_whole_twigs" 449 267) by kernel_rfl) (by kernel_rfl) (by kernel_rfl) (by kernel_rfl)
  (show _ = some (fo "law" "law" sLaw "law_wordhedge_k07_whole_twigs" 449 272) by kernel_rfl) (by kernel_rfl) (by kernel_rfl) (by kernel_rfl) (by kernel_rfl) (by kernel_rfl) (by kernel_rfl) (by kernel_rfl) (by kernel_rfl) (by kernel_rfl) (by kernel_rfl) (by kernel_rfl) (by kernel_rfl) (by kernel_rfl) (by kernel_rfl) (by kernel_rfl) (by kernel_rfl) (by kernel_rfl) (by kernel_rfl) (by kernel_rfl) (by kernel_rfl) (by kernel_rfl) (by kernel_rfl) (by kernel_rfl) (by kernel_rfl) (by kernel_rfl) (by kernel_rfl) (by kernel_rfl) (by kernel_rfl) (by kernel_rfl) (by kernel_rfl) (by kernel_rfl) (by kernel_rfl) (by kernel_rfl)
theorem walkW {l : OpenLaw} {q : Program} {loose : List Str} {XP : (Str → Option Value) → Heap → Prop} {d : DefRec} {K : World → Frag} {as : List Addr} (hn : l.most = some 63) (hdf : d.params.defaults = []) (e : ∀ w, as = (K w).map (·.1))
  (F : ∀ (w : World) (mg : Str → Option Value) (fa : Addr) (h : Heap), (K w).In h → h.Ns mainGlobals mg → mg d.name = some (.ref fa) →
   ∃ fd : FuncData, (∀ (s : Shared) (u : Value), BindsTo s fd ⟨[u], []⟩ [("_law_script", u)]) ∧ ∀ base : Heap, (K w).In base → base.Ns mainGlobals mg → FnOk l.prog w (K w) mg base CX0 13 fa fd ["_law_script"] (spLaw (K w))) :
  WalkX q loose XP (fun s => as.map s.heap.get?) (fun w => (K w).map fun p => some p.2) l.row.toRowW d [] (fun f vs => PySem.call f vs) := by
 have W : WalkO q loose XP (fun w h => (K w).In h) l.row.toRowW d [] (fun f vs => PySem.call f vs) := by
  refine Att.attach_call hn hdf fun w s₀ s₁ mg mb fa o pm cd doc a vs ns G Y ho hd hcd hmg hobj hints hlen hg => ?_
  obtain ⟨fd, hb, hF⟩ := F w mg fa _ Y G.T.g hmg
  exact law_call Y G.T.g G.T.b G.T.builtins G.T.nolimit hg hobj hints (Nat.le_trans hlen (by decide)) ⟨rfl, by decide, by decide⟩ hF hb (fun H _ hS => ⟨a, ns, rfl, hS, hlen, fun _ => rfl⟩) fun _ _ _ z => z
 exact fun w s₀ s₁ mg mb G y a o pm cd doc dV kV h1 h2 h3 h4 h5 h6 args vals az L h7 h8 h9 h10 h11 => W w s₀ s₁ mg mb G (Frag.In.keeps (Frag.in_of (e w) y) L.keeps) a o pm cd doc dV kV h1 h2 h3 h4 h5 h6 args vals az h7 h8 h9 h10 h11
end K07
theorem PySem.Challenge.cw_wordhedge_k07_whole_twigs_holds : PySem.Challenge.rw_wordhedge_k07_whole_twigs.Holds := by
 w_on
 refine holds_law K07.said fun said => holds_openX (q := K07.Q) (XP := XL K07.Q []) K07.left (fun s e => xl_of s (Bool.and_eq_true_iff.mp e).1) XL.keeps (by rfl) (by rfl) (by rfl) (fun s e => recFacts_of (Bool.and_eq_true_iff.mp e).2) (by rfl) said (by decide +kernel) ⟨rfl, rfl, rfl, rfl, rfl, by decide +kernel⟩ ?hw ?hc
 case hw => w_witness2
 exact K07.walkW (l := PySem.Challenge.rw_wordhedge_k07_whole_twigs) rfl rfl K07.adrs K07.whole

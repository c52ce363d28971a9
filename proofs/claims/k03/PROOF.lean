import PyProof.Rows.All
import Wide.All
import OpenK.AllK
import Wide.FinOn
import Lean
import PyProof.EqAt
import PyProof.EqKinds
import PyProof.TupleCall
import PySem.Challenge.RW_wareplan_k03_unknowns_changed
set_option Elab.async false
set_option linter.all false
set_option maxRecDepth 100000
namespace L2
open PySem PySem.Spec PyProof.Rows

/-- a key: an int or a str -/
abbrev Key := Sum Int Str
def keyIs : Key → Value → Bool
  | .inl k, v => Value.isInt k v
  | .inr x, v => Value.isStrOf x v
def keyH (w : World) : Key → Int
  | .inl k => hashInt k
  | .inr x => hashStr w x
theorem keyIs_shape : ∀ {k : Key} {v : Value}, keyIs k v = true → (∃ i t, k = Sum.inl i ∧ v = Value.int i t) ∨ (∃ x t, k = Sum.inr x ∧ v = Value.str x t)
  | .inl i, v, h => by
    obtain ⟨t, e⟩ := Value.isInt_shape (k := i) (v := v) h
    exact .inl ⟨i, t, rfl, e⟩
  | .inr x, v, h => by
    obtain ⟨t, e⟩ := Value.isStrOf_shape (x := x) (v := v) h
    exact .inr ⟨x, t, rfl, e⟩
theorem keyIs_int (i : Int) (t : Tok) : keyIs (.inl i) (.int i t) = true := by simp [keyIs, Value.isInt]
theorem keyIs_str (x : Str) (t : Tok) : keyIs (.inr x) (.str x t) = true := by simp [keyIs, Value.isStrOf]
theorem key_ll (a b : Int) : decide ((Sum.inl a : Key) = Sum.inl b) = (a == b) := by
  by_cases e : a = b
  · subst e; simp
  · have h : ¬ (Sum.inl a : Key) = Sum.inl b := fun q => e (Sum.inl.inj q)
    rw [decide_eq_false h]
    exact (beq_eq_false_iff_ne.mpr e).symm
theorem key_rr (a b : Str) : decide ((Sum.inr a : Key) = Sum.inr b) = decide (a = b) := by
  by_cases e : a = b
  · subst e; simp
  · have h : ¬ (Sum.inr a : Key) = Sum.inr b := fun q => e (Sum.inr.inj q)
    rw [decide_eq_false h, decide_eq_false e]
theorem key_lr (a : Int) (b : Str) : decide ((Sum.inl a : Key) = Sum.inr b) = false := decide_eq_false (fun q => nomatch q)
theorem key_rl (a : Str) (b : Int) : decide ((Sum.inr a : Key) = Sum.inl b) = false := decide_eq_false (fun q => nomatch q)

def mixKind (prog : Program) (w : World) : PySem.KeyKind prog w Key where
  is := keyIs
  hash := keyH w
  inj := fun v a b ha hb => by
    rcases keyIs_shape ha with ⟨i, t, rfl, rfl⟩ | ⟨x, t, rfl, rfl⟩
    · rcases keyIs_shape hb with ⟨j, u, rfl, e⟩ | ⟨y, u, rfl, e⟩
      · injection e with e1 _; rw [e1]
      · exact nomatch e
    · rcases keyIs_shape hb with ⟨j, u, rfl, e⟩ | ⟨y, u, rfl, e⟩
      · exact nomatch e
      · injection e with e1 _; rw [e1]
  byValue := fun k v h => by
    rcases keyIs_shape h with ⟨i, t, rfl, rfl⟩ | ⟨x, t, rfl, rfl⟩ <;> rfl
  pyHash := fun hv h => by
    rcases keyIs_shape hv with ⟨i, t, rfl, rfl⟩ | ⟨x, t, rfl, rfl⟩
    · exact wpAny_pyHash_int h
    · exact wpAny_pyHash_str h
  eqBool := fun hu hv h => by
    rcases keyIs_shape hu with ⟨i, t, rfl, rfl⟩ | ⟨x, t, rfl, rfl⟩
    · rcases keyIs_shape hv with ⟨j, u, rfl, rfl⟩ | ⟨y, u, rfl, rfl⟩
      · rw [key_ll] at h; exact wpAny_eqBool_int h
      · rw [key_lr] at h; exact SeqAt.EqAt.int_str i t y u _ _ _ _ h
    · rcases keyIs_shape hv with ⟨j, u, rfl, rfl⟩ | ⟨y, u, rfl, rfl⟩
      · rw [key_rl] at h; exact SeqAt.EqAt.str_int x t j u _ _ _ _ h
      · rw [key_rr] at h; exact wpAny_eqBool_str h
  «strs» := fun k x t v h => by
    rcases keyIs_shape h with ⟨i, u, rfl, e⟩ | ⟨y, u, rfl, e⟩
    · exact nomatch e
    · injection e with e1 _
      subst e1
      cases v <;> rfl

theorem mixKind_int (prog : Program) (w : World) (i : Int) (t : Tok) : (mixKind prog w).is (.inl i) (.int i t) = true := keyIs_int i t
theorem mixKind_str (prog : Program) (w : World) (x : Str) (t : Tok) : (mixKind prog w).is (.inr x) (.str x t) = true := keyIs_str x t
end L2

namespace L2
open PySem PySem.Spec PyProof.Rows

/-- a value, without the heap -/
inductive V where
  | non | bl (b : Bool) | int (i : Int) | str (x : Str) | byt (b : Array UInt8) | flt (b : UInt64) | ref (a : Addr) | ty (n : String)
  deriving DecidableEq

def RelV : V → Value → Prop
  | .non, u => u = Value.none
  | .bl b, u => u = Value.bool b
  | .int i, u => ∃ t, u = Value.int i t
  | .str x, u => ∃ t, u = Value.str x t
  | .byt b, u => ∃ t, u = Value.bytes b t
  | .flt b, u => ∃ t, u = Value.float b t
  | .ref a, u => u = Value.ref a
  | .ty n, u => u = Value.type n

abbrev Vals : List V → List Value → Prop := Paired RelV
theorem Vals.length {xs : List V} {us : List Value} (r : Vals xs us) : xs.length = us.length := Paired.length r
theorem Vals.get : ∀ {xs : List V} {us : List Value} {i : Nat} {x : V}, Vals xs us → xs[i]? = some x → ∃ u, us[i]? = some u ∧ RelV x u
  | _, _, _, _, .nil, e => by simp at e
  | _, _, 0, _, .cons r _, e => by simp at e; subst e; exact ⟨_, rfl, r⟩
  | _, _, i + 1, x, .cons _ t, e => by
    obtain ⟨u, h1, h2⟩ := Vals.get (i := i) (x := x) t (by simpa using e)
    exact ⟨u, by simpa using h1, h2⟩
theorem Vals.set {x : V} {u : Value} (r : RelV x u) : ∀ {xs : List V} {us : List Value} (i : Nat), Vals xs us → Vals (xs.set i x) (us.set i u)
  | _, _, _, .nil => .nil
  | _, _, 0, .cons _ t => .cons r t
  | _, _, i + 1, .cons q t => .cons q (Vals.set r i t)
theorem Vals.append : ∀ {xs ys : List V} {us ws : List Value}, Vals xs us → Vals ys ws → Vals (xs ++ ys) (us ++ ws)
  | _, _, _, _, .nil, s => s
  | _, _, _, _, .cons r t, s => .cons r (Vals.append t s)
theorem Vals.take : ∀ {xs : List V} {us : List Value} (n : Nat), Vals xs us → Vals (xs.take n) (us.take n)
  | _, _, 0, _ => .nil
  | _, _, _ + 1, .nil => .nil
  | _, _, n + 1, .cons r t => .cons r (Vals.take n t)
theorem Vals.drop : ∀ {xs : List V} {us : List Value} (n : Nat), Vals xs us → Vals (xs.drop n) (us.drop n)
  | _, _, 0, r => r
  | _, _, _ + 1, .nil => .nil
  | _, _, n + 1, .cons _ t => Vals.drop n t
def RelO : Option V → Option Value → Prop
  | some v, some u => RelV v u
  | none, none => True
  | _, _ => False
def KV {κ : Type} : List (κ × V) → List (κ × Value) → Prop := Paired fun (p : κ × V) (q : κ × Value) => p.1 = q.1 ∧ RelV p.2 q.2

/-- a key of a dict (00_mix): an int or a text -/
def kV : Key → V
  | .inl i => .int i
  | .inr x => .str x

/-- what stands at a tracked address -/
inductive HO where
  /-- a list -/
  | lst (xs : List V)
  /-- a tuple (never changes) -/
  | tup (xs : List V)
  /-- a dict whose keys are ints and texts; one whose keys are tuples of ints and texts (the empty one is both) -/
  | dK (kvs : List (Key × V)) | dT (kvs : List (List Key × V))
  /-- a set of ints: its members, its size -/
  | set (S : Int → Bool) (n : Nat)
  /-- an instance of the class at C, its dict at dx, its attributes -/
  | ins (C dx : Addr) (fs : List (Str × V))
  /-- the dict of the instance at x -/
  | own (x : Addr)
  /-- the dict of an exception -/
  | xd (fs : List (Str × V))
  /-- a bound method, f of x -/
  | met (f x : Addr)
  /-- a range object lo, lo + 1, .. below hi -/
  | rng (lo hi : Int)
  /-- a thing that is known to the object (the script; a dict while a loop walks it): read, never written while it is so -/
  | frz (o : Obj) (u : HO)
  /-- a code object's table -/
  | tbl (ps : Array Value)
  /-- any other thing, by what is true of its one object (a def of one's own: SetO a S n := HO.ext fun h => ..) -/
  | ext (φ : Heap → Prop)

abbrev Hp := Addr → Option HO
def upd (H : Hp) (a : Addr) (o : HO) : Hp := fun b => if b = a then some o else H b
theorem upd_same {H : Hp} {a : Addr} {o : HO} : upd H a o a = some o := by unfold upd; rw [if_pos rfl]
theorem upd_ne {H : Hp} {a b : Addr} {o : HO} (h : b ≠ a) : upd H a o b = H b := by unfold upd; rw [if_neg h]
theorem upd_upd {H : Hp} {a : Addr} {o u : HO} : upd (upd H a o) a u = upd H a u := by
  funext b; unfold upd; split <;> rfl
/-- two objects of different content stand apart -/
theorem ne_of {H : Hp} {a b : Addr} {o u : HO} (h : H a = some o) (h' : H b = some u) (d : o ≠ u) : a ≠ b := by
  intro e; subst e; rw [h] at h'; exact d (Option.some.inj h')
theorem ne_of_none {H : Hp} {a b : Addr} {o : HO} (h : H a = some o) (h' : H b = none) : a ≠ b := by
  intro e; subst e; rw [h] at h'; cases h'

section
variable (P : Program) (w : World)
def ObjOk (H : Hp) (h : Heap) (a : Addr) : HO → Prop
  | .lst xs => xs.length ≤ sizeLine ∧ ∃ (its : List Value) (n : Nat), Vals xs its ∧ h.get? a = some { cls := .type "list", data := .seq its.toArray n }
  | .tup xs => xs.length ≤ sizeLine ∧ ∃ its : List Value, Vals xs its ∧ IsTup h a its.toArray
  | .dK kvs => kvs.length ≤ sizeLine ∧ (a == sysModules) = false ∧ ∃ vs, KV kvs vs ∧ h.DictOf (mixKind P w) a vs
  | .dT kvs => kvs.length ≤ sizeLine ∧ (a == sysModules) = false ∧ ∃ xs : List (List Key × Addr × Value),
      Paired (fun (p : List Key × V) (q : List Key × Addr × Value) => p.1 = q.1 ∧ H q.2.1 = some (.tup (p.1.map kV)) ∧ RelV p.2 q.2.2) kvs xs ∧
      ∃ o es ep, h.get? a = some o ∧ o.ExactDict ∧ o.data = .dict es ep ∧ es.toList = xs.map (entryOfKey (tupleKind (mixKind P w))) ∧ (xs.map (·.1)).Nodup
  | .set S n => h.SetOf (intKind P w) a S n
  | .ins C dx fs => H dx = some (.own a) ∧ fs.length ≤ 1000 ∧ dx ≠ a ∧ h.get? a = some (PySem.W.instObj C dx) ∧
      ∃ mA, h.Ns1 dx mA ∧ (∀ f, RelO (fs.lookup f) (mA f)) ∧ PySem.Within mA (fs.map (·.1))
  | .own _ => ∃ o, h.get? a = some o
  | .xd fs => ∃ mA, h.Ns1 a mA ∧ ∀ f, RelO (fs.lookup f) (mA f)
  | .rng lo hi => ∃ t u v, h.get? a = some { cls := .type "range", data := .fields #[.int lo t, .int hi u, .int 1 v] }
  | .frz o u => h.get? a = some o ∧ ObjOk H h a u
  | .tbl ps => h.get? a = some { cls := .none, data := .fields ps }
  | .met f x => h.get? a = some (PySem.W.methodObj (.ref f) (.ref x))
  | .ext φ => φ h ∧ (∃ o, h.get? a = some o) ∧ ∀ h1 h2 : Heap, φ h1 → (∀ o, h1.get? a = some o → h2.get? a = some o) → φ h2
/-- the abstract heap is held -/
def HOk (H : Hp) (h : Heap) : Prop := ∀ a o, H a = some o → ObjOk P w H h a o
end

section
variable {P : Program} {w : World} {H H' : Hp} {h h' : Heap} {a : Addr} {o : HO}
theorem ObjOk.lt (x : ObjOk P w H h a o) : a < h.objs.size := by
  cases o with
  | lst xs => obtain ⟨_, _, _, _, e⟩ := x; exact Heap.lt_size e
  | tup xs => obtain ⟨_, _, _, p⟩ := x; exact p.lt
  | dK kvs => obtain ⟨_, _, _, _, o, _, _, e, _⟩ := x; exact Heap.lt_size e
  | dT kvs => obtain ⟨_, _, _, _, o, _, _, e, _⟩ := x; exact Heap.lt_size e
  | set S n => obtain ⟨o, _, _, _, e, _⟩ := x; exact Heap.lt_size e
  | ins C dx fs => obtain ⟨_, _, _, e, _⟩ := x; exact Heap.lt_size e
  | own y => obtain ⟨_, e⟩ := x; exact Heap.lt_size e
  | xd fs => obtain ⟨_, ⟨_, _, _, e, _⟩, _⟩ := x; exact Heap.lt_size e
  | rng lo hi => obtain ⟨_, _, _, e⟩ := x; exact Heap.lt_size e
  | frz ob u => obtain ⟨e, _⟩ := x; exact Heap.lt_size e
  | tbl ps => exact Heap.lt_size (show h.get? a = some _ from x)
  | met f y => exact Heap.lt_size (show h.get? a = some _ from x)
  | ext φ => obtain ⟨_, ⟨_, e⟩, _⟩ := x; exact Heap.lt_size e
theorem Paired.mapP {α β : Type} {F G : α → β → Prop} : ∀ {l₁ : List α} {l₂ : List β}, Paired F l₁ l₂ → (∀ a b, F a b → G a b) → Paired G l₁ l₂
  | _, _, .nil, _ => .nil
  | _, _, .cons r t, f => .cons (f _ _ r) (Paired.mapP t f)
/-- what an object's description leans on: its own object, its own dict, the tuples -/
theorem ObjOk.stay (x : ObjOk P w H h a o) (k : ∀ b u, (b = a ∨ H b = some (.own a)) → h.get? b = some u → h'.get? b = some u)
    (ho : ∀ b, H b = some (.own a) → H' b = some (.own a)) (ht : ∀ b xs, H b = some (.tup xs) → H' b = some (.tup xs)) : ObjOk P w H' h' a o := by
  induction o with
  | lst xs => obtain ⟨z, its, n, r, e⟩ := x; exact ⟨z, its, n, r, k _ _ (.inl rfl) e⟩
  | tup xs => obtain ⟨z, its, r, ob, e, c⟩ := x; exact ⟨z, its, r, ob, k _ _ (.inl rfl) e, c⟩
  | dK kvs => obtain ⟨z, y, vs, r, ob, es, ep, e, c⟩ := x; exact ⟨z, y, vs, r, ob, es, ep, k _ _ (.inl rfl) e, c⟩
  | dT kvs =>
    obtain ⟨z, y, xs, r, ob, es, ep, e, c⟩ := x
    exact ⟨z, y, xs, Paired.mapP r fun p q z => ⟨z.1, ht _ _ z.2.1, z.2.2⟩, ob, es, ep, k _ _ (.inl rfl) e, c⟩
  | set S n => obtain ⟨ob, es, ep, t, e, c⟩ := x; exact ⟨ob, es, ep, t, k _ _ (.inl rfl) e, c⟩
  | ins C dx fs =>
    obtain ⟨d, z, ne, e, mA, ⟨od, es, ep, e2, c⟩, r⟩ := x
    exact ⟨ho _ d, z, ne, k _ _ (.inl rfl) e, mA, ⟨od, es, ep, k _ _ (.inr d) e2, c⟩, r⟩
  | own y => obtain ⟨ob, e⟩ := x; exact ⟨ob, k _ _ (.inl rfl) e⟩
  | xd fs => obtain ⟨mA, ⟨od, es, ep, e, c⟩, r⟩ := x; exact ⟨mA, ⟨od, es, ep, k _ _ (.inl rfl) e, c⟩, r⟩
  | rng lo hi => obtain ⟨t, u, v, e⟩ := x; exact ⟨t, u, v, k _ _ (.inl rfl) e⟩
  | frz ob u ih => obtain ⟨e, q⟩ := x; exact ⟨k _ _ (.inl rfl) e, ih q⟩
  | tbl ps =>
    have e : h.get? a = some { cls := .none, data := .fields ps } := x
    show h'.get? a = some { cls := .none, data := .fields ps }
    exact k a _ (.inl rfl) e
  | met f y =>
    have e : h.get? a = some (PySem.W.methodObj (.ref f) (.ref y)) := x
    show h'.get? a = some (PySem.W.methodObj (.ref f) (.ref y))
    exact k a _ (.inl rfl) e
  | ext φ => obtain ⟨p, ⟨o, e⟩, st⟩ := x; exact ⟨st _ _ p fun o q => k _ _ (.inl rfl) q, ⟨o, k _ _ (.inl rfl) e⟩, st⟩
theorem HOk.lt (x : HOk P w H h) (e : H a = some o) : a < h.objs.size := (x a o e).lt
theorem HOk.fresh (x : HOk P w H h) (e : h.objs.size ≤ a) : H a = none := by
  cases q : H a with
  | none => rfl
  | some u => exact absurd (Nat.lt_of_lt_of_le (x.lt q) e) (Nat.lt_irrefl _)
/-- every object of the heap is kept -/
theorem HOk.kept (x : HOk P w H h) (k : ∀ b u, h.get? b = some u → h'.get? b = some u) : HOk P w H h' := fun a o e =>
  (x a o e).stay (fun b u _ q => k b u q) (fun _ q => q) fun _ _ q => q
/-- a new object is laid and tracked -/
theorem HOk.laid (x : HOk P w H h) (k : ∀ b u, h.get? b = some u → h'.get? b = some u) (hp : h.objs.size ≤ a) (new : ObjOk P w (upd H a o) h' a o) : HOk P w (upd H a o) h' := fun b u e => by
  have hn := x.fresh hp
  by_cases hb : b = a
  · subst hb; rw [upd_same] at e; cases e; exact new
  · rw [upd_ne hb] at e
    exact (x b u e).stay (fun c v _ q => k c v q) (fun c q => by rw [upd_ne (ne_of_none q hn)]; exact q) fun c xs q => by rw [upd_ne (ne_of_none q hn)]; exact q
end

/-- what may be read as u: it is u, or a known u -/
def Rd (H : Hp) (a : Addr) (u : HO) : Prop := H a = some u ∨ ∃ o, H a = some (.frz o u)
theorem Rd.of {H : Hp} {a : Addr} {u : HO} (h : H a = some u) : Rd H a u := .inl h
theorem Rd.ok {P : Program} {w : World} {H : Hp} {h : Heap} {a : Addr} {u : HO} (r : Rd H a u) (x : HOk P w H h) : ObjOk P w H h a u := by
  rcases r with r | ⟨o, r⟩
  · exact x a u r
  · obtain ⟨_, q⟩ := x a _ r
    exact q
/-- what may be written -/
def Mut : Option HO → Prop
  | some (.lst _) => True
  | some (.dK _) => True
  | some (.dT _) => True
  | some (.set _ _) => True
  | some (.ins _ _ _) => True
  | some (.ext _) => True
  | _ => False
section
variable {P : Program} {w : World} {H : Hp} {h h' : Heap} {x e : Addr} {o' : HO}
/-- the object at e is changed: x itself, or the dict of the instance x -/
theorem HOk.write (ok : HOk P w H h) (mu : Mut (H x)) (he : e = x ∨ H e = some (.own x)) (k : ∀ b u, b ≠ e → h.get? b = some u → h'.get? b = some u) (heo : ∃ u, h'.get? e = some u)
    (new : ObjOk P w (upd H x o') h' x o') : HOk P w (upd H x o') h' := fun b u q => by
  have nown : ∀ c y, H c = some (.own y) → c ≠ x := fun c y r z => by subst z; rw [r] at mu; exact mu
  have ntup : ∀ c xs, H c = some (.tup xs) → c ≠ x := fun c xs r z => by subst z; rw [r] at mu; exact mu
  by_cases hb : b = x
  · subst hb; rw [upd_same] at q; cases q; exact new
  · rw [upd_ne hb] at q
    by_cases hbe : b = e
    · have q' : H b = some (.own x) := by
        rcases he with z | z
        · exact absurd (hbe.trans z) hb
        · rw [hbe]; exact z
      rw [q] at q'; cases q'
      obtain ⟨v, hv⟩ := heo
      exact ⟨v, by rw [hbe]; exact hv⟩
    · refine (ok b u q).stay (fun c v hc r => k c v ?_ r) (fun c r => by rw [upd_ne (nown c b r)]; exact r) fun c xs r => by rw [upd_ne (ntup c xs r)]; exact r
      rcases hc with rfl | hc
      · exact hbe
      · rintro rfl
        rcases he with z | z
        · exact nown c b hc z
        · rw [hc] at z; cases z; exact hb rfl
end

structure Un (fs ex : List Addr) (H H' : Hp) (h h' : Heap) : Prop where
  keep : ∀ b o, h.get? b = some o → H b = none → b ∉ fs → b ∉ ex → h'.get? b = some o
  slot : ∀ b o, h.get? b = some o → H b = none → b ∈ fs → b ∉ ex → ∃ sl, h'.get? b = some { o with slots := sl }
  free : ∀ b o, h.get? b = some o → H b = none → b ∉ ex → H' b = none
  there : ∀ b o, h.get? b = some o → b ∉ ex → ∃ o', h'.get? b = some o'
  tups : ∀ b xs, H b = some (.tup xs) → H' b = some (.tup xs)
  frzs : ∀ b o u, H b = some (.frz o u) → H' b = some (.frz o u)
  tbls : ∀ b ps, H b = some (.tbl ps) → ∃ more, H' b = some (.tbl (ps ++ more))
section
variable {fs fs' ex ex' : List Addr} {H H1 H2 : Hp} {h h1 h2 h' : Heap} {a x e : Addr} {o : HO}
theorem Un.any (u : Un fs ex H H1 h h1) {b : Addr} {ob : Obj} (q : h.get? b = some ob) (n : H b = none) (hx : b ∉ ex) : ∃ sl, h1.get? b = some { ob with slots := sl } := by
  by_cases hb : b ∈ fs
  · exact u.slot b ob q n hb hx
  · exact ⟨ob.slots, u.keep b ob q n hb hx⟩
theorem Un.trans (a : Un fs ex H H1 h h1) (b : Un fs ex H1 H2 h1 h2) : Un fs ex H H2 h h2 where
  keep := fun c ob q n hc hx => b.keep c ob (a.keep c ob q n hc hx) (a.free c ob q n hx) hc hx
  slot := fun c ob q n hc hx => by
    obtain ⟨sl, e1⟩ := a.slot c ob q n hc hx
    obtain ⟨sl', e2⟩ := b.slot c _ e1 (a.free c ob q n hx) hc hx
    exact ⟨sl', e2⟩
  free := fun c ob q n hx => by
    obtain ⟨o', e1⟩ := a.there c ob q hx
    exact b.free c o' e1 (a.free c ob q n hx) hx
  there := fun c ob q hx => by
    obtain ⟨o', e1⟩ := a.there c ob q hx
    exact b.there c o' e1 hx
  tups := fun c xs q => b.tups c xs (a.tups c xs q)
  frzs := fun c ob xs q => b.frzs c ob xs (a.frzs c ob xs q)
  tbls := fun c ps q => by
    obtain ⟨m1, e1⟩ := a.tbls c ps q
    obtain ⟨m2, e2⟩ := b.tbls c _ e1
    exact ⟨m1 ++ m2, by rw [e2, Array.append_assoc]⟩
theorem Un.kept (k : ∀ b u, h.get? b = some u → h'.get? b = some u) : Un fs ex H H h h' :=
  ⟨fun b ob q _ _ _ => k b ob q, fun b ob q _ _ _ => ⟨ob.slots, k b ob q⟩, fun _ _ _ n _ => n, fun b ob q _ => ⟨ob, k b ob q⟩, fun _ _ q => q, fun _ _ _ q => q, fun _ ps q => ⟨#[], by rw [q]; simp⟩⟩
theorem Un.refl : Un fs ex H H h h := Un.kept fun _ _ q => q
theorem Un.laid (k : ∀ b u, h.get? b = some u → h'.get? b = some u) (hp : h.objs.size ≤ a) (hn : H a = none) : Un fs ex H (upd H a o) h h' where
  keep := fun b u q _ _ _ => k b u q
  slot := fun b u q _ _ _ => ⟨u.slots, k b u q⟩
  free := fun b u q n _ => by rw [upd_ne (Nat.ne_of_lt (Nat.lt_of_lt_of_le (Heap.lt_size q) hp))]; exact n
  there := fun b u q _ => ⟨u, k b u q⟩
  tups := fun b xs q => by rw [upd_ne (ne_of_none q hn)]; exact q
  frzs := fun b u xs q => by rw [upd_ne (ne_of_none q hn)]; exact q
  tbls := fun b ps q => ⟨#[], by rw [upd_ne (ne_of_none q hn), q]; simp⟩
theorem Un.write (mu : Mut (H x)) (he : e = x ∨ H e = some (.own x)) (k : ∀ b u, b ≠ e → h.get? b = some u → h'.get? b = some u) (heo : ∃ u, h'.get? e = some u) : Un fs ex H (upd H x o) h h' := by
  have hx : ∀ b, H b = none → b ≠ x := fun b n z => by subst z; rw [n] at mu; exact mu
  have hb : ∀ b, H b = none → b ≠ e := fun b n z => by
    subst z
    rcases he with r | r
    · exact hx b n r
    · rw [n] at r; cases r
  have hm : ∀ b u, H b = some u → ¬ Mut (some u) → b ≠ x := fun b u q nm z => by subst z; rw [q] at mu; exact nm mu
  refine ⟨fun b u q n _ _ => k b u (hb b n) q, fun b u q n _ _ => ⟨u.slots, k b u (hb b n) q⟩, fun b u q n _ => by rw [upd_ne (hx b n)]; exact n, fun b u q _ => ?_,
    fun b xs q => by rw [upd_ne (hm b _ q fun z => z)]; exact q, fun b u xs q => by rw [upd_ne (hm b _ q fun z => z)]; exact q, fun b ps q => ⟨#[], by rw [upd_ne (hm b _ q fun z => z), q]; simp⟩⟩
  by_cases hbe : b = e
  · subst hbe; exact heo
  · exact ⟨u, k b u hbe q⟩
theorem Un.mono (u : Un fs ex H H1 h h1) (hs : ∀ b ∈ fs, b ∈ fs') (hx : ∀ b ∈ ex, b ∈ ex') : Un fs' ex' H H1 h h1 :=
  ⟨fun b ob q n hb he => u.keep b ob q n (fun z => hb (hs b z)) fun z => he (hx b z), fun _ _ q n _ he => u.any q n fun z => he (hx _ z), fun b ob q n he => u.free b ob q n fun z => he (hx b z), fun b ob q he => u.there b ob q fun z => he (hx b z), u.tups, u.frzs, u.tbls⟩
end

def trk (h : Heap) (H : Hp) : List Addr := (List.range h.objs.size).filter fun a => (H a).isSome
def hidT (h : Heap) (H : Hp) : Heap := PySem.W.hideAll h (trk h H)
theorem hidT_size (h : Heap) (H : Hp) : (hidT h H).objs.size = h.objs.size := PySem.W.hideAll_size _ _
theorem hidT_get {h : Heap} {H : Hp} {b : Addr} {o : Obj} (e : h.get? b = some o) (n : H b = none) : (hidT h H).get? b = some o :=
  PySem.W.hideAll_get _ e fun hm => by
    have q : (H b).isSome = true := (List.mem_filter.mp hm).2
    rw [n] at q; simp at q
theorem of_hidT {h : Heap} {H : Hp} {b : Addr} {o : Obj} (e : (hidT h H).get? b = some o) : h.get? b = some o ∧ H b = none := by
  have e' : h.get? b = some o := PySem.W.of_hideAll (trk h H) e
  refine ⟨e', ?_⟩
  cases q : H b with
  | none => rfl
  | some x =>
    have hm : b ∈ trk h H := List.mem_filter.mpr ⟨List.mem_range.mpr (Heap.lt_size e'), by simp [q]⟩
    have z : (hidT h H).get? b = none := PySem.W.hideAll_none (trk h H) hm
    rw [z] at e; cases e

def allNews (g h : Heap) (L : Addr) : List (Addr × Obj) := (List.range h.objs.size).filterMap fun a => if a = L ∨ (g.get? a).isSome = true then none else (h.get? a).map fun o => (a, o)
def rest (g h : Heap) (L d : Addr) : List (Addr × Obj) := (allNews g h L).filter fun p => decide (p.1 ≠ d)
end L2

namespace L2
open PySem PySem.Spec PyProof.Rows

/-- the module's facts, over the base: the heap at the law's entry without what is tracked there -/
structure Mod (K : PySem.W.Frag) (mg : Str → Option Value) (base : Heap) : Prop where
  kin : K.In base
  glob : base.Ns mainGlobals mg
  blt : ∃ mb, base.Ns builtinsNs mb ∧ ∀ x : Str, x ≠ "__name__" → mb x = bootBuiltins x
  nolimit : base.NoLimit

/-- the context: a def's body (or a comprehension's block) running. base: fixed through the whole law; s₀, H₀: the entry; outer: the frames whose slots others may change (a def's callers); stack: all frames that run;
   ex: iterators that were made ahead of the entry and are walked here (a comprehension's); fn: the names whose cells were made at the entry (a def: all; a comprehension's block: its own); calm: not within an except suite; pn: pins that every state bears; xe: what is wanted of an exception that leaves the code -/
structure Cx where
  prog : Program
  w : World
  K : PySem.W.Frag
  mg : Str → Option Value
  base : Heap
  A : Around
  N : List Str
  s₀ : Shared
  H₀ : Hp
  env : Env
  outer : List Env
  stack : List Env
  ex : List Addr
  fn : Str → Bool
  calm : Bool
  pn : List (Addr × Obj)
  xe : Value → Shared → Prop
/-- the callers' frames -/
def frs (l : List Env) : List Addr := l.filterMap (·.frame)
abbrev Cx.fs (X : Cx) : List Addr := frs X.outer

def Vis (sc : Scope) (x : Str) : Prop := sc.names.lookup x = some .local ∨ sc.names.lookup x = some .cell ∨ sc.names.lookup x = some .free
def Loc (sc : Scope) (x : Str) : Prop := sc.names.lookup x = some .local ∨ sc.names.lookup x = some .cell
def Look (env : Env) (h : Heap) (m : Str → Option Value) (x : Str) (u : Value) : Prop :=
  (env.kindOf x = some .local ∧ m x = some u) ∨ ((env.kindOf x = some .cell ∨ env.kindOf x = some .free) ∧ ∃ c, env.cells.lookup x = some c ∧ h.IsCell c (some u))

structure Cx.Ok (X : Cx) : Prop where
  mod : Mod X.K X.mg X.base
  kind : X.env.scope.kind = .function
  glob : X.env.globals = mainGlobals
  blt : X.env.builtins = builtinsNs
  above : X.s₀.heap.objs.size ≤ X.env.locals
  inj : ∀ x y c, X.env.cells.lookup x = some c → X.env.cells.lookup y = some c → x = y
  has : ∀ x, (X.env.kindOf x = some .cell ∨ X.env.kindOf x = some .free) → ∃ c, X.env.cells.lookup x = some c
  cab : ∀ x c, X.fn x = true → X.env.cells.lookup x = some c → X.s₀.heap.objs.size ≤ c
  hd : X.calm = true → X.A.handled = none
  frames : X.A.frames = some X.stack
  stk : X.stack = X.outer ∨ (X.stack = X.env :: X.outer ∧ X.env.frame = some X.env.locals)
  exf : ∀ b ∈ X.ex, b ≠ X.env.locals ∧ ∀ x c, X.env.cells.lookup x = some c → c ≠ b
  bs : ∀ b o, X.base.get? b = some o → X.s₀.heap.get? b = some o ∧ X.H₀ b = none
  bsz : X.base.objs.size ≤ X.s₀.heap.objs.size
  noex : ∀ b o, X.base.get? b = some o → b ∉ X.ex
  exfs : ∀ b ∈ X.ex, b ∉ X.fs
  funs : X.s₀.heap.FunFrames X.base X.outer
  frf : ∀ b ∈ X.fs, X.H₀ b = none

structure Inv (X : Cx) (pins : List (Addr × Obj)) (σ : List (Option V)) (H : Hp) (s : Shared) : Prop where
  ok : X.Ok
  os : s.os = X.s₀.os
  bare : AllBare s.gens
  base : Un X.fs X.ex X.H₀ H X.s₀.heap s.heap
  loc : ∃ m, s.heap.Ns X.env.locals m ∧ ∀ (i : Nat) (x : Str) (v : V), X.N[i]? = some x → σ[i]? = some (some v) → Vis X.env.scope x → ∃ u, RelV v u ∧ Look X.env s.heap m x u
  cell : ∀ x c, X.env.cells.lookup x = some c → ∃ v, s.heap.IsCell c v
  free : H X.env.locals = none
  freeC : ∀ x c, X.env.cells.lookup x = some c → H c = none
  pin : ∀ p ∈ X.pn ++ pins, s.heap.get? p.1 = some p.2 ∧ H p.1 = none ∧ p.1 ≠ X.env.locals ∧ p.1 ∉ X.fs ∧ ∀ v, p.2.data ≠ .cell v
  hok : HOk X.prog X.w H s.heap
  len : σ.length = X.N.length

section
variable {X : Cx} {pins : List (Addr × Obj)} {σ : List (Option V)} {H H' : Hp} {s : Shared} {h' : Heap}

theorem Cx.Ok.nofr (ok : X.Ok) {b : Addr} {o : Obj} (e : X.base.get? b = some o) : b ∉ X.fs := fun hb => by
  have := (ok.funs.mem hb).1
  rw [e] at this; cases this
theorem Inv.bs (I : Inv X pins σ H s) : ∀ b o, X.base.get? b = some o → s.heap.get? b = some o ∧ H b = none := fun b o e =>
  ⟨I.base.keep b o (I.ok.bs b o e).1 (I.ok.bs b o e).2 (I.ok.nofr e) (I.ok.noex b o e), I.base.free b o (I.ok.bs b o e).1 (I.ok.bs b o e).2 (I.ok.noex b o e)⟩
theorem Inv.bk (I : Inv X pins σ H s) : ∀ b o, X.base.get? b = some o → s.heap.get? b = some o := fun b o e => (I.bs b o e).1
theorem Inv.mod (I : Inv X pins σ H s) : Mod X.K X.mg X.base := I.ok.mod
theorem Inv.kIn (I : Inv X pins σ H s) : X.K.In s.heap := I.ok.mod.kin.keeps I.bk
theorem Inv.nolimit (I : Inv X pins σ H s) : s.heap.NoLimit := I.ok.mod.nolimit.keeps I.bk
/-- the frame over the base: for OpenK's rules (K.In X.base is I.mod.kin) -/
theorem Inv.fr (I : Inv X pins σ H s) : ∃ m, Fr X.base X.env.locals s.heap m :=
  let ⟨m, hn, _⟩ := I.loc
  ⟨m, hn, I.bk, Nat.le_trans I.ok.bsz I.ok.above⟩
theorem Inv.lt (I : Inv X pins σ H s) : X.env.locals < s.heap.objs.size := let ⟨_, hn, _⟩ := I.loc; hn.lt
theorem Inv.sz (I : Inv X pins σ H s) : X.s₀.heap.objs.size ≤ s.heap.objs.size := Nat.le_trans I.ok.above (Nat.le_of_lt I.lt)
theorem Inv.nofs (I : Inv X pins σ H s) {a : Addr} (h : s.heap.objs.size ≤ a) : a ∉ X.fs := fun hb => by
  obtain ⟨_, o, ho, _⟩ := I.ok.funs.mem hb
  exact absurd (Nat.lt_of_lt_of_le (Heap.lt_size ho) (Nat.le_trans I.sz h)) (Nat.lt_irrefl _)
theorem Inv.cne (I : Inv X pins σ H s) : ∀ x c, X.env.cells.lookup x = some c → c ≠ X.env.locals := fun x c e z => by
  obtain ⟨v, o, ho, hd⟩ := I.cell x c e
  obtain ⟨m, ⟨o', es, ep, ho', hd', _⟩, _⟩ := I.loc
  rw [z, ho'] at ho; cases ho; rw [hd'] at hd; cases hd
theorem Inv.funs (I : Inv X pins σ H s) : s.heap.FunFrames X.base X.outer := by
  have all : ∀ (l : List Env), (∀ b ∈ frs l, b ∈ X.fs) → X.s₀.heap.FunFrames X.base l → s.heap.FunFrames X.base l := by
    intro l
    induction l with
    | nil => intro _ _; trivial
    | cons env r ih =>
      intro hs hl
      obtain ⟨hk, ⟨L, o, hf, hn, ho, hd⟩, hr⟩ := hl
      have hL : L ∈ X.fs := hs L (by unfold frs; rw [List.filterMap_cons, hf]; exact List.mem_cons_self)
      obtain ⟨sl, e⟩ := I.base.slot L o ho (I.ok.frf L hL) hL fun z => I.ok.exfs L z hL
      exact ⟨hk, ⟨L, _, hf, hn, e, hd⟩, ih (fun b hb => hs b (by unfold frs; rw [List.filterMap_cons, hf]; exact List.mem_cons_of_mem _ hb)) hr⟩
  exact all X.outer (fun _ hb => hb) I.ok.funs

/-- the frames that run, for a call -/
theorem Inv.stack (I : Inv X pins σ H s) : s.heap.FunFrames X.base X.stack := by
  rcases I.ok.stk with e | ⟨e, hf⟩
  · rw [e]; exact I.funs
  · rw [e]
    obtain ⟨m, hn, _⟩ := I.loc
    refine .cons (by rw [I.ok.kind]; decide) hf hn ?_ I.funs
    exact Heap.get?_none_of_le (Nat.le_trans I.ok.bsz I.ok.above)
theorem Inv.stkSub (I : Inv X pins σ H s) : ∀ b ∈ frs X.stack, b ∈ X.env.locals :: X.fs := fun b hb => by
  rcases I.ok.stk with e | ⟨e, hf⟩
  · rw [e] at hb; exact List.mem_cons_of_mem _ hb
  · rw [e] at hb
    unfold frs at hb
    rw [List.filterMap_cons, hf] at hb
    exact hb
theorem Inv.stkFree (I : Inv X pins σ H s) : ∀ b ∈ frs X.stack, H b = none := fun b hb => by
  rcases List.mem_cons.mp (I.stkSub b hb) with e | hb
  · rw [e]; exact I.free
  · obtain ⟨_, o, ho, _⟩ := I.ok.funs.mem hb
    exact I.base.free b o ho (I.ok.frf b hb) fun z => I.ok.exfs b z hb

/-- THE STEP: the untracked objects but the frame and the records at ch are kept (the callers' frames up to slots), the frame's map is kept, the new abstract heap is held -/
theorem Inv.step {g' : Array GenState} {t' : Nat} {d' : Drawn} {ch : List Addr} (I : Inv X pins σ H s)
    (hch : ∀ b ∈ ch, (b ∈ X.ex ∨ X.s₀.heap.objs.size ≤ b) ∧ b ≠ X.env.locals ∧ (∀ x c, X.env.cells.lookup x = some c → c ≠ b) ∧ ∀ p ∈ X.pn ++ pins, p.1 ≠ b)
    (keep : ∀ b o, b ≠ X.env.locals → b ∉ X.fs → b ∉ ch → s.heap.get? b = some o → H b = none → h'.get? b = some o)
    (slot : ∀ b o, b ≠ X.env.locals → b ∈ X.fs → b ∉ ch → s.heap.get? b = some o → H b = none → ∃ sl, h'.get? b = some { o with slots := sl }) (free : ∀ b o, b ∉ ch → s.heap.get? b = some o → H b = none → H' b = none)
    (there : ∀ b o, b ∉ ch → s.heap.get? b = some o → ∃ o', h'.get? b = some o')
    (tups : ∀ b xs, H b = some (.tup xs) → H' b = some (.tup xs)) (frzs : ∀ b o u, H b = some (.frz o u) → H' b = some (.frz o u)) (tbls : ∀ b ps, H b = some (.tbl ps) → ∃ more, H' b = some (.tbl (ps ++ more)))
    (ns : ∀ m, s.heap.Ns X.env.locals m → h'.Ns X.env.locals m) (hok : HOk X.prog X.w H' h') (hg : AllBare g') :
    Inv X pins σ H' { s with heap := h', gens := g', drawn := d', toks := t' } := by
  have neL : ∀ b o, X.s₀.heap.get? b = some o → b ≠ X.env.locals := fun b o e => Nat.ne_of_lt (Nat.lt_of_lt_of_le (Heap.lt_size e) I.ok.above)
  have neC : ∀ b o, X.s₀.heap.get? b = some o → b ∉ X.ex → b ∉ ch := fun b o e hx hb => by
    rcases (hch b hb).1 with z | z
    · exact hx z
    · exact absurd (Nat.lt_of_lt_of_le (Heap.lt_size e) z) (Nat.lt_irrefl _)
  have cellK : ∀ x c, X.env.cells.lookup x = some c → ∀ v, s.heap.IsCell c v → h'.IsCell c v := fun x c e v ⟨o, ho, hd⟩ => by
    have nch : c ∉ ch := fun z => (hch c z).2.2.1 x c e rfl
    by_cases hc : c ∈ X.fs
    · obtain ⟨sl, q⟩ := slot c o (I.cne x c e) hc nch ho (I.freeC x c e)
      exact ⟨_, q, hd⟩
    · exact ⟨o, keep c o (I.cne x c e) hc nch ho (I.freeC x c e), hd⟩
  refine ⟨I.ok, I.os, hg, ⟨fun b o e n hb hx => ?_, fun b o e n hb hx => ?_, fun b o e n hx => ?_, fun b o e hx => ?_, fun b xs e => tups b xs (I.base.tups b xs e), fun b o xs e => frzs b o xs (I.base.frzs b o xs e), fun b ps e => ?_⟩, ?_, fun x c e => ?_, ?_, fun x c e => ?_, fun p hp => ?_, hok, I.len⟩
  · exact keep b o (neL b o e) hb (neC b o e hx) (I.base.keep b o e n hb hx) (I.base.free b o e n hx)
  · obtain ⟨sl, e1⟩ := I.base.slot b o e n hb hx
    obtain ⟨sl', e2⟩ := slot b _ (neL b o e) hb (neC b o e hx) e1 (I.base.free b o e n hx)
    exact ⟨sl', e2⟩
  · obtain ⟨o', e1⟩ := I.base.there b o e hx
    exact free b o' (neC b o e hx) e1 (I.base.free b o e n hx)
  · obtain ⟨o', e1⟩ := I.base.there b o e hx
    exact there b o' (neC b o e hx) e1
  · obtain ⟨m1, e1⟩ := I.base.tbls b ps e
    obtain ⟨m2, e2⟩ := tbls b _ e1
    exact ⟨m1 ++ m2, by rw [e2, Array.append_assoc]⟩
  · obtain ⟨m, hn, hl⟩ := I.loc
    refine ⟨m, ns m hn, fun i x v e1 e2 e3 => ?_⟩
    obtain ⟨u, r, l⟩ := hl i x v e1 e2 e3
    refine ⟨u, r, ?_⟩
    rcases l with l | ⟨k, c, e, z⟩
    · exact .inl l
    · exact .inr ⟨k, c, e, cellK x c e _ z⟩
  · obtain ⟨v, z⟩ := I.cell x c e
    exact ⟨v, cellK x c e v z⟩
  · obtain ⟨m, ⟨o, _, _, ho, _⟩, _⟩ := I.loc
    exact free _ o (fun z => (hch _ z).2.1 rfl) ho I.free
  · obtain ⟨v, o, ho, hd⟩ := I.cell x c e
    exact free c o (fun z => (hch c z).2.2.1 x c e rfl) ho (I.freeC x c e)
  · obtain ⟨e, n, ne, nf, d⟩ := I.pin p hp
    have nch : p.1 ∉ ch := fun z => (hch p.1 z).2.2.2 p hp rfl
    exact ⟨keep p.1 p.2 ne nf nch e n, free p.1 p.2 nch e n, ne, nf, d⟩
/-- .. where the frame's own object is kept too -/
theorem Inv.un {t' : Nat} (I : Inv X pins σ H s) (u : Un X.fs [] H H' s.heap h') (hok : HOk X.prog X.w H' h') : Inv X pins σ H' { s with heap := h', toks := t' } := by
  obtain ⟨m, ⟨o, es, ep, ho, r⟩, _⟩ := id I.loc
  obtain ⟨sl, hL⟩ := u.any ho I.free (by simp)
  exact I.step (g' := s.gens) (d' := s.drawn) (ch := []) (fun _ z => nomatch z) (fun b o _ hb _ e n => u.keep b o e n hb (by simp)) (fun b o _ hb _ e n => u.slot b o e n hb (by simp)) (fun b o _ e n => u.free b o e n (by simp)) (fun b o _ e => u.there b o e (by simp)) u.tups u.frzs u.tbls (fun m' hm => by
    obtain ⟨o', es', ep', ho', r'⟩ := hm
    rw [ho] at ho'; cases ho'
    exact ⟨_, es', ep', hL, r'⟩) hok I.bare
/-- behind a call (or a comprehension's block): the slots of this frame may have changed too, the records at ch may have turned -/
theorem Inv.call {g' : Array GenState} {t' : Nat} {d' : Drawn} {ch : List Addr} (I : Inv X pins σ H s) (u : Un (frs X.stack) ch H H' s.heap h') (hok : HOk X.prog X.w H' h') (hg : AllBare g')
    (hch : ∀ b ∈ ch, (b ∈ X.ex ∨ X.s₀.heap.objs.size ≤ b) ∧ b ≠ X.env.locals ∧ (∀ x c, X.env.cells.lookup x = some c → c ≠ b) ∧ ∀ p ∈ X.pn ++ pins, p.1 ≠ b) :
    Inv X pins σ H' { s with heap := h', gens := g', drawn := d', toks := t' } := by
  obtain ⟨m, ⟨o, es, ep, ho, r⟩, _⟩ := id I.loc
  obtain ⟨sl, hL⟩ := u.any ho I.free fun z => (hch _ z).2.1 rfl
  exact I.step (ch := ch) hch (fun b o hL hb hc e n => u.keep b o e n (fun z => (List.mem_cons.mp (I.stkSub b z)).elim hL hb) hc) (fun b o _ _ hc e n => u.any e n hc) (fun b o hc e n => u.free b o e n hc) (fun b o hc e => u.there b o e hc) u.tups u.frzs u.tbls (fun m' hm => by
    obtain ⟨o', es', ep', ho', r'⟩ := hm
    rw [ho] at ho'; cases ho'
    exact ⟨_, es', ep', hL, r'⟩) hok hg
/-- an untracked record of ours (an iterator) has turned -/
theorem Inv.turned {t' : Nat} {it : Addr} (I : Inv X pins σ H s) (k : ∀ b o, b ≠ it → s.heap.get? b = some o → h'.get? b = some o) (hn : H it = none) (hL : it ≠ X.env.locals)
    (h1 : it ∈ X.ex ∨ X.s₀.heap.objs.size ≤ it) (h2 : ∀ x c, X.env.cells.lookup x = some c → c ≠ it) (h3 : ∀ p ∈ X.pn ++ pins, p.1 ≠ it) : Inv X pins σ H { s with heap := h', toks := t' } := by
  have nit : ∀ b u, H b = some u → b ≠ it := fun b u e z => by rw [z, hn] at e; cases e
  refine I.step (g' := s.gens) (d' := s.drawn) (ch := [it]) (fun b hb => ?_) (fun b o _ _ hc e _ => k b o (fun z => hc (by simp [z])) e) (fun b o _ _ hc e _ => ⟨o.slots, k b o (fun z => hc (by simp [z])) e⟩) (fun _ _ _ _ n => n)
    (fun b o hc e => ⟨o, k b o (fun z => hc (by simp [z])) e⟩) (fun _ _ e => e) (fun _ _ _ e => e) (fun b ps e => ⟨#[], by rw [e]; simp⟩) (fun m hm => ?_) (fun b u e => ?_) I.bare
  · have e : b = it := by simpa using hb
    subst e
    exact ⟨h1, hL, h2, h3⟩
  · obtain ⟨o, es, ep, ho, r⟩ := hm
    exact ⟨o, es, ep, k _ o (Ne.symm hL) ho, r⟩
  · refine (I.hok b u e).stay (fun c v hc q => k c v ?_ q) (fun _ q => q) fun _ _ q => q
    rcases hc with z | z
    · rw [z]; exact nit b u e
    · exact nit c _ z
theorem Inv.tok (I : Inv X pins σ H s) (t : Nat) : Inv X pins σ H { s with toks := t } := I.un (h' := s.heap) (t' := t) Un.refl I.hok
/-- all objects kept -/
theorem Inv.kept {t' : Nat} (I : Inv X pins σ H s) (k : ∀ b u, s.heap.get? b = some u → h'.get? b = some u) : Inv X pins σ H { s with heap := h', toks := t' } := I.un (Un.kept k) (I.hok.kept k)
/-- a new object laid and tracked -/
theorem Inv.laid {a : Addr} {o : HO} {t' : Nat} (I : Inv X pins σ H s) (k : ∀ b u, s.heap.get? b = some u → h'.get? b = some u) (hp : s.heap.objs.size ≤ a) (new : ObjOk X.prog X.w (upd H a o) h' a o) :
    Inv X pins σ (upd H a o) { s with heap := h', toks := t' } := I.un (Un.laid k hp (I.hok.fresh hp)) (I.hok.laid k hp new)
/-- an object written -/
theorem Inv.write {x e : Addr} {o : HO} {t' : Nat} (I : Inv X pins σ H s) (mu : Mut (H x)) (he : e = x ∨ H e = some (.own x)) (k : ∀ b u, b ≠ e → s.heap.get? b = some u → h'.get? b = some u) (heo : ∃ u, h'.get? e = some u)
    (new : ObjOk X.prog X.w (upd H x o) h' x o) : Inv X pins σ (upd H x o) { s with heap := h', toks := t' } := I.un (Un.write mu he k heo) (I.hok.write mu he k heo new)
/-- forgetting slots, pins -/
theorem Inv.weak {σ' : List (Option V)} (I : Inv X pins σ H s) (hl : σ'.length = σ.length) (w : ∀ (i : Nat) v, σ'[i]? = some (some v) → σ[i]? = some (some v)) : Inv X pins σ' H s :=
  ⟨I.ok, I.os, I.bare, I.base, let ⟨m, hn, hl'⟩ := I.loc; ⟨m, hn, fun i x v e1 e2 e3 => hl' i x v e1 (w i v e2) e3⟩, I.cell, I.free, I.freeC, I.pin, I.hok, hl.trans I.len⟩
theorem Inv.pins_of {pins' : List (Addr × Obj)} (I : Inv X pins σ H s) (h : ∀ p ∈ pins', s.heap.get? p.1 = some p.2 ∧ H p.1 = none ∧ p.1 ≠ X.env.locals ∧ p.1 ∉ X.fs ∧ ∀ v, p.2.data ≠ .cell v) : Inv X pins' σ H s :=
  ⟨I.ok, I.os, I.bare, I.base, I.loc, I.cell, I.free, I.freeC, fun p hp => (List.mem_append.mp hp).elim (fun z => I.pin p (List.mem_append_left _ z)) (h p), I.hok, I.len⟩

theorem nodup_ix {N : List Str} (hN : N.Nodup) {i j : Nat} {x : Str} (a : N[i]? = some x) (b : N[j]? = some x) : i = j := by
  obtain ⟨h1, e1⟩ := List.getElem?_eq_some_iff.mp a
  obtain ⟨h2, e2⟩ := List.getElem?_eq_some_iff.mp b
  exact (List.getElem_inj hN).mp (e1.trans e2.symm)

/-- a name is stored; what changed -/
theorem store_ok2 {M : Model} {A : Around} {E : Value → Shared → Prop} {i : Nat} {x : Str} {v : V} {u : Value} {Q : Unit → Shared → Prop} (I : Inv X pins σ H s) (hN : X.N.Nodup) (hi : X.N[i]? = some x) (hx : Loc X.env.scope x) (r : RelV v u)
    (h : ∀ s', Inv X pins (σ.set i (some v)) H s' → (∃ a, Heap.SameBut a s.heap s'.heap ∧ (a = X.env.locals ∨ X.env.cells.lookup x = some a)) → Q () s') (hf : X.fn x = true ∨ X.env.scope.names.lookup x = some .local := by first | exact .inl rfl | exact .inr rfl | assumption) : wpAny M A (storeName X.env x u) Q E s := by
  obtain ⟨m, hn, hl⟩ := id I.loc
  have hcls : (X.env.scope.kind == .class || (X.env.scope.kind == .module && X.env.locals != X.env.globals)) = false := by rw [I.ok.kind]; rfl
  have hiσ : i < σ.length := by rw [I.len]; exact (List.getElem?_eq_some_iff.mp hi).1
  have cne := I.cne
  have tracked : ∀ {a : Addr} {h' : Heap}, (∃ o, s.heap.get? a = some o ∧ H a = none) → Heap.SameBut a s.heap h' → HOk X.prog X.w H h' := fun {a h'} ha hs b ob e => by
    obtain ⟨_, _, hfree⟩ := ha
    refine (I.hok b ob e).stay (fun c w' hc q => (hs.2 c ?_).trans q) (fun _ q => q) fun _ _ q => q
    rintro rfl
    rcases hc with rfl | hc
    · rw [hfree] at e; cases e
    · rw [hfree] at hc; cases hc
  rcases hx with hk | hk
  · refine wpAny_storeName_local hk hn (fun h' hn' hs => ?_) hcls
    obtain ⟨oL, _, _, hoL, _⟩ := id hn
    refine h _ ⟨I.ok, I.os, I.bare, ⟨fun b o e n hb hx => ?_, fun b o e n hb hx => ?_, I.base.free, fun b o e hx => ?_, I.base.tups, I.base.frzs, I.base.tbls⟩, ⟨_, hn', fun j y v' e1 e2 e3 => ?_⟩, fun y c e => ?_, I.free, I.freeC, fun p hp => ?_, tracked ⟨oL, hoL, I.free⟩ hs, by simpa using I.len⟩ ⟨_, hs, .inl rfl⟩
    · exact (hs.2 b (Nat.ne_of_lt (Nat.lt_of_lt_of_le (Heap.lt_size e) I.ok.above))).trans (I.base.keep b o e n hb hx)
    · obtain ⟨sl, e1⟩ := I.base.slot b o e n hb hx
      exact ⟨sl, (hs.2 b (Nat.ne_of_lt (Nat.lt_of_lt_of_le (Heap.lt_size e) I.ok.above))).trans e1⟩
    · obtain ⟨o', e1⟩ := I.base.there b o e hx
      exact ⟨o', (hs.2 b (Nat.ne_of_lt (Nat.lt_of_lt_of_le (Heap.lt_size e) I.ok.above))).trans e1⟩
    · by_cases hj : j = i
      · subst hj
        rw [hi] at e1; cases e1
        rw [List.getElem?_set_self hiσ] at e2
        cases e2
        exact ⟨u, r, .inl ⟨hk, by simp⟩⟩
      · rw [List.getElem?_set_ne (Ne.symm hj)] at e2
        obtain ⟨u', r', q⟩ := hl j y v' e1 e2 e3
        refine ⟨u', r', ?_⟩
        rcases q with ⟨k, e⟩ | ⟨k, c, e, z⟩
        · refine .inl ⟨k, ?_⟩
          have : y ≠ x := fun e => hj (nodup_ix hN e1 (e ▸ hi))
          simp [this, e]
        · exact .inr ⟨k, c, e, z.sameBut hs (cne y c e)⟩
    · obtain ⟨w', z⟩ := I.cell y c e
      exact ⟨w', z.sameBut hs (cne y c e)⟩
    · obtain ⟨e, n, ne, nf, d⟩ := I.pin p hp
      exact ⟨(hs.2 p.1 ne).trans e, n, ne, nf, d⟩
  · have hfn : X.fn x = true := by
      rcases hf with z | z
      · exact z
      · rw [z] at hk; cases hk
    obtain ⟨c, hc⟩ := I.ok.has x (.inl hk)
    obtain ⟨w', z⟩ := I.cell x c hc
    refine wpAny_storeName_cell I.ok.kind hk hc z (fun h' hc' hs => ?_)
    obtain ⟨oc, hoc, hocd⟩ := id z
    refine h { s with heap := h' } ⟨I.ok, I.os, I.bare, ⟨fun b o e n hb hx => ?_, fun b o e n hb hx => ?_, I.base.free, fun b o e hx => ?_, I.base.tups, I.base.frzs, I.base.tbls⟩, ⟨m, hn.sameBut hs (Ne.symm (cne x c hc)), fun j y v' e1 e2 e3 => ?_⟩, fun y c' e => ?_, I.free, I.freeC, fun p hp => ?_, tracked ⟨oc, hoc, I.freeC x c hc⟩ hs, by simpa using I.len⟩ ⟨c, hs, .inr hc⟩
    · exact (hs.2 b (Nat.ne_of_lt (Nat.lt_of_lt_of_le (Heap.lt_size e) (I.ok.cab x c hfn hc)))).trans (I.base.keep b o e n hb hx)
    · obtain ⟨sl, e1⟩ := I.base.slot b o e n hb hx
      exact ⟨sl, (hs.2 b (Nat.ne_of_lt (Nat.lt_of_lt_of_le (Heap.lt_size e) (I.ok.cab x c hfn hc)))).trans e1⟩
    · obtain ⟨o', e1⟩ := I.base.there b o e hx
      exact ⟨o', (hs.2 b (Nat.ne_of_lt (Nat.lt_of_lt_of_le (Heap.lt_size e) (I.ok.cab x c hfn hc)))).trans e1⟩
    · by_cases hj : j = i
      · subst hj
        rw [hi] at e1; cases e1
        rw [List.getElem?_set_self hiσ] at e2
        cases e2
        exact ⟨u, r, .inr ⟨.inl hk, c, hc, hc'⟩⟩
      · rw [List.getElem?_set_ne (Ne.symm hj)] at e2
        obtain ⟨u', r', q⟩ := hl j y v' e1 e2 e3
        refine ⟨u', r', ?_⟩
        rcases q with q | ⟨k, c', e, z'⟩
        · exact .inl q
        · refine .inr ⟨k, c', e, z'.sameBut hs ?_⟩
          rintro rfl
          exact hj (nodup_ix hN e1 (I.ok.inj _ _ _ e hc ▸ hi))
    · by_cases hcc : c' = c
      · subst hcc; exact ⟨_, hc'⟩
      · obtain ⟨w2, z2⟩ := I.cell y c' e
        exact ⟨w2, z2.sameBut hs hcc⟩
    · obtain ⟨e, n, ne, nf, d⟩ := I.pin p hp
      refine ⟨(hs.2 p.1 ?_).trans e, n, ne, nf, d⟩
      intro q
      rw [q, hoc] at e
      have q' : oc = p.2 := Option.some.inj e
      exact d w' (by rw [← q']; exact hocd)
theorem store_ok {M : Model} {A : Around} {E : Value → Shared → Prop} {i : Nat} {x : Str} {v : V} {u : Value} {Q : Unit → Shared → Prop} (I : Inv X pins σ H s) (hN : X.N.Nodup) (hi : X.N[i]? = some x) (hx : Loc X.env.scope x) (r : RelV v u)
    (h : ∀ s', Inv X pins (σ.set i (some v)) H s' → Q () s') (hf : X.fn x = true ∨ X.env.scope.names.lookup x = some .local := by first | exact .inl rfl | exact .inr rfl | assumption) : wpAny M A (storeName X.env x u) Q E s :=
  store_ok2 I hN hi hx r (fun s' I' _ => h s' I') hf
/-- behind a call or a block, the state as it is -/
theorem Inv.call' {s' : Shared} {ch : List Addr} (I : Inv X pins σ H s) (ho : s'.os = s.os) (u : Un (frs X.stack) ch H H' s.heap s'.heap) (hok : HOk X.prog X.w H' s'.heap) (hg : AllBare s'.gens)
    (hch : ∀ b ∈ ch, (b ∈ X.ex ∨ X.s₀.heap.objs.size ≤ b) ∧ b ≠ X.env.locals ∧ (∀ x c, X.env.cells.lookup x = some c → c ≠ b) ∧ ∀ p ∈ X.pn ++ pins, p.1 ≠ b) : Inv X pins σ H' s' := by
  obtain ⟨h', g', d', t', o'⟩ := s'
  have e : o' = s.os := ho
  subst e
  exact I.call (g' := g') (t' := t') (d' := d') u hok hg hch
end

/-- an exception: its class, its own dict's address (where it has one), the abstract heap behind it -/
abbrev XK := Value → Option Addr → Hp → Prop
abbrev St := List (Option V)
abbrev VK := V → Hp → Prop
/-- an expression's reading; a test's; an argument list's -/
abbrev TE := St → Hp → VK → Prop
abbrev TT := St → Hp → (Bool → Hp → Prop) → Prop
abbrev TA := St → Hp → (List V → Hp → Prop) → Prop
/-- what is wanted behind a statement -/
structure Ends where
  nx : St → Hp → Prop
  rt : VK
  bk : St → Hp → Prop := fun _ _ => False
  ct : St → Hp → Prop := fun _ _ => False
abbrev TS := Ends → St → Hp → Prop

def EP (X : Cx) (pins : List (Addr × Obj)) (σ : St) (Q : VK) (u : Value) (s' : Shared) : Prop := ∃ v H', Inv X pins σ H' s' ∧ RelV v u ∧ Q v H'
def TP (X : Cx) (pins : List (Addr × Obj)) (σ : St) (Q : Bool → Hp → Prop) (b : Bool) (s' : Shared) : Prop := ∃ H', Inv X pins σ H' s' ∧ Q b H'
def AP (X : Cx) (pins : List (Addr × Obj)) (σ : St) (Q : List V → Hp → Prop) (us : List Value) (s' : Shared) : Prop := ∃ vs H', Inv X pins σ H' s' ∧ Vals vs us ∧ Q vs H'
def SP (X : Cx) (pins : List (Addr × Obj)) (D : Ends) (f : Flow) (s' : Shared) : Prop :=
  match f with
  | .next => ∃ σ' H', Inv X pins σ' H' s' ∧ D.nx σ' H'
  | .brk => ∃ σ' H', Inv X pins σ' H' s' ∧ D.bk σ' H'
  | .cont => ∃ σ' H', Inv X pins σ' H' s' ∧ D.ct σ' H'
  | .ret u => ∃ v σ' H', Inv X pins σ' H' s' ∧ RelV v u ∧ D.rt v H'

def PE (X : Cx) (e : Expr) (t : TE) : Prop :=
  ∀ (pins : List (Addr × Obj)) (s : Shared) (σ : St) (H : Hp) (Q : VK), Inv X pins σ H s → t σ H Q → wpAny (model X.prog X.w) X.A (eval e X.env) (EP X pins σ Q) X.xe s
def PT (X : Cx) (e : Expr) (t : TT) : Prop :=
  ∀ (pins : List (Addr × Obj)) (s : Shared) (σ : St) (H : Hp) (Q : Bool → Hp → Prop), Inv X pins σ H s → t σ H Q → wpAny (model X.prog X.w) X.A (isTrue e X.env (eval e X.env)) (TP X pins σ Q) X.xe s
/-- a test whatever its 'whole' is (and, or) -/
def PW (X : Cx) (e : Expr) (t : TT) : Prop :=
  ∀ (whole : Sem Value) (pins : List (Addr × Obj)) (s : Shared) (σ : St) (H : Hp) (Q : Bool → Hp → Prop), Inv X pins σ H s → t σ H Q → wpAny (model X.prog X.w) X.A (isTrue e X.env whole) (TP X pins σ Q) X.xe s
theorem PW.pt {X : Cx} {e : Expr} {t : TT} (h : PW X e t) : PT X e t := h _
/-- an argument list (no star), from the left -/
def PA (X : Cx) (es : List Expr) (t : TA) : Prop :=
  ∀ (pos : Pos) (pins : List (Addr × Obj)) (s : Shared) (σ : St) (H : Hp) (Q : List V → Hp → Prop), Inv X pins σ H s → t σ H Q → wpAny (model X.prog X.w) X.A (spliced (backTo pos (starEach es X.env))) (AP X pins σ Q) X.xe s
def PS (X : Cx) (st : Stmt) (t : TS) : Prop :=
  ∀ (pins : List (Addr × Obj)) (s : Shared) (σ : St) (H : Hp) (D : Ends), Inv X pins σ H s → t D σ H → wpAny (model X.prog X.w) X.A (exec st X.env) (SP X pins D) X.xe s
def PSs (X : Cx) (st : List Stmt) (t : TS) : Prop :=
  ∀ (pins : List (Addr × Obj)) (s : Shared) (σ : St) (H : Hp) (D : Ends), Inv X pins σ H s → t D σ H → wpAny (model X.prog X.w) X.A (execs st X.env) (SP X pins D) X.xe s
/-- weaken the end -/
theorem thn {α : Type} {t : Sem α} {Q Q' : α → Shared → Prop} {M : Model} {A : Around} {E : Value → Shared → Prop} {s : Shared} (h : wpAny M A t Q E s) (hQ : ∀ a s, Q a s → Q' a s) : wpAny M A t Q' E s := wpAny_mono h hQ fun _ _ x => x
end L2

namespace L2
open PySem PySem.Spec PyProof.Rows
section
variable {X : Cx}

def tVar (i : Nat) : TE := fun σ H Q => ∃ v, σ[i]? = some (some v) ∧ Q v H
def tC (v : V) : TE := fun _ H Q => Q v H
theorem pe_var {i : Nat} {x : Str} {pos : Pos} (hN : X.N[i]? = some x) (hv : Vis X.env.scope x) (hd : (x == ("__debug__" : Str)) = false := by decide) (hcd : (x == ("__classdict__" : Str)) = false := by decide) : PE X (.Name x pos) (tVar i) := by
  intro pins s σ H Q I h
  obtain ⟨v, e, h⟩ := h
  obtain ⟨m, hn, hl⟩ := I.loc
  obtain ⟨u, r, l⟩ := hl i x v hN e hv
  have fin : EP X pins σ Q u s := ⟨v, H, I, r, h⟩
  rcases l with ⟨hk, hm⟩ | ⟨hk, c, hc, hcell⟩
  · exact wpAny_Name (wpAny_loadName_local I.ok.kind hk hn hm fin) hd
  · rcases hk with hk | hk
    · exact wpAny_Name (wpAny_loadName_cell I.ok.kind hk hc hcell fin) hd
    · exact wpAny_Name (wpAny_loadName_free I.ok.kind hk hc hcell fin hcd) hd
theorem pe_int {i j pos} : PE X (.Constant (.int i) j pos) (tC (.int i)) := fun _ _ _ H _ I h => wpAny_Constant_int ⟨.int i, H, I.tok _, ⟨_, rfl⟩, h⟩
theorem pe_bl {b j pos} : PE X (.Constant (.bool b) j pos) (tC (.bl b)) := fun _ _ _ H _ I h => Constant_bool ⟨.bl b, H, I, rfl, h⟩
theorem pe_str {x j pos} : PE X (.Constant (.str x) j pos) (tC (.str x)) := fun _ _ _ H _ I h => Calls.Constant_str ⟨.str x, H, I.tok _, ⟨_, rfl⟩, h⟩

/-- a global name of the def -/
def Gl (X : Cx) (x : Str) : Prop := X.env.kindOf x = some .globalImplicit
theorem ld_glob {E : Value → Shared → Prop} {pins : List (Addr × Obj)} {s : Shared} {σ : St} {H : Hp} {x : Str} {u : Value} {pos : Pos} {Q : Value → Shared → Prop} (I : Inv X pins σ H s) (hg : Gl X x) (hm : X.mg x = some u) (h : Q u s)
    (hd : (x == ("__debug__" : Str)) = false := by decide) : wpAny (model X.prog X.w) X.A (eval (.Name x pos) X.env) Q E s :=
  Calls.Name_function_global I.ok.kind hg (Calls.loadGlobal_global (by rw [I.ok.glob]; exact I.mod.glob.keeps I.bk) hm h) hd
theorem ld_blt {E : Value → Shared → Prop} {pins : List (Addr × Obj)} {s : Shared} {σ : St} {H : Hp} {x : Str} {u : Value} {pos : Pos} {Q : Value → Shared → Prop} (I : Inv X pins σ H s) (hg : Gl X x) (hm : X.mg x = none) (hv : bootBuiltins x = some u) (h : Q u s)
    (hn : x ≠ "__name__" := by decide) (hd : (x == ("__debug__" : Str)) = false := by decide) : wpAny (model X.prog X.w) X.A (eval (.Name x pos) X.env) Q E s := by
  obtain ⟨mb, h1, h2⟩ := I.mod.blt
  exact Calls.Name_function_global I.ok.kind hg (Calls.loadGlobal_builtin (by rw [I.ok.glob]; exact I.mod.glob.keeps I.bk) hm (by rw [I.ok.blt]; exact h1.keeps I.bk) ((h2 x hn).trans hv) h) hd
/-- a module's constant, a class, a function, as a value -/
theorem pe_glob {x : Str} {v : V} {u : Value} {pos : Pos} (hg : Gl X x) (hm : X.mg x = some u) (r : RelV v u) (hd : (x == ("__debug__" : Str)) = false := by decide) : PE X (.Name x pos) (tC v) :=
  fun _ _ _ H _ I h => ld_glob I hg hm ⟨v, H, I, r, h⟩ hd
theorem pe_bltn {x : Str} {v : V} {u : Value} {pos : Pos} (hg : Gl X x) (hm : X.mg x = none) (hv : bootBuiltins x = some u) (r : RelV v u) (hn : x ≠ "__name__" := by decide) (hd : (x == ("__debug__" : Str)) = false := by decide) : PE X (.Name x pos) (tC v) :=
  fun _ _ _ H _ I h => ld_blt I hg hm hv ⟨v, H, I, r, h⟩ hn hd

variable {a b : Expr} {ta tb : TE} {pos : Pos}
/-- a comparison as a value, as a test -/
def tB (t : TE) : TT := fun σ H Q => t σ H fun x H1 => ∃ c, x = .bl c ∧ Q c H1
/-- an expression whose value is a bool, as a test -/
theorem pt_val {e : Expr} {t : TE} (h : PE X e t) (he : ∀ whole, isTrue e X.env whole = (do let v ← whole; standAt e.pos; holding [v] (truthy v)) := by intro _; rfl) : PT X e (tB t) := by
  intro pins s σ H Q I hw
  refine isTrue_plain (thn (h pins s σ H _ I hw) fun v s1 ⟨x, H1, I1, r1, q1⟩ => ?_) (he _)
  obtain ⟨d, rfl, q⟩ := q1
  cases r1
  exact wpAny_truthy_bool ⟨H1, I1, q⟩

variable {tA tB' : TT} {rest : List Expr}
def tOr (t u : TT) : TT := fun σ H Q => t σ H fun c H1 => if c = true then Q true H1 else u σ H1 Q
def tNot (t : TT) : TT := fun σ H Q => t σ H fun c H1 => Q (!c) H1
theorem pw_or1 (ha : PT X a tA) : PW X (.BoolOp .Or [a] pos) tA := by
  intro wh pins s σ H Q I h
  refine isTrue_or (thn (ha pins s σ H Q I h) fun c s1 e => ?_)
  cases c with
  | false => exact isTrue_or_nil e
  | true => exact e
theorem pw_or (ha : PT X a tA) (hb : PW X (.BoolOp .Or (b :: rest) pos) tB') : PW X (.BoolOp .Or (a :: b :: rest) pos) (tOr tA tB') := by
  intro wh pins s σ H Q I h
  refine isTrue_or (thn (ha pins s σ H _ I h) fun c s1 ⟨H1, I1, q1⟩ => ?_)
  cases c with
  | true => exact ⟨H1, I1, q1⟩
  | false => exact hb wh pins s1 σ H1 Q I1 q1
theorem pt_not (ha : PT X a tA) : PT X (.UnaryOp .Not a pos) (tNot tA) := by
  intro pins s σ H Q I h
  exact isTrue_not (ha pins s σ H (fun c H1 => Q (!c) H1) I h)
/-- .. as values (bools) -/
def tAndV (ta tb : TE) : TE := fun σ H Q => ta σ H fun x H1 => ∃ c, x = .bl c ∧ if c = true then tb σ H1 Q else Q (.bl false) H1
def tOrV (ta tb : TE) : TE := fun σ H Q => ta σ H fun x H1 => ∃ c, x = .bl c ∧ if c = true then Q (.bl true) H1 else tb σ H1 Q
def tNotV (ta : TE) : TE := fun σ H Q => ta σ H fun x H1 => ∃ c, x = .bl c ∧ Q (.bl (!c)) H1
theorem pe_one {op} {t : TE} (h : PE X a t) : PE X (.BoolOp op [a] pos) t := fun pins s σ H Q I hw => BoolOp_one (h pins s σ H Q I hw)
theorem pe_and (ha : PE X a ta) (hb : PE X (.BoolOp .And (b :: rest) pos) tb) : PE X (.BoolOp .And (a :: b :: rest) pos) (tAndV ta tb) := by
  intro pins s σ H Q I h
  refine BoolOp_and (thn (ha pins s σ H _ I h) fun v s1 ⟨x, H1, I1, r1, q1⟩ => ?_)
  obtain ⟨c, rfl, q1⟩ := q1
  cases r1
  refine wpAny_truthy_bool ?_
  cases c with
  | true => exact hb pins s1 σ H1 Q I1 q1
  | false => exact ⟨.bl false, H1, I1, rfl, q1⟩
theorem pe_or (ha : PE X a ta) (hb : PE X (.BoolOp .Or (b :: rest) pos) tb) : PE X (.BoolOp .Or (a :: b :: rest) pos) (tOrV ta tb) := by
  intro pins s σ H Q I h
  refine BoolOp_or (thn (ha pins s σ H _ I h) fun v s1 ⟨x, H1, I1, r1, q1⟩ => ?_)
  obtain ⟨c, rfl, q1⟩ := q1
  cases r1
  refine wpAny_truthy_bool ?_
  cases c with
  | false => exact hb pins s1 σ H1 Q I1 q1
  | true => exact ⟨.bl true, H1, I1, rfl, q1⟩
theorem pe_not (ha : PE X a ta) : PE X (.UnaryOp .Not a pos) (tNotV ta) := by
  intro pins s σ H Q I h
  refine UnaryOp_ (thn (ha pins s σ H _ I h) fun v s1 ⟨x, H1, I1, r1, q1⟩ => ?_)
  obtain ⟨c, rfl, q1⟩ := q1
  cases r1
  exact not_of (wpAny_truthy_bool ⟨.bl (!c), H1, I1, rfl, q1⟩)
end
end L2

namespace L2
open PySem PySem.Spec PyProof.Rows

def SqL (K : PySem.W.Frag) (H : Hp) (a : Addr) (xs : List V) : Prop :=
  Rd H a (.lst xs) ∨
    ∃ (o : Obj) (its : Array Value) (n : Nat), K.lookup a = some o ∧ o.cls = .type "list" ∧ o.dict = none ∧ o.data = .seq its n ∧ its.size ≤ sizeLine ∧ Vals xs its.toList
def SqT (K : PySem.W.Frag) (H : Hp) (a : Addr) (xs : List V) : Prop :=
  Rd H a (.tup xs) ∨
    ∃ (o : Obj) (its : Array Value) (n : Nat), K.lookup a = some o ∧ o.cls = .type "tuple" ∧ o.data = .seq its n ∧ its.size ≤ sizeLine ∧ Vals xs its.toList
def absV : Value → Option V
  | .none => some .non
  | .bool b => some (.bl b)
  | .int i _ => some (.int i)
  | .str x _ => some (.str x)
  | .bytes b _ => some (.byt b)
  | .float b _ => some (.flt b)
  | .ref a => some (.ref a)
  | .type n => some (.ty n)
  | _ => none
theorem RelV.abs {x : V} {u : Value} (r : RelV x u) : absV u = some x := by
  cases x with
  | non => cases r; rfl
  | bl _ => cases r; rfl
  | int _ => obtain ⟨t, rfl⟩ := r; rfl
  | str _ => obtain ⟨t, rfl⟩ := r; rfl
  | byt _ => obtain ⟨t, rfl⟩ := r; rfl
  | flt _ => obtain ⟨t, rfl⟩ := r; rfl
  | ref _ => cases r; rfl
  | ty _ => cases r; rfl
theorem RelV.inj {x y : V} {u : Value} (r : RelV x u) (q : RelV y u) : x = y := Option.some.inj (r.abs.symm.trans q.abs)
theorem Vals.inj : ∀ {xs ys : List V} {us : List Value}, Vals xs us → Vals ys us → xs = ys
  | _, _, _, .nil, .nil => rfl
  | _, _, _, .cons r t, .cons r' t' => by rw [r.inj r', Vals.inj t t']
section
variable {X : Cx} {pins : List (Addr × Obj)} {σ : St} {H : Hp} {s : Shared} {a : Addr} {xs ys : List V}
theorem SqL.of {K : PySem.W.Frag} (h : H a = some (.lst xs)) : SqL K H a xs := .inl (.inl h)
theorem SqT.of {K : PySem.W.Frag} (h : H a = some (.tup xs)) : SqT K H a xs := .inl (.inl h)
theorem Inv.list (I : Inv X pins σ H s) (h : SqL X.K H a xs) : ∃ its : List Value, Vals xs its ∧ PlainL s.heap a its.toArray ∧ xs.length ≤ sizeLine := by
  rcases h with h | ⟨o, its, n, hk, hc, hd, hs, hz, r⟩
  · obtain ⟨z, its, n, r, e⟩ := h.ok I.hok
    exact ⟨its, r, ⟨_, n, e, rfl, rfl, rfl⟩, z⟩
  · refine ⟨its.toList, r, ⟨o, n, I.kIn a o hk, hc, hd, by simpa using hs⟩, ?_⟩
    have e := r.length
    simp only [Array.length_toList] at e
    omega
theorem Inv.tuple (I : Inv X pins σ H s) (h : SqT X.K H a xs) : ∃ its : List Value, Vals xs its ∧ IsTup s.heap a its.toArray ∧ xs.length ≤ sizeLine := by
  rcases h with h | ⟨o, its, n, hk, hc, hs, hz, r⟩
  · obtain ⟨z, its, r, p⟩ := h.ok I.hok
    exact ⟨its, r, p, z⟩
  · refine ⟨its.toList, r, ⟨o, I.kIn a o hk, hc, n, by simpa using hs⟩, ?_⟩
    have e := r.length
    simp only [Array.length_toList] at e
    omega
theorem Inv.list_inj (I : Inv X pins σ H s) (h : SqL X.K H a xs) (h' : SqL X.K H a ys) : xs = ys := by
  obtain ⟨its, r, ⟨o, n, e, _, _, d⟩, _⟩ := I.list h
  obtain ⟨its', r', ⟨o', n', e', _, _, d'⟩, _⟩ := I.list h'
  rw [e] at e'; cases e'
  rw [d] at d'
  injection d' with d1 _
  have : its = its' := by simpa using congrArg Array.toList d1
  subst this
  exact r.inj r'
theorem Inv.tuple_inj (I : Inv X pins σ H s) (h : SqT X.K H a xs) (h' : SqT X.K H a ys) : xs = ys := by
  obtain ⟨its, r, ⟨o, e, _, n, d⟩, _⟩ := I.tuple h
  obtain ⟨its', r', ⟨o', e', _, n', d'⟩, _⟩ := I.tuple h'
  rw [e] at e'; cases e'
  rw [d] at d'
  injection d' with d1 _
  have : its = its' := by simpa using congrArg Array.toList d1
  subst this
  exact r.inj r'
end

abbrev Cx.wish (X : Cx) (E : Value → Shared → Prop) : Cx := { X with xe := E }
/-- no exception leaves -/
abbrev Cx.nox (X : Cx) : Cx := X.wish fun _ _ => False
theorem Cx.Ok.wish {X : Cx} (ok : X.Ok) (E : Value → Shared → Prop) : (X.wish E).Ok :=
  ⟨ok.mod, ok.kind, ok.glob, ok.blt, ok.above, ok.inj, ok.has, ok.cab, ok.hd, ok.frames, ok.stk, ok.exf, ok.bs, ok.bsz, ok.noex, ok.exfs, ok.funs, ok.frf⟩
theorem Cx.Ok.unwish {X : Cx} {E : Value → Shared → Prop} (ok : (X.wish E).Ok) : X.Ok :=
  ⟨ok.mod, ok.kind, ok.glob, ok.blt, ok.above, ok.inj, ok.has, ok.cab, ok.hd, ok.frames, ok.stk, ok.exf, ok.bs, ok.bsz, ok.noex, ok.exfs, ok.funs, ok.frf⟩
section
variable {X : Cx} {pins : List (Addr × Obj)} {σ : St} {H : Hp} {s : Shared} {E : Value → Shared → Prop}
theorem Inv.wish (I : Inv X pins σ H s) (E : Value → Shared → Prop) : Inv (X.wish E) pins σ H s := ⟨I.ok.wish E, I.os, I.bare, I.base, I.loc, I.cell, I.free, I.freeC, I.pin, I.hok, I.len⟩
theorem Inv.unwish (I : Inv (X.wish E) pins σ H s) : Inv X pins σ H s := ⟨I.ok.unwish, I.os, I.bare, I.base, I.loc, I.cell, I.free, I.freeC, I.pin, I.hok, I.len⟩
theorem SP.unwish {D : Ends} {f : Flow} {s' : Shared} (h : SP (X.wish E) pins D f s') : SP X pins D f s' := by
  cases f with
  | next => obtain ⟨σ', H', I, q⟩ := h; exact ⟨σ', H', I.unwish, q⟩
  | brk => obtain ⟨σ', H', I, q⟩ := h; exact ⟨σ', H', I.unwish, q⟩
  | cont => obtain ⟨σ', H', I, q⟩ := h; exact ⟨σ', H', I.unwish, q⟩
  | ret u => obtain ⟨v, σ', H', I, r, q⟩ := h; exact ⟨v, σ', H', I.unwish, r, q⟩
theorem PE.nox {e : Expr} {t : TE} (h : PE X.nox e t) : PE X e t := fun pins s σ H Q I hw =>
  wpAny_mono (h pins s σ H Q (I.wish _) hw) (fun _ _ ⟨v, H', I', r, q⟩ => ⟨v, H', I'.unwish, r, q⟩) fun _ _ z => False.elim z
theorem PT.nox {e : Expr} {t : TT} (h : PT X.nox e t) : PT X e t := fun pins s σ H Q I hw =>
  wpAny_mono (h pins s σ H Q (I.wish _) hw) (fun _ _ ⟨H', I', q⟩ => ⟨H', I'.unwish, q⟩) fun _ _ z => False.elim z
theorem PSs.nox {st : List Stmt} {t : TS} (h : PSs X.nox st t) : PSs X st t := fun pins s σ H D I hw =>
  wpAny_mono (h pins s σ H D (I.wish _) hw) (fun _ _ q => q.unwish) fun _ _ z => False.elim z
end

section
variable {X : Cx} {st : Stmt} {rest : List Stmt} {t u : TS} {e : Expr} {te : TE} {pos : Pos}
def tNext : TS := fun D σ H => D.nx σ H
def tSeq (t u : TS) : TS := fun D σ H => t { D with nx := u D } σ H
theorem pss_nil : PSs X [] tNext := fun _ _ σ H _ I h => wpAny_execs_nil ⟨σ, H, I, h⟩
theorem pss_cons (h1 : PS X st t) (h2 : PSs X rest u) : PSs X (st :: rest) (tSeq t u) := by
  intro pins s σ H D I h
  refine wpAny_execs_cons (thn (h1 pins s σ H { D with nx := u D } I h) fun f s1 q => ?_)
  cases f with
  | next =>
    obtain ⟨σ', H', I', q⟩ := q
    exact h2 pins s1 σ' H' D I' q
  | ret v => exact q
  | brk => exact q
  | cont => exact q
theorem pss_one (h1 : PS X st t) : PSs X [st] t := by
  intro pins s σ H D I h
  refine wpAny_execs_cons (thn (h1 pins s σ H D I h) fun f s1 q => ?_)
  cases f with
  | next => exact wpAny_execs_nil q
  | ret v => exact q
  | brk => exact q
  | cont => exact q
/-- in a def's body nothing is shown -/
theorem Inv.quiet {pins : List (Addr × Obj)} {σ : St} {H : Hp} {s : Shared} (I : Inv X pins σ H s) : interactive X.env = false := by simp [interactive, I.ok.kind]
/-- an expression whose value is dropped -/
def tDrop (te : TE) : TS := fun D σ H => te σ H fun _ H1 => D.nx σ H1
theorem ps_expr (he : PE X e te) (hs : swapsWith e none pos.line X.env = pure false := by rfl) : PS X (.Expr e pos) (tDrop te) := by
  intro pins s σ H D I h
  exact wpAny_Expr_any (thn (he pins s σ H _ I h) fun v s1 ⟨x, H1, I1, r1, q1⟩ => ⟨σ, H1, I1, q1⟩) I.quiet hs
def tRet (te : TE) : TS := fun D σ H => te σ H D.rt
theorem ps_ret (he : PE X e te) : PS X (.Return (some e) pos) (tRet te) := by
  intro pins s σ H D I h
  exact wpAny_Return_some (thn (he pins s σ H _ I h) fun v s1 ⟨x, H1, I1, r1, q1⟩ => ⟨x, σ, H1, I1, r1, q1⟩)
def tIfS (c : TT) (t u : TS) : TS := fun D σ H => c σ H fun b H1 => if b = true then t D σ H1 else u D σ H1
theorem ps_if {c : Expr} {a b : List Stmt} {tc : TT} (hc : PT X c tc) (ha : PSs X a t) (hb : PSs X b u) : PS X (.If c a b pos) (tIfS tc t u) := by
  intro pins s σ H D I h
  refine wpAny_If (thn (hc pins s σ H _ I h) fun d s1 ⟨H1, I1, q1⟩ => ?_)
  cases d with
  | true => exact ha pins s1 σ H1 D I1 q1
  | false => exact hb pins s1 σ H1 D I1 q1
end

abbrev TG := V → St → Hp → (St → Hp → Prop) → Prop
abbrev TGs := List V → St → Hp → (St → Hp → Prop) → Prop
def PG (X : Cx) (target : Expr) (t : TG) : Prop :=
  ∀ (pins : List (Addr × Obj)) (s : Shared) (σ : St) (H : Hp) (v : V) (u : Value) (Q : St → Hp → Prop), Inv X pins σ H s → RelV v u → t v σ H Q →
    wpAny (model X.prog X.w) X.A (assign target X.env u) (fun _ s' => ∃ σ' H', Inv X pins σ' H' s' ∧ Q σ' H') X.xe s
/-- several targets, one after another -/
def PGs (X : Cx) (ts : List Expr) (t : TGs) : Prop :=
  ∀ (pins : List (Addr × Obj)) (s : Shared) (σ : St) (H : Hp) (vs : List V) (us : List Value) (Q : St → Hp → Prop), Inv X pins σ H s → Vals vs us → t vs σ H Q →
    wpAny (model X.prog X.w) X.A (assignInOrder ((assignEach ts X.env).map (·.2)) us) (fun _ s' => ∃ σ' H', Inv X pins σ' H' s' ∧ Q σ' H') X.xe s
/-- o[i] = v, by values -/
abbrev TSet := V → V → V → Hp → (Hp → Prop) → Prop
def PSet (X : Cx) (t : TSet) : Prop :=
  ∀ (pins : List (Addr × Obj)) (s : Shared) (σ : St) (H : Hp) (o i v : V) (ov iv u : Value) (Q : Hp → Prop), Inv X pins σ H s → RelV o ov → RelV i iv → RelV v u → t o i v H Q →
    wpAny (model X.prog X.w) X.A (setItem ov iv u) (fun _ s' => ∃ H', Inv X pins σ H' s' ∧ Q H') X.xe s
section
variable {X : Cx} {pos : Pos}
def gName (i : Nat) : TG := fun v σ H Q => Q (σ.set i (some v)) H
theorem pg_name {i : Nat} {x : Str} (hN : X.N.Nodup) (hi : X.N[i]? = some x) (hx : Loc X.env.scope x) (hf : X.fn x = true ∨ X.env.scope.names.lookup x = some .local := by first | exact .inl rfl | exact .inr rfl | assumption) : PG X (.Name x pos) (gName i) := by
  intro pins s σ H v u Q I r h
  exact wpAny_assign_Name (store_ok I hN hi hx r (fun s' I' => ⟨_, H, I', h⟩) hf)
def gNil : TGs := fun vs σ H Q => vs = [] ∧ Q σ H
def gCons (t : TG) (u : TGs) : TGs := fun vs σ H Q => ∃ v r, vs = v :: r ∧ t v σ H fun σ' H' => u r σ' H' Q
theorem pgs_nil : PGs X [] gNil := by
  intro pins s σ H vs us Q I r h
  obtain ⟨e, h⟩ := h
  subst e
  cases r
  exact assignInOrder_nil ⟨σ, H, I, h⟩
theorem pgs_cons {e : Expr} {es : List Expr} {t : TG} {u : TGs} (h1 : PG X e t) (h2 : PGs X es u)
    (hs : (assignEach (e :: es) X.env).map (·.2) = assign e X.env :: (assignEach es X.env).map (·.2) := by rfl) : PGs X (e :: es) (gCons t u) := by
  intro pins s σ H vs us Q I r h
  obtain ⟨v, vr, e1, h⟩ := h
  subst e1
  cases r with
  | cons r rr =>
    rw [hs]
    refine assignInOrder_cons (thn (h1 pins s σ H _ _ _ I r h) fun _ s1 ⟨σ1, H1, I1, q1⟩ => ?_)
    exact h2 pins s1 σ1 H1 _ _ Q I1 rr q1
/-- (a, b, ..) = a tuple of that length -/
def gTup (K : PySem.W.Frag) (n : Nat) (t : TGs) : TG := fun v σ H Q => ∃ a xs, v = .ref a ∧ SqT K H a xs ∧ xs.length = n ∧ t xs σ H Q
theorem pg_tup {es : List Expr} {k : Nat} {t : TGs} {n : Nat} (hc : X.calm = true) (h : PGs X es t)
    (hn : (assignEach es X.env).length = n := by rfl) (hst : (assignEach es X.env).findIdx? (·.1) = none := by rfl) : PG X (.Tuple es k pos) (gTup X.K n t) := by
  intro pins s σ H v u Q I r hw
  obtain ⟨a, xs, e1, hq, hl, hw⟩ := hw
  subst e1
  cases r
  obtain ⟨its, rv, ht, hz⟩ := I.tuple hq
  refine assign_Tuple_tuple (I.ok.hd hc) ht (by simp [hn, ← hl, rv.length]) hst fun h' hx => ?_
  have I1 : Inv X pins σ H { s with heap := h' } := I.kept (t' := s.toks) fun b o e => hx b o (Nat.ne_of_lt (Heap.lt_size e)) e
  exact h pins _ σ H xs _ Q I1 (by simpa using rv) hw
/-- o[i] = .. -/
def gSub (to ti : TE) (t : TSet) : TG := fun v σ H Q => to σ H fun o H1 => ti σ H1 fun i H2 => t o i v H2 fun H3 => Q σ H3
theorem pg_sub {o i : Expr} {to ti : TE} {t : TSet} (ho : PE X o to) (hi : PE X i ti) (hs : PSet X t)
    (ha : ∀ v, assign (.Subscript o i pos) X.env v = (do
      let ov ← holding [v] (eval o X.env)
      let iv ← holding [v, ov] (eval i X.env)
      standAt pos
      holding [v, ov, iv] (setItem ov iv v)
      release [v, ov, iv] []) := by intro _; rfl) : PG X (.Subscript o i pos) (gSub to ti t) := by
  intro pins s σ H v u Q I r h
  rw [ha]
  refine wpAny_bind (wpAny_holding (thn (ho pins s σ H _ I h) fun ov s1 ⟨x, H1, I1, r1, q1⟩ => ?_))
  refine wpAny_bind (wpAny_holding (thn (hi pins s1 σ H1 _ I1 q1) fun iv s2 ⟨y, H2, I2, r2, q2⟩ => ?_))
  refine wpAny_bind (wpAny_standAt (wpAny_bind (wpAny_holding (thn (hs pins s2 σ H2 x y v ov iv u _ I2 r1 r2 r q2) fun _ s3 ⟨H3, I3, q3⟩ => ?_))))
  exact wpAny_release ⟨σ, H3, I3, q3⟩
/-- target = value -/
def tAsg (te : TE) (g : TG) : TS := fun D σ H => te σ H fun x H1 => g x σ H1 D.nx
theorem ps_asg {tg e : Expr} {te : TE} {g : TG} (he : PE X e te) (hg : PG X tg g) (hs : swapsWithSole [tg] e pos.line X.env = pure false := by rfl) (hw : swappedStores [tg] e X.env = pure none := by rfl)
    (h1 : (assignEach [tg] X.env).map (·.2) = [assign tg X.env] := by rfl) : PS X (.Assign [tg] e pos) (tAsg te g) := by
  intro pins s σ H D I h
  refine wpAny_Assign_stores (thn (he pins s σ H _ I h) fun v s1 ⟨x, H1, I1, r1, q1⟩ => ?_) hs hw
  rw [h1]
  exact thn (hg pins s1 σ H1 x v _ I1 r1 q1) fun _ s2 q => q
/-- name = value -/
theorem ps_set {i : Nat} {x : Str} {e : Expr} {te : TE} {pos' : Pos} (hN : X.N.Nodup) (hi : X.N[i]? = some x) (hx : Loc X.env.scope x) (he : PE X e te) (hs : swapsWith e (some (.Name x pos')) pos.line X.env = pure false := by rfl) (hf : X.fn x = true ∨ X.env.scope.names.lookup x = some .local := by first | exact .inl rfl | exact .inr rfl | assumption) :
    PS X (.Assign [.Name x pos'] e pos) (tAsg te (gName i)) := by
  intro pins s σ H D I h
  refine wpAny_Assign_Name (thn (he pins s σ H _ I h) fun v s1 ⟨y, H1, I1, r1, q1⟩ => ?_) hs
  exact store_ok I1 hN hi hx r1 (fun s2 I2 => ⟨_, H1, I2, q1⟩) hf
end

section
variable {X : Cx} {pos : Pos}
/-- the invariant W with its measure -/
def tWhile (c : TT) (tb : TS) : TS := fun D σ H => ∃ W : Nat → St → Hp → Prop, (∃ m, W m σ H) ∧ ∀ m σ H, W m σ H →
  c σ H fun b H1 => if b = true then ∃ N : St → Hp → Prop, (∀ σ' H', N σ' H' → ∃ m', m' < m ∧ W m' σ' H') ∧ tb { D with nx := N, ct := N, bk := D.nx } σ H1 else D.nx σ H1
theorem ps_while {c : Expr} {body : List Stmt} {tc : TT} {tb : TS} (hp : PassesOwn (model X.prog X.w) X.A X.env X.xe) (hc : PT X c tc) (hb : PSs X body tb) : PS X (.While c body [] pos) (tWhile tc tb) := by
  intro pins s σ H D I h
  obtain ⟨W, ⟨m0, w0⟩, turn⟩ := h
  refine wpAny_While (codeAny_whileLoop (fun n s' => ∃ σ' H', Inv X pins σ' H' s' ∧ W n σ' H') ?_ m0 ⟨σ, H, I, w0⟩)
  rintro n s1 ⟨σ1, H1, I1, w1⟩
  refine wpAny_passesOwn hp (thn (hc pins s1 σ1 H1 _ I1 (turn n σ1 H1 w1)) fun b s2 ⟨H2, I2, q2⟩ => ?_)
  cases b with
  | true =>
    obtain ⟨N, hN, q2⟩ := q2
    rw [if_pos rfl]
    refine wpAny_passesOwn hp (thn (hb pins s2 σ1 H2 _ I2 q2) fun f s3 q3 => ?_)
    cases f with
    | next =>
      obtain ⟨σ3, H3, I3, n3⟩ := q3
      obtain ⟨m', hm, w3⟩ := hN σ3 H3 n3
      exact ⟨m', hm, σ3, H3, I3, w3⟩
    | cont =>
      obtain ⟨σ3, H3, I3, n3⟩ := q3
      obtain ⟨m', hm, w3⟩ := hN σ3 H3 n3
      exact ⟨m', hm, σ3, H3, I3, w3⟩
    | brk => exact q3
    | ret v => exact q3
  | false =>
    rw [if_neg Bool.false_ne_true]
    exact wpAny_execs_nil ⟨σ1, H2, I2, q2⟩
end

/-- at turn i: it yields x (the heap may grow), or it stops -/
structure It where
  go : Nat → Hp → Prop
  yld : Nat → Hp → V → Hp → Prop
  stop : Nat → Hp → Prop
/-- the iterator's own objects may turn: they are not the frame's, not pinned, younger than the entry (or a comprehension's own) -/
def FpOk (X : Cx) (pins : List (Addr × Obj)) (H : Hp) (b : Addr) : Prop :=
  H b = none ∧ b ≠ X.env.locals ∧ b ∉ X.fs ∧ (b ∈ X.ex ∨ X.s₀.heap.objs.size ≤ b) ∧ (∀ x c, X.env.cells.lookup x = some c → c ≠ b) ∧ ∀ p ∈ X.pn ++ pins, p.1 ≠ b
theorem Inv.fpOk {X : Cx} {pins : List (Addr × Obj)} {σ : St} {H H' : Hp} {s : Shared} {b : Addr} (I : Inv X pins σ H s) (hb : s.heap.objs.size ≤ b) (hn : H' b = none) : FpOk X pins H' b := by
  refine ⟨hn, Nat.ne_of_gt (Nat.lt_of_lt_of_le I.lt hb), I.nofs hb, .inr (Nat.le_trans I.sz hb), fun x c e z => ?_, fun p hp z => ?_⟩
  · obtain ⟨v, q⟩ := I.cell x c e
    exact absurd (Nat.lt_of_lt_of_le q.lt (by rw [z]; exact hb)) (Nat.lt_irrefl _)
  · exact absurd (Nat.lt_of_lt_of_le (Heap.lt_size (I.pin p hp).1) (by rw [z]; exact hb)) (Nat.lt_irrefl _)
structure Turn (P : Program) (w : World) (K : PySem.W.Frag) (tg : Expr) (J : It) (fp : List Addr) (it : Addr) (tn : Nat → Heap → Prop) : Prop where
  mem : it ∈ fp
  obj : ∀ i h, tn i h → ∀ b ∈ fp, ∃ o, h.get? b = some o ∧ ∀ v, o.data ≠ .cell v
  keep : ∀ i h h', tn i h → (∀ b ∈ fp, ∀ o, h.get? b = some o → h'.get? b = some o) → tn i h'
  item : ∀ (X : Cx), X.prog = P → X.w = w → X.K = K → X.calm = true → ∀ (i : Nat) (pins : List (Addr × Obj)) (s : Shared) (σ : St) (H : Hp) (E : Value → Shared → Prop), Inv X pins σ H s → (∀ b ∈ fp, FpOk X pins H b) → tn i s.heap → J.go i H →
    wpAny (model P w) X.A (pyNext (.ref it)) (fun r s1 => ∃ u, r = some u ∧
      wpAny (model P w) X.A (letOwnedTupleGo tg (.ref it) u) (fun _ s2 => ∃ x H', Inv X pins σ H' s2 ∧ RelV x u ∧ J.yld i H x H' ∧ tn (i + 1) s2.heap ∧ ∀ b ∈ fp, H' b = none) E s1) E s
  done : ∀ (X : Cx), X.prog = P → X.w = w → X.K = K → X.calm = true → ∀ (i : Nat) (pins : List (Addr × Obj)) (s : Shared) (σ : St) (H : Hp) (E : Value → Shared → Prop), Inv X pins σ H s → (∀ b ∈ fp, FpOk X pins H b) → tn i s.heap → J.stop i H →
    wpAny (model P w) X.A (pyNext (.ref it)) (fun r s1 => r = none ∧ Inv X pins σ H s1) E s
  self : ∀ (A : Around) (i : Nat) (s : Shared) (Q : Value → Shared → Prop) (E : Value → Shared → Prop), tn i s.heap → Q (.ref it) s → wpAny (model P w) A (pyIter (.ref it)) Q E s
abbrev TI := St → Hp → (It → Hp → Prop) → Prop
/-- an iterator has come -/
def PIE (X : Cx) (pins : List (Addr × Obj)) (σ : St) (tg : Expr) (R : It → Hp → Prop) (itv : Value) (s2 : Shared) : Prop :=
  ∃ (it : Addr) (fp : List Addr) (tn : Nat → Heap → Prop) (J : It) (H' : Hp), itv = .ref it ∧ Inv X pins σ H' s2 ∧ Turn X.prog X.w X.K tg J fp it tn ∧ tn 0 s2.heap ∧ (∀ b ∈ fp, FpOk X pins H' b) ∧ R J H'
def PI (X : Cx) (tg iter : Expr) (wi : TI) : Prop :=
  ∀ (pins : List (Addr × Obj)) (s : Shared) (σ : St) (H : Hp) (R : It → Hp → Prop), Inv X pins σ H s → wi σ H R →
    wpAny (model X.prog X.w) X.A (eval iter X.env) (fun v s1 => wpAny (model X.prog X.w) X.A (pyIter v) (PIE X pins σ tg R) X.xe s1) X.xe s

/-- the step ahead of the store is nothing for an iterator that keeps no tuple -/
theorem go_of {M : Model} {A : Around} {E : Value → Shared → Prop} {s : Shared} {tg : Expr} {it : Addr} {u : Value} {o : Obj} {n : String} {vs : Array Value} {Q : Unit → Shared → Prop} (ho : s.heap.get? it = some o) (hc : o.cls = .type n) (hd : o.data = .fields vs)
    (hn : ["enumerate", "zip", "dict_itemiterator", "dict_reverseitemiterator", "odict_iterator", "itertools.zip_longest", "itertools.pairwise"].contains n = false) (hQ : Q () s) : wpAny M A (letOwnedTupleGo tg (.ref it) u) Q E s := by
  unfold letOwnedTupleGo
  cases tg <;> first
    | exact wpAny_pure hQ
    | (cases u <;> first
        | exact wpAny_pure hQ
        | (refine wpAny_bind (wpAny_load ho ?_)
           rw [hc, hd]
           show wpAny M A (if (["enumerate", "zip", "dict_itemiterator", "dict_reverseitemiterator", "odict_iterator", "itertools.zip_longest", "itertools.pairwise"].contains n && vs[0]? == some (rawInt _)) = true then _ else _) Q E s
           rw [if_neg (by intro h; rw [hn, Bool.false_and] at h; cases h)]
           exact wpAny_pure hQ))

/-- the list at a, as it stands at each turn (a loop may append to it) -/
def Itl (K : PySem.W.Frag) (a : Addr) : It :=
  ⟨fun i H => ∃ xs x, SqL K H a xs ∧ xs[i]? = some x, fun i H x H' => H' = H ∧ ∀ xs, SqL K H a xs → xs[i]? = some x, fun i H => ∃ xs, SqL K H a xs ∧ xs.length ≤ i⟩
def Itt (K : PySem.W.Frag) (a : Addr) : It :=
  ⟨fun i H => ∃ xs x, SqT K H a xs ∧ xs[i]? = some x, fun i H x H' => H' = H ∧ ∀ xs, SqT K H a xs → xs[i]? = some x, fun i H => ∃ xs, SqT K H a xs ∧ xs.length ≤ i⟩
/-- lo, lo + 1, .. (n of them) -/
def Itr (lo : Int) (n : Nat) : It := ⟨fun i _ => i < n, fun i H x H' => H' = H ∧ x = .int (lo + i), fun i _ => n ≤ i⟩
theorem turn_list {P : Program} {w : World} {K : PySem.W.Frag} {tg : Expr} (a it : Addr) : Turn P w K tg (Itl K a) [it] it (fun i h => h.IsListIter it a i) where
  mem := by simp
  obj := fun i h st b hb => by
    have e : b = it := by simpa using hb
    subst e
    obtain ⟨o, e, c, d⟩ := st
    exact ⟨o, e, fun v z => by rw [d] at z; cases z⟩
  keep := fun i h h' st k => st.at fun o e => k it (by simp) o e
  item := by
    intro X hP hw hK hc i pins s σ H E I hf st hg
    subst hP hw hK
    obtain ⟨xs, x, hq, hx⟩ := hg
    obtain ⟨its, rv, p, hz⟩ := I.list hq
    obtain ⟨u, hu, ru⟩ := rv.get hx
    obtain ⟨f0, f1, f2, f3, f4, f5⟩ := hf it (by simp)
    refine wpAny_pyNext_list_item st p.isList (x := u) (by simpa using hu) fun h' st' sb => ?_
    have I1 : Inv X pins σ H { s with heap := h' } := I.turned (t' := s.toks) (fun b o hb e => (sb.2 b hb).trans e) f0 f1 f3 f4 f5
    obtain ⟨o, e, c, d⟩ := id st'
    exact ⟨u, rfl, go_of (s := { s with heap := h' }) e c d (by decide) ⟨x, H, I1, ru, ⟨rfl, fun ys hy => by rw [I.list_inj hy hq]; exact hx⟩, st', fun b hb => (hf b hb).1⟩⟩
  done := by
    intro X hP hw hK hc i pins s σ H E I hf st hg
    subst hP hw hK
    obtain ⟨xs, hq, hx⟩ := hg
    obtain ⟨its, rv, p, hz⟩ := I.list hq
    obtain ⟨f0, f1, f2, f3, f4, f5⟩ := hf it (by simp)
    have hl := rv.length
    exact wpAny_pyNext_list_end (I.ok.hd hc) st p.isList (by simp; omega) fun h' eb => ⟨rfl, I.turned (t' := s.toks) (fun b o hb e => eb b o hb e) f0 f1 f3 f4 f5⟩
  self := fun _ _ _ _ _ st h => wpAny_pyIter_listiter st h
theorem turn_tuple {P : Program} {w : World} {K : PySem.W.Frag} {tg : Expr} (a it : Addr) : Turn P w K tg (Itt K a) [it] it (fun i h => h.IsTupleIter it a i) where
  mem := by simp
  obj := fun i h st b hb => by
    have e : b = it := by simpa using hb
    subst e
    obtain ⟨o, e, c, d⟩ := st
    exact ⟨o, e, fun v z => by rw [d] at z; cases z⟩
  keep := fun i h h' st k => st.at fun o e => k it (by simp) o e
  item := by
    intro X hP hw hK hc i pins s σ H E I hf st hg
    subst hP hw hK
    obtain ⟨xs, x, hq, hx⟩ := hg
    obtain ⟨its, rv, p, hz⟩ := I.tuple hq
    obtain ⟨u, hu, ru⟩ := rv.get hx
    obtain ⟨f0, f1, f2, f3, f4, f5⟩ := hf it (by simp)
    refine wpAny_pyNext_tuple_item st (show s.heap.IsTuple a its.toArray from p) (x := u) (by simpa using hu) fun h' st' sb => ?_
    have I1 : Inv X pins σ H { s with heap := h' } := I.turned (t' := s.toks) (fun b o hb e => (sb.2 b hb).trans e) f0 f1 f3 f4 f5
    obtain ⟨o, e, c, d⟩ := id st'
    exact ⟨u, rfl, go_of (s := { s with heap := h' }) e c d (by decide) ⟨x, H, I1, ru, ⟨rfl, fun ys hy => by rw [I.tuple_inj hy hq]; exact hx⟩, st', fun b hb => (hf b hb).1⟩⟩
  done := by
    intro X hP hw hK hc i pins s σ H E I hf st hg
    subst hP hw hK
    obtain ⟨xs, hq, hx⟩ := hg
    obtain ⟨its, rv, p, hz⟩ := I.tuple hq
    obtain ⟨f0, f1, f2, f3, f4, f5⟩ := hf it (by simp)
    have hl := rv.length
    exact wpAny_pyNext_tuple_end (I.ok.hd hc) st (show s.heap.IsTuple a its.toArray from p) (by simp; omega) fun h' eb => ⟨rfl, I.turned (t' := s.toks) (fun b o hb e => eb b o hb e) f0 f1 f3 f4 f5⟩
  self := fun _ _ _ _ _ st h => wpAny_pyIter_tupleiter st h
theorem turn_range {P : Program} {w : World} {K : PySem.W.Frag} {tg : Expr} (it : Addr) (lo : Int) (n : Nat) : Turn P w K tg (Itr lo n) [it] it (fun i h => IsRangeIter h it (lo + (i : Nat) * 1) ((n : Int) - (i : Nat)) 1) where
  mem := by simp
  obj := fun i h st b hb => by
    have e : b = it := by simpa using hb
    subst e
    exact ⟨_, st, fun v z => by
      have z' : Data.fields _ = Data.cell v := z
      cases z'⟩
  keep := fun i h h' st k => k it (by simp) _ st
  item := by
    intro X hP hw hK hc i pins s σ H E I hf st hg
    subst hP hw hK
    obtain ⟨f0, f1, f2, f3, f4, f5⟩ := hf it (by simp)
    have W := Walks.range (prog := X.prog) (w := X.w) (I.ok.hd hc) it lo 1 n
    refine W.item i s _ _ hg st fun v h' tk hv st' kk => ?_
    obtain ⟨t, rfl⟩ := hv
    have I1 : Inv X pins σ H { s with heap := h', toks := tk } := I.turned (fun b o hb e => kk b o (by simpa using hb) e) f0 f1 f3 f4 f5
    refine ⟨_, rfl, go_of (s := { s with heap := h', toks := tk }) (n := "range_iterator") st' rfl rfl (by decide) ⟨.int (lo + i), H, I1, ⟨t, ?_⟩, ⟨rfl, rfl⟩, st', fun b hb => (hf b hb).1⟩⟩
    rw [Int.mul_one]
  done := by
    intro X hP hw hK hc i pins s σ H E I hf st hg
    subst hP hw hK
    obtain ⟨f0, f1, f2, f3, f4, f5⟩ := hf it (by simp)
    exact wpAny_pyNext_range_end (I.ok.hd hc) st (by have : n ≤ i := hg; omega) fun h' eb => ⟨rfl, I.turned (t' := s.toks) (fun b o hb e => eb b o hb e) f0 f1 f3 f4 f5⟩
  self := fun _ _ _ _ _ st h => wpAny_pyIter_rangeiter st h
end L2

namespace L2
open PySem PySem.Spec PyProof.Rows
section
variable {X : Cx} {tg : Expr}
def iList (K : PySem.W.Frag) (tl : TE) : TI := fun σ H R => tl σ H fun x H1 => ∃ a, x = .ref a ∧ (∃ xs, SqL K H1 a xs) ∧ R (Itl K a) H1
def iTup (K : PySem.W.Frag) (tl : TE) : TI := fun σ H R => tl σ H fun x H1 => ∃ a, x = .ref a ∧ (∃ xs, SqT K H1 a xs) ∧ R (Itt K a) H1
theorem pi_list {l : Expr} {tl : TE} (hl : PE X l tl) : PI X tg l (iList X.K tl) := by
  intro pins s σ H R I h
  refine thn (hl pins s σ H _ I h) fun v s1 ⟨x, H1, I1, r1, q1⟩ => ?_
  obtain ⟨a, e, ⟨xs, hq⟩, q⟩ := q1
  subst e
  cases r1
  obtain ⟨its, rv, p, hz⟩ := I1.list hq
  refine wpAny_pyIter_list p.isList ?_
  refine ⟨s1.heap.objs.size, [s1.heap.objs.size], _, _, H1, rfl, I1.kept (t' := s1.toks) fun b o e => Heap.get?_push_of_some _ e, turn_list a _, ⟨_, Heap.get?_push_size _ rfl, rfl, rfl⟩, fun b hb => ?_, q⟩
  have e : b = s1.heap.objs.size := by simpa using hb
  subst e
  exact I1.fpOk (Nat.le_refl _) (I1.hok.fresh (Nat.le_refl _))
theorem pi_tup {l : Expr} {tl : TE} (hl : PE X l tl) : PI X tg l (iTup X.K tl) := by
  intro pins s σ H R I h
  refine thn (hl pins s σ H _ I h) fun v s1 ⟨x, H1, I1, r1, q1⟩ => ?_
  obtain ⟨a, e, ⟨xs, hq⟩, q⟩ := q1
  subst e
  cases r1
  obtain ⟨its, rv, p, hz⟩ := I1.tuple hq
  refine wpAny_pyIter_tuple (show s1.heap.IsTuple a its.toArray from p) ?_
  refine ⟨s1.heap.objs.size, [s1.heap.objs.size], _, _, H1, rfl, I1.kept (t' := s1.toks) fun b o e => Heap.get?_push_of_some _ e, turn_tuple a _, ⟨_, Heap.get?_push_size _ rfl, rfl, rfl⟩, fun b hb => ?_, q⟩
  have e : b = s1.heap.objs.size := by simpa using hb
  subst e
  exact I1.fpOk (Nat.le_refl _) (I1.hok.fresh (Nat.le_refl _))
/-- a range object just made, walked -/
theorem range_it {pins : List (Addr × Obj)} {σ : St} {H : Hp} {s : Shared} {R : It → Hp → Prop} {E : Value → Shared → Prop} {lo hi : Int} {t u v : Tok} {tk : Nat} (I : Inv X pins σ H s) (h1 : -(2 ^ 62) ≤ lo) (h2 : lo < 2 ^ 62) (h3 : -(2 ^ 62) ≤ hi) (h4 : hi < 2 ^ 62)
    (q : R (Itr lo (hi - lo).toNat) H) : wpAny (model X.prog X.w) X.A (pyIter (.ref s.heap.objs.size)) (PIE X pins σ tg R) E { s with heap := s.heap.push { cls := .type "range", data := .fields #[.int lo t, .int hi u, .int 1 v] }, toks := tk } := by
  refine wpAny_pyIter_range (IsRange.new ..) (small_one h1 h2 h3 h4) ?_
  have I1 : Inv X pins σ H { s with heap := s.heap.push { cls := .type "range", data := .fields #[.int lo t, .int hi u, .int 1 v] }, toks := tk } := I.kept fun b o e => Heap.get?_push_of_some _ e
  refine ⟨(s.heap.push { cls := .type "range", data := .fields #[.int lo t, .int hi u, .int 1 v] }).objs.size, [(s.heap.push { cls := .type "range", data := .fields #[.int lo t, .int hi u, .int 1 v] }).objs.size], _, _, H, rfl,
    I1.kept (t' := tk) fun b o e => Heap.get?_push_of_some _ e, turn_range _ lo (hi - lo).toNat, ?_, fun b hb => ?_, q⟩
  · have e1 : lo + ((0 : Nat) : Int) * 1 = lo := by simp
    have e2 : (((hi - lo).toNat : Nat) : Int) - ((0 : Nat) : Int) = Builtin.Range.rangeSize lo hi 1 := by rw [rangeSize_one]; split <;> omega
    show IsRangeIter _ _ (lo + ((0 : Nat) : Int) * 1) ((((hi - lo).toNat : Nat) : Int) - ((0 : Nat) : Int)) 1
    rw [e1, e2]
    exact Heap.get?_push_size _ rfl
  · have e : b = (s.heap.push { cls := .type "range", data := .fields #[.int lo t, .int hi u, .int 1 v] }).objs.size := by simpa using hb
    subst e
    exact I1.fpOk (Nat.le_refl _) (I1.hok.fresh (Nat.le_refl _))
def iRng1 (ta : TA) : TI := fun σ H R => ta σ H fun vs H1 => ∃ j : Int, vs = [.int j] ∧ -(2 ^ 62) ≤ j ∧ j < 2 ^ 62 ∧ R (Itr 0 j.toNat) H1
theorem pi_range1 {a : Expr} {ta : TA} {p pos : Pos} (hg : Gl X "range") (hm : X.mg "range" = none) (ha : PA X [a] ta) (hs : starEach [a] X.env = [(false, eval a X.env)] := by rfl) : PI X tg (.Call (.Name "range" p) [a] [] pos) (iRng1 ta) := by
  intro pins s σ H R I h
  refine Call_ (ld_blt I hg hm boot_range (PyProof.Rows.callWith_type1 (thn (ha pos pins s σ H _ I h) fun us s1 ⟨vs, H1, I1, r1, q1⟩ => ?_) hs rfl))
  obtain ⟨j, e, q1, q2, q⟩ := q1
  subst e
  cases r1 with
  | cons r rr =>
    cases rr
    obtain ⟨t, rfl⟩ := r
    exact call_range_1 (range_it I1 (by omega) (by omega) q1 q2 (by simpa using q))
/-- W: the invariant by the turn and a measure; N: what the body is to reach -/
def tFor (wi : TI) (g : TG) (tb : TS) : TS := fun D σ H => wi σ H fun J H1 => ∃ W : Nat → Nat → St → Hp → Prop, (∃ m, W 0 m σ H1) ∧ ∀ i m σ H, W i m σ H →
  (J.stop i H ∧ D.nx σ H) ∨ (J.go i H ∧ ∃ N : St → Hp → Prop, (∀ σ' H', N σ' H' → ∃ m', m' < m ∧ W (i + 1) m' σ' H') ∧ ∀ x H', J.yld i H x H' → g x σ H' fun σ2 H2 => tb { D with nx := N, ct := N, bk := D.nx } σ2 H2)
/-- the records at fp as they stand -/
def pinsAt (fp : List Addr) (h : Heap) : List (Addr × Obj) := fp.filterMap fun b => (h.get? b).map fun o => (b, o)
theorem mem_pinsAt {fp : List Addr} {h : Heap} {b : Addr} {o : Obj} (hb : b ∈ fp) (e : h.get? b = some o) : (b, o) ∈ pinsAt fp h := List.mem_filterMap.mpr ⟨b, hb, by rw [e]; rfl⟩
theorem of_pinsAt {fp : List Addr} {h : Heap} {p : Addr × Obj} (hp : p ∈ pinsAt fp h) : p.1 ∈ fp ∧ h.get? p.1 = some p.2 := by
  obtain ⟨b, hb, e⟩ := List.mem_filterMap.mp hp
  cases q : h.get? b with
  | none => rw [q] at e; cases e
  | some o =>
    rw [q] at e
    have e' : (b, o) = p := Option.some.inj e
    subst e'
    exact ⟨hb, q⟩
theorem Inv.pinned {pins : List (Addr × Obj)} {σ : St} {H : Hp} {s : Shared} {fp : List Addr} (I : Inv X pins σ H s) (hf : ∀ b ∈ fp, FpOk X pins H b) (ho : ∀ b ∈ fp, ∃ o, s.heap.get? b = some o ∧ ∀ v, o.data ≠ .cell v) : Inv X (pins ++ pinsAt fp s.heap) σ H s :=
  I.pins_of fun p hp => (List.mem_append.mp hp).elim (fun z => I.pin p (List.mem_append_right _ z)) fun z => by
    obtain ⟨hb, e⟩ := of_pinsAt z
    obtain ⟨f0, f1, f2, _⟩ := hf p.1 hb
    obtain ⟨o, e', d⟩ := ho p.1 hb
    rw [e] at e'; cases e'
    exact ⟨e, f0, f1, f2, d⟩
theorem Inv.unpinned {pins pl : List (Addr × Obj)} {σ : St} {H : Hp} {s : Shared} (I : Inv X (pins ++ pl) σ H s) : Inv X pins σ H s := I.pins_of fun p hp => I.pin p (List.mem_append_right _ (List.mem_append_left _ hp))
theorem ps_for {iter : Expr} {body : List Stmt} {wi : TI} {g : TG} {tb : TS} {pos : Pos} (hp : PassesOwn (model X.prog X.w) X.A X.env X.xe) (hc : X.calm = true) (hi : PI X tg iter wi) (hg : PG X tg g) (hb : PSs X body tb)
    (hs : ∀ x, foldedSetIterable iter X.env x = pure x := by intro _; rfl) : PS X (.For tg iter body [] pos) (tFor wi g tb) := by
  intro pins s σ H D I h
  refine wpAny_For (thn (hi pins s σ H _ I h) fun v s1 h1 => thn h1 fun itv s2 h2 => ?_) hs
  obtain ⟨it, fp, tn, J, H2, e, I2, T, st2, f2, W, ⟨m0, w0⟩, turn⟩ := h2
  subst e
  -- what stays true of the iterator's objects through the loop
  have stat : ∀ {H' : Hp}, (∀ b ∈ fp, H' b = none) → ∀ b ∈ fp, FpOk X pins H' b := fun hn b hb => ⟨hn b hb, (f2 b hb).2⟩
  refine codeAny_forLoop_any (fun n s' => ∃ i σ' H', Inv X pins σ' H' s' ∧ tn i s'.heap ∧ (∀ b ∈ fp, H' b = none) ∧ W i n σ' H') ?_ m0 ⟨0, σ, H2, I2, st2, fun b hb => (f2 b hb).1, w0⟩
  rintro n s3 ⟨i, σ3, H3, I3, st3, fr3, w3⟩
  rcases turn i n σ3 H3 w3 with ⟨stop, qn⟩ | ⟨go, N, hN, step⟩
  · refine wpAny_passesOwn hp (thn (T.done X rfl rfl rfl hc i pins s3 σ3 H3 X.xe I3 (stat fr3) st3 stop) fun r s4 ⟨hr, I4⟩ => ?_)
    subst hr
    exact wpAny_execs_nil ⟨σ3, H3, I4, qn⟩
  · refine wpAny_passesOwn hp (thn (T.item X rfl rfl rfl hc i pins s3 σ3 H3 X.xe I3 (stat fr3) st3 go) fun r s4 ⟨u, hr, h4⟩ => ?_)
    subst hr
    refine wpAny_passesOwn hp (thn h4 fun _ s5 ⟨x, H5, I5, r5, y5, st5, fr5⟩ => ?_)
    have I5' := I5.pinned (stat fr5) (T.obj _ _ st5)
    refine wpAny_passesOwn hp (thn (hg _ s5 σ3 H5 x u _ I5' r5 (step x H5 y5)) fun _ s6 ⟨σ6, H6, I6, q6⟩ => ?_)
    refine wpAny_passesOwn hp (thn (hb _ s6 σ6 H6 _ I6 q6) fun f s7 q7 => ?_)
    have again : ∀ {σ7 : St} {H7 : Hp}, Inv X (pins ++ pinsAt fp s5.heap) σ7 H7 s7 → N σ7 H7 → ∃ m, m < n ∧ ∃ i σ' H', Inv X pins σ' H' s7 ∧ tn i s7.heap ∧ (∀ b ∈ fp, H' b = none) ∧ W i m σ' H' := fun {σ7 H7} I7 n7 => by
      obtain ⟨m', hm, w7⟩ := hN σ7 H7 n7
      refine ⟨m', hm, i + 1, σ7, H7, I7.unpinned, T.keep _ _ _ st5 fun b hb o e => (I7.pin (b, o) (List.mem_append_right _ (List.mem_append_right _ (mem_pinsAt hb e)))).1, fun b hb => ?_, w7⟩
      obtain ⟨o, e, d⟩ := T.obj _ _ st5 b hb
      exact (I7.pin (b, o) (List.mem_append_right _ (List.mem_append_right _ (mem_pinsAt hb e)))).2.1
    cases f with
    | next => obtain ⟨σ7, H7, I7, n7⟩ := q7; exact again I7 n7
    | cont => obtain ⟨σ7, H7, I7, n7⟩ := q7; exact again I7 n7
    | brk => obtain ⟨σ7, H7, I7, q7⟩ := q7; exact ⟨σ7, H7, I7.unpinned, q7⟩
    | ret v => obtain ⟨x7, σ7, H7, I7, r7, q7⟩ := q7; exact ⟨x7, σ7, H7, I7.unpinned, r7, q7⟩
end

/-- over a list that the body leaves as it is -/
theorem for_list {K : PySem.W.Frag} {a : Addr} {xs : List V} {g : TG} {tb : TS} {D : Ends} {σ : St} {H : Hp} (Pv : Nat → St → Hp → Prop) (h0 : Pv 0 σ H) (hl : ∀ i σ H, i ≤ xs.length → Pv i σ H → SqL K H a xs)
    (hs : ∀ i x σ H, xs[i]? = some x → Pv i σ H → g x σ H fun σ2 H2 => tb { D with nx := Pv (i + 1), ct := Pv (i + 1), bk := D.nx } σ2 H2) (hd : ∀ σ H, Pv xs.length σ H → D.nx σ H) :
    ∃ W : Nat → Nat → St → Hp → Prop, (∃ m, W 0 m σ H) ∧ ∀ i m σ H, W i m σ H →
      ((Itl K a).stop i H ∧ D.nx σ H) ∨ ((Itl K a).go i H ∧ ∃ N : St → Hp → Prop, (∀ σ' H', N σ' H' → ∃ m', m' < m ∧ W (i + 1) m' σ' H') ∧ ∀ x H', (Itl K a).yld i H x H' → g x σ H' fun σ2 H2 => tb { D with nx := N, ct := N, bk := D.nx } σ2 H2) := by
  refine ⟨fun i m σ H => m = xs.length - i ∧ i ≤ xs.length ∧ Pv i σ H, ⟨xs.length, by simp, Nat.zero_le _, h0⟩, ?_⟩
  rintro i m σ H ⟨rfl, hi, p⟩
  have q := hl i σ H hi p
  by_cases hlt : i < xs.length
  · refine .inr ⟨⟨xs, xs[i], q, by simp [hlt]⟩, Pv (i + 1), fun σ' H' p' => ⟨xs.length - (i + 1), by omega, rfl, hlt, p'⟩, fun x H' y => ?_⟩
    obtain ⟨e, y⟩ := y
    subst e
    exact hs i x σ _ (y xs q) p
  · have e : i = xs.length := by omega
    subst e
    exact .inl ⟨⟨xs, q, Nat.le_refl _⟩, hd σ H p⟩
theorem for_tup {K : PySem.W.Frag} {a : Addr} {xs : List V} {g : TG} {tb : TS} {D : Ends} {σ : St} {H : Hp} (Pv : Nat → St → Hp → Prop) (h0 : Pv 0 σ H) (hl : ∀ i σ H, i ≤ xs.length → Pv i σ H → SqT K H a xs)
    (hs : ∀ i x σ H, xs[i]? = some x → Pv i σ H → g x σ H fun σ2 H2 => tb { D with nx := Pv (i + 1), ct := Pv (i + 1), bk := D.nx } σ2 H2) (hd : ∀ σ H, Pv xs.length σ H → D.nx σ H) :
    ∃ W : Nat → Nat → St → Hp → Prop, (∃ m, W 0 m σ H) ∧ ∀ i m σ H, W i m σ H →
      ((Itt K a).stop i H ∧ D.nx σ H) ∨ ((Itt K a).go i H ∧ ∃ N : St → Hp → Prop, (∀ σ' H', N σ' H' → ∃ m', m' < m ∧ W (i + 1) m' σ' H') ∧ ∀ x H', (Itt K a).yld i H x H' → g x σ H' fun σ2 H2 => tb { D with nx := N, ct := N, bk := D.nx } σ2 H2) := by
  refine ⟨fun i m σ H => m = xs.length - i ∧ i ≤ xs.length ∧ Pv i σ H, ⟨xs.length, by simp, Nat.zero_le _, h0⟩, ?_⟩
  rintro i m σ H ⟨rfl, hi, p⟩
  have q := hl i σ H hi p
  by_cases hlt : i < xs.length
  · refine .inr ⟨⟨xs, xs[i], q, by simp [hlt]⟩, Pv (i + 1), fun σ' H' p' => ⟨xs.length - (i + 1), by omega, rfl, hlt, p'⟩, fun x H' y => ?_⟩
    obtain ⟨e, y⟩ := y
    subst e
    exact hs i x σ _ (y xs q) p
  · have e : i = xs.length := by omega
    subst e
    exact .inl ⟨⟨xs, q, Nat.le_refl _⟩, hd σ H p⟩
theorem for_range {lo : Int} {n : Nat} {g : TG} {tb : TS} {D : Ends} {σ : St} {H : Hp} (Pv : Nat → St → Hp → Prop) (h0 : Pv 0 σ H)
    (hs : ∀ i σ H, i < n → Pv i σ H → g (.int (lo + i)) σ H fun σ2 H2 => tb { D with nx := Pv (i + 1), ct := Pv (i + 1), bk := D.nx } σ2 H2) (hd : ∀ σ H, Pv n σ H → D.nx σ H) :
    ∃ W : Nat → Nat → St → Hp → Prop, (∃ m, W 0 m σ H) ∧ ∀ i m σ H, W i m σ H →
      ((Itr lo n).stop i H ∧ D.nx σ H) ∨ ((Itr lo n).go i H ∧ ∃ N : St → Hp → Prop, (∀ σ' H', N σ' H' → ∃ m', m' < m ∧ W (i + 1) m' σ' H') ∧ ∀ x H', (Itr lo n).yld i H x H' → g x σ H' fun σ2 H2 => tb { D with nx := N, ct := N, bk := D.nx } σ2 H2) := by
  refine ⟨fun i m σ H => m = n - i ∧ i ≤ n ∧ Pv i σ H, ⟨n, by simp, Nat.zero_le _, h0⟩, ?_⟩
  rintro i m σ H ⟨rfl, hi, p⟩
  by_cases hlt : i < n
  · refine .inr ⟨hlt, Pv (i + 1), fun σ' H' p' => ⟨n - (i + 1), by omega, rfl, hlt, p'⟩, fun x H' y => ?_⟩
    obtain ⟨e, y⟩ := y
    subst e y
    exact hs i σ _ hlt p
  · have e : i = n := by omega
    subst e
    exact .inl ⟨Nat.le_refl _, hd σ H p⟩
/-- while, by a word and a measure of the state -/
theorem while_by {c : TT} {tb : TS} {D : Ends} {σ : St} {H : Hp} (Pv : St → Hp → Prop) (μ : St → Hp → Nat) (h0 : Pv σ H)
    (hs : ∀ σ H, Pv σ H → c σ H fun b H1 => if b = true then tb { D with nx := fun σ' H' => Pv σ' H' ∧ μ σ' H' < μ σ H, ct := fun σ' H' => Pv σ' H' ∧ μ σ' H' < μ σ H, bk := D.nx } σ H1 else D.nx σ H1)
    (mono : ∀ σ H Q Q', (∀ b H1, Q b H1 → Q' b H1) → c σ H Q → c σ H Q') : tWhile c tb D σ H := by
  refine ⟨fun m σ H => m = μ σ H ∧ Pv σ H, ⟨_, rfl, h0⟩, ?_⟩
  rintro m σ H ⟨rfl, p⟩
  refine mono σ H _ _ (fun b H1 q => ?_) (hs σ H p)
  cases b with
  | true => exact ⟨_, fun σ' H' ⟨p', l⟩ => ⟨_, l, rfl, p'⟩, q⟩
  | false => exact q
end L2

namespace L2
open PySem PySem.Spec PyProof.Rows

abbrev R2 := V → V → Hp → VK → Prop
/-- a two-place operation on values: f is binaryOp op, inplaceOp op or compareOp op -/
def OpR (X : Cx) (f : Value → Value → Sem Value) (r : R2) : Prop :=
  ∀ (pins : List (Addr × Obj)) (s : Shared) (σ : St) (H : Hp) (x y : V) (v u : Value) (Q : VK), Inv X pins σ H s → RelV x v → RelV y u → r x y H Q →
    wpAny (model X.prog X.w) X.A (f v u) (EP X pins σ Q) X.xe s
/-- a one-place operation -/
def UnR (X : Cx) (f : Value → Sem Value) (r : V → Hp → VK → Prop) : Prop :=
  ∀ (pins : List (Addr × Obj)) (s : Shared) (σ : St) (H : Hp) (x : V) (v : Value) (Q : VK), Inv X pins σ H s → RelV x v → r x H Q →
    wpAny (model X.prog X.w) X.A (f v) (EP X pins σ Q) X.xe s
/-- a call of a value that is known (a builtin, a type) with values -/
def CallR (X : Cx) (f : Value) (r : List V → Hp → VK → Prop) : Prop :=
  ∀ (pins : List (Addr × Obj)) (s : Shared) (σ : St) (H : Hp) (xs : List V) (us : List Value) (Q : VK), Inv X pins σ H s → Vals xs us → r xs H Q →
    wpAny (model X.prog X.w) X.A (call f us) (EP X pins σ Q) X.xe s
def tOp (r : R2) (ta tb : TE) : TE := fun σ H Q => ta σ H fun x H1 => tb σ H1 fun y H2 => r x y H2 Q
def tUn (r : V → Hp → VK → Prop) (ta : TE) : TE := fun σ H Q => ta σ H fun x H1 => r x H1 Q
/-- ints in, under C, and a value out -/
def rI (C : Int → Int → Prop) (g : Int → Int → V) : R2 := fun x y H Q => ∃ i j, x = .int i ∧ y = .int j ∧ C i j ∧ Q (g i j) H
def rI0 (g : Int → Int → V) : R2 := fun x y H Q => ∃ i j, x = .int i ∧ y = .int j ∧ Q (g i j) H
def rU (g : Int → V) : V → Hp → VK → Prop := fun x H Q => ∃ i, x = .int i ∧ Q (g i) H

section
variable {X : Cx} {a b c : Expr} {ta tb tc : TE} {pos : Pos}

theorem binT (ha : PE X a ta) (hb : PE X b tb) {pins : List (Addr × Obj)} {s : Shared} {σ : St} {H : Hp} {R : V → V → Hp → Prop} (I : Inv X pins σ H s)
    (h : ta σ H fun x H1 => tb σ H1 fun y H2 => R x y H2) {Q : Value → Shared → Prop} {f : Value → Value → Sem Value}
    (hf : ∀ v u s2 x y H2, Inv X pins σ H2 s2 → RelV x v → RelV y u → R x y H2 → wpAny (model X.prog X.w) X.A (f v u) Q X.xe s2) :
    wpAny (model X.prog X.w) X.A (eval a X.env) (fun v s₁ => wpAny (model X.prog X.w) X.A (eval b X.env) (fun u s₂ => wpAny (model X.prog X.w) X.A (f v u) Q X.xe s₂) X.xe s₁) X.xe s := by
  refine thn (ha pins s σ H _ I h) fun v s1 ⟨x, H1, I1, r1, q1⟩ => ?_
  refine thn (hb pins s1 σ H1 _ I1 q1) fun u s2 ⟨y, H2, I2, r2, q2⟩ => ?_
  exact hf v u s2 x y H2 I2 r1 r2 q2

theorem pe_op {op : Operator} {r : R2} (ho : OpR X (binaryOp op) r) (ha : PE X a ta) (hb : PE X b tb) : PE X (.BinOp a op b pos) (tOp r ta tb) := by
  intro pins s σ H Q I h
  exact wpAny_BinOp (binT ha hb I h fun v u s2 x y H2 I2 rx ry q => ho pins s2 σ H2 x y v u Q I2 rx ry q)
theorem pe_un {op : UnaryOp} {r : V → Hp → VK → Prop} (ho : UnR X (unaryOp op) r) (ha : PE X a ta) : PE X (.UnaryOp op a pos) (tUn r ta) := by
  intro pins s σ H Q I h
  exact UnaryOp_ (thn (ha pins s σ H _ I h) fun v s1 ⟨x, H1, I1, r1, q1⟩ => ho pins s1 σ H1 x v Q I1 r1 q1)
theorem opI {f : Value → Value → Sem Value} {C : Int → Int → Prop} {g : Int → Int → Int}
    (rule : ∀ (i j : Int) (t u : Tok) (s : Shared) (Q : Value → Shared → Prop) (E : Value → Shared → Prop), C i j → Q (.int (g i j) s.toks) { s with toks := s.toks + 1 } → wpAny (model X.prog X.w) X.A (f (.int i t) (.int j u)) Q E s) :
    OpR X f (rI C fun i j => .int (g i j)) := by
  intro pins s σ H x y v u Q I rx ry h
  obtain ⟨i, j, rfl, rfl, hc, q⟩ := h
  obtain ⟨t, rfl⟩ := rx
  obtain ⟨t', rfl⟩ := ry
  exact rule i j t t' s _ _ hc ⟨.int (g i j), H, I.tok _, ⟨_, rfl⟩, q⟩
theorem opI0 {f : Value → Value → Sem Value} {g : Int → Int → Int}
    (rule : ∀ (i j : Int) (t u : Tok) (s : Shared) (Q : Value → Shared → Prop) (E : Value → Shared → Prop), Q (.int (g i j) s.toks) { s with toks := s.toks + 1 } → wpAny (model X.prog X.w) X.A (f (.int i t) (.int j u)) Q E s) :
    OpR X f (rI0 fun i j => .int (g i j)) := by
  intro pins s σ H x y v u Q I rx ry h
  obtain ⟨i, j, rfl, rfl, q⟩ := h
  obtain ⟨t, rfl⟩ := rx
  obtain ⟨t', rfl⟩ := ry
  exact rule i j t t' s _ _ ⟨.int (g i j), H, I.tok _, ⟨_, rfl⟩, q⟩
theorem opB0 {f : Value → Value → Sem Value} {g : Int → Int → Bool}
    (rule : ∀ (i j : Int) (t u : Tok) (s : Shared) (Q : Value → Shared → Prop) (E : Value → Shared → Prop), Q (.bool (g i j)) s → wpAny (model X.prog X.w) X.A (f (.int i t) (.int j u)) Q E s) :
    OpR X f (rI0 fun i j => .bl (g i j)) := by
  intro pins s σ H x y v u Q I rx ry h
  obtain ⟨i, j, rfl, rfl, q⟩ := h
  obtain ⟨t, rfl⟩ := rx
  obtain ⟨t', rfl⟩ := ry
  exact rule i j t t' s _ _ ⟨.bl (g i j), H, I, rfl, q⟩

def CMul (i j : Int) : Prop := (-(2 ^ 64) < i ∧ i < 2 ^ 64) ∨ (-(2 ^ 64) < j ∧ j < 2 ^ 64)
theorem CMul.ok {i j : Int} (h : CMul i j) : IntMulOk i j := by
  rcases h with ⟨h1, h2⟩ | ⟨h1, h2⟩
  · exact .of_left (intBits_le_64 h1 h2)
  · exact .of_right (intBits_le_64 h1 h2)
theorem op_add : OpR X (binaryOp .Add) (rI0 fun i j => .int (i + j)) := opI0 fun _ _ _ _ _ _ _ q => add_int q
theorem op_sub : OpR X (binaryOp .Sub) (rI0 fun i j => .int (i - j)) := opI0 fun _ _ _ _ _ _ _ q => sub_int q
/-- % by a positive divisor of any size -/
theorem op_mod : OpR X (binaryOp .Mod) (rI (fun _ j => 0 < j) fun i j => .int (i % j)) := opI fun i j _ _ _ _ _ hc q => by
  have h1 : (0 : Int) < j := hc
  exact mod_int' (by omega) (by rw [Int.fmod_eq_emod_of_nonneg i (by omega)]; exact q)
theorem unI {f : Value → Sem Value} {g : Int → Int}
    (rule : ∀ (i : Int) (t : Tok) (s : Shared) (Q : Value → Shared → Prop) (E : Value → Shared → Prop), Q (.int (g i) s.toks) { s with toks := s.toks + 1 } → wpAny (model X.prog X.w) X.A (f (.int i t)) Q E s) :
    UnR X f (rU fun i => .int (g i)) := by
  intro pins s σ H x v Q I rx h
  obtain ⟨i, rfl, q⟩ := h
  obtain ⟨t, rfl⟩ := rx
  exact rule i t s _ _ ⟨.int (g i), H, I.tok _, ⟨_, rfl⟩, q⟩
theorem un_neg : UnR X (unaryOp .USub) (rU fun i => .int (-i)) := unI fun _ _ _ _ _ q => neg_int q
end

/-- the scalars that == tells apart as data does -/
def scal : V → V → Bool
  | .non, .non => true | .non, .int _ => true | .int _, .non => true | .non, .bl _ => true | .bl _, .non => true | .non, .str _ => true | .str _, .non => true
  | .int _, .int _ => true | .bl _, .bl _ => true | .str _, .str _ => true | .byt _, .byt _ => true
  | .int _, .str _ => true | .str _, .int _ => true | .bl _, .str _ => true | .str _, .bl _ => true
  | _, _ => false
def rEq : R2 := fun x y H Q => scal x y = true ∧ Q (.bl (decide (x = y))) H
def rNe : R2 := fun x y H Q => scal x y = true ∧ Q (.bl (!decide (x = y))) H

theorem dec_int {i j : Int} : decide (V.int i = V.int j) = (i == j) := by
  rw [Bool.eq_iff_iff]
  simp
theorem dec_bl {i j : Bool} : decide (V.bl i = V.bl j) = (i == j) := by
  rw [Bool.eq_iff_iff]
  simp
theorem dec_str {i j : Str} : decide (V.str i = V.str j) = (i == j) := by
  rw [Bool.eq_iff_iff]
  simp
theorem dec_byt {i j : Array UInt8} : decide (V.byt i = V.byt j) = (i.toList == j.toList) := by
  rw [Bool.eq_iff_iff]
  cases i
  cases j
  simp

section
variable {X : Cx} {a b c : Expr} {ta tb tc : TE} {pos : Pos}
theorem fin_bl {pins : List (Addr × Obj)} {σ : St} {H : Hp} {s : Shared} {Q : VK} {k k' : Bool} (I : Inv X pins σ H s) (q : Q (.bl k) H) (e : k = k') : EP X pins σ Q (.bool k') s := by
  subst e
  exact ⟨.bl k, H, I, rfl, q⟩
theorem op_eq : OpR X (compareOp .Eq) rEq := by
  intro pins s σ H x y v u Q I rx ry h
  obtain ⟨hs, q⟩ := h
  cases x with
  | non =>
    cases rx
    cases y with
    | non => cases ry; exact PySem.EqNone.eq_none_none (fin_bl I q (by simp))
    | bl j => cases ry; exact PySem.EqNone.eq_none_bool (fin_bl I q (by simp))
    | int j => obtain ⟨t', rfl⟩ := ry; exact PySem.EqNone.eq_none_int (fin_bl I q (by simp))
    | str j => obtain ⟨t', rfl⟩ := ry; exact PySem.EqNone.eq_none_str (fin_bl I q (by simp))
    | _ => exact absurd (show false = true from hs) Bool.false_ne_true
  | bl i =>
    cases rx
    cases y with
    | non => cases ry; exact PySem.EqNone.eq_bool_none (fin_bl I q (by simp))
    | bl j => cases ry; exact eq_bool (fin_bl I q dec_bl)
    | str j => obtain ⟨t', rfl⟩ := ry; exact PySem.EqMixed.eq_bool_str (fin_bl I q (by simp))
    | _ => exact absurd (show false = true from hs) Bool.false_ne_true
  | int i =>
    obtain ⟨t, rfl⟩ := rx
    cases y with
    | non => cases ry; exact PySem.EqNone.eq_int_none (fin_bl I q (by simp))
    | int j => obtain ⟨t', rfl⟩ := ry; exact eq_int (fin_bl I q dec_int)
    | str j => obtain ⟨t', rfl⟩ := ry; exact PySem.EqMixed.eq_int_str (fin_bl I q (by simp))
    | _ => exact absurd (show false = true from hs) Bool.false_ne_true
  | str i =>
    obtain ⟨t, rfl⟩ := rx
    cases y with
    | non => cases ry; exact PySem.EqNone.eq_str_none (fin_bl I q (by simp))
    | bl j => cases ry; exact PySem.EqMixed.eq_str_bool (fin_bl I q (by simp))
    | int j => obtain ⟨t', rfl⟩ := ry; exact PySem.EqMixed.eq_str_int (fin_bl I q (by simp))
    | str j => obtain ⟨t', rfl⟩ := ry; exact eq_str (fin_bl I q dec_str)
    | _ => exact absurd (show false = true from hs) Bool.false_ne_true
  | byt i =>
    obtain ⟨t, rfl⟩ := rx
    cases y with
    | byt j => obtain ⟨t', rfl⟩ := ry; exact PySem.W.eq_bytes (fin_bl I q dec_byt)
    | _ => exact absurd (show false = true from hs) Bool.false_ne_true
  | _ => cases y <;> exact absurd (show false = true from hs) Bool.false_ne_true
theorem op_ne : OpR X (compareOp .NotEq) rNe := by
  intro pins s σ H x y v u Q I rx ry h
  obtain ⟨hs, q⟩ := h
  cases x with
  | non =>
    cases rx
    cases y with
    | non => cases ry; exact PySem.EqNone.ne_none_none (fin_bl I q (by simp))
    | bl j => cases ry; exact PySem.EqNone.ne_none_bool (fin_bl I q (by simp))
    | int j => obtain ⟨t', rfl⟩ := ry; exact PySem.EqNone.ne_none_int (fin_bl I q (by simp))
    | str j => obtain ⟨t', rfl⟩ := ry; exact PySem.EqNone.ne_none_str (fin_bl I q (by simp))
    | _ => exact absurd (show false = true from hs) Bool.false_ne_true
  | bl i =>
    cases rx
    cases y with
    | non => cases ry; exact PySem.EqNone.ne_bool_none (fin_bl I q (by simp))
    | bl j => cases ry; exact ne_bool (fin_bl I q (congrArg not dec_bl))
    | str j => obtain ⟨t', rfl⟩ := ry; exact PySem.EqMixed.ne_bool_str (fin_bl I q (by simp))
    | _ => exact absurd (show false = true from hs) Bool.false_ne_true
  | int i =>
    obtain ⟨t, rfl⟩ := rx
    cases y with
    | non => cases ry; exact PySem.EqNone.ne_int_none (fin_bl I q (by simp))
    | int j => obtain ⟨t', rfl⟩ := ry; exact ne_int (fin_bl I q (congrArg not dec_int))
    | str j => obtain ⟨t', rfl⟩ := ry; exact PySem.EqMixed.ne_int_str (fin_bl I q (by simp))
    | _ => exact absurd (show false = true from hs) Bool.false_ne_true
  | str i =>
    obtain ⟨t, rfl⟩ := rx
    cases y with
    | non => cases ry; exact PySem.EqNone.ne_str_none (fin_bl I q (by simp))
    | bl j => cases ry; exact PySem.EqMixed.ne_str_bool (fin_bl I q (by simp))
    | int j => obtain ⟨t', rfl⟩ := ry; exact PySem.EqMixed.ne_str_int (fin_bl I q (by simp))
    | str j => obtain ⟨t', rfl⟩ := ry; exact ne_str (fin_bl I q (congrArg not dec_str))
    | _ => exact absurd (show false = true from hs) Bool.false_ne_true
  | byt i =>
    obtain ⟨t, rfl⟩ := rx
    cases y with
    | byt j => obtain ⟨t', rfl⟩ := ry; exact PySem.W.ne_bytes (fin_bl I q (congrArg not dec_byt))
    | _ => exact absurd (show false = true from hs) Bool.false_ne_true
  | _ => cases y <;> exact absurd (show false = true from hs) Bool.false_ne_true

theorem op_lt : OpR X (compareOp .Lt) (rI0 fun i j => .bl (decide (i < j))) := opB0 fun _ _ _ _ _ _ _ q => lt_int q
theorem op_gt : OpR X (compareOp .Gt) (rI0 fun i j => .bl (decide (j < i))) := opB0 fun _ _ _ _ _ _ _ q => gt_int q
/-- two rules for one operation: by cases -/
theorem OpR.or {f : Value → Value → Sem Value} {r r' : R2} (h : OpR X f r) (h' : OpR X f r') : OpR X f (fun x y H Q => r x y H Q ∨ r' x y H Q) := by
  intro pins s σ H x y v u Q I rx ry q
  rcases q with q | q
  · exact h pins s σ H x y v u Q I rx ry q
  · exact h' pins s σ H x y v u Q I rx ry q

theorem nomark (b : Expr) {op : CmpOp} (h : op ≠ .In := by decide) (h2 : op ≠ .NotIn := by decide) : behindInMarks op b = false := by
  have e1 : (op == CmpOp.In) = false := by cases op <;> first | rfl | exact absurd rfl h
  have e2 : (op == CmpOp.NotIn) = false := by cases op <;> first | rfl | exact absurd rfl h2
  cases b <;> simp [behindInMarks, e1, e2]
/-- a comparison as a value; hm: nomark b, or (for in, not in) by with_unfolding_all rfl -/
theorem pe_cmpR {op : CmpOp} {r : R2} (ho : OpR X (compareOp op) r) (ha : PE X a ta) (hb : PE X b tb) (hm : behindInMarks op b = false) : PE X (.Compare a [op] [b] pos) (tOp r ta tb) := by
  intro pins s σ H Q I h
  exact wpAny_Compare1 (binT ha hb I h fun v u s2 x y H2 I2 rx ry q => ho pins s2 σ H2 x y v u Q I2 rx ry q) hm
/-- a reading of a value as a test -/
def tTest (t : TE) : TT := fun σ H Q => t σ H fun x H' => ∃ k, x = .bl k ∧ Q k H'
theorem pt_cmpR {op : CmpOp} {r : R2} (ho : OpR X (compareOp op) r) (ha : PE X a ta) (hb : PE X b tb) (hm : behindInMarks op b = false) : PT X (.Compare a [op] [b] pos) (tTest (tOp r ta tb)) := by
  intro pins s σ H Q I h
  refine wpAny_isTrue_Compare1 (thn (ha pins s σ H _ I h) fun v s1 ⟨x, H1, I1, r1, q1⟩ => thn (hb pins s1 σ H1 _ I1 q1) fun u s2 ⟨y, H2, I2, r2, q2⟩ =>
    thn (ho pins s2 σ H2 x y v u _ I2 r1 r2 q2) fun c s3 ⟨z, H3, I3, r3, k, e, q3⟩ => ?_) hm
  subst e
  cases r3
  exact wpAny_truthy_bool ⟨H3, I3, q3⟩
theorem line63 : (sizeLine : Nat) < 2 ^ 63 := by rw [sizeLine_eq]; decide
theorem vals1 {x : V} {us : List Value} (r : Vals [x] us) : ∃ u, us = [u] ∧ RelV x u := by
  cases r with
  | cons r1 r2 => cases r2; exact ⟨_, rfl, r1⟩
theorem vals2 {x y : V} {us : List Value} (r : Vals [x, y] us) : ∃ u w', us = [u, w'] ∧ RelV x u ∧ RelV y w' := by
  cases r with
  | cons r1 r2 =>
    cases r2 with
    | cons r3 r4 => cases r4; exact ⟨_, _, rfl, r1, r3⟩
theorem call_abs : CallR X (.builtin "abs") (fun xs H Q => ∃ i, xs = [.int i] ∧ Q (.int (if i < 0 then -i else i)) H) := by
  intro pins s σ H xs us Q I r h
  obtain ⟨i, rfl, q⟩ := h
  obtain ⟨u, rfl, t, rfl⟩ := vals1 r
  exact call_abs_int fun u tk => ⟨.int (if i < 0 then -i else i), H, I.tok _, ⟨_, rfl⟩, q⟩
theorem call_int1 : CallR X (.type "int") (fun xs H Q => (∃ i, xs = [.int i] ∧ Q (.int i) H) ∨ ∃ k, xs = [.bl k] ∧ Q (.int (if k then 1 else 0)) H) := by
  intro pins s σ H xs us Q I r h
  rcases h with ⟨i, rfl, q⟩ | ⟨k, rfl, q⟩
  · obtain ⟨u, rfl, t, rfl⟩ := vals1 r
    exact call_int_int ⟨.int i, H, I, ⟨_, rfl⟩, q⟩
  · obtain ⟨u, rfl, r1⟩ := vals1 r
    cases r1
    exact call_int_bool ⟨.int (if k then 1 else 0), H, I.tok _, ⟨_, rfl⟩, q⟩
end
end L2

namespace L2
open PySem PySem.Spec PyProof.Rows

structure ObjM (h : Heap) (x dx C : Addr) (mA : Str → Option Value) : Prop where
  obj : h.get? x = some (PySem.W.instObj C dx)
  ns : h.Ns1 dx mA
  ne : dx ≠ x

theorem lookIn_ns {h : Heap} {dx : Addr} {mA : Str → Option Value} (n : h.Ns1 dx mA) : ∃ od, h.get? dx = some od ∧ ∀ name, PySem.W.lookIn name od = some (mA name) := by
  obtain ⟨o, es, ep, ho, hd, hk, _, hm⟩ := n
  refine ⟨o, ho, fun name => ?_⟩
  have e := hm name
  unfold nsFind findBy at e
  rw [← Array.find?_toList] at e
  unfold PySem.W.lookIn
  rw [hd]
  dsimp only
  split
  · rename_i y q
    rw [q] at e
    exact congrArg some e
  · rename_i q
    rw [q] at e
    have a : es.toList.any (·.refKey) = false := by
      rw [List.any_eq_false]
      intro y hy
      obtain ⟨z, t, hkey⟩ := hk y (Array.mem_toList_iff.mp hy)
      simp [DictEntry.refKey, hkey]
    have a' : ¬ es.toList.any (·.refKey) = true := by rw [a]; exact Bool.false_ne_true
    rw [if_neg a']
    exact congrArg some e

theorem ObjM.look {h : Heap} {x dx C : Addr} {mA : Str → Option Value} (I : ObjM h x dx C mA) : ∃ od, PySem.W.InstAt h x (PySem.W.instObj C dx) C (some od) ∧ ∀ name, PySem.W.lookIn name od = some (mA name) :=
  let ⟨od, ho, hl⟩ := lookIn_ns I.ns
  ⟨od, ⟨I.obj, rfl, rfl, ho⟩, hl⟩

section
variable {prog : Program} {w : World} {A : Around} {E : Value → Shared → Prop} {s : Shared} {K : PySem.W.Frag} {x dx C f : Addr} {mA : Str → Option Value} {name : Str} {v : Value}

theorem get_map {expr : Bool} {Q : Value → Shared → Prop} (X : K.In s.heap) (I : ObjM s.heap x dx C mA) (hg : PySem.W.plainGet K C name = true) (hh : PySem.W.hasDictIn K C = true)
    (ha : PySem.W.findIn K (.ref C) name = some none) (hv : mA name = some v) (hv' : PySem.W.handedIn v = true) (h : Q v { s with toks := s.toks + 1 }) :
    wpAny (model prog w) A (getAttr (.ref x) name expr) Q E s := by
  obtain ⟨od, J, hl⟩ := I.look
  exact PySem.W.get_value X J (PySem.W.plainGet_of hg).1 (PySem.W.findObj_own hh ha rfl (by rw [hl, hv])) hv' h

theorem set_map {ns : List Str} {Q : Unit → Shared → Prop} (X : K.In s.heap) (I : ObjM s.heap x dx C mA)
    (hs : PySem.W.findIn K (.ref C) "__setattr__" = some (some (.builtin "object.__setattr__"))) (hp : PySem.W.plainOver K C = true) (ht : PySem.W.takerIn K C name = some none) (hh : PySem.W.hasDictIn K C = true)
    (hw : PySem.Within mA ns) (hsz : ns.length ≤ sizeLine)
    (h : ∀ h', ObjM h' x dx C (fun y => if y = name then some v else mA y) → Heap.SameBut dx s.heap h' → Q () { s with heap := h', toks := s.toks + 2 }) :
    wpAny (model prog w) A (setAttr (.ref x) name v) Q E s := by
  obtain ⟨od, J, hl⟩ := I.look
  refine PySem.W.set_plain X J hs (PySem.W.osa_open (s := { s with toks := s.toks + 1 }) (r := none) X J hp ht fun b => ?_)
  obtain ⟨cd, hc, hd'⟩ := PySem.W.any_some hh
  have hx : s.heap.get? x = some ⟨.ref C, some dx, .plain, #[]⟩ := I.obj
  refine wpAny_bind (wpAny_pure (wpAny_bind (wpAny_bind (wpAny_loadPart hx (wpAny_bind (PySem.W.Looks.here (s := { s with toks := s.toks + 1 }) (PySem.W.looks_clsIn X hc) ?_))))))
  rw [hd']
  refine wpAny_pure (a := some dx) (wpAny_bind (wpAny_pure (wpAny_bind ?_)))
  refine wpAny_nsSet1 (s := { s with toks := s.toks + 1 }) I.ns fun h' hn2 hs2 => ?_
  obtain ⟨oD, esD, epD, hoD, hdD, hcD⟩ := hn2.count (PySem.Within.cons name v hw)
  refine wpAny_bind (wpAny_lookBehind hoD (by rw [hdD]; exact pastItsLine_dict (Nat.le_trans hcD (by rw [List.length_cons]; omega))) ?_)
  exact wpAny_pure (h _ ⟨(hs2.2 _ (Ne.symm I.ne)).trans I.obj, hn2, I.ne⟩ hs2)

/-- C(..): the dict at the heap's end, the instance behind it; then its __init__ -/
theorem make_map {R : Result → Shared → Prop} {vs : List Value} {kw : List (Str × Value)} (X : K.In s.heap) (hm : PySem.W.makesIn K C = true)
    (hi : PySem.W.findIn K (.ref C) "__init__" = some (some (.ref f))) (hf : PySem.W.typeIn K (.ref f) = some (.type "function"))
    (h : codeAny (model prog w) (A.under (.builtin "type.__call__" ⟨.ref C :: vs, kw⟩)) (.call (.ref f) ⟨.ref (s.heap.objs.size + 1) :: vs, kw⟩) (PySem.W.InitBack (s.heap.objs.size + 1) R)
      { s with heap := (s.heap.push PySem.W.emptyDict).push (PySem.W.instObj C s.heap.objs.size) }) :
    codeAny (model prog w) A (.call (.ref C) ⟨vs, kw⟩) R s := by
  obtain ⟨hh, g, d, t, os⟩ := s
  exact PySem.W.make_core (PySem.W.makes_of X hm) (PySem.W.looks_findIn X hi) (fun self => PySem.W.bind_fn X self hf) (.inl rfl) h
end

def putF (f : Str) (v : V) : List (Str × V) → List (Str × V)
  | [] => [(f, v)]
  | (g, x) :: r => if g = f then (g, v) :: r else (g, x) :: putF f v r
theorem lookup_putF (f g : Str) (v : V) : ∀ fs : List (Str × V), (putF f v fs).lookup g = if g = f then some v else fs.lookup g
  | [] => by
    show List.lookup g [(f, v)] = _
    by_cases h : g = f
    · have hb : (g == f) = true := beq_iff_eq.mpr h
      simp only [List.lookup, hb, if_pos h]
    · have hb : (g == f) = false := beq_eq_false_iff_ne.mpr h
      simp only [List.lookup, hb, if_neg h]
  | (k, x) :: r => by
    have ih := lookup_putF f g v r
    rw [show putF f v ((k, x) :: r) = (if k = f then (k, v) :: r else (k, x) :: putF f v r) from rfl]
    by_cases hk : k = f
    · rw [if_pos hk]
      by_cases h : g = k
      · have hb : (g == k) = true := beq_iff_eq.mpr h
        simp only [List.lookup, hb, if_pos (h.trans hk)]
      · have hb : (g == k) = false := beq_eq_false_iff_ne.mpr h
        simp only [List.lookup, hb, if_neg (fun e : g = f => h (e.trans hk.symm))]
    · rw [if_neg hk]
      by_cases h : g = k
      · have hb : (g == k) = true := beq_iff_eq.mpr h
        simp only [List.lookup, hb, if_neg (fun e : g = f => hk (h.symm.trans e))]
      · have hb : (g == k) = false := beq_eq_false_iff_ne.mpr h
        simp only [List.lookup, hb]
        exact ih
theorem keys_putF (f : Str) (v : V) : ∀ fs : List (Str × V), f ∈ (putF f v fs).map (·.1) ∧ ∀ g, g ∈ fs.map (·.1) → g ∈ (putF f v fs).map (·.1)
  | [] => ⟨by simp [putF], fun g h => by simp at h⟩
  | (k, x) :: r => by
    obtain ⟨i1, i2⟩ := keys_putF f v r
    rw [show putF f v ((k, x) :: r) = (if k = f then (k, v) :: r else (k, x) :: putF f v r) from rfl]
    by_cases hk : k = f
    · rw [if_pos hk]
      subst hk
      exact ⟨by simp, fun g h => by simpa using h⟩
    · rw [if_neg hk]
      refine ⟨?_, fun g h => ?_⟩
      · rw [List.map_cons]
        exact List.mem_cons_of_mem _ i1
      · rw [List.map_cons] at h ⊢
        rcases List.mem_cons.mp h with e | e
        · exact List.mem_cons.mpr (.inl e)
        · exact List.mem_cons_of_mem _ (i2 g e)
theorem length_putF (f : Str) (v : V) : ∀ fs : List (Str × V), (putF f v fs).length ≤ fs.length + 1
  | [] => by simp [putF]
  | (k, x) :: r => by
    have ih := length_putF f v r
    rw [show putF f v ((k, x) :: r) = (if k = f then (k, v) :: r else (k, x) :: putF f v r) from rfl]
    by_cases hk : k = f
    · rw [if_pos hk, List.length_cons, List.length_cons]; omega
    · rw [if_neg hk, List.length_cons, List.length_cons]; omega

theorem RelO.some_of {v : V} {o : Option Value} (r : RelO (some v) o) : ∃ u, o = some u ∧ RelV v u := by
  cases o with
  | none => exact (show False from r).elim
  | some u => exact ⟨u, rfl, r⟩
theorem handed_of {v : V} {u : Value} (r : RelV v u) : PySem.W.handedIn u = true := by
  cases v with
  | non => cases (show u = Value.none from r); rfl
  | bl b => cases (show u = Value.bool b from r); rfl
  | int i => obtain ⟨t, e⟩ := (show ∃ t, u = Value.int i t from r); cases e; rfl
  | str x => obtain ⟨t, e⟩ := (show ∃ t, u = Value.str x t from r); cases e; rfl
  | byt b => obtain ⟨t, e⟩ := (show ∃ t, u = Value.bytes b t from r); cases e; rfl
  | flt b => obtain ⟨t, e⟩ := (show ∃ t, u = Value.float b t from r); cases e; rfl
  | ref a => cases (show u = Value.ref a from r); rfl
  | ty n => cases (show u = Value.type n from r); rfl

section
variable {P : Program} {w : World} {H H' : Hp} {h h' : Heap} {a C dx : Addr} {fs fs' : List (Str × V)}
theorem ins_get (hok : HOk P w H h) (e : H a = some (.ins C dx fs)) : ∃ mA, ObjM h a dx C mA ∧ (∀ f, RelO (fs.lookup f) (mA f)) ∧ PySem.Within mA (fs.map (·.1)) ∧ fs.length ≤ 1000 ∧ H dx = some (.own a) := by
  obtain ⟨d, z, ne, ob, mA, n, r, q⟩ := (show ObjOk P w H h a (.ins C dx fs) from hok a _ e)
  exact ⟨mA, ⟨ob, n, ne⟩, r, q, z, d⟩
end

structure Cls (K : PySem.W.Frag) (C : Addr) : Prop where
  pg : PySem.W.plainGet K C Str.empty = true
  hd : PySem.W.hasDictIn K C = true
  po : PySem.W.plainOver K C = true
  sa : PySem.W.findIn K (.ref C) "__setattr__" = some (some (.builtin "object.__setattr__"))
theorem Cls.get {K : PySem.W.Frag} {C : Addr} (c : Cls K C) (f : Str) : PySem.W.plainGet K C f = true := c.pg
/-- no class of it has the name -/
def NoAttr (K : PySem.W.Frag) (C : Addr) (f : Str) : Prop := PySem.W.findIn K (.ref C) f = some none
theorem NoAttr.taker {K : PySem.W.Frag} {C : Addr} {f : Str} (n : NoAttr K C f) : PySem.W.takerIn K C f = some none := by
  unfold PySem.W.takerIn
  rw [show PySem.W.findIn K (.ref C) f = some none from n]
  rfl
/-- a constant of the class -/
structure Con (K : PySem.W.Frag) (C : Addr) (f : Str) (v : V) (u : Value) : Prop where
  at_ : PySem.W.findIn K (.ref C) f = some (some u)
  rel : RelV v u
  get : PySem.W.specialIn K u "__get__" = some none
  cp : PySem.W.copiedNames.contains f = false
/-- a method: a plain def of the class or of one above it -/
structure Meth (K : PySem.W.Frag) (C : Addr) (m : Str) (f : Addr) : Prop where
  at_ : PySem.W.findIn K (.ref C) m = some (some (.ref f))
  fn : PySem.W.isFn K (.ref f) = true
  kp : PySem.W.keepIn K (.ref f) = true

section
variable {X : Cx} {pins : List (Addr × Obj)} {σ : St} {H : Hp} {s : Shared} {a C dx : Addr} {fs : List (Str × V)} {f : Str} {v : V} {A : Around} {E : Value → Shared → Prop}

theorem getattr_ok {b : Bool} {Q : Value → Shared → Prop} (I : Inv X pins σ H s) (e : H a = some (.ins C dx fs)) (c : Cls X.K C) (n : NoAttr X.K C f) (l : fs.lookup f = some v)
    (h : ∀ u s', Inv X pins σ H s' → RelV v u → Q u s') : wpAny (model X.prog X.w) A (getAttr (.ref a) f b) Q E s := by
  obtain ⟨mA, O, r, _, _, _⟩ := ins_get I.hok e
  obtain ⟨u, hu, ru⟩ := RelO.some_of (v := v) (o := mA f) (by rw [← l]; exact r f)
  exact get_map I.kIn O (c.get f) c.hd n hu (handed_of ru) (h u _ (I.tok _) ru)

theorem setattr_ok {y : V} {u : Value} {Q : Unit → Shared → Prop} (I : Inv X pins σ H s) (e : H a = some (.ins C dx fs)) (c : Cls X.K C) (n : NoAttr X.K C f) (hl : fs.length < 1000) (ry : RelV y u)
    (h : ∀ s', Inv X pins σ (upd H a (.ins C dx (putF f y fs))) s' → Q () s') : wpAny (model X.prog X.w) A (setAttr (.ref a) f u) Q E s := by
  obtain ⟨mA, O, r, wi, _, ho⟩ := ins_get I.hok e
  have hz : (fs.map (·.1)).length ≤ sizeLine := by rw [List.length_map, sizeLine_eq]; omega
  refine set_map I.kIn O c.sa c.po n.taker c.hd wi hz fun h' O' sb => h _ ?_
  have hd : ∃ o, h'.get? dx = some o := let ⟨o, _, _, e', _⟩ := O'.ns; ⟨o, e'⟩
  refine I.write (x := a) (e := dx) (by rw [e]; exact True.intro) (.inr ho) (fun b q hb z => (sb.2 b hb).trans z) hd ?_
  refine ⟨by rw [upd_ne O.ne]; exact ho, ?_, O.ne, O'.obj, _, O'.ns, fun g => ?_, fun g hg => ?_⟩
  · have := length_putF f y fs; omega
  · show RelO ((putF f y fs).lookup g) (if g = f then some u else mA g)
    rw [lookup_putF]
    by_cases q : g = f
    · rw [if_pos q, if_pos q]; exact ry
    · rw [if_neg q, if_neg q]; exact r g
  · by_cases q : g = f
    · rw [q]; exact (keys_putF f y fs).1
    · refine (keys_putF f y fs).2 g (wi g fun z => hg ?_)
      show (if g = f then some u else mA g) = none
      rw [if_neg q]; exact z

/-- a new instance, tracked, without attributes -/
theorem Inv.made (I : Inv X pins σ H s) : Inv X pins σ (upd (upd H s.heap.objs.size (.own (s.heap.objs.size + 1))) (s.heap.objs.size + 1) (.ins C s.heap.objs.size []))
    { s with heap := (s.heap.push PySem.W.emptyDict).push (PySem.W.instObj C s.heap.objs.size) } := by
  have e1 : (s.heap.push PySem.W.emptyDict).get? s.heap.objs.size = some PySem.W.emptyDict := Heap.get?_push_size s.heap rfl
  have e2 : ((s.heap.push PySem.W.emptyDict).push (PySem.W.instObj C s.heap.objs.size)).get? (s.heap.objs.size + 1) = some (PySem.W.instObj C s.heap.objs.size) := by
    have := Heap.get?_push_size (s.heap.push PySem.W.emptyDict) (o := PySem.W.instObj C s.heap.objs.size) rfl
    rwa [Heap.size_push] at this
  have e3 : (s.heap.push PySem.W.emptyDict).Ns s.heap.objs.size (fun _ => none) := ⟨PySem.W.emptyDict, #[], _, e1, rfl, (fun e he => absurd he (by simp)), fun _ => rfl⟩
  have I1 := I.laid (a := s.heap.objs.size) (o := .own (s.heap.objs.size + 1)) (h' := s.heap.push PySem.W.emptyDict) (t' := s.toks) (fun b u q => Heap.get?_push_of_some _ q) (Nat.le_refl _) ⟨_, e1⟩
  refine I1.laid (a := s.heap.objs.size + 1) (o := .ins C s.heap.objs.size []) (t' := s.toks) (fun b u q => Heap.get?_push_of_some _ q) (Nat.le_of_eq (Heap.size_push _ _)) ?_
  have ne : s.heap.objs.size ≠ s.heap.objs.size + 1 := Nat.ne_of_lt (Nat.lt_succ_self _)
  refine ⟨by rw [upd_ne ne, upd_same], Nat.zero_le _, ne, e2, fun _ => none, (Heap.Ns1.of_empty e3).at fun o q => Heap.get?_push_of_some _ q, fun _ => True.intro, fun y hy => absurd rfl hy⟩

/-- e.f where nothing but the object is asked: through attributeBase (super) and the last hold -/
theorem attr_of {prog : Program} {w : World} {env : Env} {e : Expr} {f : Str} {pos : Pos} {s : Shared} {Q : Value → Shared → Prop} (hb : attributeBase e f env (eval e env) = eval e env)
    (h : wpAny (model prog w) A (eval e env) (fun o s₁ => wpAny (model prog w) A (getAttr o f true) Q E s₁) E s) : wpAny (model prog w) A (eval (.Attribute e f pos) env) Q E s :=
  Attribute_any_ h (by rw [arm_eval_Attribute, hb])
end

/-- e.f, an attribute of the instance -/
def tFld (K : PySem.W.Frag) (ta : TE) (f : Str) : TE := fun σ H Q => ta σ H fun x H1 => ∃ a C dx fs v, x = .ref a ∧ H1 a = some (.ins C dx fs) ∧ Cls K C ∧ NoAttr K C f ∧ fs.lookup f = some v ∧ Q v H1
/-- e.f = value -/
def sFld (K : PySem.W.Frag) (ta tv : TE) (f : Str) : TS := fun D σ H => tv σ H fun y H1 => ta σ H1 fun x H2 => ∃ a C dx fs, x = .ref a ∧ H2 a = some (.ins C dx fs) ∧ Cls K C ∧ NoAttr K C f ∧ fs.length < 1000 ∧
  D.nx σ (upd H2 a (.ins C dx (putF f y fs)))
section
variable {X : Cx} {o e value : Expr} {f : Str} {pos pos' tpos : Pos} {ta tv : TE}
theorem pe_fld (he : PE X e ta) (hb : attributeBase e f X.env (eval e X.env) = eval e X.env) : PE X (.Attribute e f pos) (tFld X.K ta f) := by
  intro pins s σ H Q I h
  refine attr_of hb (thn (he pins s σ H _ I h) fun u s1 ⟨x, H1, I1, rx, a, C, dx, fs, v, ex, ea, c, n, l, q⟩ => ?_)
  subst ex
  obtain rfl : u = Value.ref a := rx
  exact getattr_ok I1 ea c n l fun u' s2 I2 ru => ⟨v, H1, I2, ru, q⟩
theorem ps_fld (ha : PE X o ta) (hv : PE X value tv) (hs : swapsWith value (some (.Attribute o f pos')) pos.line X.env = pure false) : PS X (.Assign [.Attribute o f pos'] value pos) (sFld X.K ta tv f) := by
  intro pins s σ H D I h
  refine plainObj_wpAny_Assign_Attribute (thn (hv pins s σ H _ I h) fun u s1 ⟨y, H1, I1, ry, q⟩ => thn (ha pins s1 σ H1 _ I1 q) fun ov s2 ⟨x, H2, I2, rx, a, C, dx, fs, ex, ea, c, n, l, q2⟩ => ?_) hs
  subst ex
  obtain rfl : ov = Value.ref a := rx
  exact setattr_ok I2 ea c n l ry fun s3 I3 => ⟨σ, _, I3, q2⟩
end

section
variable {X : Cx} {pins : List (Addr × Obj)} {σ : St} {H : Hp} {s : Shared} {A : Around} {E : Value → Shared → Prop} {Q : Value → Shared → Prop} {c : Value} {b : Bool}
/-- the type of a value, as the fragment's deciders take it; for an instance its class -/
inductive TyOf (K : PySem.W.Frag) (H : Hp) : V → Value → Prop where
  | non : TyOf K H .non (.type "NoneType")
  | bl (x : Bool) : TyOf K H (.bl x) (.type "bool")
  | int (i : Int) : TyOf K H (.int i) (.type "int")
  | str (x : Str) : TyOf K H (.str x) (.type "str")
  | flt (x : UInt64) : TyOf K H (.flt x) (.type "float")
  | lst {a : Addr} {xs : List V} (e : H a = some (.lst xs)) : TyOf K H (.ref a) (.type "list")
  | frz {a : Addr} {o : Obj} {xs : List V} (e : H a = some (.frz o (.lst xs))) : TyOf K H (.ref a) (.type "list")
  | tup {a : Addr} {xs : List V} (e : H a = some (.tup xs)) : TyOf K H (.ref a) (.type "tuple")
  | dK {a : Addr} {kvs : List (Key × V)} (e : H a = some (.dK kvs)) : TyOf K H (.ref a) (.type "dict")
  | dT {a : Addr} {kvs : List (List Key × V)} (e : H a = some (.dT kvs)) : TyOf K H (.ref a) (.type "dict")
  | ins {a C dx : Addr} {fs : List (Str × V)} (e : H a = some (.ins C dx fs)) (cl : Cls K C) (ha : PySem.W.findIn K (.ref C) "__class__" = some (some (.builtin "object.__class__")))
      (hn : PySem.W.specialIn K (.builtin "object.__class__") "__get__" = some (some (.builtin "getset_descriptor.__get__"))) (htk : PySem.W.takesIn K (.builtin "object.__class__") = some true)
      (hm : PySem.W.mroIn K C (.type "object") = some true) : TyOf K H (.ref a) (.ref C)
end
end L2

namespace L2
open PySem PySem.Spec PyProof.Rows

structure Room (k : Nat) (A : Around) : Prop where
  hd : A.handled = none
  dp : A.depth + 3 * k + 5 < recursionLimit
  un : A.units + 16 * k + 200 < cLine
theorem Room.mono {j k : Nat} {A : Around} (r : Room k A) (h : j ≤ k) : Room j A := ⟨r.hd, by have := r.dp; omega, by have := r.un; omega⟩
theorem Room.deeper {k : Nat} {A : Around} (r : Room (k + 1) A) (env : Env) : Room k (A.deeper env) :=
  ⟨r.hd, by have := r.dp; show A.depth + 1 + 3 * k + 5 < _; omega, by have := r.un; show A.units + 3 + 16 * k + 200 < _; omega⟩
theorem make_depth {A : Around} {C : Addr} {us : List Value} {kw : List (Str × Value)} : (A.under (.builtin "type.__call__" ⟨.ref C :: us, kw⟩)).depth = A.depth + 1 := by
  first | rfl | simp [Around.under, Code.weight, Code.isCreation, Code.isGuard, Code.isCaller, Code.frames, Code.isFrame, guardIds]
theorem make_units {A : Around} {C : Addr} {us : List Value} {kw : List (Str × Value)} : (A.under (.builtin "type.__call__" ⟨.ref C :: us, kw⟩)).units = A.units + 1 := by
  first | rfl | simp [Around.under, Code.cUnits, Code.frames, Code.isFrame]
theorem Room.make {k : Nat} {A : Around} (r : Room (k + 1) A) (C : Addr) (us : List Value) (kw : List (Str × Value)) : Room k (A.under (.builtin "type.__call__" ⟨.ref C :: us, kw⟩)) :=
  ⟨r.hd, by have := r.dp; rw [make_depth]; omega, by have := r.un; rw [make_units]; omega⟩
theorem Room.depth {k : Nat} {A : Around} (r : Room k A) : A.depth < recursionLimit := by have := r.dp; omega
theorem Room.units {k : Nat} {A : Around} (r : Room k A) : A.units + 64 < cLine := by have := r.un; omega
theorem Room.units0 {k : Nat} {A : Around} (r : Room k A) : A.units < cLine := by have := r.un; omega

def tNil : TA := fun _ H Q => Q [] H
def tCons (ta : TE) (tr : TA) : TA := fun σ H Q => ta σ H fun x H1 => tr σ H1 fun xs H2 => Q (x :: xs) H2
section
variable {X : Cx} {e : Expr} {es : List Expr} {te : TE} {t : TA} {pos : Pos}
theorem pa_nil : PA X [] tNil := fun _ _ _ _ H Q I h => Calls.spliced_nil ⟨[], H, I, .nil, h⟩
theorem pa_cons (ha : PE X e te) (hr : PA X es t) (hs : starEach (e :: es) X.env = (false, eval e X.env) :: starEach es X.env := by rfl) : PA X (e :: es) (tCons te t) := by
  intro pos pins s σ H Q I h
  rw [hs]
  show wpAny _ _ (spliced ((false, eval e X.env) :: backTo pos (starEach es X.env))) _ _ s
  refine Calls.spliced_cons (thn (ha pins s σ H _ I h) fun u s1 ⟨x, H1, I1, r1, q1⟩ => ?_)
  exact thn (hr pos pins s1 σ H1 _ I1 q1) fun us s2 ⟨xs, H2, I2, r2, q2⟩ => ⟨x :: xs, H2, I2, .cons r1 r2, q2⟩

/-- a tuple, a list of written items -/
def tTup (t : TA) : TE := fun σ H Q => t σ H fun xs H1 => xs.length ≤ sizeLine ∧ ∀ p, H1 p = none → Q (.ref p) (upd H1 p (.tup xs))
def tLst (t : TA) : TE := fun σ H Q => t σ H fun xs H1 => xs.length ≤ sizeLine ∧ ∀ p, H1 p = none → Q (.ref p) (upd H1 p (.lst xs))
theorem pe_tup {x1} (h : PA X es t) : PE X (.Tuple es x1 pos) (tTup t) := by
  intro pins s σ H Q I hq
  refine wpAny_Tuple_spliced (thn (h pos pins s σ H _ I hq) fun us s1 ⟨xs, H1, I1, r, z, q⟩ => ⟨by rw [← r.length]; exact z, ?_⟩)
  have hf : H1 s1.heap.objs.size = none := I1.hok.fresh (Nat.le_refl _)
  refine ⟨.ref s1.heap.objs.size, upd H1 s1.heap.objs.size (.tup xs), I1.laid (t' := s1.toks) (fun b u e => Heap.get?_push_of_some _ e) (Nat.le_refl _) ?_, rfl, q _ hf⟩
  exact ⟨z, us, r, ⟨_, Heap.get?_push_size _ rfl, rfl, _, rfl⟩⟩
theorem pe_lst (h : PA X es t) : PE X (.List es pos) (tLst t) := by
  intro pins s σ H Q I hq
  refine wpAny_List_spliced (thn (h pos pins s σ H _ I hq) fun us s1 ⟨xs, H1, I1, r, z, q⟩ => ⟨by rw [← r.length]; exact z, ?_⟩)
  have hf : H1 s1.heap.objs.size = none := I1.hok.fresh (Nat.le_refl _)
  refine ⟨.ref s1.heap.objs.size, upd H1 s1.heap.objs.size (.lst xs), I1.laid (t' := s1.toks) (fun b u e => Heap.get?_push_of_some _ e) (Nat.le_refl _) ?_, rfl, q _ hf⟩
  exact ⟨z, us, 0, r, Heap.get?_push_size _ rfl⟩
end

/-- a def's promise: the bound arguments in the parameters' order, the heap, the wanted end, the wanted exception -/
abbrev Sp := List V → Hp → VK → XK → Prop
/-- how an exception lies behind a call (file 08 gives it): the callers' frames, abstract heap and state ahead of the call, the wish, the exception, the state -/
abbrev CXT := List Env → Hp → Shared → XK → Value → Shared → Prop

/-- the state at a call -/
structure Env0 (P : Program) (w : World) (K : PySem.W.Frag) (mg : Str → Option Value) (base : Heap) (A : Around) (outer : List Env) (s : Shared) (H : Hp) : Prop where
  frames : A.frames = some outer
  mod : Mod K mg base
  bs : ∀ b o, base.get? b = some o → s.heap.get? b = some o ∧ H b = none
  bsz : base.objs.size ≤ s.heap.objs.size
  funs : s.heap.FunFrames base outer
  frf : ∀ b ∈ frs outer, H b = none
  hok : HOk P w H s.heap
  bare : AllBare s.gens
/-- a call's end -/
def CE (outer : List Env) (P : Program) (w : World) (H : Hp) (s : Shared) (Q : VK) (u : Value) (s' : Shared) : Prop :=
  ∃ v H', s'.os = s.os ∧ AllBare s'.gens ∧ Un (frs outer) [] H H' s.heap s'.heap ∧ HOk P w H' s'.heap ∧ RelV v u ∧ Q v H'
def CR (CX : CXT) (outer : List Env) (P : Program) (w : World) (H : Hp) (s : Shared) (Q : VK) (E : XK) (r : Result) (s' : Shared) : Prop :=
  match r with
  | .ok (.ret u) => CE outer P w H s Q u s'
  | .ok _ => False
  | .error e => CX outer H s E e s'
structure FnOk (P : Program) (w : World) (K : PySem.W.Frag) (mg : Str → Option Value) (base : Heap) (CX : CXT) (k : Nat) (f : Addr) (fd : FuncData) (ps : List Str) (sp : Sp) : Prop where
  len : ∀ vs H Q E, sp vs H Q E → vs.length = ps.length
  run : ∀ (A : Around) (outer : List Env) (s : Shared) (H : Hp) (args : Args) (us : List Value) (vs : List V) (Q : VK) (E : XK), Room k A → Env0 P w K mg base A outer s H → BindsTo s fd args (ps.zip us) → Vals vs us → sp vs H Q E →
    codeAny (model P w) A (.call (.ref f) args) (CR CX outer P w H s Q E) s
theorem FnOk.mono {P : Program} {w : World} {K : PySem.W.Frag} {mg : Str → Option Value} {base : Heap} {CX : CXT} {j k : Nat} {f : Addr} {fd : FuncData} {ps : List Str} {sp : Sp} (F : FnOk P w K mg base CX j f fd ps sp) (h : j ≤ k) :
    FnOk P w K mg base CX k f fd ps sp := ⟨F.len, fun A outer s H args us vs Q E hr => F.run A outer s H args us vs Q E (hr.mono h)⟩
/-- a weaker promise -/
theorem FnOk.imp {P : Program} {w : World} {K : PySem.W.Frag} {mg : Str → Option Value} {base : Heap} {CX : CXT} {k : Nat} {f : Addr} {fd : FuncData} {ps : List Str} {sp sp' : Sp} (F : FnOk P w K mg base CX k f fd ps sp)
    (h : ∀ vs H Q E, sp' vs H Q E → sp vs H Q E) : FnOk P w K mg base CX k f fd ps sp' :=
  ⟨fun vs H Q E q => F.len vs H Q E (h _ _ _ _ q), fun A outer s H args us vs Q E hr he hb hv hs => F.run A outer s H args us vs Q E hr he hb hv (h _ _ _ _ hs)⟩

theorem Env0.make {P : Program} {w : World} {K : PySem.W.Frag} {mg : Str → Option Value} {base : Heap} {A : Around} {outer : List Env} {s : Shared} {H : Hp} (e : Env0 P w K mg base A outer s H) (C : Addr) (us : List Value) (kw : List (Str × Value)) :
    Env0 P w K mg base (A.under (.builtin "type.__call__" ⟨.ref C :: us, kw⟩)) outer s H := ⟨by first | exact e.frames | (simpa [Around.under, Code.envs, Code.isFrame, pushEnvs] using e.frames), e.mod, e.bs, e.bsz, e.funs, e.frf, e.hok, e.bare⟩
section
variable {X : Cx} {pins : List (Addr × Obj)} {σ : St} {H : Hp} {s s' : Shared}
/-- from a body: what a callee wants -/
theorem Inv.env0 (I : Inv X pins σ H s) : Env0 X.prog X.w X.K X.mg X.base X.A X.stack s H :=
  ⟨I.ok.frames, I.ok.mod, I.bs, Nat.le_trans I.ok.bsz I.sz, I.stack, I.stkFree, I.hok, I.bare⟩
/-- behind a call -/
theorem Inv.after {Q : VK} {u : Value} (I : Inv X pins σ H s) (h : CE X.stack X.prog X.w H s Q u s') : EP X pins σ Q u s' := by
  obtain ⟨v, H', os, bare, un, hok, r, q⟩ := h
  obtain ⟨hh, g, d, t, os'⟩ := s'
  obtain rfl : os' = s.os := os
  exact ⟨v, H', I.call (h' := hh) (g' := g) (d' := d) (t' := t) (ch := []) un hok bare (fun b z => absurd z (by simp)), r, q⟩
end

/-- f(..): the written arguments, then the defaults dvs; E: what is wanted of an exception -/
def tCall (sp : Sp) (dvs : List V) (E : XK) (t : TA) : TE := fun σ H Q => t σ H fun vs H1 => sp (vs ++ dvs) H1 Q E
/-- C(..): a new instance and its dict, then __init__ -/
def tMake (C : Addr) (sp : Sp) (dvs : List V) (E : XK) (t : TA) : TE := fun σ H Q => t σ H fun vs H1 => ∀ x dx, H1 x = none → H1 dx = none → dx ≠ x →
  sp (.ref x :: (vs ++ dvs)) (upd (upd H1 dx (.own x)) x (.ins C dx [])) (fun v H2 => v = .non ∧ Q (.ref x) H2) E

/-- how the parameters are bound: us the positional arguments, kw the keywords' values by name, ds the defaults that fill up -/
def Binds (K : PySem.W.Frag) (fd : FuncData) (ps : List Str) (ds : List Value) : Prop :=
  ∀ (s : Shared) (us : List Value), K.In s.heap → (us ++ ds).length = ps.length → BindsTo s fd ⟨us, []⟩ (ps.zip (us ++ ds))
/-- every parameter is given -/
theorem Binds.all {K : PySem.W.Frag} {fd : FuncData} {ps : List Str} (h : ∀ us : List Value, us.length = ps.length → bindArgs fd ⟨us, []⟩ = pure (ps.zip us)) : Binds K fd ps [] := fun s us _ hl => by
  rw [List.append_nil] at hl ⊢
  exact .of_eq (h us hl)

/-- an exception of a callee reaches what this body wants of exceptions -/
def Passes (CX : CXT) (X : Cx) (E : XK) : Prop := ∀ (pins : List (Addr × Obj)) (σ : St) (H : Hp) (s : Shared) (e : Value) (s' : Shared), Inv X pins σ H s → CX X.stack H s E e s' → X.xe e s'

section
variable {X : Cx} {CX : CXT} {k : Nat} {f C : Addr} {fd : FuncData} {ps : List Str} {sp : Sp} {dvs : List V} {ds : List Value} {E : XK} {x m : Str} {p pos apos : Pos} {e o : Expr} {es : List Expr} {ta : TE} {t : TA}

/-- the callee runs -/
theorem run_fn {pins : List (Addr × Obj)} {σ : St} {H : Hp} {s : Shared} {Q : VK} {us : List Value} {vs : List V} (F : FnOk X.prog X.w X.K X.mg X.base CX k f fd ps sp) (hr : Room k X.A) (hb : Binds X.K fd ps ds) (hd : Vals dvs ds) (hx : Passes CX X E)
    (I : Inv X pins σ H s) (r : Vals vs us) (h : sp (vs ++ dvs) H Q E) : wpAny (model X.prog X.w) X.A (call (.ref f) us) (EP X pins σ Q) X.xe s := by
  have r2 : Vals (vs ++ dvs) (us ++ ds) := r.append hd
  have hl : (us ++ ds).length = ps.length := by rw [← r2.length]; exact F.len _ _ _ _ h
  refine wpAny_call (codeAny_mono (F.run X.A X.stack s H ⟨us, []⟩ (us ++ ds) (vs ++ dvs) Q E hr I.env0 (hb s us I.kIn hl) r2 h) fun r s' hq => ?_)
  cases r with
  | error e => exact hx pins σ H s e s' I hq
  | ok fl =>
    cases fl with
    | ret u => exact I.after hq
    | next => exact False.elim hq
    | brk => exact False.elim hq
    | cont => exact False.elim hq

theorem pe_call (F : FnOk X.prog X.w X.K X.mg X.base CX k f fd ps sp) (hr : Room k X.A) (hg : Gl X x) (hm : X.mg x = some (.ref f)) (hk : PySem.W.keepIn X.K (.ref f) = true) (hb : Binds X.K fd ps ds) (hd : Vals dvs ds) (hx : Passes CX X E)
    (ha : PA X (e :: es) t) (hdb : (x == ("__debug__" : Str)) = false := by decide) (he : starEach (e :: es) X.env = (false, eval e X.env) :: starEach es X.env := by rfl) (hpl : (backTo pos (starEach es X.env)).any (·.1) = false := by rfl) :
    PE X (.Call (.Name x p) (e :: es) [] pos) (tCall sp dvs E t) := by
  intro pins s σ H Q I h
  refine wpAny_Call_Name_kw (ld_glob I hg hm ?_ hdb)
  refine PySem.W.callWith_K (h₀ := X.base) I.ok.mod.kin hk (thn (ha pos pins s σ H _ I h) fun us s1 ⟨vs, H1, I1, r, q⟩ => ⟨I1.kIn, ?_⟩) he hpl
  exact run_fn F hr hb hd hx I1 r q
/-- what a class must have to be made -/
structure Mk (K : PySem.W.Frag) (C f : Addr) : Prop where
  makes : PySem.W.makesIn K C = true
  init : PySem.W.findIn K (.ref C) "__init__" = some (some (.ref f))
  fn : PySem.W.isFn K (.ref f) = true
  kp : PySem.W.keepIn K (.ref C) = true

theorem run_make {pins : List (Addr × Obj)} {σ : St} {H : Hp} {s : Shared} {Q : VK} {us : List Value} {vs : List V} (M : Mk X.K C f) (F : FnOk X.prog X.w X.K X.mg X.base CX k f fd ps sp) (hr : Room (k + 1) X.A) (hb : Binds X.K fd ps ds) (hd : Vals dvs ds)
    (hx : Passes CX X E) (I : Inv X pins σ H s) (r : Vals vs us)
    (h : ∀ x dx, H x = none → H dx = none → dx ≠ x → sp (.ref x :: (vs ++ dvs)) (upd (upd H dx (.own x)) x (.ins C dx [])) (fun v H2 => v = .non ∧ Q (.ref x) H2) E) :
    wpAny (model X.prog X.w) X.A (call (.ref C) us) (EP X pins σ Q) X.xe s := by
  have hq := h (s.heap.objs.size + 1) s.heap.objs.size (I.hok.fresh (Nat.le_succ _)) (I.hok.fresh (Nat.le_refl _)) (Nat.ne_of_lt (Nat.lt_succ_self _))
  have I2 := Inv.made (C := C) I
  have r2 : Vals (V.ref (s.heap.objs.size + 1) :: (vs ++ dvs)) (Value.ref (s.heap.objs.size + 1) :: (us ++ ds)) := .cons rfl (r.append hd)
  have hl : (Value.ref (s.heap.objs.size + 1) :: us ++ ds).length = ps.length := by
    have e := r2.length
    rw [F.len _ _ _ _ hq] at e
    exact e.symm
  refine wpAny_call (make_map (f := f) I.kIn M.makes M.init (beq_iff_eq.mp M.fn) (codeAny_mono (F.run _ X.stack _ _ ⟨Value.ref (s.heap.objs.size + 1) :: us, []⟩ (Value.ref (s.heap.objs.size + 1) :: (us ++ ds)) _ _ E (hr.make C us [])
    (I2.env0.make C us []) (hb _ (Value.ref (s.heap.objs.size + 1) :: us) I2.kIn hl) r2 hq) fun r s' hq' => ?_))
  cases r with
  | error e => exact hx pins σ _ _ e s' I2 hq'
  | ok fl =>
    cases fl with
    | ret u =>
      obtain ⟨v, H', I3, rv, ev, q3⟩ := I2.after hq'
      subst ev
      exact ⟨rv, ⟨V.ref (s.heap.objs.size + 1), H', I3, rfl, q3⟩⟩
    | next => exact False.elim hq'
    | brk => exact False.elim hq'
    | cont => exact False.elim hq'
theorem pe_make (M : Mk X.K C f) (F : FnOk X.prog X.w X.K X.mg X.base CX k f fd ps sp) (hr : Room (k + 1) X.A) (hg : Gl X x) (hm : X.mg x = some (.ref C)) (hb : Binds X.K fd ps ds) (hd : Vals dvs ds) (hx : Passes CX X E)
    (ha : PA X (e :: es) t) (hdb : (x == ("__debug__" : Str)) = false := by decide) (he : starEach (e :: es) X.env = (false, eval e X.env) :: starEach es X.env := by rfl) (hpl : (backTo pos (starEach es X.env)).any (·.1) = false := by rfl) :
    PE X (.Call (.Name x p) (e :: es) [] pos) (tMake C sp dvs E t) := by
  intro pins s σ H Q I h
  refine wpAny_Call_Name_kw (ld_glob I hg hm ?_ hdb)
  refine PySem.W.callWith_K (h₀ := X.base) I.ok.mod.kin M.kp (thn (ha pos pins s σ H _ I h) fun us s1 ⟨vs, H1, I1, r, q⟩ => ⟨I1.kIn, ?_⟩) he hpl
  exact run_make M F hr hb hd hx I1 r q
end

section
variable {X : Cx} {CX : CXT} {k : Nat} {f C : Addr} {fd : FuncData} {ps ks : List Str} {sp : Sp} {E : XK} {x m : Str} {p pos apos kpos : Pos} {e o : Expr} {es : List Expr} {kws : List Keyword} {te ta : TE} {t tk : TA} {nm : Option Str}
/-- how a call with keywords binds: g puts the positional values us and the keywords' values ws (names ks) in the parameters' order, defaults among them -/
structure KBinds (K : PySem.W.Frag) (fd : FuncData) (ps ks : List Str) (g : List Value → List Value → List Value) (gV : List V → List V → List V) : Prop where
  to : ∀ (s : Shared) (us ws : List Value), K.In s.heap → (g us ws).length = ps.length → BindsTo s fd ⟨us, ks.zip ws⟩ (ps.zip (g us ws))
  rel : ∀ {vs : List V} {us : List Value} {zs : List V} {ws : List Value}, Vals vs us → Vals zs ws → Vals (gV vs zs) (g us ws)
variable {g : List Value → List Value → List Value} {gV : List V → List V → List V}
end

/-- names: the parameters first -/
structure FnScope (N P : List Str) (sc : Scope) : Prop where
  kind : sc.kind = .function
  co : sc.isCoroutine = false
  gen : sc.isGenerator = false
  nd : N.Nodup
  pre : N.take P.length = P
  par : ∀ x ∈ P, sc.names.lookup x = some .local ∨ sc.names.lookup x = some .cell
  nofree : ∀ y ∈ sc.names, y.2 ≠ .free

theorem bindL_out {kindOf : Str → Option NameKind} {x : Str} : ∀ {binds : List (Str × Value)} {m : Str → Option Value}, (∀ v, (x, v) ∉ binds) → bindL kindOf binds m x = m x
  | [], _, _ => rfl
  | (n, v) :: r, m, h => by
    unfold bindL
    rw [bindL_out fun w hw => h w (List.mem_cons_of_mem _ hw)]
    split
    · have : x ≠ n := by rintro rfl; exact h v List.mem_cons_self
      simp [this]
    · rfl
theorem bindC_out {kindOf : Str → Option NameKind} {x : Str} : ∀ {binds : List (Str × Value)} {m : Str → Option Value}, (∀ v, (x, v) ∉ binds) → bindC kindOf binds m x = m x
  | [], _, _ => rfl
  | (n, v) :: r, m, h => by
    unfold bindC
    rw [bindC_out fun w hw => h w (List.mem_cons_of_mem _ hw)]
    split
    · rfl
    · have : x ≠ n := by rintro rfl; exact h v List.mem_cons_self
      simp [this]
theorem bindL_get {kindOf : Str → Option NameKind} {x : Str} {v : Value} : ∀ {P : List Str} {vs : List Value} {i : Nat} {m : Str → Option Value}, P.Nodup → P[i]? = some x → vs[i]? = some v → kindOf x = some .local →
    bindL kindOf (P.zip vs) m x = some v
  | [], _, _, _, _, h, _, _ => by simp at h
  | _ :: _, [], _, _, _, _, h, _ => by simp at h
  | p :: P, w :: vs, 0, m, nd, h1, h2, hk => by
    simp at h1 h2; subst h1; subst h2
    show bindL kindOf ((p, w) :: P.zip vs) m p = _
    unfold bindL
    rw [bindL_out fun v hv => (List.nodup_cons.mp nd).1 (List.of_mem_zip hv).1, if_pos hk]
    simp
  | p :: P, w :: vs, i + 1, m, nd, h1, h2, hk => by
    show bindL kindOf ((p, w) :: P.zip vs) m x = _
    unfold bindL
    exact bindL_get (i := i) (List.nodup_cons.mp nd).2 (by simpa using h1) (by simpa using h2) hk
theorem bindC_get {kindOf : Str → Option NameKind} {x : Str} {v : Value} : ∀ {P : List Str} {vs : List Value} {i : Nat} {m : Str → Option Value}, P.Nodup → P[i]? = some x → vs[i]? = some v → kindOf x ≠ some .local →
    bindC kindOf (P.zip vs) m x = some v
  | [], _, _, _, _, h, _, _ => by simp at h
  | _ :: _, [], _, _, _, _, h, _ => by simp at h
  | p :: P, w :: vs, 0, m, nd, h1, h2, hk => by
    simp at h1 h2; subst h1; subst h2
    show bindC kindOf ((p, w) :: P.zip vs) m p = _
    unfold bindC
    rw [bindC_out fun v hv => (List.nodup_cons.mp nd).1 (List.of_mem_zip hv).1, if_neg hk]
    simp
  | p :: P, w :: vs, i + 1, m, nd, h1, h2, hk => by
    show bindC kindOf ((p, w) :: P.zip vs) m x = _
    unfold bindC
    exact bindC_get (i := i) (List.nodup_cons.mp nd).2 (by simpa using h1) (by simpa using h2) hk

/-- the names' values at the entry -/
def start (N : List Str) (vs : List V) : St := vs.map some ++ List.replicate (N.length - vs.length) none

/-- the context of a def's body, at its entry; an exception leaves the frame, then lies as CX says -/
def cxOf (CX : CXT) (P : Program) (w : World) (K : PySem.W.Frag) (mg : Str → Option Value) (base : Heap) (N : List Str) (qual : Str) (scope : Scope) (f : Addr) (cd : Value) (A : Around) (outer : List Env) (s : Shared) (H : Hp) (E : XK) : Cx where
  prog := P
  w := w
  K := K
  mg := mg
  base := base
  A := A.deeper (envOfC qual scope s.heap.objs.size f cd)
  N := N
  s₀ := s
  H₀ := H
  env := envOfC qual scope s.heap.objs.size f cd
  outer := outer
  stack := envOfC qual scope s.heap.objs.size f cd :: outer
  ex := []
  calm := true
  fn := fun _ => true
  pn := []
  xe := fun e s' => wpAny (model P w) (A.deeper (envOfC qual scope s.heap.objs.size f cd)) (leaving (envOfC qual scope s.heap.objs.size f cd) e) (fun _ s'' => CX outer H s E e s'') (fun e' s'' => CX outer H s E e' s'') s'

theorem cell_has {sc : Scope} {n : Nat} {x : Str} (h : sc.names.lookup x = some .cell) : ∃ c, (cellsFrom n sc.names []).lookup x = some c := by
  have q := PySem.W.cellsFrom_some sc.names n [] (.inl h)
  exact Option.isSome_iff_exists.mp q

theorem inv_start {CX : CXT} {P : Program} {w : World} {K : PySem.W.Frag} {mg : Str → Option Value} {base : Heap} {N ps : List Str} {qual : Str} {scope : Scope} {f : Addr} {cd : Value} {A : Around} {outer : List Env} {s s1 : Shared} {H : Hp} {E : XK} {us : List Value} {vs : List V}
    (S : FnScope N ps scope) (hd : A.handled = none) (e0 : Env0 P w K mg base A outer s H) (hl : vs.length = ps.length) (r : Vals vs us)
    (x : InCallC s s.heap.objs.size (bindL (envOfC qual scope s.heap.objs.size f cd).kindOf (ps.zip us) fun _ => none) (cellsFrom (s.heap.objs.size + 1) scope.names []) (bindC (envOfC qual scope s.heap.objs.size f cd).kindOf (ps.zip us) fun _ => none) s1) :
    Inv (cxOf CX P w K mg base N qual scope f cd A outer s H E) [] (start N vs) H s1 := by
  have hpl : ps.length ≤ N.length := by have := congrArg List.length S.pre; rw [List.length_take] at this; omega
  obtain ⟨h1, tk, rfl, hk⟩ := x.done
  have noA : ∀ b : Addr, b ∉ (cxOf CX P w K mg base N qual scope f cd A outer s H E).ex := fun b z => absurd (show b ∈ ([] : List Addr) from z) (by simp)
  refine ⟨⟨e0.mod, S.kind, rfl, rfl, Nat.le_refl _, fun y z c h1 h2 => ?_, fun y hy => ?_, fun y c _ h => ?_, fun _ => hd, Around.frames_deeper e0.frames, .inr ⟨rfl, rfl⟩, fun b z => absurd z (noA b), e0.bs, e0.bsz, fun b _ _ => noA b, fun b z => absurd z (noA b), e0.funs, e0.frf⟩,
    rfl, e0.bare, Un.kept hk, ⟨_, x.toInCall.ns, fun i y v h1 h2 h3 => ?_⟩, fun y c h => ⟨_, x.cell y c h⟩, e0.hok.fresh (Nat.le_refl _), fun y c h => ?_, fun p hp => absurd (show p ∈ ([] : List (Addr × Obj)) from hp) (by simp), e0.hok.kept hk, ?_⟩
  · exact name_of_addr x.apart (PySem.mem_of_lookup h1) (PySem.mem_of_lookup h2)
  · have hy : scope.names.lookup y = some .cell ∨ scope.names.lookup y = some .free := hy
    rcases hy with hy | hy
    · exact cell_has hy
    · exact absurd rfl (S.nofree _ (PySem.mem_of_lookup hy))
  · exact Nat.le_of_lt (x.above y c (PySem.mem_of_lookup h))
  · have hi : i < vs.length := by
      unfold start at h2
      by_cases hi : i < vs.length
      · exact hi
      · rw [List.getElem?_append_right (by simpa using hi)] at h2
        rw [List.getElem?_replicate] at h2
        split at h2 <;> cases h2
    have ha : vs[i]? = some v := by
      unfold start at h2
      rw [List.getElem?_append_left (by simpa using hi), List.getElem?_map] at h2
      cases e : vs[i]? with
      | none => rw [e] at h2; cases h2
      | some a => rw [e] at h2; cases h2; rfl
    obtain ⟨u, hu, rv⟩ := r.get ha
    have hp : ps[i]? = some y := by
      rw [← S.pre, List.getElem?_take_of_lt (by omega)]; exact h1
    have ndP : ps.Nodup := by rw [← S.pre]; exact S.nd.sublist (List.take_sublist _ _)
    refine ⟨u, rv, ?_⟩
    rcases S.par y (List.mem_of_getElem? hp) with k | k
    · exact .inl ⟨k, bindL_get ndP hp hu k⟩
    · obtain ⟨c, e⟩ := cell_has (n := s.heap.objs.size + 1) k
      refine .inr ⟨.inl k, c, e, ?_⟩
      have q := x.cell y c e
      rw [bindC_get ndP hp hu (by show scope.names.lookup y ≠ _; rw [k]; decide)] at q
      exact q
  · exact e0.hok.fresh (Nat.le_of_lt (x.above y c (PySem.mem_of_lookup h)))
  · unfold start
    show _ = N.length
    rw [List.length_append, List.length_map, List.length_replicate]
    omega

/-- THE RULE: a def (or a method) of the text, by its body. The body's reading t is chosen for each entry; it is run at the parameters' values -/
theorem fn_of {CX : CXT} {P : Program} {w : World} {K : PySem.W.Frag} {mg : Str → Option Value} {base : Heap} {k : Nat} {f : Addr} {name qual : Str} {params : Arguments} {body : List Stmt} {scope : Scope} {dV kV doc pm cdv ct oc : Value} {an od : Option Addr}
    {osl : Array (Option Value)} {N ps : List Str} {sp : Sp} (lk : K.lookup f = some ⟨oc, od, .func (PySem.W.fnOf name qual params body scope dV kV doc pm an cdv ct), osl⟩) (hcd : PySem.W.codeIn K cdv qual = true) (S : FnScope N ps scope)
    (len : ∀ vs H Q E, sp vs H Q E → vs.length = ps.length)
    (hbody : ∀ (A : Around) (outer : List Env) (s : Shared) (H : Hp) (vs : List V) (Q : VK) (E : XK), Room k (A.deeper (envOfC qual scope s.heap.objs.size f cdv)) → sp vs H Q E →
      ∃ t, PSs (cxOf CX P w K mg base N qual scope f cdv A outer s H E) body t ∧ t { nx := fun _ H' => Q .non H', rt := Q } (start N vs) H) :
    FnOk P w K mg base CX (k + 1) f (PySem.W.fnOf name qual params body scope dV kV doc pm an cdv ct) ps sp := by
  refine ⟨len, fun A outer s H args us vs Q E hr e0 hb r hsp => ?_⟩
  have hl := len _ _ _ _ hsp
  have KX : K.In s.heap := e0.mod.kin.keeps fun b o e => (e0.bs b o e).1
  have lim : s.heap.NoLimit := e0.mod.nolimit.keeps fun b o e => (e0.bs b o e).1
  have hkind : ∀ y ∈ ps.zip us, scope.names.lookup y.1 = some .local ∨ (scope.names.lookup y.1 = some .cell ∧ ((cellsFrom (s.heap.objs.size + 1) scope.names []).lookup y.1).isSome = true) := fun ⟨n, v⟩ hy => by
    rcases S.par n (List.of_mem_zip hy).1 with q | q
    · exact .inl q
    · exact .inr ⟨q, PySem.W.cellsFrom_some _ _ _ (.inl q)⟩
  refine codeAny_call_function hr.depth (KX _ _ lk) rfl S.co S.gen rfl (PySem.W.codeRec_of KX hcd) (hb _ _ _ _ ?_)
  refine wpAny_newFunctionEnv_cells S.kind hkind fun env he s1 x => ?_
  subst he
  refine ⟨lim.keeps x.toInCall.keep, codeAny_func ?_⟩
  obtain ⟨t, ht, hq⟩ := hbody A outer s H vs Q E (hr.deeper _) hsp
  have I : Inv (cxOf CX P w K mg base N qual scope f cdv A outer s H E) [] (start N vs) H s1 := inv_start S hr.hd e0 hl r x
  refine wpAny_mono (ht [] s1 (start N vs) H _ I hq) (fun fl s' hs => ?_) fun e s' hs => hs
  have fin : ∀ {σ' : St} {H' : Hp} {v : V} {u : Value}, Inv (cxOf CX P w K mg base N qual scope f cdv A outer s H E) [] σ' H' s' → RelV v u → Q v H' → CE outer P w H s Q u s' :=
    fun {σ' H' v u} J rv q => ⟨v, H', J.os, J.bare, J.base, J.hok, rv, q⟩
  cases fl with
  | ret u =>
    obtain ⟨v, σ', H', J, rv, q⟩ := hs
    exact fin J rv q
  | next =>
    obtain ⟨σ', H', J, q⟩ := hs
    exact fin (v := V.non) (u := Value.none) J rfl q
  | brk =>
    obtain ⟨_, _, _, q⟩ := hs
    exact False.elim q
  | cont =>
    obtain ⟨_, _, _, q⟩ := hs
    exact False.elim q
end L2

namespace L2
open PySem PySem.Spec PyProof.Rows
section
variable {X : Cx} {x : Str} {p pos : Pos} {e : Expr} {es : List Expr} {t : TA} {id T : String} {r : List V → Hp → VK → Prop}

def tCB (r : List V → Hp → VK → Prop) (t : TA) : TE := fun σ H Q => t σ H fun vs H1 => r vs H1 Q
/-- f(e, ..), f a built-in function -/
theorem pe_callB (hc : CallR X (.builtin id) r) (hg : Gl X x) (hm : X.mg x = none) (hv : bootBuiltins x = some (.builtin id)) (ha : PA X (e :: es) t) (hn : x ≠ "__name__" := by decide) (hdb : (x == ("__debug__" : Str)) = false := by decide)
    (he : starEach (e :: es) X.env = (false, eval e X.env) :: starEach es X.env := by rfl) (hpl : (backTo pos (starEach es X.env)).any (·.1) = false := by rfl) : PE X (.Call (.Name x p) (e :: es) [] pos) (tCB r t) := by
  intro pins s σ H Q I h
  refine wpAny_Call_Name_kw (ld_blt I hg hm hv ?_ hn hdb)
  exact PyProof.Rows.callWith_builtin1 (thn (ha pos pins s σ H _ I h) fun us s1 ⟨vs, H1, I1, r1, q1⟩ => hc pins s1 σ H1 vs us Q I1 r1 q1) he hpl
/-- T(e, ..), T a built-in type -/
theorem pe_callTy (hc : CallR X (.type T) r) (hg : Gl X x) (hm : X.mg x = none) (hv : bootBuiltins x = some (.type T)) (ha : PA X (e :: es) t) (hn : x ≠ "__name__" := by decide) (hdb : (x == ("__debug__" : Str)) = false := by decide)
    (he : starEach (e :: es) X.env = (false, eval e X.env) :: starEach es X.env := by rfl) (hpl : (backTo pos (starEach es X.env)).any (·.1) = false := by rfl) : PE X (.Call (.Name x p) (e :: es) [] pos) (tCB r t) := by
  intro pins s σ H Q I h
  refine wpAny_Call_Name_kw (ld_blt I hg hm hv ?_ hn hdb)
  exact PyProof.Rows.callWith_type1 (thn (ha pos pins s σ H _ I h) fun us s1 ⟨vs, H1, I1, r1, q1⟩ => hc pins s1 σ H1 vs us Q I1 r1 q1) he hpl
end
end L2

namespace HT
open PySem PyProof.Rows

section
open PySem.SeqAt
open PySem.AutoSeq1 (wpAny_loadPart')
open PySem.MeetsSeq PySem.MeetsSeq2 PySem.MeetsSeq3

end

section
variable {prog : Program} {w : World} {A : Around} {E : Value → Shared → Prop} {s : Shared}

/-- t + u, t not empty -/
theorem cat_tup {t b : Addr} {vs ws : List Value} {Q : Value → Shared → Prop} (ht : IsTup s.heap t vs.toArray) (hb : IsTup s.heap b ws.toArray) (hv : vs ≠ [])
    (h1 : ws = [] → Q (.ref t) s) (h2 : ws ≠ [] → Q (.ref s.heap.objs.size) { s with heap := s.heap.push { cls := .type "tuple", data := .seq (vs ++ ws).toArray } })
    (hsz : vs.length + ws.length ≤ sizeLine) : wpAny (model prog w) A (binaryOp .Add (.ref t) (.ref b)) Q E s := by
  obtain ⟨⟨cls, dd, data, sl⟩, ho, hc, n, hd⟩ := id ht
  obtain ⟨⟨cls2, dd2, data2, sl2⟩, ho2, hc2, n2, hd2⟩ := id hb
  simp only at hc hd hc2 hd2
  subst hc hd hc2 hd2
  have e : vs.toArray ++ ws.toArray = (vs ++ ws).toArray := by simp
  by_cases hw : ws = []
  · exact concat_meets ⟨_, ho, rfl⟩ ⟨_, ho2, rfl⟩ noFill_tuple_add seq_tuple_add PySem.F.slot_tuple_add PySem.F.entry_tuple_add (PySem.F.args_tuple_add_2 _ _)
      (tuple_addW1 t b vs.toArray ws.toArray n n2 dd dd2 sl sl2 (by simpa using hv) (by simp [hw])) ⟨ho, ho2, h1 hw⟩
  · refine concat_meets ⟨_, ho, rfl⟩ ⟨_, ho2, rfl⟩ noFill_tuple_add seq_tuple_add PySem.F.slot_tuple_add PySem.F.entry_tuple_add (PySem.F.args_tuple_add_2 _ _)
      (tuple_addW2 t b vs.toArray ws.toArray n n2 dd dd2 sl sl2 (by simpa using hv) (by simpa using hw) (by rw [List.size_toArray, List.size_toArray]; exact hsz)) ⟨ho, ho2, ?_⟩
    rw [e]
    exact h2 hw

/-- a slice's bound as a place among n (d where it is left out) -/
def sIx (n d : Nat) : Option Int → Nat
  | none => d
  | some v => if v < 0 then (v + (n : Int)).toNat else min v.toNat n
theorem sIx_none (n d : Nat) : sIx n d none = d := rfl
theorem sIx_nat (n d k : Nat) : sIx n d (some (k : Int)) = min k n := by
  show (if (k : Int) < 0 then ((k : Int) + (n : Int)).toNat else min (k : Int).toNat n) = min k n
  rw [if_neg (by omega), Int.toNat_natCast]
theorem sIx_le (n d : Nat) (hd : d ≤ n) (o : Option Int) : sIx n d o ≤ n := by
  cases o with
  | none => exact hd
  | some v =>
    show (if v < 0 then (v + (n : Int)).toNat else min v.toNat n) ≤ n
    by_cases hv : v < 0
    · rw [if_pos hv]; omega
    · rw [if_neg hv]; exact Nat.min_le_right _ _
theorem clip_eq (v : Int) (n d : Nat) : (if v < 0 then max (v + (n : Int)) 0 else min v (n : Int)) = ((sIx n d (some v) : Nat) : Int) := by
  show (if v < 0 then max (v + (n : Int)) 0 else min v (n : Int)) = (((if v < 0 then (v + (n : Int)).toNat else min v.toNat n) : Nat) : Int)
  by_cases hv : v < 0
  · simp only [if_pos hv]; omega
  · simp only [if_neg hv]; omega
theorem adjust_gen (lo hi : Option Int) (n : Nat) : Builtin.Slice.sliceAdjust lo hi 1 (n : Int) = (((sIx n 0 lo : Nat) : Int), ((sIx n n hi : Nat) : Int)) := by
  have h1 : ¬ ((1 : Int) < 0) := by omega
  unfold Builtin.Slice.sliceAdjust
  simp only [h1, if_false]
  refine Prod.ext ?_ ?_
  · cases lo with
    | none => rfl
    | some v => exact clip_eq v n 0
  · cases hi with
    | none => rfl
    | some v => exact clip_eq v n n
theorem places_gen (i j : Nat) : Builtin.Slice.slicePlaces (i : Int) (j : Int) 1 = j - i := by
  unfold Builtin.Slice.slicePlaces
  have h1 : (1 : Int) > 0 := by omega
  simp only [h1, if_true, Int.ediv_one]
  split <;> omega
theorem slicePart_ {v : Value} {o : Option Int} {Q : Option Int → Shared → Prop} (p : IsPart v o) (h : Q o s) : wpAny (model prog w) A (Builtin.Slice.slicePartIndex v) Q E s := by
  cases p with
  | none => exact slicePart_none h
  | int i t => exact slicePart_int h
theorem sliceApplied_gen {sl : Addr} {vl vu : Value} {lo hi : Option Int} {n : Nat} {Q : Int × Int × Nat → Shared → Prop} (hs : s.heap.IsSliceOf sl vl vu .none) (pl : IsPart vl lo) (pu : IsPart vu hi)
    (h : Q (((sIx n 0 lo : Nat) : Int), 1, sIx n n hi - sIx n 0 lo) s) : wpAny (model prog w) A (Builtin.Slice.sliceApplied (.ref sl) (pure (n : Int))) Q E s := by
  obtain ⟨os, hos, hcs, hds⟩ := id hs
  unfold Builtin.Slice.sliceApplied Builtin.Slice.sliceFields
  refine wpAny_bind (wpAny_bind (wpAny_field hos hds (x := vl) rfl (wpAny_bind (wpAny_field hos hds (x := vu) rfl (wpAny_bind (wpAny_field hos hds (x := .none) rfl (wpAny_pure ?_)))))))
  refine wpAny_bind (slicePart_none ?_)
  show wpAny _ _ (if ((1 : Int) == 0) = true then _ else _) _ _ s
  rw [if_neg (by decide)]
  refine wpAny_bind (slicePart_ pl (wpAny_bind (slicePart_ pu (wpAny_bind (wpAny_pure ?_)))))
  show wpAny _ _ (match Builtin.Slice.sliceAdjust lo hi 1 (n : Int) with | (lo, hi) => pure (lo, (1 : Int), Builtin.Slice.slicePlaces lo hi 1)) _ _ s
  rw [adjust_gen lo hi n]
  show wpAny _ _ (pure (((sIx n 0 lo : Nat) : Int), (1 : Int), Builtin.Slice.slicePlaces ((sIx n 0 lo : Nat) : Int) ((sIx n n hi : Nat) : Int) 1)) _ _ s
  rw [places_gen]
  exact wpAny_pure h
theorem pick_gen (xs : Array Value) (i k : Nat) : ((List.range k).filterMap fun (m : Nat) => xs[((i : Int) + (m : Int) * 1).toNat]?).toArray = ((xs.toList.drop i).take k).toArray := by
  have e : (fun (m : Nat) => xs[((i : Int) + (m : Int) * 1).toNat]?) = fun m => xs[i + m]? := by
    funext m
    have : ((i : Int) + (m : Int) * 1).toNat = i + m := by omega
    rw [this]
  rw [e]
  have := pick_run xs i k
  rw [List.filterMap_map] at this
  have e2 : ((fun x => xs[x]?) ∘ fun x => i + x) = fun m => xs[i + m]? := rfl
  rw [e2] at this
  rw [this]

theorem getItem_tuple_cut {t sl : Addr} {items : Array Value} {vl vu : Value} {lo hi : Option Int} {Q : Value → Shared → Prop} (ht : IsTup s.heap t items) (hs : s.heap.IsSliceOf sl vl vu .none) (pl : IsPart vl lo) (pu : IsPart vu hi)
    (hw : ¬ (sIx items.size 0 lo = 0 ∧ sIx items.size items.size hi = items.size))
    (h : Q (.ref s.heap.objs.size) { s with heap := s.heap.push { cls := .type "tuple", data := .seq ((items.toList.drop (sIx items.size 0 lo)).take (sIx items.size items.size hi - sIx items.size 0 lo)).toArray } })
    (hsz : items.size ≤ sizeLine) : wpAny (model prog w) A (getItem (.ref t) (.ref sl)) Q E s := by
  have htake : sizeOk (.seq ((items.toList.drop (sIx items.size 0 lo)).take (sIx items.size items.size hi - sIx items.size 0 lo)).toArray) := by
    show ((items.toList.drop (sIx items.size 0 lo)).take (sIx items.size items.size hi - sIx items.size 0 lo)).toArray.size ≤ sizeLine
    rw [List.size_toArray, List.length_take, List.length_drop, Array.length_toList]
    omega
  have hj : sIx items.size items.size hi ≤ items.size := sIx_le _ _ (Nat.le_refl _) hi
  obtain ⟨os, hos, hcs, hds⟩ := id hs
  have hTs : s.TypeIs (.ref sl) "slice" := ⟨os, hos, hcs⟩
  unfold getItem
  try with_reducible refine wpAny_holding ?_
  first | refine wpAny_bind (wpAny_pure ?_) | skip
  refine wpAny_bind (wpAny_sequenceKey ht.typeIs (by decide) ?_)
  refine wpAny_bind (wpAny_callSpecial?_slot (name := Str.ofString "__getitem__") ht.typeIs PyProof.Rows.slot_tuple_getitem
    (wpAny_call_entry PyProof.Rows.slot_tuple_getitem ht.typeIs entry_tuple_getitem ?_ (args_tuple_getitem _ _)))
  show wpAny _ _ (Builtin.Tuple.tupleItemsOf (.ref t) >>= _) _ _ s
  refine wpAny_bind (tupleItemsOf_ ht ?_)
  refine wpAny_bind (wpAny_typeOf hTs ?_)
  rw [if_pos (by decide)]
  refine wpAny_bind (sliceApplied_gen hs pl pu ?_)
  have hno : ¬ ((((sIx items.size 0 lo : Nat) : Int) == 0 && (1 : Int) == 1 && (sIx items.size items.size hi - sIx items.size 0 lo) == items.size) = true) := by
    intro q
    rw [Bool.and_eq_true, Bool.and_eq_true] at q
    have q1 : ((sIx items.size 0 lo : Nat) : Int) = 0 := eq_of_beq q.1.1
    have q2 : sIx items.size items.size hi - sIx items.size 0 lo = items.size := eq_of_beq q.2
    exact hw ⟨by omega, by omega⟩
  show wpAny _ _ (if (((sIx items.size 0 lo : Nat) : Int) == 0 && (1 : Int) == 1 && (sIx items.size items.size hi - sIx items.size 0 lo) == items.size) = true then _ else _) _ _ s
  rw [if_neg hno, pick_gen]
  first
    | exact wpAny_bind (m := Builtin.Tuple.tupleExact _) (wpAny_newObj_type (wpAny_pure ⟨_, rfl, wpAny_pure h⟩) htake)
    | exact wpAny_bind (m := Builtin.Tuple.tupleExact _) (wpAny_newObj_type (wpAny_bind (wpAny_pure (wpAny_pure ⟨_, rfl, wpAny_pure h⟩))) htake)
    | exact wpAny_bind (wpAny_bind (m := Builtin.Tuple.tupleExact _) (wpAny_newObj_type (wpAny_pure (wpAny_pure ⟨_, rfl, wpAny_pure h⟩)) htake))
    | exact wpAny_bind (wpAny_bind (m := Builtin.Tuple.tupleExact _) (wpAny_newObj_type (wpAny_pure ⟨_, rfl, wpAny_pure h⟩) htake))
end
end HT

namespace L2
open PySem PySem.Spec PyProof.Rows

abbrev TO := St → Hp → (Option Int → Hp → Prop) → Prop
/-- a slice's part (left out, or an int) -/
def PO (X : Cx) (e : Option Expr) (t : TO) : Prop :=
  ∀ (pins : List (Addr × Obj)) (s : Shared) (σ : St) (H : Hp) (Q : Option Int → Hp → Prop), Inv X pins σ H s → t σ H Q →
    wpAny (model X.prog X.w) X.A (evalPart e X.env) (fun u s' => ∃ o H', Inv X pins σ H' s' ∧ IsPart u o ∧ Q o H') X.xe s
def tNoPart : TO := fun _ H Q => Q none H
def tPart (t : TE) : TO := fun σ H Q => t σ H fun x H1 => ∃ i, x = .int i ∧ Q (some i) H1

section
variable {X : Cx} {e : Expr} {te : TE} {lo hi : Option Expr} {tl th : TO} {pos p2 : Pos}

theorem po_none : PO X none tNoPart := by
  intro pins s σ H Q I h
  rw [evalPart_none]
  exact wpAny_pure ⟨none, H, I, .none, h⟩
theorem po_some (h : PE X e te) : PO X (some e) (tPart te) := by
  intro pins s σ H Q I hw
  rw [evalPart_some]
  refine thn (h pins s σ H _ I hw) fun u s1 ⟨x, H1, I1, r1, q1⟩ => ?_
  obtain ⟨i, rfl, q⟩ := q1
  obtain ⟨t, rfl⟩ := r1
  exact ⟨some i, H1, I1, .int i t, q⟩

/-- what a slice of a value is, by values: the slice object stands at sl -/
def SlR (X : Cx) (r : V → Option Int → Option Int → Hp → VK → Prop) : Prop :=
  ∀ (pins : List (Addr × Obj)) (s : Shared) (σ : St) (H : Hp) (x : V) (v vl vu : Value) (lo hi : Option Int) (sl : Addr) (Q : VK), Inv X pins σ H s → RelV x v → s.heap.IsSliceOf sl vl vu .none → IsPart vl lo → IsPart vu hi → r x lo hi H Q →
    ∃ T id, typeLookup (.type T) "__getitem__" = pure (some (.builtin id)) ∧ s.TypeIs v T ∧ wpAny (model X.prog X.w) X.A (getItem v (.ref sl)) (EP X pins σ Q) X.xe s
theorem SlR.or {r r' : V → Option Int → Option Int → Hp → VK → Prop} (h : SlR X r) (h' : SlR X r') : SlR X (fun x lo hi H Q => r x lo hi H Q ∨ r' x lo hi H Q) := by
  intro pins s σ H x v vl vu lo hi sl Q I rx hs pl pu q
  rcases q with q | q
  · exact h pins s σ H x v vl vu lo hi sl Q I rx hs pl pu q
  · exact h' pins s σ H x v vl vu lo hi sl Q I rx hs pl pu q
def tSl (r : V → Option Int → Option Int → Hp → VK → Prop) (te : TE) (tl th : TO) : TE := fun σ H Q => te σ H fun x H1 => tl σ H1 fun l H2 => th σ H2 fun u H3 => r x l u H3 Q
/-- a[lo:hi], any a -/
theorem pe_slice {r : V → Option Int → Option Int → Hp → VK → Prop} (hr : SlR X r) (he : PE X e te) (hl : PO X lo tl) (hu : PO X hi th) : PE X (.Subscript e (.Slice lo hi none p2) pos) (tSl r te tl th) := by
  intro pins s σ H Q I h
  refine Subscript_ (thn (he pins s σ H _ I h) fun v s1 ⟨x, H1, I1, r1, q1⟩ => ?_)
  refine wpAny_Slice (thn (hl pins s1 σ H1 _ I1 q1) fun vl s2 ⟨l, H2, I2, pl, q2⟩ => thn (hu pins s2 σ H2 _ I2 q2) fun vu s3 ⟨u, H3, I3, pu, q3⟩ => ?_)
  rw [evalPart_none]
  refine wpAny_pure ?_
  have I4 : Inv X pins σ H3 { s3 with heap := s3.heap.push { cls := .type "slice", data := .fields #[vl, vu, .none] } } := I3.kept (t' := s3.toks) fun b ob q => Heap.get?_push_of_some _ q
  obtain ⟨T, id, hT, ht, hg⟩ := hr pins { s3 with heap := s3.heap.push { cls := .type "slice", data := .fields #[vl, vu, .none] } } σ H3 x v vl vu l u s3.heap.objs.size Q I4 r1 (Heap.IsSliceOf.new ..) pl pu q3
  show wpAny (model X.prog X.w) X.A (subscriptTail e (.Slice lo hi none p2) v (.ref s3.heap.objs.size)) (EP X pins σ Q) X.xe { s3 with heap := s3.heap.push { cls := .type "slice", data := .fields #[vl, vu, .none] } }
  exact tail_any (ops := [.ref s3.heap.objs.size, v]) ht hT hg (by with_unfolding_all rfl)

/-- the items of xs[lo:hi] -/
def cutV (xs : List V) (lo hi : Option Int) : List V := (xs.drop (HT.sIx xs.length 0 lo)).take (HT.sIx xs.length xs.length hi - HT.sIx xs.length 0 lo)
theorem cutV_length (xs : List V) (lo hi : Option Int) : (cutV xs lo hi).length ≤ xs.length := by
  unfold cutV
  rw [List.length_take, List.length_drop]
  omega
/-- t[lo:hi], not the whole of it (the whole would be t itself) -/
def rSlT (K : PySem.W.Frag) : V → Option Int → Option Int → Hp → VK → Prop := fun x lo hi H Q => ∃ a xs, x = .ref a ∧ SqT K H a xs ∧
  ¬ (HT.sIx xs.length 0 lo = 0 ∧ HT.sIx xs.length xs.length hi = xs.length) ∧ ∀ p, H p = none → Q (.ref p) (upd H p (.tup (cutV xs lo hi)))
theorem sl_tup : SlR X (rSlT X.K) := by
  intro pins s σ H x v vl vu lo hi sl Q I rx hs pl pu h
  obtain ⟨a, xs, rfl, hx, hw, q⟩ := h
  cases rx
  obtain ⟨its, r, ht, hz⟩ := I.tuple hx
  have hlen : its.toArray.size = xs.length := by rw [List.size_toArray]; exact r.length.symm
  refine ⟨"tuple", _, PyProof.Rows.slot_tuple_getitem.lookup, ht.typeIs, ?_⟩
  refine HT.getItem_tuple_cut ht hs pl pu (by rw [hlen]; exact hw) ?_ (by rw [hlen]; exact hz)
  rw [hlen]
  refine ⟨.ref s.heap.objs.size, _, I.laid (t' := s.toks) (o := .tup (cutV xs lo hi)) (fun b ob q => Heap.get?_push_of_some _ q) (Nat.le_refl _) ?_, rfl, q _ (I.hok.fresh (Nat.le_refl _))⟩
  exact ⟨Nat.le_trans (cutV_length xs lo hi) hz, _, (r.drop (HT.sIx xs.length 0 lo)).take (HT.sIx xs.length xs.length hi - HT.sIx xs.length 0 lo), IsTup.new _ _⟩

/-- t + u, t not empty: u empty gives t itself -/
def rCatT (K : PySem.W.Frag) : R2 := fun x y H Q => ∃ a b xs ys, x = .ref a ∧ y = .ref b ∧ SqT K H a xs ∧ SqT K H b ys ∧ xs ≠ [] ∧ xs.length + ys.length ≤ sizeLine ∧
  (ys = [] → Q (.ref a) H) ∧ (ys ≠ [] → ∀ p, H p = none → Q (.ref p) (upd H p (.tup (xs ++ ys))))
theorem Vals.nil_iff {xs : List V} {us : List Value} (r : Vals xs us) : us = [] ↔ xs = [] := by
  cases r with
  | nil => simp
  | cons _ _ => simp
theorem op_catT : OpR X (binaryOp .Add) (rCatT X.K) := by
  intro pins s σ H x y v u Q I rx ry h
  obtain ⟨a, b, xs, ys, rfl, rfl, ha, hb, hx, hz, q1, q2⟩ := h
  cases rx
  cases ry
  obtain ⟨its, r1, p1, _⟩ := I.tuple ha
  obtain ⟨its2, r2, p2, _⟩ := I.tuple hb
  refine HT.cat_tup p1 p2 (fun z => hx (r1.nil_iff.mp z)) (fun z => ⟨.ref a, H, I, rfl, q1 (r2.nil_iff.mp z)⟩) (fun z => ?_) (by rw [← r1.length, ← r2.length]; exact hz)
  refine ⟨.ref s.heap.objs.size, _, I.laid (t' := s.toks) (o := .tup (xs ++ ys)) (fun b ob q => Heap.get?_push_of_some _ q) (Nat.le_refl _) ?_, rfl, q2 (fun w => z (r2.nil_iff.mpr w)) _ (I.hok.fresh (Nat.le_refl _))⟩
  exact ⟨by rw [List.length_append]; exact hz, _, r1.append r2, IsTup.new _ _⟩
end
end L2

namespace L2
open PySem PySem.Spec PyProof.Rows

/-- the place that an index of any sign means -/
def ixN (n : Nat) (i : Int) : Option Nat := if 0 ≤ i then (if i < n then some i.toNat else none) else if -(n : Int) ≤ i then some (i + n).toNat else none
def atI {α : Type} (xs : List α) (i : Int) : Option α := (ixN xs.length i).bind fun j => xs[j]?
theorem ixN_seq {n : Nat} {i : Int} {j : Nat} (h : ixN n i = some j) : seqIndex? i n = some j ∧ j < n ∧ -(n : Int) ≤ i ∧ i < n := by
  unfold ixN at h
  by_cases h0 : 0 ≤ i
  · rw [if_pos h0] at h
    by_cases h1 : i < n
    · rw [if_pos h1] at h
      have e : i.toNat = j := Option.some.inj h
      exact ⟨by rw [seqIndex_of h0 h1, e], by omega, by omega, h1⟩
    · rw [if_neg h1] at h; cases h
  · rw [if_neg h0] at h
    by_cases h1 : -(n : Int) ≤ i
    · rw [if_pos h1] at h
      have e : (i + n).toNat = j := Option.some.inj h
      exact ⟨by rw [seqIndex_neg (by omega) h1, e], by omega, h1, by omega⟩
    · rw [if_neg h1] at h; cases h
theorem atI_get {α : Type} {xs : List α} {i : Int} {v : α} (h : atI xs i = some v) : ∃ j, seqIndex? i xs.length = some j ∧ xs[j]? = some v ∧ j < xs.length ∧ -(xs.length : Int) ≤ i ∧ i < xs.length := by
  unfold atI at h
  cases e : ixN xs.length i with
  | none => rw [e] at h; cases h
  | some j =>
    rw [e] at h
    obtain ⟨h1, h2, h3, h4⟩ := ixN_seq e
    exact ⟨j, h1, h, h2, h3, h4⟩
theorem atI_nat {α : Type} {xs : List α} {j : Nat} {v : α} (h : xs[j]? = some v) : atI xs (j : Int) = some v := by
  have hj : j < xs.length := (List.getElem?_eq_some_iff.mp h).1
  have e : ixN xs.length (j : Int) = some j := by
    unfold ixN
    rw [if_pos (by omega), if_pos (by omega)]; simp
  unfold atI; rw [e]; exact h
/-- what stands as an index of a plain subscript -/
def PlainIx (b : Expr) : Prop := ∀ o i, subscripted b false o i = operate [o, i] (getItem o i)
/-- a subscript by values -/
def IxR (X : Cx) (r : R2) : Prop :=
  ∀ (value slice : Expr) (pins : List (Addr × Obj)) (s : Shared) (σ : St) (H : Hp) (x y : V) (v u : Value) (Q : VK), Inv X pins σ H s → RelV x v → RelV y u → r x y H Q →
    subscripted slice false v u = operate [v, u] (getItem v u) → wpAny (model X.prog X.w) X.A (subscriptTail value slice v u) (EP X pins σ Q) X.xe s
/-- a call of a builtin's method by values: the receiver, the arguments -/
def MtR (X : Cx) (id : String) (r : V → List V → Hp → VK → Prop) : Prop :=
  ∀ (pins : List (Addr × Obj)) (s : Shared) (σ : St) (H : Hp) (x : V) (xs : List V) (v : Value) (us : List Value) (Q : VK), Inv X pins σ H s → RelV x v → Vals xs us → r x xs H Q →
    wpAny (model X.prog X.w) X.A (call (.builtin id) (v :: us)) (EP X pins σ Q) X.xe s
section
variable {X : Cx} {a b : Expr} {ta tb : TE} {pos : Pos}
theorem IxR.or {r r' : R2} (h : IxR X r) (h' : IxR X r') : IxR X (fun x y H Q => r x y H Q ∨ r' x y H Q) := by
  intro value slice pins s σ H x y v u Q I rx ry q hs
  rcases q with q | q
  · exact h value slice pins s σ H x y v u Q I rx ry q hs
  · exact h' value slice pins s σ H x y v u Q I rx ry q hs
theorem MtR.or {id : String} {r r' : V → List V → Hp → VK → Prop} (h : MtR X id r) (h' : MtR X id r') : MtR X id (fun x xs H Q => r x xs H Q ∨ r' x xs H Q) := by
  intro pins s σ H x xs v us Q I rx rs q
  rcases q with q | q
  · exact h pins s σ H x xs v us Q I rx rs q
  · exact h' pins s σ H x xs v us Q I rx rs q
/-- a[b] -/
theorem pe_ix {r : R2} (hr : IxR X r) (ha : PE X a ta) (hb : PE X b tb) (hs : PlainIx b) : PE X (.Subscript a b pos) (tOp r ta tb) := by
  intro pins s σ H Q I h
  exact Subscript_ (binT ha hb I h fun v u s2 x y H2 I2 rx ry q => hr a b pins s2 σ H2 x y v u Q I2 rx ry q (hs _ _))

def rIxL (K : PySem.W.Frag) : R2 := fun x y H Q => ∃ p xs i v, x = .ref p ∧ y = .int i ∧ SqL K H p xs ∧ atI xs i = some v ∧ Q v H
def rIxT (K : PySem.W.Frag) : R2 := fun x y H Q => ∃ p xs i v, x = .ref p ∧ y = .int i ∧ SqT K H p xs ∧ atI xs i = some v ∧ Q v H
theorem ix_list : IxR X (rIxL X.K) := by
  intro value slice pins s σ H x y v u Q I rx ry h hs
  obtain ⟨p, xs, i, z, rfl, rfl, hq, he, q⟩ := h
  cases rx
  obtain ⟨t, rfl⟩ := ry
  obtain ⟨its, r, pl, hz⟩ := I.list hq
  obtain ⟨j, h1, h2, h3, h4, h5⟩ := atI_get he
  obtain ⟨w, ew, rw'⟩ := r.get h2
  have hl := r.length
  have hn := line63
  have fin : EP X pins σ Q w s := ⟨z, H, I, rw', q⟩
  by_cases h0 : 0 ≤ i
  · have hj : i.toNat = j := by
      rw [seqIndex_of h0 h5] at h1
      exact Option.some.inj h1
    exact item_listR pl.isList h0 (by omega) (by rw [hj]; simpa using ew) fin hs
  · have hj : (i + (its.toArray.size : Int)).toNat = j := by
      rw [seqIndex_neg (by omega) h4] at h1
      rw [List.size_toArray, ← hl]
      exact Option.some.inj h1
    exact subscriptTail_builtinR (x := w) pl.isList.typeIs slot_list_getitem.lookup
      (wpAny_getItem_list_neg (Q := fun r s' => r = w ∧ EP X pins σ Q r s') pl.isList (by omega) (by rw [List.size_toArray] <;> omega) (by omega) (by rw [hj]; simpa using ew) ⟨rfl, fin⟩) hs
theorem ix_tup : IxR X (rIxT X.K) := by
  intro value slice pins s σ H x y v u Q I rx ry h hs
  obtain ⟨p, xs, i, z, rfl, rfl, hq, he, q⟩ := h
  cases rx
  obtain ⟨t, rfl⟩ := ry
  obtain ⟨its, r, pl, hz⟩ := I.tuple hq
  obtain ⟨j, h1, h2, h3, h4, h5⟩ := atI_get he
  obtain ⟨w, ew, rw'⟩ := r.get h2
  have hl := r.length
  have hn := line63
  have fin : EP X pins σ Q w s := ⟨z, H, I, rw', q⟩
  exact subscriptTail_builtinR (x := w) pl.typeIs slot_tuple_getitem.lookup
    (getItem_tuple (j := j) (Q := fun r s' => r = w ∧ EP X pins σ Q r s') pl (by omega) (by omega) (by rw [List.size_toArray, ← hl]; exact h1) (by simpa using ew) ⟨rfl, fin⟩) hs
/-- the list's object behind a store -/
theorem mapSeq_set (its : List Value) (n j : Nat) (u : Value) : Obj.mapSeq (·.setIfInBounds j u) { cls := .type "list", data := .seq its.toArray n } = { cls := .type "list", data := .seq (its.set j u).toArray n } := by
  simp [Obj.mapSeq]
theorem Inv.lst {pins : List (Addr × Obj)} {σ : St} {H : Hp} {s : Shared} {p : Addr} {xs : List V} (I : Inv X pins σ H s) (h : H p = some (.lst xs)) :
    ∃ (its : List Value) (n : Nat), Vals xs its ∧ s.heap.get? p = some { cls := .type "list", data := .seq its.toArray n } ∧ xs.length ≤ sizeLine := by
  obtain ⟨z, its, n, r, e⟩ := I.hok p _ h
  exact ⟨its, n, r, e, z⟩
/-- the list at p is written by an update of its object -/
theorem Inv.lstUpd {pins : List (Addr × Obj)} {σ : St} {H : Hp} {s : Shared} {p : Addr} {xs ys : List V} {its its' : List Value} {n n' : Nat} {f : Obj → Obj} (I : Inv X pins σ H s) (h : H p = some (.lst xs))
    (ho : s.heap.get? p = some { cls := .type "list", data := .seq its.toArray n }) (hf : f { cls := .type "list", data := .seq its.toArray n } = { cls := .type "list", data := .seq its'.toArray n' }) (r : Vals ys its') (hz : ys.length ≤ sizeLine) (t : Nat) :
    Inv X pins σ (upd H p (.lst ys)) { s with heap := s.heap.update p f, toks := t } := by
  have e : (s.heap.update p f).get? p = some { cls := .type "list", data := .seq its'.toArray n' } := by
    rw [Heap.get?_update_self f ho (by rw [hf] <;> rfl), hf]
  refine I.write (x := p) (e := p) (by rw [h]; trivial) (.inl rfl) (fun b u hb q => (Heap.get?_update_other _ _ (Ne.symm hb)).trans q) ⟨_, e⟩ ?_
  exact ⟨hz, its', n', r, e⟩
def rSetL : V → V → V → Hp → (Hp → Prop) → Prop := fun o i v H Q => ∃ p xs k j, o = .ref p ∧ i = .int k ∧ H p = some (.lst xs) ∧ ixN xs.length k = some j ∧ Q (upd H p (.lst (xs.set j v)))
theorem set_list : PSet X rSetL := by
  intro pins s σ H o i v ov iv u Q I ro ri rv h
  obtain ⟨p, xs, k, j, rfl, rfl, hp, hj, q⟩ := h
  cases ro
  obtain ⟨t, rfl⟩ := ri
  obtain ⟨its, n, r, ho, hz⟩ := I.lst hp
  obtain ⟨h1, h2, h3, h4⟩ := ixN_seq hj
  have hl := r.length
  have hn := line63
  have I' : Inv X pins σ (upd H p (.lst (xs.set j v))) { s with heap := s.heap.update p (Obj.mapSeq (·.setIfInBounds j u)) } :=
    I.lstUpd hp ho (mapSeq_set its n j u) (r.set rv j) (by rw [List.length_set]; exact hz) s.toks
  by_cases h0 : 0 ≤ k
  · have hk : k.toNat = j := by
      rw [seqIndex_of h0 h4] at h1
      exact Option.some.inj h1
    exact PySem.W.ki_setAt ho h0 (by omega) (by rw [List.size_toArray, ← hl]; exact h4) (by rw [hk]; exact ⟨_, I', q⟩)
  · have hk : (k + (its.toArray.size : Int)).toNat = j := by
      rw [seqIndex_neg (by omega) h3] at h1
      rw [List.size_toArray, ← hl]
      exact Option.some.inj h1
    exact PySem.W.ki_setBack ho (by omega) (by rw [List.size_toArray, ← hl]; exact h3) (by omega) (by rw [hk]; exact ⟨_, I', q⟩)

theorem slice_bounds (lo hi : Option Int) (n : Nat) : (sliceBounds lo hi none n).1 = ((HT.sIx n 0 lo : Nat) : Int) ∧ (sliceBounds lo hi none n).2.1 = ((HT.sIx n n hi : Nat) : Int) ∧ (sliceBounds lo hi none n).2.2 = 1 := by
  refine ⟨?_, ?_, rfl⟩
  · cases lo with
    | none => simp [sliceBounds, HT.sIx]
    | some i =>
      simp only [sliceBounds, HT.sIx, Option.getD_none, show (1 : Int) > 0 by decide, if_true]
      by_cases h : i < 0
      · simp only [h, if_true] <;> omega
      · simp only [h, if_false] <;> omega
  · cases hi with
    | none => simp [sliceBounds, HT.sIx]
    | some i =>
      simp only [sliceBounds, HT.sIx, Option.getD_none, show (1 : Int) > 0 by decide, if_true]
      by_cases h : i < 0
      · simp only [h, if_true] <;> omega
      · simp only [h, if_false] <;> omega
theorem slicePick_cut (its : List Value) (lo hi : Option Int) : slicePick its.toArray lo hi none = ((its.drop (HT.sIx its.length 0 lo)).take (HT.sIx its.length its.length hi - HT.sIx its.length 0 lo)).toArray := by
  obtain ⟨h1, h2, h3⟩ := slice_bounds lo hi its.toArray.size
  unfold slicePick
  rw [h1, h2, h3]
  simp only [sliceRange_one, pick_run, List.size_toArray] <;> rfl
/-- xs[lo:hi] of a list: a new list -/
def rSlL (K : PySem.W.Frag) : V → Option Int → Option Int → Hp → VK → Prop := fun x lo hi H Q => ∃ a xs, x = .ref a ∧ SqL K H a xs ∧ ∀ p, H p = none → Q (.ref p) (upd H p (.lst (cutV xs lo hi)))
theorem sl_list : SlR X (rSlL X.K) := by
  intro pins s σ H x v vl vu lo hi sl Q I rx hs pl pu h
  obtain ⟨a, xs, rfl, hx, q⟩ := h
  cases rx
  obtain ⟨its, r, ht, hz⟩ := I.list hx
  have hlen := r.length
  refine ⟨"list", _, slot_list_getitem.lookup, ht.isList.typeIs, ?_⟩
  refine wpAny_getItem_list_slice ht.isList hs pl pu .none (by simp) ?_ (by rw [List.size_toArray] <;> omega)
  rw [slicePick_cut, ← hlen]
  refine ⟨.ref s.heap.objs.size, _, I.laid (t' := s.toks) (o := .lst (cutV xs lo hi)) (fun b ob q => Heap.get?_push_of_some _ q) (Nat.le_refl _) ?_, rfl, q _ (I.hok.fresh (Nat.le_refl _))⟩
  exact ⟨Nat.le_trans (cutV_length xs lo hi) hz, _, 0, (r.drop (HT.sIx xs.length 0 lo)).take (HT.sIx xs.length xs.length hi - HT.sIx xs.length 0 lo), Heap.get?_push_size _ rfl⟩

theorem call_len_seq : CallR X (.builtin "len") (fun xs H Q => ∃ p ys, xs = [.ref p] ∧ (SqL X.K H p ys ∨ SqT X.K H p ys) ∧ Q (.int ys.length) H) := by
  intro pins s σ H xs us Q I r h
  obtain ⟨p, ys, rfl, hq, q⟩ := h
  obtain ⟨u, rfl, rx⟩ := vals1 r
  cases rx
  have hn := line63
  rcases hq with hq | hq
  · obtain ⟨its, r', pl, hz⟩ := I.list hq
    have hlen := r'.length
    exact Calls.call_len_list pl.isList (by simp only [List.size_toArray] <;> omega) ⟨.int ys.length, H, I.tok _, ⟨s.toks + 1, by rw [List.size_toArray, hlen]⟩, q⟩
  · obtain ⟨its, r', pl, hz⟩ := I.tuple hq
    have hlen := r'.length
    exact len_tuple pl (by simp only [List.size_toArray] <;> omega) ⟨.int ys.length, H, I.tok _, ⟨s.toks + 1, by rw [List.size_toArray, hlen]⟩, q⟩
theorem CallR.or {f : Value} {r r' : List V → Hp → VK → Prop} (h : CallR X f r) (h' : CallR X f r') : CallR X f (fun xs H Q => r xs H Q ∨ r' xs H Q) := by
  intro pins s σ H xs us Q I rs q
  rcases q with q | q
  · exact h pins s σ H xs us Q I rs q
  · exact h' pins s σ H xs us Q I rs q
theorem call_list_of : CallR X (.type "list") (fun xs H Q => ∃ p ys, xs = [.ref p] ∧ (SqL X.K H p ys ∨ SqT X.K H p ys) ∧ ∀ l, H l = none → Q (.ref l) (upd H l (.lst ys))) := by
  intro pins s σ H xs us Q I r h
  obtain ⟨p, ys, rfl, hq, q⟩ := h
  obtain ⟨u, rfl, rx⟩ := vals1 r
  cases rx
  have fin : ∀ (its : List Value), Vals ys its → ys.length ≤ sizeLine → ∀ (h' : Heap) (c' : Nat), (∀ b o', s.heap.get? b = some o' → h'.get? b = some o') →
      h'.get? s.heap.objs.size = some { cls := .type "list", dict := none, data := .seq its.toArray c', slots := #[] } → EP X pins σ Q (.ref s.heap.objs.size) { s with heap := h' } := fun its r' hz h' c' kp e =>
    ⟨.ref s.heap.objs.size, _, I.laid (t' := s.toks) kp (Nat.le_refl _) (show ObjOk X.prog X.w _ h' _ (.lst ys) from ⟨hz, its, c', r', e⟩), rfl, q _ (I.hok.fresh (Nat.le_refl _))⟩
  rcases hq with hq | hq
  · obtain ⟨its, r', pl, hz⟩ := I.list hq
    have hlen := r'.length
    obtain ⟨o, ho, hc, n, hd⟩ := pl.isList
    exact call_list_seq p (.inl rfl) ho hc hd (fun h' c' kp e => fin its r' hz h' c' kp e) (by simp only [List.size_toArray] <;> omega)
  · obtain ⟨its, r', pl, hz⟩ := I.tuple hq
    have hlen := r'.length
    obtain ⟨o, ho, hc, n, hd⟩ := pl
    exact call_list_seq p (.inr rfl) ho hc hd (fun h' c' kp e => fin its r' hz h' c' kp e) (by simp only [List.size_toArray] <;> omega)
/-- the value is of that builtin type -/
def tyV (K : PySem.W.Frag) (T : String) (x : V) (H : Hp) : Prop := match x with
  | .str _ => T = "str"
  | .int _ => T = "int"
  | .ref p => (T = "list" ∧ ∃ xs, SqL K H p xs) ∨ (T = "tuple" ∧ ∃ o, K.lookup p = some o ∧ o.cls = .type "tuple" ∧ o.dict = none) ∨
      (T = "dict" ∧ ((∃ kvs, H p = some (.dK kvs)) ∨ ∃ kvs, H p = some (.dT kvs))) ∨ (T = "set" ∧ ∃ S n, H p = some (.set S n))
  | _ => False
theorem tyV_is {pins : List (Addr × Obj)} {σ : St} {H : Hp} {s : Shared} {T : String} {x : V} {v : Value} (I : Inv X pins σ H s) (r : RelV x v) (ty : tyV X.K T x H) :
    s.TypeIs v T ∧ ∀ a, v = .ref a → ∃ ob, s.heap.get? a = some ob ∧ ob.dict = none := by
  cases x with
  | str z =>
    obtain ⟨t, rfl⟩ := r
    cases (show T = "str" from ty)
    exact ⟨typeIs_str s z t, fun _ e => nomatch e⟩
  | int i =>
    obtain ⟨t, rfl⟩ := r
    cases (show T = "int" from ty)
    exact ⟨typeIs_int s i t, fun _ e => nomatch e⟩
  | ref p =>
    cases r
    rcases ty with ⟨rfl, xs, hq⟩ | ⟨rfl, o, hk, hc, hd⟩ | ⟨rfl, hk⟩ | ⟨rfl, S, n, hk⟩
    · obtain ⟨its, _, pl, _⟩ := I.list hq
      refine ⟨pl.isList.typeIs, fun a e => ?_⟩
      cases e
      obtain ⟨o, n, e, c, hd, _⟩ := pl
      exact ⟨o, e, hd⟩
    · refine ⟨⟨o, I.kIn p o hk, hc⟩, fun a e => ?_⟩
      cases e
      exact ⟨o, I.kIn _ o hk, hd⟩
    · have z : ∃ o, s.heap.get? p = some o ∧ o.ExactDict := by
        rcases hk with ⟨kvs, hk⟩ | ⟨kvs, hk⟩
        · obtain ⟨_, _, _, _, o, _, _, e, ex, _⟩ := I.hok p _ hk
          exact ⟨o, e, ex⟩
        · obtain ⟨_, _, _, _, o, _, _, e, ex, _⟩ := I.hok p _ hk
          exact ⟨o, e, ex⟩
      obtain ⟨o, e, ex⟩ := z
      refine ⟨⟨o, e, ex.1⟩, fun a e2 => ?_⟩
      cases e2
      exact ⟨o, e, ex.2.1⟩
    · obtain ⟨o, _, _, _, e, ex, _⟩ := I.hok p _ hk
      refine ⟨⟨o, e, ex.1⟩, fun a e2 => ?_⟩
      cases e2
      exact ⟨o, e, ex.2.1⟩
  | _ => exact False.elim ty
def tBM0 (K : PySem.W.Frag) (T : String) (r : V → List V → Hp → VK → Prop) (to : TE) : TE := fun σ H Q => to σ H fun x H1 => tyV K T x H1 ∧ r x [] H1 Q
def tBM (K : PySem.W.Frag) (T : String) (r : V → List V → Hp → VK → Prop) (to : TE) (t : TA) : TE := fun σ H Q => to σ H fun x H1 => tyV K T x H1 ∧ t σ H1 fun xs H2 => r x xs H2 Q
variable {o e : Expr} {es : List Expr} {to : TE} {t : TA} {name : Str} {apos cpos : Pos} {T id : String} {r : V → List V → Hp → VK → Prop}
theorem pe_bm0 (pa : PlainAttrs T) (slot : Slot T name id) (hty : typeOf (.builtin id) = pure (.type "method_descriptor")) (hm : MtR X id r) (ho : PE X o to)
    (hbase : attributeBase o name X.env (eval o X.env) = eval o X.env := by rfl) (hline : (apos.endLine == cpos.line) = true := by rfl) : PE X (.Call (.Attribute o name apos) [] [] cpos) (tBM0 X.K T r to) := by
  intro pins s σ H Q I h
  refine wpAny_Call_method0_late hbase hline (thn (ho pins s σ H _ I h) fun v s1 ⟨x, H1, I1, r1, ty, q1⟩ => ?_)
  obtain ⟨h1, h2⟩ := tyV_is I1 r1 ty
  exact ⟨T, id, pa, slot, hty, h1, h2, Calls.callWith_builtin rfl (PySem.evalArgs_none (hm pins s1 σ H1 x [] v [] Q I1 r1 .nil q1))⟩
theorem pe_bm (pa : PlainAttrs T) (slot : Slot T name id) (hty : typeOf (.builtin id) = pure (.type "method_descriptor")) (hm : MtR X id r) (ho : PE X o to) (ha : PA X (e :: es) t)
    (hbase : attributeBase o name X.env (eval o X.env) = eval o X.env := by rfl)
    (hfew : ((backTo cpos (starEach (e :: es) X.env)).all (fun x => !x.1) && (backToKw cpos (keywordEach [] X.env)).all (fun x => x.1.isSome)
      && decide ((e :: es).length + ([] : List Keyword).length + (if ([] : List Keyword).isEmpty then 0 else 1) < 30)) = true := by rfl)
    (hline : (apos.endLine == cpos.line) = true := by rfl) (hs : starEach (e :: es) X.env = (false, eval e X.env) :: starEach es X.env := by rfl) (hplain : (backTo cpos (starEach es X.env)).any (·.1) = false := by rfl) :
    PE X (.Call (.Attribute o name apos) (e :: es) [] cpos) (tBM X.K T r to t) := by
  intro pins s σ H Q I h
  refine wpAny_Call_method_late hbase hfew hline rfl (thn (ho pins s σ H _ I h) fun v s1 ⟨x, H1, I1, r1, ty, q1⟩ => ?_)
  obtain ⟨h1, h2⟩ := tyV_is I1 r1 ty
  refine ⟨T, id, pa, slot, hty, h1, h2, ?_⟩
  have hA := ha cpos pins s1 σ H1 _ I1 q1
  rw [hs] at hA ⊢
  refine Calls.callWith_builtin (by show (false || (backTo cpos (starEach es X.env)).any (·.1)) = false; rw [hplain] <;> rfl) (Calls.evalArgs_plain ?_)
  exact thn hA fun us s2 ⟨vs, H2, I2, r2, q2⟩ => hm pins s2 σ H2 x vs v us Q I2 r1 r2 q2
end
end L2

namespace L2
open PySem PySem.Spec PyProof.Rows

def MtM (X : Cx) (id : String) (r : V → List V → Hp → VK → Prop) : Prop :=
  ∀ (pins : List (Addr × Obj)) (s : Shared) (σ : St) (H : Hp) (x : V) (xs : List V) (v : Value) (us : List Value) (Q : VK), Inv X pins σ H s → RelV x v → Vals xs us → r x xs H Q →
    wpAny (model X.prog X.w) X.A (call (.builtin id) (v :: us)) (EP X pins σ Q) X.xe s

theorem Vals.one : ∀ {x : V} {us : List Value}, Vals [x] us → ∃ u, us = [u] ∧ RelV x u
  | _, _, .cons r .nil => ⟨_, rfl, r⟩
theorem Vals.two : ∀ {x y : V} {us : List Value}, Vals [x, y] us → ∃ u v, us = [u, v] ∧ RelV x u ∧ RelV y v
  | _, _, _, .cons r (.cons q .nil) => ⟨_, _, rfl, r, q⟩
theorem Vals.zero : ∀ {us : List Value}, Vals [] us → us = []
  | _, .nil => rfl
theorem Vals.dropLast {xs : List V} {us : List Value} (h : Vals xs us) : Vals xs.dropLast us.dropLast := by
  induction h with
  | nil => exact .nil
  | cons r t ih =>
    cases t with
    | nil => exact .nil
    | cons q t' => exact .cons r ih
theorem Vals.eraseIdx : ∀ {xs : List V} {us : List Value} (i : Nat), Vals xs us → Vals (xs.eraseIdx i) (us.eraseIdx i)
  | _, _, _, .nil => .nil
  | _, _, 0, .cons _ t => t
  | _, _, i + 1, .cons r t => .cons r (Vals.eraseIdx i t)
theorem erase_last {α : Type} (l : List α) : l.eraseIdx (l.length - 1) = l.dropLast := by
  induction l with
  | nil => rfl
  | cons a r ih =>
    cases r with
    | nil => rfl
    | cons b r =>
      have e : (a :: b :: r).length - 1 = ((b :: r).length - 1) + 1 := by
        have h1 : (a :: b :: r).length = r.length + 2 := rfl
        have h2 : (b :: r).length = r.length + 1 := rfl
        omega
      rw [e, List.eraseIdx_cons_succ, ih]
      all_goals rfl
section
variable {X : Cx} {pins : List (Addr × Obj)} {σ : St} {H : Hp} {s : Shared} {l b : Addr} {xs ys zs : List V}

theorem Inv.lset {its its' : List Value} {n : Nat} {f : Array Value → Array Value} {t' : Nat} (I : Inv X pins σ H s) (hH : H l = some (.lst xs))
    (e : s.heap.get? l = some { cls := .type "list", data := .seq its.toArray n }) (hf : f its.toArray = its'.toArray) (hv : Vals ys its') (hz : ys.length ≤ sizeLine) :
    Inv X pins σ (upd H l (.lst ys)) { s with heap := s.heap.update l (Obj.mapSeq f), toks := t' } := by
  have q := PySem.IsL.update e f
  rw [hf] at q
  refine I.write (x := l) (e := l) (by rw [hH]; exact trivial) (.inl rfl) (fun b' u hb hu => (Heap.get?_update_other s.heap (Obj.mapSeq f) (Ne.symm hb)).trans hu) ⟨_, q⟩ ?_
  exact ⟨hz, its', _, hv, q⟩
theorem Inv.lnew {its : List Value} {t' : Nat} (I : Inv X pins σ H s) (hv : Vals ys its) (hz : ys.length ≤ sizeLine) :
    Inv X pins σ (upd H s.heap.objs.size (.lst ys)) { s with heap := s.heap.push { cls := .type "list", data := .seq its.toArray }, toks := t' } :=
  I.laid (fun _ _ q => Heap.get?_push_of_some _ q) (Nat.le_refl _) ⟨hz, its, 0, hv, Heap.get?_push_size _ rfl⟩
theorem Inv.fresh (I : Inv X pins σ H s) : H s.heap.objs.size = none := I.hok.fresh (Nat.le_refl _)
theorem Inv.lstM (I : Inv X pins σ H s) (hH : H l = some (.lst xs)) : xs.length ≤ sizeLine ∧ ∃ (its : List Value) (n : Nat), Vals xs its ∧ xs.length = its.length ∧ s.heap.get? l = some { cls := .type "list", data := .seq its.toArray n } := by
  obtain ⟨z, its, n, r, e⟩ := I.hok l _ hH
  exact ⟨z, its, n, r, r.length, e⟩

theorem notLongL {n : Nat} (h : n ≤ sizeLine) : Builtin.List.listTooLong n = false := by
  unfold Builtin.List.listTooLong
  exact decide_eq_false (by omega)
end

section
variable {X : Cx}

def rAppend : V → List V → Hp → VK → Prop := fun x vs H Q => ∃ l xs y, x = .ref l ∧ vs = [y] ∧ H l = some (.lst xs) ∧ xs.length < sizeLine ∧ Q .non (upd H l (.lst (xs ++ [y])))
theorem mt_append : MtM X "list.append" rAppend := by
  intro pins s σ H x vs v us Q I rx rv h
  obtain ⟨l, xs, y, rfl, rfl, hH, hz, q⟩ := h
  cases rx
  obtain ⟨u, rfl, ru⟩ := rv.one
  obtain ⟨z, its, n, r, hl, e⟩ := I.lstM hH
  refine call_meets F.slot_list_append ⟨_, e, rfl⟩ F.entry_list_append (F.args_list_append_2 _ _) (PySem.list_append l its.toArray n u (by rw [List.size_toArray]; omega)) ⟨e, ?_⟩
  refine ⟨.non, _, I.lset (its' := its ++ [u]) hH e (by simp) (r.append (.cons ru .nil)) ?_, rfl, q⟩
  rw [List.length_append, List.length_singleton]
  omega

def rExtend : V → List V → Hp → VK → Prop := fun x vs H Q => ∃ l b xs zs, x = .ref l ∧ vs = [.ref b] ∧ H l = some (.lst xs) ∧ H b = some (.lst zs) ∧ xs.length + zs.length ≤ sizeLine ∧ Q .non (upd H l (.lst (xs ++ zs)))
theorem mt_extend : MtM X "list.extend" rExtend := by
  intro pins s σ H x vs v us Q I rx rv h
  obtain ⟨l, b, xs, zs, rfl, rfl, hH, hB, hz, q⟩ := h
  cases rx
  obtain ⟨u, rfl, ru⟩ := rv.one
  cases ru
  obtain ⟨z, its, n, r, hl, e⟩ := I.lstM hH
  obtain ⟨z2, its2, n2, r2, hl2, e2⟩ := I.lstM hB
  have hsz : its.toArray.size + its2.toArray.size ≤ sizeLine := by rw [List.size_toArray, List.size_toArray]; omega
  have hlong : ¬ (!its.toArray.isEmpty && Builtin.List.listTooLong (its.toArray.size + its2.toArray.size)) = true := by
    rw [notLongL hsz, Bool.and_false]
    exact Bool.false_ne_true
  refine call_meets F.slot_list_extend ⟨_, e, rfl⟩ F.entry_list_extend (F.args_list_extend_2 _ _)
    (AutoSeq1.list_extend_list_list_0 l its.toArray n b its2.toArray n2 hlong (by rw [List.size_toArray]; omega) (by omega)) ⟨e, e2, ?_⟩
  refine ⟨.non, _, I.lset (its' := its ++ its2) hH e (by simp) (r.append r2) ?_, rfl, q⟩
  rw [List.length_append]
  omega

def rPop : V → List V → Hp → VK → Prop := fun x vs H Q => ∃ l xs y, x = .ref l ∧ vs = [] ∧ H l = some (.lst xs) ∧ xs[xs.length - 1]? = some y ∧ Q y (upd H l (.lst xs.dropLast))
theorem mt_pop : MtM X "list.pop" rPop := by
  intro pins s σ H x vs v us Q I rx rv h
  obtain ⟨l, xs, y, rfl, rfl, hH, hy, q⟩ := h
  cases rx
  have hus := rv.zero
  subst hus
  obtain ⟨z, its, n, r, hl, e⟩ := I.lstM hH
  obtain ⟨u, hu, ru⟩ := r.get hy
  have hy' : its.toArray[its.toArray.size - 1]? = some u := by
    show its.toArray[its.length - 1]? = some u
    rw [← Array.getElem?_toList, ← hl]
    exact hu
  refine call_meets F.slot_list_pop ⟨_, e, rfl⟩ F.entry_list_pop (F.args_list_pop_1 _) (MeetsSeq.list_pop_last l its.toArray n u hy' (by rw [List.size_toArray]; omega)) ⟨e, ?_⟩
  refine ⟨y, _, I.lset (its' := its.dropLast) hH e ?_ r.dropLast ?_, ru, q⟩
  · show its.toArray.eraseIdxIfInBounds (its.toArray.size - 1) = its.dropLast.toArray
    rw [List.size_toArray, List.eraseIdxIfInBounds_toArray, erase_last]
  · rw [List.length_dropLast]
    omega

def rCat : R2 := fun x y H Q => ∃ l b xs zs, x = .ref l ∧ y = .ref b ∧ H l = some (.lst xs) ∧ H b = some (.lst zs) ∧ xs.length + zs.length ≤ sizeLine ∧ ∀ p, H p = none → Q (.ref p) (upd H p (.lst (xs ++ zs)))
theorem op_cat : OpR X (binaryOp .Add) rCat := by
  intro pins s σ H x y v u Q I rx ry h
  obtain ⟨l, b, xs, zs, rfl, rfl, hH, hB, hz, q⟩ := h
  cases rx
  cases ry
  obtain ⟨z, its, n, r, hl, e⟩ := I.lstM hH
  obtain ⟨z2, its2, n2, r2, hl2, e2⟩ := I.lstM hB
  refine PySem.P.add_list e e2 ?_ (by rw [List.size_toArray, List.size_toArray]; omega)
  have ea : its.toArray ++ its2.toArray = (its ++ its2).toArray := by simp
  rw [ea]
  exact ⟨.ref _, _, I.lnew (t' := s.toks) (r.append r2) (by rw [List.length_append]; omega), rfl, q _ I.fresh⟩
end

section
variable {prog : Program} {w : World} {A : Around} {E : Value → Shared → Prop} {s : Shared}
end

section
variable {X : Cx}
end
end L2

namespace Att
open PySem PySem.W PySem.Calls PyProof.Rows

theorem ints_of_wellAll {P : Params} {h : Heap} : ∀ (ns : List Int) (vs : List Value), WellAll P h vs (ns.map WData.int) → IntsAre vs ns := by
  intro ns
  induction ns with
  | nil =>
    intro vs w
    rw [List.map_nil] at w
    cases w
    exact .nil
  | cons n ns ih =>
    intro vs w
    rw [List.map_cons] at w
    cases w with
    | cons a b =>
      cases a
      exact .cons _ _ (ih _ b)

theorem script_of {l : OpenLaw} {n : Nat} (hn : l.most = some n) {P : Params} {h : Heap} {args : List WData} {vals : List Value}
    (hpre : l.row.toRowW.claim.pre args = true) (hwl : WellAll P h vals args) :
    ∃ a vs ns, vals = [Value.ref a] ∧ args = [WData.list (ns.map WData.int)] ∧ h.get? a = some { cls := .type "list", data := .seq vs.toArray } ∧ IntsAre vs ns ∧ ns.length ≤ n := by
  have hsh : WShape.hasAll [] args [.list .int] = true := (pre_splitW hpre).1
  have hc : l.pre.holds [] { args := args } = true := (pre_splitW hpre).2
  obtain ⟨d, r, rfl, h1, h2⟩ := hasAllW_cons hsh
  obtain rfl := hasAllW_nil h2
  obtain ⟨xs, rfl, h3⟩ := hasW_list h1
  obtain ⟨ns, rfl⟩ := items_int h3
  have hlen : ns.length ≤ n := by
    unfold OpenLaw.pre at hc
    have h4 : (WTm.not (.lt (.lit (.int (n : Int))) (.len (.arg 0)))).holds [] { args := [.list (ns.map .int)] } = true := by
      have h4 := (holds_andW hc).1
      rw [hn] at h4
      exact h4
    have h5 := condW_of h4 (w_not (w_lt w_lit (w_len_list (w_arg rfl))))
    rw [List.length_map] at h5
    refine Nat.le_of_not_lt fun q => ?_
    have q' : (n : Int) < ((ns.length : Nat) : Int) := by omega
    first
      | (rw [decide_eq_true q'] at h5; exact absurd h5 (by decide))
      | (simp at h5; omega)
  cases hwl with
  | cons w1 w2 =>
    cases w2
    cases w1 with
    | list ho hall => exact ⟨_, _, ns, rfl, rfl, ho, ints_of_wellAll ns _ hall, hlen⟩

theorem post_true (l : OpenLaw) (args : List WData) : l.row.toRowW.claim.post args (.bool true) args = true :=
  postW_of (r := l.row.toRowW) (X := (true == true))
    (show WShape.has [] (.bool true) .bool = true by first | rfl | decide | simp [WShape.has, WShape.arms, WShape.armsAll])
    (show (WTm.eq .res (.lit (.bool true))).value [] { args := args, res := some (.bool true), after := args } = some (.bool (true == true)) from w_eq_bool (w_res rfl) w_lit) rfl

/-- the same from a codeAny of the CALL (for a layer whose function contracts speak of calls) -/
theorem attach_call {l : OpenLaw} {n : Nat} {q : Program} {loose : List Str} {XP : (Str → Option Value) → Heap → Prop} {YP : World → Heap → Prop} {d : DefRec}
    (hn : l.most = some n) (hdf : d.params.defaults = [])
    (call : ∀ (w : World) (s₀ s₁ : Shared) (mg mb : Str → Option Value) (fa : Addr) (o : Obj) (pm cd doc : Value) (a : Addr) (vs : List Value) (ns : List Int),
      Ground q loose [] XP w s₀ mg mb s₁.heap → YP w s₁.heap →
      s₁.heap.get? fa = some o → o.data = .func (docDef d.name d.params d.body d.scope pm cd doc) → s₁.heap.CodeRec cd d.name → mg d.name = some (.ref fa) →
      s₁.heap.get? a = some { cls := .type "list", data := .seq vs.toArray } → IntsAre vs ns → ns.length ≤ n → s₁.gens = #[] →
      codeAny (model l.prog w) callerA (.call (.ref fa) ⟨[.ref a], []⟩) (fun r s' => r = .ok (.ret (.bool true)) ∧ OldK s₁.heap s'.heap ∧ s'.os = s₁.os ∧ AllBare s'.gens) s₁) :
    WalkO q loose XP YP l.row.toRowW d [] (fun f vs => PySem.call f vs) := by
  intro w s₀ s₁ mg mb G Y fa o pm cd doc dV kV ho hd hcd hD hmg hg args vals as hpre hlay hrd hwl hlo
  obtain rfl : dV = .none := Dflts.none hD hdf
  obtain rfl : kV = .none := Dflts.noKw hD
  obtain ⟨a, vs, ns, rfl, rfl, hobj, hints, hlen⟩ := script_of hn hpre hwl
  refine enter_call (codeAny_mono (call w s₀ s₁ mg mb fa o pm cd doc a vs ns G Y ho (fd_plain hd) hcd hmg hobj hints hlen hg) fun r s' hq => ?_)
  obtain ⟨rfl, h2, h3, h4⟩ := hq
  exact ⟨.inl ⟨.bool true, .bool true, [], rfl, fun _ => rfl, .bool true, post_true l _, fun _ => ⟨List.Pairwise.nil, fun _ hm => (nomatch hm)⟩⟩, h2, h3, h4⟩

section
variable {prog : Program} {w : World} {A : Around} {E : Value → Shared → Prop} {s : Shared} {K : Frag}

end
end Att

namespace L2
open PySem PySem.Spec PyProof.Rows

theorem vals_ints : ∀ {vs : List Value} {ns : List Int}, IntsAre vs ns → Vals (ns.map V.int) vs
  | _, _, .nil => .nil
  | _, _, .cons n t h => .cons ⟨t, rfl⟩ (vals_ints h)

/-- nothing is tracked but the script, known to the object (or it is an object of the module) -/
def Only (H : Hp) : Prop := ∀ b, H b = none ∨ ∃ o xs, H b = some (.frz o (.lst xs))

/-- THE HEAD: the law's promise, at the heap behind the top. F, the promise of the law's def, may use that base is part of the heap (so K.In base, base.Ns mainGlobals mg stand in Mod) -/
theorem law_call {P : Program} {w : World} {K : PySem.W.Frag} {mg mb : Str → Option Value} {CX : CXT} {k : Nat} {fa a : Addr} {fd : FuncData} {x : Str} {sp : Sp} {s₁ : Shared} {vs : List Value} {ns : List Int}
    (KX : K.In s₁.heap) (hns : s₁.heap.Ns mainGlobals mg) (hb : s₁.heap.Ns builtinsNs mb) (hbb : ∀ x : Str, x ≠ "__name__" → mb x = bootBuiltins x) (hlim : s₁.heap.NoLimit) (hg : s₁.gens = #[])
    (ha : s₁.heap.get? a = some { cls := .type "list", data := .seq vs.toArray }) (hi : IntsAre vs ns) (hl : ns.length ≤ sizeLine) (hr : Room k callerA)
    (F : ∀ base : Heap, K.In base → base.Ns mainGlobals mg → FnOk P w K mg base CX k fa fd [x] sp) (hbind : ∀ (s : Shared) (u : Value), BindsTo s fd ⟨[u], []⟩ [(x, u)])
    (hsp : ∀ H : Hp, Only H → SqL K H a (ns.map V.int) → sp [.ref a] H (fun v _ => v = .bl true) fun _ _ _ => False)
    (hCX : ∀ H e s', CX [] H s₁ (fun _ _ _ => False) e s' → False) :
    codeAny (model P w) callerA (.call (.ref fa) ⟨[.ref a], []⟩) (fun r s' => r = .ok (.ret (.bool true)) ∧ OldK s₁.heap s'.heap ∧ s'.os = s₁.os ∧ AllBare s'.gens) s₁ := by
  have rv := vals_ints hi
  have lenV := hi.length
  -- from an abstract heap in which nothing but the script may be tracked
  have core : ∀ H : Hp, Only H → SqL K H a (ns.map V.int) → HOk P w H s₁.heap → (∀ b, H b ≠ none → b = a) → (H a ≠ none → K.lookup a = none) →
      codeAny (model P w) callerA (.call (.ref fa) ⟨[.ref a], []⟩) (fun r s' => r = .ok (.ret (.bool true)) ∧ OldK s₁.heap s'.heap ∧ s'.os = s₁.os ∧ AllBare s'.gens) s₁ := by
    intro H hO hS hok hA hK
    have base_of : ∀ {b : Addr} {o : Obj}, s₁.heap.get? b = some o → H b = none → (hidT s₁.heap H).get? b = some o := fun e n => hidT_get e n
    have noA : ∀ {b : Addr} {o : Obj} {es : Array DictEntry} {ep : Nat}, s₁.heap.get? b = some o → o.data = .dict es ep → H b = none := fun {b o es ep} e d => by
      cases q : H b with
      | none => rfl
      | some u =>
        have e' : b = a := hA b (by rw [q]; simp)
        subst e'
        rw [ha] at e; cases e
        have d' : Data.seq vs.toArray _ = Data.dict es ep := d
        cases d'
    have nsK : ∀ {b : Addr} {m : Str → Option Value}, s₁.heap.Ns b m → (hidT s₁.heap H).Ns b m := fun {b m} ⟨o, es, ep, e, d, r⟩ => ⟨o, es, ep, base_of e (noA e d), d, r⟩
    have hKb : K.In (hidT s₁.heap H) := fun b o e => base_of (KX b o e) (by
      cases q : H b with
      | none => rfl
      | some u =>
        have e' : b = a := hA b (by rw [q]; simp)
        subst e'
        rw [hK (by rw [q]; simp)] at e; cases e)
    have hM : Mod K mg (hidT s₁.heap H) := ⟨hKb, nsK hns, ⟨mb, nsK hb, hbb⟩, let ⟨mc, h1, h2⟩ := hlim; ⟨mc, nsK h1, h2⟩⟩
    have e0 : Env0 P w K mg (hidT s₁.heap H) callerA [] s₁ H := ⟨rfl, hM, fun b o e => of_hidT e, Nat.le_of_eq (hidT_size _ _), trivial, fun b hb => absurd (show b ∈ ([] : List Addr) from hb) (by simp), hok, .of_eq hg⟩
    refine codeAny_mono ((F _ hKb (nsK hns)).run callerA [] s₁ H ⟨[.ref a], []⟩ [.ref a] [.ref a] _ _ hr e0 (hbind s₁ (.ref a)) (.cons rfl .nil) (hsp H hO hS)) fun r s' h => ?_
    cases r with
    | error e => exact (hCX H e s' h).elim
    | ok fl =>
      cases fl with
      | next => exact False.elim h
      | brk => exact False.elim h
      | cont => exact False.elim h
      | ret u =>
        obtain ⟨v, H', os, bare, un, hok', r', q⟩ := h
        have q' : v = .bl true := q
        subst q'
        obtain rfl : u = Value.bool true := r'
        refine ⟨rfl, OldK.of_keep fun b o e => ?_, os, bare⟩
        cases q : H b with
        | none => exact un.keep b o e q (by intro z; exact absurd (show b ∈ ([] : List Addr) from z) (by simp)) (by simp)
        | some u =>
          rcases hO b with z | ⟨ob, xs, z⟩
          · rw [q] at z; cases z
          · have z2 := un.frzs b ob _ z
            obtain ⟨e1, _⟩ := hok b _ z
            obtain ⟨e2, _⟩ := hok' b _ z2
            rw [e] at e1; cases e1
            exact e2
  cases hk : K.lookup a with
  | some o =>
    -- the script is one of the module's own objects
    have e := KX a o hk
    rw [ha] at e
    cases e
    refine core (fun _ => none) (fun _ => .inl rfl) (.inr ⟨_, vs.toArray, _, hk, rfl, rfl, rfl, by rw [List.size_toArray, lenV]; exact hl, by simpa using rv⟩) (fun b u z => by have z' : (none : Option HO) = some u := z; cases z') (fun b z => absurd rfl z) fun z => absurd rfl z
  | none =>
    refine core (fun b => if b = a then some (.frz { cls := .type "list", data := .seq vs.toArray } (.lst (ns.map V.int))) else none) (fun b => ?_) (.inl (.inr ⟨{ cls := .type "list", data := .seq vs.toArray }, if_pos rfl⟩)) (fun b u z => ?_) (fun b z => ?_) fun _ => hk
    · by_cases hb : b = a
      · exact .inr ⟨_, _, if_pos hb⟩
      · exact .inl (if_neg hb)
    · by_cases hb : b = a
      · have z' := (if_pos hb).symm.trans z
        cases z'
        subst hb
        exact ⟨ha, by rw [List.length_map]; exact hl, vs, _, rv, ha⟩
      · have z' := (if_neg hb).symm.trans z
        cases z'
    · by_cases hb : b = a
      · exact hb
      · exact absurd (if_neg hb) z
end L2

namespace L2
open PySem PySem.Spec PyProof.Rows

/-- the goal that k_head leaves (case hc), from the law's promise. F gives the function object fd (K's own) once, then the promise over every base -/
theorem walk_of {l : PySem.W.OpenLaw} {n k : Nat} {q : Program} {loose : List Str} {XP : (Str → Option Value) → Heap → Prop} {YP : World → Heap → Prop} {d : DefRec} {K : Params → PySem.W.Frag} {CX : World → CXT} {sp : World → Sp} {x : Str}
    (hn : l.most = some n) (hn2 : n ≤ sizeLine) (hdf : d.params.defaults = []) (hr : Room k callerA)
    (hY : ∀ (w : World) (h : Heap), YP w h → (K w.params).In h)
    (F : ∀ (w : World) (mg : Str → Option Value) (fa : Addr) (h : Heap), (K w.params).In h → h.Ns mainGlobals mg → mg d.name = some (.ref fa) →
      ∃ fd : FuncData, (∀ (s : Shared) (u : Value), BindsTo s fd ⟨[u], []⟩ [(x, u)]) ∧
        ∀ base : Heap, (K w.params).In base → base.Ns mainGlobals mg → FnOk l.prog w (K w.params) mg base (CX w) k fa fd [x] (sp w))
    (hsp : ∀ (w : World) (H : Hp) (a : Addr) (ns : List Int), ns.length ≤ n → Only H → SqL (K w.params) H a (ns.map V.int) → sp w [.ref a] H (fun v _ => v = .bl true) fun _ _ _ => False)
    (hCX : ∀ (w : World) (H : Hp) (s : Shared) (e : Value) (s' : Shared), CX w [] H s (fun _ _ _ => False) e s' → False) :
    PySem.W.WalkO q loose XP YP l.row.toRowW d [] (fun f vs => PySem.call f vs) := by
  refine Att.attach_call hn hdf fun w s₀ s₁ mg mb fa o pm cd doc a vs ns G Y ho hd hcd hmg hobj hints hlen hg => ?_
  have KX := hY w _ Y
  obtain ⟨fd, hb, hF⟩ := F w mg fa _ KX G.T.g hmg
  exact law_call KX G.T.g G.T.b G.T.builtins G.T.nolimit hg hobj hints (Nat.le_trans hlen hn2) hr hF hb (fun H hO hS => hsp w H a ns hlen hO hS) fun H e s' => hCX w H s₁ e s'
end L2


namespace L2
open PySem PySem.Spec PyProof.Rows

/-- the j-th statement of a class's body -/
def inClass (s : Stmt) (j : Nat) : Stmt := match s with
  | .ClassDef _ _ _ body _ _ _ _ _ _ _ => body.getD j (.Pass ⟨0, 0, 0, 0⟩)
  | _ => .Pass ⟨0, 0, 0, 0⟩
def defArgs (s : Stmt) : Arguments := match s with
  | .FunctionDef _ a _ _ _ _ _ _ _ _ => a
  | _ => { posonlyargs := [], args := [], vararg := none, kwonlyargs := [], kw_defaults := [], kwarg := none, defaults := [] }
def defBody (s : Stmt) : List Stmt := match s with
  | .FunctionDef _ _ b _ _ _ _ _ _ _ => b
  | _ => []
def defScope (s : Stmt) : Scope := match s with
  | .FunctionDef _ _ _ _ _ _ sc _ _ _ => sc
  | _ => { kind := .function, names := [], isGenerator := false, isCoroutine := false }

abbrev CX0 : CXT := fun _ _ _ _ _ _ => False
abbrev E0 : XK := fun _ _ _ => False
theorem pass0 {X : Cx} : Passes CX0 X E0 := fun _ _ _ _ _ _ _ h => h.elim

structure Fun (K : PySem.W.Frag) (x qual : Str) (st : Stmt) (f : Addr) (fd : FuncData) : Prop where
  ex : ∃ (oc : Value) (od : Option Addr) (kV doc pm : Value) (an : Option Addr) (cdv ct : Value) (osl : Array (Option Value)),
    fd = PySem.W.fnOf x qual (defArgs st) (defBody st) (defScope st) .none kV doc pm an cdv ct ∧ K.lookup f = some ⟨oc, od, .func fd, osl⟩ ∧ PySem.W.codeIn K cdv qual = true
  kp : PySem.W.keepIn K (.ref f) = true
section
variable {P : Program} {w : World} {K : PySem.W.Frag} {mg : Str → Option Value} {base : Heap}
/-- THE RULE for a def: its body as a term of rules, and the reading of that term -/
theorem Fun.ok {x qual : Str} {st : Stmt} {f : Addr} {fd : FuncData} {N ps : List Str} {k : Nat} {sp : Sp} (F : Fun K x qual st f fd) (S : FnScope N ps (defScope st)) (len : ∀ vs H Q E, sp vs H Q E → vs.length = ps.length)
    (hbody : ∀ (cdv : Value) (A : Around) (outer : List Env) (s : Shared) (H : Hp) (vs : List V) (Q : VK) (E : XK), Room k (A.deeper (envOfC qual (defScope st) s.heap.objs.size f cdv)) → sp vs H Q E →
      ∃ t, PSs (cxOf CX0 P w K mg base N qual (defScope st) f cdv A outer s H E).nox (defBody st) t ∧ t { nx := fun _ H' => Q .non H', rt := Q } (start N vs) H) : FnOk P w K mg base CX0 (k + 1) f fd ps sp := by
  obtain ⟨oc, od, kV, doc, pm, an, cdv, ct, osl, rfl, lk, hcd⟩ := F.ex
  refine fn_of lk hcd S len fun A outer s H vs Q E hr hsp => ?_
  obtain ⟨t, h, q⟩ := hbody cdv A outer s H vs Q E hr hsp
  exact ⟨t, h.nox, q⟩
/-- how its arguments bind (no defaults): h is «fun _ _ _ _ _ _ us hl => match us, hl with | [_, _], _ => rfl», one _ a parameter -/
theorem Fun.binds {x qual : Str} {st : Stmt} {f : Addr} {fd : FuncData} {ps : List Str} (F : Fun K x qual st f fd)
    (h : ∀ (kV doc pm : Value) (an : Option Addr) (cdv ct : Value) (us : List Value), us.length = ps.length → bindArgs (PySem.W.fnOf x qual (defArgs st) (defBody st) (defScope st) .none kV doc pm an cdv ct) ⟨us, []⟩ = pure (ps.zip us)) : Binds K fd ps [] := by
  obtain ⟨oc, od, kV, doc, pm, an, cdv, ct, osl, rfl, lk, hcd⟩ := F.ex
  exact .all (h kV doc pm an cdv ct)
theorem fun_mk {x qual : Str} {st : Stmt} {f : Addr} {oc : Value} {od an : Option Addr} {osl : Array (Option Value)} {kV doc pm cdv ct : Value} (l : K.lookup f = some ⟨oc, od, .func (PySem.W.fnOf x qual (defArgs st) (defBody st) (defScope st) .none kV doc pm an cdv ct), osl⟩)
    (c : PySem.W.codeIn K cdv qual = true) (k : PySem.W.keepIn K (.ref f) = true) : Fun K x qual st f (PySem.W.fnOf x qual (defArgs st) (defBody st) (defScope st) .none kV doc pm an cdv ct) := ⟨⟨oc, od, kV, doc, pm, an, cdv, ct, osl, rfl, l, c⟩, k⟩
end
theorem hu_of {A : Around} {k : Nat} (hr : Room k A) : A.units + 1 < cLine := Nat.lt_of_le_of_lt (Nat.add_le_add_left (by decide : 1 ≤ 64) _) hr.units
theorem small1000 {n : Nat} (h : n ≤ 1000) : n < sizeLine := Nat.lt_of_le_of_lt h (by decide)

section
variable {X : Cx}
theorem pv (i : Nat) {x : Str} {pos : Pos} (hN : X.N[i]? = some x := by rfl) (hv : Vis X.env.scope x := by first | exact Or.inl rfl | exact Or.inr (Or.inl rfl) | exact Or.inr (Or.inr rfl)) (hd : (x == ("__debug__" : Str)) = false := by decide)
    (hcd : (x == ("__classdict__" : Str)) = false := by decide) : PE X (.Name x pos) (tVar i) := pe_var hN hv hd hcd
end

theorem iteF {A B : Prop} (h : B) : if false = true then A else B := by
  rw [if_neg Bool.false_ne_true]
  exact h
theorem iteT {A B : Prop} (h : A) : if true = true then A else B := by
  rw [if_pos rfl]
  exact h
theorem ite2 {c A B : Prop} [Decidable c] (h1 : c → A) (h2 : ¬ c → B) : if c then A else B := by
  by_cases h : c
  · rw [if_pos h]
    exact h1 h
  · rw [if_neg h]
    exact h2 h
/-- all that was tracked is as it was -/
def Same (H H' : Hp) : Prop := ∀ b o, H b = some o → H' b = some o
theorem Same.refl (H : Hp) : Same H H := fun _ _ h => h
theorem Same.trans {H H1 H2 : Hp} (a : Same H H1) (b : Same H1 H2) : Same H H2 := fun c o h => b c o (a c o h)
theorem Same.free {H H' : Hp} (e : Same H H') {l : Addr} (h : H' l = Option.none) : H l = Option.none := by
  cases q : H l with
  | none => rfl
  | some o =>
    rw [e l o q] at h
    cases h
theorem Same.seq {K : PySem.W.Frag} {H H' : Hp} {a : Addr} {xs : List V} (e : Same H H') (h : SqL K H a xs) : SqL K H' a xs := by
  rcases h with (h | ⟨o, h⟩) | h
  · exact .inl (.inl (e _ _ h))
  · exact .inl (.inr ⟨o, e _ _ h⟩)
  · exact .inr h

end L2

namespace L2
open PySem PySem.Spec PyProof.Rows

section
variable {κ : Type} [DecidableEq κ]
def valV (kvs : List (κ × V)) (k : κ) : Option V := (kvs.find? fun kv => decide (kv.1 = k)).map (·.2)
/-- in its place, or at the end -/
def putK (kvs : List (κ × V)) (k : κ) (v : V) : List (κ × V) :=
  if (kvs.any fun kv => decide (kv.1 = k)) = true then kvs.map (fun kv => if kv.1 = k then (kv.1, v) else kv) else kvs ++ [(k, v)]
def dropK (kvs : List (κ × V)) (k : κ) : List (κ × V) := kvs.filter fun kv => decide (kv.1 ≠ k)

theorem valV_pos {p : κ × V} {r : List (κ × V)} {k : κ} (e : p.1 = k) : valV (p :: r) k = some p.2 := by simp [valV, List.find?_cons, e]
theorem valV_neg {p : κ × V} {r : List (κ × V)} {k : κ} (e : ¬ p.1 = k) : valV (p :: r) k = valV r k := by simp [valV, List.find?_cons, e]
theorem valV_any (k : κ) : ∀ kvs : List (κ × V), (kvs.any fun kv => decide (kv.1 = k)) = (valV kvs k).isSome
  | [] => rfl
  | p :: r => by
    rw [List.any_cons]
    by_cases e : p.1 = k
    · simp only [valV_pos e, decide_eq_true e, Bool.true_or, Option.isSome_some]
    · rw [valV_neg e, decide_eq_false e, Bool.false_or]; exact valV_any k r
theorem valV_map (k j : κ) (y : V) : ∀ kvs : List (κ × V), valV (kvs.map fun kv => if kv.1 = k then (kv.1, y) else kv) j = (valV kvs j).map fun x => if j = k then y else x
  | [] => rfl
  | p :: r => by
    have ih := valV_map k j y r
    rw [List.map_cons]
    by_cases h : p.1 = k
    · rw [if_pos h]
      by_cases e : p.1 = j
      · rw [valV_pos (p := (p.1, y)) e, valV_pos e, Option.map_some, if_pos (e.symm.trans h)]
      · rw [valV_neg (p := (p.1, y)) e, valV_neg e, ih]
    · rw [if_neg h]
      by_cases e : p.1 = j
      · rw [valV_pos (p := p) e, valV_pos e, Option.map_some, if_neg (fun z => h (e.trans z))]
      · rw [valV_neg (p := p) e, valV_neg e, ih]
theorem valV_snoc (k j : κ) (y : V) : ∀ kvs : List (κ × V), valV kvs k = none → valV (kvs ++ [(k, y)]) j = if j = k then some y else valV kvs j
  | [], _ => by
    by_cases e : k = j
    · rw [if_pos e.symm]; exact valV_pos (p := (k, y)) e
    · rw [if_neg (fun z => e z.symm)]; exact valV_neg (p := (k, y)) e
  | p :: r, hn => by
    rw [List.cons_append]
    have hk : ¬ p.1 = k := fun z => by rw [valV_pos z] at hn; cases hn
    rw [valV_neg hk] at hn
    have ih := valV_snoc k j y r hn
    by_cases e : p.1 = j
    · rw [valV_pos e, valV_pos e, if_neg (fun z => hk (e.trans z))]
    · rw [valV_neg e, valV_neg e, ih]
theorem valV_put (kvs : List (κ × V)) (k j : κ) (y : V) : valV (putK kvs k y) j = if j = k then some y else valV kvs j := by
  unfold putK
  by_cases a : (kvs.any fun kv => decide (kv.1 = k)) = true
  · rw [if_pos a, valV_map]
    rw [valV_any] at a
    by_cases e : j = k
    · obtain ⟨x, hx⟩ := Option.isSome_iff_exists.mp a
      rw [if_pos e, e, hx, Option.map_some, if_pos rfl]
    · rw [if_neg e]
      cases valV kvs j with
      | none => rfl
      | some x => rw [Option.map_some, if_neg e]
  · rw [if_neg a]
    refine valV_snoc k j y kvs ?_
    rw [valV_any] at a
    cases q : valV kvs k with
    | none => rfl
    | some x => rw [q] at a; exact (a rfl).elim
theorem length_putK (kvs : List (κ × V)) (k : κ) (v : V) : (putK kvs k v).length ≤ kvs.length + 1 := by
  unfold putK
  split
  · rw [List.length_map]; omega
  · rw [List.length_append, List.length_cons, List.length_nil]; omega
theorem RelO.isSome_eq {o : Option V} {u : Option Value} (r : RelO o u) : o.isSome = u.isSome := by
  cases o with
  | none => cases u with
    | none => rfl
    | some _ => exact (show False from r).elim
  | some _ => cases u with
    | none => exact (show False from r).elim
    | some _ => rfl
theorem RelO.getD {o : Option V} {u : Option Value} {d : V} {d' : Value} (r : RelO o u) (rd : RelV d d') : RelV (o.getD d) (u.getD d') := by
  cases o with
  | none => cases u with
    | none => exact rd
    | some _ => exact (show False from r).elim
  | some _ => cases u with
    | none => exact (show False from r).elim
    | some _ => exact r

/-- raw tables of the same keys -/
theorem KV.val {kvs : List (κ × V)} {vs : List (κ × Value)} (r : KV kvs vs) (k : κ) : RelO (valV kvs k) (valueAt vs k) := by
  unfold KV at r
  induction r with
  | nil => exact True.intro
  | @cons p q ps qs h t ih =>
    obtain ⟨h1, h2⟩ := h
    by_cases e : p.1 = k
    · have e' : q.1 = k := h1.symm.trans e
      have b : valueAt (q :: qs) k = some q.2 := by simp [valueAt, List.find?_cons, e']
      rw [valV_pos e, b]; exact h2
    · have e' : ¬ q.1 = k := fun z => e (h1.trans z)
      have b : valueAt (q :: qs) k = valueAt qs k := by simp [valueAt, List.find?_cons, e']
      rw [valV_neg e, b]; exact ih
theorem KV.any {kvs : List (κ × V)} {vs : List (κ × Value)} (r : KV kvs vs) (k : κ) : (kvs.any fun kv => decide (kv.1 = k)) = vs.any fun kv => decide (kv.1 = k) := by
  unfold KV at r
  induction r with
  | nil => rfl
  | cons h t ih => rw [List.any_cons, List.any_cons, ih, h.1]
theorem KV.repl {kvs : List (κ × V)} {vs : List (κ × Value)} (r : KV kvs vs) (k : κ) {y : V} {u : Value} (ry : RelV y u) :
    KV (kvs.map fun kv => if kv.1 = k then (kv.1, y) else kv) (vs.map fun kv => if kv.1 = k then (kv.1, u) else kv) := by
  unfold KV at r ⊢
  induction r with
  | nil => exact .nil
  | @cons p q ps qs h t ih =>
    rw [List.map_cons, List.map_cons]
    refine .cons ?_ ih
    obtain ⟨h1, h2⟩ := h
    by_cases e : p.1 = k
    · rw [if_pos e, if_pos (h1.symm.trans e)]; exact ⟨h1, ry⟩
    · rw [if_neg e, if_neg (fun z => e (h1.trans z))]; exact ⟨h1, h2⟩
theorem KV.put {kvs : List (κ × V)} {vs : List (κ × Value)} (r : KV kvs vs) (k : κ) {y : V} {u : Value} (ry : RelV y u) : KV (putK kvs k y) (stored vs k u) := by
  unfold putK stored
  rw [r.any k]
  by_cases e : (vs.any fun kv => decide (kv.1 = k)) = true
  · rw [if_pos e, if_pos e]; exact r.repl k ry
  · rw [if_neg e, if_neg e]; exact Paired.snoc r ⟨rfl, ry⟩
theorem KV.drop {kvs : List (κ × V)} {vs : List (κ × Value)} (r : KV kvs vs) (k : κ) : KV (dropK kvs k) (without vs k) := by
  unfold KV at r ⊢
  unfold dropK without
  induction r with
  | nil => exact .nil
  | @cons p q ps qs h t ih =>
    obtain ⟨h1, h2⟩ := h
    rw [List.filter_cons, List.filter_cons]
    by_cases e : p.1 = k
    · have a : ¬ decide (p.1 ≠ k) = true := by simp [e]
      have b : ¬ decide (q.1 ≠ k) = true := by simp [h1.symm.trans e]
      rw [if_neg a, if_neg b]; exact ih
    · have e' : ¬ q.1 = k := fun z => e (h1.trans z)
      have a : decide (p.1 ≠ k) = true := by simp [e]
      have b : decide (q.1 ≠ k) = true := by simp [e']
      rw [if_pos a, if_pos b]; exact .cons ⟨h1, h2⟩ ih
theorem KV.length {kvs : List (κ × V)} {vs : List (κ × Value)} (r : KV kvs vs) : kvs.length = vs.length := Paired.length r
end


theorem kV_is {P : Program} {w : World} {k : Key} {u : Value} (r : RelV (kV k) u) : (mixKind P w).is k u = true := by
  cases k with
  | inl i => obtain ⟨t, e⟩ := (show ∃ t, u = Value.int i t from r); subst e; exact mixKind_int P w i t
  | inr x => obtain ⟨t, e⟩ := (show ∃ t, u = Value.str x t from r); subst e; exact mixKind_str P w x t
theorem items_are {P : Program} {w : World} : ∀ {ks : List Key} {us : List Value}, Vals (ks.map kV) us → ItemsAre (mixKind P w) ks us
  | [], _, r => by rw [List.map_nil] at r; cases r; exact .nil
  | k :: ks, _, r => by
    rw [List.map_cons] at r
    cases r with
    | cons h t => exact .cons (kV_is h) (items_are t)

/-- raw entries of a dict with tuple keys -/
abbrev KT (H : Hp) : List (List Key × V) → List (List Key × Addr × Value) → Prop := Paired fun p q => p.1 = q.1 ∧ H q.2.1 = some (.tup (p.1.map kV)) ∧ RelV p.2 q.2.2
theorem KT.val {H : Hp} {kvs : List (List Key × V)} {xs : List (List Key × Addr × Value)} (r : KT H kvs xs) (k : List Key) : RelO (valV kvs k) ((atKey xs k).map (·.2)) := by
  induction r with
  | nil => exact True.intro
  | @cons p q ps qs h t ih =>
    obtain ⟨h1, _, h2⟩ := h
    by_cases e : p.1 = k
    · have e' : q.1 = k := h1.symm.trans e
      have b : atKey (q :: qs) k = some q.2 := by simp [atKey, List.find?_cons, e']
      rw [valV_pos e, b]; exact h2
    · have e' : ¬ q.1 = k := fun z => e (h1.trans z)
      have b : atKey (q :: qs) k = atKey qs k := by simp [atKey, List.find?_cons, e']
      rw [valV_neg e, b]; exact ih
theorem KT.repl {H : Hp} {kvs : List (List Key × V)} {xs : List (List Key × Addr × Value)} (r : KT H kvs xs) (k : List Key) {y : V} {u : Value} (ry : RelV y u) :
    KT H (kvs.map fun kv => if kv.1 = k then (kv.1, y) else kv) (xs.map (putAt k u)) := by
  induction r with
  | nil => exact .nil
  | @cons p q ps qs h t ih =>
    rw [List.map_cons, List.map_cons]
    refine .cons ?_ ih
    obtain ⟨h1, h2, h3⟩ := h
    unfold putAt
    by_cases e : p.1 = k
    · rw [if_pos e, if_pos (h1.symm.trans e)]; exact ⟨h1, h2, ry⟩
    · rw [if_neg e, if_neg (fun z => e (h1.trans z))]; exact ⟨h1, h2, h3⟩
theorem KT.put {H : Hp} {kvs : List (List Key × V)} {xs : List (List Key × Addr × Value)} (r : KT H kvs xs) (k : List Key) {b : Addr} {y : V} {u : Value} (hb : H b = some (.tup (k.map kV))) (ry : RelV y u) :
    KT H (putK kvs k y) (storedH xs k b u) := by
  have e : (kvs.any fun kv => decide (kv.1 = k)) = (atKey xs k).isSome := by
    rw [valV_any, (r.val k).isSome_eq, Option.isSome_map]
  unfold putK storedH
  rw [e]
  by_cases q : (atKey xs k).isSome = true
  · rw [if_pos q, if_pos q]; exact r.repl k ry
  · rw [if_neg q, if_neg q]; exact Paired.snoc r ⟨rfl, hb, ry⟩
theorem KT.keeps {H H' : Hp} {kvs : List (List Key × V)} {xs : List (List Key × Addr × Value)} (r : KT H kvs xs) (ht : ∀ b ys, H b = some (.tup ys) → H' b = some (.tup ys)) : KT H' kvs xs :=
  Paired.mapP r fun _ _ z => ⟨z.1, ht _ _ z.2.1, z.2.2⟩

section
variable {P : Program} {w : World} {H : Hp} {h : Heap} {a : Addr}
theorem rd_of {u : HO} (ok : HOk P w H h) (e : Rd H a u) : ObjOk P w H h a u := e.ok ok
theorem dk_rd {kvs : List (Key × V)} (ok : HOk P w H h) (e : Rd H a (.dK kvs)) : kvs.length ≤ sizeLine ∧ (a == sysModules) = false ∧ ∃ vs, KV kvs vs ∧ h.DictOf (mixKind P w) a vs :=
  show ObjOk P w H h a (.dK kvs) from rd_of ok e
theorem dk_of {kvs : List (Key × V)} (ok : HOk P w H h) (e : H a = some (.dK kvs)) : kvs.length ≤ sizeLine ∧ (a == sysModules) = false ∧ ∃ vs, KV kvs vs ∧ h.DictOf (mixKind P w) a vs := dk_rd ok (.inl e)
/-- a tracked tuple of ints and texts is a key -/
theorem key_of {ks : List Key} (ok : HOk P w H h) (e : H a = some (.tup (ks.map kV))) : (tupleKind (mixKind P w)).is h ks a := by
  obtain ⟨_, its, r, o, h1, h2, n, h3⟩ := (show ObjOk P w H h a (.tup (ks.map kV)) from ok a _ e)
  exact ⟨o, its.toArray, n, h1, h2, h3, by simpa using items_are r⟩
theorem dt_rd {kvs : List (List Key × V)} (ok : HOk P w H h) (e : Rd H a (.dT kvs)) : kvs.length ≤ sizeLine ∧ (a == sysModules) = false ∧
    ∃ xs, KT H kvs xs ∧ h.DictOfH (tupleKind (mixKind P w)) a xs := by
  obtain ⟨z, y, xs, r, o, es, ep, h1, h2, h3, h4, h5⟩ := (show ObjOk P w H h a (.dT kvs) from rd_of ok e)
  refine ⟨z, y, xs, r, o, es, ep, h1, h2, h3, h4, fun x hx => ?_, h5⟩
  have all : ∀ {l : List (List Key × V)} {m : List (List Key × Addr × Value)}, KT H l m → ∀ x ∈ m, (tupleKind (mixKind P w)).is h x.1 x.2.1 := by
    intro l m q
    induction q with
    | nil => intro x hx; exact nomatch hx
    | @cons p q ps qs hq t ih =>
      intro x hx
      rcases List.mem_cons.mp hx with e | hx
      · subst e
        exact key_of ok (by rw [← hq.1]; exact hq.2.1)
      · exact ih x hx
  exact all r x hx
theorem dt_of {kvs : List (List Key × V)} (ok : HOk P w H h) (e : H a = some (.dT kvs)) : kvs.length ≤ sizeLine ∧ (a == sysModules) = false ∧
    ∃ xs, KT H kvs xs ∧ h.DictOfH (tupleKind (mixKind P w)) a xs := dt_rd ok (.inl e)
end

/-- what the dict at a holds at the key y -/
def DGet (H : Hp) (a : Addr) (y : V) (r : Option V) : Prop :=
  (∃ kvs k, Rd H a (.dK kvs) ∧ y = kV k ∧ r = valV kvs k) ∨ ∃ kvs k b, Rd H a (.dT kvs) ∧ y = .ref b ∧ H b = some (.tup (k.map kV)) ∧ r = valV kvs k
/-- the heap behind a[y] = v -/
def DPut (H : Hp) (a : Addr) (y v : V) (H' : Hp) : Prop :=
  (∃ kvs k, H a = some (.dK kvs) ∧ y = kV k ∧ kvs.length < sizeLine ∧ H' = upd H a (.dK (putK kvs k v))) ∨
  ∃ kvs k b, H a = some (.dT kvs) ∧ y = .ref b ∧ H b = some (.tup (k.map kV)) ∧ kvs.length < sizeLine ∧ H' = upd H a (.dT (putK kvs k v))
theorem DGet.k {H : Hp} {a : Addr} {kvs : List (Key × V)} {k : Key} (e : H a = some (.dK kvs)) : DGet H a (kV k) (valV kvs k) := .inl ⟨kvs, k, .inl e, rfl, rfl⟩
theorem DGet.t {H : Hp} {a b : Addr} {kvs : List (List Key × V)} {k : List Key} (e : H a = some (.dT kvs)) (eb : H b = some (.tup (k.map kV))) : DGet H a (.ref b) (valV kvs k) := .inr ⟨kvs, k, b, .inl e, rfl, eb, rfl⟩
theorem DPut.k {H : Hp} {a : Addr} {kvs : List (Key × V)} {k : Key} {v : V} (e : H a = some (.dK kvs)) (hl : kvs.length < sizeLine) : DPut H a (kV k) v (upd H a (.dK (putK kvs k v))) := .inl ⟨kvs, k, e, rfl, hl, rfl⟩
theorem DPut.t {H : Hp} {a b : Addr} {kvs : List (List Key × V)} {k : List Key} {v : V} (e : H a = some (.dT kvs)) (eb : H b = some (.tup (k.map kV))) (hl : kvs.length < sizeLine) :
    DPut H a (.ref b) v (upd H a (.dT (putK kvs k v))) := .inr ⟨kvs, k, b, e, rfl, eb, hl, rfl⟩


section
variable {X : Cx} {pins : List (Addr × Obj)} {σ : St} {H : Hp} {s : Shared} {a : Addr} {y v : V} {u r : Value} {o : Option V} {A : Around} {E : Value → Shared → Prop}

theorem Inv.big (I : Inv X pins σ H s) : sysModules < s.heap.objs.size := by
  have h : mainGlobals < s.heap.objs.size := (I.mod.glob.keeps I.bk).lt
  exact Nat.lt_trans (by decide) h

/-- d[y], there -/
theorem d_getItem {Q : Value → Shared → Prop} (hu : A.units + 1 < cLine) (I : Inv X pins σ H s) (g : DGet H a y (some v)) (ry : RelV y u) (h : ∀ w' s', Inv X pins σ H s' → RelV v w' → Q w' s') :
    wpAny (model X.prog X.w) A (getItem (.ref a) u) Q E s := by
  rcases g with ⟨kvs, k, e, ey, l⟩ | ⟨kvs, k, b, e, ey, eb, l⟩
  · subst ey
    obtain ⟨z, hd, vs, rel, dd⟩ := dk_rd I.hok e
    obtain ⟨w', hw, rw'⟩ := RelO.some_of (v := v) (o := valueAt vs k) (by rw [l]; exact rel.val k)
    exact wpAny_getItem_of (kV_is ry) dd.mapOf hw (h w' _ (I.tok _) rw')
  · subst ey
    cases (show u = Value.ref b from ry)
    obtain ⟨z, hd, xs, rel, dd⟩ := dt_rd I.hok e
    obtain ⟨w', hw, rw'⟩ := RelO.some_of (v := v) (o := (atKey xs k).map (·.2)) (by rw [l]; exact rel.val k)
    obtain ⟨p, hp, hp2⟩ := Option.map_eq_some_iff.mp hw
    refine wpAny_getItem_heap (tupleKind_room_in1 hu) (key_of I.hok eb) dd hp ?_
    rw [hp2]
    exact h w' _ (I.tok _) rw'
/-- a dict's object is replaced -/
theorem d_write {h' : Heap} {t' : Nat} {ob : HO} (I : Inv X pins σ H s) (mu : Mut (H a)) (hs : Heap.SameBut a s.heap h') (he : ∃ q, h'.get? a = some q) (new : ObjOk X.prog X.w (upd H a ob) h' a ob) :
    Inv X pins σ (upd H a ob) { s with heap := h', toks := t' } :=
  I.write (x := a) (e := a) mu (.inl rfl) (fun b q hb z => (hs.2 b hb).trans z) he new
theorem dk_new {P : Program} {w : World} {H' : Hp} {h' : Heap} {kvs : List (Key × V)} {vs : List (Key × Value)} (z : kvs.length ≤ sizeLine) (hd : (a == sysModules) = false) (rel : KV kvs vs) (dd : h'.DictOf (mixKind P w) a vs) :
    ObjOk P w H' h' a (.dK kvs) := ⟨z, hd, vs, rel, dd⟩
/-- d[y] = v -/
theorem d_setItem {H' : Hp} {Q : Unit → Shared → Prop} (hu : A.units + 1 < cLine) (I : Inv X pins σ H s) (g : DPut H a y v H') (ry : RelV y u) (rv : RelV v r) (h : ∀ s', Inv X pins σ H' s' → Q () s') :
    wpAny (model X.prog X.w) A (setItem (.ref a) u r) Q E s := by
  rcases g with ⟨kvs, k, e, ey, l, eH⟩ | ⟨kvs, k, b, e, ey, eb, l, eH⟩
  · subst ey eH
    obtain ⟨z, hd, vs, rel, dd⟩ := dk_of I.hok e
    have hz : vs.length ≤ sizeLine := by rw [← rel.length]; exact z
    have hl : (putK kvs k v).length ≤ sizeLine := by have := length_putK kvs k v; omega
    refine wpAny_setItem_pairs (hsz := hz) (kV_is ry) dd fun h' dd' hs => h _ ?_
    have he : ∃ q, h'.get? a = some q := let ⟨q, _, _, hq, _⟩ := dd'; ⟨q, hq⟩
    exact d_write I (by rw [e]; exact True.intro) hs he (dk_new hl hd (rel.put k rv) dd')
  · subst ey eH
    cases (show u = Value.ref b from ry)
    obtain ⟨z, hd, xs, rel, dd⟩ := dt_of I.hok e
    have hz : xs.length ≤ sizeLine := by rw [← Paired.length rel]; exact z
    have hl : (putK kvs k v).length ≤ sizeLine := by have := length_putK kvs k v; omega
    refine wpAny_setItem_heap (hsz := hz) (tupleKind_room_in1 hu) (key_of I.hok eb) dd fun h' dd' hs => h _ ?_
    obtain ⟨q, es, ep, hq, h2, h3, h4, _, h5⟩ := dd'
    refine d_write I (by rw [e]; exact True.intro) hs ⟨q, hq⟩ ⟨hl, hd, _, (rel.put k eb rv).keeps fun c ys ec => ?_, q, es, ep, hq, h2, h3, h4, h5⟩
    rw [upd_ne (ne_of ec e (fun z => nomatch z))]
    exact ec
end

section
variable {X : Cx} {pins : List (Addr × Obj)} {σ : St} {H : Hp} {s : Shared} {a : Addr} {kvs : List (Key × V)} {k : Key} {u : Value} {A : Around} {E : Value → Shared → Prop}
end


/-- the element of a subscription, not a slice -/
def NoSl (i : Expr) : Prop := ∀ ov iv, subscripted i false ov iv = operate [ov, iv] (getItem ov iv)
theorem subD_of {prog : Program} {w : World} {A : Around} {E : Value → Shared → Prop} {s : Shared} {env : Env} {value slice : Expr} {pos : Pos} {T id : String} {Q : Value → Shared → Prop}
    (hl : typeLookup (.type T) "__getitem__" = pure (some (.builtin id))) (hs : NoSl slice)
    (h : wpAny (model prog w) A (eval value env) (fun o s₁ => wpAny (model prog w) A (eval slice env) (fun i s₂ => s₂.TypeIs o T ∧ wpAny (model prog w) A (getItem o i) Q E s₂) E s₁) E s) :
    wpAny (model prog w) A (eval (.Subscript value slice pos) env) Q E s := by
  refine Subscript_ (wpAny_mono h (fun o s₁ h₁ => wpAny_mono h₁ (fun i s₂ h₂ => ?_) fun _ _ x => x) fun _ _ x => x)
  obtain ⟨hT, h₂⟩ := h₂
  unfold subscriptTail
  refine wpAny_bind ?_
  rw [getitemInPython_of_ne hT.not_modules]
  refine wpAny_bind (wpAny_specialOf hT hl ?_)
  have fin : wpAny (model prog w) A (subscripted slice false o i) (fun r s₃ => wpAny (model prog w) A (letTemporaryGo value o r >>= fun _ => pure r) Q E s₃) E s₂ := by
    rw [hs o i]
    exact wpAny_operating (wpAny_mono h₂ (fun r s₃ h₃ => wpAny_bind (wpAny_letTemporaryGo (wpAny_pure h₃))) fun _ _ x => x)
  first
    | exact wpAny_pure (wpAny_bind fin)
    | exact wpAny_bind (wpAny_pure (wpAny_bind fin))
    | exact wpAny_bind fin

theorem dict_typeIs {X : Cx} {pins : List (Addr × Obj)} {σ : St} {H : Hp} {s : Shared} {a : Addr} {y : V} {o : Option V} (I : Inv X pins σ H s) (g : DGet H a y o) : s.TypeIs (.ref a) "dict" := by
  rcases g with ⟨kvs, k, e, _, _⟩ | ⟨kvs, k, b, e, _, _, _⟩
  · obtain ⟨_, _, vs, _, dd⟩ := dk_rd I.hok e
    exact dd.typeIs
  · obtain ⟨_, _, xs, _, dd⟩ := dt_rd I.hok e
    exact dd.typeIs
/-- d[y] -/
def tDGet (td ty : TE) : TE := fun σ H Q => td σ H fun x H1 => ty σ H1 fun y H2 => ∃ a v, x = .ref a ∧ DGet H2 a y (some v) ∧ Q v H2
/-- d[y] = v -/
def sDPut (td ty tv : TE) : TS := fun D σ H => tv σ H fun v H1 => td σ H1 fun x H2 => ty σ H2 fun y H3 => ∃ a H4, x = .ref a ∧ DPut H3 a y v H4 ∧ D.nx σ H4
section
variable {X : Cx} {o i e value : Expr} {pos pos' tpos : Pos} {td ty tv : TE}
theorem pe_dget (hu : X.A.units + 1 < cLine) (ho : PE X o td) (hi : PE X i ty) (hs : NoSl i) : PE X (.Subscript o i pos) (tDGet td ty) := by
  intro pins s σ H Q I h
  refine subD_of PySem.F.slot_dict_getitem.lookup hs (thn (ho pins s σ H _ I h) fun u s1 ⟨x, H1, I1, rx, q1⟩ => thn (hi pins s1 σ H1 _ I1 q1) fun iv s2 ⟨y, H2, I2, ry, a, v, ex, g, q2⟩ => ?_)
  subst ex
  obtain rfl : u = Value.ref a := rx
  exact ⟨dict_typeIs I2 g, d_getItem hu I2 g ry fun w' s3 I3 rw' => ⟨v, H2, I3, rw', q2⟩⟩
theorem ps_dput (hu : X.A.units + 1 < cLine) (ho : PE X o td) (hi : PE X i ty) (hv : PE X value tv) (hs : swapsWith value (some (.Subscript o i pos')) pos.line X.env = pure false) :
    PS X (.Assign [.Subscript o i pos'] value pos) (sDPut td ty tv) := by
  intro pins s σ H D I h
  refine wpAny_Assign_Subscript (thn (hv pins s σ H _ I h) fun r s1 ⟨v, H1, I1, rv, q1⟩ => thn (ho pins s1 σ H1 _ I1 q1) fun u s2 ⟨x, H2, I2, rx, q2⟩ => thn (hi pins s2 σ H2 _ I2 q2) fun iv s3 ⟨y, H3, I3, ry, a, H4, ex, g, q3⟩ => ?_) hs
  subst ex
  obtain rfl : u = Value.ref a := rx
  exact d_setItem hu I3 g ry rv fun s4 I4 => ⟨σ, H4, I4, q3⟩
end


theorem dk_empty {P : Program} {w : World} {H : Hp} (h : Heap) (hb : sysModules < h.objs.size) : ObjOk P w H (h.push { cls := .type "dict", data := .dict #[] }) h.objs.size (.dK []) :=
  ⟨Nat.zero_le _, beq_eq_false_iff_ne.mpr (Ne.symm (Nat.ne_of_lt hb)), [], .nil, Heap.DictOf.new h⟩
/-- {}, to be a dict of the kind that is wanted -/
def tDNewK : TE := fun _ H Q => ∀ p, H p = none → Q (.ref p) (upd H p (.dK []))
section
variable {X : Cx} {pos : Pos}
theorem pe_dnewK : PE X (.Dict [] [] pos) tDNewK := fun pins s σ H Q I h =>
  wpAny_Dict_empty ⟨.ref s.heap.objs.size, _, I.laid (a := s.heap.objs.size) (o := .dK []) (t' := s.toks) (fun _ _ q => Heap.get?_push_of_some _ q) (Nat.le_refl _) (dk_empty s.heap I.big), rfl, h _ (I.hok.fresh (Nat.le_refl _))⟩
end

/-- a method call o.m(e) of a built-in, with one argument: what must be seen of the text -/
structure M1 (X : Cx) (o : Expr) (m : Str) (apos : Pos) (e : Expr) (cpos : Pos) : Prop where
  base : attributeBase o m X.env (eval o X.env) = eval o X.env
  few : ((backTo cpos (starEach [e] X.env)).all (fun x => !x.1) && (backToKw cpos (keywordEach [] X.env)).all (fun x => x.1.isSome)
    && decide (([e] : List Expr).length + ([] : List Keyword).length + (if ([] : List Keyword).isEmpty then 0 else 1) < 30)) = true
  line : (apos.endLine == cpos.line) = true
  trees : backTo cpos (starEach [e] X.env) = [(false, eval e X.env)]
structure M2 (X : Cx) (o : Expr) (m : Str) (apos : Pos) (e f : Expr) (cpos : Pos) : Prop where
  base : attributeBase o m X.env (eval o X.env) = eval o X.env
  few : ((backTo cpos (starEach [e, f] X.env)).all (fun x => !x.1) && (backToKw cpos (keywordEach [] X.env)).all (fun x => x.1.isSome)
    && decide (([e, f] : List Expr).length + ([] : List Keyword).length + (if ([] : List Keyword).isEmpty then 0 else 1) < 30)) = true
  line : (apos.endLine == cpos.line) = true
  trees : backTo cpos (starEach [e, f] X.env) = [(false, eval e X.env), (false, eval f X.env)]

section
variable {X : Cx} {pins : List (Addr × Obj)} {σ : St} {H : Hp} {s : Shared} {a : Addr} {y d : V} {u r : Value} {o : Option V} {A : Around} {E : Value → Shared → Prop}
end

section
variable {X : Cx} {o e f : Expr} {apos cpos : Pos} {td ty tx : TE}
end

section
variable {X : Cx} {pins : List (Addr × Obj)} {σ : St} {H : Hp} {s : Shared} {a : Addr} {kvs : List (Key × V)} {A : Around} {E : Value → Shared → Prop}
end


section
variable {X : Cx} {pins : List (Addr × Obj)} {σ : St} {H : Hp} {s : Shared} {a : Addr} {y : V} {u : Value} {A : Around} {E : Value → Shared → Prop}
end
end L2

namespace L2
open PySem PySem.Spec PyProof.Rows

theorem ObjOk.is {P : Program} {w : World} {H : Hp} {h : Heap} {a : Addr} {o : HO} (x : ObjOk P w H h a o) : ∃ ob, h.get? a = some ob := by
  cases o with
  | lst xs => obtain ⟨_, _, _, _, e⟩ := x; exact ⟨_, e⟩
  | tup xs => obtain ⟨_, _, _, ob, e, _⟩ := x; exact ⟨_, e⟩
  | dK kvs => obtain ⟨_, _, _, _, ob, _, _, e, _⟩ := x; exact ⟨_, e⟩
  | dT kvs => obtain ⟨_, _, _, _, ob, _, _, e, _⟩ := x; exact ⟨_, e⟩
  | set S n => obtain ⟨ob, _, _, _, e, _⟩ := x; exact ⟨_, e⟩
  | ins C dx fs => obtain ⟨_, _, _, e, _⟩ := x; exact ⟨_, e⟩
  | own y => exact x
  | xd fs => obtain ⟨_, ⟨ob, _, _, e, _⟩, _⟩ := x; exact ⟨_, e⟩
  | rng lo hi => obtain ⟨_, _, _, e⟩ := x; exact ⟨_, e⟩
  | frz ob u => obtain ⟨e, _⟩ := x; exact ⟨_, e⟩
  | tbl ps => exact ⟨_, (show h.get? a = some _ from x)⟩
  | met f y => exact ⟨_, (show h.get? a = some _ from x)⟩
  | ext φ => obtain ⟨_, e, _⟩ := x; exact e

/-- what is kept of all that stood before: B holds it -/
def Big (fs : List Addr) (h h1 B : Heap) : Prop := ∀ b o o', h.get? b = some o → b ∉ fs → h1.get? b = some o' → B.get? b = some o'
def BigH (H' : Hp) (h1 B : Heap) : Prop := ∀ b u o, H' b = some u → h1.get? b = some o → B.get? b = some o
theorem Big.on {fs : List Addr} {h h1 h2 B : Heap} (b1 : Big fs h h1 B) (there : ∀ b o, h.get? b = some o → ∃ o', h1.get? b = some o') (st : B.StaysIn h2) : Big fs h h2 B := fun b o o' q hb e => by
  obtain ⟨o1, e1⟩ := there b o q
  have e2 := b1 b o o1 q hb e1
  have e3 := st b o1 e2
  rw [e] at e3; cases e3
  exact e2
theorem BigH.on {P : Program} {w : World} {H' : Hp} {h1 h2 B : Heap} (b1 : BigH H' h1 B) (hok : HOk P w H' h1) (st : B.StaysIn h2) : BigH H' h2 B := fun b u o q e => by
  obtain ⟨o1, e1⟩ := (hok b u q).is
  have e2 := b1 b u o1 q e1
  have e3 := st b o1 e2
  rw [e] at e3; cases e3
  exact e2
theorem Un.move {fs : List Addr} {H H' : Hp} {h h1 h2 B : Heap} (u : Un fs [] H H' h h1) (st : B.StaysIn h2) (up : h1.UpToSlots h2) (fr : ∀ b ∈ fs, ∃ o, h1.get? b = some o ∧ ∀ vs, o.data ≠ .fields vs) (big : Big fs h h1 B) : Un fs [] H H' h h2 where
  keep := fun b o q n hb hx => st b o (big b o o q hb (u.keep b o q n hb hx))
  slot := fun b o q n hb hx => by
    obtain ⟨sl, e⟩ := u.slot b o q n hb hx
    obtain ⟨o1, e1, nf⟩ := fr b hb
    rw [e] at e1; cases e1
    obtain ⟨sl2, e2⟩ := up b _ e nf
    exact ⟨sl2, e2⟩
  free := u.free
  there := fun b o q hx => by
    obtain ⟨o1, e⟩ := u.there b o q hx
    by_cases hb : b ∈ fs
    · obtain ⟨o2, e2, nf⟩ := fr b hb
      obtain ⟨sl, e3⟩ := up b o2 e2 nf
      exact ⟨_, e3⟩
    · exact ⟨o1, st b o1 (big b o o1 q hb e)⟩
  tups := u.tups
  frzs := u.frzs
  tbls := u.tbls
theorem HOk.move {P : Program} {w : World} {H' : Hp} {h1 h2 B : Heap} (x : HOk P w H' h1) (st : B.StaysIn h2) (big : BigH H' h1 B) : HOk P w H' h2 := fun a o e =>
  (x a o e).stay (fun b u hb q => by
    rcases hb with rfl | hb
    · exact st b u (big b _ u e q)
    · exact st b u (big b _ u hb q)) (fun _ q => q) fun _ _ q => q

/-- an exception in flight behind a call -/
structure Fly (P : Program) (w : World) (outer : List Env) (H : Hp) (s : Shared) (ea : Addr) (cls : Value) (H' : Hp) (s' : Shared) : Prop where
  os : s'.os = s.os
  bare : AllBare s'.gens
  un : Un (frs outer) [] H H' s.heap s'.heap
  hok : HOk P w H' s'.heap
  fl : ∃ B a0, Heap.FlyingW B outer ea cls a0 s'.heap ∧ Big (frs outer) s.heap s'.heap B ∧ BigH H' s'.heap B
def CXE (P : Program) (w : World) : CXT := fun outer H s E e s' => ∃ (ea : Addr) (cls : Value) (H' : Hp), e = .ref ea ∧ E cls none H' ∧ Fly P w outer H s ea cls H' s'

theorem Fly.frm {P : Program} {w : World} {outer : List Env} {H H' : Hp} {s s' : Shared} {ea : Addr} {cls : Value} (f : Fly P w outer H s ea cls H' s') : ∀ b ∈ frs outer, ∃ o, s'.heap.get? b = some o ∧ ∀ vs, o.data ≠ .fields vs := fun b hb => by
  obtain ⟨B, a0, fl, _⟩ := f.fl
  exact (fl.2.2.1.mem hb).2
/-- it goes on flying in a heap that keeps all that B holds -/
theorem Fly.on {P : Program} {w : World} {outer : List Env} {H H' : Hp} {s s' : Shared} {ea : Addr} {cls a0 a1 : Value} {B h2 : Heap} (f : Fly P w outer H s ea cls H' s') (fl : Heap.FlyingW B outer ea cls a0 s'.heap) (b1 : Big (frs outer) s.heap s'.heap B) (b2 : BigH H' s'.heap B)
    (fl2 : Heap.FlyingW B outer ea cls a1 h2) (up : s'.heap.UpToSlots h2) : Fly P w outer H s ea cls H' { s' with heap := h2 } :=
  ⟨f.os, f.bare, f.un.move fl2.1 up f.frm b1, f.hok.move fl2.1 b2, B, a1, fl2, b1.on (fun b o q => f.un.there b o q (by simp)) fl2.1, b2.on f.hok fl2.1⟩

/-- a def's frame on top of the stack -/
structure Top (X : Cx) : Prop where
  stk : X.stack = X.env :: X.outer
  frame : X.env.frame = some X.env.locals
  ex : X.ex = []

section
variable {X : Cx} {pins : List (Addr × Obj)} {σ : St} {H H' : Hp} {s s' : Shared} {ea : Addr} {cls : Value}
theorem Inv.low (I : Inv X pins σ H s) (t : Top X) {b : Addr} {o : Obj} (q : X.s₀.heap.get? b = some o) (hb : b ∉ X.fs) : b ∉ frs X.stack := fun z => by
  rcases List.mem_cons.mp (I.stkSub b z) with e | z
  · subst e
    exact absurd (Nat.lt_of_lt_of_le (Heap.lt_size q) I.ok.above) (Nat.lt_irrefl _)
  · exact hb z
theorem Inv.base0 (I : Inv X pins σ H s) (t : Top X) : Un X.fs [] X.H₀ H X.s₀.heap s.heap := by
  have u := I.base
  rw [t.ex] at u
  exact u
theorem Inv.frames1 (I : Inv X pins σ H s) (t : Top X) : X.A.frames = some (X.env :: X.outer) := by rw [← t.stk]; exact I.ok.frames
/-- a new exception leaves the def in which it was made -/
theorem leave_made {h' : Heap} {vs : List Value} {R : Unit → Shared → Prop} {E : Value → Shared → Prop} (I : Inv X pins σ H s) (t : Top X) (hm : Heap.MadeExcOf s.heap h' ea cls vs)
    (k : ∀ s2, Fly X.prog X.w X.outer X.H₀ X.s₀ ea cls H s2 → R () s2) : wpAny (model X.prog X.w) X.A (leaving X.env (.ref ea)) R E { s with heap := h' } := by
  have fr1 : s.heap.FunFrames X.base (X.env :: X.outer) := by rw [← t.stk]; exact I.stack
  have hin : ∀ env ∈ (X.env :: X.outer), ∀ a, env.frame = some a → a ∈ frs (X.env :: X.outer) := fun env he a ha => List.mem_filterMap.mpr ⟨env, he, ha⟩
  refine wpAny_leaves_madeW (base := PySem.W.hideAll s.heap (frs (X.env :: X.outer))) (h := s.heap) (I.frames1 t) t.frame (fun b o q => PySem.W.of_hideAll _ q) (PySem.W.funFrames_hide fr1 hin) hm fun h2 tp fl _ _ up => ?_
  have u0 := I.base0 t
  have u1 : Un X.fs [] X.H₀ H X.s₀.heap h' := u0.trans (Un.kept hm.keeps)
  have b1 : Big X.fs X.s₀.heap h' (PySem.W.hideAll s.heap (frs (X.env :: X.outer))) := fun b o o' q hb e => by
    obtain ⟨o1, e1⟩ := u0.there b o q (by simp)
    have e2 := hm.keeps b o1 e1
    rw [e] at e2; cases e2
    refine PySem.W.hideAll_get _ e1 fun z => I.low t q hb ?_
    rw [t.stk]; exact z
  have b2 : BigH H h' (PySem.W.hideAll s.heap (frs (X.env :: X.outer))) := fun b u o q e => by
    obtain ⟨o1, e1⟩ := (I.hok b u q).is
    have e2 := hm.keeps b o1 e1
    rw [e] at e2; cases e2
    refine PySem.W.hideAll_get _ e1 fun z => ?_
    have z2 := I.stkFree b (by rw [t.stk]; exact z)
    rw [q] at z2; cases z2
  have fr : ∀ b ∈ X.fs, ∃ o, h'.get? b = some o ∧ ∀ vs, o.data ≠ .fields vs := fun b hb => by
    obtain ⟨_, o, ho, nf⟩ := I.funs.mem hb
    exact ⟨o, hm.keeps b o ho, nf⟩
  have ok1 : HOk X.prog X.w H h' := I.hok.kept hm.keeps
  exact k _ ⟨I.os, I.bare, u1.move fl.1 up fr b1, ok1.move fl.1 b2, _, _, fl, b1.on (fun b o q => u1.there b o q (by simp)) fl.1, b2.on ok1 fl.1⟩
end

/-- the context of a def's body, for errors -/
theorem top_of {P : Program} {w : World} {K : PySem.W.Frag} {mg : Str → Option Value} {base : Heap} {N : List Str} {qual : Str} {scope : Scope} {f : Addr} {cd : Value} {A : Around} {outer : List Env} {s : Shared} {H : Hp} {E : XK} {CX : CXT} :
    Top (cxOf CX P w K mg base N qual scope f cd A outer s H E) := ⟨rfl, rfl, rfl⟩
/-- the class C under the name x -/
structure Err (K : PySem.W.Frag) (mg : Str → Option Value) (x : Str) (C : Addr) (bmB : List Value) (newId : String) : Prop where
  nm : PySem.W.nsIn K mainGlobals x = some (some (.ref C))
  ex : PySem.W.excIn K C bmB newId = true
theorem own_of {K : PySem.W.Frag} {h : Heap} {mg : Str → Option Value} {x : Str} {C : Addr} {bmB : List Value} {newId : String} (X : K.In h) (G : h.Ns mainGlobals mg) (Z : Err K mg x C bmB newId) : OwnCls x C bmB newId mg h := by
  have q := Z.ex
  refine ⟨PySem.W.mg_of X G Z.nm, ?_⟩
  unfold PySem.W.excIn at q
  split at q
  next dd cd sl ho =>
    split at q
    next C' bm k0 k1 k2 k3 n k5 hm hs =>
      simp only [Bool.and_eq_true, beq_iff_eq, Bool.not_eq_true'] at q
      obtain ⟨⟨⟨⟨⟨e1, e2⟩, hdel⟩, ht⟩, hok⟩, hni⟩ := q
      subst e1 e2
      cases cd with
      | mk nm bs mro ns qn hd sn sub ab col del =>
        have hm' : mro = .ref C' :: bm := hm
        have hdel' : del = false := hdel
        subst hm' hdel'
        cases sl with
        | mk l =>
          have hs' : l = [k0, k1, k2, k3, some (.builtin n), k5] := hs
          subst hs'
          exact ⟨bm, ns, nm, qn, bs, hd, sn, sub, ab, col, dd, k0, k1, k2, k3, k5, _, X _ _ ho, .of_isNs (PySem.W.isNs_of_in X hok), PySem.W.nsMap_none_of_in X hok hni, PySem.W.tail_of_in X ht⟩
    next => cases q
  next => cases q

/-- what a raise asks: the wish about the class -/
def tRaise (E : XK) (C : Addr) (ta : TA) : TS := fun _ σ H => ta σ H fun vs H1 => vs.length ≤ sizeLine ∧ E (.ref C) none H1
theorem ps_raise {P : Program} {w : World} {K : PySem.W.Frag} {mg : Str → Option Value} {base : Heap} {N : List Str} {qual : Str} {scope : Scope} {f : Addr} {cd : Value} {A : Around} {outer : List Env} {s : Shared} {H : Hp} {E : XK}
    {x : Str} {C : Addr} {bmB : List Value} {newId B initId : String} {np cpos pos : Pos} {e0 : Expr} {rest : List Expr} {ta : TA}
    (Z : Err K mg x C bmB newId) (FB : ExcBaseFacts B newId initId bmB) (ha : PA (cxOf (CXE P w) P w K mg base N qual scope f cd A outer s H E) (e0 :: rest) ta) (hg : Gl (cxOf (CXE P w) P w K mg base N qual scope f cd A outer s H E) x)
    (he : starEach (e0 :: rest) (envOfC qual scope s.heap.objs.size f cd) = (false, eval e0 (envOfC qual scope s.heap.objs.size f cd)) :: starEach rest (envOfC qual scope s.heap.objs.size f cd) := by rfl)
    (hpl : (backTo cpos (starEach rest (envOfC qual scope s.heap.objs.size f cd))).any (·.1) = false := by rfl) (hdb : (x == ("__debug__" : Str)) = false := by decide) :
    PS (cxOf (CXE P w) P w K mg base N qual scope f cd A outer s H E) (.Raise (some (.Call (.Name x np) (e0 :: rest) [] cpos)) none pos) (tRaise E C ta) := by
  intro pins s1 σ H1 D I h
  have O := own_of I.mod.kin I.mod.glob Z
  obtain ⟨tl, N', nm, q, bs, hdct, sn, sub, ab, col, dd, k0, k1, k2, k3, k5, mN, hC, hN, hni, T⟩ := O.obj
  refine wpAny_Raise_call_subT (C := C) (nm := nm) (q := q) (N := N') (bs := bs) (bm := tl) (hdct := hdct) (sn := sn) (sub := sub) (ab := ab) (col := col) (dd := dd) (k0 := k0) (k1 := k1) (k2 := k2) (k3 := k3) (k5 := k5) FB (mN := mN) (T.hasType FB.hasBase) (I.ok.hd rfl) ?_ hni (ld_glob I hg O.bound ⟨rfl, ?_⟩ hdb)
  · show (backTo cpos (starEach (e0 :: rest) (envOfC qual scope s.heap.objs.size f cd))).any (·.1) = false
    rw [he]
    show (false || (backTo cpos (starEach rest (envOfC qual scope s.heap.objs.size f cd))).any (·.1)) = false
    rw [hpl]
    rfl
  · have hw := ha cpos pins s1 σ H1 _ I h
    show wpAny _ _ (evalArgs (.ref C) true (backTo cpos (starEach (e0 :: rest) (envOfC qual scope s.heap.objs.size f cd))) []) _ _ s1
    have hw' : wpAny (model P w) (A.deeper (envOfC qual scope s.heap.objs.size f cd)) (spliced (backTo cpos (starEach (e0 :: rest) (envOfC qual scope s.heap.objs.size f cd)))) (AP (cxOf (CXE P w) P w K mg base N qual scope f cd A outer s H E) pins σ fun vs H1 => vs.length ≤ sizeLine ∧ E (.ref C) none H1) (cxOf (CXE P w) P w K mg base N qual scope f cd A outer s H E).xe s1 := hw
    rw [he] at hw' ⊢
    refine Calls.evalArgs_plain (thn hw' fun us s2 ⟨vs, H2, I2, r, z, e⟩ => ⟨rfl, ?_, ?_, ?_, ?_, fun h' ea hm => ?_⟩)
    · rw [← r.length]; exact z
    · exact I2.bk _ _ hC
    · exact hN.keeps I2.bk
    · exact T.keeps I2.bk
    · exact leave_made I2 top_of hm fun s3 f3 => ⟨ea, _, H2, rfl, e, f3⟩

section
variable {X : Cx} {pins pn' : List (Addr × Obj)} {σ : St} {H : Hp} {s : Shared}
end
theorem SP.mono {X Y : Cx} {pins pins' : List (Addr × Obj)} {D : Ends} {f : Flow} {s : Shared} (h : SP X pins D f s) (k : ∀ σ H, Inv X pins σ H s → Inv Y pins' σ H s) : SP Y pins' D f s := by
  cases f with
  | next => obtain ⟨σ, H, I, d⟩ := h; exact ⟨σ, H, k _ _ I, d⟩
  | brk => obtain ⟨σ, H, I, d⟩ := h; exact ⟨σ, H, k _ _ I, d⟩
  | cont => obtain ⟨σ, H, I, d⟩ := h; exact ⟨σ, H, k _ _ I, d⟩
  | ret u => obtain ⟨v, σ, H, I, r, d⟩ := h; exact ⟨v, σ, H, k _ _ I, r, d⟩

section
variable {X : Cx} {x n : Str} {c : Value} {E : XK} {body suite : List Stmt} {b0 : Stmt} {np hpos pos : Pos} {tb th : TS}
/-- only what is handed back counts -/
def Ends.ret (D : Ends) : Ends := { nx := fun _ _ => False, rt := D.rt }
end

section
variable {X : Cx}
end
section
variable {P : Program} {w : World} {K : PySem.W.Frag} {mg : Str → Option Value} {base : Heap}
/-- a def whose body may raise or pass errors on -/
theorem Fun.okE {x qual : Str} {st : Stmt} {f : Addr} {fd : FuncData} {N ps : List Str} {k : Nat} {sp : Sp} (F : Fun K x qual st f fd) (S : FnScope N ps (defScope st)) (len : ∀ vs H Q E, sp vs H Q E → vs.length = ps.length)
    (hbody : ∀ (cdv : Value) (A : Around) (outer : List Env) (s : Shared) (H : Hp) (vs : List V) (Q : VK) (E : XK), Room k (A.deeper (envOfC qual (defScope st) s.heap.objs.size f cdv)) → sp vs H Q E →
      ∃ t, PSs (cxOf (CXE P w) P w K mg base N qual (defScope st) f cdv A outer s H E) (defBody st) t ∧ t { nx := fun _ H' => Q .non H', rt := Q } (start N vs) H) : FnOk P w K mg base (CXE P w) (k + 1) f fd ps sp := by
  obtain ⟨oc, od, kV, doc, pm, an, cdv, ct, osl, rfl, lk, hcd⟩ := F.ex
  exact fn_of lk hcd S len fun A outer s H vs Q E hr hsp => hbody cdv A outer s H vs Q E hr hsp
/-- a promise without errors stands with errors too -/
theorem FnOk.toE {k : Nat} {f : Addr} {fd : FuncData} {ps : List Str} {sp : Sp} (F : FnOk P w K mg base CX0 k f fd ps sp) : FnOk P w K mg base (CXE P w) k f fd ps sp :=
  ⟨F.len, fun A outer s H args us vs Q E hr e0 hb r h => codeAny_mono (F.run A outer s H args us vs Q E hr e0 hb r h) fun res s' q => by
    cases res with
    | ok fl => cases fl <;> exact q
    | error e => exact (show False from q).elim⟩
end
end L2

namespace FM
theorem gcd_turn {a b : Int} (ha : 0 ≤ a) (hb : 0 < b) : Int.gcd b (a % b) = Int.gcd a b := by
  obtain ⟨m, rfl⟩ := Int.eq_ofNat_of_zero_le ha
  obtain ⟨n, rfl⟩ := Int.eq_ofNat_of_zero_le (Int.le_of_lt hb)
  rw [← Int.natCast_emod, Int.gcd_natCast_natCast, Int.gcd_natCast_natCast, Nat.gcd_comm m n, Nat.gcd_comm n (m % n)]
  exact (Nat.gcd_rec n m).symm
theorem gcd_abs (a b : Int) : Int.gcd (if a < 0 then -a else a) (if b < 0 then -b else b) = Int.gcd a b := by
  have h : ∀ x : Int, (if x < 0 then -x else x).natAbs = x.natAbs := fun x => by split <;> omega
  unfold Int.gcd
  rw [h, h]
theorem gcd_abs1 (a b : Int) : Int.gcd (if a < 0 then -a else a) b = Int.gcd a b := by
  have h : ∀ x : Int, (if x < 0 then -x else x).natAbs = x.natAbs := fun x => by split <;> omega
  unfold Int.gcd
  rw [h]
/-- the divisor with the bottom's sign -/
def dv (t b : Int) : Int := if b < 0 then -((Int.gcd t b : Nat) : Int) else ((Int.gcd t b : Nat) : Int)
theorem gcd_pos {t b : Int} (hb : b ≠ 0) : 0 < Int.gcd t b := Int.gcd_pos_of_ne_zero_right t hb
theorem dv_ne {t b : Int} (hb : b ≠ 0) : dv t b ≠ 0 := by
  have := gcd_pos (t := t) hb
  unfold dv; split <;> omega
theorem dv_abs (t b : Int) : (dv t b).natAbs = Int.gcd t b := by unfold dv; split <;> omega
theorem dv_dvd_l (t b : Int) : dv t b ∣ t := by
  unfold dv; split
  · exact Int.neg_dvd.mpr (Int.gcd_dvd_left ..)
  · exact Int.gcd_dvd_left ..
theorem dv_dvd_r (t b : Int) : dv t b ∣ b := by
  unfold dv; split
  · exact Int.neg_dvd.mpr (Int.gcd_dvd_right ..)
  · exact Int.gcd_dvd_right ..
theorem fdiv_exact {d x q : Int} (hd : d ≠ 0) (h : x = d * q) : x.fdiv d = q := by
  subst h; exact Int.mul_fdiv_cancel_left q hd
/-- the fraction that is told: top and bottom -/
theorem num_eq {t b : Int} (hb : b ≠ 0) : t.fdiv (dv t b) = (Rat.divInt t b).num := by
  obtain ⟨q, hq⟩ := dv_dvd_l t b
  rw [fdiv_exact (dv_ne hb) hq, Rat.num_divInt]
  have g0 := gcd_pos (t := t) hb
  rw [Int.gcd_comm b t]
  rcases Int.lt_or_lt_of_ne hb with h | h
  · have e : dv t b = -((Int.gcd t b : Nat) : Int) := if_pos h
    rw [e] at hq
    rw [Int.sign_eq_neg_one_of_neg h]
    generalize hg : ((Int.gcd t b : Nat) : Int) = g at hq ⊢
    have e2 : -1 * t = g * q := by rw [hq]; grind
    rw [e2, Int.mul_ediv_cancel_left _ (by omega)]
  · have e : dv t b = ((Int.gcd t b : Nat) : Int) := if_neg (by omega)
    rw [e] at hq
    rw [Int.sign_eq_one_of_pos h, Int.one_mul]
    generalize hg : ((Int.gcd t b : Nat) : Int) = g at hq ⊢
    rw [hq, Int.mul_ediv_cancel_left _ (by omega)]
theorem den_eq {t b : Int} (hb : b ≠ 0) : b.fdiv (dv t b) = ((Rat.divInt t b).den : Int) := by
  obtain ⟨q, hq⟩ := dv_dvd_r t b
  rw [fdiv_exact (dv_ne hb) hq, Rat.den_divInt, if_neg hb]
  have g0 := gcd_pos (t := t) hb
  rw [Int.gcd_comm b t]
  have hn : b.natAbs = Int.gcd t b * q.natAbs := by rw [← dv_abs t b, ← Int.natAbs_mul, ← hq]
  rw [hn, Nat.mul_div_cancel_left _ g0]
  have hs : 0 < q := by
    rcases Int.lt_or_lt_of_ne hb with h | h
    · have e : dv t b = -((Int.gcd t b : Nat) : Int) := if_pos h
      rw [e] at hq
      rcases Int.lt_or_le 0 q with z | z
      · exact z
      · have : 0 ≤ -((Int.gcd t b : Nat) : Int) * q := Int.mul_nonneg_of_nonpos_of_nonpos (by omega) z
        omega
    · have e : dv t b = ((Int.gcd t b : Nat) : Int) := if_neg (by omega)
      rw [e] at hq
      rcases Int.lt_or_le 0 q with z | z
      · exact z
      · have : ((Int.gcd t b : Nat) : Int) * q ≤ 0 := Int.mul_nonpos_of_nonneg_of_nonpos (by omega) z
        omega
  omega
theorem add_is (r s : Rat) : Rat.divInt (r.num * s.den + s.num * r.den) (r.den * s.den) = r + s := by
  rw [Rat.add_def', ← Int.natCast_mul, Rat.divInt_ofNat]
theorem mul_is (r s : Rat) : Rat.divInt (r.num * s.num) (r.den * s.den) = r * s := by
  rw [Rat.mul_def', ← Int.natCast_mul, Rat.divInt_ofNat]
theorem div_is (r s : Rat) : Rat.divInt (r.num * s.den) (r.den * s.num) = r / s := by
  rw [Rat.div_def, Rat.inv_def]
  conv => rhs; rw [← Rat.num_divInt_den r]
  rw [Rat.divInt_mul_divInt]
theorem den_pos (r : Rat) : (0 : Int) < r.den := by have := r.den_pos; omega
theorem num_zero (r : Rat) : r.num = 0 ↔ r = 0 := Rat.num_eq_zero
theorem gcd_one (r : Rat) : Int.gcd r.num r.den = 1 := by
  unfold Int.gcd
  rw [Int.natAbs_natCast]
  exact r.reduced
theorem gcd_one_abs (r : Rat) : Int.gcd (if r.num < 0 then -r.num else r.num) r.den = 1 := by rw [gcd_abs1]; exact gcd_one r
/-- top and bottom below 2 ^ n -/
def Sm (n : Nat) (r : Rat) : Prop := r.num.natAbs < 2 ^ n ∧ r.den < 2 ^ n
theorem num_le {t b : Int} (hb : b ≠ 0) : (Rat.divInt t b).num.natAbs ≤ t.natAbs := by
  rw [← num_eq hb]
  obtain ⟨p, hp⟩ := dv_dvd_l t b
  rw [fdiv_exact (dv_ne hb) hp]
  conv => rhs; rw [hp]
  rw [Int.natAbs_mul, dv_abs]
  exact Nat.le_mul_of_pos_left _ (gcd_pos hb)
theorem den_le {t b : Int} (hb : b ≠ 0) : (Rat.divInt t b).den ≤ b.natAbs := by
  have h := den_eq (t := t) hb
  obtain ⟨p, hp⟩ := dv_dvd_r t b
  rw [fdiv_exact (dv_ne hb) hp] at h
  have e : (Rat.divInt t b).den = p.natAbs := by omega
  rw [e]
  conv => rhs; rw [hp]
  rw [Int.natAbs_mul, dv_abs]
  exact Nat.le_mul_of_pos_left _ (gcd_pos hb)
theorem gcd_le {t b : Int} (hb : b ≠ 0) : Int.gcd t b ≤ b.natAbs := Nat.le_of_dvd (by omega) (Nat.gcd_dvd_right ..)
theorem mul_lt {a b : Int} {m n : Nat} (ha : a.natAbs < 2 ^ m) (hb : b.natAbs < 2 ^ n) : (a * b).natAbs < 2 ^ (m + n) := by
  rw [Int.natAbs_mul, Nat.pow_add]
  exact Nat.mul_lt_mul'' ha hb
theorem add_lt {a b : Int} {m : Nat} (ha : a.natAbs < 2 ^ m) (hb : b.natAbs < 2 ^ m) : (a + b).natAbs < 2 ^ (m + 1) := by
  have := Int.natAbs_add_le a b
  rw [Nat.pow_succ]
  omega
theorem lt_mono {a m n : Nat} (h : a < 2 ^ m) (hmn : m ≤ n) : a < 2 ^ n := Nat.lt_of_lt_of_le h (Nat.pow_le_pow_right (by decide) hmn)
/-- just one fraction a number -/
theorem divInt_eq {t b u c : Int} (hb : b ≠ 0) (hc : c ≠ 0) (h : t * c = u * b) : Rat.divInt t b = Rat.divInt u c := (Rat.divInt_eq_divInt_iff hb hc).mpr h
theorem mk_self (r : Rat) : Rat.divInt r.num r.den = r := Rat.num_divInt_den r
end FM

namespace L2
open PySem PySem.Spec PyProof.Rows
section
variable {X : Cx}
theorem op_mulB : OpR X (binaryOp .Mult) (rI IntMulOk fun i j => .int (i * j)) := opI fun _ _ _ _ _ _ _ hc q => mul_int q hc
theorem lg_small {j : Int} (h0 : j ≠ 0) (h : j.natAbs < 2 ^ 9000) : j.natAbs.log2 < 9000 := (Nat.log2_lt (by omega)).mpr h
theorem op_fdivB : OpR X (binaryOp .FloorDiv) (rI (fun _ j => j ≠ 0 ∧ j.natAbs < 2 ^ 9000) fun i j => .int (i.fdiv j)) := opI fun i j _ _ _ _ _ hc q => floordiv_int hc.1 q (.inl (PyProof.noPylong_of_log2 (lg_small hc.1 hc.2)))
/-- xs == [] -/
theorem op_eqL : OpR X (compareOp .Eq) (fun x y H Q => ∃ p q xs, x = .ref p ∧ y = .ref q ∧ SqL X.K H p xs ∧ SqL X.K H q [] ∧ X.A.units < cLine ∧ Q (.bl xs.isEmpty) H) := by
  intro pins s σ H x y v u Q I rx ry h
  obtain ⟨p, q, xs, rfl, rfl, hp, hq, hu, k⟩ := h
  cases (show v = Value.ref p from rx)
  cases (show u = Value.ref q from ry)
  obtain ⟨its, r, pl, hz⟩ := I.list hp
  obtain ⟨its2, r2, pl2, _⟩ := I.list hq
  cases r2
  cases xs with
  | nil =>
    cases r
    exact SeqAt.eq_listAt pl.isList pl2.isList rfl hu (e := fun _ => true) (fun j h1 => absurd h1 (by simp)) ⟨.bl true, H, I, rfl, k⟩
  | cons x0 xr =>
    have hl := r.length
    refine SeqAt.eq_list_lengthsAt pl.isList pl2.isList ?_ hu ⟨.bl false, H, I, rfl, k⟩
    cases its with
    | nil => simp at hl
    | cons a b => rfl
end
def frV (r : Rat) : List V := [.int r.num, .int (r.den : Int)]
theorem Same.tup {K : PySem.W.Frag} {H H' : Hp} {a : Addr} {xs : List V} (e : Same H H') (h : SqT K H a xs) : SqT K H' a xs := by
  rcases h with (h | ⟨o, h⟩) | h
  · exact .inl (.inl (e _ _ h))
  · exact .inl (.inr ⟨o, e _ _ h⟩)
  · exact .inr h
theorem same_new {H : Hp} {p : Addr} (h : H p = none) (o : HO) : Same H (upd H p o) := fun b u q => by rw [upd_ne (ne_of_none q h)]; exact q
theorem fr_top (r : Rat) : atI (frV r) 0 = some (.int r.num) := rfl
theorem fr_bot (r : Rat) : atI (frV r) 1 = some (.int (r.den : Int)) := rfl
theorem ne_of_test {y z : Int} (c : (!decide (V.int y = V.int z)) = true) : y ≠ z := by simpa using c
theorem eq_of_ntest {y z : Int} (c : ¬ (!decide (V.int y = V.int z)) = true) : y = z := by simpa using c
theorem eq_of_test {y z : Int} (c : decide (V.int y = V.int z) = true) : y = z := by simpa using c
theorem ne_of_ntest {y z : Int} (c : ¬ decide (V.int y = V.int z) = true) : y ≠ z := by simpa using c
theorem bt_int : bootBuiltins "int" = some (.type "int") := by decide +kernel
theorem bt_bool : bootBuiltins "bool" = some (.type "bool") := by decide +kernel
theorem bt_str : bootBuiltins "str" = some (.type "str") := by decide +kernel
theorem bt_tuple : bootBuiltins "tuple" = some (.type "tuple") := by decide +kernel
section
variable {K : PySem.W.Frag}
theorem kit_same {T : String} : PySem.W.kitOne K (.type T) (.type T) = some true := if_pos (by simp)
end
theorem bits_of {x : Int} {n : Nat} (h : x.natAbs < 2 ^ n) : Builtin.Int.intBits x ≤ n := PySem.intBits_le_iff.mpr h
theorem mulOk {x y : Int} {m n : Nat} (h : x.natAbs < 2 ^ m) (k : y.natAbs < 2 ^ n) (z : m + n ≤ 134217728) : IntMulOk x y := PySem.IntMulOk.of_le (bits_of h) (bits_of k) z
/-- no error comes: whatever stands around -/
theorem pass_no {P : Program} {w : World} {X : Cx} : Passes (CXE P w) X E0 := fun _ _ _ _ _ _ _ c => by
  obtain ⟨_, _, _, _, z, _⟩ := c
  exact z.elim
end L2


namespace L2
open PySem PySem.Spec PyProof.Rows

/-- the cells that a block captures -/
def clOf (env : Env) : List (Str × NameKind) → List (Str × Addr) → List (Str × Addr)
  | [], acc => acc
  | (n, k) :: r, acc => clOf env r (if (k == .free) = true then (n, (env.cells.lookup n).getD 0) :: acc else acc)
theorem clOf_sub {env : Env} : ∀ (l : List (Str × NameKind)) (acc : List (Str × Addr)), (∀ x ∈ l, x.2 = .free → ∃ c, env.cells.lookup x.1 = some c) → (∀ n c, acc.lookup n = some c → env.cells.lookup n = some c) →
    ∀ n c, (clOf env l acc).lookup n = some c → env.cells.lookup n = some c
  | [], acc, _, ha, n, c, e => ha n c e
  | (m, k) :: r, acc, hl, ha, n, c, e => by
    refine clOf_sub r _ (fun x hx => hl x (List.mem_cons_of_mem _ hx)) (fun n' c' e' => ?_) n c e
    by_cases hk : (k == NameKind.free) = true
    · rw [if_pos hk, List.lookup_cons] at e'
      cases hb : n' == m with
      | true =>
        rw [hb] at e'
        have em : n' = m := by simpa using hb
        obtain ⟨d, hd⟩ := hl (m, k) List.mem_cons_self (by simpa using hk)
        have hd' : env.cells.lookup m = some d := hd
        rw [hd'] at e'
        have e2 : d = c' := by simpa using e'
        rw [em, hd', e2]
      | false =>
        rw [hb] at e'
        exact ha n' c' e'
    · rw [if_neg hk] at e'
      exact ha n' c' e'
theorem clOf_old {env : Env} : ∀ (l : List (Str × NameKind)) (acc : List (Str × Addr)) (n : Str), (∃ c, acc.lookup n = some c) → ∃ c, (clOf env l acc).lookup n = some c
  | [], _, _, h => h
  | (m, k) :: r, acc, n, h => by
    refine clOf_old r _ n ?_
    by_cases hk : (k == NameKind.free) = true
    · rw [if_pos hk, List.lookup_cons]
      cases hb : n == m with
      | true => exact ⟨_, rfl⟩
      | false => exact h
    · rw [if_neg hk]; exact h
theorem clOf_has {env : Env} : ∀ (l : List (Str × NameKind)) (acc : List (Str × Addr)) (n : Str), (n, NameKind.free) ∈ l → ∃ c, (clOf env l acc).lookup n = some c
  | (m, k) :: r, acc, n, h => by
    rcases List.mem_cons.mp h with e | h
    · have e1 : n = m := congrArg Prod.fst e
      have e2 : k = .free := (congrArg Prod.snd e).symm
      subst e1 e2
      refine clOf_old r _ n ⟨(env.cells.lookup n).getD 0, ?_⟩
      rw [if_pos (by simp), List.lookup_cons]
      simp
    · exact clOf_has r _ n h
theorem lookup_rel {env : Env} {x : Str} : ∀ {names : List (Str × NameKind)}, (names.map fun (n, k) => if (k == NameKind.free && env.scope.kind == .function && env.kindOf n == some .cell) then (n, NameKind.cell) else (n, k)).lookup x = some .cell ∨
      (names.map fun (n, k) => if (k == NameKind.free && env.scope.kind == .function && env.kindOf n == some .cell) then (n, NameKind.cell) else (n, k)).lookup x = some .free → (∀ y ∈ names, y.2 ≠ .cell) → (x, NameKind.free) ∈ names
  | [], h, _ => by rcases h with h | h <;> cases h
  | (n, k) :: r, h, hc => by
    rw [List.map_cons, List.lookup_cons] at h
    have e0 : (if (k == NameKind.free && env.scope.kind == .function && env.kindOf n == some .cell) = true then (n, NameKind.cell) else (n, k)).1 = n := by split <;> rfl
    rw [e0] at h
    cases hb : x == n with
    | false =>
      rw [hb] at h
      exact List.mem_cons_of_mem _ (lookup_rel (names := r) h fun y hy => hc y (List.mem_cons_of_mem _ hy))
    | true =>
      have ex : x = n := by simpa using hb
      subst ex
      rw [hb] at h
      have hk : k = .free := by
        by_cases hq : (k == NameKind.free && env.scope.kind == .function && env.kindOf x == some .cell) = true
        · simp only [Bool.and_eq_true, beq_iff_eq] at hq
          exact hq.1.1
        · rw [if_neg hq] at h
          rcases h with h | h
          · exact absurd (Option.some.inj h) (hc (x, k) List.mem_cons_self)
          · exact Option.some.inj h
      subst hk
      exact List.mem_cons_self

theorem rel_free {env : Env} {x : Str} : ∀ {names : List (Str × NameKind)}, names.lookup x = some .free →
    (names.map fun (n, k) => if (k == NameKind.free && env.scope.kind == .function && env.kindOf n == some .cell) then (n, NameKind.cell) else (n, k)).lookup x = some .cell ∨
      (names.map fun (n, k) => if (k == NameKind.free && env.scope.kind == .function && env.kindOf n == some .cell) then (n, NameKind.cell) else (n, k)).lookup x = some .free
  | [], h => by cases h
  | (n, k) :: r, h => by
    rw [List.map_cons, List.lookup_cons]
    rw [List.lookup_cons] at h
    have e0 : (if (k == NameKind.free && env.scope.kind == .function && env.kindOf n == some .cell) = true then (n, NameKind.cell) else (n, k)).1 = n := by split <;> rfl
    rw [e0]
    cases hb : x == n with
    | false =>
      rw [hb] at h
      exact rel_free (names := r) h
    | true =>
      rw [hb] at h
      have hk : k = .free := Option.some.inj h
      by_cases hq : (k == NameKind.free && env.scope.kind == .function && env.kindOf n == some .cell) = true
      · rw [if_pos hq]; exact .inl rfl
      · rw [if_neg hq, hk]; exact .inr rfl
/-- the context of a comprehension's block -/
abbrev Cx.blk (X : Cx) (scope : Scope) (C : Addr) (Nb : List Str) (s0 : Shared) (H0 : Hp) (fp : List Addr) (pn' : List (Addr × Obj)) : Cx :=
  { X with N := Nb, s₀ := s0, H₀ := H0, env := compEnvC scope (clOf X.env scope.names []) C X.env, outer := X.stack, stack := X.stack, ex := fp, fn := fun _ => false, pn := pn', xe := fun _ _ => False }
/-- what of a comprehension's scope is looked at -/
structure CompS (X : Cx) (scope : Scope) (x : Str) (Nb : List Str) (js : List Nat) : Prop where
  kind : scope.kind = .function
  cell : ∀ y ∈ scope.names, y.2 ≠ .cell
  loc : ∀ y ∈ scope.names, y.2 = .local → scope.names.lookup y.1 = some .local
  var : scope.names.lookup x = some .local
  nb : Nb = x :: js.map fun j => X.N.getD j x
  nd : Nb.Nodup
  cap : ∀ y ∈ scope.names, y.2 = .free → X.env.kindOf y.1 = some .cell ∨ X.env.kindOf y.1 = some .free
  capf : ∀ j ∈ js, scope.names.lookup (X.N.getD j x) = some .free
  clos : closureFor scope X.env = pure (clOf X.env scope.names [])
/-- the captured names' values -/
def capt (js : List Nat) (σ : St) : St := none :: js.map fun j => (σ[j]?).join
section
variable {X : Cx} {scope : Scope} {x : Str} {Nb : List Str} {js : List Nat} {pins : List (Addr × Obj)} {σ : St} {H : Hp} {s : Shared}
theorem CompS.cells (S : CompS X scope x Nb js) (ok : X.Ok) : ∀ n c, (clOf X.env scope.names []).lookup n = some c → X.env.cells.lookup n = some c :=
  clOf_sub scope.names [] (fun y hy hk => ok.has y.1 (S.cap y hy hk)) fun n c e => by cases e
/-- the block begins -/
theorem Inv.block (I : Inv X pins σ H s) (S : CompS X scope x Nb js) {fp : List Addr} (hf : ∀ b ∈ fp, FpOk X pins H b) (hex : ∀ b ∈ fp, b < s.heap.objs.size) {h' : Heap} {t' : Nat} (ns : h'.Ns s.heap.objs.size fun _ => none)
    (kp : ∀ b o, s.heap.get? b = some o → h'.get? b = some o) : Inv (X.blk scope s.heap.objs.size Nb s H fp (X.pn ++ pins)) [] (capt js σ) H { s with heap := h', toks := t' } := by
  have cls := S.cells I.ok
  have nst : ∀ b ∈ fp, b ∉ frs X.stack := fun b hb z => by
    obtain ⟨_, f1, f2, _⟩ := hf b hb
    rcases List.mem_cons.mp (I.stkSub b z) with e | e
    · exact f1 e
    · exact f2 e
  refine ⟨⟨I.ok.mod, S.kind, I.ok.glob, I.ok.blt, Nat.le_refl _, fun y z c h1 h2 => I.ok.inj y z c (cls _ _ h1) (cls _ _ h2), fun y hy => ?_, fun y c hy hc => ?_, I.ok.hd, I.ok.frames, .inl rfl, fun b hb => ?_, fun b o e => I.bs b o e, Nat.le_trans I.ok.bsz I.sz, fun b o e hb => ?_, fun b hb => nst b hb, I.stack, I.stkFree⟩,
    rfl, I.bare, Un.kept kp, ⟨_, ns, fun i y v h1 h2 h3 => ?_⟩, fun y c e => ?_, I.hok.fresh (Nat.le_refl _), fun y c e => I.freeC y c (cls y c e), fun p hp => ?_, I.hok.kept kp, ?_⟩
  · exact clOf_has scope.names [] y (lookup_rel hy S.cell)
  · exact absurd hy (by simp)
  · obtain ⟨f0, f1, f2, f3, f4, f5⟩ := hf b hb
    refine ⟨fun e => ?_, fun y c e => f4 y c (cls y c e)⟩
    have e' : b = s.heap.objs.size := e
    exact absurd e' (Nat.ne_of_lt (hex b hb))
  · obtain ⟨f0, f1, f2, f3, f4, f5⟩ := hf b hb
    rcases f3 with z | z
    · exact I.ok.noex b o e z
    · exact absurd (Nat.lt_of_lt_of_le (Heap.lt_size e) (Nat.le_trans I.ok.bsz z)) (Nat.lt_irrefl _)
  · cases i with
    | zero => cases h2
    | succ i =>
      obtain ⟨m, hn, hl⟩ := I.loc
      rw [S.nb] at h1
      have h1' : (js.map fun j => X.N.getD j x)[i]? = some y := h1
      have h2' : (js.map fun j => (σ[j]?).join)[i]? = some (some v) := h2
      rw [List.getElem?_map] at h1' h2'
      cases hj : js[i]? with
      | none => rw [hj] at h2'; cases h2'
      | some j =>
        rw [hj] at h1' h2'
        have ey : X.N.getD j x = y := Option.some.inj h1'
        have ev : (σ[j]?).join = some v := Option.some.inj h2'
        have hσ : σ[j]? = some (some v) := by
          cases q : σ[j]? with
          | none => rw [q] at ev; cases ev
          | some z => rw [q] at ev; have : z = some v := ev; rw [this]
        have hjl : j < X.N.length := by rw [← I.len]; exact (List.getElem?_eq_some_iff.mp hσ).1
        have hN : X.N[j]? = some y := by
          rw [List.getElem?_eq_getElem hjl]
          have : X.N.getD j x = X.N[j] := by simp [List.getD, List.getElem?_eq_getElem hjl]
          rw [← this, ey]
        have hfr := S.capf j (List.mem_of_getElem? hj)
        rw [ey] at hfr
        have hmem : (y, NameKind.free) ∈ scope.names := mem_of_lookup hfr
        have hk := S.cap _ hmem rfl
        have hvis : Vis X.env.scope y := hk.elim (fun z => .inr (.inl z)) fun z => .inr (.inr z)
        obtain ⟨u, ru, lu⟩ := hl j y v hN hσ hvis
        refine ⟨u, ru, .inr ⟨rel_free hfr, ?_⟩⟩
        obtain ⟨c, hc⟩ := clOf_has (env := X.env) scope.names [] y hmem
        refine ⟨c, hc, ?_⟩
        rcases lu with ⟨k1, _⟩ | ⟨_, c', hc', q⟩
        · rcases hk with k2 | k2 <;> (rw [k1] at k2; cases k2)
        · rw [cls y c hc] at hc'
          cases hc'
          exact q.keeps kp
  · obtain ⟨v, q⟩ := I.cell y c (cls y c e)
    exact ⟨v, q.keeps kp⟩
  · obtain ⟨e, n, ne, nf, d⟩ := I.pin p (by simpa using hp)
    refine ⟨kp _ _ e, n, Nat.ne_of_lt (Heap.lt_size e), fun z => ?_, d⟩
    rcases List.mem_cons.mp (I.stkSub _ z) with w1 | w1
    · exact ne w1
    · exact nf w1
  · show (capt js σ).length = Nb.length
    rw [S.nb]
    simp [capt]
/-- the block is over -/
theorem Inv.unblock (I : Inv X pins σ H s) {fp : List Addr} (hf : ∀ b ∈ fp, FpOk X pins H b) {C : Addr} (hC : C = s.heap.objs.size) {pn' pins' : List (Addr × Obj)} {σ' : St} {H' : Hp} {s' : Shared} {h2 : Heap}
    (J : Inv (X.blk scope C Nb s H fp pn') pins' σ' H' s') (sb : Heap.SameBut C s'.heap h2) : Inv X pins σ H' { s' with heap := h2 } := by
  subst hC
  have u : Un (frs X.stack) fp H H' s.heap s'.heap := J.base
  have ne : ∀ b o, s.heap.get? b = some o → b ≠ s.heap.objs.size := fun b o e => Nat.ne_of_lt (Heap.lt_size e)
  have u2 : Un (frs X.stack) fp H H' s.heap h2 := ⟨fun b o e n hb hx => (sb.2 b (ne b o e)).trans (u.keep b o e n hb hx), fun b o e n hb hx => let ⟨sl, q⟩ := u.slot b o e n hb hx; ⟨sl, (sb.2 b (ne b o e)).trans q⟩, u.free,
    fun b o e hx => let ⟨o', q⟩ := u.there b o e hx; ⟨o', (sb.2 b (ne b o e)).trans q⟩, u.tups, u.frzs, u.tbls⟩
  have hok : HOk X.prog X.w H' h2 := fun b o e => (J.hok b o e).stay (fun c v hc q => (sb.2 c (fun z => by
    subst z
    have fr : H' s.heap.objs.size = none := J.free
    rcases hc with hc | hc
    · rw [← hc, fr] at e; cases e
    · rw [fr] at hc; cases hc)).trans q) (fun _ q => q) fun _ _ q => q
  exact I.call' (s' := { s' with heap := h2 }) (ch := fp) J.os u2 hok J.bare fun b hb => let ⟨_, f1, _, f3, f4, f5⟩ := hf b hb; ⟨f3, f1, f4, f5⟩
end
/-- the turn's word: i items are through, m are left -/
def Wc (Pv : Nat → Hp → Prop) (n : Nat) : Nat → Nat → Hp → Prop := fun i m H => i ≤ n ∧ m = n - i ∧ Pv i H
end L2

namespace L2
open PySem PySem.Spec PyProof.Rows
section
variable {X : Cx}
end
section
variable {X : Cx} {tg : Expr}
end
end L2


namespace L2
open PySem PySem.Spec PyProof.Rows
theorem IsTup.tuple {h : Heap} {a : Addr} {its : List Value} (p : IsTup h a its.toArray) : h.IsTuple a its.toArray := p
section
variable {X : Cx}
def rPair (K : PySem.W.Frag) (A : Around) (f : Bool → Bool) : R2 := fun x y H Q => ∃ p q a b c d, x = .ref p ∧ y = .ref q ∧ SqT K H p [.int a, .int b] ∧ SqT K H q [.int c, .int d] ∧ A.units < cLine ∧ Q (.bl (f (decide (a = c ∧ b = d)))) H
theorem pair_it {a b c d : Int} {t1 t2 t3 t4 : Tok} {A : Around} {s : Shared} : ∀ j (h1 : j < (#[Value.int a t1, .int b t2] : Array Value).size) (h2 : j < (#[Value.int c t3, .int d t4] : Array Value).size),
    SeqAt.EqAt A s (#[Value.int a t1, .int b t2] : Array Value)[j] (#[Value.int c t3, .int d t4] : Array Value)[j] (if j = 0 then a == c else b == d) := by
  intro j h1 h2
  match j, h1, h2 with
  | 0, _, _ => exact SeqAt.EqAt.int_int a t1 c t3
  | 1, _, _ => exact SeqAt.EqAt.int_int b t2 d t4
theorem pair_all (a b c d : Int) : ((List.range (min 2 2)).all (fun j => if j = 0 then a == c else b == d) && (2 : Nat) == 2) = decide (a = c ∧ b = d) := by
  have : List.range (min 2 2) = [0, 1] := rfl
  rw [this]
  rw [Bool.eq_iff_iff]
  simp
theorem op_neT : OpR X (compareOp .NotEq) (rPair X.K X.A not) := by
  intro pins s σ H x y v u Q I rx ry h
  obtain ⟨p, q, a, b, c, d, rfl, rfl, hp, hq, hu, k⟩ := h
  cases (show v = Value.ref p from rx)
  cases (show u = Value.ref q from ry)
  obtain ⟨its, r, pl, _⟩ := I.tuple hp
  obtain ⟨its2, r2, pl2, _⟩ := I.tuple hq
  obtain ⟨v1, v2, rfl, ⟨t1, rfl⟩, ⟨t2, rfl⟩⟩ := vals2 r
  obtain ⟨w1, w2, rfl, ⟨t3, rfl⟩, ⟨t4, rfl⟩⟩ := vals2 r2
  refine SeqAt.RcNeAt.tuples (IsTup.tuple pl) (IsTup.tuple pl2) hu pair_it X.prog X.w X.xe _ ?_
  have e := pair_all a b c d
  refine ⟨.bl (!decide (a = c ∧ b = d)), H, I, ?_, k⟩
  exact congrArg (fun z => Value.bool (!z)) e
end
end L2

namespace L2
open PySem PySem.Spec PyProof.Rows
/-- what of a comprehension's scope is looked at: n own names ahead, then the captured ones -/
structure CompT (X : Cx) (scope : Scope) (n : Nat) (Nb : List Str) (js : List Nat) : Prop where
  kind : scope.kind = .function
  cell : ∀ y ∈ scope.names, y.2 ≠ .cell
  loc : ∀ y ∈ scope.names, y.2 = .local → scope.names.lookup y.1 = some .local
  nb : Nb.drop n = js.map fun j => X.N.getD j ("" : Str)
  nl : n ≤ Nb.length
  nd : Nb.Nodup
  cap : ∀ y ∈ scope.names, y.2 = .free → X.env.kindOf y.1 = some .cell ∨ X.env.kindOf y.1 = some .free
  capf : ∀ j ∈ js, scope.names.lookup (X.N.getD j ("" : Str)) = some .free
  clos : closureFor scope X.env = pure (clOf X.env scope.names [])
/-- the captured names' values behind the block's own -/
def captN (n : Nat) (js : List Nat) (σ : St) : St := List.replicate n none ++ js.map fun j => (σ[j]?).join
section
variable {X : Cx} {scope : Scope} {nt : Nat} {Nb : List Str} {js : List Nat} {pins : List (Addr × Obj)} {σ : St} {H : Hp} {s : Shared}
theorem CompT.cells (S : CompT X scope nt Nb js) (ok : X.Ok) : ∀ n c, (clOf X.env scope.names []).lookup n = some c → X.env.cells.lookup n = some c :=
  clOf_sub scope.names [] (fun y hy hk => ok.has y.1 (S.cap y hy hk)) fun n c e => by cases e
/-- the block begins -/
theorem Inv.blockG (I : Inv X pins σ H s) (S : CompT X scope nt Nb js) {fp : List Addr} (hf : ∀ b ∈ fp, FpOk X pins H b) (hex : ∀ b ∈ fp, b < s.heap.objs.size) {h' : Heap} {t' : Nat} (ns : h'.Ns s.heap.objs.size fun _ => none)
    (kp : ∀ b o, s.heap.get? b = some o → h'.get? b = some o) : Inv (X.blk scope s.heap.objs.size Nb s H fp (X.pn ++ pins)) [] (captN nt js σ) H { s with heap := h', toks := t' } := by
  have cls := S.cells I.ok
  have nst : ∀ b ∈ fp, b ∉ frs X.stack := fun b hb z => by
    obtain ⟨_, f1, f2, _⟩ := hf b hb
    rcases List.mem_cons.mp (I.stkSub b z) with e | e
    · exact f1 e
    · exact f2 e
  refine ⟨⟨I.ok.mod, S.kind, I.ok.glob, I.ok.blt, Nat.le_refl _, fun y z c h1 h2 => I.ok.inj y z c (cls _ _ h1) (cls _ _ h2), fun y hy => ?_, fun y c hy hc => ?_, I.ok.hd, I.ok.frames, .inl rfl, fun b hb => ?_, fun b o e => I.bs b o e, Nat.le_trans I.ok.bsz I.sz, fun b o e hb => ?_, fun b hb => nst b hb, I.stack, I.stkFree⟩,
    rfl, I.bare, Un.kept kp, ⟨_, ns, fun i y v h1 h2 h3 => ?_⟩, fun y c e => ?_, I.hok.fresh (Nat.le_refl _), fun y c e => I.freeC y c (cls y c e), fun p hp => ?_, I.hok.kept kp, ?_⟩
  · exact clOf_has scope.names [] y (lookup_rel hy S.cell)
  · exact absurd hy (by simp)
  · obtain ⟨f0, f1, f2, f3, f4, f5⟩ := hf b hb
    refine ⟨fun e => ?_, fun y c e => f4 y c (cls y c e)⟩
    have e' : b = s.heap.objs.size := e
    exact absurd e' (Nat.ne_of_lt (hex b hb))
  · obtain ⟨f0, f1, f2, f3, f4, f5⟩ := hf b hb
    rcases f3 with z | z
    · exact I.ok.noex b o e z
    · exact absurd (Nat.lt_of_lt_of_le (Heap.lt_size e) (Nat.le_trans I.ok.bsz z)) (Nat.lt_irrefl _)
  · rcases Nat.lt_or_ge i nt with hi | hi
    · have h2' : (List.replicate nt (none : Option V) ++ js.map fun j => (σ[j]?).join)[i]? = some (some v) := h2
      rw [List.getElem?_append_left (by simpa using hi), List.getElem?_replicate, if_pos hi] at h2'
      cases h2'
    · obtain ⟨i, rfl⟩ : ∃ i', i = nt + i' := ⟨i - nt, by omega⟩
      obtain ⟨m, hn, hl⟩ := I.loc
      have h1' : (js.map fun j => X.N.getD j ("" : Str))[i]? = some y := by
        rw [← S.nb, List.getElem?_drop]
        exact h1
      have h2' : (js.map fun j => (σ[j]?).join)[i]? = some (some v) := by
        have h2' : (List.replicate nt (none : Option V) ++ js.map fun j => (σ[j]?).join)[nt + i]? = some (some v) := h2
        rw [List.getElem?_append_right (by simp)] at h2'
        simpa using h2'
      rw [List.getElem?_map] at h1' h2'
      cases hj : js[i]? with
      | none => rw [hj] at h2'; cases h2'
      | some j =>
        rw [hj] at h1' h2'
        have ey : X.N.getD j ("" : Str) = y := Option.some.inj h1'
        have ev : (σ[j]?).join = some v := Option.some.inj h2'
        have hσ : σ[j]? = some (some v) := by
          cases q : σ[j]? with
          | none => rw [q] at ev; cases ev
          | some z => rw [q] at ev; have : z = some v := ev; rw [this]
        have hjl : j < X.N.length := by rw [← I.len]; exact (List.getElem?_eq_some_iff.mp hσ).1
        have hN : X.N[j]? = some y := by
          rw [List.getElem?_eq_getElem hjl]
          have : X.N.getD j ("" : Str) = X.N[j] := by simp [List.getD, List.getElem?_eq_getElem hjl]
          rw [← this, ey]
        have hfr := S.capf j (List.mem_of_getElem? hj)
        rw [ey] at hfr
        have hmem : (y, NameKind.free) ∈ scope.names := mem_of_lookup hfr
        have hk := S.cap _ hmem rfl
        have hvis : Vis X.env.scope y := hk.elim (fun z => .inr (.inl z)) fun z => .inr (.inr z)
        obtain ⟨u, ru, lu⟩ := hl j y v hN hσ hvis
        refine ⟨u, ru, .inr ⟨rel_free hfr, ?_⟩⟩
        obtain ⟨c, hc⟩ := clOf_has (env := X.env) scope.names [] y hmem
        refine ⟨c, hc, ?_⟩
        rcases lu with ⟨k1, _⟩ | ⟨_, c', hc', q⟩
        · rcases hk with k2 | k2 <;> (rw [k1] at k2; cases k2)
        · rw [cls y c hc] at hc'
          cases hc'
          exact q.keeps kp
  · obtain ⟨v, q⟩ := I.cell y c (cls y c e)
    exact ⟨v, q.keeps kp⟩
  · obtain ⟨e, n, ne, nf, d⟩ := I.pin p (by simpa using hp)
    refine ⟨kp _ _ e, n, Nat.ne_of_lt (Heap.lt_size e), fun z => ?_, d⟩
    rcases List.mem_cons.mp (I.stkSub _ z) with w1 | w1
    · exact ne w1
    · exact nf w1
  · show (captN nt js σ).length = Nb.length
    have e := congrArg List.length S.nb
    have z := S.nl
    simp only [List.length_drop, List.length_map] at e
    show (List.replicate nt (none : Option V) ++ js.map fun j => (σ[j]?).join).length = Nb.length
    simp
    omega
end
section
variable {X : Cx} {scope : Scope} {nt : Nat} {Nb : List Str} {js : List Nat}
/-- the block's own slots are filled, the captured ones stay -/
def KeepS (σ σ' : St) : Prop := σ'.length = σ.length ∧ ∀ (i : Nat) v, σ[i]? = some (some v) → σ'[i]? = some (some v)
/-- a target that fills the block's own slots alone -/
def Own (n : Nat) (g : TG) : Prop := ∀ (js : List Nat) (σ : St) v H (Q : St → Hp → Prop), g v (captN n js σ) H Q → g v (captN n js σ) H fun σ2 H2 => Q σ2 H2 ∧ KeepS (captN n js σ) σ2
theorem own_name : Own 1 (gName 0) := fun js σ v H Q h => ⟨h, by simp [captN], fun i u e => by
  cases i with
  | zero => cases e
  | succ i => exact e⟩
theorem own_pair {K : PySem.W.Frag} {n : Nat} : Own 2 (gTup K n (gCons (gName 0) (gCons (gName 1) gNil))) := fun js σ v H Q h => by
  obtain ⟨a, xs, e, hq, hl, v1, r, e1, v2, r2, e2, e3, q⟩ := h
  refine ⟨a, xs, e, hq, hl, v1, r, e1, v2, r2, e2, e3, q, by simp [captN], fun i u e => ?_⟩
  match i, e with
  | i + 2, e => exact e
/-- the tests of a comprehension: none, or one -/
def PTs (X : Cx) (ifs : List Expr) (t : TT) : Prop :=
  ∀ (pins : List (Addr × Obj)) (s : Shared) (σ : St) (H : Hp) (Q : Bool → Hp → Prop), Inv X pins σ H s → t σ H Q →
    wpAny (model X.prog X.w) X.A (forIn ifs true fun c r => if r = true then do let ok ← isTrue c X.env (eval c X.env); pure (ForInStep.yield ok) else pure (ForInStep.yield r)) (TP X pins σ Q) X.xe s
def tNoTest : TT := fun _ H Q => Q true H
theorem pts_none {X : Cx} : PTs X [] tNoTest := fun _ _ _ H _ I h => wpAny_tests_nil ⟨H, I, h⟩
/-- the loop of a comprehension, with the step ahead of the store, and its tests -/
theorem comp_loopG {prog : Program} {w : World} {A : Around} {R : Result → Shared → Prop} {s : Shared} {elt target iter : Expr} {ifs : List Expr} {scope : Scope} {pos : Pos} {it acc : Value} {env : Env} (I : Nat → Shared → Prop)
    (turn : ∀ n s, I n s → wpAny (model prog w) A (pyNext it) (fun r s1 => match r with
      | none => R (.ok .next) s1
      | some v => wpAny (model prog w) A (letOwnedTupleGo target it v) (fun _ s2 => wpAny (model prog w) A (assign target env v) (fun _ s3 =>
          wpAny (model prog w) A (forIn ifs true fun c r => if r = true then do let ok ← isTrue c env (eval c env); pure (ForInStep.yield ok) else pure (ForInStep.yield r)) (fun ok s4 =>
            if ok = true then wpAny (model prog w) A (eval elt env) (fun y s5 => wpAny (model prog w) A (call (.builtin "list.append") [acc, y]) (fun _ s6 => ∃ m, m < n ∧ I m s6) (fun _ _ => False) s5) (fun _ _ => False) s4
            else ∃ m, m < n ∧ I m s4) (fun _ _ => False) s3) (fun _ _ => False) s2) (fun _ _ => False) s1) (fun _ _ => False) s)
    (n : Nat) (h : I n s) : codeAny (model prog w) A (.compLoop (.ListComp elt [⟨target, iter, ifs, 0⟩] scope pos) 0 it acc env) R s := by
  refine codeAny_loop rfl I (fun n s hI => ?_) n h
  show wpAny _ _ ((compTurn (.ListComp elt [⟨target, iter, ifs, 0⟩] scope pos) 0 it acc env).onRaise (fun x => do noteFrame x env; theTreesLotGoes x)) _ _ s
  refine wpAny_noted (wpAny_noRaise ?_)
  rw [compTurn_list]
  refine wpAny_bind (wpAny_standAt (wpAny_bind (thn (turn n s hI) fun r s1 h1 => ?_)))
  cases r with
  | none => exact wpAny_pure h1
  | some v =>
    refine wpAny_bind (thn h1 fun _ s2 h2 => wpAny_bind (thn h2 fun _ s3 h3 => wpAny_bind (thn h3 fun ok s4 h4 => ?_)))
    cases ok with
    | false => exact wpAny_pure ⟨rfl, h4⟩
    | true => exact wpAny_bind (wpAny_bind (thn h4 fun y s5 h5 => wpAny_bind (thn h5 fun _ s6 h6 => wpAny_pure (wpAny_pure ⟨rfl, h6⟩))))
def tCompG (n : Nat) (js : List Nat) (wi : TI) (g : TG) (tc : TT) (te : TE) : TE := fun σ H Q => wi σ H fun J H1 => ∀ p, H1 p = none → ∃ W : Nat → Nat → Hp → Prop, (∃ m, W 0 m (upd H1 p (.lst []))) ∧ ∀ i m H, W i m H →
  (J.stop i H ∧ Q (.ref p) H) ∨ (J.go i H ∧ ∀ v H', J.yld i H v H' → g v (captN n js σ) H' fun σ2 H2 => tc σ2 H2 fun b H3 => if b = true then te σ2 H3 (fun y H4 => ∃ ys, H4 p = some (.lst ys) ∧ ys.length < sizeLine ∧ ∃ m', m' < m ∧ W (i + 1) m' (upd H4 p (.lst (ys ++ [y])))) else ∃ m', m' < m ∧ W (i + 1) m' H3)
theorem pe_compG {elt iter tg : Expr} {ifs : List Expr} {pos : Pos} {wi : TI} {g : TG} {tc : TT} {te : TE} (hc : X.calm = true) (S : CompT X scope nt Nb js) (hi : PI X tg iter wi)
    (hg : ∀ (C : Addr) (s0 : Shared) (H0 : Hp) (fp : List Addr) (pn' : List (Addr × Obj)), PG (X.blk scope C Nb s0 H0 fp pn') tg g) (ho : Own nt g)
    (ht : ∀ (C : Addr) (s0 : Shared) (H0 : Hp) (fp : List Addr) (pn' : List (Addr × Obj)), PTs (X.blk scope C Nb s0 H0 fp pn') ifs tc)
    (he : ∀ (C : Addr) (s0 : Shared) (H0 : Hp) (fp : List Addr) (pn' : List (Addr × Obj)), PE (X.blk scope C Nb s0 H0 fp pn') elt te)
    (hs : ∀ v, foldedSetIterable iter X.env v = pure v := by intro _; rfl) :
    PE X (.ListComp elt [⟨tg, iter, ifs, 0⟩] scope pos) (tCompG nt js wi g tc te) := by
  intro pins s σ H Q I h
  rw [eval_ListComp]
  refine wpAny_comprehension_free (use := none) rfl hs S.clos S.kind S.loc (thn (hi pins s σ H _ I h) fun v s1 h1 => thn h1 fun itv s2 h2 => ?_)
  obtain ⟨it, fp, tn, J, H2, e, I2, T, st2, f2, r2⟩ := h2
  subst e
  have hp0 : H2 s2.heap.objs.size = none := I2.hok.fresh (Nat.le_refl _)
  obtain ⟨W, ⟨m0, w0⟩, turn⟩ := r2 s2.heap.objs.size hp0
  unfold newList
  refine wpAny_newObj_type ?_
  have I3 : Inv X pins σ (upd H2 s2.heap.objs.size (.lst [])) { s2 with heap := s2.heap.push { cls := .type "list", dict := none, data := .seq ([] : List Value).toArray } } :=
    I2.laid (t' := s2.toks) (fun b u e => Heap.get?_push_of_some _ e) (Nat.le_refl _) ⟨by show 0 ≤ sizeLine; decide, [], 0, .nil, Heap.get?_push_size _ rfl⟩
  generalize hs3 : ({ s2 with heap := s2.heap.push { cls := .type "list", dict := none, data := .seq ([] : List Value).toArray } } : Shared) = s3 at I3 ⊢
  have lt3 : ∀ b o, s2.heap.get? b = some o → s3.heap.get? b = some o := fun b o e => by rw [← hs3]; exact Heap.get?_push_of_some _ e
  have fpN : ∀ b ∈ fp, b < s2.heap.objs.size := fun b hb => by obtain ⟨o, e, _⟩ := T.obj _ _ st2 b hb; exact Heap.lt_size e
  have f3 : ∀ b ∈ fp, FpOk X pins (upd H2 s2.heap.objs.size (.lst [])) b := fun b hb => ⟨by rw [upd_ne (Nat.ne_of_lt (fpN b hb))]; exact (f2 b hb).1, (f2 b hb).2⟩
  have fp3 : ∀ b ∈ fp, b < s3.heap.objs.size := fun b hb => by obtain ⟨o, e, _⟩ := T.obj _ _ st2 b hb; exact Heap.lt_size (lt3 b o e)
  have st3 : tn 0 s3.heap := T.keep _ _ _ st2 fun b _ o e => lt3 b o e
  refine wpAny_newFunctionEnv S.cell (by intro y hy; cases hy) (fun h4 ns4 sb4 => ?_) S.kind
  have kp4 : ∀ b o, s3.heap.get? b = some o → h4.get? b = some o := fun b o e => (sb4.2 b (Nat.ne_of_lt (Heap.lt_size e))).trans (Heap.get?_push_of_some _ e)
  have I4 : Inv (X.blk scope s3.heap.objs.size Nb s3 (upd H2 s2.heap.objs.size (.lst [])) fp (X.pn ++ pins)) [] (captN nt js σ) (upd H2 s2.heap.objs.size (.lst [])) { s3 with heap := h4, toks := s3.toks + ([] : List (Str × Value)).length } := I3.blockG S f3 fp3 ns4 kp4
  have st4 : tn 0 h4 := T.keep _ _ _ st3 fun b _ o e => kp4 b o e
  have stat : ∀ {H' : Hp}, (∀ b ∈ fp, H' b = none) → ∀ b ∈ fp, FpOk (X.blk scope s3.heap.objs.size Nb s3 (upd H2 s2.heap.objs.size (.lst [])) fp (X.pn ++ pins)) [] H' b := fun {H'} hn b hb => by
    obtain ⟨_, g1, g2, g3, g4, g5⟩ := f3 b hb
    refine ⟨hn b hb, Nat.ne_of_lt (fp3 b hb), fun z => ?_, .inl hb, fun y c e => g4 y c (S.cells I.ok y c e), fun p hp => g5 p (by simpa using hp)⟩
    rcases List.mem_cons.mp (I3.stkSub b z) with w1 | w1
    · exact g1 w1
    · exact g2 w1
  have loop : codeAny (model X.prog X.w) X.A (.compLoop (.ListComp elt [⟨tg, iter, ifs, 0⟩] scope pos) 0 (.ref it) (.ref s2.heap.objs.size) (compEnvC scope (clOf X.env scope.names []) s3.heap.objs.size X.env))
      (compPost (model X.prog X.w) X.A X.xe none (EP X pins σ Q) (.ref s2.heap.objs.size) s3.heap.objs.size) { s3 with heap := h4, toks := s3.toks + ([] : List (Str × Value)).length } := by
    refine comp_loopG (fun n s' => ∃ i H', Inv (X.blk scope s3.heap.objs.size Nb s3 (upd H2 s2.heap.objs.size (.lst [])) fp (X.pn ++ pins)) [] (captN nt js σ) H' s' ∧ tn i s'.heap ∧ (∀ b ∈ fp, H' b = none) ∧ W i n H') ?_ m0 ⟨0, _, I4, st4, fun b hb => (f3 b hb).1, w0⟩
    rintro n s5 ⟨i, H5, I5, st5, fr5, w5⟩
    rcases turn i n H5 w5 with ⟨stop, q⟩ | ⟨go, step⟩
    · refine (thn (T.done (X.blk scope s3.heap.objs.size Nb s3 (upd H2 s2.heap.objs.size (.lst [])) fp (X.pn ++ pins)) rfl rfl rfl hc i [] s5 (captN nt js σ) H5 (fun _ _ => False) I5 (stat fr5) st5 stop) fun r s6 ⟨hr, I6⟩ => ?_)
      subst hr
      obtain ⟨m, hn, _⟩ := id I6.loc
      exact ⟨m, hn, fun h7 sb => ⟨.ref s2.heap.objs.size, H5, I3.unblock f3 rfl I6 sb, rfl, q⟩⟩
    · refine (thn (T.item (X.blk scope s3.heap.objs.size Nb s3 (upd H2 s2.heap.objs.size (.lst [])) fp (X.pn ++ pins)) rfl rfl rfl hc i [] s5 (captN nt js σ) H5 (fun _ _ => False) I5 (stat fr5) st5 go) fun r s6 ⟨u, hr, h6⟩ => ?_)
      subst hr
      refine thn h6 fun _ s7 ⟨v7, H7, I7, r7, y7, st7, fr7⟩ => ?_
      have I7' := I7.pinned (stat fr7) (T.obj _ _ st7)
      refine thn (hg s3.heap.objs.size s3 _ fp (X.pn ++ pins) _ s7 _ H7 v7 u _ I7' r7 (ho js σ v7 H7 _ (step v7 H7 y7))) fun _ s8 ⟨σ8, H8, I8, q8, k8⟩ => ?_
      refine thn (ht s3.heap.objs.size s3 _ fp (X.pn ++ pins) _ s8 σ8 H8 _ I8 q8) fun ok s9 ⟨H9, I9, q9⟩ => ?_
      have back : ∀ {H10 : Hp} {s10 : Shared} {m' : Nat}, Inv (X.blk scope s3.heap.objs.size Nb s3 (upd H2 s2.heap.objs.size (.lst [])) fp (X.pn ++ pins)) ([] ++ pinsAt fp s7.heap) σ8 H10 s10 → m' < n → W (i + 1) m' H10 → ∃ m, m < n ∧ ∃ i H', Inv (X.blk scope s3.heap.objs.size Nb s3 (upd H2 s2.heap.objs.size (.lst [])) fp (X.pn ++ pins)) [] (captN nt js σ) H' s10 ∧ tn i s10.heap ∧ (∀ b ∈ fp, H' b = none) ∧ W i m H' := fun {H10 s10 m'} I10 hm w10 => by
        refine ⟨m', hm, i + 1, _, (I10.weak k8.1.symm k8.2).unpinned, T.keep _ _ _ st7 fun b hb o e => (I10.pin (b, o) (List.mem_append_right _ (List.mem_append_right _ (mem_pinsAt hb e)))).1, fun b hb => ?_, w10⟩
        obtain ⟨o, e, d⟩ := T.obj _ _ st7 b hb
        exact (I10.pin (b, o) (List.mem_append_right _ (List.mem_append_right _ (mem_pinsAt hb e)))).2.1
      cases ok with
      | false =>
        obtain ⟨m', hm, w9⟩ := q9
        exact back I9 hm w9
      | true =>
        refine thn (he s3.heap.objs.size s3 _ fp (X.pn ++ pins) _ s9 _ H9 _ I9 q9) fun y s10 ⟨yv, H10, I10, ry, ys, hy, hz, m', hm, w10⟩ => ?_
        refine thn (mt_append (X := X.blk scope s3.heap.objs.size Nb s3 (upd H2 s2.heap.objs.size (.lst [])) fp (X.pn ++ pins)) _ s10 _ H10 (.ref s2.heap.objs.size) [yv] (.ref s2.heap.objs.size) [y] (fun _ Hn => Hn = upd H10 s2.heap.objs.size (.lst (ys ++ [yv]))) I10 rfl (.cons ry .nil) ⟨s2.heap.objs.size, ys, yv, rfl, rfl, hy, hz, rfl⟩) fun _ s11 ⟨_, H11, I11, _, e11⟩ => ?_
        subst e11
        exact back I11 hm w10
  exact codeAny_compStart_list loop (T.self _ 0 _ _ _ st4 loop)
end
end L2
namespace L2
open PySem PySem.Spec PyProof.Rows
/-- a comprehension's scope, looked at by program -/
theorem compt_of {X : Cx} {scope : Scope} {n : Nat} {Nb : List Str} {js : List Nat}
    (h : (((((scope.kind == .function && scope.names.all fun y => y.2 != .cell) && scope.names.all fun y => y.2 != .local || scope.names.lookup y.1 == some .local) &&
      scope.names.all fun y => y.2 != .free || (X.env.kindOf y.1 == some .cell || X.env.kindOf y.1 == some .free)) && js.all fun j => scope.names.lookup (X.N.getD j ("" : Str)) == some .free)) = true)
    (nb : Nb.drop n = js.map fun j => X.N.getD j ("" : Str)) (nd : Nb.Nodup) (nl : n ≤ Nb.length) (clos : closureFor scope X.env = pure (clOf X.env scope.names [])) : CompT X scope n Nb js := by
  simp only [Bool.and_eq_true, beq_iff_eq, List.all_eq_true, Bool.or_eq_true, bne_iff_ne, ne_eq] at h
  obtain ⟨⟨⟨⟨h1, h2⟩, h3⟩, h5⟩, h6⟩ := h
  exact ⟨h1, h2, fun y hy e => (h3 y hy).resolve_left (fun z => z e), nb, nl, nd, fun y hy e => (h5 y hy).resolve_left (fun z => z e), h6, clos⟩
end L2

namespace L2
open PySem PySem.Spec PyProof.Rows
section
variable {X : Cx} {pins : List (Addr × Obj)} {σ : St} {H : Hp} {s : Shared}
/-- iterators of ours have turned, and a tuple was laid -/
theorem Inv.turnedT {ch : List Addr} {h' : Heap} {t' : Nat} {T : Addr} {xs : List V} (I : Inv X pins σ H s) (k : ∀ b o, b ∉ ch → s.heap.get? b = some o → h'.get? b = some o) (hf : ∀ b ∈ ch, FpOk X pins H b) (hT : s.heap.objs.size ≤ T)
    (new : ObjOk X.prog X.w (upd H T (.tup xs)) h' T (.tup xs)) : Inv X pins σ (upd H T (.tup xs)) { s with heap := h', toks := t' } := by
  have hn : H T = none := I.hok.fresh hT
  have nch : ∀ b u, H b = some u → b ∉ ch := fun b u e z => by rw [(hf b z).1] at e; cases e
  refine I.call' (s' := { s with heap := h', toks := t' }) (ch := ch) rfl ⟨fun b o e _ _ hx => k b o hx e, fun b o e _ _ hx => ⟨o.slots, k b o hx e⟩, fun b o e n _ => ?_, fun b o e hx => ⟨o, k b o hx e⟩, fun b ys e => ?_, fun b o u e => ?_, fun b ps e => ⟨#[], ?_⟩⟩ (fun b u e => ?_) I.bare
    fun b hb => let ⟨_, f1, _, f3, f4, f5⟩ := hf b hb; ⟨f3, f1, f4, f5⟩
  · rw [upd_ne (Nat.ne_of_lt (Nat.lt_of_lt_of_le (Heap.lt_size e) hT))]; exact n
  · rw [upd_ne (ne_of_none e hn)]; exact e
  · rw [upd_ne (ne_of_none e hn)]; exact e
  · rw [upd_ne (ne_of_none e hn), e]; simp
  · by_cases hb : b = T
    · subst hb; rw [upd_same] at e; cases e; exact new
    · rw [upd_ne hb] at e
      refine (I.hok b u e).stay (fun c v hc q => k c v ?_ q) (fun c q => by rw [upd_ne (ne_of_none q hn)]; exact q) fun c ys q => by rw [upd_ne (ne_of_none q hn)]; exact q
      rcases hc with z | z
      · rw [z]; exact nch b u e
      · exact nch c _ z
/-- iterators of ours have turned -/
theorem Inv.turnedL {ch : List Addr} {h' : Heap} {t' : Nat} (I : Inv X pins σ H s) (k : ∀ b o, b ∉ ch → s.heap.get? b = some o → h'.get? b = some o) (hf : ∀ b ∈ ch, FpOk X pins H b) : Inv X pins σ H { s with heap := h', toks := t' } := by
  have nch : ∀ b u, H b = some u → b ∉ ch := fun b u e z => by rw [(hf b z).1] at e; cases e
  refine I.call' (s' := { s with heap := h', toks := t' }) (ch := ch) rfl ⟨fun b o e _ _ hx => k b o hx e, fun b o e _ _ hx => ⟨o.slots, k b o hx e⟩, fun b o e n _ => n, fun b o e hx => ⟨o, k b o hx e⟩, fun b ys e => e, fun b o u e => e, fun b ps e => ⟨#[], by rw [e]; simp⟩⟩ (fun b u e => ?_) I.bare
    fun b hb => let ⟨_, f1, _, f3, f4, f5⟩ := hf b hb; ⟨f3, f1, f4, f5⟩
  refine (I.hok b u e).stay (fun c v hc q => k c v ?_ q) (fun c q => q) fun c ys q => q
  rcases hc with z | z
  · rw [z]; exact nch b u e
  · exact nch c _ z
end
/-- two lists in step -/
def Itz (K : PySem.W.Frag) (a b : Addr) : It :=
  ⟨fun i H => ∃ xs ys x y, SqL K H a xs ∧ SqL K H b ys ∧ xs[i]? = some x ∧ ys[i]? = some y,
   fun i H v H' => ∃ T x y, H T = none ∧ v = .ref T ∧ (∀ xs, SqL K H a xs → xs[i]? = some x) ∧ (∀ ys, SqL K H b ys → ys[i]? = some y) ∧ H' = upd H T (.tup [x, y]),
   fun i H => ∃ xs ys, SqL K H a xs ∧ SqL K H b ys ∧ (xs.length ≤ i ∨ ys.length ≤ i)⟩
theorem two_le : ([V.non, V.non] : List V).length ≤ sizeLine := by decide
theorem turn_zip {P : Program} {w : World} {K : PySem.W.Frag} {es : List Expr} {kt : Nat} {tp : Pos} {z TI TO i1 i2 a b : Addr} (D : ZipApart z TI TO i1 i2 a b) :
    Turn P w K (.Tuple es kt tp) (Itz K a b) [z, TI, TO, i1, i2] z (fun i h => IsZip h z TI TO .none ∧ IsPair h TI (.ref i1) (.ref i2) ∧ (∃ x y, IsPair h TO x y) ∧ h.IsListIter i1 a i ∧ h.IsListIter i2 b i) where
  mem := by simp
  obj := fun i h st c hc => by
    obtain ⟨hz, hTI, ⟨x, y, hTO⟩, ⟨o1, e1, c1, d1⟩, ⟨o2, e2, c2, d2⟩⟩ := st
    simp only [List.mem_cons, List.not_mem_nil, or_false] at hc
    rcases hc with rfl | rfl | rfl | rfl | rfl
    · exact ⟨_, hz, fun v q => by cases q⟩
    · exact ⟨_, hTI, fun v q => by cases q⟩
    · exact ⟨_, hTO, fun v q => by cases q⟩
    · exact ⟨o1, e1, fun v q => by rw [d1] at q; cases q⟩
    · exact ⟨o2, e2, fun v q => by rw [d2] at q; cases q⟩
  keep := fun i h h' st k => by
    obtain ⟨hz, hTI, ⟨x, y, hTO⟩, h1, h2⟩ := st
    exact ⟨k z (by simp) _ hz, k TI (by simp) _ hTI, ⟨x, y, k TO (by simp) _ hTO⟩, h1.at fun o e => k i1 (by simp) o e, h2.at fun o e => k i2 (by simp) o e⟩
  item := by
    intro X hP hw hK hc i pins s σ H E I hf st hg
    subst hP hw hK
    obtain ⟨xs, ys, x, y, hqa, hqb, hx, hy⟩ := hg
    obtain ⟨hz, hTI, ⟨x0, y0, hTO⟩, h1, h2⟩ := st
    obtain ⟨its, rv, p, hl⟩ := I.list hqa
    obtain ⟨its2, rv2, p2, hl2⟩ := I.list hqb
    obtain ⟨u, hu, ru⟩ := rv.get hx
    obtain ⟨u2, hu2, ru2⟩ := rv2.get hy
    refine wpAny_pyNext_zip_item D hz hTI hTO h1 h2 p.isList p2.isList (x := u) (y := u2) (by simpa using hu) (by simpa using hu2) fun h' z' TO' a1 a2 T' sz' k' => ?_
    refine ⟨_, rfl, wpAny_letOwnedTupleGo_zip z' fun h2' z2 sb2 => ?_⟩
    have kz : ∀ c o, c ≠ z → h'.get? c = some o → h2'.get? c = some o := fun c o hc e => sb2.extBut _ _ hc e
    have hzl : z < s.heap.objs.size := Heap.lt_size hz
    have hTn : H s.heap.objs.size = none := I.hok.fresh (Nat.le_refl _)
    have I1 : Inv X pins σ (upd H s.heap.objs.size (.tup [x, y])) { s with heap := h2' } := I.turnedT (t' := s.toks) (ch := [z, TI, TO, i1, i2]) (fun c o hc e => by
        simp only [List.mem_cons, List.not_mem_nil, or_false, not_or] at hc
        exact kz c o hc.1 (k' c o hc.1 hc.2.2.1 hc.2.2.2.1 hc.2.2.2.2 e)) hf (Nat.le_refl _)
      ⟨two_le, [u, u2], .cons ru (.cons ru2 .nil), ⟨_, kz _ _ (Nat.ne_of_gt hzl) T', rfl, _, rfl⟩⟩
    refine ⟨.ref s.heap.objs.size, _, I1, rfl, ⟨_, x, y, hTn, rfl, fun zs hq => by rw [I.list_inj hq hqa]; exact hx, fun zs hq => by rw [I.list_inj hq hqb]; exact hy, rfl⟩,
      ⟨z2, kz _ _ D.TIz (k' _ _ D.TIz D.TITO D.TIi1 D.TIi2 hTI), ⟨_, _, kz _ _ D.TOz TO'⟩, a1.at fun o e => kz i1 o D.i1z e, a2.at fun o e => kz i2 o D.i2z e⟩, fun c hc => ?_⟩
    have hcl : c ≠ s.heap.objs.size := by
      have lt : ∀ {o}, s.heap.get? c = some o → c ≠ s.heap.objs.size := fun e => Nat.ne_of_lt (Heap.lt_size e)
      obtain ⟨o1, e1, _⟩ := h1
      obtain ⟨o2, e2, _⟩ := h2
      simp only [List.mem_cons, List.not_mem_nil, or_false] at hc
      rcases hc with rfl | rfl | rfl | rfl | rfl
      · exact lt hz
      · exact lt hTI
      · exact lt hTO
      · exact lt e1
      · exact lt e2
    rw [upd_ne hcl]
    exact (hf c hc).1
  done := by
    intro X hP hw hK hc i pins s σ H E I hf st hg
    subst hP hw hK
    obtain ⟨xs, ys, hqa, hqb, hx⟩ := hg
    obtain ⟨hz, hTI, ⟨x0, y0, hTO⟩, h1, h2⟩ := st
    obtain ⟨its, rv, p, hl⟩ := I.list hqa
    obtain ⟨its2, rv2, p2, hl2⟩ := I.list hqb
    have e1 := rv.length
    have e2 := rv2.length
    refine wpAny_pyNext_zip_end (I.ok.hd hc) D hz hTI hTO h1 h2 p.isList p2.isList (hx.imp (fun z => by simp; omega) fun z => by simp; omega) fun h' k' => ⟨rfl, I.turnedL (t' := s.toks) (ch := [z, TI, TO, i1, i2]) (fun c o hc e => ?_) hf⟩
    simp only [List.mem_cons, List.not_mem_nil, or_false, not_or] at hc
    exact k' c o hc.1 hc.2.2.1 hc.2.2.2.1 hc.2.2.2.2 e
  self := fun _ _ _ _ _ st h => wpAny_pyIter_zip st.1 h
section
variable {X : Cx}
def iZip (K : PySem.W.Frag) (ta : TA) : TI := fun σ H R => ta σ H fun vs H1 => ∃ a b xs ys, vs = [.ref a, .ref b] ∧ SqL K H1 a xs ∧ SqL K H1 b ys ∧ R (Itz K a b) H1
theorem pi_zip {es : List Expr} {kt : Nat} {tp : Pos} {a b : Expr} {ta : TA} {p pos : Pos} (hg : Gl X "zip") (hm : X.mg "zip" = none) (ha : PA X [a, b] ta) (hs : starEach [a, b] X.env = [(false, eval a X.env), (false, eval b X.env)] := by rfl) (hs2 : starEach [b] X.env = [(false, eval b X.env)] := by rfl) :
    PI X (.Tuple es kt tp) (.Call (.Name "zip" p) [a, b] [] pos) (iZip X.K ta) := by
  intro pins s σ H R I h
  refine Call_ (ld_blt I hg hm boot_zip (PyProof.Rows.callWith_type1 (thn (ha pos pins s σ H _ I h) fun us s1 ⟨vs, H1, I1, r1, q1⟩ => ?_) (by rw [hs, hs2]) (by rw [hs2]; rfl)))
  obtain ⟨l1, l2, xs, ys, e, h1, h2, q⟩ := q1
  subst e
  cases r1 with
  | cons r rr =>
    cases rr with
    | cons r' rr =>
      cases rr
      cases (show _ = Value.ref l1 from r)
      cases (show _ = Value.ref l2 from r')
      obtain ⟨its, rv, p1, _⟩ := I1.list h1
      obtain ⟨its2, rv2, p2, _⟩ := I1.list h2
      have a1 : l1 < s1.heap.objs.size := by obtain ⟨_, e, _⟩ := p1.isList; exact Heap.lt_size e
      have a2 : l2 < s1.heap.objs.size := by obtain ⟨_, e, _⟩ := p2.isList; exact Heap.lt_size e
      refine call_zip_2 p1.isList p2.isList fun h' hz hTI hTO hi1 hi2 hsz hk => ?_
      refine wpAny_pyIter_zip (s := { s1 with heap := h' }) hz ?_
      refine ⟨_, _, _, _, H1, rfl, I1.kept (t' := s1.toks) hk, turn_zip (zipApart_new a1 a2), ⟨hz, hTI, ⟨_, _, hTO⟩, hi1, hi2⟩, fun c hc => ?_, q⟩
      have hge : s1.heap.objs.size ≤ c := by
        simp only [List.mem_cons, List.not_mem_nil, or_false] at hc
        rcases hc with rfl | rfl | rfl | rfl | rfl
        · exact Nat.le_add_right _ 4
        · exact Nat.le_add_right _ 2
        · exact Nat.le_add_right _ 3
        · exact Nat.le_refl _
        · exact Nat.le_add_right _ 1
      exact I1.fpOk hge (I1.hok.fresh hge)
end
end L2

namespace L2
open PySem PySem.Spec PyProof.Rows
inductive Tr where
  | int (i : Int) | str (x : Str) | lst (ts : List Tr) | tup (ts : List Tr)
/-- the value stands for the tree, by what M holds -/
inductive At (K : PySem.W.Frag) (M : Hp) : Tr → V → Prop where
  | int {i : Int} : At K M (.int i) (.int i)
  | str {x : Str} : At K M (.str x) (.str x)
  | lst {ts : List Tr} {xs : List V} {a : Addr} (h : M a = some (.lst xs)) (hl : ts.length = xs.length) (hi : ∀ (i : Nat) (t : Tr) (x : V), ts[i]? = some t → xs[i]? = some x → At K M t x) : At K M (.lst ts) (.ref a)
  | tup {ts : List Tr} {xs : List V} {a : Addr} (h : SqT K M a xs) (hl : ts.length = xs.length) (hi : ∀ (i : Nat) (t : Tr) (x : V), ts[i]? = some t → xs[i]? = some x → At K M t x) : At K M (.tup ts) (.ref a)
def Ats (K : PySem.W.Frag) (M : Hp) (ts : List Tr) (xs : List V) : Prop := ts.length = xs.length ∧ ∀ (i : Nat) (t : Tr) (x : V), ts[i]? = some t → xs[i]? = some x → At K M t x
section
variable {K : PySem.W.Frag} {M M' : Hp} {ts us : List Tr} {xs ys : List V} {t : Tr} {v : V}
theorem At.mono (e : Same M M') (h : At K M t v) : At K M' t v := by
  induction h with
  | int => exact .int
  | str => exact .str
  | lst h hl _ ih => exact .lst (e _ _ h) hl ih
  | tup h hl _ ih => exact .tup (e.tup h) hl ih
theorem Ats.mono (e : Same M M') (h : Ats K M ts xs) : Ats K M' ts xs := ⟨h.1, fun i t x a b => (h.2 i t x a b).mono e⟩
theorem Ats.nil : Ats K M [] [] := ⟨rfl, fun i t x a => by simp at a⟩
theorem Ats.cons (h : At K M t v) (r : Ats K M ts xs) : Ats K M (t :: ts) (v :: xs) := ⟨by simp [r.1], fun i u x a b => by
  cases i with
  | zero => simp at a b; subst a b; exact h
  | succ i => exact r.2 i u x (by simpa using a) (by simpa using b)⟩
theorem Ats.snoc (r : Ats K M ts xs) (h : At K M t v) : Ats K M (ts ++ [t]) (xs ++ [v]) := ⟨by simp [r.1], fun i u x a b => by
  rcases Nat.lt_or_ge i ts.length with q | q
  · rw [List.getElem?_append_left q] at a
    rw [List.getElem?_append_left (by rw [← r.1]; exact q)] at b
    exact r.2 i u x a b
  · rw [List.getElem?_append_right q] at a
    rw [List.getElem?_append_right (by rw [← r.1]; exact q), ← r.1] at b
    cases hj : i - ts.length with
    | zero => rw [hj] at a b; simp at a b; subst a b; exact h
    | succ j => rw [hj] at a; simp at a⟩
theorem Ats.app (r : Ats K M ts xs) (q : Ats K M us ys) : Ats K M (ts ++ us) (xs ++ ys) := ⟨by simp [r.1, q.1], fun i u x a b => by
  rcases Nat.lt_or_ge i ts.length with z | z
  · rw [List.getElem?_append_left z] at a
    rw [List.getElem?_append_left (by rw [← r.1]; exact z)] at b
    exact r.2 i u x a b
  · rw [List.getElem?_append_right z] at a
    rw [List.getElem?_append_right (by rw [← r.1]; exact z), ← r.1] at b
    exact q.2 _ u x a b⟩
theorem Ats.set (r : Ats K M ts xs) (h : At K M t v) (j : Nat) : Ats K M (ts.set j t) (xs.set j v) := ⟨by simp [r.1], fun i u x a b => by
  rw [List.getElem?_set] at a b
  split at a
  · rename_i e
    subst e
    rw [if_pos rfl] at b
    split at a
    · rename_i z
      rw [if_pos (by rw [← r.1]; exact z)] at b
      cases a; cases b; exact h
    · cases a
  · rename_i e
    rw [if_neg e] at b
    exact r.2 i u x a b⟩
theorem Ats.get (r : Ats K M ts xs) {i : Nat} (h : ts[i]? = some t) : ∃ x, xs[i]? = some x ∧ At K M t x := by
  have hi : i < xs.length := by rw [← r.1]; exact (List.getElem?_eq_some_iff.mp h).1
  exact ⟨xs[i], List.getElem?_eq_getElem hi, r.2 i t _ h (List.getElem?_eq_getElem hi)⟩
theorem Ats.get' (r : Ats K M ts xs) {i : Nat} {x : V} (h : xs[i]? = some x) : ∃ t, ts[i]? = some t ∧ At K M t x := by
  have hi : i < ts.length := by rw [r.1]; exact (List.getElem?_eq_some_iff.mp h).1
  exact ⟨ts[i], List.getElem?_eq_getElem hi, r.2 i _ x (List.getElem?_eq_getElem hi) h⟩
theorem Ats.drop (r : Ats K M ts xs) (n : Nat) : Ats K M (ts.drop n) (xs.drop n) := ⟨by simp [r.1], fun i u x a b => by
  rw [List.getElem?_drop] at a b
  exact r.2 _ u x a b⟩
theorem Ats.take (r : Ats K M ts xs) (n : Nat) : Ats K M (ts.take n) (xs.take n) := ⟨by simp [r.1], fun i u x a b => by
  rw [List.getElem?_take] at a b
  split at a
  · rename_i z
    rw [if_pos z] at b
    exact r.2 _ u x a b
  · cases a⟩
theorem At.lst_inv (h : At K M (.lst ts) v) : ∃ a xs, v = .ref a ∧ M a = some (.lst xs) ∧ Ats K M ts xs := by
  cases h with
  | lst h hl hi => exact ⟨_, _, rfl, h, hl, hi⟩
theorem At.tup_inv (h : At K M (.tup ts) v) : ∃ a xs, v = .ref a ∧ SqT K M a xs ∧ Ats K M ts xs := by
  cases h with
  | tup h hl hi => exact ⟨_, _, rfl, h, hl, hi⟩
theorem At.int_inv {i : Int} (h : At K M (.int i) v) : v = .int i := by cases h; rfl
theorem At.str_inv {x : Str} (h : At K M (.str x) v) : v = .str x := by cases h; rfl
theorem Ats.lst {a : Addr} (r : Ats K M ts xs) (h : M a = some (.lst xs)) : At K M (.lst ts) (.ref a) := .lst h r.1 r.2
theorem Ats.tup {a : Addr} (r : Ats K M ts xs) (h : SqT K M a xs) : At K M (.tup ts) (.ref a) := .tup h r.1 r.2
theorem Ats.ints (ns : List Int) : Ats K M (ns.map Tr.int) (ns.map V.int) := ⟨by simp, fun i t x a b => by
  rw [List.getElem?_map] at a b
  cases q : ns[i]? with
  | none => rw [q] at a; cases a
  | some n => rw [q] at a b; cases a; cases b; exact .int⟩
theorem Ats.ints_inv {ns : List Int} (h : Ats K M (ns.map Tr.int) xs) : xs = ns.map V.int := by
  apply List.ext_getElem?
  intro i
  cases q : xs[i]? with
  | none =>
    have : xs.length ≤ i := List.getElem?_eq_none_iff.mp q
    exact (List.getElem?_eq_none_iff.mpr (by rw [← h.1] at this; simpa using this)).symm
  | some x =>
    obtain ⟨t, ht, a⟩ := h.get' q
    rw [List.getElem?_map] at ht ⊢
    cases z : ns[i]? with
    | none => rw [z] at ht; cases ht
    | some n => rw [z] at ht; cases ht; rw [a.int_inv]; rfl
end
/-- the heap has grown; what was not to be written again is not; what may be written stays so -/
structure Gr (M H M' H' : Hp) : Prop where
  mm : Same M M'
  mh : Same M' H'
  hh : Same H H'
  fr : ∀ p o, H p = some o → M p = none → M' p = none
section
variable {M H M1 H1 M2 H2 : Hp} {p : Addr} {o o' : HO}
theorem Gr.refl (h : Same M H) : Gr M H M H := ⟨Same.refl _, h, Same.refl _, fun _ _ _ e => e⟩
theorem Gr.trans (a : Gr M H M1 H1) (b : Gr M1 H1 M2 H2) : Gr M H M2 H2 := ⟨a.mm.trans b.mm, b.mh, a.hh.trans b.hh, fun p o e n => b.fr p o (a.hh p o e) (a.fr p o e n)⟩
/-- a new object -/
theorem Gr.new (g : Gr M H M1 H1) (e : H1 p = none) : Gr M H M1 (upd H1 p o) := ⟨g.mm, g.mh.trans (same_new e o), g.hh.trans (same_new e o), g.fr⟩
/-- one of ours is written -/
theorem Gr.put (g : Gr M H M1 H1) (e : H p = none) (n : M1 p = none) : Gr M H M1 (upd H1 p o) :=
  ⟨g.mm, fun b u q => by rw [upd_ne (ne_of_none q n)]; exact g.mh b u q, fun b u q => by rw [upd_ne (ne_of_none q e)]; exact g.hh b u q, g.fr⟩
/-- one of ours is not written again -/
theorem Gr.frz (g : Gr M H M1 H1) (e : H p = none) (n : M1 p = none) (q : H1 p = some o) : Gr M H (upd M1 p o) H1 :=
  ⟨g.mm.trans (same_new n o), fun b u z => by
      by_cases hb : b = p
      · subst hb; rw [upd_same] at z; cases z; exact q
      · rw [upd_ne hb] at z; exact g.mh b u z, g.hh, fun b u z m => by
      have hb : b ≠ p := ne_of_none z e
      rw [upd_ne hb]; exact g.fr b u z m⟩
/-- a new object that is not written again -/
theorem Gr.add (g : Gr M H M1 H1) (e : H1 p = none) : Gr M H (upd M1 p o) (upd H1 p o) :=
  (g.new e).frz (g.hh.free e) (g.mh.free e) upd_same
theorem Gr.none (g : Gr M H M1 H1) (e : H p = some o) (n : M p = none) : M1 p = none := g.fr p o e n
end
/-- the turn's word: the list under way -/
def Cw (K : PySem.W.Frag) (M H1 : Hp) (p : Addr) (F : Nat → Tr) (i : Nat) (H : Hp) : Prop := ∃ Mi ys, Gr M H1 Mi H ∧ Mi p = none ∧ H p = some (.lst ys) ∧ Ats K Mi ((List.range i).map F) ys
theorem noT {σ : St} {H : Hp} {A B : Hp → Prop} (h : A H) : tNoTest σ H (fun b H3 => if b = true then A H3 else B H3) := by
  show if true = true then A H else B H
  exact iteT h
theorem noG {i : Nat} {v : V} {σ : St} {H : Hp} {A B : St → Hp → Prop} (h : A (σ.set i (some v)) H) : gName i v σ H fun σ2 H2 => tNoTest σ2 H2 (fun b H3 => if b = true then A σ2 H3 else B σ2 H3) := noT (σ := σ.set i (some v)) (A := A (σ.set i (some v))) (B := B (σ.set i (some v))) h
section
variable {K : PySem.W.Frag} {M H1 : Hp} {p : Addr} {F : Nat → Tr}
theorem cw_start (hs : Same M H1) (hp : H1 p = none) : Cw K M H1 p F 0 (upd H1 p (.lst [])) := ⟨M, [], (Gr.refl hs).new hp, hs.free hp, upd_same, Ats.nil⟩
theorem cw_next {n i : Nat} {H H4 : Hp} {Mi M4 : Hp} {ys : List V} {y : V} (hn : n ≤ 1000) (hi : i < n) (hp : H1 p = none) (g : Gr M H1 Mi H) (mp : Mi p = none) (hy : H p = some (.lst ys)) (a : Ats K Mi ((List.range i).map F) ys) (g4 : Gr Mi H M4 H4) (t : At K M4 (F i) y) :
    ∃ ys, H4 p = some (.lst ys) ∧ ys.length < sizeLine ∧ ∃ m', m' < n - i ∧ Wc (Cw K M H1 p F) n (i + 1) m' (upd H4 p (.lst (ys ++ [y]))) := by
  have m4 : M4 p = none := g4.fr _ _ hy mp
  refine ⟨ys, g4.hh _ _ hy, small1000 ?_, n - (i + 1), by omega, hi, rfl, M4, ys ++ [y], (g.trans g4).put hp m4, m4, upd_same, ?_⟩
  · rw [← a.1]; simp; omega
  · rw [List.range_succ, List.map_append]
    exact (a.mono g4.mm).snoc t
/-- over a list that stays -/
theorem cm_list {a : Addr} {xs : List V} {js : List Nat} {σ : St} {te : TE} {G : Hp → Prop} (hs : Same M H1) (ha : M a = some (.lst xs)) (hl : xs.length ≤ 1000) (hp : H1 p = none)
    (step : ∀ i x Mi H (Qy : VK), xs[i]? = some x → Gr M H1 Mi H → (∀ y M4 H4, Gr Mi H M4 H4 → At K M4 (F i) y → Qy y H4) → te ((captN 1 js σ).set 0 (some x)) H Qy)
    (after : ∀ M' H' ys, Gr M H1 M' H' → M' p = none → H' p = some (.lst ys) → Ats K M' ((List.range xs.length).map F) ys → G H') :
    ∃ W : Nat → Nat → Hp → Prop, (∃ m, W 0 m (upd H1 p (.lst []))) ∧ ∀ i m H, W i m H → ((Itl K a).stop i H ∧ G H) ∨ ((Itl K a).go i H ∧ ∀ v H', (Itl K a).yld i H v H' → gName 0 v (captN 1 js σ) H' fun σ2 H2 => tNoTest σ2 H2 fun b H3 => if b = true then te σ2 H3 (fun y H4 => ∃ ys, H4 p = some (.lst ys) ∧ ys.length < sizeLine ∧ ∃ m', m' < m ∧ W (i + 1) m' (upd H4 p (.lst (ys ++ [y])))) else ∃ m', m' < m ∧ W (i + 1) m' H3) := by
  refine ⟨Wc (Cw K M H1 p F) xs.length, ⟨_, Nat.zero_le _, rfl, cw_start hs hp⟩, ?_⟩
  rintro i m H ⟨hi, rfl, Mi, ys, g, mp, hy, at_⟩
  have hsq : SqL K H a xs := SqL.of (g.mh _ _ (g.mm _ _ ha))
  rcases Nat.lt_or_ge i xs.length with hlt | hge
  · refine .inr ⟨⟨xs, xs[i], hsq, List.getElem?_eq_getElem hlt⟩, ?_⟩
    rintro v H' ⟨rfl, hv⟩
    refine noG ?_
    exact step i v Mi H' _ (hv xs hsq) g fun y M4 H4 g4 t => cw_next hl hlt hp g mp hy at_ g4 t
  · have : i = xs.length := by omega
    subst this
    exact .inl ⟨⟨xs, hsq, Nat.le_refl _⟩, after Mi H ys g mp hy at_⟩
theorem cm_range {lo : Int} {n : Nat} {js : List Nat} {σ : St} {te : TE} {G : Hp → Prop} (hs : Same M H1) (hl : n ≤ 1000) (hp : H1 p = none)
    (step : ∀ i Mi H (Qy : VK), i < n → Gr M H1 Mi H → (∀ y M4 H4, Gr Mi H M4 H4 → At K M4 (F i) y → Qy y H4) → te ((captN 1 js σ).set 0 (some (.int (lo + i)))) H Qy)
    (after : ∀ M' H' ys, Gr M H1 M' H' → M' p = none → H' p = some (.lst ys) → Ats K M' ((List.range n).map F) ys → G H') :
    ∃ W : Nat → Nat → Hp → Prop, (∃ m, W 0 m (upd H1 p (.lst []))) ∧ ∀ i m H, W i m H → ((Itr lo n).stop i H ∧ G H) ∨ ((Itr lo n).go i H ∧ ∀ v H', (Itr lo n).yld i H v H' → gName 0 v (captN 1 js σ) H' fun σ2 H2 => tNoTest σ2 H2 fun b H3 => if b = true then te σ2 H3 (fun y H4 => ∃ ys, H4 p = some (.lst ys) ∧ ys.length < sizeLine ∧ ∃ m', m' < m ∧ W (i + 1) m' (upd H4 p (.lst (ys ++ [y])))) else ∃ m', m' < m ∧ W (i + 1) m' H3) := by
  refine ⟨Wc (Cw K M H1 p F) n, ⟨_, Nat.zero_le _, rfl, cw_start hs hp⟩, ?_⟩
  rintro i m H ⟨hi, rfl, Mi, ys, g, mp, hy, at_⟩
  rcases Nat.lt_or_ge i n with hlt | hge
  · refine .inr ⟨hlt, ?_⟩
    rintro v H' ⟨rfl, rfl⟩
    refine noG ?_
    exact step i Mi H' _ hlt g fun y M4 H4 g4 t => cw_next hl hlt hp g mp hy at_ g4 t
  · have : i = n := by omega
    subst this
    exact .inl ⟨Nat.le_refl _, after Mi H ys g mp hy at_⟩
theorem cm_zip {a b : Addr} {xs zs : List V} {js : List Nat} {σ : St} {te : TE} {G : Hp → Prop} (hs : Same M H1) (ha : M a = some (.lst xs)) (hb : M b = some (.lst zs)) (hlz : xs.length = zs.length) (hl : xs.length ≤ 1000) (hp : H1 p = none)
    (step : ∀ i x z Mi H (Qy : VK), xs[i]? = some x → zs[i]? = some z → Gr M H1 Mi H → (∀ y M4 H4, Gr Mi H M4 H4 → At K M4 (F i) y → Qy y H4) → te (((captN 2 js σ).set 0 (some x)).set 1 (some z)) H Qy)
    (after : ∀ M' H' ys, Gr M H1 M' H' → M' p = none → H' p = some (.lst ys) → Ats K M' ((List.range xs.length).map F) ys → G H') :
    ∃ W : Nat → Nat → Hp → Prop, (∃ m, W 0 m (upd H1 p (.lst []))) ∧ ∀ i m H, W i m H → ((Itz K a b).stop i H ∧ G H) ∨ ((Itz K a b).go i H ∧ ∀ v H', (Itz K a b).yld i H v H' → gTup K 2 (gCons (gName 0) (gCons (gName 1) gNil)) v (captN 2 js σ) H' fun σ2 H2 => tNoTest σ2 H2 fun b H3 => if b = true then te σ2 H3 (fun y H4 => ∃ ys, H4 p = some (.lst ys) ∧ ys.length < sizeLine ∧ ∃ m', m' < m ∧ W (i + 1) m' (upd H4 p (.lst (ys ++ [y])))) else ∃ m', m' < m ∧ W (i + 1) m' H3) := by
  refine ⟨Wc (Cw K M H1 p F) xs.length, ⟨_, Nat.zero_le _, rfl, cw_start hs hp⟩, ?_⟩
  rintro i m H ⟨hi, rfl, Mi, ys, g, mp, hy, at_⟩
  have hsa : SqL K H a xs := SqL.of (g.mh _ _ (g.mm _ _ ha))
  have hsb : SqL K H b zs := SqL.of (g.mh _ _ (g.mm _ _ hb))
  rcases Nat.lt_or_ge i xs.length with hlt | hge
  · refine .inr ⟨⟨xs, zs, xs[i], zs[i]'(by omega), hsa, hsb, List.getElem?_eq_getElem hlt, List.getElem?_eq_getElem (by omega)⟩, ?_⟩
    rintro v H' ⟨T, x, z, hT, rfl, hx, hz, rfl⟩
    refine ⟨T, [x, z], rfl, SqT.of upd_same, rfl, x, [z], rfl, z, [], rfl, rfl, ?_⟩
    have hTp : p ≠ T := ne_of_none hy hT
    have g2 : Gr M H1 Mi (upd H T (.tup [x, z])) := g.new hT
    refine noT ?_
    exact step i x z Mi _ _ (hx xs hsa) (hz zs hsb) g2 fun y M4 H4 g4 t => cw_next hl hlt hp g2 mp (by rw [upd_ne hTp]; exact hy) at_ g4 t
  · have : i = xs.length := by omega
    subst this
    exact .inl ⟨⟨xs, zs, hsa, hsb, .inl (Nat.le_refl _)⟩, after Mi H ys g mp hy at_⟩
end
end L2

namespace PySem
open AutoSeq1
set_option maxRecDepth 8000 in
theorem extend_tuple (l : Addr) (items : Array Value) (n : Nat) (b : Addr) (items2 : Array Value) (n2 : Nat) (dd : Option Addr) (sl : Array (Option Value)) (hs0 : ¬(!items.isEmpty && Builtin.List.listTooLong (items.size + items2.size)) = true) (hs1 : items.size ≤ sizeLine) (hs2 : items.size + items2.size ≤ sizeLine + 1) :
    Meets (Builtin.«list.extend» ⟨[.ref l, .ref b], []⟩) (fun _ R s => s.heap.get? l = some { cls := .type "list", dict := none, data := .seq items n, slots := #[] } ∧ s.heap.get? b = some { cls := .type "tuple", dict := dd, data := .seq items2 n2, slots := sl } ∧ R (.ok (.ret Value.none)) { s with heap := s.heap.update l (Obj.mapSeq fun x => x ++ items2), toks := s.toks }) :=
  .of_wp fun prog w A R s h => by
    obtain ⟨hp, g, d, tk, os⟩ := s; obtain ⟨hl, hb, h⟩ := h; have f1 := idx_int; have f2 := sub_tuple_tuple; have f3 := sub_list_list; have f4 := sub_tuple_list; have f5 := sub_list_tuple;
    have hz' : (items ++ items2).size ≤ sizeLine + 1 := by rw [Array.size_append]; exact hs2
    wp_walk using (wpAny_updateSeq hl rfl (hz := hs1) (_hz' := hz')), wpAny_loadPart' hl, wpAny_loadPart' hb; exact ⟨_, rfl, h⟩
end PySem
namespace L2
open PySem PySem.Spec PyProof.Rows
section
variable {X : Cx}
/-- xs != [] -/
theorem op_neL : OpR X (compareOp .NotEq) (fun x y H Q => ∃ p q xs, x = .ref p ∧ y = .ref q ∧ SqL X.K H p xs ∧ SqL X.K H q [] ∧ X.A.units < cLine ∧ Q (.bl (!xs.isEmpty)) H) := by
  intro pins s σ H x y v u Q I rx ry h
  obtain ⟨p, q, xs, rfl, rfl, hp, hq, hu, k⟩ := h
  cases (show v = Value.ref p from rx)
  cases (show u = Value.ref q from ry)
  obtain ⟨its, r, pl, hz⟩ := I.list hp
  obtain ⟨its2, r2, pl2, _⟩ := I.list hq
  cases r2
  cases xs with
  | nil =>
    cases r
    exact SeqAt.RcNeAt.lists pl.isList pl2.isList rfl hu (e := fun _ => true) (fun j h1 => absurd h1 (by simp)) X.prog X.w X.xe _ ⟨.bl false, H, I, rfl, k⟩
  | cons x0 xr =>
    have hl := r.length
    refine SeqAt.RcNeAt.lists_lengths pl.isList pl2.isList ?_ hu X.prog X.w X.xe _ ⟨.bl true, H, I, rfl, k⟩
    cases its with
    | nil => simp at hl
    | cons a b => rfl
/-- l.extend(a tuple) -/
def rExtendT (K : PySem.W.Frag) : V → List V → Hp → VK → Prop := fun x vs H Q => ∃ l b xs zs, x = .ref l ∧ vs = [.ref b] ∧ H l = some (.lst xs) ∧ SqT K H b zs ∧ xs.length + zs.length ≤ sizeLine ∧ Q .non (upd H l (.lst (xs ++ zs)))
theorem mt_extendT : MtM X "list.extend" (rExtendT X.K) := by
  intro pins s σ H x vs v us Q I rx rv h
  obtain ⟨l, b, xs, zs, rfl, rfl, hH, hB, hz, q⟩ := h
  cases rx
  obtain ⟨u, rfl, ru⟩ := rv.one
  cases ru
  obtain ⟨z, its, n, r, hl, e⟩ := I.lstM hH
  obtain ⟨its2, r2, ⟨o2, e2, c2, n2, d2⟩, hl2⟩ := I.tuple hB
  have hl3 := r2.length
  have hsz : its.toArray.size + its2.toArray.size ≤ sizeLine := by rw [List.size_toArray, List.size_toArray]; omega
  have hlong : ¬ (!its.toArray.isEmpty && Builtin.List.listTooLong (its.toArray.size + its2.toArray.size)) = true := by
    rw [notLongL hsz, Bool.and_false]
    exact Bool.false_ne_true
  obtain ⟨cl, dd, da, sl⟩ := o2
  have c2' : cl = .type "tuple" := c2
  have d2' : da = .seq its2.toArray n2 := d2
  subst c2' d2'
  refine call_meets F.slot_list_extend ⟨_, e, rfl⟩ F.entry_list_extend (F.args_list_extend_2 _ _)
    (PySem.extend_tuple l its.toArray n b its2.toArray n2 dd sl hlong (by rw [List.size_toArray]; omega) (by omega)) ⟨e, e2, ?_⟩
  refine ⟨.non, _, I.lset (its' := its ++ its2) hH e (by simp) (r.append r2) ?_, rfl, q⟩
  rw [List.length_append]
  omega
/-- l.extend(a list or a tuple) -/
theorem MtM.or {id : String} {r r' : V → List V → Hp → VK → Prop} (h : MtM X id r) (h' : MtM X id r') : MtM X id (fun x xs H Q => r x xs H Q ∨ r' x xs H Q) := by
  intro pins s σ H x vs v us Q I rx rv hq
  rcases hq with q | q
  · exact h pins s σ H x vs v us Q I rx rv q
  · exact h' pins s σ H x vs v us Q I rx rv q
theorem mt_extendQ : MtM X "list.extend" (fun x xs H Q => rExtend x xs H Q ∨ rExtendT X.K x xs H Q) := mt_extend.or mt_extendT
end
/-- the built-in type of a value -/
inductive TyA (K : PySem.W.Frag) (H : Hp) : V → String → Prop where
  | non : TyA K H .non "NoneType"
  | bl (x : Bool) : TyA K H (.bl x) "bool"
  | int (i : Int) : TyA K H (.int i) "int"
  | str (x : Str) : TyA K H (.str x) "str"
  | lst {a : Addr} {xs : List V} (e : H a = some (.lst xs)) : TyA K H (.ref a) "list"
  | tup {a : Addr} {xs : List V} (e : SqT K H a xs) : TyA K H (.ref a) "tuple"
section
variable {X : Cx} {pins : List (Addr × Obj)} {σ : St} {H : Hp} {s : Shared}
theorem TyA.kit {x : V} {T : String} {u : Value} (ty : TyA X.K H x T) (I : Inv X pins σ H s) (rx : RelV x u) : ∃ Z, PySem.W.KitX X.K u (.type T) Z ∧ Z s.heap ∧ u ≠ .builtin "__main__.__loader__#opaque" := by
  cases ty with
  | non => cases (show u = Value.none from rx); exact ⟨_, PySem.W.kitx_none, True.intro, fun z => nomatch z⟩
  | bl y => cases (show u = Value.bool y from rx); exact ⟨_, PySem.W.kitx_bool, True.intro, fun z => nomatch z⟩
  | int i => obtain ⟨t, q⟩ := (show ∃ t, u = Value.int i t from rx); cases q; exact ⟨_, PySem.W.kitx_int, True.intro, fun z => nomatch z⟩
  | str y => obtain ⟨t, q⟩ := (show ∃ t, u = Value.str y t from rx); cases q; exact ⟨_, PySem.W.kitx_str, True.intro, fun z => nomatch z⟩
  | @lst a xs ea =>
    cases (show u = Value.ref a from rx)
    obtain ⟨_, _, n, _, h1⟩ := (show ObjOk X.prog X.w H s.heap a (.lst xs) from I.hok a _ ea)
    exact ⟨_, PySem.W.kitx_list, ⟨_, h1, rfl⟩, fun z => nomatch z⟩
  | @tup a xs ea =>
    cases (show u = Value.ref a from rx)
    obtain ⟨its, _, ⟨o, h1, h2, _⟩, _⟩ := I.tuple ea
    exact ⟨_, PySem.W.kitx_tuple, ⟨o, h1, h2⟩, fun z => nomatch z⟩
/-- isinstance(x, T) -/
theorem call_isV : CallR X (.builtin "isinstance") (fun vs H Q => ∃ x T t b, vs = [x, .ty T] ∧ TyA X.K H x t ∧ PySem.W.kitOne X.K (.type t) (.type T) = some b ∧ Q (.bl b) H) := by
  intro pins s σ H xs us Q I r h
  obtain ⟨x, T, t, b, rfl, ty, e, q⟩ := h
  obtain ⟨u, v, rfl, ru, rv⟩ := vals2 r
  cases (show v = Value.type T from rv)
  obtain ⟨Z, kx, hz, hne⟩ := ty.kit I ru
  exact PySem.W.kia_one kx I.kIn hz e hne fun tk => ⟨.bl b, H, I.tok _, rfl, q⟩
/-- isinstance(x, (T, U)) -/
theorem call_isV2 : CallR X (.builtin "isinstance") (fun vs H Q => ∃ x p T U t b, vs = [x, .ref p] ∧ H p = some (.tup [.ty T, .ty U]) ∧ TyA X.K H x t ∧ PySem.W.kitAny X.K (.type t) [.type T, .type U] = some b ∧ Q (.bl b) H) := by
  intro pins s σ H xs us Q I r h
  obtain ⟨x, p, T, U, t, b, rfl, hp, ty, e, q⟩ := h
  obtain ⟨u, v, rfl, ru, rv⟩ := vals2 r
  cases (show v = Value.ref p from rv)
  obtain ⟨Z, kx, hz, hne⟩ := ty.kit I ru
  obtain ⟨_, its, r2, ⟨o2, e2, c2, n2, d2⟩⟩ := (show ObjOk X.prog X.w H s.heap p (.tup [.ty T, .ty U]) from I.hok p _ hp)
  obtain ⟨w1, w2, rfl, r3, r4⟩ := vals2 r2
  cases (show w1 = Value.type T from r3)
  cases (show w2 = Value.type U from r4)
  obtain ⟨cl, dd, da, sl⟩ := o2
  have c2' : cl = .type "tuple" := c2
  have d2' : da = .seq [Value.type T, Value.type U].toArray n2 := d2
  subst c2' d2'
  exact PySem.W.kia_tup kx I.kIn hz e2 e hne fun tk => ⟨.bl b, H, I.tok _, rfl, q⟩
end
section
variable {K : PySem.W.Frag}
theorem kit_no {T B : String} (h : (Value.type T == Value.type B) = false) (m : PySem.W.kitMeta B = true) (f : (fastBuiltinMro T).map (·.contains (.type B)) = some false) : PySem.W.kitOne K (.type T) (.type B) = some false := by
  unfold PySem.W.kitOne
  rw [if_neg (by rw [h]; decide)]
  show (if PySem.W.kitMeta B = true then PySem.W.subIn K (.type T) (.type B) else none) = some false
  rw [if_pos m]
  exact f
theorem kn_il : PySem.W.kitOne K (.type "int") (.type "list") = some false := kit_no (by decide) (by decide +kernel) (by decide +kernel)
theorem kn_it : PySem.W.kitOne K (.type "int") (.type "tuple") = some false := kit_no (by decide) (by decide +kernel) (by decide +kernel)
theorem kn_is : PySem.W.kitOne K (.type "int") (.type "str") = some false := kit_no (by decide) (by decide +kernel) (by decide +kernel)
theorem kn_ib : PySem.W.kitOne K (.type "int") (.type "bool") = some false := kit_no (by decide) (by decide +kernel) (by decide +kernel)
theorem kn_sl : PySem.W.kitOne K (.type "str") (.type "list") = some false := kit_no (by decide) (by decide +kernel) (by decide +kernel)
theorem kn_st : PySem.W.kitOne K (.type "str") (.type "tuple") = some false := kit_no (by decide) (by decide +kernel) (by decide +kernel)
theorem kn_lt : PySem.W.kitOne K (.type "list") (.type "tuple") = some false := kit_no (by decide) (by decide +kernel) (by decide +kernel)
theorem kn_tl : PySem.W.kitOne K (.type "tuple") (.type "list") = some false := kit_no (by decide) (by decide +kernel) (by decide +kernel)
theorem any_l : PySem.W.kitAny K (.type "list") [.type "list", .type "tuple"] = some true := by
  unfold PySem.W.kitAny
  rw [kit_same]
theorem any_t : PySem.W.kitAny K (.type "tuple") [.type "list", .type "tuple"] = some true := by
  unfold PySem.W.kitAny
  rw [kn_tl]
  unfold PySem.W.kitAny
  rw [kit_same]
theorem any_i : PySem.W.kitAny K (.type "int") [.type "list", .type "tuple"] = some false := by
  unfold PySem.W.kitAny
  rw [kn_il]
  unfold PySem.W.kitAny
  rw [kn_it]
  rfl
theorem any_s : PySem.W.kitAny K (.type "str") [.type "list", .type "tuple"] = some false := by
  unfold PySem.W.kitAny
  rw [kn_sl]
  unfold PySem.W.kitAny
  rw [kn_st]
  rfl
theorem bt_list : bootBuiltins "list" = some (.type "list") := by decide +kernel
end
end L2

namespace L2
open PySem PySem.Spec PyProof.Rows
section
variable {X : Cx} {scope : Scope} {nt : Nat} {Nb : List Str} {js : List Nat}
theorem ps_compG {elt iter tg : Expr} {y : Str} {py spos : Pos} {iy : Nat} {ifs : List Expr} {pos : Pos} {wi : TI} {g : TG} {tc : TT} {te : TE} (hN : X.N.Nodup) (hiy : X.N[iy]? = some y) (hly : Loc X.env.scope y) (hc : X.calm = true) (S : CompT X scope nt Nb js) (hi : PI X tg iter wi)
    (hg : ∀ (C : Addr) (s0 : Shared) (H0 : Hp) (fp : List Addr) (pn' : List (Addr × Obj)), PG (X.blk scope C Nb s0 H0 fp pn') tg g) (ho : Own nt g)
    (ht : ∀ (C : Addr) (s0 : Shared) (H0 : Hp) (fp : List Addr) (pn' : List (Addr × Obj)), PTs (X.blk scope C Nb s0 H0 fp pn') ifs tc)
    (he : ∀ (C : Addr) (s0 : Shared) (H0 : Hp) (fp : List Addr) (pn' : List (Addr × Obj)), PE (X.blk scope C Nb s0 H0 fp pn') elt te)
    (hs : ∀ v, foldedSetIterable iter X.env v = pure v := by intro _; rfl)
    (hsw : swapsWith (.ListComp elt [⟨tg, iter, ifs, 0⟩] scope pos) (some (.Name y py)) spos.line X.env = pure true := by rfl)
    (hf : X.fn y = true ∨ X.env.scope.names.lookup y = some .local := by first | exact .inl rfl | exact .inr rfl | assumption) :
    PS X (.Assign [.Name y py] (.ListComp elt [⟨tg, iter, ifs, 0⟩] scope pos) spos) (tAsg (tCompG nt js wi g tc te) (gName iy)) := by
  intro pins s σ H D I h
  rw [exec_Assign_Name_used _ _ _ _ hsw]
  refine wpAny_bind (wpAny_standAt (wpAny_bind ?_))
  show wpAny _ _ (do let _ ← comprehension (.ListComp elt [⟨tg, iter, ifs, 0⟩] scope pos) scope X.env _ (newList []) false (eval iter X.env) (some (assign (.Name y py) X.env))) _ _ s
  refine wpAny_bind (wpAny_mono (wpAny_comprehension_free (use := some (assign (.Name y py) X.env)) (Q := fun _ s' => SP X pins D .next s') rfl hs S.clos S.kind S.loc (thn (hi pins s σ H _ I h) fun v s1 h1 => thn h1 fun itv s2 h2 => ?_))
    (fun _ s' hq => wpAny_pure (wpAny_pure hq)) fun _ _ e => e)
  obtain ⟨it, fp, tn, J, H2, e, I2, T, st2, f2, r2⟩ := h2
  subst e
  have hp0 : H2 s2.heap.objs.size = none := I2.hok.fresh (Nat.le_refl _)
  obtain ⟨W, ⟨m0, w0⟩, turn⟩ := r2 s2.heap.objs.size hp0
  unfold newList
  refine wpAny_newObj_type ?_
  have I3 : Inv X pins σ (upd H2 s2.heap.objs.size (.lst [])) { s2 with heap := s2.heap.push { cls := .type "list", dict := none, data := .seq ([] : List Value).toArray } } :=
    I2.laid (t' := s2.toks) (fun b u e => Heap.get?_push_of_some _ e) (Nat.le_refl _) ⟨by show 0 ≤ sizeLine; decide, [], 0, .nil, Heap.get?_push_size _ rfl⟩
  generalize hs3 : ({ s2 with heap := s2.heap.push { cls := .type "list", dict := none, data := .seq ([] : List Value).toArray } } : Shared) = s3 at I3 ⊢
  have lt3 : ∀ b o, s2.heap.get? b = some o → s3.heap.get? b = some o := fun b o e => by rw [← hs3]; exact Heap.get?_push_of_some _ e
  have fpN : ∀ b ∈ fp, b < s2.heap.objs.size := fun b hb => by obtain ⟨o, e, _⟩ := T.obj _ _ st2 b hb; exact Heap.lt_size e
  have f3 : ∀ b ∈ fp, FpOk X pins (upd H2 s2.heap.objs.size (.lst [])) b := fun b hb => ⟨by rw [upd_ne (Nat.ne_of_lt (fpN b hb))]; exact (f2 b hb).1, (f2 b hb).2⟩
  have fp3 : ∀ b ∈ fp, b < s3.heap.objs.size := fun b hb => by obtain ⟨o, e, _⟩ := T.obj _ _ st2 b hb; exact Heap.lt_size (lt3 b o e)
  have st3 : tn 0 s3.heap := T.keep _ _ _ st2 fun b _ o e => lt3 b o e
  refine wpAny_newFunctionEnv S.cell (by intro y hy; cases hy) (fun h4 ns4 sb4 => ?_) S.kind
  have kp4 : ∀ b o, s3.heap.get? b = some o → h4.get? b = some o := fun b o e => (sb4.2 b (Nat.ne_of_lt (Heap.lt_size e))).trans (Heap.get?_push_of_some _ e)
  have I4 : Inv (X.blk scope s3.heap.objs.size Nb s3 (upd H2 s2.heap.objs.size (.lst [])) fp (X.pn ++ pins)) [] (captN nt js σ) (upd H2 s2.heap.objs.size (.lst [])) { s3 with heap := h4, toks := s3.toks + ([] : List (Str × Value)).length } := I3.blockG S f3 fp3 ns4 kp4
  have st4 : tn 0 h4 := T.keep _ _ _ st3 fun b _ o e => kp4 b o e
  have stat : ∀ {H' : Hp}, (∀ b ∈ fp, H' b = none) → ∀ b ∈ fp, FpOk (X.blk scope s3.heap.objs.size Nb s3 (upd H2 s2.heap.objs.size (.lst [])) fp (X.pn ++ pins)) [] H' b := fun {H'} hn b hb => by
    obtain ⟨_, g1, g2, g3, g4, g5⟩ := f3 b hb
    refine ⟨hn b hb, Nat.ne_of_lt (fp3 b hb), fun z => ?_, .inl hb, fun y c e => g4 y c (S.cells I.ok y c e), fun p hp => g5 p (by simpa using hp)⟩
    rcases List.mem_cons.mp (I3.stkSub b z) with w1 | w1
    · exact g1 w1
    · exact g2 w1
  have loop : codeAny (model X.prog X.w) X.A (.compLoop (.ListComp elt [⟨tg, iter, ifs, 0⟩] scope pos) 0 (.ref it) (.ref s2.heap.objs.size) (compEnvC scope (clOf X.env scope.names []) s3.heap.objs.size X.env))
      (compPost (model X.prog X.w) X.A X.xe (some (assign (.Name y py) X.env)) (fun _ s' => SP X pins D .next s') (.ref s2.heap.objs.size) s3.heap.objs.size) { s3 with heap := h4, toks := s3.toks + ([] : List (Str × Value)).length } := by
    refine comp_loopG (fun n s' => ∃ i H', Inv (X.blk scope s3.heap.objs.size Nb s3 (upd H2 s2.heap.objs.size (.lst [])) fp (X.pn ++ pins)) [] (captN nt js σ) H' s' ∧ tn i s'.heap ∧ (∀ b ∈ fp, H' b = none) ∧ W i n H') ?_ m0 ⟨0, _, I4, st4, fun b hb => (f3 b hb).1, w0⟩
    rintro n s5 ⟨i, H5, I5, st5, fr5, w5⟩
    rcases turn i n H5 w5 with ⟨stop, q⟩ | ⟨go, step⟩
    · refine (thn (T.done (X.blk scope s3.heap.objs.size Nb s3 (upd H2 s2.heap.objs.size (.lst [])) fp (X.pn ++ pins)) rfl rfl rfl hc i [] s5 (captN nt js σ) H5 (fun _ _ => False) I5 (stat fr5) st5 stop) fun r s6 ⟨hr, I6⟩ => ?_)
      subst hr
      obtain ⟨m, hn, _⟩ := id I6.loc
      have J6 : Inv X pins σ H5 s6 := I3.unblock (h2 := s6.heap) f3 rfl I6 (Heap.SameBut.refl _ _)
      have frC : H5 s3.heap.objs.size = none := I6.free
      have fpC := I3.fpOk (Nat.le_refl _) frC
      refine wpAny_assign_Name (store_ok2 J6 hN hiy hly (v := .ref s2.heap.objs.size) rfl (fun s7 J7 ⟨a7, sb7, ha7⟩ => ?_) hf)
      have hne : s3.heap.objs.size ≠ a7 := by
        rcases ha7 with z | z
        · rw [z]; exact fpC.2.1
        · exact (fpC.2.2.2.2.1 _ _ z).symm
      exact ⟨m, hn.sameBut sb7 hne, fun h8 sb8 => ⟨_, H5, J7.turnedL (t' := s7.toks) (ch := [s3.heap.objs.size]) (fun b o hb e => sb8.extBut _ _ (fun z => hb (by simp [z])) e) (fun b hb => by
        have e : b = s3.heap.objs.size := by simpa using hb
        rw [e]
        exact fpC), q⟩⟩
    · refine (thn (T.item (X.blk scope s3.heap.objs.size Nb s3 (upd H2 s2.heap.objs.size (.lst [])) fp (X.pn ++ pins)) rfl rfl rfl hc i [] s5 (captN nt js σ) H5 (fun _ _ => False) I5 (stat fr5) st5 go) fun r s6 ⟨u, hr, h6⟩ => ?_)
      subst hr
      refine thn h6 fun _ s7 ⟨v7, H7, I7, r7, y7, st7, fr7⟩ => ?_
      have I7' := I7.pinned (stat fr7) (T.obj _ _ st7)
      refine thn (hg s3.heap.objs.size s3 _ fp (X.pn ++ pins) _ s7 _ H7 v7 u _ I7' r7 (ho js σ v7 H7 _ (step v7 H7 y7))) fun _ s8 ⟨σ8, H8, I8, q8, k8⟩ => ?_
      refine thn (ht s3.heap.objs.size s3 _ fp (X.pn ++ pins) _ s8 σ8 H8 _ I8 q8) fun ok s9 ⟨H9, I9, q9⟩ => ?_
      have back : ∀ {H10 : Hp} {s10 : Shared} {m' : Nat}, Inv (X.blk scope s3.heap.objs.size Nb s3 (upd H2 s2.heap.objs.size (.lst [])) fp (X.pn ++ pins)) ([] ++ pinsAt fp s7.heap) σ8 H10 s10 → m' < n → W (i + 1) m' H10 → ∃ m, m < n ∧ ∃ i H', Inv (X.blk scope s3.heap.objs.size Nb s3 (upd H2 s2.heap.objs.size (.lst [])) fp (X.pn ++ pins)) [] (captN nt js σ) H' s10 ∧ tn i s10.heap ∧ (∀ b ∈ fp, H' b = none) ∧ W i m H' := fun {H10 s10 m'} I10 hm w10 => by
        refine ⟨m', hm, i + 1, _, (I10.weak k8.1.symm k8.2).unpinned, T.keep _ _ _ st7 fun b hb o e => (I10.pin (b, o) (List.mem_append_right _ (List.mem_append_right _ (mem_pinsAt hb e)))).1, fun b hb => ?_, w10⟩
        obtain ⟨o, e, d⟩ := T.obj _ _ st7 b hb
        exact (I10.pin (b, o) (List.mem_append_right _ (List.mem_append_right _ (mem_pinsAt hb e)))).2.1
      cases ok with
      | false =>
        obtain ⟨m', hm, w9⟩ := q9
        exact back I9 hm w9
      | true =>
        refine thn (he s3.heap.objs.size s3 _ fp (X.pn ++ pins) _ s9 _ H9 _ I9 q9) fun y s10 ⟨yv, H10, I10, ry, ys, hy, hz, m', hm, w10⟩ => ?_
        refine thn (mt_append (X := X.blk scope s3.heap.objs.size Nb s3 (upd H2 s2.heap.objs.size (.lst [])) fp (X.pn ++ pins)) _ s10 _ H10 (.ref s2.heap.objs.size) [yv] (.ref s2.heap.objs.size) [y] (fun _ Hn => Hn = upd H10 s2.heap.objs.size (.lst (ys ++ [yv]))) I10 rfl (.cons ry .nil) ⟨s2.heap.objs.size, ys, yv, rfl, rfl, hy, hz, rfl⟩) fun _ s11 ⟨_, H11, I11, _, e11⟩ => ?_
        subst e11
        exact back I11 hm w10
  exact codeAny_compStart_list loop (T.self _ 0 _ _ _ st4 loop)
end
theorem nd_of {l : List Str} (h : l.Nodup) : l.Nodup := h
end L2

namespace SH
def dot : List Rat → List Rat → Rat
  | a :: l, b :: v => a * b + dot l v
  | _, _ => 0
theorem dot_nil_l (v : List Rat) : dot [] v = 0 := by cases v <;> rfl
theorem dot_nil_r (l : List Rat) : dot l [] = 0 := by cases l <;> rfl
theorem dot_cons (a b : Rat) (l v : List Rat) : dot (a :: l) (b :: v) = a * b + dot l v := rfl
theorem dot_set_r : ∀ (l v : List Rat) (p : Nat) (a b y : Rat), l[p]? = some a → v[p]? = some b → dot l (v.set p y) = dot l v + a * (y - b)
  | [], _, _, _, _, _, h, _ => by simp at h
  | _ :: _, [], _, _, _, _, _, h => by simp at h
  | c :: l, d :: v, 0, a, b, y, h1, h2 => by
    simp at h1 h2; subst h1 h2
    show c * y + dot l v = c * d + dot l v + c * (y - d)
    grind
  | c :: l, d :: v, p + 1, a, b, y, h1, h2 => by
    have ih := dot_set_r l v p a b y (by simpa using h1) (by simpa using h2)
    show c * d + dot l (v.set p y) = c * d + dot l v + a * (y - b)
    rw [ih]; grind
theorem dot_set_l : ∀ (l v : List Rat) (p : Nat) (a b y : Rat), l[p]? = some a → v[p]? = some b → dot (l.set p y) v = dot l v + (y - a) * b
  | [], _, _, _, _, _, h, _ => by simp at h
  | _ :: _, [], _, _, _, _, _, h => by simp at h
  | c :: l, d :: v, 0, a, b, y, h1, h2 => by
    simp at h1 h2; subst h1 h2
    show y * d + dot l v = c * d + dot l v + (y - c) * d
    grind
  | c :: l, d :: v, p + 1, a, b, y, h1, h2 => by
    have ih := dot_set_l l v p a b y (by simpa using h1) (by simpa using h2)
    show c * d + dot (l.set p y) v = c * d + dot l v + (y - a) * b
    rw [ih]; grind
theorem dot_scale (c : Rat) : ∀ (l v : List Rat), dot (l.map fun x => c * x) v = c * dot l v
  | [], v => by rw [List.map_nil, dot_nil_l]; grind
  | _ :: _, [] => by rw [dot_nil_r, dot_nil_r]; grind
  | a :: l, b :: v => by
    show c * a * b + dot (l.map fun x => c * x) v = c * (a * b + dot l v)
    rw [dot_scale c l v]; grind
theorem dot_comb (c : Rat) : ∀ (l t v : List Rat), l.length = t.length → dot (List.zipWith (fun a b => a + c * b) l t) v = dot l v + c * dot t v
  | [], [], v, _ => by rw [List.zipWith_nil_left, dot_nil_l]; grind
  | a :: l, b :: t, [], _ => by rw [dot_nil_r, dot_nil_r, dot_nil_r]; grind
  | a :: l, b :: t, d :: v, h => by
    show (a + c * b) * d + dot (List.zipWith (fun a b => a + c * b) l t) v = a * d + dot l v + c * (b * d + dot t v)
    rw [dot_comb c l t v (by simpa using h)]; grind
  | [], _ :: _, _, h => by simp at h
  | _ :: _, [], _, h => by simp at h
theorem dot_zero : ∀ (l : List Rat) (n : Nat), dot l (List.replicate n 0) = 0
  | [], n => dot_nil_l _
  | _ :: _, 0 => dot_nil_r _
  | a :: l, n + 1 => by
    show a * 0 + dot l (List.replicate n 0) = 0
    rw [dot_zero l n]; grind
theorem dot_unit {l : List Rat} {n p : Nat} {a : Rat} (h : l[p]? = some a) (hp : p < n) : dot l ((List.replicate n 0).set p 1) = a := by
  rw [dot_set_r l _ p a 0 1 h (by rw [List.getElem?_replicate, if_pos hp]), dot_zero]
  grind
def told (l : List Rat) (p : Nat) : List Rat := (l.map fun x => x / -(l.getD p 0)).set p (1 / l.getD p 0)
def putIn (l : List Rat) (p : Nat) (t : List Rat) : List Rat := (List.zipWith (fun a b => a + l.getD p 0 * b) l t).set p (l.getD p 0 * t.getD p 0)
theorem getD_of {l : List Rat} {p : Nat} {a : Rat} (h : l[p]? = some a) : l.getD p 0 = a := by simp [List.getD, h]
theorem told_len (l : List Rat) (p : Nat) : (told l p).length = l.length := by simp [told]
theorem putIn_len (l : List Rat) (p : Nat) (t : List Rat) (h : l.length = t.length) : (putIn l p t).length = l.length := by simp [putIn, h]
theorem map_get {l : List Rat} {p : Nat} {a : Rat} (f : Rat → Rat) (h : l[p]? = some a) : (l.map f)[p]? = some (f a) := by rw [List.getElem?_map, h]; rfl
theorem dot_map_div (c : Rat) (l v : List Rat) : dot (l.map fun x => x / c) v = dot l v / c := by
  have h := dot_scale (c⁻¹) l v
  have e : (l.map fun x => x / c) = l.map fun x => c⁻¹ * x := List.map_congr_left fun x _ => by rw [Rat.div_def, Rat.mul_comm]
  rw [e, h, Rat.div_def, Rat.mul_comm]
theorem dot_told {l v : List Rat} {p : Nat} {a y : Rat} (h : l[p]? = some a) (ha : a ≠ 0) (hv : v[p]? = some y) : dot (told l p) v = -(dot l v / a) + (1 / a + 1) * y := by
  unfold told
  rw [getD_of h, dot_set_l _ v p (a / -a) y (1 / a) (map_get (fun x => x / -a) h) hv, dot_map_div]
  grind
/-- the row is solved for the outer unknown -/
theorem told_at {l v : List Rat} {p : Nat} {a b y : Rat} (h : l[p]? = some a) (ha : a ≠ 0) (hv : v[p]? = some b) (hy : y = dot l v) : dot (told l p) (v.set p y) = b := by
  have hp : p < v.length := (List.getElem?_eq_some_iff.mp hv).1
  rw [dot_told h ha (y := y) (by simp [List.getElem?_set, hp]), dot_set_r l v p a b y h hv, ← hy]
  grind
/-- and back -/
theorem told_back {l v : List Rat} {p : Nat} {a y : Rat} (h : l[p]? = some a) (ha : a ≠ 0) (hv : v[p]? = some y) : dot l (v.set p (dot (told l p) v)) = y := by
  rw [dot_set_r l v p a y _ h hv, dot_told h ha hv]
  grind
theorem put_at {l t v : List Rat} {p : Nat} {c d y : Rat} (h : l[p]? = some c) (hd : t[p]? = some d) (hl : l.length = t.length) (hv : v[p]? = some y) : dot (putIn l p t) v = dot l v + c * dot t v - c * y := by
  unfold putIn
  rw [getD_of h, getD_of hd, dot_set_l _ v p (c + c * d) y (c * d) (by rw [List.getElem?_zipWith, h, hd]) hv, dot_comb c l t v hl]
  grind
/-- what comes of it put in -/
theorem put_same {l t v : List Rat} {p : Nat} {c d b y : Rat} (h : l[p]? = some c) (hd : t[p]? = some d) (hl : l.length = t.length) (hv : v[p]? = some b) (ht : dot t (v.set p y) = b) : dot (putIn l p t) (v.set p y) = dot l v := by
  have hp : p < v.length := (List.getElem?_eq_some_iff.mp hv).1
  rw [put_at h hd hl (y := y) (by simp [List.getElem?_set, hp]), ht, dot_set_r l v p c b y h hv]
  grind
structure Sh where
  inn : List Int
  out : List Int
  ln : List (List Rat)
  gl : List Rat
def Sh.exch (s : Sh) (r p : Nat) : Sh :=
  let t := told (s.ln.getD r []) p
  ⟨s.inn.set r (s.out.getD p 0), s.out.set p (s.inn.getD r 0), (s.ln.map fun l => putIn l p t).set r t, putIn s.gl p t⟩
/-- each unknown stands once -/
structure Un (a b : List Int) : Prop where
  l : ∀ (i j : Nat) (u : Int), a[i]? = some u → a[j]? = some u → i = j
  r : ∀ (i j : Nat) (u : Int), b[i]? = some u → b[j]? = some u → i = j
  x : ∀ (i j : Nat) (u : Int), a[i]? = some u → b[j]? = some u → False
structure Sh.Ok (s : Sh) : Prop where
  ln : s.ln.length = s.inn.length
  wd : ∀ l ∈ s.ln, l.length = s.out.length + 1
  gl : s.gl.length = s.out.length + 1
  un : Un s.inn s.out
/-- numbers x of the unknowns, a unit g and a goal f that fit -/
def Sh.vec (s : Sh) (x : Int → Rat) (g : Rat) : List Rat := s.out.map x ++ [g]
structure Sh.Fit (s : Sh) (x : Int → Rat) (g f : Rat) : Prop where
  row : ∀ (i : Nat) (u : Int) (l : List Rat), s.inn[i]? = some u → s.ln[i]? = some l → x u = dot l (s.vec x g)
  gol : f = dot s.gl (s.vec x g)
theorem get_set {α : Type} {l : List α} {r i : Nat} {v u : α} (h : (l.set r v)[i]? = some u) : (i = r ∧ u = v) ∨ (i ≠ r ∧ l[i]? = some u) := by
  rw [List.getElem?_set] at h
  split at h
  · split at h
    · exact .inl ⟨by omega, (Option.some.inj h).symm⟩
    · cases h
  · exact .inr ⟨by omega, h⟩
theorem Un.swap {a b : List Int} {r p : Nat} {u v : Int} (n : Un a b) (hu : a[r]? = some u) (hv : b[p]? = some v) : Un (a.set r v) (b.set p u) := by
  refine ⟨fun i j w h1 h2 => ?_, fun i j w h1 h2 => ?_, fun i j w h1 h2 => ?_⟩
  · rcases get_set h1 with ⟨e1, e2⟩ | ⟨e1, e2⟩ <;> rcases get_set h2 with ⟨f1, f2⟩ | ⟨f1, f2⟩
    · omega
    · subst e2; exact (n.x _ _ _ f2 hv).elim
    · subst f2; exact (n.x _ _ _ e2 hv).elim
    · exact n.l _ _ _ e2 f2
  · rcases get_set h1 with ⟨e1, e2⟩ | ⟨e1, e2⟩ <;> rcases get_set h2 with ⟨f1, f2⟩ | ⟨f1, f2⟩
    · omega
    · subst e2; exact (n.x _ _ _ hu f2).elim
    · subst f2; exact (n.x _ _ _ hu e2).elim
    · exact n.r _ _ _ e2 f2
  · rcases get_set h1 with ⟨e1, e2⟩ | ⟨e1, e2⟩ <;> rcases get_set h2 with ⟨f1, f2⟩ | ⟨f1, f2⟩
    · subst e2 f2; exact n.x _ _ _ hu hv
    · subst e2; exact f1 (n.r _ _ _ f2 hv)
    · subst f2; exact e1 (n.l _ _ _ e2 hu)
    · exact n.x _ _ _ e2 f2
/-- a place where unknowns can change -/
structure Sh.At (s : Sh) (r p : Nat) (u v : Int) (l : List Rat) (a : Rat) : Prop where
  hu : s.inn[r]? = some u
  hv : s.out[p]? = some v
  hl : s.ln[r]? = some l
  ha : l[p]? = some a
  nz : a ≠ 0
theorem Sh.Ok.at_ {s : Sh} (o : s.Ok) {r p : Nat} (hr : r < s.inn.length) (hp : p < s.out.length) (h : (s.ln.getD r []).getD p 0 ≠ 0) : ∃ u v l a, s.At r p u v l a := by
  have hl : r < s.ln.length := by rw [o.ln]; exact hr
  have hw := o.wd s.ln[r] (List.getElem_mem hl)
  refine ⟨s.inn[r], s.out[p], s.ln[r], s.ln[r][p]'(by omega), List.getElem?_eq_getElem hr, List.getElem?_eq_getElem hp, List.getElem?_eq_getElem hl, List.getElem?_eq_getElem (by omega), ?_⟩
  have e1 : s.ln.getD r [] = s.ln[r] := by simp [List.getD, List.getElem?_eq_getElem hl]
  rw [e1] at h
  have e2 : s.ln[r].getD p 0 = s.ln[r][p]'(by omega) := getD_of (List.getElem?_eq_getElem (by omega))
  rw [e2] at h
  exact h
theorem gD {α : Type} {l : List α} {i : Nat} {a d : α} (h : l[i]? = some a) : l.getD i d = a := by simp [List.getD, h]
section
variable {s : Sh} {r p : Nat} {u v : Int} {l : List Rat} {a : Rat}
theorem Sh.exch_eq (h : s.At r p u v l a) : s.exch r p = ⟨s.inn.set r v, s.out.set p u, (s.ln.map fun l' => putIn l' p (told l p)).set r (told l p), putIn s.gl p (told l p)⟩ := by
  unfold Sh.exch
  simp only [gD h.hl, gD h.hv, gD h.hu]
theorem Sh.Ok.exch (o : s.Ok) (h : s.At r p u v l a) : (s.exch r p).Ok := by
  rw [Sh.exch_eq h]
  have hl := o.wd l (List.mem_of_getElem? h.hl)
  refine ⟨by simp [o.ln], fun l' hl' => ?_, ?_, o.un.swap h.hu h.hv⟩
  · show l'.length = (s.out.set p u).length + 1
    rw [List.length_set]
    rcases List.mem_or_eq_of_mem_set hl' with hm | hm
    · obtain ⟨k, hk, rfl⟩ := List.mem_map.mp hm
      rw [putIn_len _ _ _ (by rw [told_len, hl, o.wd k hk])]
      exact o.wd k hk
    · rw [hm, told_len, hl]
  · show (putIn s.gl p (told l p)).length = (s.out.set p u).length + 1
    rw [List.length_set, putIn_len _ _ _ (by rw [told_len, hl, o.gl]), o.gl]
theorem Sh.vec_exch (h : s.At r p u v l a) (x : Int → Rat) (g : Rat) : (s.exch r p).vec x g = (s.vec x g).set p (x u) := by
  rw [Sh.exch_eq h]
  have hp : p < (s.out.map x).length := by rw [List.length_map]; exact (List.getElem?_eq_some_iff.mp h.hv).1
  show (s.out.set p u).map x ++ [g] = (s.out.map x ++ [g]).set p (x u)
  rw [List.set_append_left _ _ hp, List.map_set]
theorem Sh.vec_get (h : s.out[p]? = some v) (x : Int → Rat) (g : Rat) : (s.vec x g)[p]? = some (x v) := by
  have hp : p < (s.out.map x).length := by rw [List.length_map]; exact (List.getElem?_eq_some_iff.mp h).1
  show (s.out.map x ++ [g])[p]? = _
  rw [List.getElem?_append_left hp, List.getElem?_map, h]
  rfl
theorem Sh.put_same (o : s.Ok) (h : s.At r p u v l a) {x : Int → Rat} {g : Rat} (ht : x v = dot (told l p) ((s.vec x g).set p (x u))) {k : List Rat} (hk : k.length = s.out.length + 1) : dot (putIn k p (told l p)) ((s.vec x g).set p (x u)) = dot k (s.vec x g) := by
  have hl := o.wd l (List.mem_of_getElem? h.hl)
  have hp : p < s.out.length := (List.getElem?_eq_some_iff.mp h.hv).1
  exact SH.put_same (c := k[p]'(by omega)) (d := (told l p)[p]'(by rw [told_len]; omega)) (List.getElem?_eq_getElem (by omega)) (List.getElem?_eq_getElem (by rw [told_len]; omega)) (by rw [told_len]; omega) (Sh.vec_get h.hv x g) ht.symm
theorem Sh.Fit.exch (o : s.Ok) (h : s.At r p u v l a) {x : Int → Rat} {g f : Rat} (ft : s.Fit x g f) : (s.exch r p).Fit x g f := by
  have hv := Sh.vec_get h.hv x g
  have ht : x v = dot (told l p) ((s.vec x g).set p (x u)) := (told_at h.ha h.nz hv (ft.row r u l h.hu h.hl)).symm
  have ev := Sh.vec_exch h x g
  refine ⟨fun i w k h1 h2 => ?_, ?_⟩
  · rw [ev]
    rw [Sh.exch_eq h] at h1 h2
    rcases get_set h1 with ⟨e1, e2⟩ | ⟨e1, e2⟩ <;> rcases get_set h2 with ⟨f1, f2⟩ | ⟨f1, f2⟩
    · subst e2 f2; exact ht
    · exact absurd e1 f1
    · exact absurd f1 e1
    · rw [List.getElem?_map] at f2
      cases hq : s.ln[i]? with
      | none => rw [hq] at f2; cases f2
      | some k0 =>
        rw [hq] at f2
        cases f2
        rw [Sh.put_same o h ht (o.wd k0 (List.mem_of_getElem? hq))]
        exact ft.row i w k0 e2 hq
  · rw [ev, Sh.exch_eq h]
    rw [Sh.put_same o h ht o.gl]
    exact ft.gol
theorem Sh.Fit.unexch (o : s.Ok) (h : s.At r p u v l a) {x : Int → Rat} {g f : Rat} (ft : (s.exch r p).Fit x g f) : s.Fit x g f := by
  have hv := Sh.vec_get h.hv x g
  have hp : p < (s.vec x g).length := (List.getElem?_eq_some_iff.mp hv).1
  have ev := Sh.vec_exch h x g
  have hr : r < s.inn.length := (List.getElem?_eq_some_iff.mp h.hu).1
  have ht : x v = dot (told l p) ((s.vec x g).set p (x u)) := by
    rw [← ev]
    refine ft.row r v (told l p) ?_ ?_
    · rw [Sh.exch_eq h]; simp [hr]
    · rw [Sh.exch_eq h]; simp [o.ln, hr]
  have hb : dot l (s.vec x g) = x u := by
    have hx := told_back (v := (s.vec x g).set p (x u)) h.ha h.nz (y := x u) (by simp [hp])
    rw [← ht, List.set_set] at hx
    have e : (s.vec x g).set p (x v) = s.vec x g := by
      apply List.ext_getElem?
      intro i
      rw [List.getElem?_set]
      split
      · rename_i e; subst e; rw [hv]
      · rfl
    rw [e] at hx
    exact hx
  refine ⟨fun i w k h1 h2 => ?_, ?_⟩
  · by_cases hi : i = r
    · subst hi
      have ew : w = u := Option.some.inj (h1.symm.trans h.hu)
      have ek : k = l := Option.some.inj (h2.symm.trans h.hl)
      subst ew ek
      exact hb.symm
    · have := ft.row i w (putIn k p (told l p)) (by rw [Sh.exch_eq h]; simp [List.getElem?_set, Ne.symm hi, h1]) (by rw [Sh.exch_eq h]; simp [List.getElem?_set, Ne.symm hi, h2])
      rw [ev, Sh.put_same o h ht (o.wd k (List.mem_of_getElem? h2))] at this
      exact this
  · have := ft.gol
    rw [ev, Sh.exch_eq h] at this
    rw [← Sh.put_same o h ht o.gl]
    exact this
end
def idx : List Int → Int → Option Nat
  | [], _ => none
  | a :: l, u => if a = u then some 0 else (idx l u).map (· + 1)
theorem idx_some : ∀ {l : List Int} {u : Int} {i : Nat}, idx l u = some i → l[i]? = some u
  | [], _, _, h => by cases h
  | a :: l, u, i, h => by
    unfold idx at h
    split at h
    · rename_i e; cases h; rw [e]; rfl
    · cases hq : idx l u with
      | none => rw [hq] at h; cases h
      | some j => rw [hq] at h; cases h; exact idx_some (l := l) hq
theorem idx_none : ∀ {l : List Int} {u : Int} {i : Nat}, idx l u = none → l[i]? ≠ some u
  | [], _, _, _ => by simp
  | a :: l, u, i, h => by
    unfold idx at h
    split at h
    · cases h
    · rename_i e
      have hq : idx l u = none := by cases hq : idx l u with | none => rfl | some j => rw [hq] at h; cases h
      cases i with
      | zero => intro z; exact e (Option.some.inj z)
      | succ i => exact idx_none (l := l) hq
def Sh.num (s : Sh) (w : List Rat) (g : Rat) : Int → Rat := fun n => match idx s.out n with
  | some j => w.getD j 0
  | none => match idx s.inn n with
    | some i => dot (s.ln.getD i []) (w ++ [g])
    | none => 0
theorem Sh.num_out {s : Sh} (o : s.Ok) {w : List Rat} {g : Rat} {j : Nat} {v : Int} (h : s.out[j]? = some v) : s.num w g v = w.getD j 0 := by
  unfold Sh.num
  cases hq : idx s.out v with
  | none => exact absurd h (idx_none hq)
  | some k => rw [o.un.r _ _ _ (idx_some hq) h]
theorem Sh.num_inn {s : Sh} (o : s.Ok) {w : List Rat} {g : Rat} {i : Nat} {u : Int} {l : List Rat} (h : s.inn[i]? = some u) (hl : s.ln[i]? = some l) : s.num w g u = dot l (w ++ [g]) := by
  unfold Sh.num
  cases hq : idx s.out u with
  | some k => exact (o.un.x _ _ _ h (idx_some hq)).elim
  | none =>
    cases hk : idx s.inn u with
    | none => exact absurd h (idx_none hk)
    | some k =>
      have e := o.un.l _ _ _ (idx_some hk) h
      subst e
      show dot (s.ln.getD k []) (w ++ [g]) = _
      rw [gD hl]
theorem Sh.num_vec {s : Sh} (o : s.Ok) {w : List Rat} {g : Rat} (hw : w.length = s.out.length) : s.vec (s.num w g) g = w ++ [g] := by
  unfold Sh.vec
  congr 1
  apply List.ext_getElem?
  intro i
  rw [List.getElem?_map]
  cases hq : s.out[i]? with
  | none =>
    have : s.out.length ≤ i := List.getElem?_eq_none_iff.mp hq
    exact (List.getElem?_eq_none_iff.mpr (by omega)).symm
  | some v =>
    have hi : i < w.length := by have := (List.getElem?_eq_some_iff.mp hq).1; omega
    show some (s.num w g v) = _
    rw [Sh.num_out o hq, List.getElem?_eq_getElem hi, getD_of (List.getElem?_eq_getElem hi)]
theorem Sh.num_fit {s : Sh} (o : s.Ok) {w : List Rat} {g : Rat} (hw : w.length = s.out.length) : s.Fit (s.num w g) g (dot s.gl (w ++ [g])) :=
  ⟨fun i u l h1 h2 => by rw [Sh.num_vec o hw]; exact Sh.num_inn o h1 h2, by rw [Sh.num_vec o hw]⟩
end SH

namespace SH
def sm (n : Nat) (f : Nat → Int) : Int := match n with
  | 0 => 0
  | n + 1 => sm n f + f n
theorem pigeon : ∀ (n : Nat) (f : Nat → Nat), (∀ i, i ≤ n → f i < n) → ∃ i j, i < j ∧ j ≤ n ∧ f i = f j
  | 0, f, h => absurd (h 0 (Nat.le_refl _)) (Nat.not_lt_zero _)
  | n + 1, f, h => by
    by_cases hc : ∃ i, i ≤ n ∧ f i = f (n + 1)
    · obtain ⟨i, hi, e⟩ := hc
      exact ⟨i, n + 1, by omega, Nat.le_refl _, e⟩
    · -- swap the value n with f (n + 1)
      have hne : ∀ i, i ≤ n → f i ≠ f (n + 1) := fun i hi e => hc ⟨i, hi, e⟩
      let g : Nat → Nat := fun i => if f i = n then f (n + 1) else f i
      have hg : ∀ i, i ≤ n → g i < n := by
        intro i hi
        have h1 := h i (by omega)
        have h2 := h (n + 1) (Nat.le_refl _)
        have h3 := hne i hi
        show (if f i = n then f (n + 1) else f i) < n
        split <;> omega
      obtain ⟨i, j, hij, hj, e⟩ := pigeon n g hg
      refine ⟨i, j, hij, by omega, ?_⟩
      have h3 := hne i (by omega)
      have h4 := hne j hj
      have e' : (if f i = n then f (n + 1) else f i) = (if f j = n then f (n + 1) else f j) := e
      split at e' <;> split at e' <;> omega
/-- figures to a base -/
def dig (B c i : Nat) : Nat := c / B ^ i % B
theorem dig_eq {B : Nat} (hB : 0 < B) : ∀ (k c d : Nat), c < B ^ k → d < B ^ k → (∀ i, i < k → dig B c i = dig B d i) → c = d
  | 0, c, d, hc, hd, _ => by simp at hc hd; omega
  | k + 1, c, d, hc, hd, h => by
    have h0 : c % B = d % B := by simpa [dig] using h 0 (Nat.succ_pos _)
    have hq : c / B = d / B := by
      refine dig_eq hB k (c / B) (d / B) ?_ ?_ fun i hi => ?_
      · rw [Nat.div_lt_iff_lt_mul hB]; rw [Nat.pow_succ] at hc; exact hc
      · rw [Nat.div_lt_iff_lt_mul hB]; rw [Nat.pow_succ] at hd; exact hd
      · have := h (i + 1) (by omega)
        unfold dig at this ⊢
        rw [Nat.div_div_eq_div_mul, Nat.div_div_eq_div_mul, ← Nat.pow_succ']
        exact this
    rw [← Nat.div_add_mod c B, ← Nat.div_add_mod d B, h0, hq]
/-- numbers below C put together -/
def put (C : Nat) (e : Nat → Nat) : Nat → Nat
  | 0 => 0
  | k + 1 => put C e k * C + e k
theorem put_lt {C : Nat} {e : Nat → Nat} : ∀ k, (∀ i, i < k → e i < C) → put C e k < C ^ k
  | 0, _ => by simp [put]
  | k + 1, h => by
    have h1 := put_lt k fun i hi => h i (by omega)
    have h2 := h k (by omega)
    unfold put
    rw [Nat.pow_succ]
    have : (put C e k + 1) * C ≤ C ^ k * C := Nat.mul_le_mul_right _ h1
    rw [Nat.add_mul] at this
    omega
theorem put_inj {C : Nat} {e e' : Nat → Nat} : ∀ k, (∀ i, i < k → e i < C) → (∀ i, i < k → e' i < C) → put C e k = put C e' k → ∀ i, i < k → e i = e' i
  | 0, _, _, _, i, hi => absurd hi (Nat.not_lt_zero _)
  | k + 1, h, h', q, i, hi => by
    have a1 := h k (by omega)
    have a2 := h' k (by omega)
    unfold put at q
    have hC : 0 < C := by omega
    have e1 : put C e k = put C e' k := by
      have this : (put C e k * C + e k) / C = (put C e' k * C + e' k) / C := by rw [q]
      rw [Nat.mul_comm, Nat.mul_add_div hC, Nat.div_eq_of_lt a1, Nat.mul_comm, Nat.mul_add_div hC, Nat.div_eq_of_lt a2] at this
      simpa using this
    have e2 : e k = e' k := by rw [e1] at q; omega
    rcases Nat.lt_or_ge i k with hk | hk
    · exact put_inj k (fun i hi => h i (by omega)) (fun i hi => h' i (by omega)) e1 i hk
    · have : i = k := by omega
      subst this; exact e2
theorem sm_sub (n : Nat) (f g : Nat → Int) : sm n (fun i => f i - g i) = sm n f - sm n g := by
  induction n with
  | zero => rfl
  | succ n ih => unfold sm; rw [ih]; omega
theorem sm_congr {n : Nat} {f g : Nat → Int} (h : ∀ i, i < n → f i = g i) : sm n f = sm n g := by
  induction n with
  | zero => rfl
  | succ n ih => unfold sm; rw [ih fun i hi => h i (by omega), h n (by omega)]
theorem sm_bounds {n : Nat} {f lo hi : Nat → Int} (h : ∀ i, i < n → lo i ≤ f i ∧ f i ≤ hi i) : sm n lo ≤ sm n f ∧ sm n f ≤ sm n hi := by
  induction n with
  | zero => exact ⟨Int.le_refl _, Int.le_refl _⟩
  | succ n ih =>
    have := ih fun i hi => h i (by omega)
    have := h n (by omega)
    unfold sm
    omega
theorem sm_const (n : Nat) (c : Int) : sm n (fun _ => c) = n * c := by
  induction n with
  | zero => simp [sm]
  | succ n ih => unfold sm; rw [ih]; grind
theorem siegel {k N M : Nat} (hN : N = k + 1) (hM : 0 < M) (A : Nat → Nat → Int) (hA : ∀ d i, d < k → i < N → (A d i).natAbs ≤ M) :
    ∃ z : Nat → Int, (∃ i, i < N ∧ z i ≠ 0) ∧ (∀ i, (z i).natAbs ≤ (N * (2 * M)) ^ k) ∧ ∀ d, d < k → sm N (fun i => A d i * z i) = 0 := by
  generalize hX : (N * (2 * M)) ^ k = X
  have hB : 0 < N * (2 * M) := by subst hN; exact Nat.mul_pos (by omega) (by omega)
  have hX1 : 0 < X := by rw [← hX]; exact Nat.pow_pos hB
  -- what an equation comes to, moved above nought
  let S : Nat → Nat → Int := fun c d => sm N (fun i => A d i * (dig (X + 1) c i : Nat))
  have hS : ∀ c d, d < k → -(N * (M * X) : Nat) ≤ S c d ∧ S c d ≤ (N * (M * X) : Nat) := by
    intro c d hd
    have := sm_bounds (n := N) (f := fun i => A d i * (dig (X + 1) c i : Nat)) (lo := fun _ => -((M * X : Nat) : Int)) (hi := fun _ => ((M * X : Nat) : Int)) (fun i hi => by
      have h1 := hA d i hd hi
      have h2 : dig (X + 1) c i ≤ X := Nat.le_of_lt_succ (Nat.mod_lt _ (Nat.succ_pos _))
      have h3 : (A d i * ((dig (X + 1) c i : Nat) : Int)).natAbs ≤ M * X := by
        rw [Int.natAbs_mul, Int.natAbs_natCast]
        exact Nat.mul_le_mul h1 h2
      omega)
    rw [sm_const, sm_const] at this
    have e : ((N * (M * X) : Nat) : Int) = (N : Int) * ((M * X : Nat) : Int) := by rw [Int.natCast_mul]
    rw [e]
    constructor
    · have := this.1; grind
    · exact this.2
  let C := N * (2 * M) * X + 1
  let T : Nat → Nat → Nat := fun c d => (S c d + (N * (M * X) : Nat)).toNat
  have e2 : 2 * (N * (M * X)) = N * (2 * M) * X := by grind
  have hT : ∀ c d, d < k → T c d < C := by
    intro c d hd
    obtain ⟨h1, h2⟩ := hS c d hd
    show (S c d + (N * (M * X) : Nat)).toNat < N * (2 * M) * X + 1
    rw [← e2]
    omega
  have hlt : C ^ k < (X + 1) ^ N := by
    have h1 : C ≤ N * (2 * M) * (X + 1) := by show N * (2 * M) * X + 1 ≤ _; rw [Nat.mul_add]; omega
    have h2 : C ^ k ≤ (N * (2 * M) * (X + 1)) ^ k := Nat.pow_le_pow_left h1 k
    rw [Nat.mul_pow, hX] at h2
    rw [hN, Nat.pow_succ, Nat.mul_comm]
    have h3 : 0 < (X + 1) ^ k := Nat.pow_pos (by omega)
    have h4 : X * (X + 1) ^ k < (X + 1) * (X + 1) ^ k := Nat.mul_lt_mul_of_pos_right (by omega) h3
    omega
  obtain ⟨c1, c2, hlt12, hle, e⟩ := pigeon (C ^ k) (fun c => put C (T c) k) fun c _ => put_lt k fun d hd => hT c d hd
  have eT := put_inj k (fun d hd => hT c1 d hd) (fun d hd => hT c2 d hd) e
  refine ⟨fun i => (dig (X + 1) c1 i : Nat) - (dig (X + 1) c2 i : Nat), ?_, ?_, ?_⟩
  · rcases Classical.em (∃ i, i < N ∧ ((dig (X + 1) c1 i : Nat) : Int) - (dig (X + 1) c2 i : Nat) ≠ 0) with h | h
    · exact h
    · have : c1 = c2 := dig_eq (B := X + 1) (by omega) N c1 c2 (by omega) (by omega) fun i hi => by
        rcases Classical.em (dig (X + 1) c1 i = dig (X + 1) c2 i) with q | q
        · exact q
        · exact absurd ⟨i, hi, by omega⟩ h
      omega
  · intro i
    have h1 : dig (X + 1) c1 i ≤ X := Nat.le_of_lt_succ (Nat.mod_lt _ (Nat.succ_pos _))
    have h2 : dig (X + 1) c2 i ≤ X := Nat.le_of_lt_succ (Nat.mod_lt _ (Nat.succ_pos _))
    show (((dig (X + 1) c1 i : Nat) : Int) - (dig (X + 1) c2 i : Nat)).natAbs ≤ X
    omega
  · intro d hd
    have q := eT d hd
    have q2 : S c1 d = S c2 d := by
      have a := hS c1 d hd
      have b := hS c2 d hd
      have q' : (S c1 d + (N * (M * X) : Nat)).toNat = (S c2 d + (N * (M * X) : Nat)).toNat := q
      omega
    rw [sm_congr (g := fun i => A d i * (dig (X + 1) c1 i : Nat) - A d i * (dig (X + 1) c2 i : Nat)) fun i hi => by grind, sm_sub]
    have q3 : sm N (fun i => A d i * (dig (X + 1) c1 i : Nat)) = sm N (fun i => A d i * (dig (X + 1) c2 i : Nat)) := q2
    omega
end SH

namespace SH
def sq (n : Nat) (f : Nat → Rat) : Rat := match n with
  | 0 => 0
  | n + 1 => sq n f + f n
theorem sq_congr {n : Nat} {f g : Nat → Rat} (h : ∀ i, i < n → f i = g i) : sq n f = sq n g := by
  induction n with
  | zero => rfl
  | succ n ih => unfold sq; rw [ih fun i hi => h i (by omega), h n (by omega)]
theorem sq_add (n : Nat) (f g : Nat → Rat) : sq n (fun i => f i + g i) = sq n f + sq n g := by
  induction n with
  | zero => show (0 : Rat) = 0 + 0; grind
  | succ n ih => unfold sq; rw [ih]; grind
theorem sq_mul (n : Nat) (c : Rat) (f : Nat → Rat) : sq n (fun i => c * f i) = c * sq n f := by
  induction n with
  | zero => simp [sq]
  | succ n ih => unfold sq; rw [ih]; grind
theorem sq_zero (n : Nat) : sq n (fun _ => 0) = 0 := by
  induction n with
  | zero => rfl
  | succ n ih => unfold sq; rw [ih]; grind
theorem sq_swap (n m : Nat) (f : Nat → Nat → Rat) : sq n (fun i => sq m (fun d => f i d)) = sq m (fun d => sq n (fun i => f i d)) := by
  induction n with
  | zero => rw [show sq m (fun d => sq 0 (fun i => f i d)) = sq m (fun _ => 0) from rfl, sq_zero]; rfl
  | succ n ih =>
    show sq n (fun i => sq m (fun d => f i d)) + sq m (fun d => f n d) = sq m (fun d => sq n (fun i => f i d) + f n d)
    rw [ih, sq_add]
theorem sq_one {n j : Nat} (hj : j < n) (f : Nat → Rat) (h : ∀ i, i < n → i ≠ j → f i = 0) : sq n f = f j := by
  induction n with
  | zero => omega
  | succ n ih =>
    unfold sq
    rcases Nat.lt_or_ge j n with q | q
    · rw [ih q fun i hi => h i (by omega), h n (by omega) (by omega)]; grind
    · have : j = n := by omega
      subst this
      rw [sq_congr (g := fun _ => 0) fun i hi => h i (by omega) (by omega), sq_zero]; grind
theorem sq_shift (n : Nat) (f : Nat → Rat) : sq (n + 1) f = f 0 + sq n (fun i => f (i + 1)) := by
  induction n with
  | zero => show 0 + f 0 = f 0 + 0; grind
  | succ n ih => show sq (n + 1) f + f (n + 1) = f 0 + (sq n (fun i => f (i + 1)) + f (n + 1)); rw [ih]; grind
theorem dot_sq : ∀ (l v : List Rat) (n : Nat), l.length = n → v.length = n → dot l v = sq n (fun i => l.getD i 0 * v.getD i 0)
  | [], _, 0, _, _ => dot_nil_l _
  | a :: l, b :: v, n + 1, h1, h2 => by
    rw [sq_shift, dot_cons, dot_sq l v n (by simpa using h1) (by simpa using h2)]
    rfl
  | [], _, n + 1, h, _ => by simp at h
  | _ :: _, [], n + 1, _, h => by simp at h
  | _ :: _, _, 0, h, _ => by simp at h
theorem sm_cast (n : Nat) (f : Nat → Int) : ((sm n f : Int) : Rat) = sq n (fun i => ((f i : Int) : Rat)) := by
  induction n with
  | zero => rfl
  | succ n ih => unfold sm sq; rw [← ih]; exact Rat.intCast_add ..
/-- times c it is whole, and not above M -/
def Wh (c M : Nat) (a : Rat) : Prop := ∃ z : Int, a * ((c : Int) : Rat) = (z : Rat) ∧ z.natAbs ≤ M
/-- all entries -/
def WhL (c M : Nat) (l : List Rat) : Prop := ∀ (i : Nat) (a : Rat), l[i]? = some a → Wh c M a
theorem wh_zero (c M : Nat) : Wh c M 0 := ⟨0, by simp, by simp⟩
theorem wh_getD {c M : Nat} {l : List Rat} (h : WhL c M l) (i : Nat) : Wh c M (l.getD i 0) := by
  cases hq : l[i]? with
  | none => rw [show l.getD i 0 = 0 by simp [List.getD, hq]]; exact wh_zero c M
  | some a => rw [getD_of hq]; exact h i a hq
/-- two sheets of the same unknowns that the same numbers fit -/
structure Sh.Eqv (s0 s : Sh) : Prop where
  ok0 : s0.Ok
  ok : s.Ok
  n : s.out.length = s0.out.length
  to : ∀ x g f, s0.Fit x g f → s.Fit x g f
  fro : ∀ x g f, s.Fit x g f → s0.Fit x g f
  nmo : ∀ q ∈ s.out, q ∈ s0.inn ∨ q ∈ s0.out
  nmi : ∀ q ∈ s.inn, q ∈ s0.inn ∨ q ∈ s0.out
theorem Sh.Eqv.refl {s : Sh} (o : s.Ok) : s.Eqv s := ⟨o, o, rfl, fun _ _ _ h => h, fun _ _ _ h => h, fun _ h => .inr h, fun _ h => .inl h⟩
theorem Sh.Eqv.step {s0 s : Sh} (e : s0.Eqv s) {r p : Nat} {u v : Int} {l : List Rat} {a : Rat} (h : s.At r p u v l a) : s0.Eqv (s.exch r p) := by
  refine ⟨e.ok0, e.ok.exch h, ?_, fun x g f q => (e.to x g f q).exch e.ok h, fun x g f q => e.fro x g f (q.unexch e.ok h), fun q hq => ?_, fun q hq => ?_⟩
  · rw [Sh.exch_eq h]; simp [e.n]
  · rw [Sh.exch_eq h] at hq
    rcases List.mem_or_eq_of_mem_set hq with z | z
    · exact e.nmo q z
    · subst z; exact e.nmi _ (List.mem_of_getElem? h.hu)
  · rw [Sh.exch_eq h] at hq
    rcases List.mem_or_eq_of_mem_set hq with z | z
    · exact e.nmi q z
    · subst z; exact e.nmo _ (List.mem_of_getElem? h.hv)
/-- how an unknown is told by the first sheet's outer ones -/
def Sh.row (s : Sh) (q : Int) : List Rat := match idx s.out q with
  | some j => (List.replicate (s.out.length + 1) 0).set j 1
  | none => match idx s.inn q with
    | some i => s.ln.getD i []
    | none => List.replicate (s.out.length + 1) 0
section
variable {s0 s : Sh} {c M : Nat}
theorem wh_rep (c M n : Nat) : WhL c M (List.replicate n 0) := fun i a h => by
  rw [List.getElem?_replicate] at h
  split at h
  · cases h; exact wh_zero c M
  · cases h
theorem wh_unit (hc : c ≤ M) (n j : Nat) : WhL c M ((List.replicate n 0).set j 1) := fun i a h => by
  rcases get_set h with ⟨_, e⟩ | ⟨_, e⟩
  · subst e; exact ⟨c, by rw [Rat.one_mul], by simpa using hc⟩
  · exact wh_rep c M n i a e
theorem Sh.row_wh (o : s0.Ok) (hc : c ≤ M) (hl : ∀ l ∈ s0.ln, WhL c M l) (q : Int) : WhL c M (s0.row q) := by
  unfold Sh.row
  split
  · exact wh_unit hc _ _
  · split
    · rename_i i hi
      intro j a ha
      cases hq : s0.ln[i]? with
      | none => rw [show s0.ln.getD i [] = [] by simp [List.getD, hq]] at ha; simp at ha
      | some l => rw [gD hq] at ha; exact hl l (List.mem_of_getElem? hq) j a ha
    · exact wh_rep _ _ _
theorem Sh.row_len (o : s0.Ok) {q : Int} : (s0.row q).length = s0.out.length + 1 := by
  unfold Sh.row
  split
  · simp
  · split
    · rename_i i hi
      have hlt : i < s0.ln.length := by rw [o.ln]; exact (List.getElem?_eq_some_iff.mp (idx_some hi)).1
      rw [gD (List.getElem?_eq_getElem hlt)]
      exact o.wd _ (List.getElem_mem hlt)
    · simp
theorem Sh.row_val (o : s0.Ok) {q : Int} (hq : q ∈ s0.inn ∨ q ∈ s0.out) {x : Int → Rat} {g f : Rat} (ft : s0.Fit x g f) : dot (s0.row q) (s0.vec x g) = x q := by
  unfold Sh.row
  cases h1 : idx s0.out q with
  | some j =>
    have hj := idx_some h1
    have hv := Sh.vec_get hj x g
    have hjl : j < s0.out.length := (List.getElem?_eq_some_iff.mp hj).1
    show dot ((List.replicate (s0.out.length + 1) 0).set j 1) (s0.vec x g) = x q
    rw [dot_set_l _ _ j 0 (x q) 1 (by rw [List.getElem?_replicate, if_pos (by omega)]) hv]
    have : ∀ (n : Nat) (v : List Rat), dot (List.replicate n 0) v = 0 := by
      intro n
      induction n with
      | zero => intro v; exact dot_nil_l v
      | succ n ih => intro v; cases v with
        | nil => rfl
        | cons b v => show 0 * b + dot (List.replicate n 0) v = 0; rw [ih]; grind
    rw [this]; grind
  | none =>
    cases h2 : idx s0.inn q with
    | some i =>
      have hi := idx_some h2
      have hlt : i < s0.ln.length := by rw [o.ln]; exact (List.getElem?_eq_some_iff.mp hi).1
      show dot (s0.ln.getD i []) (s0.vec x g) = x q
      rw [gD (List.getElem?_eq_getElem hlt)]
      exact (ft.row i q _ hi (List.getElem?_eq_getElem hlt)).symm
    | none =>
      rcases hq with z | z
      · obtain ⟨i, hi⟩ := List.mem_iff_getElem?.mp z
        exact absurd hi (idx_none h2)
      · obtain ⟨i, hi⟩ := List.mem_iff_getElem?.mp z
        exact absurd hi (idx_none h1)
theorem vec_len (s : Sh) (x : Int → Rat) (g : Rat) : (s.vec x g).length = s.out.length + 1 := by simp [Sh.vec]
/-- a line told by small numbers -/
theorem Sh.Eqv.small (e : s0.Eqv s) (hc0 : 0 < c) (hc : c ≤ M) (hl : ∀ l ∈ s0.ln, WhL c M l) {R : List Rat} (hR : WhL c M R) (hRl : R.length = s0.out.length + 1) {l : List Rat}
    (hv : ∀ x g f, s0.Fit x g f → dot R (s0.vec x g) = dot l (s.vec x g)) (hll : l.length = s.out.length + 1) :
    ∀ (j : Nat) (a : Rat), l[j]? = some a → ∃ t b : Int, b ≠ 0 ∧ a = Rat.divInt t b ∧ t.natAbs ≤ ((s0.out.length + 2) * (2 * M)) ^ (s0.out.length + 1) ∧ b.natAbs ≤ ((s0.out.length + 2) * (2 * M)) ^ (s0.out.length + 1) := by
  generalize hn : s0.out.length + 1 = k
  have hM : 0 < M := by omega
  -- the vectors
  let V : Nat → List Rat := fun i => if i < s0.out.length then s0.row (s.out.getD i 0) else if i = s0.out.length then (List.replicate k 0).set s0.out.length 1 else R
  have hVw : ∀ i, WhL c M (V i) := by
    intro i
    show WhL c M (if i < s0.out.length then s0.row (s.out.getD i 0) else if i = s0.out.length then (List.replicate k 0).set s0.out.length 1 else R)
    split
    · exact Sh.row_wh e.ok0 hc hl _
    · split
      · exact wh_unit hc _ _
      · exact hR
  have hVl : ∀ i, (V i).length = k := by
    intro i
    show (if i < s0.out.length then s0.row (s.out.getD i 0) else if i = s0.out.length then (List.replicate k 0).set s0.out.length 1 else R).length = k
    split
    · rw [Sh.row_len e.ok0, hn]
    · split
      · simp
      · rw [hRl, hn]
  have hA : ∀ d i, ∃ z : Int, (V i).getD d 0 * ((c : Int) : Rat) = (z : Rat) ∧ z.natAbs ≤ M := fun d i => wh_getD (hVw i) d
  obtain ⟨z, ⟨i0, hi0, hz0⟩, hzb, hz⟩ := siegel (k := k) (N := k + 1) rfl hM (fun d i => Classical.choose (hA d i)) fun d i _ _ => (Classical.choose_spec (hA d i)).2
  have hcq : ((c : Int) : Rat) ≠ 0 := by
    intro h
    have : ((c : Int) : Rat) = ((0 : Int) : Rat) := h
    have := Rat.intCast_inj.mp this
    omega
  -- componentwise
  have hzq : ∀ d, d < k → sq (k + 1) (fun i => (V i).getD d 0 * (z i : Rat)) = 0 := by
    intro d hd
    have h1 := congrArg (fun t : Int => (t : Rat)) (hz d hd)
    have h2 : ((sm (k + 1) (fun i => Classical.choose (hA d i) * z i) : Int) : Rat) = 0 := h1
    rw [sm_cast] at h2
    have h3 : sq (k + 1) (fun i => ((Classical.choose (hA d i) * z i : Int) : Rat)) = ((c : Int) : Rat) * sq (k + 1) (fun i => (V i).getD d 0 * (z i : Rat)) := by
      rw [← sq_mul]
      refine sq_congr fun i _ => ?_
      rw [Rat.intCast_mul, ← (Classical.choose_spec (hA d i)).1]
      grind
    rw [h3] at h2
    rcases Rat.mul_eq_zero.mp h2 with q | q
    · exact absurd q hcq
    · exact q
  -- at all fits
  have key : ∀ x g f, s0.Fit x g f → sq k (fun i => (z i : Rat) * (s.vec x g).getD i 0) + (z k : Rat) * dot l (s.vec x g) = 0 := by
    intro x g f ft
    have h0 : sq (k + 1) (fun i => (z i : Rat) * dot (V i) (s0.vec x g)) = 0 := by
      have h1 : sq (k + 1) (fun i => (z i : Rat) * dot (V i) (s0.vec x g)) = sq (k + 1) (fun i => sq k (fun d => (s0.vec x g).getD d 0 * ((V i).getD d 0 * (z i : Rat)))) := by
        refine sq_congr fun i _ => ?_
        rw [dot_sq (V i) (s0.vec x g) k (hVl i) (by rw [vec_len, hn]), ← sq_mul]
        exact sq_congr fun d _ => by grind
      rw [h1, sq_swap]
      rw [sq_congr (g := fun _ => 0) fun d hd => by rw [sq_mul, hzq d hd]; grind]
      exact sq_zero k
    have h2 : sq (k + 1) (fun i => (z i : Rat) * dot (V i) (s0.vec x g)) = sq k (fun i => (z i : Rat) * dot (V i) (s0.vec x g)) + (z k : Rat) * dot (V k) (s0.vec x g) := rfl
    rw [h2] at h0
    have h3 : V k = R := by
      show (if k < s0.out.length then s0.row (s.out.getD k 0) else if k = s0.out.length then (List.replicate k 0).set s0.out.length 1 else R) = R
      rw [if_neg (by omega), if_neg (by omega)]
    rw [h3, hv x g f ft] at h0
    refine Eq.trans ?_ h0
    congr 1
    refine sq_congr fun i hi => ?_
    congr 1
    show _ = dot (if i < s0.out.length then s0.row (s.out.getD i 0) else if i = s0.out.length then (List.replicate k 0).set s0.out.length 1 else R) (s0.vec x g)
    by_cases hlt : i < s0.out.length
    · rw [if_pos hlt]
      have hi2 : i < s.out.length := by rw [e.n]; exact hlt
      have ho := List.getElem?_eq_getElem hi2
      rw [gD ho, Sh.row_val e.ok0 (e.nmo _ (List.getElem_mem hi2)) ft, getD_of (Sh.vec_get ho x g)]
    · have hie : i = s0.out.length := by omega
      rw [if_neg hlt, if_pos hie]
      have e1 : (s0.vec x g)[s0.out.length]? = some g := by
        show (s0.out.map x ++ [g])[s0.out.length]? = some g
        rw [List.getElem?_append_right (by simp)]; simp
      have e2 : (s.vec x g)[i]? = some g := by
        show (s.out.map x ++ [g])[i]? = some g
        rw [List.getElem?_append_right (by simp [e.n, hie])]; simp [e.n, hie]
      rw [getD_of e2, dot_set_l _ _ s0.out.length 0 g 1 (by rw [List.getElem?_replicate, if_pos (by omega)]) e1]
      have : ∀ (n : Nat) (v : List Rat), dot (List.replicate n 0) v = 0 := by
        intro n
        induction n with
        | zero => intro v; exact dot_nil_l v
        | succ n ih => intro v; cases v with
          | nil => rfl
          | cons b v => show 0 * b + dot (List.replicate n 0) v = 0; rw [ih]; grind
      rw [this]; grind
  -- at the units
  have hk2 : k = s.out.length + 1 := by rw [← hn, e.n]
  have unit : ∀ (j : Nat) (a : Rat), l[j]? = some a → (z j : Rat) + (z k : Rat) * a = 0 := by
    intro j a ha
    have hj : j < k := by have := (List.getElem?_eq_some_iff.mp ha).1; omega
    let W : List Rat := (List.replicate k 0).set j 1
    have hW : W = W.take s.out.length ++ [W.getD s.out.length 0] := by
      have hWl : W.length = s.out.length + 1 := by show ((List.replicate k 0).set j 1).length = _; simp [hk2]
      apply List.ext_getElem?
      intro i
      rcases Nat.lt_or_ge i s.out.length with q | q
      · rw [List.getElem?_append_left (by simp; omega), List.getElem?_take, if_pos q]
      · rw [List.getElem?_append_right (by simp; omega)]
        have hmin : (W.take s.out.length).length = s.out.length := by simp; omega
        rw [hmin]
        rcases Nat.eq_or_lt_of_le q with q2 | q2
        · subst q2
          rw [Nat.sub_self]
          show _ = some (W.getD s.out.length 0)
          have hlt : s.out.length < W.length := by omega
          rw [List.getElem?_eq_getElem hlt, getD_of (List.getElem?_eq_getElem hlt)]
        · rw [List.getElem?_eq_none_iff.mpr (by omega), List.getElem?_eq_none_iff.mpr (by simp; omega)]
    have hwl : (W.take s.out.length).length = s.out.length := by
      show (((List.replicate k 0).set j 1).take s.out.length).length = _
      simp; omega
    have ft := Sh.num_fit e.ok (w := W.take s.out.length) (g := W.getD s.out.length 0) hwl
    have ky := key _ _ _ (e.fro _ _ _ ft)
    rw [Sh.num_vec e.ok hwl, ← hW] at ky
    rw [dot_unit ha hj] at ky
    rw [sq_one hj _ fun i hi hne => ?_] at ky
    · have : W.getD j 0 = 1 := getD_of (by show ((List.replicate k 0).set j 1)[j]? = some 1; simp [hj])
      rw [this] at ky
      grind
    · have : W.getD i 0 = 0 := getD_of (by
        show ((List.replicate k 0).set j 1)[i]? = some 0
        rw [List.getElem?_set, if_neg (by omega), List.getElem?_replicate, if_pos hi])
      rw [this]; grind
  have hzk : z k ≠ 0 := by
    intro hz0'
    apply hz0
    rcases Nat.lt_or_ge i0 k with q | q
    · have hil : i0 < l.length := by omega
      have h := unit i0 _ (List.getElem?_eq_getElem hil)
      rw [hz0'] at h
      have h' : ((z i0 : Int) : Rat) = ((0 : Int) : Rat) := by
        have : ((0 : Int) : Rat) = 0 := rfl
        rw [this] at h ⊢
        grind
      exact Rat.intCast_inj.mp h'
    · have : i0 = k := by omega
      rw [this]; exact hz0'
  intro j a ha
  refine ⟨-(z j), z k, hzk, ?_, ?_, ?_⟩
  · have h := unit j a ha
    have hne : ((z k : Int) : Rat) ≠ 0 := fun q => hzk (Rat.intCast_inj.mp (show ((z k : Int) : Rat) = ((0 : Int) : Rat) from q))
    rw [Rat.divInt_eq_div]
    have : ((-(z j) : Int) : Rat) = -((z j : Int) : Rat) := Rat.intCast_neg ..
    rw [this]
    grind
  · rw [Int.natAbs_neg]
    have := hzb j
    rw [← hn] at this ⊢
    exact this
  · have := hzb k
    rw [← hn] at this ⊢
    exact this
end
end SH

namespace SH
theorem Sh.Eqv.sizes {s0 s : Sh} {c M : Nat} (e : s0.Eqv s) (hc0 : 0 < c) (hc : c ≤ M) (hl : ∀ l ∈ s0.ln, WhL c M l) (hg : WhL c M s0.gl) {l : List Rat} (h : l ∈ s.ln ∨ l = s.gl) :
    ∀ (j : Nat) (a : Rat), l[j]? = some a → ∃ t b : Int, b ≠ 0 ∧ a = Rat.divInt t b ∧ t.natAbs ≤ ((s0.out.length + 2) * (2 * M)) ^ (s0.out.length + 1) ∧ b.natAbs ≤ ((s0.out.length + 2) * (2 * M)) ^ (s0.out.length + 1) := by
  rcases h with h | h
  · obtain ⟨i, hi⟩ := List.mem_iff_getElem?.mp h
    have hil : i < s.inn.length := by rw [← e.ok.ln]; exact (List.getElem?_eq_some_iff.mp hi).1
    have hu := List.getElem?_eq_getElem hil
    refine e.small hc0 hc hl (R := s0.row s.inn[i]) (Sh.row_wh e.ok0 hc hl _) (Sh.row_len e.ok0) (fun x g f ft => ?_) (e.ok.wd l h)
    rw [Sh.row_val e.ok0 (e.nmi _ (List.getElem_mem hil)) ft]
    exact (e.to x g f ft).row i _ l hu hi
  · subst h
    exact e.small hc0 hc hl hg e.ok0.gl (fun x g f ft => by rw [← ft.gol]; exact (e.to x g f ft).gol) e.ok.gl
theorem dot_app : ∀ (l v : List Rat) (g : Rat), l.length = v.length + 1 → dot l (v ++ [g]) = dot (l.take v.length) v + l.getD v.length 0 * g
  | [], _, _, h => by simp at h
  | [a], [], g, _ => by show a * g + 0 = 0 + a * g; grind
  | a :: l, b :: v, g, h => by
    have ih := dot_app l v g (by simpa using h)
    show a * b + dot l (v ++ [g]) = a * b + dot (l.take v.length) v + l.getD v.length 0 * g
    rw [ih]; grind
  | _ :: _ :: _, [], _, h => by simp at h
def Sh.base (s : Sh) (l : List Rat) : Rat := l.getD s.out.length 0
theorem vec_split (s : Sh) (y : Int → Rat) (g : Rat) {l : List Rat} (hl : l.length = s.out.length + 1) : dot l (s.vec y g) = dot (l.take s.out.length) (s.out.map y) + s.base l * g := by
  have := dot_app l (s.out.map y) g (by simpa using hl)
  rw [List.length_map] at this
  exact this
section
variable {s : Sh}
end
section
variable {L : Nat} {S : Nat → Sh} {U W : Nat → Int}
end
end SH

namespace W1
open PySem PySem.Spec L2
def top (i : Nat) : Stmt := PySem.Challenge.pw_wareplan_k03_unknowns_changed.main.body.getD i (.Pass ⟨0, 0, 0, 0⟩)
abbrev s_common_divisor : Stmt := top 6
abbrev s_made : Stmt := top 7
abbrev s_opposite : Stmt := top 8
abbrev s_plus : Stmt := top 9
abbrev s_times : Stmt := top 10
abbrev s_over : Stmt := top 11
abbrev s_solved_for : Stmt := top 14
abbrev s_with_put_in : Stmt := top 15
abbrev s_exchanged : Stmt := top 16
abbrev s_after_changes : Stmt := top 17
abbrev s__law_whole : Stmt := top 19
abbrev s__law_at : Stmt := top 20
abbrev s__law_same : Stmt := top 21
abbrev s__law_common : Stmt := top 22
abbrev s__law_is_fraction : Stmt := top 23
abbrev s__law_are_fractions : Stmt := top 24
abbrev s__law_small : Stmt := top 25
abbrev s__law_sum : Stmt := top 26
abbrev s__law_equal : Stmt := top 27
abbrev s__law_sheet_of : Stmt := top 28
abbrev s__law_fits : Stmt := top 29
abbrev s__law_is_sheet : Stmt := top 30
abbrev s__law_cut : Stmt := top 31
abbrev s__law_times : Stmt := top 32
abbrev s__law_plus : Stmt := top 33
abbrev s__law_put_in : Stmt := top 34
abbrev s__law_solved_for : Stmt := top 35
abbrev s__law_changed : Stmt := top 36
abbrev s__law_points_of : Stmt := top 37
abbrev s__law_values_of : Stmt := top 38
abbrev s__law_goal_of : Stmt := top 39
abbrev s_law : Stmt := top 40
abbrev s_Sheet___init__ : Stmt := inClass (top 13) 0
theorem sc_common_divisor : FnScope ["one", "two", "rest"] ["one", "two"] (defScope s_common_divisor) := ⟨rfl, rfl, rfl, by decide +kernel, rfl, by decide +kernel, by decide +kernel⟩
theorem sc_made : FnScope ["top", "bottom", "divisor"] ["top", "bottom"] (defScope s_made) := ⟨rfl, rfl, rfl, by decide +kernel, rfl, by decide +kernel, by decide +kernel⟩
theorem sc_opposite : FnScope ["fraction"] ["fraction"] (defScope s_opposite) := ⟨rfl, rfl, rfl, by decide +kernel, rfl, by decide +kernel, by decide +kernel⟩
theorem sc_plus : FnScope ["one", "two"] ["one", "two"] (defScope s_plus) := ⟨rfl, rfl, rfl, by decide +kernel, rfl, by decide +kernel, by decide +kernel⟩
theorem sc_times : FnScope ["one", "two"] ["one", "two"] (defScope s_times) := ⟨rfl, rfl, rfl, by decide +kernel, rfl, by decide +kernel, by decide +kernel⟩
theorem sc_over : FnScope ["one", "two"] ["one", "two"] (defScope s_over) := ⟨rfl, rfl, rfl, by decide +kernel, rfl, by decide +kernel, by decide +kernel⟩
theorem sc_solved_for : FnScope ["line", "place", "divisor", "told"] ["line", "place"] (defScope s_solved_for) := ⟨rfl, rfl, rfl, by decide +kernel, rfl, by decide +kernel, by decide +kernel⟩
theorem sc_with_put_in : FnScope ["line", "place", "told", "factor", "new"] ["line", "place", "told"] (defScope s_with_put_in) := ⟨rfl, rfl, rfl, by decide +kernel, rfl, by decide +kernel, by decide +kernel⟩
theorem sc_exchanged : FnScope ["sheet", "row", "place", "told", "lines", "goal", "inner", "outer"] ["sheet", "row", "place"] (defScope s_exchanged) := ⟨rfl, rfl, rfl, by decide +kernel, rfl, by decide +kernel, by decide +kernel⟩
theorem sc_after_changes : FnScope ["inner", "outer", "bases", "rows", "gains", "changes", "lines", "sheet", "change", "new_bases", "new_rows", "row", "place"] ["inner", "outer", "bases", "rows", "gains", "changes"] (defScope s_after_changes) := ⟨rfl, rfl, rfl, by decide +kernel, rfl, by decide +kernel, by decide +kernel⟩
theorem sc__law_whole : FnScope ["_law_found"] ["_law_found"] (defScope s__law_whole) := ⟨rfl, rfl, rfl, by decide +kernel, rfl, by decide +kernel, by decide +kernel⟩
theorem sc__law_at : FnScope ["_law_script", "_law_k"] ["_law_script", "_law_k"] (defScope s__law_at) := ⟨rfl, rfl, rfl, by decide +kernel, rfl, by decide +kernel, by decide +kernel⟩
theorem sc__law_same : FnScope ["_law_found", "_law_due", "_law_left", "_law_right", "_law_one", "_law_two"] ["_law_found", "_law_due"] (defScope s__law_same) := ⟨rfl, rfl, rfl, by decide +kernel, rfl, by decide +kernel, by decide +kernel⟩
theorem sc__law_common : FnScope ["_law_one", "_law_two", "_law_rest"] ["_law_one", "_law_two"] (defScope s__law_common) := ⟨rfl, rfl, rfl, by decide +kernel, rfl, by decide +kernel, by decide +kernel⟩
theorem sc__law_is_fraction : FnScope ["_law_found"] ["_law_found"] (defScope s__law_is_fraction) := ⟨rfl, rfl, rfl, by decide +kernel, rfl, by decide +kernel, by decide +kernel⟩
theorem sc__law_are_fractions : FnScope ["_law_found", "_law_count", "_law_one"] ["_law_found", "_law_count"] (defScope s__law_are_fractions) := ⟨rfl, rfl, rfl, by decide +kernel, rfl, by decide +kernel, by decide +kernel⟩
theorem sc__law_small : FnScope ["_law_cell", "_law_top", "_law_bottom", "_law_divisor"] ["_law_cell"] (defScope s__law_small) := ⟨rfl, rfl, rfl, by decide +kernel, rfl, by decide +kernel, by decide +kernel⟩
theorem sc__law_sum : FnScope ["_law_base", "_law_ones", "_law_others", "_law_k", "_law_top", "_law_bottom", "_law_below"] ["_law_base", "_law_ones", "_law_others"] (defScope s__law_sum) := ⟨rfl, rfl, rfl, by decide +kernel, rfl, by decide +kernel, by decide +kernel⟩
theorem sc__law_equal : FnScope ["_law_one", "_law_two"] ["_law_one", "_law_two"] (defScope s__law_equal) := ⟨rfl, rfl, rfl, by decide +kernel, rfl, by decide +kernel, by decide +kernel⟩
theorem sc__law_sheet_of : FnScope ["_law_script", "_law_many", "_law_wide", "_law_bases", "_law_rows", "_law_k", "_law_gains"] ["_law_script", "_law_many", "_law_wide"] (defScope s__law_sheet_of) := ⟨rfl, rfl, rfl, by decide +kernel, rfl, by decide +kernel, by decide +kernel⟩
theorem sc__law_fits : FnScope ["_law_found", "_law_values", "_law_goal", "_law_others", "_law_k", "_law_inner", "_law_outer", "_law_bases", "_law_rows", "_law_base", "_law_gains", "_law_told"] ["_law_found", "_law_values", "_law_goal"] (defScope s__law_fits) := ⟨rfl, rfl, rfl, by decide +kernel, rfl, by decide +kernel, by decide +kernel⟩
theorem sc__law_is_sheet : FnScope ["_law_found", "_law_part"] ["_law_found"] (defScope s__law_is_sheet) := ⟨rfl, rfl, rfl, by decide +kernel, rfl, by decide +kernel, by decide +kernel⟩
theorem sc__law_cut : FnScope ["_law_pair", "_law_divisor", "_law_top", "_law_bottom"] ["_law_pair"] (defScope s__law_cut) := ⟨rfl, rfl, rfl, by decide +kernel, rfl, by decide +kernel, by decide +kernel⟩
theorem sc__law_times : FnScope ["_law_one", "_law_two"] ["_law_one", "_law_two"] (defScope s__law_times) := ⟨rfl, rfl, rfl, by decide +kernel, rfl, by decide +kernel, by decide +kernel⟩
theorem sc__law_plus : FnScope ["_law_one", "_law_two"] ["_law_one", "_law_two"] (defScope s__law_plus) := ⟨rfl, rfl, rfl, by decide +kernel, rfl, by decide +kernel, by decide +kernel⟩
theorem sc__law_put_in : FnScope ["_law_line", "_law_column", "_law_told", "_law_part", "_law_fresh", "_law_k", "_law_old"] ["_law_line", "_law_column", "_law_told"] (defScope s__law_put_in) := ⟨rfl, rfl, rfl, by decide +kernel, rfl, by decide +kernel, by decide +kernel⟩
theorem sc__law_solved_for : FnScope ["_law_line", "_law_column", "_law_part", "_law_told"] ["_law_line", "_law_column"] (defScope s__law_solved_for) := ⟨rfl, rfl, rfl, by decide +kernel, rfl, by decide +kernel, by decide +kernel⟩
theorem sc__law_changed : FnScope ["_law_lines", "_law_place", "_law_column", "_law_told", "_law_fresh", "_law_k"] ["_law_lines", "_law_place", "_law_column"] (defScope s__law_changed) := ⟨rfl, rfl, rfl, by decide +kernel, rfl, by decide +kernel, by decide +kernel⟩
theorem sc__law_points_of : FnScope ["_law_script", "_law_wide"] ["_law_script", "_law_wide"] (defScope s__law_points_of) := ⟨rfl, rfl, rfl, by decide +kernel, rfl, by decide +kernel, by decide +kernel⟩
theorem sc__law_values_of : FnScope ["_law_script", "_law_inner", "_law_outer", "_law_bases", "_law_rows", "_law_points", "_law_values", "_law_k"] ["_law_script", "_law_inner", "_law_outer", "_law_bases", "_law_rows"] (defScope s__law_values_of) := ⟨rfl, rfl, rfl, by decide +kernel, rfl, by decide +kernel, by decide +kernel⟩
theorem sc__law_goal_of : FnScope ["_law_script", "_law_gains"] ["_law_script", "_law_gains"] (defScope s__law_goal_of) := ⟨rfl, rfl, rfl, by decide +kernel, rfl, by decide +kernel, by decide +kernel⟩
theorem sc_law : FnScope ["_law_script", "_law_more", "_law_many", "_law_wide", "_law_inner", "_law_outer", "_law_cells", "_law_changes", "_law_ones", "_law_lists", "_law_found", "_law_lines", "_law_due", "_law_k", "_law_values", "_law_bases", "_law_rows", "_law_gains", "_law_place", "_law_column", "_law_own", "_law_unknown"] ["_law_script"] (defScope s_law) := ⟨rfl, rfl, rfl, by decide +kernel, rfl, by decide +kernel, by decide +kernel⟩
theorem sc_Sheet___init__ : FnScope ["self", "inner", "outer", "lines", "goal"] ["self", "inner", "outer", "lines", "goal"] (defScope s_Sheet___init__) := ⟨rfl, rfl, rfl, by decide +kernel, rfl, by decide +kernel, by decide +kernel⟩
set_option genInjectivity false in
set_option genSizeOf false in
structure Adr where
  f_common_divisor : Addr
  d_common_divisor : FuncData
  f_made : Addr
  d_made : FuncData
  f_opposite : Addr
  d_opposite : FuncData
  f_plus : Addr
  d_plus : FuncData
  f_times : Addr
  d_times : FuncData
  f_over : Addr
  d_over : FuncData
  f_solved_for : Addr
  d_solved_for : FuncData
  f_with_put_in : Addr
  d_with_put_in : FuncData
  f_exchanged : Addr
  d_exchanged : FuncData
  f_after_changes : Addr
  d_after_changes : FuncData
  f__law_whole : Addr
  d__law_whole : FuncData
  f__law_at : Addr
  d__law_at : FuncData
  f__law_same : Addr
  d__law_same : FuncData
  f__law_common : Addr
  d__law_common : FuncData
  f__law_is_fraction : Addr
  d__law_is_fraction : FuncData
  f__law_are_fractions : Addr
  d__law_are_fractions : FuncData
  f__law_small : Addr
  d__law_small : FuncData
  f__law_sum : Addr
  d__law_sum : FuncData
  f__law_equal : Addr
  d__law_equal : FuncData
  f__law_sheet_of : Addr
  d__law_sheet_of : FuncData
  f__law_fits : Addr
  d__law_fits : FuncData
  f__law_is_sheet : Addr
  d__law_is_sheet : FuncData
  f__law_cut : Addr
  d__law_cut : FuncData
  f__law_times : Addr
  d__law_times : FuncData
  f__law_plus : Addr
  d__law_plus : FuncData
  f__law_put_in : Addr
  d__law_put_in : FuncData
  f__law_solved_for : Addr
  d__law_solved_for : FuncData
  f__law_changed : Addr
  d__law_changed : FuncData
  f__law_points_of : Addr
  d__law_points_of : FuncData
  f__law_values_of : Addr
  d__law_values_of : FuncData
  f__law_goal_of : Addr
  d__law_goal_of : FuncData
  f_law : Addr
  d_law : FuncData
  f_Sheet___init__ : Addr
  d_Sheet___init__ : FuncData
  c_PlanError : Addr
  c_NoFraction : Addr
  c_Sheet : Addr
  k_NOUGHT : Addr
  k_ONE : Addr
structure Txt (K : PySem.W.Frag) (mg : Str → Option Value) (t : Adr) : Prop where
  F_common_divisor : Fun K "common_divisor" "common_divisor" s_common_divisor t.f_common_divisor t.d_common_divisor
  b_common_divisor : Binds K t.d_common_divisor ["one", "two"] []
  m_common_divisor : mg "common_divisor" = some (.ref t.f_common_divisor)
  F_made : Fun K "made" "made" s_made t.f_made t.d_made
  b_made : Binds K t.d_made ["top", "bottom"] []
  m_made : mg "made" = some (.ref t.f_made)
  F_opposite : Fun K "opposite" "opposite" s_opposite t.f_opposite t.d_opposite
  b_opposite : Binds K t.d_opposite ["fraction"] []
  m_opposite : mg "opposite" = some (.ref t.f_opposite)
  F_plus : Fun K "plus" "plus" s_plus t.f_plus t.d_plus
  b_plus : Binds K t.d_plus ["one", "two"] []
  m_plus : mg "plus" = some (.ref t.f_plus)
  F_times : Fun K "times" "times" s_times t.f_times t.d_times
  b_times : Binds K t.d_times ["one", "two"] []
  m_times : mg "times" = some (.ref t.f_times)
  F_over : Fun K "over" "over" s_over t.f_over t.d_over
  b_over : Binds K t.d_over ["one", "two"] []
  m_over : mg "over" = some (.ref t.f_over)
  F_solved_for : Fun K "solved_for" "solved_for" s_solved_for t.f_solved_for t.d_solved_for
  b_solved_for : Binds K t.d_solved_for ["line", "place"] []
  m_solved_for : mg "solved_for" = some (.ref t.f_solved_for)
  F_with_put_in : Fun K "with_put_in" "with_put_in" s_with_put_in t.f_with_put_in t.d_with_put_in
  b_with_put_in : Binds K t.d_with_put_in ["line", "place", "told"] []
  m_with_put_in : mg "with_put_in" = some (.ref t.f_with_put_in)
  F_exchanged : Fun K "exchanged" "exchanged" s_exchanged t.f_exchanged t.d_exchanged
  b_exchanged : Binds K t.d_exchanged ["sheet", "row", "place"] []
  m_exchanged : mg "exchanged" = some (.ref t.f_exchanged)
  F_after_changes : Fun K "after_changes" "after_changes" s_after_changes t.f_after_changes t.d_after_changes
  b_after_changes : Binds K t.d_after_changes ["inner", "outer", "bases", "rows", "gains", "changes"] []
  m_after_changes : mg "after_changes" = some (.ref t.f_after_changes)
  F__law_whole : Fun K "_law_whole" "_law_whole" s__law_whole t.f__law_whole t.d__law_whole
  b__law_whole : Binds K t.d__law_whole ["_law_found"] []
  m__law_whole : mg "_law_whole" = some (.ref t.f__law_whole)
  F__law_at : Fun K "_law_at" "_law_at" s__law_at t.f__law_at t.d__law_at
  b__law_at : Binds K t.d__law_at ["_law_script", "_law_k"] []
  m__law_at : mg "_law_at" = some (.ref t.f__law_at)
  F__law_same : Fun K "_law_same" "_law_same" s__law_same t.f__law_same t.d__law_same
  b__law_same : Binds K t.d__law_same ["_law_found", "_law_due"] []
  m__law_same : mg "_law_same" = some (.ref t.f__law_same)
  F__law_common : Fun K "_law_common" "_law_common" s__law_common t.f__law_common t.d__law_common
  b__law_common : Binds K t.d__law_common ["_law_one", "_law_two"] []
  m__law_common : mg "_law_common" = some (.ref t.f__law_common)
  F__law_is_fraction : Fun K "_law_is_fraction" "_law_is_fraction" s__law_is_fraction t.f__law_is_fraction t.d__law_is_fraction
  b__law_is_fraction : Binds K t.d__law_is_fraction ["_law_found"] []
  m__law_is_fraction : mg "_law_is_fraction" = some (.ref t.f__law_is_fraction)
  F__law_are_fractions : Fun K "_law_are_fractions" "_law_are_fractions" s__law_are_fractions t.f__law_are_fractions t.d__law_are_fractions
  b__law_are_fractions : Binds K t.d__law_are_fractions ["_law_found", "_law_count"] []
  m__law_are_fractions : mg "_law_are_fractions" = some (.ref t.f__law_are_fractions)
  F__law_small : Fun K "_law_small" "_law_small" s__law_small t.f__law_small t.d__law_small
  b__law_small : Binds K t.d__law_small ["_law_cell"] []
  m__law_small : mg "_law_small" = some (.ref t.f__law_small)
  F__law_sum : Fun K "_law_sum" "_law_sum" s__law_sum t.f__law_sum t.d__law_sum
  b__law_sum : Binds K t.d__law_sum ["_law_base", "_law_ones", "_law_others"] []
  m__law_sum : mg "_law_sum" = some (.ref t.f__law_sum)
  F__law_equal : Fun K "_law_equal" "_law_equal" s__law_equal t.f__law_equal t.d__law_equal
  b__law_equal : Binds K t.d__law_equal ["_law_one", "_law_two"] []
  m__law_equal : mg "_law_equal" = some (.ref t.f__law_equal)
  F__law_sheet_of : Fun K "_law_sheet_of" "_law_sheet_of" s__law_sheet_of t.f__law_sheet_of t.d__law_sheet_of
  b__law_sheet_of : Binds K t.d__law_sheet_of ["_law_script", "_law_many", "_law_wide"] []
  m__law_sheet_of : mg "_law_sheet_of" = some (.ref t.f__law_sheet_of)
  F__law_fits : Fun K "_law_fits" "_law_fits" s__law_fits t.f__law_fits t.d__law_fits
  b__law_fits : Binds K t.d__law_fits ["_law_found", "_law_values", "_law_goal"] []
  m__law_fits : mg "_law_fits" = some (.ref t.f__law_fits)
  F__law_is_sheet : Fun K "_law_is_sheet" "_law_is_sheet" s__law_is_sheet t.f__law_is_sheet t.d__law_is_sheet
  b__law_is_sheet : Binds K t.d__law_is_sheet ["_law_found"] []
  m__law_is_sheet : mg "_law_is_sheet" = some (.ref t.f__law_is_sheet)
  F__law_cut : Fun K "_law_cut" "_law_cut" s__law_cut t.f__law_cut t.d__law_cut
  b__law_cut : Binds K t.d__law_cut ["_law_pair"] []
  m__law_cut : mg "_law_cut" = some (.ref t.f__law_cut)
  F__law_times : Fun K "_law_times" "_law_times" s__law_times t.f__law_times t.d__law_times
  b__law_times : Binds K t.d__law_times ["_law_one", "_law_two"] []
  m__law_times : mg "_law_times" = some (.ref t.f__law_times)
  F__law_plus : Fun K "_law_plus" "_law_plus" s__law_plus t.f__law_plus t.d__law_plus
  b__law_plus : Binds K t.d__law_plus ["_law_one", "_law_two"] []
  m__law_plus : mg "_law_plus" = some (.ref t.f__law_plus)
  F__law_put_in : Fun K "_law_put_in" "_law_put_in" s__law_put_in t.f__law_put_in t.d__law_put_in
  b__law_put_in : Binds K t.d__law_put_in ["_law_line", "_law_column", "_law_told"] []
  m__law_put_in : mg "_law_put_in" = some (.ref t.f__law_put_in)
  F__law_solved_for : Fun K "_law_solved_for" "_law_solved_for" s__law_solved_for t.f__law_solved_for t.d__law_solved_for
  b__law_solved_for : Binds K t.d__law_solved_for ["_law_line", "_law_column"] []
  m__law_solved_for : mg "_law_solved_for" = some (.ref t.f__law_solved_for)
  F__law_changed : Fun K "_law_changed" "_law_changed" s__law_changed t.f__law_changed t.d__law_changed
  b__law_changed : Binds K t.d__law_changed ["_law_lines", "_law_place", "_law_column"] []
  m__law_changed : mg "_law_changed" = some (.ref t.f__law_changed)
  F__law_points_of : Fun K "_law_points_of" "_law_points_of" s__law_points_of t.f__law_points_of t.d__law_points_of
  b__law_points_of : Binds K t.d__law_points_of ["_law_script", "_law_wide"] []
  m__law_points_of : mg "_law_points_of" = some (.ref t.f__law_points_of)
  F__law_values_of : Fun K "_law_values_of" "_law_values_of" s__law_values_of t.f__law_values_of t.d__law_values_of
  b__law_values_of : Binds K t.d__law_values_of ["_law_script", "_law_inner", "_law_outer", "_law_bases", "_law_rows"] []
  m__law_values_of : mg "_law_values_of" = some (.ref t.f__law_values_of)
  F__law_goal_of : Fun K "_law_goal_of" "_law_goal_of" s__law_goal_of t.f__law_goal_of t.d__law_goal_of
  b__law_goal_of : Binds K t.d__law_goal_of ["_law_script", "_law_gains"] []
  m__law_goal_of : mg "_law_goal_of" = some (.ref t.f__law_goal_of)
  F_law : Fun K "law" "law" s_law t.f_law t.d_law
  b_law : Binds K t.d_law ["_law_script"] []
  m_law : mg "law" = some (.ref t.f_law)
  F_Sheet___init__ : Fun K "__init__" "Sheet.__init__" s_Sheet___init__ t.f_Sheet___init__ t.d_Sheet___init__
  b_Sheet___init__ : Binds K t.d_Sheet___init__ ["self", "inner", "outer", "lines", "goal"] []
  n_ValueError : mg "ValueError" = none
  n_abs : mg "abs" = none
  n_bool : mg "bool" = none
  n_int : mg "int" = none
  n_isinstance : mg "isinstance" = none
  n_len : mg "len" = none
  n_list : mg "list" = none
  n_range : mg "range" = none
  n_str : mg "str" = none
  n_tuple : mg "tuple" = none
  n_zip : mg "zip" = none
  m_PlanError : mg "PlanError" = some (.ref t.c_PlanError)
  m_NoFraction : mg "NoFraction" = some (.ref t.c_NoFraction)
  m_Sheet : mg "Sheet" = some (.ref t.c_Sheet)
  m_NOUGHT : mg "NOUGHT" = some (.ref t.k_NOUGHT)
  q_NOUGHT : ∀ H, SqT K H t.k_NOUGHT [.int 0, .int 1]
  m_ONE : mg "ONE" = some (.ref t.k_ONE)
  q_ONE : ∀ H, SqT K H t.k_ONE [.int 1, .int 1]
  k_Sheet : Mk K t.c_Sheet t.f_Sheet___init__
  cl_Sheet : Cls K t.c_Sheet
  na_Sheet_inner : NoAttr K t.c_Sheet "inner"
  na_Sheet_outer : NoAttr K t.c_Sheet "outer"
  na_Sheet_lines : NoAttr K t.c_Sheet "lines"
  na_Sheet_goal : NoAttr K t.c_Sheet "goal"
structure Ers (K : PySem.W.Frag) (mg : Str → Option Value) (t : Adr) : Prop where
  e_NoFraction : Err K mg "NoFraction" t.c_NoFraction [.type "ValueError", .type "Exception", .type "BaseException", .type "object"] "ValueError.__new__"
  bl : ∀ (s : Shared) (v : Value), BindsTo s t.d_law ⟨[v], []⟩ [("_law_script", v)]
set_option maxHeartbeats 0 in
theorem us_1 {x qual : Str} {st : Stmt} {ps : List Str} (e : ps.length = 1) (h : ∀ (kV doc pm : Value) (an : Option Addr) (cdv ct x0 : Value), bindArgs (PySem.W.fnOf x qual (defArgs st) (defBody st) (defScope st) .none kV doc pm an cdv ct) ⟨[x0], []⟩ = pure (ps.zip [x0])) (kV doc pm : Value) (an : Option Addr) (cdv ct : Value) (us : List Value) (hl : us.length = ps.length) : bindArgs (PySem.W.fnOf x qual (defArgs st) (defBody st) (defScope st) .none kV doc pm an cdv ct) ⟨us, []⟩ = pure (ps.zip us) := by
  rw [e] at hl
  match us, hl with
  | [x0], _ => exact h kV doc pm an cdv ct x0
theorem us_2 {x qual : Str} {st : Stmt} {ps : List Str} (e : ps.length = 2) (h : ∀ (kV doc pm : Value) (an : Option Addr) (cdv ct x0 x1 : Value), bindArgs (PySem.W.fnOf x qual (defArgs st) (defBody st) (defScope st) .none kV doc pm an cdv ct) ⟨[x0, x1], []⟩ = pure (ps.zip [x0, x1])) (kV doc pm : Value) (an : Option Addr) (cdv ct : Value) (us : List Value) (hl : us.length = ps.length) : bindArgs (PySem.W.fnOf x qual (defArgs st) (defBody st) (defScope st) .none kV doc pm an cdv ct) ⟨us, []⟩ = pure (ps.zip us) := by
  rw [e] at hl
  match us, hl with
  | [x0, x1], _ => exact h kV doc pm an cdv ct x0 x1
theorem us_3 {x qual : Str} {st : Stmt} {ps : List Str} (e : ps.length = 3) (h : ∀ (kV doc pm : Value) (an : Option Addr) (cdv ct x0 x1 x2 : Value), bindArgs (PySem.W.fnOf x qual (defArgs st) (defBody st) (defScope st) .none kV doc pm an cdv ct) ⟨[x0, x1, x2], []⟩ = pure (ps.zip [x0, x1, x2])) (kV doc pm : Value) (an : Option Addr) (cdv ct : Value) (us : List Value) (hl : us.length = ps.length) : bindArgs (PySem.W.fnOf x qual (defArgs st) (defBody st) (defScope st) .none kV doc pm an cdv ct) ⟨us, []⟩ = pure (ps.zip us) := by
  rw [e] at hl
  match us, hl with
  | [x0, x1, x2], _ => exact h kV doc pm an cdv ct x0 x1 x2
theorem us_5 {x qual : Str} {st : Stmt} {ps : List Str} (e : ps.length = 5) (h : ∀ (kV doc pm : Value) (an : Option Addr) (cdv ct x0 x1 x2 x3 x4 : Value), bindArgs (PySem.W.fnOf x qual (defArgs st) (defBody st) (defScope st) .none kV doc pm an cdv ct) ⟨[x0, x1, x2, x3, x4], []⟩ = pure (ps.zip [x0, x1, x2, x3, x4])) (kV doc pm : Value) (an : Option Addr) (cdv ct : Value) (us : List Value) (hl : us.length = ps.length) : bindArgs (PySem.W.fnOf x qual (defArgs st) (defBody st) (defScope st) .none kV doc pm an cdv ct) ⟨us, []⟩ = pure (ps.zip us) := by
  rw [e] at hl
  match us, hl with
  | [x0, x1, x2, x3, x4], _ => exact h kV doc pm an cdv ct x0 x1 x2 x3 x4
theorem us_6 {x qual : Str} {st : Stmt} {ps : List Str} (e : ps.length = 6) (h : ∀ (kV doc pm : Value) (an : Option Addr) (cdv ct x0 x1 x2 x3 x4 x5 : Value), bindArgs (PySem.W.fnOf x qual (defArgs st) (defBody st) (defScope st) .none kV doc pm an cdv ct) ⟨[x0, x1, x2, x3, x4, x5], []⟩ = pure (ps.zip [x0, x1, x2, x3, x4, x5])) (kV doc pm : Value) (an : Option Addr) (cdv ct : Value) (us : List Value) (hl : us.length = ps.length) : bindArgs (PySem.W.fnOf x qual (defArgs st) (defBody st) (defScope st) .none kV doc pm an cdv ct) ⟨us, []⟩ = pure (ps.zip us) := by
  rw [e] at hl
  match us, hl with
  | [x0, x1, x2, x3, x4, x5], _ => exact h kV doc pm an cdv ct x0 x1 x2 x3 x4 x5
set_option maxHeartbeats 4000000 in
theorem txt_mk {K : PySem.W.Frag} {h : Heap} {mg : Str → Option Value} {f0 f1 f2 f3 f4 f5 f6 f7 f8 f9 f10 f11 f12 f13 f14 f15 f16 f17 f18 f19 f20 f21 f22 f23 f24 f25 f26 f27 f28 f29 f30 f31 f32 g0 g1 g2 h0 h1 fa : Addr} (X : K.In h) (G : h.Ns mainGlobals mg) (hfa : mg "law" = some (.ref fa))
    {od0 an0 od1 an1 od2 an2 od3 an3 od4 an4 od5 an5 od6 an6 od7 an7 od8 an8 od9 an9 od10 an10 od11 an11 od12 an12 od13 an13 od14 an14 od15 an15 od16 an16 od17 an17 od18 an18 od19 an19 od20 an20 od21 an21 od22 an22 od23 an23 od24 an24 od25 an25 od26 an26 od27 an27 od28 an28 od29 an29 od30 an30 od31 an31 od32 an32 : Option Addr}
    {sl0 sl1 sl2 sl3 sl4 sl5 sl6 sl7 sl8 sl9 sl10 sl11 sl12 sl13 sl14 sl15 sl16 sl17 sl18 sl19 sl20 sl21 sl22 sl23 sl24 sl25 sl26 sl27 sl28 sl29 sl30 sl31 sl32 : Array (Option Value)}
    {oc0 kV0 dc0 pm0 cd0 ct0 oc1 kV1 dc1 pm1 cd1 ct1 oc2 kV2 dc2 pm2 cd2 ct2 oc3 kV3 dc3 pm3 cd3 ct3 oc4 kV4 dc4 pm4 cd4 ct4 oc5 kV5 dc5 pm5 cd5 ct5 oc6 kV6 dc6 pm6 cd6 ct6 oc7 kV7 dc7 pm7 cd7 ct7 oc8 kV8 dc8 pm8 cd8 ct8 oc9 kV9 dc9 pm9 cd9 ct9 oc10 kV10 dc10 pm10 cd10 ct10 oc11 kV11 dc11 pm11 cd11 ct11 oc12 kV12 dc12 pm12 cd12 ct12 oc13 kV13 dc13 pm13 cd13 ct13 oc14 kV14 dc14 pm14 cd14 ct14 oc15 kV15 dc15 pm15 cd15 ct15 oc16 kV16 dc16 pm16 cd16 ct16 oc17 kV17 dc17 pm17 cd17 ct17 oc18 kV18 dc18 pm18 cd18 ct18 oc19 kV19 dc19 pm19 cd19 ct19 oc20 kV20 dc20 pm20 cd20 ct20 oc21 kV21 dc21 pm21 cd21 ct21 oc22 kV22 dc22 pm22 cd22 ct22 oc23 kV23 dc23 pm23 cd23 ct23 oc24 kV24 dc24 pm24 cd24 ct24 oc25 kV25 dc25 pm25 cd25 ct25 oc26 kV26 dc26 pm26 cd26 ct26 oc27 kV27 dc27 pm27 cd27 ct27 oc28 kV28 dc28 pm28 cd28 ct28 oc29 kV29 dc29 pm29 cd29 ct29 oc30 kV30 dc30 pm30 cd30 ct30 oc31 kV31 dc31 pm31 cd31 ct31 oc32 kV32 dc32 pm32 cd32 ct32 : Value}
    {td0 td1 : Option Addr} {tl0 tl1 : Array (Option Value)} {tn0 tn1 : Nat} {tk0_0 tk0_1 tk1_0 tk1_1 : Tok}
    (a0 : PySem.W.nsIn K mainGlobals "common_divisor" = some (some (.ref f0)))
    (l0 : K.lookup f0 = some ⟨oc0, od0, .func (PySem.W.fnOf "common_divisor" "common_divisor" (defArgs s_common_divisor) (defBody s_common_divisor) (defScope s_common_divisor) .none kV0 dc0 pm0 an0 cd0 ct0), sl0⟩)
    (c0 : PySem.W.codeIn K cd0 "common_divisor" = true) (k0 : PySem.W.keepIn K (.ref f0) = true)
    (a1 : PySem.W.nsIn K mainGlobals "made" = some (some (.ref f1)))
    (l1 : K.lookup f1 = some ⟨oc1, od1, .func (PySem.W.fnOf "made" "made" (defArgs s_made) (defBody s_made) (defScope s_made) .none kV1 dc1 pm1 an1 cd1 ct1), sl1⟩)
    (c1 : PySem.W.codeIn K cd1 "made" = true) (k1 : PySem.W.keepIn K (.ref f1) = true)
    (a2 : PySem.W.nsIn K mainGlobals "opposite" = some (some (.ref f2)))
    (l2 : K.lookup f2 = some ⟨oc2, od2, .func (PySem.W.fnOf "opposite" "opposite" (defArgs s_opposite) (defBody s_opposite) (defScope s_opposite) .none kV2 dc2 pm2 an2 cd2 ct2), sl2⟩)
    (c2 : PySem.W.codeIn K cd2 "opposite" = true) (k2 : PySem.W.keepIn K (.ref f2) = true)
    (a3 : PySem.W.nsIn K mainGlobals "plus" = some (some (.ref f3)))
    (l3 : K.lookup f3 = some ⟨oc3, od3, .func (PySem.W.fnOf "plus" "plus" (defArgs s_plus) (defBody s_plus) (defScope s_plus) .none kV3 dc3 pm3 an3 cd3 ct3), sl3⟩)
    (c3 : PySem.W.codeIn K cd3 "plus" = true) (k3 : PySem.W.keepIn K (.ref f3) = true)
    (a4 : PySem.W.nsIn K mainGlobals "times" = some (some (.ref f4)))
    (l4 : K.lookup f4 = some ⟨oc4, od4, .func (PySem.W.fnOf "times" "times" (defArgs s_times) (defBody s_times) (defScope s_times) .none kV4 dc4 pm4 an4 cd4 ct4), sl4⟩)
    (c4 : PySem.W.codeIn K cd4 "times" = true) (k4 : PySem.W.keepIn K (.ref f4) = true)
    (a5 : PySem.W.nsIn K mainGlobals "over" = some (some (.ref f5)))
    (l5 : K.lookup f5 = some ⟨oc5, od5, .func (PySem.W.fnOf "over" "over" (defArgs s_over) (defBody s_over) (defScope s_over) .none kV5 dc5 pm5 an5 cd5 ct5), sl5⟩)
    (c5 : PySem.W.codeIn K cd5 "over" = true) (k5 : PySem.W.keepIn K (.ref f5) = true)
    (a6 : PySem.W.nsIn K mainGlobals "solved_for" = some (some (.ref f6)))
    (l6 : K.lookup f6 = some ⟨oc6, od6, .func (PySem.W.fnOf "solved_for" "solved_for" (defArgs s_solved_for) (defBody s_solved_for) (defScope s_solved_for) .none kV6 dc6 pm6 an6 cd6 ct6), sl6⟩)
    (c6 : PySem.W.codeIn K cd6 "solved_for" = true) (k6 : PySem.W.keepIn K (.ref f6) = true)
    (a7 : PySem.W.nsIn K mainGlobals "with_put_in" = some (some (.ref f7)))
    (l7 : K.lookup f7 = some ⟨oc7, od7, .func (PySem.W.fnOf "with_put_in" "with_put_in" (defArgs s_with_put_in) (defBody s_with_put_in) (defScope s_with_put_in) .none kV7 dc7 pm7 an7 cd7 ct7), sl7⟩)
    (c7 : PySem.W.codeIn K cd7 "with_put_in" = true) (k7 : PySem.W.keepIn K (.ref f7) = true)
    (a8 : PySem.W.nsIn K mainGlobals "exchanged" = some (some (.ref f8)))
    (l8 : K.lookup f8 = some ⟨oc8, od8, .func (PySem.W.fnOf "exchanged" "exchanged" (defArgs s_exchanged) (defBody s_exchanged) (defScope s_exchanged) .none kV8 dc8 pm8 an8 cd8 ct8), sl8⟩)
    (c8 : PySem.W.codeIn K cd8 "exchanged" = true) (k8 : PySem.W.keepIn K (.ref f8) = true)
    (a9 : PySem.W.nsIn K mainGlobals "after_changes" = some (some (.ref f9)))
    (l9 : K.lookup f9 = some ⟨oc9, od9, .func (PySem.W.fnOf "after_changes" "after_changes" (defArgs s_after_changes) (defBody s_after_changes) (defScope s_after_changes) .none kV9 dc9 pm9 an9 cd9 ct9), sl9⟩)
    (c9 : PySem.W.codeIn K cd9 "after_changes" = true) (k9 : PySem.W.keepIn K (.ref f9) = true)
    (a10 : PySem.W.nsIn K mainGlobals "_law_whole" = some (some (.ref f10)))
    (l10 : K.lookup f10 = some ⟨oc10, od10, .func (PySem.W.fnOf "_law_whole" "_law_whole" (defArgs s__law_whole) (defBody s__law_whole) (defScope s__law_whole) .none kV10 dc10 pm10 an10 cd10 ct10), sl10⟩)
    (c10 : PySem.W.codeIn K cd10 "_law_whole" = true) (k10 : PySem.W.keepIn K (.ref f10) = true)
    (a11 : PySem.W.nsIn K mainGlobals "_law_at" = some (some (.ref f11)))
    (l11 : K.lookup f11 = some ⟨oc11, od11, .func (PySem.W.fnOf "_law_at" "_law_at" (defArgs s__law_at) (defBody s__law_at) (defScope s__law_at) .none kV11 dc11 pm11 an11 cd11 ct11), sl11⟩)
    (c11 : PySem.W.codeIn K cd11 "_law_at" = true) (k11 : PySem.W.keepIn K (.ref f11) = true)
    (a12 : PySem.W.nsIn K mainGlobals "_law_same" = some (some (.ref f12)))
    (l12 : K.lookup f12 = some ⟨oc12, od12, .func (PySem.W.fnOf "_law_same" "_law_same" (defArgs s__law_same) (defBody s__law_same) (defScope s__law_same) .none kV12 dc12 pm12 an12 cd12 ct12), sl12⟩)
    (c12 : PySem.W.codeIn K cd12 "_law_same" = true) (k12 : PySem.W.keepIn K (.ref f12) = true)
    (a13 : PySem.W.nsIn K mainGlobals "_law_common" = some (some (.ref f13)))
    (l13 : K.lookup f13 = some ⟨oc13, od13, .func (PySem.W.fnOf "_law_common" "_law_common" (defArgs s__law_common) (defBody s__law_common) (defScope s__law_common) .none kV13 dc13 pm13 an13 cd13 ct13), sl13⟩)
    (c13 : PySem.W.codeIn K cd13 "_law_common" = true) (k13 : PySem.W.keepIn K (.ref f13) = true)
    (a14 : PySem.W.nsIn K mainGlobals "_law_is_fraction" = some (some (.ref f14)))
    (l14 : K.lookup f14 = some ⟨oc14, od14, .func (PySem.W.fnOf "_law_is_fraction" "_law_is_fraction" (defArgs s__law_is_fraction) (defBody s__law_is_fraction) (defScope s__law_is_fraction) .none kV14 dc14 pm14 an14 cd14 ct14), sl14⟩)
    (c14 : PySem.W.codeIn K cd14 "_law_is_fraction" = true) (k14 : PySem.W.keepIn K (.ref f14) = true)
    (a15 : PySem.W.nsIn K mainGlobals "_law_are_fractions" = some (some (.ref f15)))
    (l15 : K.lookup f15 = some ⟨oc15, od15, .func (PySem.W.fnOf "_law_are_fractions" "_law_are_fractions" (defArgs s__law_are_fractions) (defBody s__law_are_fractions) (defScope s__law_are_fractions) .none kV15 dc15 pm15 an15 cd15 ct15), sl15⟩)
    (c15 : PySem.W.codeIn K cd15 "_law_are_fractions" = true) (k15 : PySem.W.keepIn K (.ref f15) = true)
    (a16 : PySem.W.nsIn K mainGlobals "_law_small" = some (some (.ref f16)))
    (l16 : K.lookup f16 = some ⟨oc16, od16, .func (PySem.W.fnOf "_law_small" "_law_small" (defArgs s__law_small) (defBody s__law_small) (defScope s__law_small) .none kV16 dc16 pm16 an16 cd16 ct16), sl16⟩)
    (c16 : PySem.W.codeIn K cd16 "_law_small" = true) (k16 : PySem.W.keepIn K (.ref f16) = true)
    (a17 : PySem.W.nsIn K mainGlobals "_law_sum" = some (some (.ref f17)))
    (l17 : K.lookup f17 = some ⟨oc17, od17, .func (PySem.W.fnOf "_law_sum" "_law_sum" (defArgs s__law_sum) (defBody s__law_sum) (defScope s__law_sum) .none kV17 dc17 pm17 an17 cd17 ct17), sl17⟩)
    (c17 : PySem.W.codeIn K cd17 "_law_sum" = true) (k17 : PySem.W.keepIn K (.ref f17) = true)
    (a18 : PySem.W.nsIn K mainGlobals "_law_equal" = some (some (.ref f18)))
    (l18 : K.lookup f18 = some ⟨oc18, od18, .func (PySem.W.fnOf "_law_equal" "_law_equal" (defArgs s__law_equal) (defBody s__law_equal) (defScope s__law_equal) .none kV18 dc18 pm18 an18 cd18 ct18), sl18⟩)
    (c18 : PySem.W.codeIn K cd18 "_law_equal" = true) (k18 : PySem.W.keepIn K (.ref f18) = true)
    (a19 : PySem.W.nsIn K mainGlobals "_law_sheet_of" = some (some (.ref f19)))
    (l19 : K.lookup f19 = some ⟨oc19, od19, .func (PySem.W.fnOf "_law_sheet_of" "_law_sheet_of" (defArgs s__law_sheet_of) (defBody s__law_sheet_of) (defScope s__law_sheet_of) .none kV19 dc19 pm19 an19 cd19 ct19), sl19⟩)
    (c19 : PySem.W.codeIn K cd19 "_law_sheet_of" = true) (k19 : PySem.W.keepIn K (.ref f19) = true)
    (a20 : PySem.W.nsIn K mainGlobals "_law_fits" = some (some (.ref f20)))
    (l20 : K.lookup f20 = some ⟨oc20, od20, .func (PySem.W.fnOf "_law_fits" "_law_fits" (defArgs s__law_fits) (defBody s__law_fits) (defScope s__law_fits) .none kV20 dc20 pm20 an20 cd20 ct20), sl20⟩)
    (c20 : PySem.W.codeIn K cd20 "_law_fits" = true) (k20 : PySem.W.keepIn K (.ref f20) = true)
    (a21 : PySem.W.nsIn K mainGlobals "_law_is_sheet" = some (some (.ref f21)))
    (l21 : K.lookup f21 = some ⟨oc21, od21, .func (PySem.W.fnOf "_law_is_sheet" "_law_is_sheet" (defArgs s__law_is_sheet) (defBody s__law_is_sheet) (defScope s__law_is_sheet) .none kV21 dc21 pm21 an21 cd21 ct21), sl21⟩)
    (c21 : PySem.W.codeIn K cd21 "_law_is_sheet" = true) (k21 : PySem.W.keepIn K (.ref f21) = true)
    (a22 : PySem.W.nsIn K mainGlobals "_law_cut" = some (some (.ref f22)))
    (l22 : K.lookup f22 = some ⟨oc22, od22, .func (PySem.W.fnOf "_law_cut" "_law_cut" (defArgs s__law_cut) (defBody s__law_cut) (defScope s__law_cut) .none kV22 dc22 pm22 an22 cd22 ct22), sl22⟩)
    (c22 : PySem.W.codeIn K cd22 "_law_cut" = true) (k22 : PySem.W.keepIn K (.ref f22) = true)
    (a23 : PySem.W.nsIn K mainGlobals "_law_times" = some (some (.ref f23)))
    (l23 : K.lookup f23 = some ⟨oc23, od23, .func (PySem.W.fnOf "_law_times" "_law_times" (defArgs s__law_times) (defBody s__law_times) (defScope s__law_times) .none kV23 dc23 pm23 an23 cd23 ct23), sl23⟩)
    (c23 : PySem.W.codeIn K cd23 "_law_times" = true) (k23 : PySem.W.keepIn K (.ref f23) = true)
    (a24 : PySem.W.nsIn K mainGlobals "_law_plus" = some (some (.ref f24)))
    (l24 : K.lookup f24 = some ⟨oc24, od24, .func (PySem.W.fnOf "_law_plus" "_law_plus" (defArgs s__law_plus) (defBody s__law_plus) (defScope s__law_plus) .none kV24 dc24 pm24 an24 cd24 ct24), sl24⟩)
    (c24 : PySem.W.codeIn K cd24 "_law_plus" = true) (k24 : PySem.W.keepIn K (.ref f24) = true)
    (a25 : PySem.W.nsIn K mainGlobals "_law_put_in" = some (some (.ref f25)))
    (l25 : K.lookup f25 = some ⟨oc25, od25, .func (PySem.W.fnOf "_law_put_in" "_law_put_in" (defArgs s__law_put_in) (defBody s__law_put_in) (defScope s__law_put_in) .none kV25 dc25 pm25 an25 cd25 ct25), sl25⟩)
    (c25 : PySem.W.codeIn K cd25 "_law_put_in" = true) (k25 : PySem.W.keepIn K (.ref f25) = true)
    (a26 : PySem.W.nsIn K mainGlobals "_law_solved_for" = some (some (.ref f26)))
    (l26 : K.lookup f26 = some ⟨oc26, od26, .func (PySem.W.fnOf "_law_solved_for" "_law_solved_for" (defArgs s__law_solved_for) (defBody s__law_solved_for) (defScope s__law_solved_for) .none kV26 dc26 pm26 an26 cd26 ct26), sl26⟩)
    (c26 : PySem.W.codeIn K cd26 "_law_solved_for" = true) (k26 : PySem.W.keepIn K (.ref f26) = true)
    (a27 : PySem.W.nsIn K mainGlobals "_law_changed" = some (some (.ref f27)))
    (l27 : K.lookup f27 = some ⟨oc27, od27, .func (PySem.W.fnOf "_law_changed" "_law_changed" (defArgs s__law_changed) (defBody s__law_changed) (defScope s__law_changed) .none kV27 dc27 pm27 an27 cd27 ct27), sl27⟩)
    (c27 : PySem.W.codeIn K cd27 "_law_changed" = true) (k27 : PySem.W.keepIn K (.ref f27) = true)
    (a28 : PySem.W.nsIn K mainGlobals "_law_points_of" = some (some (.ref f28)))
    (l28 : K.lookup f28 = some ⟨oc28, od28, .func (PySem.W.fnOf "_law_points_of" "_law_points_of" (defArgs s__law_points_of) (defBody s__law_points_of) (defScope s__law_points_of) .none kV28 dc28 pm28 an28 cd28 ct28), sl28⟩)
    (c28 : PySem.W.codeIn K cd28 "_law_points_of" = true) (k28 : PySem.W.keepIn K (.ref f28) = true)
    (a29 : PySem.W.nsIn K mainGlobals "_law_values_of" = some (some (.ref f29)))
    (l29 : K.lookup f29 = some ⟨oc29, od29, .func (PySem.W.fnOf "_law_values_of" "_law_values_of" (defArgs s__law_values_of) (defBody s__law_values_of) (defScope s__law_values_of) .none kV29 dc29 pm29 an29 cd29 ct29), sl29⟩)
    (c29 : PySem.W.codeIn K cd29 "_law_values_of" = true) (k29 : PySem.W.keepIn K (.ref f29) = true)
    (a30 : PySem.W.nsIn K mainGlobals "_law_goal_of" = some (some (.ref f30)))
    (l30 : K.lookup f30 = some ⟨oc30, od30, .func (PySem.W.fnOf "_law_goal_of" "_law_goal_of" (defArgs s__law_goal_of) (defBody s__law_goal_of) (defScope s__law_goal_of) .none kV30 dc30 pm30 an30 cd30 ct30), sl30⟩)
    (c30 : PySem.W.codeIn K cd30 "_law_goal_of" = true) (k30 : PySem.W.keepIn K (.ref f30) = true)
    (a31 : PySem.W.nsIn K mainGlobals "law" = some (some (.ref f31)))
    (l31 : K.lookup f31 = some ⟨oc31, od31, .func (PySem.W.fnOf "law" "law" (defArgs s_law) (defBody s_law) (defScope s_law) .none kV31 dc31 pm31 an31 cd31 ct31), sl31⟩)
    (c31 : PySem.W.codeIn K cd31 "law" = true) (k31 : PySem.W.keepIn K (.ref f31) = true)
    (a32 : PySem.W.findIn K (.ref g2) "__init__" = some (some (.ref f32))) (i32 : PySem.W.isFn K (.ref f32) = true)
    (l32 : K.lookup f32 = some ⟨oc32, od32, .func (PySem.W.fnOf "__init__" "Sheet.__init__" (defArgs s_Sheet___init__) (defBody s_Sheet___init__) (defScope s_Sheet___init__) .none kV32 dc32 pm32 an32 cd32 ct32), sl32⟩)
    (c32 : PySem.W.codeIn K cd32 "Sheet.__init__" = true) (k32 : PySem.W.keepIn K (.ref f32) = true)
    (z0 : PySem.W.nsIn K mainGlobals "ValueError" = some none)
    (z1 : PySem.W.nsIn K mainGlobals "abs" = some none)
    (z2 : PySem.W.nsIn K mainGlobals "bool" = some none)
    (z3 : PySem.W.nsIn K mainGlobals "int" = some none)
    (z4 : PySem.W.nsIn K mainGlobals "isinstance" = some none)
    (z5 : PySem.W.nsIn K mainGlobals "len" = some none)
    (z6 : PySem.W.nsIn K mainGlobals "list" = some none)
    (z7 : PySem.W.nsIn K mainGlobals "range" = some none)
    (z8 : PySem.W.nsIn K mainGlobals "str" = some none)
    (z9 : PySem.W.nsIn K mainGlobals "tuple" = some none)
    (z10 : PySem.W.nsIn K mainGlobals "zip" = some none)
    (y0 : PySem.W.nsIn K mainGlobals "PlanError" = some (some (.ref g0)))
    (y1 : PySem.W.nsIn K mainGlobals "NoFraction" = some (some (.ref g1)))
    (y2 : PySem.W.nsIn K mainGlobals "Sheet" = some (some (.ref g2)))
    (u0 : PySem.W.nsIn K mainGlobals "NOUGHT" = some (some (.ref h0)))
    (v0 : K.lookup h0 = some ⟨.type "tuple", td0, .seq #[.int 0 tk0_0, .int 1 tk0_1] tn0, tl0⟩)
    (u1 : PySem.W.nsIn K mainGlobals "ONE" = some (some (.ref h1)))
    (v1 : K.lookup h1 = some ⟨.type "tuple", td1, .seq #[.int 1 tk1_0, .int 1 tk1_1] tn1, tl1⟩)
    (w2_pg : PySem.W.plainGet K g2 Str.empty = true) (w2_hd : PySem.W.hasDictIn K g2 = true) (w2_po : PySem.W.plainOver K g2 = true) (w2_sa : PySem.W.findIn K (.ref g2) "__setattr__" = some (some (.builtin "object.__setattr__"))) (w2_mk : PySem.W.makesIn K g2 = true) (w2_kc : PySem.W.keepIn K (.ref g2) = true)
    (w2_n_inner : PySem.W.findIn K (.ref g2) "inner" = some none)
    (w2_n_outer : PySem.W.findIn K (.ref g2) "outer" = some none)
    (w2_n_lines : PySem.W.findIn K (.ref g2) "lines" = some none)
    (w2_n_goal : PySem.W.findIn K (.ref g2) "goal" = some none)
    (q1 : PySem.W.excIn K g1 [.type "ValueError", .type "Exception", .type "BaseException", .type "object"] "ValueError.__new__" = true) : ∃ t : Adr, Txt K mg t ∧ Ers K mg t ∧ t.f_law = fa := by
  refine ⟨⟨f0, PySem.W.fnOf "common_divisor" "common_divisor" (defArgs s_common_divisor) (defBody s_common_divisor) (defScope s_common_divisor) .none kV0 dc0 pm0 an0 cd0 ct0, f1, PySem.W.fnOf "made" "made" (defArgs s_made) (defBody s_made) (defScope s_made) .none kV1 dc1 pm1 an1 cd1 ct1, f2, PySem.W.fnOf "opposite" "opposite" (defArgs s_opposite) (defBody s_opposite) (defScope s_opposite) .none kV2 dc2 pm2 an2 cd2 ct2, f3, PySem.W.fnOf "plus" "plus" (defArgs s_plus) (defBody s_plus) (defScope s_plus) .none kV3 dc3 pm3 an3 cd3 ct3, f4, PySem.W.fnOf "times" "times" (defArgs s_times) (defBody s_times) (defScope s_times) .none kV4 dc4 pm4 an4 cd4 ct4, f5, PySem.W.fnOf "over" "over" (defArgs s_over) (defBody s_over) (defScope s_over) .none kV5 dc5 pm5 an5 cd5 ct5, f6, PySem.W.fnOf "solved_for" "solved_for" (defArgs s_solved_for) (defBody s_solved_for) (defScope s_solved_for) .none kV6 dc6 pm6 an6 cd6 ct6, f7, PySem.W.fnOf "with_put_in" "with_put_in" (defArgs s_with_put_in) (defBody s_with_put_in) (defScope s_with_put_in) .none kV7 dc7 pm7 an7 cd7 ct7, f8, PySem.W.fnOf "exchanged" "exchanged" (defArgs s_exchanged) (defBody s_exchanged) (defScope s_exchanged) .none kV8 dc8 pm8 an8 cd8 ct8, f9, PySem.W.fnOf "after_changes" "after_changes" (defArgs s_after_changes) (defBody s_after_changes) (defScope s_after_changes) .none kV9 dc9 pm9 an9 cd9 ct9, f10, PySem.W.fnOf "_law_whole" "_law_whole" (defArgs s__law_whole) (defBody s__law_whole) (defScope s__law_whole) .none kV10 dc10 pm10 an10 cd10 ct10, f11, PySem.W.fnOf "_law_at" "_law_at" (defArgs s__law_at) (defBody s__law_at) (defScope s__law_at) .none kV11 dc11 pm11 an11 cd11 ct11, f12, PySem.W.fnOf "_law_same" "_law_same" (defArgs s__law_same) (defBody s__law_same) (defScope s__law_same) .none kV12 dc12 pm12 an12 cd12 ct12, f13, PySem.W.fnOf "_law_common" "_law_common" (defArgs s__law_common) (defBody s__law_common) (defScope s__law_common) .none kV13 dc13 pm13 an13 cd13 ct13, f14, PySem.W.fnOf "_law_is_fraction" "_law_is_fraction" (defArgs s__law_is_fraction) (defBody s__law_is_fraction) (defScope s__law_is_fraction) .none kV14 dc14 pm14 an14 cd14 ct14, f15, PySem.W.fnOf "_law_are_fractions" "_law_are_fractions" (defArgs s__law_are_fractions) (defBody s__law_are_fractions) (defScope s__law_are_fractions) .none kV15 dc15 pm15 an15 cd15 ct15, f16, PySem.W.fnOf "_law_small" "_law_small" (defArgs s__law_small) (defBody s__law_small) (defScope s__law_small) .none kV16 dc16 pm16 an16 cd16 ct16, f17, PySem.W.fnOf "_law_sum" "_law_sum" (defArgs s__law_sum) (defBody s__law_sum) (defScope s__law_sum) .none kV17 dc17 pm17 an17 cd17 ct17, f18, PySem.W.fnOf "_law_equal" "_law_equal" (defArgs s__law_equal) (defBody s__law_equal) (defScope s__law_equal) .none kV18 dc18 pm18 an18 cd18 ct18, f19, PySem.W.fnOf "_law_sheet_of" "_law_sheet_of" (defArgs s__law_sheet_of) (defBody s__law_sheet_of) (defScope s__law_sheet_of) .none kV19 dc19 pm19 an19 cd19 ct19, f20, PySem.W.fnOf "_law_fits" "_law_fits" (defArgs s__law_fits) (defBody s__law_fits) (defScope s__law_fits) .none kV20 dc20 pm20 an20 cd20 ct20, f21, PySem.W.fnOf "_law_is_sheet" "_law_is_sheet" (defArgs s__law_is_sheet) (defBody s__law_is_sheet) (defScope s__law_is_sheet) .none kV21 dc21 pm21 an21 cd21 ct21, f22, PySem.W.fnOf "_law_cut" "_law_cut" (defArgs s__law_cut) (defBody s__law_cut) (defScope s__law_cut) .none kV22 dc22 pm22 an22 cd22 ct22, f23, PySem.W.fnOf "_law_times" "_law_times" (defArgs s__law_times) (defBody s__law_times) (defScope s__law_times) .none kV23 dc23 pm23 an23 cd23 ct23, f24, PySem.W.fnOf "_law_plus" "_law_plus" (defArgs s__law_plus) (defBody s__law_plus) (defScope s__law_plus) .none kV24 dc24 pm24 an24 cd24 ct24, f25, PySem.W.fnOf "_law_put_in" "_law_put_in" (defArgs s__law_put_in) (defBody s__law_put_in) (defScope s__law_put_in) .none kV25 dc25 pm25 an25 cd25 ct25, f26, PySem.W.fnOf "_law_solved_for" "_law_solved_for" (defArgs s__law_solved_for) (defBody s__law_solved_for) (defScope s__law_solved_for) .none kV26 dc26 pm26 an26 cd26 ct26, f27, PySem.W.fnOf "_law_changed" "_law_changed" (defArgs s__law_changed) (defBody s__law_changed) (defScope s__law_changed) .none kV27 dc27 pm27 an27 cd27 ct27, f28, PySem.W.fnOf "_law_points_of" "_law_points_of" (defArgs s__law_points_of) (defBody s__law_points_of) (defScope s__law_points_of) .none kV28 dc28 pm28 an28 cd28 ct28, f29, PySem.W.fnOf "_law_values_of" "_law_values_of" (defArgs s__law_values_of) (defBody s__law_values_of) (defScope s__law_values_of) .none kV29 dc29 pm29 an29 cd29 ct29, f30, PySem.W.fnOf "_law_goal_of" "_law_goal_of" (defArgs s__law_goal_of) (defBody s__law_goal_of) (defScope s__law_goal_of) .none kV30 dc30 pm30 an30 cd30 ct30, f31, PySem.W.fnOf "law" "law" (defArgs s_law) (defBody s_law) (defScope s_law) .none kV31 dc31 pm31 an31 cd31 ct31, f32, PySem.W.fnOf "__init__" "Sheet.__init__" (defArgs s_Sheet___init__) (defBody s_Sheet___init__) (defScope s_Sheet___init__) .none kV32 dc32 pm32 an32 cd32 ct32, g0, g1, g2, h0, h1⟩, ⟨fun_mk (st := s_common_divisor) l0 c0 k0, (fun_mk (st := s_common_divisor) l0 c0 k0).binds (ps := ["one", "two"]) (us_2 rfl fun _ _ _ _ _ _ _ _ => rfl), PySem.W.mg_of X G a0, fun_mk (st := s_made) l1 c1 k1, (fun_mk (st := s_made) l1 c1 k1).binds (ps := ["top", "bottom"]) (us_2 rfl fun _ _ _ _ _ _ _ _ => rfl), PySem.W.mg_of X G a1, fun_mk (st := s_opposite) l2 c2 k2, (fun_mk (st := s_opposite) l2 c2 k2).binds (ps := ["fraction"]) (us_1 rfl fun _ _ _ _ _ _ _ => rfl), PySem.W.mg_of X G a2, fun_mk (st := s_plus) l3 c3 k3, (fun_mk (st := s_plus) l3 c3 k3).binds (ps := ["one", "two"]) (us_2 rfl fun _ _ _ _ _ _ _ _ => rfl), PySem.W.mg_of X G a3, fun_mk (st := s_times) l4 c4 k4, (fun_mk (st := s_times) l4 c4 k4).binds (ps := ["one", "two"]) (us_2 rfl fun _ _ _ _ _ _ _ _ => rfl), PySem.W.mg_of X G a4, fun_mk (st := s_over) l5 c5 k5, (fun_mk (st := s_over) l5 c5 k5).binds (ps := ["one", "two"]) (us_2 rfl fun _ _ _ _ _ _ _ _ => rfl), PySem.W.mg_of X G a5, fun_mk (st := s_solved_for) l6 c6 k6, (fun_mk (st := s_solved_for) l6 c6 k6).binds (ps := ["line", "place"]) (us_2 rfl fun _ _ _ _ _ _ _ _ => rfl), PySem.W.mg_of X G a6, fun_mk (st := s_with_put_in) l7 c7 k7, (fun_mk (st := s_with_put_in) l7 c7 k7).binds (ps := ["line", "place", "told"]) (us_3 rfl fun _ _ _ _ _ _ _ _ _ => rfl), PySem.W.mg_of X G a7, fun_mk (st := s_exchanged) l8 c8 k8, (fun_mk (st := s_exchanged) l8 c8 k8).binds (ps := ["sheet", "row", "place"]) (us_3 rfl fun _ _ _ _ _ _ _ _ _ => rfl), PySem.W.mg_of X G a8, fun_mk (st := s_after_changes) l9 c9 k9, (fun_mk (st := s_after_changes) l9 c9 k9).binds (ps := ["inner", "outer", "bases", "rows", "gains", "changes"]) (us_6 rfl fun _ _ _ _ _ _ _ _ _ _ _ _ => rfl), PySem.W.mg_of X G a9, fun_mk (st := s__law_whole) l10 c10 k10, (fun_mk (st := s__law_whole) l10 c10 k10).binds (ps := ["_law_found"]) (us_1 rfl fun _ _ _ _ _ _ _ => rfl), PySem.W.mg_of X G a10, fun_mk (st := s__law_at) l11 c11 k11, (fun_mk (st := s__law_at) l11 c11 k11).binds (ps := ["_law_script", "_law_k"]) (us_2 rfl fun _ _ _ _ _ _ _ _ => rfl), PySem.W.mg_of X G a11, fun_mk (st := s__law_same) l12 c12 k12, (fun_mk (st := s__law_same) l12 c12 k12).binds (ps := ["_law_found", "_law_due"]) (us_2 rfl fun _ _ _ _ _ _ _ _ => rfl), PySem.W.mg_of X G a12, fun_mk (st := s__law_common) l13 c13 k13, (fun_mk (st := s__law_common) l13 c13 k13).binds (ps := ["_law_one", "_law_two"]) (us_2 rfl fun _ _ _ _ _ _ _ _ => rfl), PySem.W.mg_of X G a13, fun_mk (st := s__law_is_fraction) l14 c14 k14, (fun_mk (st := s__law_is_fraction) l14 c14 k14).binds (ps := ["_law_found"]) (us_1 rfl fun _ _ _ _ _ _ _ => rfl), PySem.W.mg_of X G a14, fun_mk (st := s__law_are_fractions) l15 c15 k15, (fun_mk (st := s__law_are_fractions) l15 c15 k15).binds (ps := ["_law_found", "_law_count"]) (us_2 rfl fun _ _ _ _ _ _ _ _ => rfl), PySem.W.mg_of X G a15, fun_mk (st := s__law_small) l16 c16 k16, (fun_mk (st := s__law_small) l16 c16 k16).binds (ps := ["_law_cell"]) (us_1 rfl fun _ _ _ _ _ _ _ => rfl), PySem.W.mg_of X G a16, fun_mk (st := s__law_sum) l17 c17 k17, (fun_mk (st := s__law_sum) l17 c17 k17).binds (ps := ["_law_base", "_law_ones", "_law_others"]) (us_3 rfl fun _ _ _ _ _ _ _ _ _ => rfl), PySem.W.mg_of X G a17, fun_mk (st := s__law_equal) l18 c18 k18, (fun_mk (st := s__law_equal) l18 c18 k18).binds (ps := ["_law_one", "_law_two"]) (us_2 rfl fun _ _ _ _ _ _ _ _ => rfl), PySem.W.mg_of X G a18, fun_mk (st := s__law_sheet_of) l19 c19 k19, (fun_mk (st := s__law_sheet_of) l19 c19 k19).binds (ps := ["_law_script", "_law_many", "_law_wide"]) (us_3 rfl fun _ _ _ _ _ _ _ _ _ => rfl), PySem.W.mg_of X G a19, fun_mk (st := s__law_fits) l20 c20 k20, (fun_mk (st := s__law_fits) l20 c20 k20).binds (ps := ["_law_found", "_law_values", "_law_goal"]) (us_3 rfl fun _ _ _ _ _ _ _ _ _ => rfl), PySem.W.mg_of X G a20, fun_mk (st := s__law_is_sheet) l21 c21 k21, (fun_mk (st := s__law_is_sheet) l21 c21 k21).binds (ps := ["_law_found"]) (us_1 rfl fun _ _ _ _ _ _ _ => rfl), PySem.W.mg_of X G a21, fun_mk (st := s__law_cut) l22 c22 k22, (fun_mk (st := s__law_cut) l22 c22 k22).binds (ps := ["_law_pair"]) (us_1 rfl fun _ _ _ _ _ _ _ => rfl), PySem.W.mg_of X G a22, fun_mk (st := s__law_times) l23 c23 k23, (fun_mk (st := s__law_times) l23 c23 k23).binds (ps := ["_law_one", "_law_two"]) (us_2 rfl fun _ _ _ _ _ _ _ _ => rfl), PySem.W.mg_of X G a23, fun_mk (st := s__law_plus) l24 c24 k24, (fun_mk (st := s__law_plus) l24 c24 k24).binds (ps := ["_law_one", "_law_two"]) (us_2 rfl fun _ _ _ _ _ _ _ _ => rfl), PySem.W.mg_of X G a24, fun_mk (st := s__law_put_in) l25 c25 k25, (fun_mk (st := s__law_put_in) l25 c25 k25).binds (ps := ["_law_line", "_law_column", "_law_told"]) (us_3 rfl fun _ _ _ _ _ _ _ _ _ => rfl), PySem.W.mg_of X G a25, fun_mk (st := s__law_solved_for) l26 c26 k26, (fun_mk (st := s__law_solved_for) l26 c26 k26).binds (ps := ["_law_line", "_law_column"]) (us_2 rfl fun _ _ _ _ _ _ _ _ => rfl), PySem.W.mg_of X G a26, fun_mk (st := s__law_changed) l27 c27 k27, (fun_mk (st := s__law_changed) l27 c27 k27).binds (ps := ["_law_lines", "_law_place", "_law_column"]) (us_3 rfl fun _ _ _ _ _ _ _ _ _ => rfl), PySem.W.mg_of X G a27, fun_mk (st := s__law_points_of) l28 c28 k28, (fun_mk (st := s__law_points_of) l28 c28 k28).binds (ps := ["_law_script", "_law_wide"]) (us_2 rfl fun _ _ _ _ _ _ _ _ => rfl), PySem.W.mg_of X G a28, fun_mk (st := s__law_values_of) l29 c29 k29, (fun_mk (st := s__law_values_of) l29 c29 k29).binds (ps := ["_law_script", "_law_inner", "_law_outer", "_law_bases", "_law_rows"]) (us_5 rfl fun _ _ _ _ _ _ _ _ _ _ _ => rfl), PySem.W.mg_of X G a29, fun_mk (st := s__law_goal_of) l30 c30 k30, (fun_mk (st := s__law_goal_of) l30 c30 k30).binds (ps := ["_law_script", "_law_gains"]) (us_2 rfl fun _ _ _ _ _ _ _ _ => rfl), PySem.W.mg_of X G a30, fun_mk (st := s_law) l31 c31 k31, (fun_mk (st := s_law) l31 c31 k31).binds (ps := ["_law_script"]) (us_1 rfl fun _ _ _ _ _ _ _ => rfl), PySem.W.mg_of X G a31, fun_mk (st := s_Sheet___init__) l32 c32 k32, (fun_mk (st := s_Sheet___init__) l32 c32 k32).binds (ps := ["self", "inner", "outer", "lines", "goal"]) (us_5 rfl fun _ _ _ _ _ _ _ _ _ _ _ => rfl), PySem.W.mg_none_of X G z0, PySem.W.mg_none_of X G z1, PySem.W.mg_none_of X G z2, PySem.W.mg_none_of X G z3, PySem.W.mg_none_of X G z4, PySem.W.mg_none_of X G z5, PySem.W.mg_none_of X G z6, PySem.W.mg_none_of X G z7, PySem.W.mg_none_of X G z8, PySem.W.mg_none_of X G z9, PySem.W.mg_none_of X G z10, PySem.W.mg_of X G y0, PySem.W.mg_of X G y1, PySem.W.mg_of X G y2, PySem.W.mg_of X G u0, fun _ => .inr ⟨_, _, _, v0, rfl, rfl, (by show 2 ≤ sizeLine; decide), .cons ⟨_, rfl⟩ (.cons ⟨_, rfl⟩ (.nil))⟩, PySem.W.mg_of X G u1, fun _ => .inr ⟨_, _, _, v1, rfl, rfl, (by show 2 ≤ sizeLine; decide), .cons ⟨_, rfl⟩ (.cons ⟨_, rfl⟩ (.nil))⟩, ⟨w2_mk, a32, i32, w2_kc⟩, ⟨w2_pg, w2_hd, w2_po, w2_sa⟩, w2_n_inner, w2_n_outer, w2_n_lines, w2_n_goal⟩, ⟨⟨y1, q1⟩, fun s v => .of_eq rfl⟩, Option.some.inj ((PySem.W.mg_of X G a31).symm.trans hfa) |> fun z => by cases z; rfl⟩
def pT (t b : Int) : Tr := .tup [.int t, .int b]
def frT (r : Rat) : Tr := pT r.num (r.den : Int)
def lnT (l : List Rat) : Tr := .lst (l.map frT)
def lnsT (L : List (List Rat)) : Tr := .lst (L.map lnT)
def intsT (l : List Int) : Tr := .lst (l.map Tr.int)
abbrev Res (K : PySem.W.Frag) (M H : Hp) (t : Tr) (Q : VK) : Prop := ∀ (v : V) (M' H' : Hp), Gr M H M' H' → At K M' t v → Q v H'
section
variable {K : PySem.W.Frag} {M H : Hp} {v : V}
theorem pT_inv {t b : Int} (h : At K M (pT t b) v) : ∃ a, v = .ref a ∧ SqT K M a [.int t, .int b] := by
  obtain ⟨a, xs, rfl, hs, r⟩ := h.tup_inv
  have : xs = [t, b].map V.int := Ats.ints_inv (ns := [t, b]) r
  subst this
  exact ⟨a, rfl, hs⟩
theorem fr_inv {r : Rat} (h : At K M (frT r) v) : ∃ a, v = .ref a ∧ SqT K M a (frV r) := pT_inv h
theorem pT_mk {t b : Int} {a : Addr} (h : SqT K M a [.int t, .int b]) : At K M (pT t b) (.ref a) := (Ats.cons .int (Ats.cons .int Ats.nil)).tup h
theorem ln_get {l : List Rat} {xs : List V} {i : Nat} {r : Rat} (h : Ats K M (l.map frT) xs) (e : l[i]? = some r) : ∃ x, xs[i]? = some x ∧ At K M (frT r) x := h.get (by rw [List.getElem?_map, e]; rfl)
theorem ln_get' {l : List Rat} {xs : List V} {i : Nat} {x : V} (h : Ats K M (l.map frT) xs) (e : xs[i]? = some x) : ∃ r, l[i]? = some r ∧ At K M (frT r) x := by
  obtain ⟨t, ht, a⟩ := h.get' e
  rw [List.getElem?_map] at ht
  cases q : l[i]? with
  | none => rw [q] at ht; cases ht
  | some r => rw [q] at ht; cases ht; exact ⟨r, rfl, a⟩
end
def spCd : Sp := fun vs H Q _ => ∃ a b : Int, vs = [.int a, .int b] ∧ 0 ≤ a ∧ 0 ≤ b ∧ Q (.int ((Int.gcd a b : Nat) : Int)) H
def spMade (K : PySem.W.Frag) : Sp := fun vs H Q _ => ∃ (t b : Int) (M : Hp), vs = [.int t, .int b] ∧ b ≠ 0 ∧ b.natAbs < 2 ^ 9000 ∧ Same M H ∧ Res K M H (frT (Rat.divInt t b)) Q
def spOpp (K : PySem.W.Frag) : Sp := fun vs H Q _ => ∃ (v : V) (r : Rat) (M : Hp), vs = [v] ∧ At K M (frT r) v ∧ Same M H ∧ Res K M H (frT (-r)) Q
def spTwo (K : PySem.W.Frag) (op : Rat → Rat → Rat) : Sp := fun vs H Q _ => ∃ (v w : V) (r s : Rat) (M : Hp), vs = [v, w] ∧ At K M (frT r) v ∧ At K M (frT s) w ∧ FM.Sm 4000 r ∧ FM.Sm 4000 s ∧ Same M H ∧ Res K M H (frT (op r s)) Q
def spOver (K : PySem.W.Frag) : Sp := fun vs H Q _ => ∃ (v w : V) (r s : Rat) (M : Hp), vs = [v, w] ∧ At K M (frT r) v ∧ At K M (frT s) w ∧ FM.Sm 4000 r ∧ FM.Sm 4000 s ∧ s ≠ 0 ∧ Same M H ∧ Res K M H (frT (r / s)) Q
/-- sizes -/
def SmL (n : Nat) (l : List Rat) : Prop := ∀ a ∈ l, FM.Sm n a
def spSolved (K : PySem.W.Frag) : Sp := fun vs H Q _ => ∃ (v : V) (l : List Rat) (p : Nat) (a : Rat) (M : Hp), vs = [v, .int p] ∧ At K M (lnT l) v ∧ l[p]? = some a ∧ a ≠ 0 ∧ l.length ≤ 1000 ∧ SmL 1000 l ∧ Same M H ∧ Res K M H (lnT (SH.told l p)) Q
def spPut (K : PySem.W.Frag) : Sp := fun vs H Q _ => ∃ (v w : V) (l t : List Rat) (p : Nat) (c d : Rat) (M : Hp), vs = [v, .int p, w] ∧ At K M (lnT l) v ∧ At K M (lnT t) w ∧ l[p]? = some c ∧ t[p]? = some d ∧ l.length = t.length ∧ l.length ≤ 1000 ∧ SmL 1000 l ∧ SmL 1000 t ∧ Same M H ∧ Res K M H (lnT (SH.putIn l p t)) Q
section
variable {P : Program} {w : World} {K : PySem.W.Frag} {mg : Str → Option Value} {base : Heap} {t : Adr} {k : Nat}
theorem ok_common_divisor (T : Txt K mg t) : FnOk P w K mg base CX0 (k + 1) t.f_common_divisor t.d_common_divisor ["one", "two"] spCd := by
  refine T.F_common_divisor.ok sc_common_divisor (fun vs H Q E h => ?_) (fun cdv A outer s H vs Q E hr h => ?_)
  · obtain ⟨a, b, rfl, _⟩ := h
    rfl
  obtain ⟨a, b, rfl, ha, hb, q⟩ := h
  refine ⟨_, (pss_cons (ps_while PassesOwn.never (pt_cmpR op_ne (pv 1) pe_int (nomark _))
      (pss_cons (ps_set (i := 2) sc_common_divisor.nd rfl (Or.inl rfl) (pe_op op_mod (pv 0) (pv 1)))
    (pss_cons (ps_set (i := 0) sc_common_divisor.nd rfl (Or.inl rfl) (pv 1))
    (pss_one (ps_set (i := 1) sc_common_divisor.nd rfl (Or.inl rfl) (pv 2))))))
    (pss_one (ps_ret (pv 0)))), ?_⟩
  refine while_by (fun σ H' => H' = H ∧ ∃ (x y : Int) (z : Option V), σ = [some (.int x), some (.int y), z] ∧ 0 ≤ x ∧ 0 ≤ y ∧ Int.gcd x y = Int.gcd a b) (fun σ _ => match σ with | [_, some (.int y), _] => y.toNat | _ => 0) ⟨rfl, a, b, none, rfl, ha, hb, rfl⟩ ?_ ?_
  · rintro σ H' ⟨rfl, x, y, z, rfl, hx, hy, hg⟩
    refine ⟨_, rfl, rfl, _, rfl, ?_⟩
    refine ite2 (fun c => ?_) (fun c => ?_)
    · have hy' : 0 < y := by have := ne_of_test c; omega
      refine ⟨_, rfl, _, rfl, _, _, rfl, rfl, hy', _, rfl, _, rfl, ⟨rfl, y, x % y, _, rfl, hy, Int.emod_nonneg _ (by omega), ?_⟩, ?_⟩
      · rw [FM.gcd_turn hx hy', hg]
      · have := Int.emod_lt_of_pos x hy'
        show (x % y).toNat < y.toNat
        omega
    · have hy0 : y = 0 := eq_of_ntest c
      subst hy0
      refine ⟨_, rfl, ?_⟩
      have e : ((Int.gcd a b : Nat) : Int) = x := by rw [← hg, Int.gcd_zero_right]; omega
      rw [e] at q
      exact q
  · intro σ H Q Q' hQ h
    obtain ⟨v, e, s, k, e2, h⟩ := h
    exact ⟨v, e, s, k, e2, hQ _ _ h⟩
theorem ab_nn (x : Int) : (0 : Int) ≤ if x < 0 then -x else x := by split <;> omega
theorem two_ok : 2 ≤ sizeLine := by decide
theorem ok_made (T : Txt K mg t) (Z : Ers K mg t) (G : FnOk P w K mg base CX0 k t.f_common_divisor t.d_common_divisor ["one", "two"] spCd) : FnOk P w K mg base (CXE P w) (k + 1) t.f_made t.d_made ["top", "bottom"] (spMade K) := by
  have G_common_divisor := G.toE
  refine T.F_made.okE sc_made (fun vs H Q E h => ?_) (fun cdv A outer s H vs Q E hr h => ?_)
  · obtain ⟨a, b, M, rfl, _⟩ := h
    rfl
  obtain ⟨a, b, M, rfl, hb, hsz, hM, q⟩ := h
  refine ⟨_, (pss_cons (ps_if (pt_cmpR op_eq (pv 1) pe_int (nomark _))
      (pss_one (ps_raise Z.e_NoFraction PySem.F.excBase_ValueError (pa_cons pe_str pa_nil) rfl))
      pss_nil)
    (pss_cons (ps_set (i := 2) sc_made.nd rfl (Or.inl rfl) (pe_call G_common_divisor hr rfl T.m_common_divisor T.F_common_divisor.kp T.b_common_divisor .nil pass_no (pa_cons (pe_callB call_abs rfl T.n_abs PyProof.Rows.boot_abs (pa_cons (pv 0) pa_nil)) (pa_cons (pe_callB call_abs rfl T.n_abs PyProof.Rows.boot_abs (pa_cons (pv 1) pa_nil)) pa_nil))))
    (pss_cons (ps_if (pt_cmpR op_lt (pv 1) pe_int (nomark _))
      (pss_one (ps_set (i := 2) sc_made.nd rfl (Or.inl rfl) (pe_un un_neg (pv 2))))
      pss_nil)
    (pss_one (ps_ret (pe_tup (pa_cons (pe_op op_fdivB (pv 0) (pv 2)) (pa_cons (pe_op op_fdivB (pv 1) (pv 2)) pa_nil)))))))), ?_⟩
  refine ⟨_, rfl, rfl, _, rfl, ?_⟩
  refine ite2 (fun c => absurd (eq_of_test c) hb) (fun c => ?_)
  refine ⟨_, rfl, _, rfl, _, rfl, _, rfl, _, _, rfl, ab_nn a, ab_nn b, ?_⟩
  have hd := FM.dv_ne (t := a) hb
  have hl : (FM.dv a b).natAbs < 2 ^ 9000 := Nat.lt_of_le_of_lt (by rw [FM.dv_abs]; exact FM.gcd_le hb) hsz
  refine ⟨_, rfl, _, _, rfl, rfl, _, rfl, ?_⟩
  have fin : ∀ d : Int, d = FM.dv a b → ∀ (p : Addr), H p = none → Q (.ref p) (upd H p (.tup [.int (a.fdiv d), .int (b.fdiv d)])) := fun d e p hp => by
    subst e
    refine q _ _ _ ((Gr.refl hM).add hp) (pT_mk (SqT.of ?_))
    rw [upd_same, FM.num_eq hb, FM.den_eq hb]
  refine ite2 (fun c2 => ?_) (fun c2 => ?_)
  · have e : -((Int.gcd (if a < 0 then -a else a) (if b < 0 then -b else b) : Nat) : Int) = FM.dv a b := by
      rw [FM.gcd_abs]
      exact (if_pos (of_decide_eq_true c2)).symm
    refine ⟨_, rfl, _, rfl, ?_⟩
    refine ⟨_, rfl, _, rfl, _, _, rfl, rfl, ⟨by rw [e]; exact hd, by rw [e]; exact hl⟩, _, rfl, _, rfl, _, _, rfl, rfl, ⟨by rw [e]; exact hd, by rw [e]; exact hl⟩, two_ok, fun p hp => fin _ e p hp⟩
  · have e : ((Int.gcd (if a < 0 then -a else a) (if b < 0 then -b else b) : Nat) : Int) = FM.dv a b := by
      rw [FM.gcd_abs]
      exact (if_neg (of_decide_eq_false (Bool.eq_false_iff.mpr c2))).symm
    refine ⟨_, rfl, _, rfl, _, _, rfl, rfl, ⟨by rw [e]; exact hd, by rw [e]; exact hl⟩, _, rfl, _, rfl, _, _, rfl, rfl, ⟨by rw [e]; exact hd, by rw [e]; exact hl⟩, two_ok, fun p hp => fin _ e p hp⟩
theorem sm_den {n : Nat} {r : Rat} (h : FM.Sm n r) : ((r.den : Int)).natAbs < 2 ^ n := by rw [Int.natAbs_natCast]; exact h.2
theorem mul_nd {n : Nat} {r s : Rat} (h : FM.Sm n r) (h2 : FM.Sm n s) (z : n + n ≤ 134217728) : IntMulOk r.num (s.den : Int) := mulOk h.1 (sm_den h2) z
theorem mul_dd {n : Nat} {r s : Rat} (h : FM.Sm n r) (h2 : FM.Sm n s) (z : n + n ≤ 134217728) : IntMulOk (r.den : Int) (s.den : Int) := mulOk (sm_den h) (sm_den h2) z
theorem mul_nn {n : Nat} {r s : Rat} (h : FM.Sm n r) (h2 : FM.Sm n s) (z : n + n ≤ 134217728) : IntMulOk r.num s.num := mulOk h.1 h2.1 z
theorem mul_dn {n : Nat} {r s : Rat} (h : FM.Sm n r) (h2 : FM.Sm n s) (z : n + n ≤ 134217728) : IntMulOk (r.den : Int) s.num := mulOk (sm_den h) h2.1 z
theorem dd_small {r s : Rat} (h : FM.Sm 4000 r) (h2 : FM.Sm 4000 s) : ((r.den : Int) * (s.den : Int)).natAbs < 2 ^ 9000 := FM.lt_mono (FM.mul_lt (sm_den h) (sm_den h2)) (by decide)
theorem dd_ne (r s : Rat) : (r.den : Int) * (s.den : Int) ≠ 0 := by
  have h1 := FM.den_pos r
  have h2 := FM.den_pos s
  exact Int.mul_ne_zero (by omega) (by omega)
theorem ok_plus (T : Txt K mg t) (G_made : FnOk P w K mg base (CXE P w) k t.f_made t.d_made ["top", "bottom"] (spMade K)) : FnOk P w K mg base (CXE P w) (k + 1) t.f_plus t.d_plus ["one", "two"] (spTwo K (· + ·)) := by
  refine T.F_plus.okE sc_plus (fun vs H Q E h => ?_) (fun cdv A outer s H vs Q E hr h => ?_)
  · obtain ⟨v, x, r, u, M, rfl, _⟩ := h
    rfl
  obtain ⟨v, x, r, u, M, rfl, hv, hx, sa, sb, hM, q⟩ := h
  obtain ⟨a, rfl, ha0⟩ := fr_inv hv
  obtain ⟨b, rfl, hb0⟩ := fr_inv hx
  have ha := hM.tup ha0
  have hb := hM.tup hb0
  refine ⟨_, (pss_one (ps_ret (pe_call G_made hr rfl T.m_made T.F_made.kp T.b_made .nil pass_no (pa_cons (pe_op op_add (pe_op op_mulB (pe_ix ix_tup (pv 0) pe_int (fun _ _ => rfl)) (pe_ix ix_tup (pv 1) pe_int (fun _ _ => rfl))) (pe_op op_mulB (pe_ix ix_tup (pv 1) pe_int (fun _ _ => rfl)) (pe_ix ix_tup (pv 0) pe_int (fun _ _ => rfl)))) (pa_cons (pe_op op_mulB (pe_ix ix_tup (pv 0) pe_int (fun _ _ => rfl)) (pe_ix ix_tup (pv 1) pe_int (fun _ _ => rfl))) pa_nil))))), ?_⟩
  refine ⟨_, rfl, a, _, _, _, rfl, rfl, ha, fr_top r, _, rfl, b, _, _, _, rfl, rfl, hb, fr_bot u, _, _, rfl, rfl, mul_nd sa sb (by decide), ?_⟩
  refine ⟨_, rfl, b, _, _, _, rfl, rfl, hb, fr_top u, _, rfl, a, _, _, _, rfl, rfl, ha, fr_bot r, _, _, rfl, rfl, mul_nd sb sa (by decide), _, _, rfl, rfl, ?_⟩
  refine ⟨_, rfl, a, _, _, _, rfl, rfl, ha, fr_bot r, _, rfl, b, _, _, _, rfl, rfl, hb, fr_bot u, _, _, rfl, rfl, mul_dd sa sb (by decide), ?_⟩
  refine ⟨_, _, M, rfl, dd_ne r u, dd_small sa sb, hM, ?_⟩
  rw [FM.add_is]
  exact q
theorem ok_times (T : Txt K mg t) (G_made : FnOk P w K mg base (CXE P w) k t.f_made t.d_made ["top", "bottom"] (spMade K)) : FnOk P w K mg base (CXE P w) (k + 1) t.f_times t.d_times ["one", "two"] (spTwo K (· * ·)) := by
  refine T.F_times.okE sc_times (fun vs H Q E h => ?_) (fun cdv A outer s H vs Q E hr h => ?_)
  · obtain ⟨v, x, r, u, M, rfl, _⟩ := h
    rfl
  obtain ⟨v, x, r, u, M, rfl, hv, hx, sa, sb, hM, q⟩ := h
  obtain ⟨a, rfl, ha0⟩ := fr_inv hv
  obtain ⟨b, rfl, hb0⟩ := fr_inv hx
  have ha := hM.tup ha0
  have hb := hM.tup hb0
  refine ⟨_, (pss_one (ps_ret (pe_call G_made hr rfl T.m_made T.F_made.kp T.b_made .nil pass_no (pa_cons (pe_op op_mulB (pe_ix ix_tup (pv 0) pe_int (fun _ _ => rfl)) (pe_ix ix_tup (pv 1) pe_int (fun _ _ => rfl))) (pa_cons (pe_op op_mulB (pe_ix ix_tup (pv 0) pe_int (fun _ _ => rfl)) (pe_ix ix_tup (pv 1) pe_int (fun _ _ => rfl))) pa_nil))))), ?_⟩
  refine ⟨_, rfl, a, _, _, _, rfl, rfl, ha, fr_top r, _, rfl, b, _, _, _, rfl, rfl, hb, fr_top u, _, _, rfl, rfl, mul_nn sa sb (by decide), ?_⟩
  refine ⟨_, rfl, a, _, _, _, rfl, rfl, ha, fr_bot r, _, rfl, b, _, _, _, rfl, rfl, hb, fr_bot u, _, _, rfl, rfl, mul_dd sa sb (by decide), ?_⟩
  refine ⟨_, _, M, rfl, dd_ne r u, dd_small sa sb, hM, ?_⟩
  rw [FM.mul_is]
  exact q
theorem dn_zero {r s : Rat} : (r.den : Int) * s.num = 0 ↔ s = 0 := by
  rw [← FM.num_zero, Int.mul_eq_zero]
  have h := FM.den_pos r
  constructor
  · rintro (z | z)
    · omega
    · exact z
  · exact .inr
theorem dn_small {r s : Rat} (h : FM.Sm 4000 r) (h2 : FM.Sm 4000 s) : ((r.den : Int) * s.num).natAbs < 2 ^ 9000 := FM.lt_mono (FM.mul_lt (sm_den h) h2.1) (by decide)
theorem ok_over (T : Txt K mg t) (G_made : FnOk P w K mg base (CXE P w) k t.f_made t.d_made ["top", "bottom"] (spMade K)) : FnOk P w K mg base (CXE P w) (k + 1) t.f_over t.d_over ["one", "two"] (spOver K) := by
  refine T.F_over.okE sc_over (fun vs H Q E h => ?_) (fun cdv A outer s H vs Q E hr h => ?_)
  · obtain ⟨v, x, r, u, M, rfl, _⟩ := h
    rfl
  obtain ⟨v, x, r, u, M, rfl, hv, hx, sa, sb, hu, hM, q⟩ := h
  obtain ⟨a, rfl, ha0⟩ := fr_inv hv
  obtain ⟨b, rfl, hb0⟩ := fr_inv hx
  have ha := hM.tup ha0
  have hb := hM.tup hb0
  refine ⟨_, (pss_one (ps_ret (pe_call G_made hr rfl T.m_made T.F_made.kp T.b_made .nil pass_no (pa_cons (pe_op op_mulB (pe_ix ix_tup (pv 0) pe_int (fun _ _ => rfl)) (pe_ix ix_tup (pv 1) pe_int (fun _ _ => rfl))) (pa_cons (pe_op op_mulB (pe_ix ix_tup (pv 0) pe_int (fun _ _ => rfl)) (pe_ix ix_tup (pv 1) pe_int (fun _ _ => rfl))) pa_nil))))), ?_⟩
  refine ⟨_, rfl, a, _, _, _, rfl, rfl, ha, fr_top r, _, rfl, b, _, _, _, rfl, rfl, hb, fr_bot u, _, _, rfl, rfl, mul_nd sa sb (by decide), ?_⟩
  refine ⟨_, rfl, a, _, _, _, rfl, rfl, ha, fr_bot r, _, rfl, b, _, _, _, rfl, rfl, hb, fr_top u, _, _, rfl, rfl, mul_dn sa sb (by decide), ?_⟩
  refine ⟨_, _, M, rfl, fun z => hu (dn_zero.mp z), dn_small sa sb, hM, ?_⟩
  rw [FM.div_is]
  exact q
theorem ok_opposite (T : Txt K mg t) : FnOk P w K mg base CX0 (k + 1) t.f_opposite t.d_opposite ["fraction"] (spOpp K) := by
  refine T.F_opposite.ok sc_opposite (fun vs H Q E h => ?_) (fun cdv A outer s H vs Q E hr h => ?_)
  · obtain ⟨v, r, M, rfl, _⟩ := h
    rfl
  obtain ⟨v, r, M, rfl, hv, hM, q⟩ := h
  obtain ⟨a, rfl, ha0⟩ := fr_inv hv
  have ha := hM.tup ha0
  refine ⟨_, (pss_one (ps_ret (pe_tup (pa_cons (pe_un un_neg (pe_ix ix_tup (pv 0) pe_int (fun _ _ => rfl))) (pa_cons (pe_ix ix_tup (pv 0) pe_int (fun _ _ => rfl)) pa_nil))))), ?_⟩
  refine ⟨_, rfl, a, _, _, _, rfl, rfl, ha, fr_top r, _, rfl, _, rfl, a, _, _, _, rfl, rfl, ha, fr_bot r, two_ok, fun p hp => ?_⟩
  refine q _ _ _ ((Gr.refl hM).add hp) (pT_mk (SqT.of ?_))
  rw [upd_same, Rat.neg_num, Rat.neg_den]
theorem sm_mono {m n : Nat} {r : Rat} (h : FM.Sm m r) (e : m ≤ n) : FM.Sm n r := ⟨FM.lt_mono h.1 e, FM.lt_mono h.2 e⟩
theorem sm_neg {n : Nat} {r : Rat} (h : FM.Sm n r) : FM.Sm n (-r) := ⟨by rw [Rat.neg_num, Int.natAbs_neg]; exact h.1, by rw [Rat.neg_den]; exact h.2⟩
theorem sm_one {n : Nat} (h : 0 < n) : FM.Sm n 1 := by
  have : 1 < 2 ^ n := Nat.one_lt_two_pow (by omega)
  exact ⟨this, this⟩
theorem one_T {M : Hp} (T : Txt K mg t) : At K M (frT 1) (.ref t.k_ONE) := pT_mk (T.q_ONE M)
theorem nought_T {M : Hp} (T : Txt K mg t) : At K M (frT 0) (.ref t.k_NOUGHT) := pT_mk (T.q_NOUGHT M)
end
end W1


namespace W1
open PySem PySem.Spec L2
section
variable {P : Program} {w : World} {K : PySem.W.Frag} {mg : Str → Option Value} {base : Heap} {t : Adr} {k : Nat}
/-- the list under way, done -/
theorem ats_range {M : Hp} {F : Nat → Tr} {n : Nat} {ys : List V} {ts : List Tr} (h : Ats K M ((List.range n).map F) ys) (e : ts.length = n) (f : ∀ i t, ts[i]? = some t → F i = t) : Ats K M ts ys := by
  have : (List.range n).map F = ts := by
    apply List.ext_getElem?
    intro i
    rw [List.getElem?_map]
    rcases Nat.lt_or_ge i n with q | q
    · rw [List.getElem?_range q]
      show some (F i) = ts[i]?
      rw [List.getElem?_eq_getElem (by omega)]
      exact congrArg some (f i _ (List.getElem?_eq_getElem (by omega)))
    · rw [List.getElem?_eq_none_iff.mpr (by simpa using q), List.getElem?_eq_none_iff.mpr (by omega)]
      rfl
  rw [← this]
  exact h
theorem ix_nat {α : Type} {xs : List α} {p : Nat} (h : p < xs.length) : ixN xs.length (p : Int) = some p := by
  unfold ixN
  rw [if_pos (Int.natCast_nonneg p), if_pos (Int.ofNat_lt.mpr h)]
  simp
theorem ok_solved_for (T : Txt K mg t) (G_opposite : FnOk P w K mg base (CXE P w) k t.f_opposite t.d_opposite ["fraction"] (spOpp K)) (G_over : FnOk P w K mg base (CXE P w) k t.f_over t.d_over ["one", "two"] (spOver K)) :
    FnOk P w K mg base (CXE P w) (k + 1) t.f_solved_for t.d_solved_for ["line", "place"] (spSolved K) := by
  refine T.F_solved_for.okE sc_solved_for (fun vs H Q E h => ?_) (fun cdv A outer s H vs Q E hr h => ?_)
  · obtain ⟨v, l, p, a, M, rfl, _⟩ := h
    rfl
  obtain ⟨v, l, p, a, M, rfl, hv, hp, ha, hlen, hsm, hM, q⟩ := h
  obtain ⟨b, xs, rfl, hb, ats⟩ := hv.lst_inv
  have hbH := hM _ _ hb
  obtain ⟨xp, hxp, atp⟩ := ln_get ats hp
  have hpl : p < l.length := (List.getElem?_eq_some_iff.mp hp).1
  have hxl : l.length = xs.length := by have := ats.1; simpa using this
  refine ⟨_, (pss_cons (ps_set (i := 2) sc_solved_for.nd rfl (Or.inr rfl) (pe_call G_opposite hr rfl T.m_opposite T.F_opposite.kp T.b_opposite .nil pass_no (pa_cons (pe_ix ix_list (pv 0) (pv 1) (fun _ _ => rfl)) pa_nil)))
    (pss_cons (ps_compG (iy := 3) sc_solved_for.nd rfl (Or.inl rfl) rfl (compt_of (n := 1) (js := [2]) (Nb := ["part", "divisor"]) (by kernel_rfl) rfl (by decide +kernel) (by decide) (by kernel_rfl)) (pi_list (pv 0)) (fun C s0 H0 fp pn' => (pg_name (i := 0) (nd_of (l := ["part", "divisor"]) (by decide +kernel)) rfl (Or.inl rfl))) own_name (fun C s0 H0 fp pn' => pts_none) (fun C s0 H0 fp pn' => (pe_call G_over hr rfl T.m_over T.F_over.kp T.b_over .nil pass_no (pa_cons (pv 0) (pa_cons (pv 1) pa_nil)))))
    (pss_cons (ps_asg (pe_call G_over hr rfl T.m_over T.F_over.kp T.b_over .nil pass_no (pa_cons (pe_glob (v := .ref t.k_ONE) rfl T.m_ONE rfl) (pa_cons (pe_ix ix_list (pv 0) (pv 1) (fun _ _ => rfl)) pa_nil))) (pg_sub (pv 3) (pv 1) set_list))
    (pss_one (ps_ret (pv 3)))))), ?_⟩
  -- divisor
  refine ⟨_, rfl, _, rfl, b, _, _, _, rfl, rfl, SqL.of hbH, atI_nat hxp, _, a, M, rfl, atp, hM, fun dv M1 H1 g1 hd => ?_⟩
  -- the parts over it
  refine ⟨_, rfl, b, rfl, ⟨_, SqL.of (g1.hh _ _ hbH)⟩, fun z hz => cm_list (K := K) (M := M1) (F := fun i => frT (l.getD i 0 / -a)) g1.mh (g1.mm _ _ hb) (by omega) hz (fun i x Mi Hi Qy hx gi k => ?_) (fun M2 H2 ys g2 m2 hy at2 => ?_)⟩
  · obtain ⟨r, hr0, atr⟩ := ln_get' ats hx
    refine ⟨_, rfl, _, rfl, _, _, r, -a, Mi, rfl, atr.mono (g1.mm.trans gi.mm), hd.mono gi.mm, sm_mono (hsm r (List.mem_of_getElem? hr0)) (by decide), sm_neg (sm_mono (hsm a (List.mem_of_getElem? hp)) (by decide)), fun z => ha (by grind), gi.mh, fun y M4 H4 g4 t4 => k y M4 H4 g4 ?_⟩
    rw [SH.getD_of hr0]
    exact t4
  -- told[place]
  have at3 : Ats K M2 ((l.map fun x => x / -a).map frT) ys := ats_range at2 (by simp [hxl]) fun i t ht => by
    rw [List.getElem?_map, List.getElem?_map] at ht
    cases e : l[i]? with
    | none => rw [e] at ht; cases ht
    | some r => rw [e] at ht; cases ht; rw [SH.getD_of e]
  have gr2 := g1.trans g2
  have hb2 := gr2.hh _ _ hbH
  refine ⟨_, rfl, _, rfl, b, _, _, _, rfl, rfl, SqL.of hb2, atI_nat hxp, _, _, 1, a, M2, rfl, one_T T, atp.mono gr2.mm, sm_one (by decide), sm_mono (hsm a (List.mem_of_getElem? hp)) (by decide), ha, g2.mh, fun ov M5 H5 g5 h5 => ?_⟩
  have m5 : M5 z = none := g5.fr _ _ hy m2
  have hz0 : H z = none := g1.hh.free hz
  have hyl : ys.length = l.length := by have := at3.1; simpa using this.symm
  refine ⟨_, rfl, _, rfl, z, ys, p, p, rfl, rfl, g5.hh _ _ hy, ix_nat (by rw [hyl]; exact hpl), ?_⟩
  refine ⟨_, rfl, ?_⟩
  have gf : Gr M H (upd M5 z (.lst (ys.set p ov))) (upd H5 z (.lst (ys.set p ov))) := ((gr2.trans g5).put hz0 m5).frz hz0 m5 upd_same
  refine q _ _ _ gf (Ats.lst (xs := ys.set p ov) ?_ upd_same)
  have : (SH.told l p).map frT = ((l.map fun x => x / -a).map frT).set p (frT (1 / a)) := by
    unfold SH.told
    rw [SH.getD_of hp, List.map_set]
  rw [this]
  exact (((at3.mono g5.mm).set h5 p)).mono (same_new m5 _)
theorem sm_mul {m n : Nat} {r s : Rat} (h : FM.Sm m r) (h2 : FM.Sm n s) : FM.Sm (m + n) (r * s) := by
  rw [← FM.mul_is]
  refine ⟨Nat.lt_of_le_of_lt (FM.num_le (dd_ne r s)) (FM.mul_lt h.1 h2.1), Nat.lt_of_le_of_lt (FM.den_le (dd_ne r s)) (FM.mul_lt (sm_den h) (sm_den h2))⟩
theorem ok_with_put_in (T : Txt K mg t) (G_plus : FnOk P w K mg base (CXE P w) k t.f_plus t.d_plus ["one", "two"] (spTwo K (· + ·))) (G_times : FnOk P w K mg base (CXE P w) k t.f_times t.d_times ["one", "two"] (spTwo K (· * ·))) :
    FnOk P w K mg base (CXE P w) (k + 1) t.f_with_put_in t.d_with_put_in ["line", "place", "told"] (spPut K) := by
  refine T.F_with_put_in.okE sc_with_put_in (fun vs H Q E h => ?_) (fun cdv A outer s H vs Q E hr h => ?_)
  · obtain ⟨v, x, l, u, p, c, d, M, rfl, _⟩ := h
    rfl
  obtain ⟨v, x, l, u, p, c, d, M, rfl, hv, hw, hc, hd, hlu, hlen, sl, su, hM, q⟩ := h
  obtain ⟨b, xs, rfl, hb, ats⟩ := hv.lst_inv
  obtain ⟨b2, zs, rfl, hb2, ats2⟩ := hw.lst_inv
  have hbH := hM _ _ hb
  have hbH2 := hM _ _ hb2
  obtain ⟨xp, hxp, atp⟩ := ln_get ats hc
  obtain ⟨zp, hzp, atz⟩ := ln_get ats2 hd
  have hpl : p < l.length := (List.getElem?_eq_some_iff.mp hc).1
  have hxl : l.length = xs.length := by have := ats.1; simpa using this
  have hzl : u.length = zs.length := by have := ats2.1; simpa using this
  have sc := sl c (List.mem_of_getElem? hc)
  have sd := su d (List.mem_of_getElem? hd)
  refine ⟨_, (pss_cons (ps_set (i := 3) sc_with_put_in.nd rfl (Or.inr rfl) (pe_ix ix_list (pv 0) (pv 1) (fun _ _ => rfl)))
    (pss_cons (ps_compG (iy := 4) sc_with_put_in.nd rfl (Or.inl rfl) rfl (compt_of (n := 2) (js := [3]) (Nb := ["part", "other", "factor"]) (by kernel_rfl) rfl (by decide +kernel) (by decide) (by kernel_rfl)) (pi_zip rfl T.n_zip (pa_cons (pv 0) (pa_cons (pv 2) pa_nil))) (fun C s0 H0 fp pn' => (pg_tup (n := 2) rfl (pgs_cons (pg_name (i := 0) (nd_of (l := ["part", "other", "factor"]) (by decide +kernel)) rfl (Or.inl rfl)) (pgs_cons (pg_name (i := 1) (nd_of (l := ["part", "other", "factor"]) (by decide +kernel)) rfl (Or.inl rfl)) pgs_nil)))) own_pair (fun C s0 H0 fp pn' => pts_none) (fun C s0 H0 fp pn' => (pe_call G_plus hr rfl T.m_plus T.F_plus.kp T.b_plus .nil pass_no (pa_cons (pv 0) (pa_cons (pe_call G_times hr rfl T.m_times T.F_times.kp T.b_times .nil pass_no (pa_cons (pv 2) (pa_cons (pv 1) pa_nil))) pa_nil)))))
    (pss_cons (ps_asg (pe_call G_times hr rfl T.m_times T.F_times.kp T.b_times .nil pass_no (pa_cons (pv 3) (pa_cons (pe_ix ix_list (pv 2) (pv 1) (fun _ _ => rfl)) pa_nil))) (pg_sub (pv 4) (pv 1) set_list))
    (pss_one (ps_ret (pv 4)))))), ?_⟩
  refine ⟨_, rfl, _, rfl, b, _, _, _, rfl, rfl, SqL.of hbH, atI_nat hxp, ?_⟩
  refine ⟨_, rfl, _, rfl, b, b2, xs, zs, rfl, SqL.of hbH, SqL.of hbH2, fun z hz => cm_zip (K := K) (M := M) (F := fun i => frT (l.getD i 0 + c * u.getD i 0)) hM hb hb2 (by omega) (by omega) hz (fun i y1 y2 Mi Hi Qy hy1 hy2 gi k => ?_) (fun M2 H2 ys g2 m2 hy at2 => ?_)⟩
  · obtain ⟨r, hr0, atr⟩ := ln_get' ats hy1
    obtain ⟨r2, hr2, atr2⟩ := ln_get' ats2 hy2
    refine ⟨_, rfl, _, rfl, _, rfl, _, _, c, r2, Mi, rfl, atp.mono gi.mm, atr2.mono gi.mm, sm_mono sc (by decide), sm_mono (su r2 (List.mem_of_getElem? hr2)) (by decide), gi.mh, fun y3 M3 H3 g3 h3 => ?_⟩
    refine ⟨_, _, r, c * r2, M3, rfl, atr.mono (gi.mm.trans g3.mm), h3, sm_mono (sl r (List.mem_of_getElem? hr0)) (by decide), sm_mono (sm_mul sc (su r2 (List.mem_of_getElem? hr2))) (by decide), g3.mh, fun y M4 H4 g4 t4 => k y M4 H4 (g3.trans g4) ?_⟩
    rw [SH.getD_of hr0, SH.getD_of hr2]
    exact t4
  have at3 : Ats K M2 ((List.zipWith (fun a b => a + c * b) l u).map frT) ys := ats_range at2 (by simp; omega) fun i t ht => by
    rw [List.getElem?_map, List.getElem?_zipWith] at ht
    cases e : l[i]? with
    | none => rw [e] at ht; cases ht
    | some r =>
      cases e2 : u[i]? with
      | none => rw [e, e2] at ht; cases ht
      | some r2 => rw [e, e2] at ht; cases ht; rw [SH.getD_of e, SH.getD_of e2]
  refine ⟨_, rfl, _, rfl, _, rfl, b2, _, _, _, rfl, rfl, SqL.of (g2.hh _ _ hbH2), atI_nat hzp, _, _, c, d, M2, rfl, atp.mono g2.mm, atz.mono g2.mm, sm_mono sc (by decide), sm_mono sd (by decide), g2.mh, fun ov M5 H5 g5 h5 => ?_⟩
  have m5 : M5 z = none := g5.fr _ _ hy m2
  have hyl : ys.length = l.length := by have := at3.1; simp at this; omega
  refine ⟨_, rfl, _, rfl, z, ys, p, p, rfl, rfl, g5.hh _ _ hy, ix_nat (by rw [hyl]; exact hpl), ?_⟩
  refine ⟨_, rfl, ?_⟩
  have gf : Gr M H (upd M5 z (.lst (ys.set p ov))) (upd H5 z (.lst (ys.set p ov))) := ((g2.trans g5).put hz m5).frz hz m5 upd_same
  refine q _ _ _ gf (Ats.lst (xs := ys.set p ov) ?_ upd_same)
  have : (SH.putIn l p u).map frT = ((List.zipWith (fun a b => a + c * b) l u).map frT).set p (frT (c * d)) := by
    unfold SH.putIn
    rw [SH.getD_of hc, SH.getD_of hd, List.map_set]
  rw [this]
  exact (((at3.mono g5.mm).set h5 p)).mono (same_new m5 _)
end
end W1


namespace W1
open PySem PySem.Spec L2
def fl (v1 v2 v3 v4 : V) : List (Str × V) := putF "goal" v4 (putF "lines" v3 (putF "outer" v2 (putF "inner" v1 [])))
theorem fl_inner (v1 v2 v3 v4 : V) : (fl v1 v2 v3 v4).lookup ("inner" : Str) = some v1 := by
  unfold fl
  rw [lookup_putF, if_neg (by decide +kernel), lookup_putF, if_neg (by decide +kernel), lookup_putF, if_neg (by decide +kernel), lookup_putF, if_pos rfl]
theorem fl_outer (v1 v2 v3 v4 : V) : (fl v1 v2 v3 v4).lookup ("outer" : Str) = some v2 := by
  unfold fl
  rw [lookup_putF, if_neg (by decide +kernel), lookup_putF, if_neg (by decide +kernel), lookup_putF, if_pos rfl]
theorem fl_lines (v1 v2 v3 v4 : V) : (fl v1 v2 v3 v4).lookup ("lines" : Str) = some v3 := by
  unfold fl
  rw [lookup_putF, if_neg (by decide +kernel), lookup_putF, if_pos rfl]
theorem fl_goal (v1 v2 v3 v4 : V) : (fl v1 v2 v3 v4).lookup ("goal" : Str) = some v4 := by
  unfold fl
  rw [lookup_putF, if_pos rfl]
theorem putF_le (f : Str) (v : V) : ∀ fs : List (Str × V), (putF f v fs).length ≤ fs.length + 1
  | [] => by simp [putF]
  | p :: r => by
    have := putF_le f v r
    unfold putF
    split <;> simp <;> omega
def ShAt (K : PySem.W.Frag) (C : Addr) (M : Hp) (s : SH.Sh) (v : V) : Prop := ∃ a dx v1 v2 v3 v4, v = .ref a ∧ M a = some (.ins C dx (fl v1 v2 v3 v4)) ∧ At K M (intsT s.inn) v1 ∧ At K M (intsT s.out) v2 ∧ At K M (lnsT s.ln) v3 ∧ At K M (lnT s.gl) v4
theorem ShAt.mono {K : PySem.W.Frag} {C : Addr} {M M' : Hp} {s : SH.Sh} {v : V} (e : Same M M') (h : ShAt K C M s v) : ShAt K C M' s v := by
  obtain ⟨a, dx, v1, v2, v3, v4, rfl, h0, h1, h2, h3, h4⟩ := h
  exact ⟨a, dx, v1, v2, v3, v4, rfl, e _ _ h0, h1.mono e, h2.mono e, h3.mono e, h4.mono e⟩
/-- an object is made, filled, and not written again -/
theorem made_gr {M H M1 H1 : Hp} {x dx : Addr} {o0 o : HO} (g : Gr M H M1 H1) (hx : H1 x = none) (hd : H1 dx = none) (ne : dx ≠ x) : Gr M H (upd M1 x o) (upd (upd (upd H1 dx (.own x)) x o0) x o) := by
  rw [upd_upd]
  have g1 : Gr M H M1 (upd H1 dx (.own x)) := g.new hd
  exact g1.add (by rw [upd_ne (Ne.symm ne)]; exact hx)
def spInit (C : Addr) : Sp := fun vs H Q _ => ∃ (p dx : Addr) (v1 v2 v3 v4 : V), vs = [.ref p, v1, v2, v3, v4] ∧ H p = some (.ins C dx []) ∧ Q .non (upd H p (.ins C dx (fl v1 v2 v3 v4)))
/-- all that stands in a sheet is small -/
def Sz (s : SH.Sh) : Prop := ∀ l, (l ∈ s.ln ∨ l = s.gl) → SmL 1000 l
def spExch (K : PySem.W.Frag) (C : Addr) : Sp := fun vs H Q _ => ∃ (v : V) (s : SH.Sh) (r p : Nat) (u n : Int) (l : List Rat) (a : Rat) (M : Hp), vs = [v, .int r, .int p] ∧ ShAt K C M s v ∧ s.Ok ∧ s.At r p u n l a ∧ Sz s ∧ Sz (s.exch r p) ∧ s.inn.length ≤ 100 ∧ s.out.length ≤ 100 ∧ Same M H ∧
  ∀ (x : V) (M' H' : Hp), Gr M H M' H' → ShAt K C M' (s.exch r p) x → Q x H'
section
variable {P : Program} {w : World} {K : PySem.W.Frag} {mg : Str → Option Value} {base : Heap} {t : Adr} {k : Nat}
theorem ok_init (T : Txt K mg t) : FnOk P w K mg base CX0 (k + 1) t.f_Sheet___init__ t.d_Sheet___init__ ["self", "inner", "outer", "lines", "goal"] (spInit t.c_Sheet) := by
  refine T.F_Sheet___init__.ok sc_Sheet___init__ (fun vs H Q E h => ?_) (fun cdv A outer s H vs Q E hr h => ?_)
  · obtain ⟨p, dx, v1, v2, v3, v4, rfl, _⟩ := h
    rfl
  obtain ⟨p, dx, v1, v2, v3, v4, rfl, hp, q⟩ := h
  refine ⟨_, (pss_cons (ps_fld (pv 0) (pv 1) rfl)
    (pss_cons (ps_fld (pv 0) (pv 2) rfl)
    (pss_cons (ps_fld (pv 0) (pv 3) rfl)
    (pss_one (ps_fld (pv 0) (pv 4) rfl))))), ?_⟩
  have n1 := putF_le "inner" v1 []
  have n2 := putF_le "outer" v2 (putF "inner" v1 [])
  have n3 := putF_le "lines" v3 (putF "outer" v2 (putF "inner" v1 []))
  simp only [List.length_nil] at n1
  refine ⟨_, rfl, _, rfl, p, t.c_Sheet, dx, _, rfl, hp, T.cl_Sheet, T.na_Sheet_inner, (by show 0 < 1000; decide), ?_⟩
  refine ⟨_, rfl, _, rfl, p, t.c_Sheet, dx, _, rfl, upd_same, T.cl_Sheet, T.na_Sheet_outer, (by omega), ?_⟩
  refine ⟨_, rfl, _, rfl, p, t.c_Sheet, dx, _, rfl, upd_same, T.cl_Sheet, T.na_Sheet_lines, (by omega), ?_⟩
  refine ⟨_, rfl, _, rfl, p, t.c_Sheet, dx, _, rfl, upd_same, T.cl_Sheet, T.na_Sheet_goal, (by omega), ?_⟩
  rw [upd_upd, upd_upd, upd_upd]
  exact q
theorem lns_get {M : Hp} {L : List (List Rat)} {xs : List V} {i : Nat} {l : List Rat} (h : Ats K M (L.map lnT) xs) (e : L[i]? = some l) : ∃ x, xs[i]? = some x ∧ At K M (lnT l) x := h.get (by rw [List.getElem?_map, e]; rfl)
theorem lns_get' {M : Hp} {L : List (List Rat)} {xs : List V} {i : Nat} {x : V} (h : Ats K M (L.map lnT) xs) (e : xs[i]? = some x) : ∃ l, L[i]? = some l ∧ At K M (lnT l) x := by
  obtain ⟨t, ht, a⟩ := h.get' e
  rw [List.getElem?_map] at ht
  cases q : L[i]? with
  | none => rw [q] at ht; cases ht
  | some l => rw [q] at ht; cases ht; exact ⟨l, rfl, a⟩
theorem ok_exchanged (T : Txt K mg t) (G_Sheet___init__ : FnOk P w K mg base (CXE P w) k t.f_Sheet___init__ t.d_Sheet___init__ ["self", "inner", "outer", "lines", "goal"] (spInit t.c_Sheet))
    (G_solved_for : FnOk P w K mg base (CXE P w) (k + 1) t.f_solved_for t.d_solved_for ["line", "place"] (spSolved K)) (G_with_put_in : FnOk P w K mg base (CXE P w) (k + 1) t.f_with_put_in t.d_with_put_in ["line", "place", "told"] (spPut K)) :
    FnOk P w K mg base (CXE P w) (k + 2) t.f_exchanged t.d_exchanged ["sheet", "row", "place"] (spExch K t.c_Sheet) := by
  refine T.F_exchanged.okE sc_exchanged (fun vs H Q E h => ?_) (fun cdv A outer s H vs Q E hr h => ?_)
  · obtain ⟨v, z, r, p, u, n, l, a, M, rfl, _⟩ := h
    rfl
  obtain ⟨v, z, r, p, u, n, l, a, M, rfl, hv, ok, at_, sz, sz2, hm, hn, hM, q⟩ := h
  obtain ⟨o, dx, v1, v2, v3, v4, rfl, ho, h1, h2, h3, h4⟩ := hv
  have hoH := hM _ _ ho
  obtain ⟨b1, x1, rfl, hb1, a1⟩ := h1.lst_inv
  obtain ⟨b2, x2, rfl, hb2, a2⟩ := h2.lst_inv
  obtain ⟨b3, x3, rfl, hb3, a3⟩ := h3.lst_inv
  have e1 := Ats.ints_inv a1
  have e2 := Ats.ints_inv a2
  subst e1 e2
  obtain ⟨vl, hvl, atl⟩ := lns_get a3 at_.hl
  have hr' : r < z.inn.length := (List.getElem?_eq_some_iff.mp at_.hu).1
  have hp' : p < z.out.length := (List.getElem?_eq_some_iff.mp at_.hv).1
  have hll := ok.wd l (List.mem_of_getElem? at_.hl)
  have ht : SH.told l p ∈ (z.exch r p).ln := by
    rw [SH.Sh.exch_eq at_]
    exact List.mem_iff_getElem?.mpr ⟨r, by simp [ok.ln, hr']⟩
  have st := sz2 _ (.inl ht)
  have htl : (SH.told l p).length = z.out.length + 1 := by rw [SH.told_len, hll]
  have l3 : x3.length = z.inn.length := by have := a3.1; simp at this; rw [← this, ok.ln]
  refine ⟨_, (pss_cons (ps_set (i := 3) sc_exchanged.nd rfl (Or.inr rfl) (pe_call G_solved_for hr rfl T.m_solved_for T.F_solved_for.kp T.b_solved_for .nil pass_no (pa_cons (pe_ix ix_list (pe_fld (pv 0) rfl) (pv 1) (fun _ _ => rfl)) (pa_cons (pv 2) pa_nil))))
    (pss_cons (ps_compG (iy := 4) sc_exchanged.nd rfl (Or.inl rfl) rfl (compt_of (n := 1) (js := [2, 3]) (Nb := ["line", "place", "told"]) (by kernel_rfl) rfl (by decide +kernel) (by decide) (by kernel_rfl)) (pi_list (pe_fld (pv 0) rfl)) (fun C s0 H0 fp pn' => (pg_name (i := 0) (nd_of (l := ["line", "place", "told"]) (by decide +kernel)) rfl (Or.inl rfl))) own_name (fun C s0 H0 fp pn' => pts_none) (fun C s0 H0 fp pn' => (pe_call G_with_put_in hr rfl T.m_with_put_in T.F_with_put_in.kp T.b_with_put_in .nil pass_no (pa_cons (pv 0) (pa_cons (pv 1) (pa_cons (pv 2) pa_nil))))))
    (pss_cons (ps_asg (pv 3) (pg_sub (pv 4) (pv 1) set_list))
    (pss_cons (ps_set (i := 5) sc_exchanged.nd rfl (Or.inl rfl) (pe_call G_with_put_in hr rfl T.m_with_put_in T.F_with_put_in.kp T.b_with_put_in .nil pass_no (pa_cons (pe_fld (pv 0) rfl) (pa_cons (pv 2) (pa_cons (pv 3) pa_nil)))))
    (pss_cons (ps_set (i := 6) sc_exchanged.nd rfl (Or.inl rfl) (pe_callTy call_list_of rfl T.n_list bt_list (pa_cons (pe_fld (pv 0) rfl) pa_nil)))
    (pss_cons (ps_asg (pe_ix ix_list (pe_fld (pv 0) rfl) (pv 2) (fun _ _ => rfl)) (pg_sub (pv 6) (pv 1) set_list))
    (pss_cons (ps_set (i := 7) sc_exchanged.nd rfl (Or.inl rfl) (pe_callTy call_list_of rfl T.n_list bt_list (pa_cons (pe_fld (pv 0) rfl) pa_nil)))
    (pss_cons (ps_asg (pe_ix ix_list (pe_fld (pv 0) rfl) (pv 1) (fun _ _ => rfl)) (pg_sub (pv 7) (pv 2) set_list))
    (pss_one (ps_ret (pe_make T.k_Sheet G_Sheet___init__ hr rfl T.m_Sheet T.b_Sheet___init__ .nil pass_no (pa_cons (pv 6) (pa_cons (pv 7) (pa_cons (pv 4) (pa_cons (pv 5) pa_nil))))))))))))))), ?_⟩
  -- told
  refine ⟨_, rfl, o, _, dx, _, _, rfl, hoH, T.cl_Sheet, T.na_Sheet_lines, fl_lines _ _ _ _, _, rfl, b3, _, _, _, rfl, rfl, SqL.of (hM _ _ hb3), atI_nat hvl, _, rfl, _, l, p, a, M, rfl, atl, at_.ha, at_.nz, by omega, sz l (.inl (List.mem_of_getElem? at_.hl)), hM, fun tv M1 H1 g1 t1 => ?_⟩
  -- lines
  refine ⟨_, rfl, o, _, dx, _, _, rfl, g1.hh _ _ hoH, T.cl_Sheet, T.na_Sheet_lines, fl_lines _ _ _ _, b3, rfl, ⟨_, SqL.of (g1.hh _ _ (hM _ _ hb3))⟩, fun y hy => cm_list (K := K) (M := M1) (F := fun i => lnT (SH.putIn (z.ln.getD i []) p (SH.told l p))) g1.mh (g1.mm _ _ hb3) (by omega) hy (fun i x Mi Hi Qy hx gi kk => ?_) (fun M2 H2 ys g2 m2 hys at2 => ?_)⟩
  · obtain ⟨l', hl', atl'⟩ := lns_get' a3 hx
    have hw := ok.wd l' (List.mem_of_getElem? hl')
    refine ⟨_, rfl, _, rfl, _, rfl, _, _, l', SH.told l p, p, l'[p]'(by omega), (SH.told l p)[p]'(by omega), Mi, rfl, atl'.mono (g1.mm.trans gi.mm), t1.mono gi.mm, List.getElem?_eq_getElem (by omega), List.getElem?_eq_getElem (by omega), by omega, by omega, sz l' (.inl (List.mem_of_getElem? hl')), st, gi.mh, fun yv M4 H4 g4 t4 => kk yv M4 H4 g4 ?_⟩
    rw [SH.gD hl']
    exact t4
  have at3 : Ats K M2 ((z.ln.map fun l' => SH.putIn l' p (SH.told l p)).map lnT) ys := ats_range at2 (by simp [ok.ln, l3]) fun i t ht => by
    rw [List.getElem?_map, List.getElem?_map] at ht
    cases e : z.ln[i]? with
    | none => rw [e] at ht; cases ht
    | some r => rw [e] at ht; cases ht; rw [SH.gD e]
  have gr2 := g1.trans g2
  have hy0 : H y = none := g1.hh.free hy
  have hyl : ys.length = z.inn.length := by have := at3.1; simp at this; rw [← this, ok.ln]
  -- lines[row] = told
  refine ⟨_, rfl, _, rfl, _, rfl, y, ys, r, r, rfl, rfl, hys, ix_nat (by rw [hyl]; exact hr'), ?_⟩
  have at4 : Ats K M2 ((z.exch r p).ln.map lnT) (ys.set r tv) := by
    rw [SH.Sh.exch_eq at_]
    show Ats K M2 (((z.ln.map fun l' => SH.putIn l' p (SH.told l p)).set r (SH.told l p)).map lnT) _
    rw [List.map_set]
    exact at3.set (t1.mono g2.mm) r
  have g3 : Gr M H (upd M2 y (.lst (ys.set r tv))) (upd H2 y (.lst (ys.set r tv))) := (gr2.put hy0 m2).frz hy0 m2 upd_same
  have at5 : At K (upd M2 y (.lst (ys.set r tv))) (lnsT (z.exch r p).ln) (.ref y) := (at4.mono (same_new m2 _)).lst upd_same
  have t3 := (t1.mono g2.mm).mono (same_new m2 (.lst (ys.set r tv)))
  generalize upd M2 y (.lst (ys.set r tv)) = M3 at g3 at5 t3
  generalize upd H2 y (.lst (ys.set r tv)) = H3 at g3 ⊢
  -- goal
  refine ⟨_, rfl, o, _, dx, _, _, rfl, g3.hh _ _ hoH, T.cl_Sheet, T.na_Sheet_goal, fl_goal _ _ _ _, _, rfl, _, rfl, _, _, z.gl, SH.told l p, p, z.gl[p]'(by rw [ok.gl]; omega), (SH.told l p)[p]'(by omega), M3, rfl, h4.mono g3.mm, t3, List.getElem?_eq_getElem (by rw [ok.gl]; omega), List.getElem?_eq_getElem (by omega), by rw [ok.gl]; omega, by rw [ok.gl]; omega, sz _ (.inr rfl), st, g3.mh, fun gv M5 H5 g5 t5 => ?_⟩
  have g35 := g3.trans g5
  -- inner
  refine ⟨_, rfl, o, _, dx, _, _, rfl, g35.hh _ _ hoH, T.cl_Sheet, T.na_Sheet_inner, fl_inner _ _ _ _, b1, _, rfl, .inl (SqL.of (g35.hh _ _ (hM _ _ hb1))), fun y1 hy1 => ?_⟩
  have o2 : ∀ {c : Addr} {ob : HO}, H c = some ob → upd H5 y1 (.lst (z.inn.map V.int)) c = some ob := fun e => by
    have e5 := g35.hh _ _ e
    rw [upd_ne (ne_of_none e5 hy1)]
    exact e5
  refine ⟨_, rfl, o, _, dx, _, _, rfl, o2 hoH, T.cl_Sheet, T.na_Sheet_outer, fl_outer _ _ _ _, _, rfl, b2, _, _, _, rfl, rfl, SqL.of (o2 (hM _ _ hb2)), atI_nat (show (z.out.map V.int)[p]? = some (.int n) by rw [List.getElem?_map, at_.hv]; rfl), _, rfl, _, rfl, y1, _, _, r, rfl, rfl, upd_same, ix_nat (by simpa using hr'), ?_⟩
  rw [upd_upd]
  have hy10 : H y1 = none := g35.hh.free hy1
  have g6 : Gr M H (upd M5 y1 (.lst ((z.inn.map V.int).set r (.int n)))) (upd H5 y1 (.lst ((z.inn.map V.int).set r (.int n)))) := g35.add hy1
  have m5y : M5 y1 = none := g5.mh.free hy1
  have at6 : At K (upd M5 y1 (.lst ((z.inn.map V.int).set r (.int n)))) (intsT (z.inn.set r n)) (.ref y1) := by
    refine Ats.lst (xs := (z.inn.map V.int).set r (.int n)) ?_ upd_same
    have : ((z.inn.map V.int).set r (.int n)) = (z.inn.set r n).map V.int := by rw [List.map_set]
    rw [this]
    exact Ats.ints _
  have s56 : Same M5 (upd M5 y1 (.lst ((z.inn.map V.int).set r (.int n)))) := same_new m5y _
  generalize upd M5 y1 (.lst ((z.inn.map V.int).set r (.int n))) = M6 at g6 at6 s56
  generalize upd H5 y1 (.lst ((z.inn.map V.int).set r (.int n))) = H6 at g6 ⊢
  -- outer
  refine ⟨_, rfl, o, _, dx, _, _, rfl, g6.hh _ _ hoH, T.cl_Sheet, T.na_Sheet_outer, fl_outer _ _ _ _, b2, _, rfl, .inl (SqL.of (g6.hh _ _ (hM _ _ hb2))), fun y2 hy2 => ?_⟩
  have o3 : ∀ {c : Addr} {ob : HO}, H c = some ob → upd H6 y2 (.lst (z.out.map V.int)) c = some ob := fun e => by
    have e5 := g6.hh _ _ e
    rw [upd_ne (ne_of_none e5 hy2)]
    exact e5
  refine ⟨_, rfl, o, _, dx, _, _, rfl, o3 hoH, T.cl_Sheet, T.na_Sheet_inner, fl_inner _ _ _ _, _, rfl, b1, _, _, _, rfl, rfl, SqL.of (o3 (hM _ _ hb1)), atI_nat (show (z.inn.map V.int)[r]? = some (.int u) by rw [List.getElem?_map, at_.hu]; rfl), _, rfl, _, rfl, y2, _, _, p, rfl, rfl, upd_same, ix_nat (by simpa using hp'), ?_⟩
  rw [upd_upd]
  have g7 : Gr M H (upd M6 y2 (.lst ((z.out.map V.int).set p (.int u)))) (upd H6 y2 (.lst ((z.out.map V.int).set p (.int u)))) := g6.add hy2
  have m6y : M6 y2 = none := g6.mh.free hy2
  have at7 : At K (upd M6 y2 (.lst ((z.out.map V.int).set p (.int u)))) (intsT (z.out.set p u)) (.ref y2) := by
    refine Ats.lst (xs := (z.out.map V.int).set p (.int u)) ?_ upd_same
    have : ((z.out.map V.int).set p (.int u)) = (z.out.set p u).map V.int := by rw [List.map_set]
    rw [this]
    exact Ats.ints _
  have s67 : Same M6 (upd M6 y2 (.lst ((z.out.map V.int).set p (.int u)))) := same_new m6y _
  generalize upd M6 y2 (.lst ((z.out.map V.int).set p (.int u))) = M7 at g7 at7 s67
  generalize upd H6 y2 (.lst ((z.out.map V.int).set p (.int u))) = H7 at g7 ⊢
  -- Sheet(..)
  refine ⟨_, rfl, _, rfl, _, rfl, _, rfl, fun x dx2 nx nd ne => ⟨x, dx2, _, _, _, _, rfl, upd_same, rfl, ?_⟩⟩
  have g8 := made_gr (o0 := .ins t.c_Sheet dx2 []) (o := .ins t.c_Sheet dx2 (fl (.ref y1) (.ref y2) (.ref y) gv)) g7 nx nd ne
  have m7x : M7 x = none := g7.mh.free nx
  have s78 : Same M7 (upd M7 x (.ins t.c_Sheet dx2 (fl (.ref y1) (.ref y2) (.ref y) gv))) := same_new m7x _
  have s58 := s56.trans (s67.trans s78)
  refine q _ _ _ g8 ⟨x, dx2, _, _, _, _, rfl, upd_same, ?_, ?_, ?_, ?_⟩
  · rw [SH.Sh.exch_eq at_]; exact at6.mono (s67.trans s78)
  · rw [SH.Sh.exch_eq at_]; exact at7.mono s78
  · exact at5.mono (g5.mm.trans s58)
  · rw [SH.Sh.exch_eq at_]; exact t5.mono s58
end
end W1


namespace W1
open PySem PySem.Spec L2
def chg (s : SH.Sh) (c : Nat × Nat) : SH.Sh := if (s.ln.getD c.1 []).getD c.2 0 ≠ 0 then s.exch c.1 c.2 else s
def run (s0 : SH.Sh) (cs : List (Nat × Nat)) (k : Nat) : SH.Sh := (cs.take k).foldl chg s0
theorem run_succ {s0 : SH.Sh} {cs : List (Nat × Nat)} {k : Nat} {c : Nat × Nat} (h : cs[k]? = some c) : run s0 cs (k + 1) = chg (run s0 cs k) c := by
  unfold run
  rw [List.take_add_one, h, List.foldl_append]
  rfl
theorem exch_in (s : SH.Sh) (r p : Nat) : (s.exch r p).inn.length = s.inn.length ∧ (s.exch r p).out.length = s.out.length := ⟨by unfold SH.Sh.exch; simp, by unfold SH.Sh.exch; simp⟩
theorem chg_in (s : SH.Sh) (c : Nat × Nat) : (chg s c).inn.length = s.inn.length ∧ (chg s c).out.length = s.out.length := by
  unfold chg
  split
  · exact exch_in s _ _
  · exact ⟨rfl, rfl⟩
theorem run_in (s0 : SH.Sh) (cs : List (Nat × Nat)) : ∀ k, (run s0 cs k).inn.length = s0.inn.length ∧ (run s0 cs k).out.length = s0.out.length
  | 0 => ⟨rfl, rfl⟩
  | k + 1 => by
    cases h : cs[k]? with
    | none =>
      have : run s0 cs (k + 1) = run s0 cs k := by
        unfold run
        rw [List.take_add_one, h]
        simp
      rw [this]
      exact run_in s0 cs k
    | some c =>
      rw [run_succ h]
      have a := chg_in (run s0 cs k) c
      have b := run_in s0 cs k
      exact ⟨a.1.trans b.1, a.2.trans b.2⟩
def first (inn out : List Int) (bases : List Rat) (rows : List (List Rat)) (gains : List Rat) : SH.Sh := ⟨inn, out, List.zipWith (fun r b => r ++ [b]) rows bases, gains ++ [0]⟩
def sheetT (s : SH.Sh) : List Tr := [intsT s.inn, intsT s.out, lnT (s.ln.map fun l => l.getD s.out.length 0), lnsT (s.ln.map fun l => l.take s.out.length), frT (s.gl.getD s.out.length 0), lnT (s.gl.take s.out.length)]
def chT (cs : List (Nat × Nat)) : Tr := .lst (cs.map fun c => pT c.1 c.2)
def spAfter (K : PySem.W.Frag) : Sp := fun vs H Q _ => ∃ (v1 v2 v3 v4 v5 v6 : V) (inn out : List Int) (bases : List Rat) (rows : List (List Rat)) (gains : List Rat) (cs : List (Nat × Nat)) (M : Hp), vs = [v1, v2, v3, v4, v5, v6] ∧
  At K M (intsT inn) v1 ∧ At K M (intsT out) v2 ∧ At K M (lnT bases) v3 ∧ At K M (lnsT rows) v4 ∧ At K M (lnT gains) v5 ∧ At K M (chT cs) v6 ∧ inn.length ≤ 100 ∧ out.length ≤ 100 ∧ rows.length = inn.length ∧ bases.length = inn.length ∧ gains.length = out.length ∧ cs.length ≤ 100 ∧
  (∀ r ∈ rows, r.length = out.length) ∧ (∀ c ∈ cs, c.1 < inn.length ∧ c.2 < out.length) ∧ (∀ k, (run (first inn out bases rows gains) cs k).Ok ∧ Sz (run (first inn out bases rows gains) cs k)) ∧ Same M H ∧
  ∀ (v : V) (M' H' : Hp), Gr M H M' H' → At K M' (.tup (sheetT (run (first inn out bases rows gains) cs cs.length))) v → Q v H'
theorem atI_m1 {α : Type} {xs : List α} {n : Nat} {v : α} (hl : xs.length = n + 1) (h : xs[n]? = some v) : atI xs (-1) = some v := by
  unfold atI ixN
  rw [if_neg (by decide), if_pos (by omega)]
  show xs[(-1 + (xs.length : Int)).toNat]? = some v
  rw [show (-1 + (xs.length : Int)).toNat = n by omega]
  exact h
theorem cut_m1 {xs : List V} {n : Nat} (hl : xs.length = n + 1) : cutV xs none (some (-1)) = xs.take n := by
  unfold cutV
  rw [HT.sIx_none, List.drop_zero]
  show xs.take ((if (-1 : Int) < 0 then (-1 + (xs.length : Int)).toNat else min (-1 : Int).toNat xs.length) - 0) = _
  rw [if_pos (by decide), show (-1 + (xs.length : Int)).toNat - 0 = n by omega]
theorem fr_zero (r : Rat) : (r.num = 0 ∧ (r.den : Int) = 1) ↔ r = 0 := by
  constructor
  · rintro ⟨h, _⟩; exact Rat.num_eq_zero.mp h
  · rintro rfl; exact ⟨rfl, rfl⟩
section
variable {P : Program} {w : World} {K : PySem.W.Frag} {mg : Str → Option Value} {base : Heap} {t : Adr} {k : Nat}
theorem ok_after_changes (T : Txt K mg t) (G_Sheet___init__ : FnOk P w K mg base (CXE P w) k t.f_Sheet___init__ t.d_Sheet___init__ ["self", "inner", "outer", "lines", "goal"] (spInit t.c_Sheet))
    (G_exchanged : FnOk P w K mg base (CXE P w) (k + 1) t.f_exchanged t.d_exchanged ["sheet", "row", "place"] (spExch K t.c_Sheet)) :
    FnOk P w K mg base (CXE P w) (k + 2) t.f_after_changes t.d_after_changes ["inner", "outer", "bases", "rows", "gains", "changes"] (spAfter K) := by
  refine T.F_after_changes.okE sc_after_changes (fun vs H Q E h => ?_) (fun cdv A outer s H vs Q E hr h => ?_)
  · obtain ⟨v1, v2, v3, v4, v5, v6, inn, out, bases, rows, gains, cs, M, rfl, _⟩ := h
    rfl
  obtain ⟨v1, v2, v3, v4, v5, v6, inn, out, bases, rows, gains, cs, M, rfl, h1, h2, h3, h4, h5, h6, li, lo, lr, lb, lg, lc, hrow, hcs, hok, hM, q⟩ := h
  obtain ⟨b1, x1, rfl, hb1, a1⟩ := h1.lst_inv
  obtain ⟨b2, x2, rfl, hb2, a2⟩ := h2.lst_inv
  obtain ⟨b3, x3, rfl, hb3, a3⟩ := h3.lst_inv
  obtain ⟨b4, x4, rfl, hb4, a4⟩ := h4.lst_inv
  obtain ⟨b5, x5, rfl, hb5, a5⟩ := h5.lst_inv
  obtain ⟨b6, x6, rfl, hb6, a6⟩ := h6.lst_inv
  have e1 := Ats.ints_inv a1
  have e2 := Ats.ints_inv a2
  subst e1 e2
  have l3 : x3.length = inn.length := by have := a3.1; simp at this; omega
  have l4 : x4.length = inn.length := by have := a4.1; simp at this; omega
  have l5 : x5.length = out.length := by have := a5.1; simp at this; omega
  have l6 : x6.length = cs.length := by have := a6.1; simp at this; omega
  refine ⟨_, (pss_cons (ps_compG (iy := 6) sc_after_changes.nd rfl (Or.inl rfl) rfl (compt_of (n := 2) (js := []) (Nb := ["row", "base"]) (by kernel_rfl) rfl (by decide +kernel) (by decide) (by kernel_rfl)) (pi_zip rfl T.n_zip (pa_cons (pv 3) (pa_cons (pv 2) pa_nil))) (fun C s0 H0 fp pn' => (pg_tup (n := 2) rfl (pgs_cons (pg_name (i := 0) (nd_of (l := ["row", "base"]) (by decide +kernel)) rfl (Or.inl rfl)) (pgs_cons (pg_name (i := 1) (nd_of (l := ["row", "base"]) (by decide +kernel)) rfl (Or.inl rfl)) pgs_nil)))) own_pair (fun C s0 H0 fp pn' => pts_none) (fun C s0 H0 fp pn' => (pe_op op_cat (pv 0) (pe_lst (pa_cons (pv 1) pa_nil)))))
    (pss_cons (ps_set (i := 7) sc_after_changes.nd rfl (Or.inl rfl) (pe_make T.k_Sheet G_Sheet___init__ hr rfl T.m_Sheet T.b_Sheet___init__ .nil pass_no (pa_cons (pe_callTy call_list_of rfl T.n_list bt_list (pa_cons (pv 0) pa_nil)) (pa_cons (pe_callTy call_list_of rfl T.n_list bt_list (pa_cons (pv 1) pa_nil)) (pa_cons (pv 6) (pa_cons (pe_op op_cat (pv 4) (pe_lst (pa_cons (pe_glob (v := .ref t.k_NOUGHT) rfl T.m_NOUGHT rfl) pa_nil))) pa_nil))))))
    (pss_cons (ps_for PassesOwn.leaving rfl (pi_list (pv 5)) (pg_name (i := 8) sc_after_changes.nd rfl (Or.inl rfl))
      (pss_cons (ps_set (i := 11) sc_after_changes.nd rfl (Or.inl rfl) (pe_ix ix_tup (pv 8) pe_int (fun _ _ => rfl)))
    (pss_cons (ps_set (i := 12) sc_after_changes.nd rfl (Or.inl rfl) (pe_ix ix_tup (pv 8) pe_int (fun _ _ => rfl)))
    (pss_one (ps_if (pt_cmpR op_neT (pe_ix ix_list (pe_ix ix_list (pe_fld (pv 7) rfl) (pv 11) (fun _ _ => rfl)) (pv 12) (fun _ _ => rfl)) (pe_glob (v := .ref t.k_NOUGHT) rfl T.m_NOUGHT rfl) (nomark _))
      (pss_one (ps_set (i := 7) sc_after_changes.nd rfl (Or.inl rfl) (pe_call G_exchanged hr rfl T.m_exchanged T.F_exchanged.kp T.b_exchanged .nil pass_no (pa_cons (pv 7) (pa_cons (pv 11) (pa_cons (pv 12) pa_nil))))))
      pss_nil)))))
    (pss_cons (ps_compG (iy := 9) sc_after_changes.nd rfl (Or.inl rfl) rfl (compt_of (n := 1) (js := []) (Nb := ["line"]) (by kernel_rfl) rfl (by decide +kernel) (by decide) (by kernel_rfl)) (pi_list (pe_fld (pv 7) rfl)) (fun C s0 H0 fp pn' => (pg_name (i := 0) (nd_of (l := ["line"]) (by decide +kernel)) rfl (Or.inl rfl))) own_name (fun C s0 H0 fp pn' => pts_none) (fun C s0 H0 fp pn' => (pe_ix (r := rIxL K) ix_list (pv 0) (pe_un un_neg pe_int) (fun _ _ => rfl))))
    (pss_cons (ps_compG (iy := 10) sc_after_changes.nd rfl (Or.inl rfl) rfl (compt_of (n := 1) (js := []) (Nb := ["line"]) (by kernel_rfl) rfl (by decide +kernel) (by decide) (by kernel_rfl)) (pi_list (pe_fld (pv 7) rfl)) (fun C s0 H0 fp pn' => (pg_name (i := 0) (nd_of (l := ["line"]) (by decide +kernel)) rfl (Or.inl rfl))) own_name (fun C s0 H0 fp pn' => pts_none) (fun C s0 H0 fp pn' => (pe_slice (r := rSlL K) sl_list (pv 0) po_none (po_some (pe_un un_neg pe_int)))))
    (pss_one (ps_ret (pe_tup (pa_cons (pe_fld (pv 7) rfl) (pa_cons (pe_fld (pv 7) rfl) (pa_cons (pv 9) (pa_cons (pv 10) (pa_cons (pe_ix ix_list (pe_fld (pv 7) rfl) (pe_un un_neg pe_int) (fun _ _ => rfl)) (pa_cons (pe_slice sl_list (pe_fld (pv 7) rfl) po_none (po_some (pe_un un_neg pe_int))) pa_nil)))))))))))))), ?_⟩
  -- lines
  refine ⟨_, rfl, _, rfl, b4, b3, x4, x3, rfl, SqL.of (hM _ _ hb4), SqL.of (hM _ _ hb3), fun y hy => cm_zip (K := K) (M := M) (F := fun i => lnT (rows.getD i [] ++ [bases.getD i 0])) hM hb4 hb3 (by omega) (by omega) hy (fun i y1 y2 Mi Hi Qy hy1 hy2 gi kk => ?_) (fun M2 H2 ys g2 m2 hys at2 => ?_)⟩
  · obtain ⟨l, hl, atl⟩ := lns_get' a4 hy1
    obtain ⟨b, hb, atb⟩ := ln_get' a3 hy2
    obtain ⟨p, xs, rfl, hp, al⟩ := (atl.mono gi.mm).lst_inv
    have hxl : xs.length ≤ 100 := by have := al.1; have z := hrow l (List.mem_of_getElem? hl); simp at this; omega
    refine ⟨_, rfl, _, rfl, (by show 1 ≤ sizeLine; decide), fun p2 hp2 => ?_⟩
    have hpH := gi.mh _ _ hp
    refine ⟨p, p2, xs, _, rfl, rfl, by rw [upd_ne (ne_of_none hpH hp2)]; exact hpH, upd_same, Nat.le_of_lt (small1000 (by simp; omega)), fun p3 hp3 => ?_⟩
    have g3 : Gr Mi Hi Mi (upd Hi p2 (.lst [y2])) := (Gr.refl gi.mh).new hp2
    refine kk _ _ _ (g3.add hp3) ?_
    have : lnT (rows.getD i [] ++ [bases.getD i 0]) = lnT (l ++ [b]) := by rw [SH.gD hl, SH.gD hb]
    rw [this]
    refine Ats.lst (xs := xs ++ [y2]) ?_ upd_same
    rw [List.map_append]
    exact (al.snoc (atb.mono gi.mm)).mono (same_new (g3.mh.free hp3) _)
  have at3 : Ats K M2 ((first inn out bases rows gains).ln.map lnT) ys := ats_range at2 (by show (List.map lnT (List.zipWith _ rows bases)).length = _; simp; omega) fun i t ht => by
    rw [show (first inn out bases rows gains).ln = List.zipWith (fun r b => r ++ [b]) rows bases from rfl, List.getElem?_map, List.getElem?_zipWith] at ht
    cases e : rows[i]? with
    | none => rw [e] at ht; cases ht
    | some r =>
      cases e2 : bases[i]? with
      | none => rw [e, e2] at ht; cases ht
      | some b => rw [e, e2] at ht; cases ht; rw [SH.gD e, SH.gD e2]
  have g3 : Gr M H (upd M2 y (.lst ys)) H2 := g2.frz hy m2 hys
  have at4 : At K (upd M2 y (.lst ys)) (lnsT (first inn out bases rows gains).ln) (.ref y) := (at3.mono (same_new m2 _)).lst upd_same
  generalize upd M2 y (.lst ys) = M3 at g3 at4
  -- the first sheet
  refine ⟨_, rfl, b1, _, rfl, .inl (SqL.of (g3.hh _ _ (hM _ _ hb1))), fun c1 hc1 => ?_⟩
  have g4 : Gr M H (upd M3 c1 (.lst (inn.map V.int))) (upd H2 c1 (.lst (inn.map V.int))) := g3.add hc1
  have t1 : At K (upd M3 c1 (.lst (inn.map V.int))) (intsT inn) (.ref c1) := (Ats.ints _).lst upd_same
  have s34 : Same M3 (upd M3 c1 (.lst (inn.map V.int))) := same_new (g3.mh.free hc1) _
  generalize upd M3 c1 (.lst (inn.map V.int)) = M4 at g4 t1 s34
  generalize upd H2 c1 (.lst (inn.map V.int)) = H4 at g4 ⊢
  refine ⟨_, rfl, b2, _, rfl, .inl (SqL.of (g4.hh _ _ (hM _ _ hb2))), fun c2 hc2 => ?_⟩
  have g5 : Gr M H (upd M4 c2 (.lst (out.map V.int))) (upd H4 c2 (.lst (out.map V.int))) := g4.add hc2
  have t2 : At K (upd M4 c2 (.lst (out.map V.int))) (intsT out) (.ref c2) := (Ats.ints _).lst upd_same
  have s45 : Same M4 (upd M4 c2 (.lst (out.map V.int))) := same_new (g4.mh.free hc2) _
  generalize upd M4 c2 (.lst (out.map V.int)) = M5 at g5 t2 s45
  generalize upd H4 c2 (.lst (out.map V.int)) = H5 at g5 ⊢
  refine ⟨_, rfl, _, rfl, (by show 1 ≤ sizeLine; decide), fun c3 hc3 => ?_⟩
  have g6 : Gr M H M5 (upd H5 c3 (.lst [.ref t.k_NOUGHT])) := g5.new hc3
  have hb5' := g6.hh _ _ (hM _ _ hb5)
  refine ⟨b5, c3, x5, _, rfl, rfl, hb5', upd_same, Nat.le_of_lt (small1000 (by simp; omega)), fun c4 hc4 => ?_⟩
  have g7 := g6.add (o := .lst (x5 ++ [.ref t.k_NOUGHT])) hc4
  have s57 : Same M5 (upd M5 c4 (.lst (x5 ++ [.ref t.k_NOUGHT]))) := same_new (g6.mh.free hc4) _
  have t4 : At K (upd M5 c4 (.lst (x5 ++ [.ref t.k_NOUGHT]))) (lnT (gains ++ [0])) (.ref c4) := by
    refine Ats.lst (xs := x5 ++ [.ref t.k_NOUGHT]) ?_ upd_same
    rw [List.map_append]
    exact ((a5.mono g5.mm).mono s57).snoc (nought_T T)
  generalize upd M5 c4 (.lst (x5 ++ [.ref t.k_NOUGHT])) = M7 at g7 t4 s57
  generalize upd (upd H5 c3 (.lst [.ref t.k_NOUGHT])) c4 (.lst (x5 ++ [.ref t.k_NOUGHT])) = H7 at g7 ⊢
  intro x dx nx nd ne
  refine ⟨x, dx, _, _, _, _, rfl, upd_same, rfl, ?_⟩
  have g8 := made_gr (o0 := .ins t.c_Sheet dx []) (o := .ins t.c_Sheet dx (fl (.ref c1) (.ref c2) (.ref y) (.ref c4))) g7 nx nd ne
  have s78 : Same M7 (upd M7 x (.ins t.c_Sheet dx (fl (.ref c1) (.ref c2) (.ref y) (.ref c4)))) := same_new (g7.mh.free nx) _
  have sh0 : ShAt K t.c_Sheet (upd M7 x (.ins t.c_Sheet dx (fl (.ref c1) (.ref c2) (.ref y) (.ref c4)))) (first inn out bases rows gains) (.ref x) := by
    refine ⟨x, dx, _, _, _, _, rfl, upd_same, ?_, ?_, ?_, ?_⟩
    · exact t1.mono (s45.trans (s57.trans s78))
    · exact t2.mono (s57.trans s78)
    · exact at4.mono (s34.trans (s45.trans (s57.trans s78)))
    · exact t4.mono s78
  generalize upd M7 x (.ins t.c_Sheet dx (fl (.ref c1) (.ref c2) (.ref y) (.ref c4))) = M8 at g8 sh0
  generalize upd (upd (upd H7 dx (.own x)) x (.ins t.c_Sheet dx [])) x (.ins t.c_Sheet dx (fl (.ref c1) (.ref c2) (.ref y) (.ref c4))) = H8 at g8 ⊢
  -- the changes
  refine ⟨_, rfl, b6, rfl, ⟨_, SqL.of (g8.hh _ _ (hM _ _ hb6))⟩, for_list (K := K) (xs := x6) (fun i σ H' => ∃ (M' : Hp) (v : V) (c a b : Option V), σ = [some (.ref b1), some (.ref b2), some (.ref b3), some (.ref b4), some (.ref b5), some (.ref b6), some (.ref y), some v, c, none, none, a, b] ∧ Gr M H M' H' ∧ ShAt K t.c_Sheet M' (run (first inn out bases rows gains) cs i) v)
    ⟨M8, _, none, none, none, rfl, g8, sh0⟩ (fun i σ H' _ h => by obtain ⟨M', v, c, a, b, _, g, _⟩ := h; exact SqL.of (g.hh _ _ (hM _ _ hb6))) ?_ ?_⟩
  · rintro i xc σ H' hxc ⟨M', v, c, a, b, rfl, g, hs⟩
    obtain ⟨tc, htc, atc⟩ := a6.get' hxc
    rw [List.getElem?_map] at htc
    obtain ⟨⟨r, p⟩, hc⟩ : ∃ rp, cs[i]? = some rp := by
      cases e : cs[i]? with
      | none => rw [e] at htc; cases htc
      | some rp => exact ⟨rp, rfl⟩
    rw [hc] at htc
    cases htc
    obtain ⟨pc, rfl, hpc⟩ := pT_inv (atc.mono g.mm)
    have hpcH := g.mh.tup hpc
    obtain ⟨hri, hpi⟩ := hcs _ (List.mem_of_getElem? hc)
    obtain ⟨ok, sz⟩ := hok i
    have hin := run_in (first inn out bases rows gains) cs i
    have hri' : r < (run (first inn out bases rows gains) cs i).inn.length := by rw [hin.1]; exact hri
    have hpi' : p < (run (first inn out bases rows gains) cs i).out.length := by rw [hin.2]; exact hpi
    have hnext := run_succ (s0 := first inn out bases rows gains) hc
    obtain ⟨_, sz2⟩ := hok (i + 1)
    rw [hnext] at sz2
    have lin : (run (first inn out bases rows gains) cs i).inn.length ≤ 100 := by rw [hin.1]; exact li
    have lout : (run (first inn out bases rows gains) cs i).out.length ≤ 100 := by rw [hin.2]; exact lo
    generalize run (first inn out bases rows gains) cs i = z at *
    obtain ⟨o, dx, u1, u2, u3, u4, rfl, ho, g1, g2, g3, g4⟩ := id hs
    have hoH := g.mh _ _ ho
    obtain ⟨q3, y3, rfl, hq3, ay⟩ := g3.lst_inv
    have hrl : r < z.ln.length := by rw [ok.ln]; exact hri'
    obtain ⟨vl, hvl, atl⟩ := lns_get ay (List.getElem?_eq_getElem hrl)
    obtain ⟨ql, yl, rfl, hql, al⟩ := atl.lst_inv
    have hw := ok.wd z.ln[r] (List.getElem_mem hrl)
    obtain ⟨ve, hve, ate⟩ := ln_get al (List.getElem?_eq_getElem (show p < z.ln[r].length by omega))
    obtain ⟨qe, rfl, hqe⟩ := fr_inv ate
    refine ⟨_, rfl, pc, _, _, _, rfl, rfl, hpcH, rfl, ?_⟩
    refine ⟨_, rfl, pc, _, _, _, rfl, rfl, hpcH, rfl, ?_⟩
    refine ⟨_, rfl, o, _, dx, _, _, rfl, hoH, T.cl_Sheet, T.na_Sheet_lines, fl_lines _ _ _ _, _, rfl, q3, _, _, _, rfl, rfl, SqL.of (g.mh _ _ hq3), atI_nat hvl, _, rfl, ql, _, _, _, rfl, rfl, SqL.of (g.mh _ _ hql), atI_nat hve, qe, t.k_NOUGHT, _, _, _, _, rfl, rfl, g.mh.tup hqe, T.q_NOUGHT _, hr.units0, _, rfl, ?_⟩
    have ee : (z.ln.getD r []).getD p 0 = z.ln[r][p]'(by omega) := by rw [SH.gD (List.getElem?_eq_getElem hrl), SH.getD_of (List.getElem?_eq_getElem (by omega))]
    by_cases h0 : z.ln[r][p]'(by omega) = 0
    · have hch : chg z (r, p) = z := if_neg (by show ¬ (z.ln.getD r []).getD p 0 ≠ 0; rw [ee]; exact fun z => z h0)
      rw [hch] at hnext
      rw [decide_eq_true ((fr_zero _).mpr h0)]
      refine iteF ⟨M', .ref o, some (.ref pc), some (.int r), some (.int p), rfl, g, ?_⟩
      rw [hnext]
      exact hs
    · have hch : chg z (r, p) = z.exch r p := if_pos (by show (z.ln.getD r []).getD p 0 ≠ 0; rw [ee]; exact h0)
      rw [hch] at hnext sz2
      rw [decide_eq_false (fun z => h0 ((fr_zero _).mp z))]
      obtain ⟨u, n, l, a', hat⟩ := ok.at_ hri' hpi' (by rw [ee]; exact h0)
      refine iteT ⟨_, rfl, _, rfl, _, rfl, _, z, r, p, u, n, l, a', M', rfl, hs, ok, hat, sz, sz2, lin, lout, g.mh, fun xv M9 H9 g9 h9 => ?_⟩
      refine ⟨M9, xv, some (.ref pc), some (.int r), some (.int p), rfl, g.trans g9, ?_⟩
      rw [hnext]
      exact h9
  -- what is told
  rintro σ H' ⟨M', v, c, a, b, rfl, g, hs⟩
  rw [l6] at hs
  obtain ⟨ok, sz⟩ := hok cs.length
  have hin := run_in (first inn out bases rows gains) cs cs.length
  have lin : (run (first inn out bases rows gains) cs cs.length).inn.length ≤ 100 := by rw [hin.1]; exact li
  have lout : (run (first inn out bases rows gains) cs cs.length).out.length ≤ 100 := by rw [hin.2]; exact lo
  generalize run (first inn out bases rows gains) cs cs.length = z at *
  obtain ⟨o, dx, u1, u2, u3, u4, rfl, ho, g1, g2, g3', g4'⟩ := hs
  have hoH := g.mh _ _ ho
  obtain ⟨q3, y3, rfl, hq3, ay⟩ := g3'.lst_inv
  obtain ⟨q4, y4, rfl, hq4, ag⟩ := g4'.lst_inv
  have ly : y3.length = z.inn.length := by have := ay.1; simp at this; rw [← this, ok.ln]
  have lyg : y4.length = z.out.length + 1 := by have := ag.1; simp at this; rw [← this, ok.gl]
  refine ⟨_, rfl, o, _, dx, _, _, rfl, hoH, T.cl_Sheet, T.na_Sheet_lines, fl_lines _ _ _ _, q3, rfl, ⟨_, SqL.of (g.mh _ _ hq3)⟩, fun c5 hc5 => cm_list (K := K) (M := M') (F := fun i => frT ((z.ln.getD i []).getD z.out.length 0)) g.mh hq3 (by omega) hc5 (fun i xv Mi Hi Qy hx gi kk => ?_) (fun M10 H10 y10 g10 m10 hy10 at10 => ?_)⟩
  · obtain ⟨l, hl, atl⟩ := lns_get' ay hx
    obtain ⟨ql, yl, rfl, hql, al⟩ := (atl.mono gi.mm).lst_inv
    have hw := ok.wd l (List.mem_of_getElem? hl)
    have hyl : yl.length = z.out.length + 1 := by have := al.1; simp at this; omega
    obtain ⟨ve, hve, ate⟩ := ln_get al (List.getElem?_eq_getElem (show z.out.length < l.length by omega))
    refine ⟨_, rfl, _, rfl, ql, _, _, _, rfl, rfl, SqL.of (gi.mh _ _ hql), atI_m1 hyl hve, kk _ _ _ (Gr.refl gi.mh) ?_⟩
    rw [SH.gD hl, SH.getD_of (List.getElem?_eq_getElem (show z.out.length < l.length by omega))]
    exact ate
  have atb : Ats K M10 ((z.ln.map fun l => l.getD z.out.length 0).map frT) y10 := ats_range at10 (by simp [ok.ln, ly]) fun i t ht => by
    rw [List.getElem?_map, List.getElem?_map] at ht
    cases e : z.ln[i]? with
    | none => rw [e] at ht; cases ht
    | some r => rw [e] at ht; cases ht; rw [SH.gD e]
  have hc50 : H c5 = none := g.hh.free hc5
  have g11 : Gr M H (upd M10 c5 (.lst y10)) H10 := (g.trans g10).frz hc50 m10 hy10
  have tb : At K (upd M10 c5 (.lst y10)) (lnT (z.ln.map fun l => l.getD z.out.length 0)) (.ref c5) := (atb.mono (same_new m10 _)).lst upd_same
  have s11 : Same M' (upd M10 c5 (.lst y10)) := g10.mm.trans (same_new m10 _)
  generalize upd M10 c5 (.lst y10) = M11 at g11 tb s11
  have ho11 := g11.mh _ _ (s11 _ _ ho)
  refine ⟨_, rfl, o, _, dx, _, _, rfl, ho11, T.cl_Sheet, T.na_Sheet_lines, fl_lines _ _ _ _, q3, rfl, ⟨_, SqL.of (g11.mh _ _ (s11 _ _ hq3))⟩, fun c6 hc6 => cm_list (K := K) (M := M11) (F := fun i => lnT ((z.ln.getD i []).take z.out.length)) g11.mh (s11 _ _ hq3) (by omega) hc6 (fun i xv Mi Hi Qy hx gi kk => ?_) (fun M12 H12 y12 g12 m12 hy12 at12 => ?_)⟩
  · obtain ⟨l, hl, atl⟩ := lns_get' ay hx
    obtain ⟨ql, yl, rfl, hql, al⟩ := ((atl.mono s11).mono gi.mm).lst_inv
    have hw := ok.wd l (List.mem_of_getElem? hl)
    have hyl : yl.length = z.out.length + 1 := by have := al.1; simp at this; omega
    refine ⟨_, rfl, _, rfl, _, rfl, ql, _, rfl, SqL.of (gi.mh _ _ hql), fun p9 hp9 => ?_⟩
    refine kk _ _ _ ((Gr.refl gi.mh).add hp9) ?_
    rw [SH.gD hl]
    refine Ats.lst (xs := yl.take z.out.length) ?_ (by rw [upd_same]; exact congrArg (fun q => some (HO.lst q)) (cut_m1 hyl))
    rw [List.map_take]
    exact (al.take _).mono (same_new (gi.mh.free hp9) _)
  have atr : Ats K M12 ((z.ln.map fun l => l.take z.out.length).map lnT) y12 := ats_range at12 (by simp [ok.ln, ly]) fun i t ht => by
    rw [List.getElem?_map, List.getElem?_map] at ht
    cases e : z.ln[i]? with
    | none => rw [e] at ht; cases ht
    | some r => rw [e] at ht; cases ht; rw [SH.gD e]
  have hc60 : H c6 = none := g11.hh.free hc6
  have g13 : Gr M H (upd M12 c6 (.lst y12)) H12 := (g11.trans g12).frz hc60 m12 hy12
  have tr : At K (upd M12 c6 (.lst y12)) (lnsT (z.ln.map fun l => l.take z.out.length)) (.ref c6) := (atr.mono (same_new m12 _)).lst upd_same
  have s13 : Same M11 (upd M12 c6 (.lst y12)) := g12.mm.trans (same_new m12 _)
  generalize upd M12 c6 (.lst y12) = M13 at g13 tr s13
  have s0 := s11.trans s13
  have ho13 := g13.mh _ _ (s0 _ _ ho)
  have hq13 := g13.mh _ _ (s0 _ _ hq4)
  obtain ⟨ve, hve, ate⟩ := ln_get ag (List.getElem?_eq_getElem (show z.out.length < z.gl.length by rw [ok.gl]; omega))
  refine ⟨_, rfl, o, _, dx, _, _, rfl, ho13, T.cl_Sheet, T.na_Sheet_inner, fl_inner _ _ _ _, _, rfl, o, _, dx, _, _, rfl, ho13, T.cl_Sheet, T.na_Sheet_outer, fl_outer _ _ _ _, _, rfl, _, rfl, ?_⟩
  refine ⟨_, rfl, o, _, dx, _, _, rfl, ho13, T.cl_Sheet, T.na_Sheet_goal, fl_goal _ _ _ _, _, rfl, q4, _, _, _, rfl, rfl, SqL.of hq13, atI_m1 lyg hve, ?_⟩
  refine ⟨_, rfl, o, _, dx, _, _, rfl, ho13, T.cl_Sheet, T.na_Sheet_goal, fl_goal _ _ _ _, _, rfl, _, rfl, q4, _, rfl, SqL.of hq13, fun c7 hc7 => ?_⟩
  have g14 := g13.add (o := .lst (cutV y4 none (some (-1)))) hc7
  have s14 : Same M13 (upd M13 c7 (.lst (cutV y4 none (some (-1))))) := same_new (g13.mh.free hc7) _
  have tg : At K (upd M13 c7 (.lst (cutV y4 none (some (-1))))) (lnT (z.gl.take z.out.length)) (.ref c7) := by
    rw [cut_m1 lyg]
    refine Ats.lst (xs := y4.take z.out.length) ?_ upd_same
    rw [List.map_take]
    rw [cut_m1 lyg] at s14
    exact (ag.take _).mono (s0.trans s14)
  refine ⟨(by show 6 ≤ sizeLine; decide), fun c8 hc8 => ?_⟩
  have g15 := g14.add (o := .tup [u1, u2, .ref c5, .ref c6, ve, .ref c7]) hc8
  have s15 : Same (upd M13 c7 (.lst (cutV y4 none (some (-1))))) (upd (upd M13 c7 (.lst (cutV y4 none (some (-1))))) c8 (.tup [u1, u2, .ref c5, .ref c6, ve, .ref c7])) := same_new (g14.mh.free hc8) _
  have sA := s0.trans (s14.trans s15)
  refine q _ _ _ g15 (Ats.tup (xs := [u1, u2, .ref c5, .ref c6, ve, .ref c7]) ?_ (SqT.of upd_same))
  refine Ats.cons (g1.mono sA) (Ats.cons (g2.mono sA) (Ats.cons (tb.mono (s13.trans (s14.trans s15))) (Ats.cons (tr.mono (s14.trans s15)) (Ats.cons ?_ (Ats.cons (tg.mono s15) Ats.nil)))))
  rw [SH.getD_of (List.getElem?_eq_getElem (show z.out.length < z.gl.length by rw [ok.gl]; omega))]
  exact ate.mono sA
end
end W1


namespace W1
open PySem PySem.Spec L2
mutual
def cnt : Tr → Nat
  | .int _ => 1
  | .str _ => 1
  | .lst ts => 1 + cnts ts
  | .tup ts => 1 + cnts ts
def cnts : List Tr → Nat
  | [] => 0
  | t :: ts => cnt t + cnts ts
end
theorem cnts_app : ∀ a b : List Tr, cnts (a ++ b) = cnts a + cnts b
  | [], b => by simp [cnts]
  | t :: a, b => by
    show cnt t + cnts (a ++ b) = cnt t + cnts a + cnts b
    rw [cnts_app a b]; omega
theorem cnt_pos (t : Tr) : 0 < cnt t := by cases t <;> simp [cnt] <;> omega
theorem cnts_len : ∀ ts : List Tr, ts.length ≤ cnts ts
  | [] => Nat.zero_le _
  | t :: ts => by
    have := cnts_len ts
    have := cnt_pos t
    show ts.length + 1 ≤ cnt t + cnts ts
    omega
theorem cnts_one (t : Tr) : cnts [t] = cnt t := by simp [cnts]
def atV (ns : List Int) (k : Int) : Int := if ns = [] then 0 else ns.getD (k % (ns.length : Int)).toNat 0 + 3 * k.fdiv (ns.length : Int)
def spWhole : Sp := fun vs H Q _ => ∃ i : Int, vs = [.int i] ∧ Q (.bl true) H
def spAt (K : PySem.W.Frag) : Sp := fun vs H Q _ => ∃ (a : Addr) (ns : List Int) (k : Int) (M : Hp), vs = [.ref a, .int k] ∧ SqL K H a (ns.map V.int) ∧ ns.length ≤ 63 ∧ Same M H ∧ ∀ H', Gr M H M H' → Q (.int (atV ns k)) H'
def spSame (K : PySem.W.Frag) : Sp := fun vs H Q _ => ∃ (v x : V) (t : Tr) (M : Hp), vs = [v, x] ∧ At K M t v ∧ At K M t x ∧ cnt t ≤ 1000 ∧ Same M H ∧ ∀ H', Gr M H M H' → Q (.bl true) H'
def spIsFr (K : PySem.W.Frag) : Sp := fun vs H Q _ => ∃ (v : V) (r : Rat) (M : Hp), vs = [v] ∧ At K M (frT r) v ∧ Same M H ∧ Q (.bl true) H
def spAreFr (K : PySem.W.Frag) : Sp := fun vs H Q _ => ∃ (v : V) (l : List Rat) (M : Hp), vs = [v, .int (l.length : Nat)] ∧ At K M (lnT l) v ∧ l.length ≤ 1000 ∧ Same M H ∧ Q (.bl true) H
theorem ats_unsnoc {K : PySem.W.Frag} {M : Hp} {ts : List Tr} {xs : List V} (h : Ats K M ts xs) (ne : xs ≠ []) : ∃ ts' t xs' x, ts = ts' ++ [t] ∧ xs = xs' ++ [x] ∧ Ats K M ts' xs' ∧ At K M t x := by
  have hl := h.1
  have hx : 0 < xs.length := List.length_pos_iff.mpr ne
  have e1 : xs = xs.take (xs.length - 1) ++ [xs[xs.length - 1]'(by omega)] := by
    have := List.take_append_drop (xs.length - 1) xs
    rw [List.drop_eq_getElem_cons (by omega), List.drop_of_length_le (by omega)] at this
    exact this.symm
  have e2 : ts = ts.take (xs.length - 1) ++ [ts[xs.length - 1]'(by omega)] := by
    have := List.take_append_drop (xs.length - 1) ts
    rw [List.drop_eq_getElem_cons (by omega), List.drop_of_length_le (by omega)] at this
    exact this.symm
  exact ⟨_, _, _, _, e2, e1, h.take _, h.2 _ _ _ (List.getElem?_eq_getElem _) (List.getElem?_eq_getElem _)⟩
theorem last_at {α : Type} (xs : List α) (x : α) : (xs ++ [x])[(xs ++ [x]).length - 1]? = some x := by simp
section
variable {P : Program} {w : World} {K : PySem.W.Frag} {mg : Str → Option Value} {base : Heap} {t : Adr} {k : Nat}
theorem ok__law_common (T : Txt K mg t) : FnOk P w K mg base CX0 (k + 1) t.f__law_common t.d__law_common ["_law_one", "_law_two"] spCd := by
  refine T.F__law_common.ok sc__law_common (fun vs H Q E h => ?_) (fun cdv A outer s H vs Q E hr h => ?_)
  · obtain ⟨a, b, rfl, _⟩ := h
    rfl
  obtain ⟨a, b, rfl, ha, hb, q⟩ := h
  refine ⟨_, (pss_cons (ps_while PassesOwn.never (pt_cmpR op_ne (pv 1) pe_int (nomark _))
      (pss_cons (ps_set (i := 2) sc__law_common.nd rfl (Or.inl rfl) (pe_op op_mod (pv 0) (pv 1)))
    (pss_cons (ps_set (i := 0) sc__law_common.nd rfl (Or.inl rfl) (pv 1))
    (pss_one (ps_set (i := 1) sc__law_common.nd rfl (Or.inl rfl) (pv 2))))))
    (pss_one (ps_ret (pv 0)))), ?_⟩
  refine while_by (fun σ H' => H' = H ∧ ∃ (x y : Int) (z : Option V), σ = [some (.int x), some (.int y), z] ∧ 0 ≤ x ∧ 0 ≤ y ∧ Int.gcd x y = Int.gcd a b) (fun σ _ => match σ with | [_, some (.int y), _] => y.toNat | _ => 0) ⟨rfl, a, b, none, rfl, ha, hb, rfl⟩ ?_ ?_
  · rintro σ H' ⟨rfl, x, y, z, rfl, hx, hy, hg⟩
    refine ⟨_, rfl, rfl, _, rfl, ?_⟩
    refine ite2 (fun c => ?_) (fun c => ?_)
    · have hy' : 0 < y := by have := ne_of_test c; omega
      refine ⟨_, rfl, _, rfl, _, _, rfl, rfl, hy', _, rfl, _, rfl, ⟨rfl, y, x % y, _, rfl, hy, Int.emod_nonneg _ (by omega), ?_⟩, ?_⟩
      · rw [FM.gcd_turn hx hy', hg]
      · have := Int.emod_lt_of_pos x hy'
        show (x % y).toNat < y.toNat
        omega
    · have hy0 : y = 0 := eq_of_ntest c
      subst hy0
      refine ⟨_, rfl, ?_⟩
      have e : ((Int.gcd a b : Nat) : Int) = x := by rw [← hg, Int.gcd_zero_right]; omega
      rw [e] at q
      exact q
  · intro σ H Q Q' hQ h
    obtain ⟨v, e, s, k, e2, h⟩ := h
    exact ⟨v, e, s, k, e2, hQ _ _ h⟩
theorem ok__law_whole (T : Txt K mg t) : FnOk P w K mg base CX0 (k + 1) t.f__law_whole t.d__law_whole ["_law_found"] spWhole := by
  refine T.F__law_whole.ok sc__law_whole (fun vs H Q E h => ?_) (fun cdv A outer s H vs Q E hr h => ?_)
  · obtain ⟨i, rfl, _⟩ := h
    rfl
  obtain ⟨i, rfl, q⟩ := h
  refine ⟨_, (pss_one (ps_ret (pe_and (pe_callB call_isV rfl T.n_isinstance PyProof.Rows.boot_isinstance (pa_cons (pv 0) (pa_cons (pe_bltn (v := .ty "int") rfl T.n_int bt_int rfl) pa_nil))) (pe_one (pe_not (pe_callB call_isV rfl T.n_isinstance PyProof.Rows.boot_isinstance (pa_cons (pv 0) (pa_cons (pe_bltn (v := .ty "bool") rfl T.n_bool bt_bool rfl) pa_nil)))))))), ?_⟩
  refine ⟨_, rfl, _, _, _, _, rfl, .int i, kit_same, _, rfl, iteT ?_⟩
  exact ⟨_, rfl, _, _, _, _, rfl, .int i, kn_ib, _, rfl, q⟩
theorem ok__law_at (T : Txt K mg t) : FnOk P w K mg base CX0 (k + 1) t.f__law_at t.d__law_at ["_law_script", "_law_k"] (spAt K) := by
  refine T.F__law_at.ok sc__law_at (fun vs H Q E h => ?_) (fun cdv A outer s H vs Q E hr h => ?_)
  · obtain ⟨a, ns, j, M, rfl, _⟩ := h
    rfl
  obtain ⟨a, ns, j, M, rfl, hS, h63, hM, q⟩ := h
  refine ⟨_, (pss_cons (ps_if (pt_cmpR op_eqL (pv 0) (pe_lst pa_nil) (nomark _))
      (pss_one (ps_ret pe_int))
      pss_nil)
    (pss_one (ps_ret (pe_op op_add (pe_ix ix_list (pv 0) (pe_op op_mod (pv 1) (pe_callB call_len_seq rfl T.n_len PySem.boot_len (pa_cons (pv 0) pa_nil))) (fun _ _ => rfl)) (pe_op op_mulB pe_int (pe_op op_fdivB (pv 1) (pe_callB call_len_seq rfl T.n_len PySem.boot_len (pa_cons (pv 0) pa_nil)))))))), ?_⟩
  refine ⟨_, rfl, (by show 0 ≤ sizeLine; decide), fun p hp => ?_⟩
  have g1 : Gr M H M (upd H p (.lst [])) := (Gr.refl hM).new hp
  have hS1 := g1.hh.seq hS
  refine ⟨a, p, _, rfl, rfl, hS1, SqL.of upd_same, hr.units0, _, rfl, ?_⟩
  cases ns with
  | nil => exact iteT (q _ g1)
  | cons n0 nr =>
    refine iteF ?_
    have hl : ((n0 :: nr).map V.int).length = (n0 :: nr).length := List.length_map _
    have hL : (0 : Int) < ((((n0 :: nr).map V.int).length : Nat) : Int) := by rw [hl]; simp
    have hm0 := Int.emod_nonneg j (show ((((n0 :: nr).map V.int).length : Nat) : Int) ≠ 0 by omega)
    have hm1 := Int.emod_lt_of_pos j hL
    have hv : atI ((n0 :: nr).map V.int) (j % ((((n0 :: nr).map V.int).length : Nat) : Int)) = some (.int ((n0 :: nr).getD (j % (((n0 :: nr).length : Nat) : Int)).toNat 0)) := by
      rw [hl] at hm0 hm1 ⊢
      obtain ⟨m, hm⟩ := Int.eq_ofNat_of_zero_le hm0
      rw [hm] at hm1 ⊢
      have hml : m < (n0 :: nr).length := by omega
      refine atI_nat ?_
      rw [List.getElem?_map, List.getElem?_eq_getElem hml]
      show some (V.int _) = _
      rw [Int.toNat_natCast, SH.gD (List.getElem?_eq_getElem hml)]
    refine ⟨_, rfl, _, rfl, _, rfl, a, _, rfl, .inl hS1, _, _, rfl, rfl, hL, a, _, _, _, rfl, rfl, hS1, hv, ?_⟩
    have e : atV (n0 :: nr) j = (n0 :: nr).getD (j % (((n0 :: nr).length : Nat) : Int)).toNat 0 + 3 * j.fdiv ((((n0 :: nr).map V.int).length : Nat) : Int) := by
      unfold atV
      rw [if_neg (by simp), hl]
    refine ⟨_, rfl, _, rfl, a, _, rfl, .inl hS1, _, _, rfl, rfl, ⟨by omega, FM.lt_mono (m := 10) (by rw [hl]; omega) (by decide)⟩, _, _, rfl, rfl, .of_left (by decide), _, _, rfl, rfl, ?_⟩
    have q1 := q _ g1
    rw [e] at q1
    exact q1
theorem ok__law_is_fraction (T : Txt K mg t) (G__law_whole : FnOk P w K mg base CX0 k t.f__law_whole t.d__law_whole ["_law_found"] spWhole) (G__law_common : FnOk P w K mg base CX0 k t.f__law_common t.d__law_common ["_law_one", "_law_two"] spCd) :
    FnOk P w K mg base CX0 (k + 1) t.f__law_is_fraction t.d__law_is_fraction ["_law_found"] (spIsFr K) := by
  refine T.F__law_is_fraction.ok sc__law_is_fraction (fun vs H Q E h => ?_) (fun cdv A outer s H vs Q E hr h => ?_)
  · obtain ⟨v, r, M, rfl, _⟩ := h
    rfl
  obtain ⟨v, r, M, rfl, hv, hM, q⟩ := h
  obtain ⟨a, rfl, ha0⟩ := fr_inv hv
  have hS := hM.tup ha0
  refine ⟨_, (pss_cons (ps_if (PW.pt (pw_or (pt_not (pt_val (pe_callB call_isV rfl T.n_isinstance PyProof.Rows.boot_isinstance (pa_cons (pv 0) (pa_cons (pe_bltn (v := .ty "tuple") rfl T.n_tuple bt_tuple rfl) pa_nil))))) (pw_or1 (pt_cmpR op_ne (pe_callB call_len_seq rfl T.n_len PySem.boot_len (pa_cons (pv 0) pa_nil)) pe_int (nomark _)))))
      (pss_one (ps_ret pe_bl))
      pss_nil)
    (pss_cons (ps_if (PW.pt (pw_or (pt_not (pt_val (pe_call G__law_whole hr rfl T.m__law_whole T.F__law_whole.kp T.b__law_whole .nil pass0 (pa_cons (pe_ix ix_tup (pv 0) pe_int (fun _ _ => rfl)) pa_nil)))) (pw_or (pt_not (pt_val (pe_call G__law_whole hr rfl T.m__law_whole T.F__law_whole.kp T.b__law_whole .nil pass0 (pa_cons (pe_ix ix_tup (pv 0) pe_int (fun _ _ => rfl)) pa_nil)))) (pw_or1 (pt_cmpR op_lt (pe_ix ix_tup (pv 0) pe_int (fun _ _ => rfl)) pe_int (nomark _))))))
      (pss_one (ps_ret pe_bl))
      pss_nil)
    (pss_one (ps_ret (pe_cmpR op_eq (pe_call G__law_common hr rfl T.m__law_common T.F__law_common.kp T.b__law_common .nil pass0 (pa_cons (pe_callB call_abs rfl T.n_abs PyProof.Rows.boot_abs (pa_cons (pe_ix ix_tup (pv 0) pe_int (fun _ _ => rfl)) pa_nil)) (pa_cons (pe_ix ix_tup (pv 0) pe_int (fun _ _ => rfl)) pa_nil))) pe_int (nomark _)))))), ?_⟩
  refine ⟨_, rfl, _, _, _, _, rfl, .tup hS, kit_same, _, rfl, iteF ?_⟩
  refine ⟨_, rfl, a, _, rfl, .inr hS, rfl, _, rfl, iteF ?_⟩
  have hd := FM.den_pos r
  refine ⟨_, rfl, a, _, _, _, rfl, rfl, hS, fr_top r, _, rfl, _, rfl, iteF ?_⟩
  refine ⟨_, rfl, a, _, _, _, rfl, rfl, hS, fr_bot r, _, rfl, _, rfl, iteF ?_⟩
  refine ⟨_, rfl, a, _, _, _, rfl, rfl, hS, fr_bot r, _, _, rfl, rfl, _, rfl, ?_⟩
  rw [decide_eq_false (show ¬ (r.den : Int) < 1 by omega)]
  refine iteF ?_
  refine ⟨_, rfl, a, _, _, _, rfl, rfl, hS, fr_top r, _, rfl, _, rfl, a, _, _, _, rfl, rfl, hS, fr_bot r, _, _, rfl, ab_nn _, by omega, rfl, ?_⟩
  rw [FM.gcd_one_abs]
  exact q
theorem ok__law_are_fractions (T : Txt K mg t) (G__law_is_fraction : FnOk P w K mg base CX0 k t.f__law_is_fraction t.d__law_is_fraction ["_law_found"] (spIsFr K)) :
    FnOk P w K mg base CX0 (k + 1) t.f__law_are_fractions t.d__law_are_fractions ["_law_found", "_law_count"] (spAreFr K) := by
  refine T.F__law_are_fractions.ok sc__law_are_fractions (fun vs H Q E h => ?_) (fun cdv A outer s H vs Q E hr h => ?_)
  · obtain ⟨v, l, M, rfl, _⟩ := h
    rfl
  obtain ⟨v, l, M, rfl, hv, hl, hM, q⟩ := h
  obtain ⟨b, xs, rfl, hb, ats⟩ := hv.lst_inv
  have hbH := hM _ _ hb
  have hxl : xs.length = l.length := by have := ats.1; simp at this; omega
  refine ⟨_, (pss_cons (ps_if (PW.pt (pw_or (pt_not (pt_val (pe_callB call_isV rfl T.n_isinstance PyProof.Rows.boot_isinstance (pa_cons (pv 0) (pa_cons (pe_bltn (v := .ty "list") rfl T.n_list bt_list rfl) pa_nil))))) (pw_or1 (pt_cmpR op_ne (pe_callB call_len_seq rfl T.n_len PySem.boot_len (pa_cons (pv 0) pa_nil)) (pv 1) (nomark _)))))
      (pss_one (ps_ret pe_bl))
      pss_nil)
    (pss_cons (ps_for PassesOwn.never rfl (pi_list (pv 0)) (pg_name (i := 2) sc__law_are_fractions.nd rfl (Or.inl rfl))
      (pss_one (ps_if (pt_not (pt_val (pe_call G__law_is_fraction hr rfl T.m__law_is_fraction T.F__law_is_fraction.kp T.b__law_is_fraction .nil pass0 (pa_cons (pv 2) pa_nil))))
      (pss_one (ps_ret pe_bl))
      pss_nil)))
    (pss_one (ps_ret pe_bl)))), ?_⟩
  refine ⟨_, rfl, _, _, _, _, rfl, .lst hbH, kit_same, _, rfl, iteF ?_⟩
  refine ⟨_, rfl, b, _, rfl, .inl (SqL.of hbH), _, rfl, rfl, _, rfl, ?_⟩
  rw [hxl, decide_eq_true rfl]
  refine iteF ?_
  refine ⟨_, rfl, b, rfl, ⟨_, SqL.of hbH⟩, for_list (K := K) (xs := xs) (fun i σ H' => H' = H ∧ ∃ c : Option V, σ = [some (.ref b), some (.int (l.length : Nat)), c]) ⟨rfl, none, rfl⟩ (fun i σ H' _ h => by obtain ⟨rfl, _⟩ := h; exact SqL.of hbH) ?_ ?_⟩
  · rintro i x σ H' hx ⟨rfl, c, rfl⟩
    obtain ⟨r, hr0, atr⟩ := ln_get' ats hx
    refine ⟨_, rfl, _, r, M, rfl, atr, hM, _, rfl, iteF ?_⟩
    exact ⟨rfl, _, rfl⟩
  · rintro σ H' ⟨rfl, c, rfl⟩
    exact q
theorem ok__law_same (T : Txt K mg t) (G__law_whole : FnOk P w K mg base CX0 k t.f__law_whole t.d__law_whole ["_law_found"] spWhole) : FnOk P w K mg base CX0 (k + 1) t.f__law_same t.d__law_same ["_law_found", "_law_due"] (spSame K) := by
  refine T.F__law_same.ok sc__law_same (fun vs H Q E h => ?_) (fun cdv A outer s H vs Q E hr h => ?_)
  · obtain ⟨v, x, u, M, rfl, _⟩ := h
    rfl
  obtain ⟨v, x, u, M, rfl, hv, hx, hcnt, hM, q⟩ := h
  refine ⟨_, (pss_cons (ps_set (i := 2) sc__law_same.nd rfl (Or.inl rfl) (pe_lst (pa_cons (pv 0) pa_nil)))
    (pss_cons (ps_set (i := 3) sc__law_same.nd rfl (Or.inl rfl) (pe_lst (pa_cons (pv 1) pa_nil)))
    (pss_cons (ps_while PassesOwn.never (pt_cmpR op_neL (pv 3) (pe_lst pa_nil) (nomark _))
      (pss_cons (ps_set (i := 4) sc__law_same.nd rfl (Or.inl rfl) (pe_bm0 PySem.F.plainAttrs_list PySem.F.slot_list_pop PySem.F.type_list_pop mt_pop (pv 2)))
    (pss_cons (ps_set (i := 5) sc__law_same.nd rfl (Or.inl rfl) (pe_bm0 PySem.F.plainAttrs_list PySem.F.slot_list_pop PySem.F.type_list_pop mt_pop (pv 3)))
    (pss_one (ps_if (pt_val (pe_callB call_isV2 rfl T.n_isinstance PyProof.Rows.boot_isinstance (pa_cons (pv 5) (pa_cons (pe_tup (pa_cons (pe_bltn (v := .ty "list") rfl T.n_list bt_list rfl) (pa_cons (pe_bltn (v := .ty "tuple") rfl T.n_tuple bt_tuple rfl) pa_nil))) pa_nil))))
      (pss_cons (ps_if (pt_cmpR op_ne (pe_callB call_isV rfl T.n_isinstance PyProof.Rows.boot_isinstance (pa_cons (pv 4) (pa_cons (pe_bltn (v := .ty "list") rfl T.n_list bt_list rfl) pa_nil))) (pe_callB call_isV rfl T.n_isinstance PyProof.Rows.boot_isinstance (pa_cons (pv 5) (pa_cons (pe_bltn (v := .ty "list") rfl T.n_list bt_list rfl) pa_nil))) (nomark _))
      (pss_one (ps_ret pe_bl))
      pss_nil)
    (pss_cons (ps_if (PW.pt (pw_or (pt_cmpR op_ne (pe_callB call_isV rfl T.n_isinstance PyProof.Rows.boot_isinstance (pa_cons (pv 4) (pa_cons (pe_bltn (v := .ty "tuple") rfl T.n_tuple bt_tuple rfl) pa_nil))) (pe_callB call_isV rfl T.n_isinstance PyProof.Rows.boot_isinstance (pa_cons (pv 5) (pa_cons (pe_bltn (v := .ty "tuple") rfl T.n_tuple bt_tuple rfl) pa_nil))) (nomark _)) (pw_or1 (pt_cmpR op_ne (pe_callB call_len_seq rfl T.n_len PySem.boot_len (pa_cons (pv 4) pa_nil)) (pe_callB call_len_seq rfl T.n_len PySem.boot_len (pa_cons (pv 5) pa_nil)) (nomark _)))))
      (pss_one (ps_ret pe_bl))
      pss_nil)
    (pss_cons (ps_expr (pe_bm PySem.F.plainAttrs_list PySem.F.slot_list_extend PySem.F.type_list_extend mt_extendQ (pv 2) (pa_cons (pv 4) pa_nil)))
    (pss_one (ps_expr (pe_bm PySem.F.plainAttrs_list PySem.F.slot_list_extend PySem.F.type_list_extend mt_extendQ (pv 3) (pa_cons (pv 5) pa_nil)))))))
      (pss_one (ps_if (pt_val (pe_callB call_isV rfl T.n_isinstance PyProof.Rows.boot_isinstance (pa_cons (pv 5) (pa_cons (pe_bltn (v := .ty "str") rfl T.n_str bt_str rfl) pa_nil))))
      (pss_one (ps_if (PW.pt (pw_or (pt_not (pt_val (pe_callB call_isV rfl T.n_isinstance PyProof.Rows.boot_isinstance (pa_cons (pv 4) (pa_cons (pe_bltn (v := .ty "str") rfl T.n_str bt_str rfl) pa_nil))))) (pw_or1 (pt_cmpR op_ne (pv 4) (pv 5) (nomark _)))))
      (pss_one (ps_ret pe_bl))
      pss_nil))
      (pss_one (ps_if (PW.pt (pw_or (pt_not (pt_val (pe_call G__law_whole hr rfl T.m__law_whole T.F__law_whole.kp T.b__law_whole .nil pass0 (pa_cons (pv 4) pa_nil)))) (pw_or1 (pt_cmpR op_ne (pv 4) (pv 5) (nomark _)))))
      (pss_one (ps_ret pe_bl))
      pss_nil)))))))))
    (pss_one (ps_ret pe_bl))))), ?_⟩
  have big : ∀ {n : Nat}, n ≤ 1000 → n ≤ sizeLine := fun h => Nat.le_of_lt (small1000 h)
  refine ⟨_, rfl, big (by show 1 ≤ 1000; decide), fun lL hL => ?_⟩
  refine ⟨_, rfl, big (by show 1 ≤ 1000; decide), fun rL hR => ?_⟩
  have ne : lL ≠ rL := fun e => by rw [← e, upd_same] at hR; cases hR
  have hR0 : H rL = none := by rw [upd_ne ne.symm] at hR; exact hR
  have g0 : Gr M H M (upd (upd H lL (.lst [v])) rL (.lst [x])) := ((Gr.refl hM).new hL).new hR
  refine ⟨fun m σ H' => ∃ (ts : List Tr) (xs zs : List V) (a b : Option V), m = cnts ts ∧ σ = [some v, some x, some (.ref lL), some (.ref rL), a, b] ∧ Gr M H M H' ∧ H' lL = some (.lst xs) ∧ H' rL = some (.lst zs) ∧ Ats K M ts xs ∧ Ats K M ts zs ∧ cnts ts ≤ 1000,
    ⟨_, [u], [v], [x], none, none, rfl, rfl, g0, by rw [upd_ne ne]; exact upd_same, upd_same, Ats.cons hv Ats.nil, Ats.cons hx Ats.nil, by rw [cnts_one]; exact hcnt⟩, ?_⟩
  rintro m σ H1 ⟨ts, xs, zs, a, b, rfl, rfl, g, h1, h2, at1, at2, hc⟩
  refine ⟨_, rfl, big (by show 0 ≤ 1000; decide), fun p hp => ?_⟩
  have k1 : ∀ {c : Addr} {o o' : HO}, H1 c = some o → upd H1 p o' c = some o := fun e => by rw [upd_ne (ne_of_none e hp)]; exact e
  refine ⟨rL, p, zs, rfl, rfl, SqL.of (k1 h2), SqL.of upd_same, hr.units0, _, rfl, ?_⟩
  have g1 : Gr M H M (upd H1 p (.lst [])) := g.new hp
  have h1' : upd H1 p (.lst []) lL = some (.lst xs) := k1 h1
  have h2' : upd H1 p (.lst []) rL = some (.lst zs) := k1 h2
  generalize upd H1 p (.lst []) = H2 at g1 h1' h2' ⊢
  cases zs with
  | nil => exact iteF (q _ g1)
  | cons z0 zr =>
    have hne : (z0 :: zr) ≠ [] := by simp
    have hnx : xs ≠ [] := by
      intro e
      have e1 := at1.1
      have e2 := at2.1
      rw [e] at e1
      simp at e1 e2
      rw [e1] at e2
      simp at e2
    obtain ⟨ts', tt, zs', z, e1, e2, at2', atz⟩ := ats_unsnoc at2 hne
    obtain ⟨ts'', tt', xs', y, e3, e4, at1', aty⟩ := ats_unsnoc at1 hnx
    obtain ⟨e5, e6⟩ : ts'' = ts' ∧ tt' = tt := by
      have := e3.symm.trans e1
      exact ⟨List.append_inj_left' this rfl, by simpa using List.append_inj_right' this rfl⟩
    subst e5 e6 e4
    rw [e2] at h2' ⊢
    rw [e3] at hc ⊢
    rw [cnts_app, cnts_one] at hc ⊢
    have hlen : ts''.length ≤ cnts ts'' := cnts_len _
    rw [show (!(zs' ++ [z]).isEmpty) = true by simp]
    refine iteT ⟨fun σ' H' => ∃ m', m' < cnts ts'' + cnt tt' ∧ _, fun _ _ h => h, ?_⟩
    -- pop, pop
    refine ⟨_, rfl, .inl ⟨rfl, _, SqL.of h1'⟩, lL, _, y, rfl, rfl, h1', last_at _ _, ?_⟩
    rw [List.dropLast_concat]
    have h2'' : upd H2 lL (.lst xs') rL = some (.lst (zs' ++ [z])) := by rw [upd_ne ne.symm]; exact h2'
    refine ⟨_, rfl, .inl ⟨rfl, _, SqL.of h2''⟩, rL, _, z, rfl, rfl, h2'', last_at _ _, ?_⟩
    rw [List.dropLast_concat]
    have mL : M lL = none := hM.free hL
    have mR : M rL = none := hM.free hR0
    have g3 : Gr M H M (upd (upd H2 lL (.lst xs')) rL (.lst zs')) := (g1.put hL mL).put hR0 mR
    have b1 : upd (upd H2 lL (.lst xs')) rL (.lst zs') lL = some (.lst xs') := by rw [upd_ne ne]; exact upd_same
    have b2 : upd (upd H2 lL (.lst xs')) rL (.lst zs') rL = some (.lst zs') := upd_same
    generalize upd (upd H2 lL (.lst xs')) rL (.lst zs') = H3 at g3 b1 b2 ⊢
    -- isinstance(two, (list, tuple))
    refine ⟨_, rfl, two_ok, fun tp htp => ?_⟩
    have k3 : ∀ {c : Addr} {o o' : HO}, H3 c = some o → upd H3 tp o' c = some o := fun e => by rw [upd_ne (ne_of_none e htp)]; exact e
    have g4 : Gr M H M (upd H3 tp (.tup [.ty "list", .ty "tuple"])) := g3.new htp
    have c1 : upd H3 tp (.tup [.ty "list", .ty "tuple"]) lL = some (.lst xs') := k3 b1
    have c2 : upd H3 tp (.tup [.ty "list", .ty "tuple"]) rL = some (.lst zs') := k3 b2
    have hT : upd H3 tp (.tup [.ty "list", .ty "tuple"]) tp = some (.tup [.ty "list", .ty "tuple"]) := upd_same
    generalize upd H3 tp (.tup [.ty "list", .ty "tuple"]) = H4 at g4 c1 c2 hT ⊢
    cases tt' with
    | int i =>
      cases aty.int_inv
      cases atz.int_inv
      refine ⟨_, tp, _, _, _, _, rfl, hT, .int i, any_i, _, rfl, iteF ?_⟩
      refine ⟨_, rfl, _, _, _, _, rfl, .int i, kn_is, _, rfl, iteF ?_⟩
      refine ⟨_, rfl, _, rfl, _, rfl, iteF ?_⟩
      refine ⟨_, rfl, _, rfl, rfl, _, rfl, ?_⟩
      rw [decide_eq_true rfl]
      refine iteF ⟨_, ?_, ts'', xs', zs', _, _, rfl, rfl, g4, c1, c2, at1', at2', by omega⟩
      have := cnt_pos (.int i)
      omega
    | str i =>
      cases aty.str_inv
      cases atz.str_inv
      refine ⟨_, tp, _, _, _, _, rfl, hT, .str i, any_s, _, rfl, iteF ?_⟩
      refine ⟨_, rfl, _, _, _, _, rfl, .str i, kit_same, _, rfl, iteT ?_⟩
      refine ⟨_, rfl, _, _, _, _, rfl, .str i, kit_same, _, rfl, iteF ?_⟩
      refine ⟨_, rfl, _, rfl, rfl, _, rfl, ?_⟩
      rw [decide_eq_true rfl]
      refine iteF ⟨_, ?_, ts'', xs', zs', _, _, rfl, rfl, g4, c1, c2, at1', at2', by omega⟩
      have := cnt_pos (.str i)
      omega
    | lst us =>
      obtain ⟨a1, x1, rfl, m1, q1⟩ := aty.lst_inv
      obtain ⟨a2, x2, rfl, m2, q2⟩ := atz.lst_inv
      have n1 := g4.mh _ _ m1
      have n2 := g4.mh _ _ m2
      have hce : cnt (.lst us) = 1 + cnts us := rfl
      rw [hce] at hc
      have hle := cnts_len us
      have lx : x1.length = us.length := q1.1.symm
      have lz : x2.length = us.length := q2.1.symm
      have l1 : xs'.length = ts''.length := at1'.1.symm
      have l2 : zs'.length = ts''.length := at2'.1.symm
      refine ⟨_, tp, _, _, _, _, rfl, hT, .lst n2, any_l, _, rfl, iteT ?_⟩
      refine ⟨_, rfl, _, _, _, _, rfl, .lst n1, kit_same, _, rfl, _, _, _, _, rfl, .lst n2, kit_same, rfl, _, rfl, iteF ?_⟩
      refine ⟨_, rfl, _, _, _, _, rfl, .lst n1, kn_lt, _, rfl, _, _, _, _, rfl, .lst n2, kn_lt, rfl, _, rfl, iteF ?_⟩
      refine ⟨_, rfl, a1, _, rfl, .inl (SqL.of n1), _, rfl, a2, _, rfl, .inl (SqL.of n2), rfl, _, rfl, ?_⟩
      rw [lx, lz, decide_eq_true rfl]
      refine iteF ?_
      refine ⟨_, rfl, .inl ⟨rfl, _, SqL.of c1⟩, _, rfl, .inl ⟨lL, a1, _, _, rfl, rfl, c1, n1, big (by omega), ?_⟩⟩
      have na2 : a2 ≠ lL := fun e => by rw [e, mL] at m2; cases m2
      have d2 : upd H4 lL (.lst (xs' ++ x1)) rL = some (.lst zs') := by rw [upd_ne ne.symm]; exact c2
      refine ⟨_, rfl, .inl ⟨rfl, _, SqL.of d2⟩, _, rfl, .inl ⟨rL, a2, _, _, rfl, rfl, d2, by rw [upd_ne na2]; exact n2, big (by omega), ?_⟩⟩
      refine ⟨_, ?_, ts'' ++ us, xs' ++ x1, zs' ++ x2, _, _, rfl, rfl, (g4.put hL mL).put hR0 mR, by rw [upd_ne ne]; exact upd_same, upd_same, at1'.app q1, at2'.app q2, by rw [cnts_app]; omega⟩
      rw [cnts_app, hce]
      omega
    | tup us =>
      obtain ⟨a1, x1, rfl, m1, q1⟩ := aty.tup_inv
      obtain ⟨a2, x2, rfl, m2, q2⟩ := atz.tup_inv
      have n1 := g4.mh.tup m1
      have n2 := g4.mh.tup m2
      have hce : cnt (.tup us) = 1 + cnts us := rfl
      rw [hce] at hc
      have hle := cnts_len us
      have lx : x1.length = us.length := q1.1.symm
      have lz : x2.length = us.length := q2.1.symm
      have l1 : xs'.length = ts''.length := at1'.1.symm
      have l2 : zs'.length = ts''.length := at2'.1.symm
      refine ⟨_, tp, _, _, _, _, rfl, hT, .tup n2, any_t, _, rfl, iteT ?_⟩
      refine ⟨_, rfl, _, _, _, _, rfl, .tup n1, kn_tl, _, rfl, _, _, _, _, rfl, .tup n2, kn_tl, rfl, _, rfl, iteF ?_⟩
      refine ⟨_, rfl, _, _, _, _, rfl, .tup n1, kit_same, _, rfl, _, _, _, _, rfl, .tup n2, kit_same, rfl, _, rfl, iteF ?_⟩
      refine ⟨_, rfl, a1, _, rfl, .inr n1, _, rfl, a2, _, rfl, .inr n2, rfl, _, rfl, ?_⟩
      rw [lx, lz, decide_eq_true rfl]
      refine iteF ?_
      refine ⟨_, rfl, .inl ⟨rfl, _, SqL.of c1⟩, _, rfl, .inr ⟨lL, a1, _, _, rfl, rfl, c1, n1, big (by omega), ?_⟩⟩
      have gq := g4.put (o := .lst (xs' ++ x1)) hL mL
      have d2 : upd H4 lL (.lst (xs' ++ x1)) rL = some (.lst zs') := by rw [upd_ne ne.symm]; exact c2
      refine ⟨_, rfl, .inl ⟨rfl, _, SqL.of d2⟩, _, rfl, .inr ⟨rL, a2, _, _, rfl, rfl, d2, gq.mh.tup m2, big (by omega), ?_⟩⟩
      refine ⟨_, ?_, ts'' ++ us, xs' ++ x1, zs' ++ x2, _, _, rfl, rfl, gq.put hR0 mR, by rw [upd_ne ne]; exact upd_same, upd_same, at1'.app q1, at2'.app q2, by rw [cnts_app]; omega⟩
      rw [cnts_app, hce]
      omega
end
end W1


namespace W1
open PySem PySem.Spec L2
def smTop (c : Int) : Int := if c % 29 = 5 then 1000000000000 else if c % 7 = 2 then 0 else c % 10 - 3
def smBot (c : Int) : Int := 1 + c.fdiv 10 % 3
def smR (c : Int) : Rat := Rat.divInt (smTop c) (smBot c)
theorem smTop_le (c : Int) : (smTop c).natAbs ≤ 1000000000000 := by
  unfold smTop
  have := Int.emod_nonneg c (show (10 : Int) ≠ 0 by decide)
  have := Int.emod_lt_of_pos c (show (0 : Int) < 10 by decide)
  split
  · omega
  · split <;> omega
theorem smBot_in (c : Int) : 1 ≤ smBot c ∧ smBot c ≤ 3 := by
  unfold smBot
  have := Int.emod_nonneg (c.fdiv 10) (show (3 : Int) ≠ 0 by decide)
  have := Int.emod_lt_of_pos (c.fdiv 10) (show (0 : Int) < 3 by decide)
  omega
theorem sm_divInt {t b : Int} {n : Nat} (hb : b ≠ 0) (h1 : t.natAbs < 2 ^ n) (h2 : b.natAbs < 2 ^ n) : FM.Sm n (Rat.divInt t b) := ⟨Nat.lt_of_le_of_lt (FM.num_le hb) h1, Nat.lt_of_le_of_lt (FM.den_le hb) h2⟩
theorem smR_sm (c : Int) : FM.Sm 50 (smR c) := by
  have h1 := smTop_le c
  have h2 := smBot_in c
  have e : (2 : Nat) ^ 50 = 1125899906842624 := by decide
  exact sm_divInt (by omega) (by rw [e]; omega) (by rw [e]; omega)
/-- six times it is whole -/
theorem smR_wh (c : Int) : SH.Wh 6 6000000000000 (smR c) := by
  have h1 := smTop_le c
  have h2 := smBot_in c
  have e : smR c = ((smTop c : Int) : Rat) / ((smBot c : Int) : Rat) := Rat.divInt_eq_div ..
  rcases (show smBot c = 1 ∨ smBot c = 2 ∨ smBot c = 3 by omega) with h | h | h
  · refine ⟨6 * smTop c, ?_, by omega⟩
    rw [e, h, Rat.intCast_mul]
    have a : ((1 : Int) : Rat) = 1 := rfl
    have b : ((6 : Int) : Rat) = 6 := rfl
    have d : (((6 : Nat) : Int) : Rat) = 6 := rfl
    rw [a, b, d]
    grind
  · refine ⟨3 * smTop c, ?_, by omega⟩
    rw [e, h, Rat.intCast_mul]
    have a : ((2 : Int) : Rat) = 2 := rfl
    have b : ((3 : Int) : Rat) = 3 := rfl
    have d : (((6 : Nat) : Int) : Rat) = 6 := rfl
    rw [a, b, d]
    grind
  · refine ⟨2 * smTop c, ?_, by omega⟩
    rw [e, h, Rat.intCast_mul]
    have a : ((3 : Int) : Rat) = 3 := rfl
    have b : ((2 : Int) : Rat) = 2 := rfl
    have d : (((6 : Nat) : Int) : Rat) = 6 := rfl
    rw [a, b, d]
    grind
def spSmall (K : PySem.W.Frag) : Sp := fun vs H Q _ => ∃ (c : Int) (M : Hp), vs = [.int c] ∧ Same M H ∧ Res K M H (frT (smR c)) Q
def spCut (K : PySem.W.Frag) : Sp := fun vs H Q _ => ∃ (v : V) (t b : Int) (M : Hp), vs = [v] ∧ At K M (pT t b) v ∧ b ≠ 0 ∧ b.natAbs < 2 ^ 9000 ∧ Same M H ∧ Res K M H (frT (Rat.divInt t b)) Q
def pq (p : Int × Int) : Rat := Rat.divInt p.1 p.2
def psT (ps : List (Int × Int)) : Tr := .lst (ps.map fun p => pT p.1 p.2)
def Pr (B : Nat) (p : Int × Int) : Prop := 0 < p.2 ∧ p.1.natAbs < 2 ^ B ∧ p.2.natAbs < 2 ^ B
def spSum (K : PySem.W.Frag) : Sp := fun vs H Q _ => ∃ (v v1 v2 : V) (p : Int × Int) (ps qs : List (Int × Int)) (B : Nat) (M : Hp), vs = [v, v1, v2] ∧ At K M (pT p.1 p.2) v ∧ At K M (psT ps) v1 ∧ At K M (psT qs) v2 ∧ Pr B p ∧ (∀ x ∈ ps, Pr B x) ∧ (∀ x ∈ qs, Pr B x) ∧ ps.length = qs.length ∧ ps.length ≤ 10 ∧ B ≤ 100000 ∧ Same M H ∧
  ∀ (r : Int × Int) (v' : V) (M' H' : Hp), Pr (B + ps.length * (2 * B + 1)) r → pq r = pq p + SH.sq ps.length (fun i => pq (ps.getD i (0, 1)) * pq (qs.getD i (0, 1))) → Gr M H M' H' → At K M' (pT r.1 r.2) v' → Q v' H'
def spEqual (K : PySem.W.Frag) : Sp := fun vs H Q _ => ∃ (v1 v2 : V) (p q : Int × Int) (B : Nat) (M : Hp), vs = [v1, v2] ∧ At K M (pT p.1 p.2) v1 ∧ At K M (pT q.1 q.2) v2 ∧ Pr B p ∧ Pr B q ∧ B ≤ 10000000 ∧ pq p = pq q ∧ Same M H ∧ Q (.bl true) H
theorem pq_step {t b n1 d1 n2 d2 : Int} (hb : 0 < b) (h1 : 0 < d1) (h2 : 0 < d2) : Rat.divInt (t * (d1 * d2) + n1 * n2 * b) (b * (d1 * d2)) = Rat.divInt t b + Rat.divInt n1 d1 * Rat.divInt n2 d2 := by
  have hd : d1 * d2 ≠ 0 := Int.mul_ne_zero (by omega) (by omega)
  rw [Rat.divInt_mul_divInt, Rat.divInt_add_divInt _ _ (by omega) hd]
theorem pq_cross {p q : Int × Int} (hp : 0 < p.2) (hq : 0 < q.2) (h : pq p = pq q) : p.1 * q.2 = q.1 * p.2 := (Rat.divInt_eq_divInt_iff (by omega) (by omega)).mp h
theorem z7 : (0 : Int) < 7 := by decide
theorem z29 : (0 : Int) < 29 := by decide
theorem z10 : (0 : Int) < 10 := by decide
theorem z3 : (0 : Int) < 3 := by decide
theorem z32 : (0 : Int) < 32 := by decide
theorem lt9000 {n : Nat} (h : n < 2 ^ 64) : n < 2 ^ 9000 := FM.lt_mono h (by decide)
section
variable {P : Program} {w : World} {K : PySem.W.Frag} {mg : Str → Option Value} {base : Heap} {t : Adr} {k : Nat}
/-- the last rows of small and cut: the divisor, the two quotients -/
theorem cut_fin {M H : Hp} {Q : VK} {x y : Int} (hy : 0 < y) (hM : Same M H) (q : Res K M H (frT (Rat.divInt x y)) Q) {d : Int} (e : d = ((Int.gcd (if x < 0 then -x else x) y : Nat) : Int)) (hl : y.natAbs < 2 ^ 9000) :
    (d ≠ 0 ∧ d.natAbs < 2 ^ 9000) ∧ ∀ p, H p = none → Q (.ref p) (upd H p (.tup [.int (x.fdiv d), .int (y.fdiv d)])) := by
  have hyn : y ≠ 0 := by omega
  have e' : d = FM.dv x y := by
    rw [e, FM.gcd_abs1]
    exact (if_neg (by omega)).symm
  subst e'
  refine ⟨⟨FM.dv_ne hyn, Nat.lt_of_le_of_lt (by rw [FM.dv_abs]; exact FM.gcd_le hyn) hl⟩, fun p hp => ?_⟩
  refine q _ _ _ ((Gr.refl hM).add hp) (pT_mk (SqT.of ?_))
  rw [upd_same, FM.num_eq hyn, FM.den_eq hyn]
theorem ok__law_small (T : Txt K mg t) (G__law_common : FnOk P w K mg base CX0 k t.f__law_common t.d__law_common ["_law_one", "_law_two"] spCd) : FnOk P w K mg base CX0 (k + 1) t.f__law_small t.d__law_small ["_law_cell"] (spSmall K) := by
  refine T.F__law_small.ok sc__law_small (fun vs H Q E h => ?_) (fun cdv A outer s H vs Q E hr h => ?_)
  · obtain ⟨c, M, rfl, _⟩ := h
    rfl
  obtain ⟨c, M, rfl, hM, q⟩ := h
  refine ⟨_, (pss_cons (ps_set (i := 1) sc__law_small.nd rfl (Or.inl rfl) (pe_op op_sub (pe_op op_mod (pv 0) pe_int) pe_int))
    (pss_cons (ps_if (pt_cmpR op_eq (pe_op op_mod (pv 0) pe_int) pe_int (nomark _))
      (pss_one (ps_set (i := 1) sc__law_small.nd rfl (Or.inl rfl) pe_int))
      pss_nil)
    (pss_cons (ps_if (pt_cmpR op_eq (pe_op op_mod (pv 0) pe_int) pe_int (nomark _))
      (pss_one (ps_set (i := 1) sc__law_small.nd rfl (Or.inl rfl) pe_int))
      pss_nil)
    (pss_cons (ps_set (i := 2) sc__law_small.nd rfl (Or.inl rfl) (pe_op op_add pe_int (pe_op op_mod (pe_op op_fdivB (pv 0) pe_int) pe_int)))
    (pss_cons (ps_set (i := 3) sc__law_small.nd rfl (Or.inl rfl) (pe_call G__law_common hr rfl T.m__law_common T.F__law_common.kp T.b__law_common .nil pass0 (pa_cons (pe_callB call_abs rfl T.n_abs PyProof.Rows.boot_abs (pa_cons (pv 1) pa_nil)) (pa_cons (pv 2) pa_nil))))
    (pss_one (ps_ret (pe_tup (pa_cons (pe_op op_fdivB (pv 1) (pv 3)) (pa_cons (pe_op op_fdivB (pv 2) (pv 3)) pa_nil)))))))))), ?_⟩
  have hb := smBot_in c
  have h64 : (smBot c).natAbs < 2 ^ 9000 := lt9000 (by
    have e : (2 : Nat) ^ 64 = 18446744073709551616 := by decide
    rw [e]; omega)
  have hf : ∀ x : Int, x = smTop c → _ := fun x e => cut_fin (K := K) (x := x) (y := smBot c) (by omega) hM (by rw [e]; exact q) rfl h64
  refine ⟨_, rfl, _, _, rfl, rfl, z10, _, _, rfl, rfl, ?_⟩
  refine ⟨_, rfl, _, _, rfl, rfl, z7, rfl, _, rfl, ?_⟩
  refine ite2 (fun c1 => ?_) (fun c1 => ?_)
  all_goals
    refine ⟨_, rfl, _, _, rfl, rfl, z29, rfl, _, rfl, ?_⟩
    refine ite2 (fun c2 => ?_) (fun c2 => ?_)
    all_goals
      refine ⟨_, rfl, _, _, rfl, rfl, ⟨by decide, lt9000 (by decide)⟩, _, _, rfl, rfl, z3, _, _, rfl, rfl, ?_⟩
      refine ⟨_, rfl, _, rfl, _, rfl, _, _, rfl, ab_nn _, by have := smBot_in c; unfold smBot at this; omega, ?_⟩
      first
        | have hx : (1000000000000 : Int) = smTop c := by
            unfold smTop
            rw [if_pos (eq_of_test c2)]
        | have hx : (0 : Int) = smTop c := by
            unfold smTop
            rw [if_neg (ne_of_ntest c2), if_pos (eq_of_test c1)]
        | have hx : c % 10 - 3 = smTop c := by
            unfold smTop
            rw [if_neg (ne_of_ntest c2), if_neg (ne_of_ntest c1)]
      exact ⟨_, rfl, _, rfl, _, _, rfl, rfl, (hf _ hx).1, _, rfl, _, rfl, _, _, rfl, rfl, (hf _ hx).1, two_ok, (hf _ hx).2⟩
theorem ok__law_cut (T : Txt K mg t) (G__law_common : FnOk P w K mg base CX0 k t.f__law_common t.d__law_common ["_law_one", "_law_two"] spCd) : FnOk P w K mg base CX0 (k + 1) t.f__law_cut t.d__law_cut ["_law_pair"] (spCut K) := by
  refine T.F__law_cut.ok sc__law_cut (fun vs H Q E h => ?_) (fun cdv A outer s H vs Q E hr h => ?_)
  · obtain ⟨v, x, y, M, rfl, _⟩ := h
    rfl
  obtain ⟨v, x, y, M, rfl, hv, hy, hl, hM, q⟩ := h
  obtain ⟨a, rfl, ha⟩ := pT_inv hv
  refine ⟨_, (pss_cons (ps_asg (pv 0) (pg_tup (n := 2) rfl (pgs_cons (pg_name (i := 2) sc__law_cut.nd rfl (Or.inl rfl)) (pgs_cons (pg_name (i := 3) sc__law_cut.nd rfl (Or.inl rfl)) pgs_nil))))
    (pss_cons (ps_if (pt_cmpR op_lt (pv 3) pe_int (nomark _))
      (pss_cons (ps_set (i := 2) sc__law_cut.nd rfl (Or.inl rfl) (pe_op op_sub pe_int (pv 2)))
    (pss_one (ps_set (i := 3) sc__law_cut.nd rfl (Or.inl rfl) (pe_op op_sub pe_int (pv 3)))))
      pss_nil)
    (pss_cons (ps_set (i := 1) sc__law_cut.nd rfl (Or.inl rfl) (pe_call G__law_common hr rfl T.m__law_common T.F__law_common.kp T.b__law_common .nil pass0 (pa_cons (pe_callB call_abs rfl T.n_abs PyProof.Rows.boot_abs (pa_cons (pv 2) pa_nil)) (pa_cons (pv 3) pa_nil))))
    (pss_one (ps_ret (pe_tup (pa_cons (pe_op op_fdivB (pv 2) (pv 1)) (pa_cons (pe_op op_fdivB (pv 3) (pv 1)) pa_nil)))))))), ?_⟩
  refine ⟨_, rfl, a, _, rfl, hM.tup ha, rfl, _, _, rfl, _, _, rfl, rfl, ?_⟩
  refine ⟨_, rfl, _, _, rfl, rfl, _, rfl, ?_⟩
  refine ite2 (fun c1 => ?_) (fun c1 => ?_)
  · have hneg : y < 0 := of_decide_eq_true c1
    refine ⟨_, rfl, _, _, rfl, rfl, ?_⟩
    refine ⟨_, rfl, _, _, rfl, rfl, ?_⟩
    have e : Rat.divInt x y = Rat.divInt (0 - x) (0 - y) := FM.divInt_eq hy (by omega) (by grind)
    rw [e] at q
    have hf := cut_fin (K := K) (x := 0 - x) (y := 0 - y) (by omega) hM q rfl (by rw [show (0 - y).natAbs = y.natAbs by omega]; exact hl)
    refine ⟨_, rfl, _, rfl, _, rfl, _, _, rfl, ab_nn _, by omega, ?_⟩
    exact ⟨_, rfl, _, rfl, _, _, rfl, rfl, hf.1, _, rfl, _, rfl, _, _, rfl, rfl, hf.1, two_ok, hf.2⟩
  · have hpos : 0 < y := by have := of_decide_eq_false (Bool.eq_false_iff.mpr c1); omega
    have hf := cut_fin (K := K) hpos hM q rfl hl
    refine ⟨_, rfl, _, rfl, _, rfl, _, _, rfl, ab_nn _, by omega, ?_⟩
    exact ⟨_, rfl, _, rfl, _, _, rfl, rfl, hf.1, _, rfl, _, rfl, _, _, rfl, rfl, hf.1, two_ok, hf.2⟩
theorem ok__law_times (T : Txt K mg t) (G__law_cut : FnOk P w K mg base CX0 k t.f__law_cut t.d__law_cut ["_law_pair"] (spCut K)) : FnOk P w K mg base CX0 (k + 1) t.f__law_times t.d__law_times ["_law_one", "_law_two"] (spTwo K (· * ·)) := by
  refine T.F__law_times.ok sc__law_times (fun vs H Q E h => ?_) (fun cdv A outer s H vs Q E hr h => ?_)
  · obtain ⟨v, x, r, u, M, rfl, _⟩ := h
    rfl
  obtain ⟨v, x, r, u, M, rfl, hv, hx, sa, sb, hM, q⟩ := h
  obtain ⟨a, rfl, ha0⟩ := fr_inv hv
  obtain ⟨b, rfl, hb0⟩ := fr_inv hx
  have ha := hM.tup ha0
  have hb := hM.tup hb0
  refine ⟨_, (pss_one (ps_ret (pe_call G__law_cut hr rfl T.m__law_cut T.F__law_cut.kp T.b__law_cut .nil pass0 (pa_cons (pe_tup (pa_cons (pe_op op_mulB (pe_ix ix_tup (pv 0) pe_int (fun _ _ => rfl)) (pe_ix ix_tup (pv 1) pe_int (fun _ _ => rfl))) (pa_cons (pe_op op_mulB (pe_ix ix_tup (pv 0) pe_int (fun _ _ => rfl)) (pe_ix ix_tup (pv 1) pe_int (fun _ _ => rfl))) pa_nil))) pa_nil)))), ?_⟩
  refine ⟨_, rfl, a, _, _, _, rfl, rfl, ha, fr_top r, _, rfl, b, _, _, _, rfl, rfl, hb, fr_top u, _, _, rfl, rfl, mul_nn sa sb (by decide), ?_⟩
  refine ⟨_, rfl, a, _, _, _, rfl, rfl, ha, fr_bot r, _, rfl, b, _, _, _, rfl, rfl, hb, fr_bot u, _, _, rfl, rfl, mul_dd sa sb (by decide), two_ok, fun p hp => ?_⟩
  have g := (Gr.refl hM).add (o := .tup [.int (r.num * u.num), .int ((r.den : Int) * (u.den : Int))]) hp
  refine ⟨_, _, _, _, rfl, pT_mk (SqT.of upd_same), dd_ne r u, dd_small sa sb, g.mh, fun v M' H' g' h' => q v M' H' (g.trans g') ?_⟩
  rw [FM.mul_is] at h'
  exact h'
theorem ok__law_plus (T : Txt K mg t) (G__law_cut : FnOk P w K mg base CX0 k t.f__law_cut t.d__law_cut ["_law_pair"] (spCut K)) : FnOk P w K mg base CX0 (k + 1) t.f__law_plus t.d__law_plus ["_law_one", "_law_two"] (spTwo K (· + ·)) := by
  refine T.F__law_plus.ok sc__law_plus (fun vs H Q E h => ?_) (fun cdv A outer s H vs Q E hr h => ?_)
  · obtain ⟨v, x, r, u, M, rfl, _⟩ := h
    rfl
  obtain ⟨v, x, r, u, M, rfl, hv, hx, sa, sb, hM, q⟩ := h
  obtain ⟨a, rfl, ha0⟩ := fr_inv hv
  obtain ⟨b, rfl, hb0⟩ := fr_inv hx
  have ha := hM.tup ha0
  have hb := hM.tup hb0
  refine ⟨_, (pss_one (ps_ret (pe_call G__law_cut hr rfl T.m__law_cut T.F__law_cut.kp T.b__law_cut .nil pass0 (pa_cons (pe_tup (pa_cons (pe_op op_add (pe_op op_mulB (pe_ix ix_tup (pv 0) pe_int (fun _ _ => rfl)) (pe_ix ix_tup (pv 1) pe_int (fun _ _ => rfl))) (pe_op op_mulB (pe_ix ix_tup (pv 1) pe_int (fun _ _ => rfl)) (pe_ix ix_tup (pv 0) pe_int (fun _ _ => rfl)))) (pa_cons (pe_op op_mulB (pe_ix ix_tup (pv 0) pe_int (fun _ _ => rfl)) (pe_ix ix_tup (pv 1) pe_int (fun _ _ => rfl))) pa_nil))) pa_nil)))), ?_⟩
  refine ⟨_, rfl, a, _, _, _, rfl, rfl, ha, fr_top r, _, rfl, b, _, _, _, rfl, rfl, hb, fr_bot u, _, _, rfl, rfl, mul_nd sa sb (by decide), ?_⟩
  refine ⟨_, rfl, b, _, _, _, rfl, rfl, hb, fr_top u, _, rfl, a, _, _, _, rfl, rfl, ha, fr_bot r, _, _, rfl, rfl, mul_nd sb sa (by decide), _, _, rfl, rfl, ?_⟩
  refine ⟨_, rfl, a, _, _, _, rfl, rfl, ha, fr_bot r, _, rfl, b, _, _, _, rfl, rfl, hb, fr_bot u, _, _, rfl, rfl, mul_dd sa sb (by decide), two_ok, fun p hp => ?_⟩
  have g := (Gr.refl hM).add (o := .tup [.int (r.num * u.den + u.num * r.den), .int ((r.den : Int) * (u.den : Int))]) hp
  refine ⟨_, _, _, _, rfl, pT_mk (SqT.of upd_same), dd_ne r u, dd_small sa sb, g.mh, fun v M' H' g' h' => q v M' H' (g.trans g') ?_⟩
  rw [FM.add_is] at h'
  exact h'
theorem ps_get {M : Hp} {ps : List (Int × Int)} {xs : List V} {i : Nat} (h : Ats K M (ps.map fun p => pT p.1 p.2) xs) (hi : i < ps.length) : ∃ a, xs[i]? = some (.ref a) ∧ SqT K M a [.int (ps.getD i (0, 1)).1, .int (ps.getD i (0, 1)).2] := by
  obtain ⟨x, hx, at_⟩ := h.get (i := i) (t := pT ps[i].1 ps[i].2) (by rw [List.getElem?_map, List.getElem?_eq_getElem hi]; rfl)
  obtain ⟨a, rfl, hs⟩ := pT_inv at_
  refine ⟨a, hx, ?_⟩
  rw [SH.gD (List.getElem?_eq_getElem hi)]
  exact hs
theorem pr_getD {B : Nat} {ps : List (Int × Int)} (h : ∀ x ∈ ps, Pr B x) {i : Nat} (hi : i < ps.length) : Pr B (ps.getD i (0, 1)) := by
  rw [SH.gD (List.getElem?_eq_getElem hi)]
  exact h _ (List.getElem_mem hi)
theorem ok__law_sum (T : Txt K mg t) : FnOk P w K mg base CX0 (k + 1) t.f__law_sum t.d__law_sum ["_law_base", "_law_ones", "_law_others"] (spSum K) := by
  refine T.F__law_sum.ok sc__law_sum (fun vs H Q E h => ?_) (fun cdv A outer s H vs Q E hr h => ?_)
  · obtain ⟨v, v1, v2, p, ps, qs, B, M, rfl, _⟩ := h
    rfl
  obtain ⟨v, v1, v2, p, ps, qs, B, M, rfl, hv, h1, h2, hp, hps, hqs, hlen, hn, hB, hM, q⟩ := h
  obtain ⟨a, rfl, ha⟩ := pT_inv hv
  obtain ⟨b1, x1, rfl, hb1, a1⟩ := h1.lst_inv
  obtain ⟨b2, x2, rfl, hb2, a2⟩ := h2.lst_inv
  have l1 : x1.length = ps.length := by have := a1.1; simp at this; omega
  refine ⟨_, (pss_cons (ps_asg (pv 0) (pg_tup (n := 2) rfl (pgs_cons (pg_name (i := 4) sc__law_sum.nd rfl (Or.inl rfl)) (pgs_cons (pg_name (i := 5) sc__law_sum.nd rfl (Or.inl rfl)) pgs_nil))))
    (pss_cons (ps_for PassesOwn.never rfl (pi_range1 rfl T.n_range (pa_cons (pe_callB call_len_seq rfl T.n_len PySem.boot_len (pa_cons (pv 1) pa_nil)) pa_nil)) (pg_name (i := 3) sc__law_sum.nd rfl (Or.inl rfl))
      (pss_cons (ps_set (i := 6) sc__law_sum.nd rfl (Or.inl rfl) (pe_op op_mulB (pe_ix ix_tup (pe_ix ix_list (pv 1) (pv 3) (fun _ _ => rfl)) pe_int (fun _ _ => rfl)) (pe_ix ix_tup (pe_ix ix_list (pv 2) (pv 3) (fun _ _ => rfl)) pe_int (fun _ _ => rfl))))
    (pss_cons (ps_set (i := 4) sc__law_sum.nd rfl (Or.inl rfl) (pe_op op_add (pe_op op_mulB (pv 4) (pv 6)) (pe_op op_mulB (pe_op op_mulB (pe_ix ix_tup (pe_ix ix_list (pv 1) (pv 3) (fun _ _ => rfl)) pe_int (fun _ _ => rfl)) (pe_ix ix_tup (pe_ix ix_list (pv 2) (pv 3) (fun _ _ => rfl)) pe_int (fun _ _ => rfl))) (pv 5))))
    (pss_one (ps_set (i := 5) sc__law_sum.nd rfl (Or.inl rfl) (pe_op op_mulB (pv 5) (pv 6)))))))
    (pss_one (ps_ret (pe_tup (pa_cons (pv 4) (pa_cons (pv 5) pa_nil))))))), ?_⟩
  refine ⟨_, rfl, a, _, rfl, hM.tup ha, rfl, _, _, rfl, _, _, rfl, rfl, ?_⟩
  have hx1 := SqL.of (K := K) (hM _ _ hb1)
  have hx2 := SqL.of (K := K) (hM _ _ hb2)
  refine ⟨_, rfl, b1, _, rfl, .inl hx1, _, rfl, by omega, by omega, for_range (n := x1.length) (fun i σ H' => H' = H ∧ ∃ (c e : Option V) (r : Int × Int), σ = [some (.ref a), some (.ref b1), some (.ref b2), c, some (.int r.1), some (.int r.2), e] ∧ Pr (B + i * (2 * B + 1)) r ∧ pq r = pq p + SH.sq i (fun j => pq (ps.getD j (0, 1)) * pq (qs.getD j (0, 1)))) ⟨rfl, none, none, p, rfl, by simpa using hp, by show pq p = pq p + 0; grind⟩ ?_ ?_⟩
  · rintro i σ H' hi ⟨rfl, c, e, r, rfl, hr0, hv0⟩
    rw [Int.zero_add]
    have hi1 : i < ps.length := by omega
    have hi2 : i < qs.length := by omega
    obtain ⟨c1, hc1, hs1⟩ := ps_get a1 hi1
    obtain ⟨c2, hc2, hs2⟩ := ps_get a2 hi2
    have p1 := pr_getD hps hi1
    have p2 := pr_getD hqs hi2
    generalize hg1 : ps.getD i (0, 1) = f1 at *
    generalize hg2 : qs.getD i (0, 1) = f2 at *
    have hs1 := hM.tup hs1
    have hs2 := hM.tup hs2
    have iB : i * (2 * B + 1) ≤ 10 * (2 * 100000 + 1) := Nat.mul_le_mul (by omega) (by omega)
    have mb := FM.mul_lt p1.2.2 p2.2.2
    have mt := FM.mul_lt p1.2.1 p2.2.1
    refine ⟨_, rfl, _, rfl, b1, _, _, _, rfl, rfl, hx1, atI_nat hc1, c1, _, _, _, rfl, rfl, hs1, rfl, ?_⟩
    refine ⟨_, rfl, _, rfl, b2, _, _, _, rfl, rfl, hx2, atI_nat hc2, c2, _, _, _, rfl, rfl, hs2, rfl, _, _, rfl, rfl, mulOk p1.2.2 p2.2.2 (by omega), ?_⟩
    refine ⟨_, rfl, _, rfl, _, _, rfl, rfl, mulOk hr0.2.1 mb (by omega), ?_⟩
    refine ⟨_, rfl, _, rfl, b1, _, _, _, rfl, rfl, hx1, atI_nat hc1, c1, _, _, _, rfl, rfl, hs1, rfl, ?_⟩
    refine ⟨_, rfl, _, rfl, b2, _, _, _, rfl, rfl, hx2, atI_nat hc2, c2, _, _, _, rfl, rfl, hs2, rfl, _, _, rfl, rfl, mulOk p1.2.1 p2.2.1 (by omega), ?_⟩
    refine ⟨_, rfl, _, _, rfl, rfl, mulOk mt hr0.2.2 (by omega), _, _, rfl, rfl, ?_⟩
    refine ⟨_, rfl, _, rfl, _, _, rfl, rfl, mulOk hr0.2.2 mb (by omega), ?_⟩
    refine ⟨rfl, _, _, (r.1 * (f1.2 * f2.2) + f1.1 * f2.1 * r.2, r.2 * (f1.2 * f2.2)), rfl, ⟨Int.mul_pos hr0.1 (Int.mul_pos p1.1 p2.1), ?_, ?_⟩, ?_⟩
    · have z1 := FM.mul_lt hr0.2.1 mb
      have z2 := FM.mul_lt mt hr0.2.2
      have z3 := FM.add_lt z1 (FM.lt_mono z2 (by omega))
      exact FM.lt_mono z3 (by rw [show (i + 1) * (2 * B + 1) = i * (2 * B + 1) + (2 * B + 1) from Nat.succ_mul i _]; omega)
    · exact FM.lt_mono (FM.mul_lt hr0.2.2 mb) (by rw [show (i + 1) * (2 * B + 1) = i * (2 * B + 1) + (2 * B + 1) from Nat.succ_mul i _]; omega)
    · show Rat.divInt _ _ = _
      rw [pq_step hr0.1 p1.1 p2.1]
      show pq r + pq f1 * pq f2 = pq p + (SH.sq i _ + pq (ps.getD i (0, 1)) * pq (qs.getD i (0, 1)))
      rw [hv0, hg1, hg2]
      grind
  · rintro σ H' ⟨rfl, c, e, r, rfl, hr0, hv0⟩
    rw [l1] at hr0 hv0
    refine ⟨_, rfl, _, rfl, two_ok, fun p9 hp9 => ?_⟩
    exact q r _ _ _ hr0 hv0 ((Gr.refl hM).add hp9) (pT_mk (SqT.of upd_same))
theorem ok__law_equal (T : Txt K mg t) : FnOk P w K mg base CX0 (k + 1) t.f__law_equal t.d__law_equal ["_law_one", "_law_two"] (spEqual K) := by
  refine T.F__law_equal.ok sc__law_equal (fun vs H Q E h => ?_) (fun cdv A outer s H vs Q E hr h => ?_)
  · obtain ⟨v1, v2, p, u, B, M, rfl, _⟩ := h
    rfl
  obtain ⟨v1, v2, p, u, B, M, rfl, h1, h2, p1, p2, hB, he, hM, q⟩ := h
  obtain ⟨a, rfl, ha0⟩ := pT_inv h1
  obtain ⟨b, rfl, hb0⟩ := pT_inv h2
  have ha := hM.tup ha0
  have hb := hM.tup hb0
  refine ⟨_, (pss_one (ps_ret (pe_cmpR op_eq (pe_op op_mulB (pe_ix ix_tup (pv 0) pe_int (fun _ _ => rfl)) (pe_ix ix_tup (pv 1) pe_int (fun _ _ => rfl))) (pe_op op_mulB (pe_ix ix_tup (pv 1) pe_int (fun _ _ => rfl)) (pe_ix ix_tup (pv 0) pe_int (fun _ _ => rfl))) (nomark _)))), ?_⟩
  refine ⟨_, rfl, a, _, _, _, rfl, rfl, ha, rfl, _, rfl, b, _, _, _, rfl, rfl, hb, rfl, _, _, rfl, rfl, mulOk p1.2.1 p2.2.2 (by omega), ?_⟩
  refine ⟨_, rfl, b, _, _, _, rfl, rfl, hb, rfl, _, rfl, a, _, _, _, rfl, rfl, ha, rfl, _, _, rfl, rfl, mulOk p2.2.1 p1.2.2 (by omega), rfl, ?_⟩
  have e := pq_cross p1.1 p2.1 he
  rw [decide_eq_true (congrArg V.int e)]
  exact q
end
end W1


namespace W1
open PySem PySem.Spec L2
theorem cw_put {K : PySem.W.Frag} {M H1 : Hp} {p : Addr} {F : Nat → Tr} {i : Nat} {H H4 Mi M4 : Hp} {ys : List V} {y : V} (hp : H1 p = none) (g : Gr M H1 Mi H) (mp : Mi p = none) (hy : H p = some (.lst ys)) (a : Ats K Mi ((List.range i).map F) ys) (g4 : Gr Mi H M4 H4) (t : At K M4 (F i) y) :
    H4 p = some (.lst ys) ∧ Cw K M H1 p F (i + 1) (upd H4 p (.lst (ys ++ [y]))) := by
  have m4 : M4 p = none := g4.fr _ _ hy mp
  refine ⟨g4.hh _ _ hy, M4, ys ++ [y], (g.trans g4).put hp m4, m4, upd_same, ?_⟩
  rw [List.range_succ, List.map_append]
  exact (a.mono g4.mm).snoc t
theorem range_len {F : Nat → Tr} {i : Nat} {K : PySem.W.Frag} {M : Hp} {ys : List V} (a : Ats K M ((List.range i).map F) ys) : ys.length = i := by have := a.1; simp at this; omega
theorem map_range_get {α : Type} {f : Nat → α} {n i : Nat} (h : i < n) : ((List.range n).map f)[i]? = some (f i) := by rw [List.getElem?_map, List.getElem?_range h]; rfl
def ptsR (ns : List Int) (from_ : Int) (n : Nat) : List Rat := (List.range n).map fun (k : Nat) => smR (atV ns (from_ + (k : Int)))
def rowsR (ns : List Int) (m n : Nat) : List (List Rat) := (List.range m).map fun (k : Nat) => (List.range n).map fun (j : Nat) => smR (atV ns (12 + 3 * (k : Int) + (j : Int)))
def spSheetOf (K : PySem.W.Frag) : Sp := fun vs H Q _ => ∃ (a : Addr) (ns : List Int) (mi ni : Int) (m n : Nat) (M : Hp), vs = [.ref a, .int mi, .int ni] ∧ mi = (m : Int) ∧ ni = (n : Int) ∧ SqL K H a (ns.map V.int) ∧ ns.length ≤ 63 ∧ m ≤ 100 ∧ n ≤ 100 ∧ Same M H ∧
  ∀ (v : V) (M' H' : Hp), Gr M H M' H' → At K M' (.tup [lnT (ptsR ns 8 m), lnsT (rowsR ns m n), lnT (ptsR ns 22 n)]) v → Q v H'
def spPoints (K : PySem.W.Frag) : Sp := fun vs H Q _ => ∃ (a : Addr) (ns : List Int) (n : Nat) (M : Hp), vs = [.ref a, .int n] ∧ SqL K H a (ns.map V.int) ∧ ns.length ≤ 63 ∧ n ≤ 100 ∧ Same M H ∧ Res K M H (lnT (ptsR ns 26 n)) Q
def spChanged (K : PySem.W.Frag) : Sp := fun vs H Q _ => ∃ (v : V) (s : SH.Sh) (r p : Nat) (u n : Int) (l : List Rat) (a : Rat) (M : Hp), vs = [v, .int r, .int p] ∧ At K M (lnsT (s.ln ++ [s.gl])) v ∧ s.Ok ∧ s.At r p u n l a ∧ Sz s ∧ Sz (s.exch r p) ∧ s.inn.length ≤ 100 ∧ s.out.length ≤ 100 ∧ Same M H ∧
  Res K M H (lnsT ((s.exch r p).ln ++ [(s.exch r p).gl])) Q
section
variable {P : Program} {w : World} {K : PySem.W.Frag} {mg : Str → Option Value} {base : Heap} {t : Adr} {k : Nat}
theorem ok__law_put_in (T : Txt K mg t) (G__law_plus : FnOk P w K mg base CX0 k t.f__law_plus t.d__law_plus ["_law_one", "_law_two"] (spTwo K (· + ·))) (G__law_times : FnOk P w K mg base CX0 k t.f__law_times t.d__law_times ["_law_one", "_law_two"] (spTwo K (· * ·))) :
    FnOk P w K mg base CX0 (k + 1) t.f__law_put_in t.d__law_put_in ["_law_line", "_law_column", "_law_told"] (spPut K) := by
  refine T.F__law_put_in.ok sc__law_put_in (fun vs H Q E h => ?_) (fun cdv A outer s H vs Q E hr h => ?_)
  · obtain ⟨v, x, l, u, p, c, d, M, rfl, _⟩ := h
    rfl
  obtain ⟨v, x, l, u, p, c, d, M, rfl, hv, hw, hc, hd, hlu, hlen, sl, su, hM, q⟩ := h
  obtain ⟨b, xs, rfl, hb, ats⟩ := hv.lst_inv
  obtain ⟨b2, zs, rfl, hb2, ats2⟩ := hw.lst_inv
  have hbH := hM _ _ hb
  have hbH2 := hM _ _ hb2
  obtain ⟨xp, hxp, atp⟩ := ln_get ats hc
  have hpl : p < l.length := (List.getElem?_eq_some_iff.mp hc).1
  have hxl : xs.length = l.length := by have := ats.1; simp at this; omega
  have sc := sl c (List.mem_of_getElem? hc)
  refine ⟨_, (pss_cons (ps_set (i := 3) sc__law_put_in.nd rfl (Or.inl rfl) (pe_ix ix_list (pv 0) (pv 1) (fun _ _ => rfl)))
    (pss_cons (ps_set (i := 4) sc__law_put_in.nd rfl (Or.inl rfl) (pe_lst pa_nil))
    (pss_cons (ps_for PassesOwn.never rfl (pi_range1 rfl T.n_range (pa_cons (pe_callB call_len_seq rfl T.n_len PySem.boot_len (pa_cons (pv 0) pa_nil)) pa_nil)) (pg_name (i := 5) sc__law_put_in.nd rfl (Or.inl rfl))
      (pss_cons (ps_set (i := 6) sc__law_put_in.nd rfl (Or.inl rfl) (pe_ix ix_list (pe_lst (pa_cons (pe_ix ix_list (pv 0) (pv 5) (fun _ _ => rfl)) (pa_cons (pe_tup (pa_cons pe_int (pa_cons pe_int pa_nil))) pa_nil))) (pe_callTy call_int1 rfl T.n_int bt_int (pa_cons (pe_cmpR op_eq (pv 5) (pv 1) (nomark _)) pa_nil)) (fun _ _ => rfl)))
    (pss_one (ps_expr (pe_bm PySem.F.plainAttrs_list PySem.F.slot_list_append PySem.F.type_list_append mt_append (pv 4) (pa_cons (pe_call G__law_plus hr rfl T.m__law_plus T.F__law_plus.kp T.b__law_plus .nil pass0 (pa_cons (pv 6) (pa_cons (pe_call G__law_times hr rfl T.m__law_times T.F__law_times.kp T.b__law_times .nil pass0 (pa_cons (pv 3) (pa_cons (pe_ix ix_list (pv 2) (pv 5) (fun _ _ => rfl)) pa_nil))) pa_nil))) pa_nil))))))
    (pss_one (ps_ret (pv 4)))))), ?_⟩
  refine ⟨_, rfl, _, rfl, b, _, _, _, rfl, rfl, SqL.of hbH, atI_nat hxp, ?_⟩
  refine ⟨(by show 0 ≤ sizeLine; decide), fun f hf => ?_⟩
  have g0 : Cw K M H f (fun i => frT ((if i = p then 0 else l.getD i 0) + c * u.getD i 0)) 0 (upd H f (.lst [])) := cw_start hM hf
  refine ⟨_, rfl, b, _, rfl, .inl (SqL.of (by rw [upd_ne (ne_of_none hbH hf)]; exact hbH)), _, rfl, by omega, by omega, for_range (n := xs.length) (fun i σ H' => (∃ a b' : Option V, σ = [some (.ref b), some (.int p), some (.ref b2), some xp, some (.ref f), a, b']) ∧ Cw K M H f (fun i => frT ((if i = p then 0 else l.getD i 0) + c * u.getD i 0)) i H') ⟨⟨none, none, rfl⟩, g0⟩ ?_ ?_⟩
  · rintro i σ H' hi ⟨⟨a, b', rfl⟩, Mi, ys, g, mf, hy, at_⟩
    rw [Int.zero_add]
    have hil : i < l.length := by omega
    obtain ⟨xi, hxi, ati⟩ := ln_get ats (List.getElem?_eq_getElem hil)
    obtain ⟨zi, hzi, atz⟩ := ln_get ats2 (List.getElem?_eq_getElem (show i < u.length by omega))
    have hyl := range_len at_
    -- [line[k], (0, 1)][int(k == column)]
    refine ⟨_, rfl, _, rfl, b, _, _, _, rfl, rfl, SqL.of (g.hh _ _ hbH), atI_nat hxi, two_ok, fun p1 h1 => ⟨two_ok, fun p2 h2 => ?_⟩⟩
    have gA : Gr M H (upd Mi p1 (.tup [.int 0, .int 1])) (upd H' p1 (.tup [.int 0, .int 1])) := g.add h1
    have gB : Gr Mi H' (upd Mi p1 (.tup [.int 0, .int 1])) (upd (upd H' p1 (.tup [.int 0, .int 1])) p2 (.lst [xi, .ref p1])) := ((Gr.refl g.mh).add h1).new h2
    have hz0 : At K (upd Mi p1 (.tup [.int 0, .int 1])) (frT 0) (.ref p1) := pT_mk (SqT.of upd_same)
    have hx0 := ati.mono (g.mm.trans (same_new (g.mh.free h1) (.tup [.int 0, .int 1])))
    have hz1 := atz.mono (g.mm.trans (same_new (g.mh.free h1) (.tup [.int 0, .int 1])))
    have hx1 := atp.mono (g.mm.trans (same_new (g.mh.free h1) (.tup [.int 0, .int 1])))
    have hl2 : upd (upd H' p1 (.tup [.int 0, .int 1])) p2 (.lst [xi, .ref p1]) p2 = some (.lst [xi, .ref p1]) := upd_same
    generalize upd Mi p1 (.tup [.int 0, .int 1]) = M2 at gA gB hz0 hx0 hz1 hx1
    generalize upd (upd H' p1 (.tup [.int 0, .int 1])) p2 (.lst [xi, .ref p1]) = H2 at gB hl2 ⊢
    refine ⟨_, rfl, _, rfl, rfl, .inr ⟨_, rfl, ?_⟩⟩
    have old : ∃ vo, atI [xi, V.ref p1] (if decide (V.int (i : Int) = V.int (p : Int)) = true then 1 else 0) = some vo ∧ At K M2 (frT (if i = p then 0 else l.getD i 0)) vo := by
      by_cases e : i = p
      · rw [if_pos (by rw [e]; simp), if_pos e]
        exact ⟨_, rfl, hz0⟩
      · rw [if_neg (by simp; omega), if_neg e, SH.getD_of (List.getElem?_eq_getElem hil)]
        exact ⟨_, rfl, hx0⟩
    obtain ⟨vo, ho, ato⟩ := old
    refine ⟨p2, _, _, vo, rfl, rfl, SqL.of hl2, ho, ?_⟩
    -- plus(old, times(part, told[k]))
    have hy2 : H2 f = some (.lst ys) := gB.hh _ _ hy
    refine ⟨_, rfl, .inl ⟨rfl, _, SqL.of hy2⟩, _, rfl, _, rfl, _, rfl, _, rfl, b2, _, _, _, rfl, rfl, SqL.of (gB.hh _ _ (g.hh _ _ hbH2)), atI_nat hzi, ?_⟩
    refine ⟨_, _, c, u[i]'(by omega), M2, rfl, hx1, hz1, sm_mono sc (by decide), sm_mono (su _ (List.getElem_mem _)) (by decide), gB.mh, fun tv M3 H3 g3 h3 => ?_⟩
    refine ⟨_, _, (if i = p then 0 else l.getD i 0), c * u[i]'(by omega), M3, rfl, ato.mono g3.mm, h3, ?_, sm_mono (sm_mul sc (su _ (List.getElem_mem _))) (by decide), g3.mh, fun pv M4 H4 g4 h4 => ?_⟩
    · split
      · exact ⟨by show 0 < 2 ^ 4000; exact Nat.pow_pos (by decide), by show 1 < 2 ^ 4000; exact Nat.one_lt_two_pow (by decide)⟩
      · rw [SH.getD_of (List.getElem?_eq_getElem hil)]
        exact sm_mono (sl _ (List.getElem_mem _)) (by decide)
    have hput := cw_put hf g mf hy at_ (gB.trans (g3.trans g4)) (y := pv) (by
      show At K M4 (frT ((if i = p then 0 else l.getD i 0) + c * u.getD i 0)) pv
      rw [SH.getD_of (l := u) (List.getElem?_eq_getElem (show i < u.length by omega))]
      exact h4)
    exact ⟨f, _, _, rfl, rfl, hput.1, small1000 (by omega), ⟨_, _, rfl⟩, hput.2⟩
  · rintro σ H' ⟨⟨a, b', rfl⟩, Mi, ys, g, mf, hy, at_⟩
    refine ⟨_, rfl, ?_⟩
    refine q _ _ _ (g.frz hf mf hy) (Ats.lst (xs := ys) ?_ upd_same)
    refine Ats.mono (same_new mf _) (ats_range at_ (by rw [List.length_map, SH.putIn_len _ _ _ hlu]; omega) fun i t ht => ?_)
    rw [List.getElem?_map] at ht
    have hil : i < l.length := by
      cases e : (SH.putIn l p u)[i]? with
      | none => rw [e] at ht; cases ht
      | some r => have := (List.getElem?_eq_some_iff.mp e).1; rw [SH.putIn_len _ _ _ hlu] at this; exact this
    have e1 := List.getElem?_eq_getElem hil
    have e2 := List.getElem?_eq_getElem (show i < u.length by omega)
    have hv : (SH.putIn l p u)[i]? = some ((if i = p then 0 else l.getD i 0) + c * u.getD i 0) := by
      unfold SH.putIn
      rw [SH.getD_of hc, List.getElem?_set]
      by_cases e : p = i
      · subst e
        rw [if_pos rfl, if_pos (by simp; omega), if_pos rfl]
        congr 1
        grind
      · rw [if_neg e, if_neg (fun z => e z.symm), List.getElem?_zipWith, e1, e2, SH.getD_of e1, SH.getD_of e2]
    rw [hv] at ht
    exact Option.some.inj ht
theorem ok__law_solved_for (T : Txt K mg t) (G__law_cut : FnOk P w K mg base CX0 k t.f__law_cut t.d__law_cut ["_law_pair"] (spCut K)) (G__law_times : FnOk P w K mg base CX0 k t.f__law_times t.d__law_times ["_law_one", "_law_two"] (spTwo K (· * ·))) :
    FnOk P w K mg base CX0 (k + 1) t.f__law_solved_for t.d__law_solved_for ["_law_line", "_law_column"] (spSolved K) := by
  refine T.F__law_solved_for.ok sc__law_solved_for (fun vs H Q E h => ?_) (fun cdv A outer s H vs Q E hr h => ?_)
  · obtain ⟨v, l, p, a, M, rfl, _⟩ := h
    rfl
  obtain ⟨v, l, p, a, M, rfl, hv, hp, ha, hlen, hsm, hM, q⟩ := h
  obtain ⟨b, xs, rfl, hb, ats⟩ := hv.lst_inv
  have hbH := hM _ _ hb
  obtain ⟨xp, hxp, atp⟩ := ln_get ats hp
  obtain ⟨pa, rfl, hpa⟩ := fr_inv atp
  have hpaH := hM.tup hpa
  have hpl : p < l.length := (List.getElem?_eq_some_iff.mp hp).1
  have hxl : xs.length = l.length := by have := ats.1; simp at this; omega
  have sa := hsm a (List.mem_of_getElem? hp)
  have hnum : a.num ≠ 0 := fun z => ha (Rat.num_eq_zero.mp z)
  have hpart : Rat.divInt (0 - (a.den : Int)) a.num = -(1 / a) := by
    have e1 : (1 : Rat) / a = Rat.divInt a.den a.num := by
      have := FM.div_is 1 a
      rw [← this]
      show Rat.divInt (1 * _) (1 * _) = _
      rw [Int.one_mul, Int.one_mul]
    rw [e1, Rat.neg_divInt, Int.zero_sub]
  have hsp : FM.Sm 1000 (-(1 / a)) := by
    rw [← hpart]
    exact sm_divInt hnum (by rw [show (0 - (a.den : Int)).natAbs = a.den by omega]; exact sa.2) sa.1
  refine ⟨_, (pss_cons (ps_set (i := 2) sc__law_solved_for.nd rfl (Or.inr rfl) (pe_call G__law_cut hr rfl T.m__law_cut T.F__law_cut.kp T.b__law_cut .nil pass0 (pa_cons (pe_tup (pa_cons (pe_op op_sub pe_int (pe_ix ix_tup (pe_ix ix_list (pv 0) (pv 1) (fun _ _ => rfl)) pe_int (fun _ _ => rfl))) (pa_cons (pe_ix ix_tup (pe_ix ix_list (pv 0) (pv 1) (fun _ _ => rfl)) pe_int (fun _ _ => rfl)) pa_nil))) pa_nil)))
    (pss_cons (ps_compG (iy := 3) sc__law_solved_for.nd rfl (Or.inl rfl) rfl (compt_of (n := 1) (js := [2]) (Nb := ["_law_one", "_law_part"]) (by kernel_rfl) rfl (by decide +kernel) (by decide) (by kernel_rfl)) (pi_list (pv 0)) (fun C s0 H0 fp pn' => (pg_name (i := 0) (nd_of (l := ["_law_one", "_law_part"]) (by decide +kernel)) rfl (Or.inl rfl))) own_name (fun C s0 H0 fp pn' => pts_none) (fun C s0 H0 fp pn' => (pe_call G__law_times hr rfl T.m__law_times T.F__law_times.kp T.b__law_times .nil pass0 (pa_cons (pv 1) (pa_cons (pv 0) pa_nil)))))
    (pss_cons (ps_asg (pe_tup (pa_cons (pe_op op_sub pe_int (pe_ix ix_tup (pv 2) pe_int (fun _ _ => rfl))) (pa_cons (pe_ix ix_tup (pv 2) pe_int (fun _ _ => rfl)) pa_nil))) (pg_sub (pv 3) (pv 1) set_list))
    (pss_one (ps_ret (pv 3)))))), ?_⟩
  refine ⟨_, rfl, _, rfl, b, _, _, _, rfl, rfl, SqL.of hbH, atI_nat hxp, pa, _, _, _, rfl, rfl, hpaH, fr_bot a, _, _, rfl, rfl, ?_⟩
  refine ⟨_, rfl, _, rfl, b, _, _, _, rfl, rfl, SqL.of hbH, atI_nat hxp, pa, _, _, _, rfl, rfl, hpaH, fr_top a, two_ok, fun c1 hc1 => ?_⟩
  have g0 := (Gr.refl hM).add (o := .tup [.int (0 - (a.den : Int)), .int a.num]) hc1
  refine ⟨_, _, _, _, rfl, pT_mk (SqT.of upd_same), hnum, FM.lt_mono sa.1 (by decide), g0.mh, fun dv M1 H1 g1' hd => ?_⟩
  have g1 := g0.trans g1'
  rw [hpart] at hd
  refine ⟨_, rfl, b, rfl, ⟨_, SqL.of (g1.hh _ _ hbH)⟩, fun z hz => cm_list (K := K) (M := M1) (F := fun i => frT (-(1 / a) * l.getD i 0)) g1.mh (g1.mm _ _ hb) (by omega) hz (fun i x Mi Hi Qy hx gi k => ?_) (fun M2 H2 ys g2 m2 hy at2 => ?_)⟩
  · obtain ⟨r, hr0, atr⟩ := ln_get' ats hx
    refine ⟨_, rfl, _, rfl, _, _, -(1 / a), r, Mi, rfl, hd.mono gi.mm, atr.mono (g1.mm.trans gi.mm), sm_mono hsp (by decide), sm_mono (hsm r (List.mem_of_getElem? hr0)) (by decide), gi.mh, fun y M4 H4 g4 t4 => k y M4 H4 g4 ?_⟩
    rw [SH.getD_of hr0]
    exact t4
  have at3 : Ats K M2 ((l.map fun x => x / -a).map frT) ys := ats_range at2 (by simp [hxl]) fun i t ht => by
    rw [List.getElem?_map, List.getElem?_map] at ht
    cases e : l[i]? with
    | none => rw [e] at ht; cases ht
    | some r =>
      rw [e] at ht; cases ht; rw [SH.getD_of e]
      congr 1
      grind
  have gr2 := g1.trans g2
  obtain ⟨pd, rfl, hpd⟩ := fr_inv (hd.mono g2.mm)
  have hpdH := g2.mh.tup hpd
  refine ⟨_, rfl, pd, _, _, _, rfl, rfl, hpdH, fr_top _, _, _, rfl, rfl, ?_⟩
  refine ⟨_, rfl, pd, _, _, _, rfl, rfl, hpdH, fr_bot _, two_ok, fun c2 hc2 => ?_⟩
  have hz0 : H z = none := g1.hh.free hz
  have hyl : ys.length = l.length := by have := at3.1; simpa using this.symm
  have hzc : z ≠ c2 := ne_of_none hy hc2
  refine ⟨_, rfl, _, rfl, z, ys, p, p, rfl, rfl, by rw [upd_ne hzc]; exact hy, ix_nat (by rw [hyl]; exact hpl), ?_⟩
  refine ⟨_, rfl, ?_⟩
  have g5 := gr2.add (o := .tup [.int (0 - (-(1 / a)).num), .int ((-(1 / a)).den : Int)]) hc2
  have mc : M2 c2 = none := g2.mh.free hc2
  have m5 : upd M2 c2 (.tup [.int (0 - (-(1 / a)).num), .int ((-(1 / a)).den : Int)]) z = none := by rw [upd_ne hzc]; exact m2
  have gf := (g5.put (o := .lst (ys.set p (.ref c2))) hz0 m5).frz hz0 m5 upd_same
  refine q _ _ _ gf (Ats.lst (xs := ys.set p (.ref c2)) ?_ upd_same)
  have : (SH.told l p).map frT = ((l.map fun x => x / -a).map frT).set p (frT (1 / a)) := by
    unfold SH.told
    rw [SH.getD_of hp, List.map_set]
  rw [this]
  refine Ats.mono (same_new m5 _) (Ats.set (at3.mono (same_new mc _)) ?_ p)
  refine pT_mk (SqT.of ?_)
  rw [upd_same, Rat.neg_num, Rat.neg_den]
  congr 4
  omega
theorem ok__law_changed (T : Txt K mg t) (G__law_solved_for : FnOk P w K mg base CX0 k t.f__law_solved_for t.d__law_solved_for ["_law_line", "_law_column"] (spSolved K)) (G__law_put_in : FnOk P w K mg base CX0 k t.f__law_put_in t.d__law_put_in ["_law_line", "_law_column", "_law_told"] (spPut K)) :
    FnOk P w K mg base CX0 (k + 1) t.f__law_changed t.d__law_changed ["_law_lines", "_law_place", "_law_column"] (spChanged K) := by
  refine T.F__law_changed.ok sc__law_changed (fun vs H Q E h => ?_) (fun cdv A outer s H vs Q E hr h => ?_)
  · obtain ⟨v, z, r, p, u, n, l, a, M, rfl, _⟩ := h
    rfl
  obtain ⟨v, z, r, p, u, n, l, a, M, rfl, hv, ok, at_, sz, sz2, hm, hn, hM, q⟩ := h
  obtain ⟨b, xs, rfl, hb, ats⟩ := hv.lst_inv
  have hbH := hM _ _ hb
  have hr' : r < z.inn.length := (List.getElem?_eq_some_iff.mp at_.hu).1
  have hp' : p < z.out.length := (List.getElem?_eq_some_iff.mp at_.hv).1
  have hll := ok.wd l (List.mem_of_getElem? at_.hl)
  have ht : SH.told l p ∈ (z.exch r p).ln := by
    rw [SH.Sh.exch_eq at_]
    exact List.mem_iff_getElem?.mpr ⟨r, by simp [ok.ln, hr']⟩
  have st := sz2 _ (.inl ht)
  have htl : (SH.told l p).length = z.out.length + 1 := by rw [SH.told_len, hll]
  have hxl : xs.length = z.inn.length + 1 := by have := ats.1; simp at this; rw [← this, ok.ln]
  have hlr : (z.ln ++ [z.gl])[r]? = some l := by rw [List.getElem?_append_left (by rw [ok.ln]; exact hr')]; exact at_.hl
  obtain ⟨vl, hvl, atl⟩ := lns_get ats hlr
  -- each line of it
  have each : ∀ i, i < z.inn.length + 1 → ∃ l', (z.ln ++ [z.gl])[i]? = some l' ∧ l'.length = z.out.length + 1 ∧ SmL 1000 l' := by
    intro i hi
    rcases Nat.lt_or_ge i z.inn.length with h | h
    · have hl2 : i < z.ln.length := by rw [ok.ln]; exact h
      exact ⟨z.ln[i], by rw [List.getElem?_append_left hl2]; exact List.getElem?_eq_getElem hl2, ok.wd _ (List.getElem_mem hl2), sz _ (.inl (List.getElem_mem hl2))⟩
    · have : i = z.ln.length := by rw [ok.ln]; omega
      subst this
      exact ⟨z.gl, by simp, ok.gl, sz _ (.inr rfl)⟩
  refine ⟨_, (pss_cons (ps_set (i := 3) sc__law_changed.nd rfl (Or.inl rfl) (pe_call G__law_solved_for hr rfl T.m__law_solved_for T.F__law_solved_for.kp T.b__law_solved_for .nil pass0 (pa_cons (pe_ix ix_list (pv 0) (pv 1) (fun _ _ => rfl)) (pa_cons (pv 2) pa_nil))))
    (pss_cons (ps_set (i := 4) sc__law_changed.nd rfl (Or.inl rfl) (pe_lst pa_nil))
    (pss_cons (ps_for PassesOwn.never rfl (pi_range1 rfl T.n_range (pa_cons (pe_callB call_len_seq rfl T.n_len PySem.boot_len (pa_cons (pv 0) pa_nil)) pa_nil)) (pg_name (i := 5) sc__law_changed.nd rfl (Or.inl rfl))
      (pss_one (ps_if (pt_cmpR op_eq (pv 5) (pv 1) (nomark _))
      (pss_one (ps_expr (pe_bm PySem.F.plainAttrs_list PySem.F.slot_list_append PySem.F.type_list_append mt_append (pv 4) (pa_cons (pv 3) pa_nil))))
      (pss_one (ps_expr (pe_bm PySem.F.plainAttrs_list PySem.F.slot_list_append PySem.F.type_list_append mt_append (pv 4) (pa_cons (pe_call G__law_put_in hr rfl T.m__law_put_in T.F__law_put_in.kp T.b__law_put_in .nil pass0 (pa_cons (pe_ix ix_list (pv 0) (pv 5) (fun _ _ => rfl)) (pa_cons (pv 2) (pa_cons (pv 3) pa_nil)))) pa_nil)))))))
    (pss_one (ps_ret (pv 4)))))), ?_⟩
  refine ⟨_, rfl, _, rfl, b, _, _, _, rfl, rfl, SqL.of hbH, atI_nat hvl, _, rfl, _, l, p, a, M, rfl, atl, at_.ha, at_.nz, by omega, sz l (.inl (List.mem_of_getElem? at_.hl)), hM, fun tv M1 H1 g1 t1 => ?_⟩
  refine ⟨(by show 0 ≤ sizeLine; decide), fun f hf => ?_⟩
  have hf0 : H f = none := g1.hh.free hf
  refine ⟨_, rfl, b, _, rfl, .inl (SqL.of (by rw [upd_ne (ne_of_none (g1.hh _ _ hbH) hf)]; exact g1.hh _ _ hbH)), _, rfl, by omega, by omega, for_range (n := xs.length) (fun i σ H' => (∃ a' : Option V, σ = [some (.ref b), some (.int r), some (.int p), some tv, some (.ref f), a']) ∧ Cw K M1 H1 f (fun i => lnT (if i = r then SH.told l p else SH.putIn ((z.ln ++ [z.gl]).getD i []) p (SH.told l p))) i H') ⟨⟨none, rfl⟩, cw_start g1.mh hf⟩ ?_ ?_⟩
  · rintro i σ H' hi ⟨⟨a', rfl⟩, Mi, ys, g, mf, hy, ay⟩
    rw [Int.zero_add]
    have hyl := range_len ay
    refine ⟨_, rfl, _, rfl, rfl, _, rfl, ?_⟩
    by_cases e : i = r
    · rw [decide_eq_true (by rw [e])]
      have hput := cw_put (y := tv) hf g mf hy ay (Gr.refl g.mh) (by
        show At K Mi (lnT (if i = r then SH.told l p else SH.putIn ((z.ln ++ [z.gl]).getD i []) p (SH.told l p))) tv
        rw [if_pos e]
        exact t1.mono g.mm)
      exact iteT ⟨_, rfl, .inl ⟨rfl, _, SqL.of hy⟩, _, rfl, f, _, _, rfl, rfl, hput.1, small1000 (by omega), ⟨_, rfl⟩, hput.2⟩
    · rw [decide_eq_false (fun z => e (by have := V.int.inj z; omega))]
      obtain ⟨l', hl', hw, sl'⟩ := each i (by omega)
      obtain ⟨vi, hvi, ati⟩ := lns_get ats hl'
      refine iteF ⟨_, rfl, .inl ⟨rfl, _, SqL.of hy⟩, _, rfl, _, rfl, b, _, _, _, rfl, rfl, SqL.of (g.hh _ _ (g1.hh _ _ hbH)), atI_nat hvi, _, rfl, _, rfl, ?_⟩
      refine ⟨_, _, l', SH.told l p, p, l'[p]'(by omega), (SH.told l p)[p]'(by omega), Mi, rfl, ati.mono (g1.mm.trans g.mm), t1.mono g.mm, List.getElem?_eq_getElem (by omega), List.getElem?_eq_getElem (by omega), by omega, by omega, sl', st, g.mh, fun yv M4 H4 g4 t4 => ?_⟩
      have hput := cw_put (y := yv) hf g mf hy ay g4 (by
        show At K M4 (lnT (if i = r then SH.told l p else SH.putIn ((z.ln ++ [z.gl]).getD i []) p (SH.told l p))) yv
        rw [if_neg e, SH.gD hl']
        exact t4)
      exact ⟨f, _, _, rfl, rfl, hput.1, small1000 (by omega), ⟨_, rfl⟩, hput.2⟩
  · rintro σ H' ⟨⟨a', rfl⟩, Mi, ys, g, mf, hy, ay⟩
    refine ⟨_, rfl, ?_⟩
    refine q _ _ _ ((g1.trans g).frz hf0 mf hy) (Ats.lst (xs := ys) ?_ upd_same)
    refine Ats.mono (same_new mf _) (ats_range ay (by rw [SH.Sh.exch_eq at_]; simp [ok.ln, hxl]) fun i t ht => ?_)
    rw [SH.Sh.exch_eq at_, List.getElem?_map] at ht
    rcases Nat.lt_or_ge i z.ln.length with h | h
    · rw [List.getElem?_append_left (by simpa using h), List.getElem?_set] at ht
      by_cases e : r = i
      · subst e
        rw [if_pos rfl, if_pos (by simpa using h)] at ht
        cases ht
        rw [if_pos rfl]
      · rw [if_neg e, List.getElem?_map, List.getElem?_eq_getElem h] at ht
        cases ht
        rw [if_neg (fun z => e z.symm), SH.gD (by rw [List.getElem?_append_left h]; exact List.getElem?_eq_getElem h)]
    · have hi : i = z.ln.length := by
        rcases Nat.lt_or_ge z.ln.length i with h2 | h2
        · rw [List.getElem?_eq_none_iff.mpr (by simp; omega)] at ht
          cases ht
        · omega
      subst hi
      rw [List.getElem?_append_right (by simp)] at ht
      simp at ht
      subst ht
      rw [if_neg (by rw [ok.ln]; omega)]
      simp
end
end W1


namespace W1
open PySem PySem.Spec L2
def rListOf (K : PySem.W.Frag) : List V → Hp → VK → Prop := fun xs H Q => ∃ p ys, xs = [.ref p] ∧ (SqL K H p ys ∨ SqT K H p ys) ∧ ∀ l, H l = none → Q (.ref l) (upd H l (.lst ys))
def fr2 (r : Rat) : Int × Int := (r.num, (r.den : Int))
theorem fr2_pq (r : Rat) : pq (fr2 r) = r := FM.mk_self r
theorem fr2_pr {n : Nat} {r : Rat} (h : FM.Sm n r) : Pr n (fr2 r) := ⟨FM.den_pos r, h.1, sm_den h⟩
theorem ln_ps (l : List Rat) : lnT l = psT (l.map fr2) := by
  unfold lnT psT
  rw [List.map_map]
  rfl
theorem pr_mono {m n : Nat} {p : Int × Int} (h : Pr m p) (e : m ≤ n) : Pr n p := ⟨h.1, FM.lt_mono h.2.1 e, FM.lt_mono h.2.2 e⟩
theorem fr2_all {n : Nat} {l : List Rat} (h : SmL n l) : ∀ x ∈ l.map fr2, Pr n x := by
  intro x hx
  obtain ⟨r, hr, rfl⟩ := List.mem_map.mp hx
  exact fr2_pr (h r hr)
theorem pts_len (ns : List Int) (a : Int) (n : Nat) : (ptsR ns a n).length = n := by simp [ptsR]
theorem pts_sm (ns : List Int) (a : Int) (n : Nat) : SmL 1000 (ptsR ns a n) := by
  intro x hx
  obtain ⟨k, _, rfl⟩ := List.mem_map.mp hx
  exact sm_mono (smR_sm _) (by decide)
theorem rows_len (ns : List Int) (m n : Nat) : (rowsR ns m n).length = m := by simp [rowsR]
theorem rows_get {ns : List Int} {m n i : Nat} {r : List Rat} (h : (rowsR ns m n)[i]? = some r) : r.length = n ∧ SmL 1000 r := by
  have hi : i < m := by have := (List.getElem?_eq_some_iff.mp h).1; rw [rows_len] at this; exact this
  unfold rowsR at h
  rw [map_range_get hi] at h
  cases h
  refine ⟨by simp, fun x hx => ?_⟩
  obtain ⟨k, _, rfl⟩ := List.mem_map.mp hx
  exact sm_mono (smR_sm _) (by decide)
theorem putK_len {κ : Type} [DecidableEq κ] (kvs : List (κ × V)) (k : κ) (v : V) : (putK kvs k v).length ≤ kvs.length + 1 := by
  unfold putK
  split <;> simp
/-- the numbers of the unknowns, as the dict holds them -/
structure DcAt (K : PySem.W.Frag) (M : Hp) (d : Addr) (us : List Int) (val : Int → Int × Int) (B : Nat) : Prop where
  at_ : ∃ kvs, M d = some (.dK kvs) ∧ ∀ u ∈ us, ∃ x, valV kvs (Sum.inl u : Key) = some x ∧ At K M (pT (val u).1 (val u).2) x
  pr : ∀ u ∈ us, Pr B (val u)
theorem sum_fr {l : List Rat} {qs : List (Int × Int)} (h : l.length = qs.length) : SH.sq (l.map fr2).length (fun i => pq ((l.map fr2).getD i (0, 1)) * pq (qs.getD i (0, 1))) = SH.dot l (qs.map pq) := by
  rw [SH.dot_sq l (qs.map pq) l.length rfl (by simp [h]), List.length_map]
  refine SH.sq_congr fun i hi => ?_
  have e1 : (l.map fr2).getD i (0, 1) = fr2 (l.getD i 0) := by
    rw [SH.gD (show (l.map fr2)[i]? = some (fr2 (l[i])) by rw [List.getElem?_map, List.getElem?_eq_getElem hi]; rfl), SH.getD_of (List.getElem?_eq_getElem hi)]
  have e2 : (qs.map pq).getD i 0 = pq (qs.getD i (0, 1)) := by
    rw [SH.getD_of (show (qs.map pq)[i]? = some (pq (qs[i]'(by omega))) by rw [List.getElem?_map, List.getElem?_eq_getElem (by omega)]; rfl), SH.gD (List.getElem?_eq_getElem (by omega))]
  rw [e1, e2, fr2_pq]
def spValues (K : PySem.W.Frag) : Sp := fun vs H Q _ => ∃ (a : Addr) (ns : List Int) (v1 v2 v3 v4 : V) (inn out : List Int) (bases : List Rat) (rows : List (List Rat)) (M : Hp), vs = [.ref a, v1, v2, v3, v4] ∧ SqL K H a (ns.map V.int) ∧ ns.length ≤ 63 ∧
  At K M (intsT inn) v1 ∧ At K M (intsT out) v2 ∧ At K M (lnT bases) v3 ∧ At K M (lnsT rows) v4 ∧ SH.Un inn out ∧ inn.length ≤ 10 ∧ out.length ≤ 10 ∧ bases.length = inn.length ∧ rows.length = inn.length ∧ SmL 1000 bases ∧ (∀ r ∈ rows, r.length = out.length ∧ SmL 1000 r) ∧ Same M H ∧
  ∀ (d : Addr) (val : Int → Int × Int) (M' H' : Hp), Gr M H M' H' → DcAt K M' d (inn ++ out) val 30000 → (∀ (j : Nat) (u : Int), out[j]? = some u → pq (val u) = (ptsR ns 26 out.length).getD j 0) →
    (∀ (i : Nat) (u : Int), inn[i]? = some u → pq (val u) = bases.getD i 0 + SH.dot (rows.getD i []) (ptsR ns 26 out.length)) → Q (.ref d) H'
def spGoal (K : PySem.W.Frag) : Sp := fun vs H Q _ => ∃ (a : Addr) (ns : List Int) (v1 : V) (gains : List Rat) (M : Hp), vs = [.ref a, v1] ∧ SqL K H a (ns.map V.int) ∧ ns.length ≤ 63 ∧ At K M (lnT gains) v1 ∧ gains.length ≤ 10 ∧ SmL 1000 gains ∧ Same M H ∧
  ∀ (r : Int × Int) (v : V) (M' H' : Hp), Pr 30000 r → pq r = SH.dot gains (ptsR ns 26 gains.length) → Gr M H M' H' → At K M' (pT r.1 r.2) v → Q v H'
def spIsSheet (K : PySem.W.Frag) : Sp := fun vs H Q _ => ∃ (v : V) (s : SH.Sh) (M : Hp), vs = [v] ∧ At K M (.tup (sheetT s)) v ∧ Same M H ∧ ∀ H', Gr M H M H' → Q (.bl true) H'
def spFits (K : PySem.W.Frag) : Sp := fun vs H Q _ => ∃ (v vg : V) (d : Addr) (s : SH.Sh) (val : Int → Int × Int) (r : Int × Int) (M : Hp), vs = [v, .ref d, vg] ∧ At K M (.tup (sheetT s)) v ∧ DcAt K M d (s.inn ++ s.out) val 30000 ∧ At K M (pT r.1 r.2) vg ∧ Pr 30000 r ∧ s.Ok ∧ Sz s ∧ s.inn.length ≤ 10 ∧ s.out.length ≤ 10 ∧
  s.Fit (fun u => pq (val u)) 1 (pq r) ∧ Same M H ∧ ∀ H', Q (.bl true) H'
section
variable {P : Program} {w : World} {K : PySem.W.Frag} {mg : Str → Option Value} {base : Heap} {t : Adr} {k : Nat}
theorem ok__law_points_of (T : Txt K mg t) (G__law_at : FnOk P w K mg base CX0 k t.f__law_at t.d__law_at ["_law_script", "_law_k"] (spAt K)) (G__law_small : FnOk P w K mg base CX0 k t.f__law_small t.d__law_small ["_law_cell"] (spSmall K)) :
    FnOk P w K mg base CX0 (k + 1) t.f__law_points_of t.d__law_points_of ["_law_script", "_law_wide"] (spPoints K) := by
  refine T.F__law_points_of.ok sc__law_points_of (fun vs H Q E h => ?_) (fun cdv A outer s H vs Q E hr h => ?_)
  · obtain ⟨a, ns, n, M, rfl, _⟩ := h
    rfl
  obtain ⟨a, ns, n, M, rfl, hS, h63, hn, hM, q⟩ := h
  refine ⟨_, (pss_one (ps_ret (pe_compG rfl (compt_of (n := 1) (js := [0]) (Nb := ["_law_k", "_law_script"]) (by kernel_rfl) rfl (by decide +kernel) (by decide) (by kernel_rfl)) (pi_range1 rfl T.n_range (pa_cons (pv 1) pa_nil)) (fun C s0 H0 fp pn' => (pg_name (i := 0) (nd_of (l := ["_law_k", "_law_script"]) (by decide +kernel)) rfl (Or.inl rfl))) own_name (fun C s0 H0 fp pn' => pts_none) (fun C s0 H0 fp pn' => (pe_call G__law_small hr rfl T.m__law_small T.F__law_small.kp T.b__law_small .nil pass0 (pa_cons (pe_call G__law_at hr rfl T.m__law_at T.F__law_at.kp T.b__law_at .nil pass0 (pa_cons (pv 1) (pa_cons (pe_op op_add pe_int (pv 0)) pa_nil))) pa_nil)))))), ?_⟩
  refine ⟨_, rfl, _, rfl, by omega, by omega, fun z hz => cm_range (K := K) (M := M) (n := n) (F := fun i => frT (smR (atV ns (26 + (i : Int))))) hM (by omega) hz (fun i Mi Hi Qy hi gi kk => ?_) (fun M2 H2 ys g2 m2 hy at2 => ?_)⟩
  · rw [Int.zero_add]
    refine ⟨_, rfl, _, rfl, _, _, rfl, rfl, a, ns, _, Mi, rfl, gi.hh.seq hS, h63, gi.mh, fun H3 g3 => ?_⟩
    exact ⟨_, Mi, rfl, g3.mh, fun y M4 H4 g4 t4 => kk y M4 H4 (g3.trans g4) t4⟩
  · refine q _ _ _ (g2.frz hz m2 hy) (Ats.lst (xs := ys) ?_ upd_same)
    refine Ats.mono (same_new m2 _) (ats_range at2 (by rw [List.length_map, pts_len]) fun i t ht => ?_)
    have hi : i < n := by
      rcases Nat.lt_or_ge i n with h | h
      · exact h
      · rw [List.getElem?_eq_none_iff.mpr (by rw [List.length_map, pts_len]; exact h)] at ht
        cases ht
    rw [List.getElem?_map, show (ptsR ns 26 n)[i]? = some (smR (atV ns (26 + (i : Int)))) from map_range_get hi] at ht
    exact Option.some.inj ht
theorem ok__law_sheet_of (T : Txt K mg t) (G__law_at : FnOk P w K mg base CX0 k t.f__law_at t.d__law_at ["_law_script", "_law_k"] (spAt K)) (G__law_small : FnOk P w K mg base CX0 k t.f__law_small t.d__law_small ["_law_cell"] (spSmall K)) :
    FnOk P w K mg base CX0 (k + 1) t.f__law_sheet_of t.d__law_sheet_of ["_law_script", "_law_many", "_law_wide"] (spSheetOf K) := by
  refine T.F__law_sheet_of.ok sc__law_sheet_of (fun vs H Q E h => ?_) (fun cdv A outer s H vs Q E hr h => ?_)
  · obtain ⟨a, ns, mi, ni, m, n, M, rfl, _⟩ := h
    rfl
  obtain ⟨a, ns, mi, ni, m, n, M, rfl, rfl, rfl, hS, h63, hm, hn, hM, q⟩ := h
  have ptsA : ∀ {M2 : Hp} {ys : List V} (c : Int) (n : Nat), Ats K M2 ((List.range n).map fun (i : Nat) => frT (smR (atV ns (c + (i : Int))))) ys → Ats K M2 ((ptsR ns c n).map frT) ys := fun c n at2 => ats_range at2 (by rw [List.length_map, pts_len]) fun i t ht => by
    have hi : i < n := by
      rcases Nat.lt_or_ge i n with h | h
      · exact h
      · rw [List.getElem?_eq_none_iff.mpr (by rw [List.length_map, pts_len]; exact h)] at ht
        cases ht
    rw [List.getElem?_map, show (ptsR ns c n)[i]? = some (smR (atV ns (c + (i : Int)))) from map_range_get hi] at ht
    exact Option.some.inj ht
  refine ⟨_, (pss_cons (ps_compG (iy := 3) sc__law_sheet_of.nd rfl (Or.inl rfl) rfl (compt_of (n := 1) (js := [0]) (Nb := ["_law_k", "_law_script"]) (by kernel_rfl) rfl (by decide +kernel) (by decide) (by kernel_rfl)) (pi_range1 rfl T.n_range (pa_cons (pv 1) pa_nil)) (fun C s0 H0 fp pn' => (pg_name (i := 0) (nd_of (l := ["_law_k", "_law_script"]) (by decide +kernel)) rfl (Or.inl rfl))) own_name (fun C s0 H0 fp pn' => pts_none) (fun C s0 H0 fp pn' => (pe_call G__law_small hr rfl T.m__law_small T.F__law_small.kp T.b__law_small .nil pass0 (pa_cons (pe_call G__law_at hr rfl T.m__law_at T.F__law_at.kp T.b__law_at .nil pass0 (pa_cons (pv 1) (pa_cons (pe_op op_add pe_int (pv 0)) pa_nil))) pa_nil))))
    (pss_cons (ps_set (i := 4) sc__law_sheet_of.nd rfl (Or.inl rfl) (pe_lst pa_nil))
    (pss_cons (ps_for PassesOwn.never rfl (pi_range1 rfl T.n_range (pa_cons (pv 1) pa_nil)) (pg_name (i := 5) sc__law_sheet_of.nd rfl (Or.inr rfl))
      (pss_one (ps_expr (pe_bm PySem.F.plainAttrs_list PySem.F.slot_list_append PySem.F.type_list_append mt_append (pv 4) (pa_cons (pe_compG rfl (compt_of (n := 1) (js := [0, 5]) (Nb := ["_law_j", "_law_script", "_law_k"]) (by kernel_rfl) rfl (by decide +kernel) (by decide) (by kernel_rfl)) (pi_range1 rfl T.n_range (pa_cons (pv 2) pa_nil)) (fun C s0 H0 fp pn' => (pg_name (i := 0) (nd_of (l := ["_law_j", "_law_script", "_law_k"]) (by decide +kernel)) rfl (Or.inl rfl))) own_name (fun C s0 H0 fp pn' => pts_none) (fun C s0 H0 fp pn' => (pe_call G__law_small hr rfl T.m__law_small T.F__law_small.kp T.b__law_small .nil pass0 (pa_cons (pe_call G__law_at hr rfl T.m__law_at T.F__law_at.kp T.b__law_at .nil pass0 (pa_cons (pv 1) (pa_cons (pe_op op_add (pe_op op_add pe_int (pe_op op_mulB pe_int (pv 2))) (pv 0)) pa_nil))) pa_nil)))) pa_nil)))))
    (pss_cons (ps_compG (iy := 6) sc__law_sheet_of.nd rfl (Or.inl rfl) rfl (compt_of (n := 1) (js := [0]) (Nb := ["_law_j", "_law_script"]) (by kernel_rfl) rfl (by decide +kernel) (by decide) (by kernel_rfl)) (pi_range1 rfl T.n_range (pa_cons (pv 2) pa_nil)) (fun C s0 H0 fp pn' => (pg_name (i := 0) (nd_of (l := ["_law_j", "_law_script"]) (by decide +kernel)) rfl (Or.inl rfl))) own_name (fun C s0 H0 fp pn' => pts_none) (fun C s0 H0 fp pn' => (pe_call G__law_small hr rfl T.m__law_small T.F__law_small.kp T.b__law_small .nil pass0 (pa_cons (pe_call G__law_at hr rfl T.m__law_at T.F__law_at.kp T.b__law_at .nil pass0 (pa_cons (pv 1) (pa_cons (pe_op op_add pe_int (pv 0)) pa_nil))) pa_nil))))
    (pss_one (ps_ret (pe_tup (pa_cons (pv 3) (pa_cons (pv 4) (pa_cons (pv 6) pa_nil)))))))))), ?_⟩
  -- bases
  refine ⟨_, rfl, _, rfl, by omega, by omega, fun z hz => cm_range (K := K) (M := M) (n := m) (F := fun i => frT (smR (atV ns (8 + (i : Int))))) hM (by omega) hz (fun i Mi Hi Qy hi gi kk => ?_) (fun M2 H2 ys g2 m2 hy at2 => ?_)⟩
  · rw [Int.zero_add]
    refine ⟨_, rfl, _, rfl, _, _, rfl, rfl, a, ns, _, Mi, rfl, gi.hh.seq hS, h63, gi.mh, fun H3 g3 => ?_⟩
    exact ⟨_, Mi, rfl, g3.mh, fun y M4 H4 g4 t4 => kk y M4 H4 (g3.trans g4) t4⟩
  have g3 : Gr M H (upd M2 z (.lst ys)) H2 := g2.frz hz m2 hy
  have tb : At K (upd M2 z (.lst ys)) (lnT (ptsR ns 8 m)) (.ref z) := ((ptsA 8 m at2).mono (same_new m2 _)).lst upd_same
  generalize upd M2 z (.lst ys) = M3 at g3 tb
  -- rows
  refine ⟨(by show 0 ≤ sizeLine; decide), fun f hf => ?_⟩
  have hf0 : H f = none := g3.hh.free hf
  refine ⟨_, rfl, _, rfl, by omega, by omega, for_range (n := m) (fun i σ H' => (∃ c : Option V, σ = [some (.ref a), some (.int m), some (.int n), some (.ref z), some (.ref f), c, none]) ∧ Cw K M3 H2 f (fun i => lnT ((List.range n).map fun (j : Nat) => smR (atV ns (12 + 3 * (i : Int) + (j : Int))))) i H') ⟨⟨none, rfl⟩, cw_start g3.mh hf⟩ ?_ ?_⟩
  · rintro i σ H' hi ⟨⟨c, rfl⟩, Mi, ys, g, mf, hy, at_⟩
    rw [Int.zero_add]
    have hyl := range_len at_
    refine ⟨_, rfl, .inl ⟨rfl, _, SqL.of hy⟩, _, rfl, _, rfl, by omega, by omega, fun z2 hz2 => cm_range (K := K) (M := Mi) (n := n) (F := fun j => frT (smR (atV ns (12 + 3 * (i : Int) + (j : Int))))) g.mh (by omega) hz2 (fun j Mj Hj Qy hj gj kk => ?_) (fun M5 H5 y5 g5 m5 hy5 at5 => ?_)⟩
    · rw [Int.zero_add]
      refine ⟨_, rfl, _, rfl, _, _, rfl, rfl, .of_left (by decide), _, _, rfl, rfl, _, rfl, _, _, rfl, rfl, a, ns, _, Mj, rfl, gj.hh.seq (g.hh.seq (g3.hh.seq hS)), h63, gj.mh, fun H3 g3 => ?_⟩
      exact ⟨_, Mj, rfl, g3.mh, fun y M4 H4 g4 t4 => kk y M4 H4 (g3.trans g4) t4⟩
    · have g6 : Gr Mi H' (upd M5 z2 (.lst y5)) H5 := g5.frz hz2 m5 hy5
      have hput := cw_put (y := .ref z2) hf g mf hy at_ g6 (by
        refine Ats.lst (xs := y5) ?_ upd_same
        refine Ats.mono (same_new m5 _) (ats_range at5 (by simp) fun j t ht => ?_)
        have hj : j < n := by
          rcases Nat.lt_or_ge j n with h | h
          · exact h
          · rw [List.getElem?_eq_none_iff.mpr (by simpa using h)] at ht
            cases ht
        rw [List.getElem?_map, map_range_get hj] at ht
        exact Option.some.inj ht)
      exact ⟨f, _, _, rfl, rfl, hput.1, small1000 (by omega), ⟨_, rfl⟩, hput.2⟩
  · rintro σ H' ⟨⟨c, rfl⟩, Mi, ys, g, mf, hy, at_⟩
    have g7 : Gr M H (upd Mi f (.lst ys)) H' := (g3.trans g).frz hf0 mf hy
    have tr : At K (upd Mi f (.lst ys)) (lnsT (rowsR ns m n)) (.ref f) := by
      refine Ats.lst (xs := ys) ?_ upd_same
      refine Ats.mono (same_new mf _) (ats_range at_ (by rw [List.length_map, rows_len]) fun i t ht => ?_)
      have hi : i < m := by
        rcases Nat.lt_or_ge i m with h | h
        · exact h
        · rw [List.getElem?_eq_none_iff.mpr (by rw [List.length_map, rows_len]; exact h)] at ht
          cases ht
      rw [List.getElem?_map] at ht
      unfold rowsR at ht
      rw [map_range_get hi] at ht
      exact Option.some.inj ht
    have s7 : Same M3 (upd Mi f (.lst ys)) := g.mm.trans (same_new mf _)
    generalize upd Mi f (.lst ys) = M7 at g7 tr s7
    refine ⟨_, rfl, _, rfl, by omega, by omega, fun z3 hz3 => cm_range (K := K) (M := M7) (n := n) (F := fun i => frT (smR (atV ns (22 + (i : Int))))) g7.mh (by omega) hz3 (fun i Mi Hi Qy hi gi kk => ?_) (fun M8 H8 y8 g8 m8 hy8 at8 => ?_)⟩
    · rw [Int.zero_add]
      refine ⟨_, rfl, _, rfl, _, _, rfl, rfl, a, ns, _, Mi, rfl, gi.hh.seq (g7.hh.seq hS), h63, gi.mh, fun H3 g3 => ?_⟩
      exact ⟨_, Mi, rfl, g3.mh, fun y M4 H4 g4 t4 => kk y M4 H4 (g3.trans g4) t4⟩
    have g9 : Gr M H (upd M8 z3 (.lst y8)) H8 := (g7.trans g8).frz (g7.hh.free hz3) m8 hy8
    have tg : At K (upd M8 z3 (.lst y8)) (lnT (ptsR ns 22 n)) (.ref z3) := ((ptsA 22 n at8).mono (same_new m8 _)).lst upd_same
    have s9 : Same M7 (upd M8 z3 (.lst y8)) := g8.mm.trans (same_new m8 _)
    generalize upd M8 z3 (.lst y8) = M9 at g9 tg s9
    refine ⟨_, rfl, _, rfl, _, rfl, (by show 3 ≤ sizeLine; decide), fun c9 hc9 => ?_⟩
    have g10 := g9.add (o := .tup [.ref z, .ref f, .ref z3]) hc9
    have s10 : Same M9 (upd M9 c9 (.tup [.ref z, .ref f, .ref z3])) := same_new (g9.mh.free hc9) _
    exact q _ _ _ g10 (Ats.tup (xs := [.ref z, .ref f, .ref z3]) (Ats.cons (tb.mono (s7.trans (s9.trans s10))) (Ats.cons (tr.mono (s9.trans s10)) (Ats.cons (tg.mono s10) Ats.nil))) (SqT.of upd_same))
theorem ok__law_goal_of (T : Txt K mg t) (G__law_sum : FnOk P w K mg base CX0 k t.f__law_sum t.d__law_sum ["_law_base", "_law_ones", "_law_others"] (spSum K)) (G__law_points_of : FnOk P w K mg base CX0 k t.f__law_points_of t.d__law_points_of ["_law_script", "_law_wide"] (spPoints K)) :
    FnOk P w K mg base CX0 (k + 1) t.f__law_goal_of t.d__law_goal_of ["_law_script", "_law_gains"] (spGoal K) := by
  refine T.F__law_goal_of.ok sc__law_goal_of (fun vs H Q E h => ?_) (fun cdv A outer s H vs Q E hr h => ?_)
  · obtain ⟨a, ns, v1, gains, M, rfl, _⟩ := h
    rfl
  obtain ⟨a, ns, v1, gains, M, rfl, hS, h63, hv, hlen, hsm, hM, q⟩ := h
  obtain ⟨b, xs, rfl, hb, ats⟩ := id hv.lst_inv
  have hxl : xs.length = gains.length := by have := ats.1; simp at this; omega
  refine ⟨_, (pss_one (ps_ret (pe_call G__law_sum hr rfl T.m__law_sum T.F__law_sum.kp T.b__law_sum .nil pass0 (pa_cons (pe_tup (pa_cons pe_int (pa_cons pe_int pa_nil))) (pa_cons (pv 1) (pa_cons (pe_call G__law_points_of hr rfl T.m__law_points_of T.F__law_points_of.kp T.b__law_points_of .nil pass0 (pa_cons (pv 0) (pa_cons (pe_callB call_len_seq rfl T.n_len PySem.boot_len (pa_cons (pv 1) pa_nil)) pa_nil))) pa_nil)))))), ?_⟩
  refine ⟨two_ok, fun p hp => ?_⟩
  have g1 := (Gr.refl hM).add (o := .tup [.int 0, .int 1]) hp
  have t0 : At K (upd M p (.tup [.int 0, .int 1])) (pT 0 1) (.ref p) := pT_mk (SqT.of upd_same)
  have hv1 := hv.mono (same_new (hM.free hp) (.tup [.int 0, .int 1]))
  generalize upd M p (.tup [.int 0, .int 1]) = M1 at g1 t0 hv1
  generalize upd H p (.tup [.int 0, .int 1]) = H1 at g1 ⊢
  refine ⟨_, rfl, _, rfl, _, rfl, b, _, rfl, .inl (SqL.of (g1.hh _ _ (hM _ _ hb))), ?_⟩
  rw [hxl]
  refine ⟨a, ns, gains.length, M1, rfl, g1.hh.seq hS, h63, by omega, g1.mh, fun pv M2 H2 g2 hpv => ?_⟩
  rw [ln_ps] at hpv hv1
  refine ⟨_, _, _, (0, 1), gains.map fr2, (ptsR ns 26 gains.length).map fr2, 1000, M2, rfl, t0.mono g2.mm, hv1.mono g2.mm, hpv, ⟨by decide, by show 0 < 2 ^ 1000; exact Nat.pow_pos (by decide), by show 1 < 2 ^ 1000; exact Nat.one_lt_two_pow (by decide)⟩, fr2_all hsm, fr2_all (pts_sm _ _ _), by simp [pts_len], by simpa using hlen, by decide, g2.mh, fun r v' M' H' pr e g at_ => ?_⟩
  refine q r v' M' H' (pr_mono pr ?_) ?_ (g1.trans (g2.trans g)) at_
  · rw [List.length_map]
    have : gains.length * (2 * 1000 + 1) ≤ 10 * (2 * 1000 + 1) := Nat.mul_le_mul hlen (Nat.le_refl _)
    omega
  · rw [e, sum_fr (by simp [pts_len])]
    have e0 : pq (0, 1) = 0 := by decide
    rw [e0, List.map_map, show (ptsR ns 26 gains.length).map (pq ∘ fr2) = ptsR ns 26 gains.length by
      conv => rhs; rw [← List.map_id (ptsR ns 26 gains.length)]
      exact List.map_congr_left fun x _ => fr2_pq x]
    grind
theorem ok__law_is_sheet (T : Txt K mg t) : FnOk P w K mg base CX0 (k + 1) t.f__law_is_sheet t.d__law_is_sheet ["_law_found"] (spIsSheet K) := by
  refine T.F__law_is_sheet.ok sc__law_is_sheet (fun vs H Q E h => ?_) (fun cdv A outer s H vs Q E hr h => ?_)
  · obtain ⟨v, z, M, rfl, _⟩ := h
    rfl
  obtain ⟨v, z, M, rfl, hv, hM, q⟩ := h
  obtain ⟨b, xs, rfl, hb, ats⟩ := hv.tup_inv
  have hbH := hM.tup hb
  have hl : xs.length = 6 := ats.1.symm
  obtain ⟨x0, x1, x2, x3, x4, x5, rfl⟩ : ∃ x0 x1 x2 x3 x4 x5, xs = [x0, x1, x2, x3, x4, x5] := by
    match xs, hl with
    | [x0, x1, x2, x3, x4, x5], _ => exact ⟨_, _, _, _, _, _, rfl⟩
  obtain ⟨b0, _, rfl, hb0, _⟩ := (ats.2 0 _ _ rfl rfl).lst_inv
  obtain ⟨b1, _, rfl, hb1, _⟩ := (ats.2 1 _ _ rfl rfl).lst_inv
  obtain ⟨b2, _, rfl, hb2, _⟩ := (ats.2 2 _ _ rfl rfl).lst_inv
  obtain ⟨b3, _, rfl, hb3, _⟩ := (ats.2 3 _ _ rfl rfl).lst_inv
  obtain ⟨b5, _, rfl, hb5, _⟩ := (ats.2 5 _ _ rfl rfl).lst_inv
  refine ⟨_, (pss_cons (ps_if (PW.pt (pw_or (pt_not (pt_val (pe_callB call_isV rfl T.n_isinstance PyProof.Rows.boot_isinstance (pa_cons (pv 0) (pa_cons (pe_bltn (v := .ty "tuple") rfl T.n_tuple bt_tuple rfl) pa_nil))))) (pw_or1 (pt_cmpR op_ne (pe_callB call_len_seq rfl T.n_len PySem.boot_len (pa_cons (pv 0) pa_nil)) pe_int (nomark _)))))
      (pss_one (ps_ret pe_bl))
      pss_nil)
    (pss_cons (ps_for PassesOwn.never rfl (pi_tup (pe_op op_catT (pe_slice sl_tup (pv 0) po_none (po_some pe_int)) (pe_slice sl_tup (pv 0) (po_some pe_int) po_none))) (pg_name (i := 1) sc__law_is_sheet.nd rfl (Or.inl rfl))
      (pss_one (ps_if (pt_not (pt_val (pe_callB call_isV rfl T.n_isinstance PyProof.Rows.boot_isinstance (pa_cons (pv 1) (pa_cons (pe_bltn (v := .ty "list") rfl T.n_list bt_list rfl) pa_nil)))))
      (pss_one (ps_ret pe_bl))
      pss_nil)))
    (pss_one (ps_ret pe_bl)))), ?_⟩
  refine ⟨_, rfl, _, _, _, _, rfl, .tup hbH, kit_same, _, rfl, iteF ?_⟩
  refine ⟨_, rfl, b, _, rfl, .inr hbH, rfl, _, rfl, iteF ?_⟩
  -- found[:4] + found[5:]
  refine ⟨_, rfl, _, rfl, b, _, rfl, hbH, (by show ¬ (HT.sIx 6 0 none = 0 ∧ HT.sIx 6 6 (some 4) = 6); decide), fun p1 h1 => ?_⟩
  have e1 : cutV [V.ref b0, .ref b1, .ref b2, .ref b3, x4, .ref b5] none (some 4) = [V.ref b0, .ref b1, .ref b2, .ref b3] := rfl
  rw [e1]
  have g1 : Gr M H M (upd H p1 (.tup [V.ref b0, .ref b1, .ref b2, .ref b3])) := (Gr.refl hM).new h1
  have k1 : SqT K (upd H p1 (.tup [V.ref b0, .ref b1, .ref b2, .ref b3])) p1 [V.ref b0, .ref b1, .ref b2, .ref b3] := SqT.of upd_same
  generalize upd H p1 (.tup [V.ref b0, .ref b1, .ref b2, .ref b3]) = H1 at g1 k1 ⊢
  refine ⟨_, rfl, _, rfl, b, _, rfl, g1.hh.tup hbH, (by show ¬ (HT.sIx 6 0 (some 5) = 0 ∧ HT.sIx 6 6 none = 6); decide), fun p2 h2 => ?_⟩
  have e2 : cutV [V.ref b0, .ref b1, .ref b2, .ref b3, x4, .ref b5] (some 5) none = [V.ref b5] := rfl
  rw [e2]
  have g2 : Gr M H M (upd H1 p2 (.tup [V.ref b5])) := g1.new h2
  have k2 : SqT K (upd H1 p2 (.tup [V.ref b5])) p2 [V.ref b5] := SqT.of upd_same
  have k1' := (same_new h2 (.tup [V.ref b5])).tup k1
  generalize upd H1 p2 (.tup [V.ref b5]) = H2 at g2 k2 k1' ⊢
  refine ⟨p1, p2, _, _, rfl, rfl, k1', k2, by simp, (by show 5 ≤ sizeLine; decide), fun z => by simp at z, fun _ p3 h3 => ?_⟩
  have g3 : Gr M H M (upd H2 p3 (.tup ([V.ref b0, .ref b1, .ref b2, .ref b3] ++ [V.ref b5]))) := g2.new h3
  have k3 : SqT K (upd H2 p3 (.tup ([V.ref b0, .ref b1, .ref b2, .ref b3] ++ [V.ref b5]))) p3 [V.ref b0, .ref b1, .ref b2, .ref b3, .ref b5] := SqT.of upd_same
  generalize upd H2 p3 (.tup ([V.ref b0, .ref b1, .ref b2, .ref b3] ++ [V.ref b5])) = H3 at g3 k3 ⊢
  refine ⟨p3, rfl, ⟨_, k3⟩, for_tup (K := K) (xs := [V.ref b0, .ref b1, .ref b2, .ref b3, .ref b5]) (fun i σ H' => H' = H3 ∧ ∃ c : Option V, σ = [some (.ref b), c]) ⟨rfl, none, rfl⟩ (fun i σ H' _ h => by obtain ⟨rfl, _⟩ := h; exact k3) ?_ ?_⟩
  · rintro i x σ H' hx ⟨rfl, c, rfl⟩
    have hm := List.mem_of_getElem? hx
    have hty : ∃ a xs, x = .ref a ∧ M a = some (.lst xs) := by
      simp only [List.mem_cons, List.not_mem_nil, or_false] at hm
      rcases hm with rfl | rfl | rfl | rfl | rfl
      · exact ⟨_, _, rfl, hb0⟩
      · exact ⟨_, _, rfl, hb1⟩
      · exact ⟨_, _, rfl, hb2⟩
      · exact ⟨_, _, rfl, hb3⟩
      · exact ⟨_, _, rfl, hb5⟩
    obtain ⟨a, xs, rfl, hm'⟩ := hty
    exact ⟨_, rfl, _, _, _, _, rfl, .lst (g3.mh _ _ hm'), kit_same, _, rfl, iteF ⟨rfl, _, rfl⟩⟩
  · rintro σ H' ⟨rfl, c, rfl⟩
    exact q _ g3
theorem ok__law_values_of (T : Txt K mg t) (G__law_sum : FnOk P w K mg base CX0 k t.f__law_sum t.d__law_sum ["_law_base", "_law_ones", "_law_others"] (spSum K)) (G__law_points_of : FnOk P w K mg base CX0 k t.f__law_points_of t.d__law_points_of ["_law_script", "_law_wide"] (spPoints K)) :
    FnOk P w K mg base CX0 (k + 1) t.f__law_values_of t.d__law_values_of ["_law_script", "_law_inner", "_law_outer", "_law_bases", "_law_rows"] (spValues K) := by
  refine T.F__law_values_of.ok sc__law_values_of (fun vs H Q E h => ?_) (fun cdv A outer s H vs Q E hr h => ?_)
  · obtain ⟨a, ns, v1, v2, v3, v4, inn, out, bases, rows, M, rfl, _⟩ := h
    rfl
  obtain ⟨a, ns, v1, v2, v3, v4, inn, out, bases, rows, M, rfl, hS, h63, h1, h2, h3, h4, un, li, lo, lb, lr, sb, sr, hM, q⟩ := h
  have hu := hu_of hr
  obtain ⟨b1, x1, rfl, hb1, a1⟩ := h1.lst_inv
  obtain ⟨b2, x2, rfl, hb2, a2⟩ := h2.lst_inv
  obtain ⟨b3, x3, rfl, hb3, a3⟩ := h3.lst_inv
  obtain ⟨b4, x4, rfl, hb4, a4⟩ := h4.lst_inv
  have e1 := Ats.ints_inv a1
  have e2 := Ats.ints_inv a2
  subst e1 e2
  refine ⟨_, (pss_cons (ps_set (i := 5) sc__law_values_of.nd rfl (Or.inl rfl) (pe_call G__law_points_of hr rfl T.m__law_points_of T.F__law_points_of.kp T.b__law_points_of .nil pass0 (pa_cons (pv 0) (pa_cons (pe_callB call_len_seq rfl T.n_len PySem.boot_len (pa_cons (pv 2) pa_nil)) pa_nil))))
    (pss_cons (ps_set (i := 6) sc__law_values_of.nd rfl (Or.inl rfl) pe_dnewK)
    (pss_cons (ps_for PassesOwn.never rfl (pi_range1 rfl T.n_range (pa_cons (pe_callB call_len_seq rfl T.n_len PySem.boot_len (pa_cons (pv 2) pa_nil)) pa_nil)) (pg_name (i := 7) sc__law_values_of.nd rfl (Or.inl rfl))
      (pss_one (ps_dput hu (pv 6) (pe_ix ix_list (pv 2) (pv 7) (fun _ _ => rfl)) (pe_ix ix_list (pv 5) (pv 7) (fun _ _ => rfl)) rfl)))
    (pss_cons (ps_for PassesOwn.never rfl (pi_range1 rfl T.n_range (pa_cons (pe_callB call_len_seq rfl T.n_len PySem.boot_len (pa_cons (pv 1) pa_nil)) pa_nil)) (pg_name (i := 7) sc__law_values_of.nd rfl (Or.inl rfl))
      (pss_one (ps_dput hu (pv 6) (pe_ix ix_list (pv 1) (pv 7) (fun _ _ => rfl)) (pe_call G__law_sum hr rfl T.m__law_sum T.F__law_sum.kp T.b__law_sum .nil pass0 (pa_cons (pe_ix ix_list (pv 3) (pv 7) (fun _ _ => rfl)) (pa_cons (pe_ix ix_list (pv 4) (pv 7) (fun _ _ => rfl)) (pa_cons (pv 5) pa_nil)))) rfl)))
    (pss_one (ps_ret (pv 6))))))), ?_⟩
  refine ⟨_, rfl, _, rfl, b2, _, rfl, .inl (SqL.of (hM _ _ hb2)), ?_⟩
  rw [List.length_map]
  refine ⟨a, ns, out.length, M, rfl, hS, h63, by omega, hM, fun pv Mp H1 g1 hpv => ?_⟩
  obtain ⟨bp, xp, rfl, hbp, ap⟩ := id hpv.lst_inv
  have lp : xp.length = out.length := by have := ap.1; rw [List.length_map, pts_len] at this; omega
  intro d hd
  have hd0 : H d = none := g1.hh.free hd
  have md : Mp d = none := g1.mh.free hd
  have g2 : Gr M H Mp (upd H1 d (.dK [])) := g1.new hd
  have hbpH : ∀ {H' : Hp}, Gr M H Mp H' → H' bp = some (.lst xp) := fun g => g.mh _ _ hbp
  refine ⟨_, rfl, b2, _, rfl, .inl (SqL.of (g2.hh _ _ (hM _ _ hb2))), _, rfl, by rw [List.length_map]; omega, by rw [List.length_map]; omega, for_range (n := (out.map V.int).length) (fun i σ H' => ∃ (c : Option V) (kvs : List (Key × V)), σ = [some (.ref a), some (.ref b1), some (.ref b2), some (.ref b3), some (.ref b4), some (.ref bp), some (.ref d), c] ∧ Gr M H Mp H' ∧ H' d = some (.dK kvs) ∧ kvs.length ≤ i ∧ ∀ j, j < i → ∃ u x, out[j]? = some u ∧ xp[j]? = some x ∧ valV kvs (Sum.inl u : Key) = some x)
    ⟨none, [], rfl, g2, upd_same, Nat.le_refl _, fun j hj => absurd hj (Nat.not_lt_zero _)⟩ ?_ ?_⟩
  · rintro i σ H' hi ⟨c, kvs, rfl, g, hk, hl, hall⟩
    rw [Int.zero_add]
    rw [List.length_map] at hi
    have hxi := List.getElem?_eq_getElem (show i < xp.length by omega)
    have hoi := List.getElem?_eq_getElem hi
    refine ⟨_, rfl, _, rfl, bp, _, _, _, rfl, rfl, SqL.of (hbpH g), atI_nat hxi, _, rfl, _, rfl, _, rfl, b2, _, _, _, rfl, rfl, SqL.of (g.hh _ _ (hM _ _ hb2)), atI_nat (show (out.map V.int)[i]? = some (.int out[i]) by rw [List.getElem?_map, hoi]; rfl), d, _, rfl, DPut.k (k := Sum.inl out[i]) hk (small1000 (by omega)), ?_⟩
    refine ⟨_, _, rfl, g.put hd0 md, upd_same, by have := putK_len kvs (Sum.inl out[i] : Key) xp[i]; omega, fun j hj => ?_⟩
    rcases Nat.lt_or_ge j i with h | h
    · obtain ⟨u, x, hu', hx', hv⟩ := hall j h
      refine ⟨u, x, hu', hx', ?_⟩
      rw [valV_put, if_neg]
      · exact hv
      · intro z
        have z' : u = out[i] := Sum.inl.inj z
        subst z'
        have := un.r _ _ _ hu' hoi
        omega
    · have : j = i := by omega
      subst this
      exact ⟨_, _, hoi, hxi, by rw [valV_put, if_pos rfl]⟩
  rintro σ H' ⟨c, kvs, rfl, g, hk, hl, hall⟩
  rw [List.length_map] at hl hall
  have pps : At K Mp (psT ((ptsR ns 26 out.length).map fr2)) (.ref bp) := by rw [← ln_ps]; exact hpv
  refine ⟨_, rfl, b1, _, rfl, .inl (SqL.of (g.hh _ _ (hM _ _ hb1))), _, rfl, by rw [List.length_map]; omega, by rw [List.length_map]; omega, for_range (n := (inn.map V.int).length) (fun i σ H' => ∃ (c : Option V) (kvs : List (Key × V)) (Mi : Hp), σ = [some (.ref a), some (.ref b1), some (.ref b2), some (.ref b3), some (.ref b4), some (.ref bp), some (.ref d), c] ∧ Gr M H Mi H' ∧ Same Mp Mi ∧ Mi d = none ∧ H' d = some (.dK kvs) ∧ kvs.length ≤ out.length + i ∧ (∀ j, j < out.length → ∃ u x, out[j]? = some u ∧ xp[j]? = some x ∧ valV kvs (Sum.inl u : Key) = some x) ∧
      (∀ j, j < i → ∃ u x r, inn[j]? = some u ∧ valV kvs (Sum.inl u : Key) = some x ∧ At K Mi (pT r.1 r.2) x ∧ Pr 30000 r ∧ pq r = bases.getD j 0 + SH.dot (rows.getD j []) (ptsR ns 26 out.length)))
    ⟨c, kvs, Mp, rfl, g, Same.refl _, md, hk, by omega, hall, fun j hj => absurd hj (Nat.not_lt_zero _)⟩ ?_ ?_⟩
  · rintro i σ H' hi ⟨c, kvs, Mi, rfl, g, sm, md, hk, hl, hall, hin⟩
    rw [Int.zero_add]
    rw [List.length_map] at hi
    have hii := List.getElem?_eq_getElem hi
    have hbi := List.getElem?_eq_getElem (show i < bases.length by omega)
    have hri := List.getElem?_eq_getElem (show i < rows.length by omega)
    obtain ⟨vb, hvb, atb⟩ := ln_get a3 hbi
    obtain ⟨vr, hvr, atr⟩ := lns_get a4 hri
    obtain ⟨hrl, hrs⟩ := sr _ (List.getElem_mem (show i < rows.length by omega))
    refine ⟨_, rfl, _, rfl, b3, _, _, _, rfl, rfl, SqL.of (g.hh _ _ (hM _ _ hb3)), atI_nat hvb, _, rfl, _, rfl, b4, _, _, _, rfl, rfl, SqL.of (g.hh _ _ (hM _ _ hb4)), atI_nat hvr, _, rfl, ?_⟩
    refine ⟨_, _, _, fr2 bases[i], rows[i].map fr2, (ptsR ns 26 out.length).map fr2, 1000, Mi, rfl, atb.mono g.mm, by rw [← ln_ps]; exact atr.mono g.mm, pps.mono sm, fr2_pr (sb _ (List.getElem_mem _)), fr2_all hrs, fr2_all (pts_sm _ _ _), by simp [pts_len, hrl], by simp [hrl]; omega, by decide, g.mh, fun r v' M4 H4 pr e g4 at_ => ?_⟩
    have hk4 := g4.hh _ _ hk
    have m4 : M4 d = none := g4.fr _ _ hk md
    refine ⟨_, rfl, _, rfl, _, rfl, b1, _, _, _, rfl, rfl, SqL.of (g4.hh _ _ (g.hh _ _ (hM _ _ hb1))), atI_nat (show (inn.map V.int)[i]? = some (.int inn[i]) by rw [List.getElem?_map, hii]; rfl), d, _, rfl, DPut.k (k := Sum.inl inn[i]) hk4 (small1000 (by omega)), ?_⟩
    refine ⟨_, _, M4, rfl, (g.trans g4).put hd0 m4, sm.trans g4.mm, m4, upd_same, by have := putK_len kvs (Sum.inl inn[i] : Key) v'; omega, fun j hj => ?_, fun j hj => ?_⟩
    · obtain ⟨u, x, hu', hx', hv⟩ := hall j hj
      refine ⟨u, x, hu', hx', ?_⟩
      rw [valV_put, if_neg]
      · exact hv
      · intro z
        have z' : u = inn[i] := Sum.inl.inj z
        subst z'
        exact un.x _ _ _ hii hu'
    · rcases Nat.lt_or_ge j i with h | h
      · obtain ⟨u, x, r', hu', hv, ha, hp, he⟩ := hin j h
        refine ⟨u, x, r', hu', ?_, ha.mono g4.mm, hp, he⟩
        rw [valV_put, if_neg]
        · exact hv
        · intro z
          have z' : u = inn[i] := Sum.inl.inj z
          subst z'
          have := un.l _ _ _ hu' hii
          omega
      · have : j = i := by omega
        subst this
        refine ⟨_, v', r, hii, by rw [valV_put, if_pos rfl], at_, pr_mono pr ?_, ?_⟩
        · rw [List.length_map, hrl]
          have : out.length * (2 * 1000 + 1) ≤ 10 * (2 * 1000 + 1) := Nat.mul_le_mul lo (Nat.le_refl _)
          omega
        · rw [e, sum_fr (by simp [pts_len, hrl]), fr2_pq, SH.getD_of hbi, SH.gD hri, List.map_map, show (ptsR ns 26 out.length).map (pq ∘ fr2) = ptsR ns 26 out.length by
            conv => rhs; rw [← List.map_id (ptsR ns 26 out.length)]
            exact List.map_congr_left fun x _ => fr2_pq x]
  rintro σ H' ⟨c, kvs, Mi, rfl, g, sm, md, hk, hl, hall, hin⟩
  rw [List.length_map] at hin
  refine ⟨_, rfl, ?_⟩
  have gf : Gr M H (upd Mi d (.dK kvs)) H' := g.frz hd0 md hk
  have sf : Same Mi (upd Mi d (.dK kvs)) := same_new md _
  have ex : ∀ u ∈ inn ++ out, ∃ p : Int × Int, (∃ x, valV kvs (Sum.inl u : Key) = some x ∧ At K (upd Mi d (.dK kvs)) (pT p.1 p.2) x) ∧ Pr 30000 p ∧ (∀ (j : Nat), out[j]? = some u → pq p = (ptsR ns 26 out.length).getD j 0) ∧ (∀ (i : Nat), inn[i]? = some u → pq p = bases.getD i 0 + SH.dot (rows.getD i []) (ptsR ns 26 out.length)) := by
    intro u hu'
    rcases List.mem_append.mp hu' with z | z
    · obtain ⟨i, hi⟩ := List.mem_iff_getElem?.mp z
      obtain ⟨u', x, r, h1, h2, h3, h4, h5⟩ := hin i (List.getElem?_eq_some_iff.mp hi).1
      rw [hi] at h1
      cases h1
      refine ⟨r, ⟨x, h2, h3.mono sf⟩, h4, fun j hj => (un.x _ _ _ hi hj).elim, fun i' hi' => ?_⟩
      rw [un.l _ _ _ hi' hi]
      exact h5
    · obtain ⟨j, hj⟩ := List.mem_iff_getElem?.mp z
      have hjl := (List.getElem?_eq_some_iff.mp hj).1
      obtain ⟨u', x, h1, h2, h3⟩ := hall j hjl
      rw [hj] at h1
      cases h1
      have hpj := List.getElem?_eq_getElem (show j < (ptsR ns 26 out.length).length by rw [pts_len]; exact hjl)
      obtain ⟨y, hy, aty⟩ := ln_get ap hpj
      rw [h2] at hy
      cases hy
      refine ⟨fr2 _, ⟨x, h3, aty.mono (sm.trans sf)⟩, pr_mono (fr2_pr (pts_sm _ _ _ _ (List.mem_of_getElem? hpj))) (by decide), fun j' hj' => ?_, fun i hi => (un.x _ _ _ hi hj).elim⟩
      rw [un.r _ _ _ hj' hj, fr2_pq, SH.getD_of hpj]
  refine q d (fun u => if h : u ∈ inn ++ out then Classical.choose (ex u h) else (0, 1)) _ _ gf ⟨⟨kvs, upd_same, fun u hu' => ?_⟩, fun u hu' => ?_⟩ (fun j u hj => ?_) (fun i u hi => ?_)
  · rw [dif_pos hu']; exact (Classical.choose_spec (ex u hu')).1
  · rw [dif_pos hu']; exact (Classical.choose_spec (ex u hu')).2.1
  · have hu' : u ∈ inn ++ out := List.mem_append_right _ (List.mem_of_getElem? hj)
    show pq (if h : u ∈ inn ++ out then Classical.choose (ex u h) else (0, 1)) = _
    rw [dif_pos hu']; exact (Classical.choose_spec (ex u hu')).2.2.1 j hj
  · have hu' : u ∈ inn ++ out := List.mem_append_left _ (List.mem_of_getElem? hi)
    show pq (if h : u ∈ inn ++ out then Classical.choose (ex u h) else (0, 1)) = _
    rw [dif_pos hu']; exact (Classical.choose_spec (ex u hu')).2.2.2 i hi
theorem ok__law_fits (T : Txt K mg t) (G__law_are_fractions : FnOk P w K mg base CX0 k t.f__law_are_fractions t.d__law_are_fractions ["_law_found", "_law_count"] (spAreFr K)) (G__law_is_fraction : FnOk P w K mg base CX0 k t.f__law_is_fraction t.d__law_is_fraction ["_law_found"] (spIsFr K))
    (G__law_sum : FnOk P w K mg base CX0 k t.f__law_sum t.d__law_sum ["_law_base", "_law_ones", "_law_others"] (spSum K)) (G__law_equal : FnOk P w K mg base CX0 k t.f__law_equal t.d__law_equal ["_law_one", "_law_two"] (spEqual K)) :
    FnOk P w K mg base CX0 (k + 1) t.f__law_fits t.d__law_fits ["_law_found", "_law_values", "_law_goal"] (spFits K) := by
  refine T.F__law_fits.ok sc__law_fits (fun vs H Q E h => ?_) (fun cdv A outer s H vs Q E hr h => ?_)
  · obtain ⟨v, vg, d, z, val, r, M, rfl, _⟩ := h
    rfl
  obtain ⟨v, vg, d, z, val, r, M, rfl, hv, dc, hg, pr, ok, sz, li, lo, fit, hM, q⟩ := h
  have hu := hu_of hr
  obtain ⟨b, xs, rfl, hb, ats⟩ := hv.tup_inv
  have hbH := hM.tup hb
  obtain ⟨x0, x1, x2, x3, x4, x5, rfl⟩ : ∃ x0 x1 x2 x3 x4 x5, xs = [x0, x1, x2, x3, x4, x5] := by
    match xs, ats.1 with
    | [x0, x1, x2, x3, x4, x5], _ => exact ⟨_, _, _, _, _, _, rfl⟩
  have t0 := ats.2 0 _ _ rfl rfl
  have t1 := ats.2 1 _ _ rfl rfl
  have t2 := ats.2 2 _ _ rfl rfl
  have t3 := ats.2 3 _ _ rfl rfl
  have t4 := ats.2 4 _ _ rfl rfl
  have t5 := ats.2 5 _ _ rfl rfl
  obtain ⟨b0, y0, rfl, hb0, a0⟩ := t0.lst_inv
  obtain ⟨b1, y1, rfl, hb1, a1⟩ := t1.lst_inv
  obtain ⟨b2, y2, rfl, hb2, a2⟩ := t2.lst_inv
  obtain ⟨b3, y3, rfl, hb3, a3⟩ := t3.lst_inv
  have e0 := Ats.ints_inv a0
  have e1 := Ats.ints_inv a1
  subst e0 e1
  obtain ⟨⟨kvs, hd, hval⟩, hpr⟩ := dc
  have l3 : y3.length = z.inn.length := by have := a3.1; simp at this; rw [← this, ok.ln]
  refine ⟨_, (pss_cons (ps_asg (pv 0) (pg_tup (n := 6) rfl (pgs_cons (pg_name (i := 5) sc__law_fits.nd rfl (Or.inl rfl)) (pgs_cons (pg_name (i := 6) sc__law_fits.nd rfl (Or.inl rfl)) (pgs_cons (pg_name (i := 7) sc__law_fits.nd rfl (Or.inl rfl)) (pgs_cons (pg_name (i := 8) sc__law_fits.nd rfl (Or.inl rfl)) (pgs_cons (pg_name (i := 9) sc__law_fits.nd rfl (Or.inl rfl)) (pgs_cons (pg_name (i := 10) sc__law_fits.nd rfl (Or.inl rfl)) pgs_nil))))))))
    (pss_cons (ps_if (PW.pt (pw_or (pt_not (pt_val (pe_call G__law_are_fractions hr rfl T.m__law_are_fractions T.F__law_are_fractions.kp T.b__law_are_fractions .nil pass0 (pa_cons (pv 7) (pa_cons (pe_callB call_len_seq rfl T.n_len PySem.boot_len (pa_cons (pv 5) pa_nil)) pa_nil))))) (pw_or1 (pt_not (pt_val (pe_call G__law_are_fractions hr rfl T.m__law_are_fractions T.F__law_are_fractions.kp T.b__law_are_fractions .nil pass0 (pa_cons (pv 10) (pa_cons (pe_callB call_len_seq rfl T.n_len PySem.boot_len (pa_cons (pv 6) pa_nil)) pa_nil))))))))
      (pss_one (ps_ret pe_bl))
      pss_nil)
    (pss_cons (ps_if (PW.pt (pw_or (pt_not (pt_val (pe_call G__law_is_fraction hr rfl T.m__law_is_fraction T.F__law_is_fraction.kp T.b__law_is_fraction .nil pass0 (pa_cons (pv 9) pa_nil)))) (pw_or (pt_not (pt_val (pe_callB call_isV rfl T.n_isinstance PyProof.Rows.boot_isinstance (pa_cons (pv 8) (pa_cons (pe_bltn (v := .ty "list") rfl T.n_list bt_list rfl) pa_nil))))) (pw_or1 (pt_cmpR op_ne (pe_callB call_len_seq rfl T.n_len PySem.boot_len (pa_cons (pv 8) pa_nil)) (pe_callB call_len_seq rfl T.n_len PySem.boot_len (pa_cons (pv 5) pa_nil)) (nomark _))))))
      (pss_one (ps_ret pe_bl))
      pss_nil)
    (pss_cons (ps_compG (iy := 3) sc__law_fits.nd rfl (Or.inl rfl) rfl (compt_of (n := 1) (js := [1]) (Nb := ["_law_unknown", "_law_values"]) (by kernel_rfl) rfl (by decide +kernel) (by decide) (by kernel_rfl)) (pi_list (pv 6)) (fun C s0 H0 fp pn' => (pg_name (i := 0) (nd_of (l := ["_law_unknown", "_law_values"]) (by decide +kernel)) rfl (Or.inl rfl))) own_name (fun C s0 H0 fp pn' => pts_none) (fun C s0 H0 fp pn' => (pe_dget hu (pv 1) (pv 0) (fun _ _ => rfl))))
    (pss_cons (ps_for PassesOwn.never rfl (pi_range1 rfl T.n_range (pa_cons (pe_callB call_len_seq rfl T.n_len PySem.boot_len (pa_cons (pv 5) pa_nil)) pa_nil)) (pg_name (i := 4) sc__law_fits.nd rfl (Or.inl rfl))
      (pss_cons (ps_if (pt_not (pt_val (pe_call G__law_are_fractions hr rfl T.m__law_are_fractions T.F__law_are_fractions.kp T.b__law_are_fractions .nil pass0 (pa_cons (pe_ix ix_list (pv 8) (pv 4) (fun _ _ => rfl)) (pa_cons (pe_callB call_len_seq rfl T.n_len PySem.boot_len (pa_cons (pv 6) pa_nil)) pa_nil)))))
      (pss_one (ps_ret pe_bl))
      pss_nil)
    (pss_cons (ps_set (i := 11) sc__law_fits.nd rfl (Or.inl rfl) (pe_call G__law_sum hr rfl T.m__law_sum T.F__law_sum.kp T.b__law_sum .nil pass0 (pa_cons (pe_ix ix_list (pv 7) (pv 4) (fun _ _ => rfl)) (pa_cons (pe_ix ix_list (pv 8) (pv 4) (fun _ _ => rfl)) (pa_cons (pv 3) pa_nil)))))
    (pss_one (ps_if (pt_not (pt_val (pe_call G__law_equal hr rfl T.m__law_equal T.F__law_equal.kp T.b__law_equal .nil pass0 (pa_cons (pv 11) (pa_cons (pe_dget hu (pv 1) (pe_ix ix_list (pv 5) (pv 4) (fun _ _ => rfl)) (fun _ _ => rfl)) pa_nil)))))
      (pss_one (ps_ret pe_bl))
      pss_nil)))))
    (pss_one (ps_ret (pe_call G__law_equal hr rfl T.m__law_equal T.F__law_equal.kp T.b__law_equal .nil pass0 (pa_cons (pe_call G__law_sum hr rfl T.m__law_sum T.F__law_sum.kp T.b__law_sum .nil pass0 (pa_cons (pv 9) (pa_cons (pv 10) (pa_cons (pv 3) pa_nil)))) (pa_cons (pv 2) pa_nil)))))))))), ?_⟩
  refine ⟨_, rfl, b, _, rfl, hbH, rfl, _, _, rfl, _, _, rfl, _, _, rfl, _, _, rfl, _, _, rfl, _, _, rfl, rfl, ?_⟩
  -- are they fractions
  have c1 : ((z.inn.map V.int).length : Int) = (((z.ln.map fun l => l.getD z.out.length 0).length : Nat) : Int) := by simp [ok.ln]
  have c2 : ((z.out.map V.int).length : Int) = (((z.gl.take z.out.length).length : Nat) : Int) := by simp [ok.gl]
  refine ⟨_, rfl, _, rfl, b0, _, rfl, .inl (SqL.of (hM _ _ hb0)), ?_⟩
  rw [c1]
  refine ⟨_, _, M, rfl, t2, by simp [ok.ln]; omega, hM, _, rfl, iteF ?_⟩
  refine ⟨_, rfl, _, rfl, b1, _, rfl, .inl (SqL.of (hM _ _ hb1)), ?_⟩
  rw [c2]
  refine ⟨_, _, M, rfl, t5, by simp [ok.gl]; omega, hM, _, rfl, iteF ?_⟩
  refine ⟨_, rfl, _, _, M, rfl, t4, hM, _, rfl, iteF ?_⟩
  refine ⟨_, rfl, _, _, _, _, rfl, .lst (hM _ _ hb3), kit_same, _, rfl, iteF ?_⟩
  refine ⟨_, rfl, b3, _, rfl, .inl (SqL.of (hM _ _ hb3)), _, rfl, b0, _, rfl, .inl (SqL.of (hM _ _ hb0)), rfl, _, rfl, ?_⟩
  rw [l3, List.length_map, decide_eq_true rfl]
  refine iteF ?_
  -- others
  refine ⟨_, rfl, b1, rfl, ⟨_, SqL.of (hM _ _ hb1)⟩, fun y hy => cm_list (K := K) (M := M) (F := fun i => pT (val (z.out.getD i 0)).1 (val (z.out.getD i 0)).2) hM hb1 (by simp; omega) hy (fun i x Mi Hi Qy hx gi kk => ?_) (fun M2 H2 ys g2 m2 hys at2 => ?_)⟩
  · rw [List.getElem?_map] at hx
    cases e : z.out[i]? with
    | none => rw [e] at hx; cases hx
    | some u =>
      rw [e] at hx
      cases hx
      obtain ⟨xv, hxv, atx⟩ := hval u (List.mem_append_right _ (List.mem_of_getElem? e))
      refine ⟨_, rfl, _, rfl, d, xv, rfl, ?_, kk _ _ _ (Gr.refl gi.mh) ?_⟩
      · rw [← hxv]
        exact DGet.k (k := Sum.inl u) (gi.mh _ _ (gi.mm _ _ hd))
      · rw [SH.gD e]
        exact atx.mono gi.mm
  have ato : At K (upd M2 y (.lst ys)) (psT (z.out.map val)) (.ref y) := by
    refine Ats.lst (xs := ys) ?_ upd_same
    refine Ats.mono (same_new m2 _) (ats_range at2 (by simp) fun i t ht => ?_)
    rw [List.getElem?_map, List.getElem?_map] at ht
    cases e : z.out[i]? with
    | none => rw [e] at ht; cases ht
    | some u => rw [e] at ht; cases ht; rw [SH.gD e]
  have g3 : Gr M H (upd M2 y (.lst ys)) H2 := g2.frz hy m2 hys
  generalize upd M2 y (.lst ys) = M3 at g3 ato
  have prs : ∀ x ∈ z.out.map val, Pr 30000 x := by
    intro x hx
    obtain ⟨u, hu', rfl⟩ := List.mem_map.mp hx
    exact hpr u (List.mem_append_right _ hu')
  -- what a line tells
  have tell : ∀ (l : List Rat), l.length = z.out.length + 1 → SH.dot l (z.vec (fun u => pq (val u)) 1) = l.getD z.out.length 0 + SH.dot (l.take z.out.length) ((z.out.map val).map pq) := by
    intro l hl
    rw [SH.vec_split z _ 1 hl, List.map_map]
    show SH.dot _ (z.out.map fun u => pq (val u)) + l.getD z.out.length 0 * 1 = l.getD z.out.length 0 + SH.dot _ (z.out.map fun u => pq (val u))
    grind
  have small : ∀ n, n ≤ 10 → 30000 + n * (2 * 30000 + 1) ≤ 10000000 := by
    intro n hn
    have : n * (2 * 30000 + 1) ≤ 10 * (2 * 30000 + 1) := Nat.mul_le_mul hn (Nat.le_refl _)
    omega
  refine ⟨_, rfl, b0, _, rfl, .inl (SqL.of (g3.hh _ _ (hM _ _ hb0))), _, rfl, by simp <;> omega, by simp <;> omega, for_range (n := (z.inn.map V.int).length) (fun i σ H' => ∃ (c e : Option V) (M' : Hp), σ = [some (.ref b), some (.ref d), some vg, some (.ref y), c, some (.ref b0), some (.ref b1), some (.ref b2), some (.ref b3), some x4, some x5, e] ∧ Gr M H M' H' ∧ Same M3 M') ⟨none, none, M3, rfl, g3, Same.refl _⟩ ?_ ?_⟩
  · rintro i σ H' hi ⟨c, e, M', rfl, g, sm⟩
    rw [Int.zero_add]
    rw [List.length_map] at hi
    have hil : i < z.ln.length := by rw [ok.ln]; exact hi
    have hli := List.getElem?_eq_getElem hil
    have hw := ok.wd _ (List.getElem_mem hil)
    have sl := sz _ (.inl (List.getElem_mem hil))
    obtain ⟨vr, hvr, atr⟩ := lns_get (i := i) a3 (show (z.ln.map fun l => l.take z.out.length)[i]? = some (z.ln[i].take z.out.length) by rw [List.getElem?_map, hli]; rfl)
    obtain ⟨vb, hvb, atb⟩ := ln_get (i := i) a2 (show (z.ln.map fun l => l.getD z.out.length 0)[i]? = some (z.ln[i].getD z.out.length 0) by rw [List.getElem?_map, hli]; rfl)
    have c3 : ((z.out.map V.int).length : Int) = (((z.ln[i].take z.out.length).length : Nat) : Int) := by simp [hw]
    have smb : FM.Sm 1000 (z.ln[i].getD z.out.length 0) := by
      rw [SH.getD_of (List.getElem?_eq_getElem (show z.out.length < z.ln[i].length by omega))]
      exact sl _ (List.getElem_mem _)
    have smr : SmL 1000 (z.ln[i].take z.out.length) := fun x hx => sl x (List.mem_of_mem_take hx)
    refine ⟨_, rfl, _, rfl, b3, _, _, _, rfl, rfl, SqL.of (g.hh _ _ (hM _ _ hb3)), atI_nat hvr, _, rfl, b1, _, rfl, .inl (SqL.of (g.hh _ _ (hM _ _ hb1))), ?_⟩
    rw [c3]
    refine ⟨_, _, M', rfl, atr.mono g.mm, by simp; omega, g.mh, _, rfl, iteF ?_⟩
    refine ⟨_, rfl, _, rfl, b2, _, _, _, rfl, rfl, SqL.of (g.hh _ _ (hM _ _ hb2)), atI_nat hvb, _, rfl, _, rfl, b3, _, _, _, rfl, rfl, SqL.of (g.hh _ _ (hM _ _ hb3)), atI_nat hvr, _, rfl, ?_⟩
    refine ⟨_, _, _, fr2 (z.ln[i].getD z.out.length 0), (z.ln[i].take z.out.length).map fr2, z.out.map val, 30000, M', rfl, atb.mono g.mm, by rw [← ln_ps]; exact atr.mono g.mm, ato.mono sm, pr_mono (fr2_pr smb) (by decide), fun x hx => pr_mono (fr2_all smr x hx) (by decide), prs, by simp [hw], by simp [hw]; omega, by decide, g.mh, fun r' v' M4 H4 pr' e' g4 at4 => ?_⟩
    obtain ⟨xv, hxv, atx⟩ := hval z.inn[i] (List.mem_append_left _ (List.getElem_mem hi))
    have g5 := g.trans g4
    refine ⟨_, rfl, _, rfl, _, rfl, _, rfl, b0, _, _, _, rfl, rfl, SqL.of (g5.hh _ _ (hM _ _ hb0)), atI_nat (show (z.inn.map V.int)[i]? = some (.int z.inn[i]) by rw [List.getElem?_map, List.getElem?_eq_getElem hi]; rfl), d, xv, rfl, ?_, ?_⟩
    · rw [← hxv]
      exact DGet.k (k := Sum.inl z.inn[i]) (g5.mh _ _ (g5.mm _ _ hd))
    have hn : ((z.ln[i].take z.out.length).map fr2).length ≤ 10 := by simp [hw]; omega
    refine ⟨_, _, r', val z.inn[i], _, M4, rfl, at4, atx.mono g5.mm, pr', pr_mono (hpr _ (List.mem_append_left _ (List.getElem_mem hi))) (by omega), small _ hn, ?_, g5.mh, _, rfl, iteF ⟨_, _, M4, rfl, g5, sm.trans g4.mm⟩⟩
    rw [e', sum_fr (by simp [hw]), fr2_pq, ← tell _ hw]
    exact (fit.row i _ _ (List.getElem?_eq_getElem hi) hli).symm
  · rintro σ H' ⟨c, e, M', rfl, g, sm⟩
    have hgl := ok.gl
    have sl := sz _ (.inr rfl)
    have smb : FM.Sm 1000 (z.gl.getD z.out.length 0) := by
      rw [SH.getD_of (List.getElem?_eq_getElem (show z.out.length < z.gl.length by omega))]
      exact sl _ (List.getElem_mem _)
    have smr : SmL 1000 (z.gl.take z.out.length) := fun x hx => sl x (List.mem_of_mem_take hx)
    refine ⟨_, rfl, _, rfl, _, rfl, ?_⟩
    refine ⟨_, _, _, fr2 (z.gl.getD z.out.length 0), (z.gl.take z.out.length).map fr2, z.out.map val, 30000, M', rfl, t4.mono g.mm, by rw [← ln_ps]; exact t5.mono g.mm, ato.mono sm, pr_mono (fr2_pr smb) (by decide), fun x hx => pr_mono (fr2_all smr x hx) (by decide), prs, by simp [hgl], by simp [hgl]; omega, by decide, g.mh, fun r' v' M4 H4 pr' e' g4 at4 => ?_⟩
    have hn : ((z.gl.take z.out.length).map fr2).length ≤ 10 := by simp [hgl]; omega
    refine ⟨_, rfl, _, _, r', r, _, M4, rfl, at4, hg.mono (g.trans g4).mm, pr', pr_mono pr (by omega), small _ hn, ?_, g4.mh, q _⟩
    rw [e', sum_fr (by simp [hgl]), fr2_pq, ← tell _ hgl]
    exact fit.gol.symm
end
end W1


namespace W1
open PySem PySem.Spec L2
theorem ex_cons {X : Cx} {st : Stmt} {rest : List Stmt} {t : TS} {Φ : TS → Prop} (h1 : PS X st t) (h2 : ∃ u, PSs X rest u ∧ Φ (tSeq t u)) : ∃ u, PSs X (st :: rest) u ∧ Φ u := by
  obtain ⟨u, h, q⟩ := h2
  exact ⟨_, pss_cons h1 h, q⟩
theorem ex_one {X : Cx} {st : Stmt} {t : TS} {Φ : TS → Prop} (h1 : PS X st t) (h2 : Φ t) : ∃ u, PSs X [st] u ∧ Φ u := ⟨t, pss_one h1, h2⟩
theorem run_eqv {s0 : SH.Sh} (ok : s0.Ok) {cs : List (Nat × Nat)} (hc : ∀ c ∈ cs, c.1 < s0.inn.length ∧ c.2 < s0.out.length) : ∀ k, s0.Eqv (run s0 cs k)
  | 0 => SH.Sh.Eqv.refl ok
  | k + 1 => by
    have ih := run_eqv ok hc k
    cases h : cs[k]? with
    | none =>
      have : run s0 cs (k + 1) = run s0 cs k := by
        unfold run
        rw [List.take_add_one, h]
        simp
      rw [this]
      exact ih
    | some c =>
      rw [run_succ h]
      unfold chg
      split
      · rename_i hne
        obtain ⟨h1, h2⟩ := hc c (List.mem_of_getElem? h)
        have hin := run_in s0 cs k
        obtain ⟨u, v, l, a, hat⟩ := ih.ok.at_ (r := c.1) (p := c.2) (by rw [hin.1]; exact h1) (by rw [hin.2]; exact h2) hne
        exact ih.step hat
      · exact ih
theorem small_pow {n : Nat} (h : n ≤ 7) : ((n + 2) * (2 * 6000000000000)) ^ (n + 1) < 2 ^ 1000 := by
  have h1 : (n + 2) * (2 * 6000000000000) ≤ 2 ^ 47 := by
    have e : (2 : Nat) ^ 47 = 140737488355328 := by decide
    rw [e]
    omega
  have h2 : ((n + 2) * (2 * 6000000000000)) ^ (n + 1) ≤ (2 ^ 47) ^ (n + 1) := Nat.pow_le_pow_left h1 _
  have h3 : ((2 : Nat) ^ 47) ^ (n + 1) ≤ (2 ^ 47) ^ 8 := Nat.pow_le_pow_right (by decide) (by omega)
  have h4 : ((2 : Nat) ^ 47) ^ 8 = 2 ^ 376 := by rw [← Nat.pow_mul]
  have h5 : (2 : Nat) ^ 376 < 2 ^ 1000 := Nat.pow_lt_pow_right (by decide) (by decide)
  omega
theorem eqv_sz {s0 s : SH.Sh} (e : s0.Eqv s) (hn : s0.out.length ≤ 7) (hl : ∀ l ∈ s0.ln, SH.WhL 6 6000000000000 l) (hg : SH.WhL 6 6000000000000 s0.gl) : Sz s := by
  intro l h a ha
  obtain ⟨j, hj⟩ := List.mem_iff_getElem?.mp ha
  obtain ⟨t, b, hb, rfl, h1, h2⟩ := e.sizes (by decide) (by decide) hl hg h j a hj
  exact sm_divInt hb (Nat.lt_of_le_of_lt h1 (small_pow hn)) (Nat.lt_of_le_of_lt h2 (small_pow hn))
def innL (m : Nat) : List Int := (List.range m).map fun (k : Nat) => 7 + (k : Int)
def outL (n : Nat) : List Int := (List.range n).map fun (k : Nat) => (k : Int) - 1
theorem un_L {m n : Nat} (hn : n ≤ 7) : SH.Un (innL m) (outL n) := by
  have gi : ∀ {i : Nat} {u : Int}, (innL m)[i]? = some u → u = 7 + (i : Int) := fun {i u} h => by
    unfold innL at h
    rw [List.getElem?_map] at h
    cases e : (List.range m)[i]? with
    | none => rw [e] at h; cases h
    | some k =>
      rw [e] at h
      have hk : k = i := by
        obtain ⟨h1, h2⟩ := List.getElem?_eq_some_iff.mp e
        simpa using h2.symm
      rw [← Option.some.inj h, hk]
  have go : ∀ {i : Nat} {u : Int}, (outL n)[i]? = some u → u = (i : Int) - 1 ∧ i < n := fun {i u} h => by
    unfold outL at h
    rw [List.getElem?_map] at h
    cases e : (List.range n)[i]? with
    | none => rw [e] at h; cases h
    | some k =>
      rw [e] at h
      have hk : k = i ∧ i < n := by
        obtain ⟨h1, h2⟩ := List.getElem?_eq_some_iff.mp e
        exact ⟨by simpa using h2.symm, by simpa using h1⟩
      exact ⟨by rw [← Option.some.inj h, hk.1], hk.2⟩
  refine ⟨fun i j u h1 h2 => ?_, fun i j u h1 h2 => ?_, fun i j u h1 h2 => ?_⟩
  · have := gi h1; have := gi h2; omega
  · have := (go h1).1; have := (go h2).1; omega
  · have := gi h1; have := go h2; omega
theorem inn_len (m : Nat) : (innL m).length = m := by simp [innL]
theorem out_len (n : Nat) : (outL n).length = n := by simp [outL]
/-- the law's first sheet -/
abbrev lawS (ns : List Int) (m n : Nat) : SH.Sh := first (innL m) (outL n) (ptsR ns 8 m) (rowsR ns m n) (ptsR ns 22 n)
theorem pts_wh (ns : List Int) (c : Int) (n : Nat) : SH.WhL 6 6000000000000 (ptsR ns c n) := by
  intro i a h
  unfold ptsR at h
  rw [List.getElem?_map] at h
  cases e : (List.range n)[i]? with
  | none => rw [e] at h; cases h
  | some k => rw [e] at h; cases h; exact smR_wh _
theorem wh_app {c M : Nat} {l l' : List Rat} (h : SH.WhL c M l) (h' : SH.WhL c M l') : SH.WhL c M (l ++ l') := by
  intro i a hi
  rcases Nat.lt_or_ge i l.length with q | q
  · rw [List.getElem?_append_left q] at hi; exact h i a hi
  · rw [List.getElem?_append_right q] at hi; exact h' _ a hi
theorem law_line {ns : List Int} {m n : Nat} {l : List Rat} (h : l ∈ (lawS ns m n).ln) : l.length = n + 1 ∧ SH.WhL 6 6000000000000 l := by
  obtain ⟨i, hi⟩ := List.mem_iff_getElem?.mp h
  rw [show (lawS ns m n).ln = List.zipWith (fun r b => r ++ [b]) (rowsR ns m n) (ptsR ns 8 m) from rfl, List.getElem?_zipWith] at hi
  cases e1 : (rowsR ns m n)[i]? with
  | none => rw [e1] at hi; cases hi
  | some r =>
    cases e2 : (ptsR ns 8 m)[i]? with
    | none => rw [e1, e2] at hi; cases hi
    | some b =>
      rw [e1, e2] at hi
      cases hi
      refine ⟨by simp [(rows_get e1).1], wh_app ?_ ?_⟩
      · have hi : i < m := by have := (List.getElem?_eq_some_iff.mp e1).1; rw [rows_len] at this; exact this
        unfold rowsR at e1
        rw [map_range_get hi] at e1
        cases e1
        intro j a h
        rw [List.getElem?_map] at h
        cases e : (List.range n)[j]? with
        | none => rw [e] at h; cases h
        | some k => rw [e] at h; cases h; exact smR_wh _
      · intro j a h
        cases j with
        | zero => cases h; exact pts_wh ns 8 m i _ e2
        | succ j => simp at h
theorem law_goal (ns : List Int) (m n : Nat) : (lawS ns m n).gl.length = n + 1 ∧ SH.WhL 6 6000000000000 (lawS ns m n).gl := by
  refine ⟨by show (ptsR ns 22 n ++ [0]).length = n + 1; simp [pts_len], wh_app (pts_wh ns 22 n) ?_⟩
  intro j a h
  cases j with
  | zero => cases h; exact SH.wh_zero _ _
  | succ j => simp at h
theorem law_ok {ns : List Int} {m n : Nat} (hn : n ≤ 7) : (lawS ns m n).Ok := by
  refine ⟨?_, fun l hl => ?_, ?_, un_L hn⟩
  · show (List.zipWith _ (rowsR ns m n) (ptsR ns 8 m)).length = (innL m).length
    simp [rows_len, pts_len, inn_len]
  · show l.length = (outL n).length + 1
    rw [out_len]; exact (law_line hl).1
  · show (ptsR ns 22 n ++ [0]).length = (outL n).length + 1
    simp [pts_len, out_len]
theorem law_all {ns : List Int} {m n : Nat} (hn : n ≤ 7) {cs : List (Nat × Nat)} (hc : ∀ c ∈ cs, c.1 < m ∧ c.2 < n) (k : Nat) : (lawS ns m n).Eqv (run (lawS ns m n) cs k) ∧ (run (lawS ns m n) cs k).Ok ∧ Sz (run (lawS ns m n) cs k) := by
  have e := run_eqv (s0 := lawS ns m n) (law_ok hn) (cs := cs) (fun c h => by
    have := hc c h
    show c.1 < (innL m).length ∧ c.2 < (outL n).length
    rw [inn_len, out_len]; exact this) k
  refine ⟨e, e.ok, eqv_sz e (by show (outL n).length ≤ 7; rw [out_len]; exact hn) (fun l hl => (law_line hl).2) (law_goal ns m n).2⟩
/-- the numbers drawn fit the first sheet -/
theorem law_fit {ns : List Int} {m n : Nat} {x : Int → Rat} (h1 : ∀ (j : Nat) (u : Int), (outL n)[j]? = some u → x u = (ptsR ns 26 (outL n).length).getD j 0)
    (h2 : ∀ (i : Nat) (u : Int), (innL m)[i]? = some u → x u = (ptsR ns 8 m).getD i 0 + SH.dot ((rowsR ns m n).getD i []) (ptsR ns 26 (outL n).length)) : (lawS ns m n).Fit x 1 (SH.dot (ptsR ns 22 n) (ptsR ns 26 n)) := by
  rw [out_len] at h1 h2
  have hv : (outL n).map x = ptsR ns 26 n := by
    apply List.ext_getElem?
    intro i
    rw [List.getElem?_map]
    rcases Nat.lt_or_ge i n with h | h
    · have e := List.getElem?_eq_getElem (show i < (outL n).length by rw [out_len]; exact h)
      have e2 := List.getElem?_eq_getElem (show i < (ptsR ns 26 n).length by rw [pts_len]; exact h)
      rw [e]
      show some (x _) = _
      rw [h1 i _ e, SH.getD_of e2, e2]
    · rw [List.getElem?_eq_none_iff.mpr (by rw [out_len]; exact h), List.getElem?_eq_none_iff.mpr (by rw [pts_len]; exact h)]
      rfl
  have vec : (lawS ns m n).vec x 1 = ptsR ns 26 n ++ [1] := by
    show (outL n).map x ++ [1] = _
    rw [hv]
  have dotb : ∀ (r : List Rat) (b : Rat), r.length = n → SH.dot (r ++ [b]) (ptsR ns 26 n ++ [1]) = b + SH.dot r (ptsR ns 26 n) := by
    intro r b hr
    rw [SH.dot_app _ _ 1 (by simp [pts_len, hr]), pts_len, ← hr, List.take_left, SH.getD_of (show (r ++ [b])[r.length]? = some b by simp)]
    grind
  refine ⟨fun i u l hu hl => ?_, ?_⟩
  · rw [vec]
    rw [show (lawS ns m n).ln = List.zipWith (fun r b => r ++ [b]) (rowsR ns m n) (ptsR ns 8 m) from rfl, List.getElem?_zipWith] at hl
    cases e1 : (rowsR ns m n)[i]? with
    | none => rw [e1] at hl; cases hl
    | some r =>
      cases e2 : (ptsR ns 8 m)[i]? with
      | none => rw [e1, e2] at hl; cases hl
      | some b =>
        rw [e1, e2] at hl
        cases hl
        rw [h2 i u hu, SH.getD_of e2, SH.gD e1, dotb r b (rows_get e1).1]
  · rw [vec]
    show _ = SH.dot (ptsR ns 22 n ++ [0]) _
    rw [dotb _ _ (pts_len _ _ _)]
    grind
theorem cnts_le {α : Type} (f : α → Tr) (c : Nat) : ∀ l : List α, (∀ x ∈ l, cnt (f x) ≤ c) → cnts (l.map f) ≤ l.length * c
  | [], _ => by simp [cnts]
  | x :: l, h => by
    have := cnts_le f c l fun y hy => h y (List.mem_cons_of_mem _ hy)
    have := h x List.mem_cons_self
    show cnt (f x) + cnts (l.map f) ≤ (l.length + 1) * c
    rw [Nat.succ_mul]
    omega
theorem cnt_ints (l : List Int) : cnt (intsT l) ≤ 1 + l.length := by
  have := cnts_le Tr.int 1 l fun _ _ => Nat.le_refl _
  show 1 + cnts (l.map Tr.int) ≤ _
  omega
theorem cnt_ln (l : List Rat) : cnt (lnT l) ≤ 1 + l.length * 3 := by
  have := cnts_le frT 3 l fun _ _ => Nat.le_refl _
  show 1 + cnts (l.map frT) ≤ _
  omega
theorem cnt_lns {n : Nat} (L : List (List Rat)) (h : ∀ l ∈ L, l.length ≤ n) : cnt (lnsT L) ≤ 1 + L.length * (1 + n * 3) := by
  have := cnts_le lnT (1 + n * 3) L fun l hl => by
    have a := cnt_ln l
    have b : l.length * 3 ≤ n * 3 := Nat.mul_le_mul_right _ (h l hl)
    omega
  show 1 + cnts (L.map lnT) ≤ _
  omega
theorem cnt_ch (cs : List (Nat × Nat)) : cnt (chT cs) ≤ 1 + cs.length * 3 := by
  have := cnts_le (fun c : Nat × Nat => pT c.1 c.2) 3 cs fun _ _ => Nat.le_refl _
  show 1 + cnts (cs.map _) ≤ _
  omega
theorem cut_ints (ns : List Int) (lo hi : Option Int) : ∃ cells : List Int, cutV (ns.map V.int) lo hi = cells.map V.int ∧ cells.length ≤ ns.length := by
  refine ⟨(ns.drop (HT.sIx (ns.map V.int).length 0 lo)).take (HT.sIx (ns.map V.int).length (ns.map V.int).length hi - HT.sIx (ns.map V.int).length 0 lo), ?_, ?_⟩
  · unfold cutV
    rw [List.map_take, List.map_drop]
  · rw [List.length_take, List.length_drop]; omega
theorem cut_one {xs : List V} {k : Nat} {x : V} (h : xs[k]? = some x) : cutV xs (some (k : Int)) (some ((k : Int) + 1)) = [x] := by
  have hk : k < xs.length := (List.getElem?_eq_some_iff.mp h).1
  unfold cutV
  rw [show ((k : Int) + 1) = ((k + 1 : Nat) : Int) by omega, HT.sIx_nat, HT.sIx_nat, Nat.min_eq_left (by omega), Nat.min_eq_left (by omega), show k + 1 - k = 1 by omega]
  rw [List.drop_eq_getElem_cons hk]
  rw [List.getElem?_eq_getElem hk] at h
  rw [Option.some.inj h]
  rfl
end W1


namespace W1
open PySem PySem.Spec L2
def spLaw (K : PySem.W.Frag) : Sp := fun vs H Q _ => ∃ (a : Addr) (ns : List Int), vs = [.ref a] ∧ SqL K H a (ns.map V.int) ∧ ns.length ≤ 63 ∧ ∀ H', Q (.bl true) H'
theorem range_ats {K : PySem.W.Frag} {M : Hp} {n : Nat} {f : Nat → Int} {ys : List V} (h : Ats K M ((List.range n).map fun i => Tr.int (f i)) ys) : Ats K M (((List.range n).map f).map Tr.int) ys := by
  rw [List.map_map]
  exact h
/-- frozen: a list of ours -/
theorem frz_lst {K : PySem.W.Frag} {M H M1 H1 : Hp} {p : Addr} {ts : List Tr} {ys : List V} (g : Gr M H M1 H1) (e : H p = none) (n : M1 p = none) (q : H1 p = some (.lst ys)) (a : Ats K M1 ts ys) : ∃ M2, Gr M H M2 H1 ∧ Same M1 M2 ∧ At K M2 (.lst ts) (.ref p) :=
  ⟨_, g.frz e n q, same_new n _, (a.mono (same_new n _)).lst upd_same⟩
/-- a new list, frozen at once -/
theorem new_lst {K : PySem.W.Frag} {M H M1 H1 : Hp} {p : Addr} {ts : List Tr} {ys : List V} (g : Gr M H M1 H1) (e : H1 p = none) (a : Ats K M1 ts ys) : ∃ M2, Gr M H M2 (upd H1 p (.lst ys)) ∧ Same M1 M2 ∧ At K M2 (.lst ts) (.ref p) :=
  ⟨_, g.add e, same_new (g.mh.free e) _, (a.mono (same_new (g.mh.free e) _)).lst upd_same⟩
theorem new_tup {K : PySem.W.Frag} {M H M1 H1 : Hp} {p : Addr} {ts : List Tr} {ys : List V} (g : Gr M H M1 H1) (e : H1 p = none) (a : Ats K M1 ts ys) : ∃ M2, Gr M H M2 (upd H1 p (.tup ys)) ∧ Same M1 M2 ∧ At K M2 (.tup ts) (.ref p) :=
  ⟨_, g.add e, same_new (g.mh.free e) _, (a.mono (same_new (g.mh.free e) _)).tup (SqT.of upd_same)⟩
/-- a copy of a list -/
theorem copy_lst {K : PySem.W.Frag} {M H M1 H1 : Hp} {v : V} {ts : List Tr} (g : Gr M H M1 H1) (h : At K M1 (.lst ts) v) : ∃ b ys, v = .ref b ∧ SqL K H1 b ys ∧ H1 b = some (.lst ys) ∧ Ats K M1 ts ys := by
  obtain ⟨b, ys, rfl, hb, a⟩ := h.lst_inv
  exact ⟨b, ys, rfl, SqL.of (g.mh _ _ hb), g.mh _ _ hb, a⟩
def moreI (A : Int) : Int := 4 * (if decide (V.int (A % 32) = V.int 9) = true then 1 else 0)
theorem more_in (A : Int) : 0 ≤ moreI A ∧ moreI A ≤ 4 := by
  unfold moreI
  split
  · exact ⟨by decide, by decide⟩
  · exact ⟨by decide, by decide⟩
def mI (A : Int) : Int := 1 + A % 3 + moreI A
def nI (A : Int) : Int := 1 + A.fdiv 3 % 3 + moreI A
def mN (A : Int) : Nat := (mI A).toNat
def nN (A : Int) : Nat := (nI A).toNat
theorem mN_is (A : Int) : mI A = (mN A : Int) ∧ 1 ≤ mN A ∧ mN A ≤ 7 := by
  have a1 := Int.emod_nonneg A (show (3 : Int) ≠ 0 by decide)
  have a2 := Int.emod_lt_of_pos A z3
  have := more_in A
  unfold mN mI
  omega
theorem nN_is (A : Int) : nI A = (nN A : Int) ∧ 1 ≤ nN A ∧ nN A ≤ 7 := by
  have a1 := Int.emod_nonneg (A.fdiv 3) (show (3 : Int) ≠ 0 by decide)
  have a2 := Int.emod_lt_of_pos (A.fdiv 3) z3
  have := more_in A
  unfold nN nI
  omega
/-- what the law holds, as trees -/
structure LT (K : PySem.W.Frag) (ns : List Int) (A : Int) (cs : List (Nat × Nat)) (M : Hp) (v4 v5 vb vr vg v7 : V) : Prop where
  ti : At K M (intsT (innL (mN A))) v4
  to_ : At K M (intsT (outL (nN A))) v5
  tb : At K M (lnT (ptsR ns 8 (mN A))) vb
  tr : At K M (lnsT (rowsR ns (mN A) (nN A))) vr
  tg : At K M (lnT (ptsR ns 22 (nN A))) vg
  tc : At K M (chT cs) v7
theorem LT.mono {K : PySem.W.Frag} {ns : List Int} {A : Int} {cs : List (Nat × Nat)} {M M' : Hp} {v4 v5 vb vr vg v7 : V} (h : LT K ns A cs M v4 v5 vb vr vg v7) (s : Same M M') : LT K ns A cs M' v4 v5 vb vr vg v7 :=
  ⟨h.ti.mono s, h.to_.mono s, h.tb.mono s, h.tr.mono s, h.tg.mono s, h.tc.mono s⟩
theorem ex_tail {X : Cx} {sts : List Stmt} {C : TS → Prop} {Φ : TS → Prop} (h : ∃ u, PSs X sts u ∧ C u) (k : ∀ u, C u → Φ u) : ∃ u, PSs X sts u ∧ Φ u := by
  obtain ⟨u, p, c⟩ := h
  exact ⟨u, p, k u c⟩
theorem big1000 {n : Nat} (h : n ≤ 1000) : n ≤ sizeLine := Nat.le_of_lt (small1000 h)
section
variable {P : Program} {w : World} {K : PySem.W.Frag} {mg : Str → Option Value} {base : Heap} {t : Adr} {k : Nat}
set_option maxHeartbeats 4000000 in
theorem law_D (T : Txt K mg t) (G__law_same : FnOk P w K mg base (CXE P w) k t.f__law_same t.d__law_same ["_law_found", "_law_due"] (spSame K)) (G__law_values_of : FnOk P w K mg base (CXE P w) k t.f__law_values_of t.d__law_values_of ["_law_script", "_law_inner", "_law_outer", "_law_bases", "_law_rows"] (spValues K)) (G__law_goal_of : FnOk P w K mg base (CXE P w) k t.f__law_goal_of t.d__law_goal_of ["_law_script", "_law_gains"] (spGoal K)) (G__law_fits : FnOk P w K mg base (CXE P w) k t.f__law_fits t.d__law_fits ["_law_found", "_law_values", "_law_goal"] (spFits K))
    {cdv : Value} {A0 : Around} {outer : List Env} {s : Shared} {H : Hp} {E : XK} (hr : Room k (A0.deeper (PyProof.Rows.envOfC "law" (defScope s_law) s.heap.objs.size t.f_law cdv))) {a : Addr} {ns : List Int} (hS : SqL K H a (ns.map V.int)) (h63 : ns.length ≤ 63) (A : Int) {M : Hp} : ∃ u, PSs (cxOf (CXE P w) P w K mg base ["_law_script", "_law_more", "_law_many", "_law_wide", "_law_inner", "_law_outer", "_law_cells", "_law_changes", "_law_ones", "_law_lists", "_law_found", "_law_lines", "_law_due", "_law_k", "_law_values", "_law_bases", "_law_rows", "_law_gains", "_law_place", "_law_column", "_law_own", "_law_unknown"] "law" (defScope s_law) t.f_law cdv A0 outer s H E) ((defBody s_law).drop 16) u ∧
      ∀ (D : Ends), (∀ H'', D.rt (.bl true) H'') → ∀ (M' H' : Hp) (z4 z5 z6 z7 p8 p9 d : Addr) (fv vl vb vr vg : V) (e18 e19 e21 : Option V) (cs : List (Nat × Nat)), (∀ c ∈ cs, c.1 < mN A ∧ c.2 < nN A) → Gr M H M' H' → LT K ns A cs M' (.ref z4) (.ref z5) vb vr vg (.ref z7) → At K M' (.tup (sheetT (run (lawS ns (mN A) (nN A)) cs cs.length))) fv →
      At K M' (lnsT ((run (lawS ns (mN A) (nN A)) cs cs.length).ln ++ [(run (lawS ns (mN A) (nN A)) cs cs.length).gl])) vl → At K M' (.lst [intsT (run (lawS ns (mN A) (nN A)) cs cs.length).inn, intsT (run (lawS ns (mN A) (nN A)) cs cs.length).out]) (.ref d) → u D [some (.ref a), some (.int (moreI A)), some (.int (mI A)), some (.int (nI A)), some (.ref z4), some (.ref z5), some (.ref z6), some (.ref z7), some (.ref p8), some (.ref p9), some fv, some vl, some (.ref d), none, none, some vb, some vr, some vg, e18, e19, none, e21] H' := by
  refine ex_cons (ps_if (pt_not (pt_val (pe_call G__law_same hr rfl T.m__law_same T.F__law_same.kp T.b__law_same .nil pass_no (pa_cons (pe_lst (pa_cons (pe_ix ix_tup (pv 10) pe_int (fun _ _ => rfl)) (pa_cons (pe_ix ix_tup (pv 10) pe_int (fun _ _ => rfl)) pa_nil))) (pa_cons (pv 12) pa_nil)))))
      (pss_one (ps_ret pe_bl))
      pss_nil) ?_
  refine ex_cons (ps_if (pt_not (pt_val (pe_call G__law_same hr rfl T.m__law_same T.F__law_same.kp T.b__law_same .nil pass_no (pa_cons (pe_lst (pa_cons (pe_ix ix_tup (pv 10) pe_int (fun _ _ => rfl)) (pa_cons (pe_ix ix_tup (pv 10) pe_int (fun _ _ => rfl)) pa_nil))) (pa_cons (pe_lst (pa_cons (pe_slice sl_list (pe_ix ix_list (pv 11) (pe_un un_neg pe_int) (fun _ _ => rfl)) po_none (po_some (pe_un un_neg pe_int))) (pa_cons (pe_ix ix_list (pe_ix ix_list (pv 11) (pe_un un_neg pe_int) (fun _ _ => rfl)) (pe_un un_neg pe_int) (fun _ _ => rfl)) pa_nil))) pa_nil)))))
      (pss_one (ps_ret pe_bl))
      pss_nil) ?_
  refine ex_cons (ps_for PassesOwn.leaving rfl (pi_range1 rfl T.n_range (pa_cons (pv 2) pa_nil)) (pg_name (i := 13) sc_law.nd rfl (Or.inl rfl))
      (pss_cons (ps_set (i := 20) sc_law.nd rfl (Or.inl rfl) (pe_lst (pa_cons (pe_lst (pa_cons (pe_ix ix_list (pe_ix ix_list (pv 11) (pv 13) (fun _ _ => rfl)) (pe_un un_neg pe_int) (fun _ _ => rfl)) pa_nil)) (pa_cons (pe_lst (pa_cons (pe_slice sl_list (pe_ix ix_list (pv 11) (pv 13) (fun _ _ => rfl)) po_none (po_some (pe_un un_neg pe_int))) pa_nil)) pa_nil))))
    (pss_one (ps_if (pt_not (pt_val (pe_call G__law_same hr rfl T.m__law_same T.F__law_same.kp T.b__law_same .nil pass_no (pa_cons (pe_lst (pa_cons (pe_slice sl_list (pe_ix ix_tup (pv 10) pe_int (fun _ _ => rfl)) (po_some (pv 13)) (po_some (pe_op op_add (pv 13) pe_int))) (pa_cons (pe_slice sl_list (pe_ix ix_tup (pv 10) pe_int (fun _ _ => rfl)) (po_some (pv 13)) (po_some (pe_op op_add (pv 13) pe_int))) pa_nil))) (pa_cons (pv 20) pa_nil)))))
      (pss_one (ps_ret pe_bl))
      pss_nil)))) ?_
  refine ex_cons (ps_set (i := 14) sc_law.nd rfl (Or.inl rfl) (pe_call G__law_values_of hr rfl T.m__law_values_of T.F__law_values_of.kp T.b__law_values_of .nil pass_no (pa_cons (pv 0) (pa_cons (pv 4) (pa_cons (pv 5) (pa_cons (pv 15) (pa_cons (pv 16) pa_nil))))))) ?_
  refine ex_one (ps_ret (pe_call G__law_fits hr rfl T.m__law_fits T.F__law_fits.kp T.b__law_fits .nil pass_no (pa_cons (pv 10) (pa_cons (pv 14) (pa_cons (pe_call G__law_goal_of hr rfl T.m__law_goal_of T.F__law_goal_of.kp T.b__law_goal_of .nil pass_no (pa_cons (pv 0) (pa_cons (pv 17) pa_nil))) pa_nil))))) ?_
  intro D hD M' H' z4 z5 z6 z7 p8 p9 d fv vl vb vr vg e18 e19 e21 cs csb g L tf tl td
  obtain ⟨hm, m1⟩ := mN_is A
  obtain ⟨hn, n1⟩ := nN_is A
  obtain ⟨eqv, ok, sz⟩ := law_all (ns := ns) (m := mN A) (n := nN A) n1.2 csb cs.length
  have hin := run_in (lawS ns (mN A) (nN A)) cs cs.length
  have lin : (run (lawS ns (mN A) (nN A)) cs cs.length).inn.length = mN A := hin.1.trans (inn_len _)
  have lout : (run (lawS ns (mN A) (nN A)) cs cs.length).out.length = nN A := hin.2.trans (out_len _)
  generalize run (lawS ns (mN A) (nN A)) cs cs.length = z at *
  clear hin
  obtain ⟨pf, xs, rfl, hpf, af⟩ := id tf.tup_inv
  obtain ⟨x0, x1, x2, x3, x4, x5, rfl⟩ : ∃ x0 x1 x2 x3 x4 x5, xs = [x0, x1, x2, x3, x4, x5] := by
    match xs, af.1 with
    | [x0, x1, x2, x3, x4, x5], _ => exact ⟨_, _, _, _, _, _, rfl⟩
  have t0 := af.2 0 _ _ rfl rfl
  have t1 := af.2 1 _ _ rfl rfl
  have t2 := af.2 2 _ _ rfl rfl
  have t3 := af.2 3 _ _ rfl rfl
  have t4 := af.2 4 _ _ rfl rfl
  have t5 := af.2 5 _ _ rfl rfl
  -- the places
  refine ⟨_, rfl, pf, _, _, _, rfl, rfl, g.mh.tup hpf, rfl, _, rfl, pf, _, _, _, rfl, rfl, g.mh.tup hpf, rfl, big1000 (by show 2 ≤ 1000; decide), fun p hp => ?_⟩
  obtain ⟨Mo, go, so, v8⟩ := new_lst (K := K) g hp (Ats.cons t0 (Ats.cons t1 Ats.nil))
  refine ⟨_, rfl, _, _, _, Mo, rfl, v8, td.mono so, ?_, go.mh, fun Hp1 gp => ⟨_, rfl, iteF ?_⟩⟩
  · have c1 := cnt_ints z.inn
    have c2 := cnt_ints z.out
    show 1 + (cnt (intsT z.inn) + (cnt (intsT z.out) + 0)) ≤ 1000
    omega
  replace g := go.trans gp
  replace L := L.mono so
  replace tf := tf.mono so
  replace tl := tl.mono so
  replace hpf := so.tup hpf
  replace t2 := t2.mono so
  replace t3 := t3.mono so
  replace t4 := t4.mono so
  replace t5 := t5.mono so
  clear go gp v8 td hp t0 t1 af so
  -- the goal
  obtain ⟨bl, yl, rfl, hbl, al⟩ := tl.lst_inv
  have lyl : yl.length = z.inn.length + 1 := by have := al.1; simp at this; rw [← this, ok.ln]
  obtain ⟨vgl, hvgl, atgl⟩ := lns_get al (show (z.ln ++ [z.gl])[z.inn.length]? = some z.gl by rw [← ok.ln]; simp)
  obtain ⟨bg, yg, rfl, hbg, ag⟩ := atgl.lst_inv
  have lyg : yg.length = z.out.length + 1 := by have := ag.1; simp at this; rw [← this, ok.gl]
  obtain ⟨ve, hve, ate⟩ := ln_get ag (List.getElem?_eq_getElem (show z.out.length < z.gl.length by rw [ok.gl]; omega))
  refine ⟨_, rfl, pf, _, _, _, rfl, rfl, g.mh.tup hpf, rfl, _, rfl, pf, _, _, _, rfl, rfl, g.mh.tup hpf, rfl, big1000 (by show 2 ≤ 1000; decide), fun p hp => ?_⟩
  obtain ⟨Mo, go, so, v8⟩ := new_lst (K := K) g hp (Ats.cons t5 (Ats.cons t4 Ats.nil))
  replace hbl := so _ _ hbl
  replace hbg := so _ _ hbg
  replace hpf := so.tup hpf
  replace L := L.mono so
  replace tf := tf.mono so
  replace t2 := t2.mono so
  replace t3 := t3.mono so
  replace al := al.mono so
  replace ag := ag.mono so
  replace ate := ate.mono so
  generalize upd Hp1 p (.lst [x5, x4]) = Hq at go ⊢
  clear so g hp t4 t5 tl
  refine ⟨_, rfl, _, rfl, bl, _, _, _, rfl, rfl, SqL.of (go.mh _ _ hbl), atI_m1 lyl hvgl, _, rfl, _, rfl, bg, _, rfl, SqL.of (go.mh _ _ hbg), fun p1 hp1 => ?_⟩
  rw [cut_m1 lyg]
  obtain ⟨Mr, gr, sr, v1⟩ := new_lst (K := K) go hp1 (ag.take z.out.length)
  rw [← List.map_take] at v1
  replace v8 := v8.mono sr
  replace hbl := sr _ _ hbl
  replace hbg := sr _ _ hbg
  replace hpf := sr.tup hpf
  replace L := L.mono sr
  replace tf := tf.mono sr
  replace t2 := t2.mono sr
  replace t3 := t3.mono sr
  replace al := al.mono sr
  replace ate := ate.mono sr
  generalize upd Hq p1 (.lst (yg.take z.out.length)) = Hr at gr ⊢
  clear sr go hp1 ag
  refine ⟨_, rfl, _, rfl, bl, _, _, _, rfl, rfl, SqL.of (gr.mh _ _ hbl), atI_m1 lyl hvgl, _, rfl, bg, _, _, _, rfl, rfl, SqL.of (gr.mh _ _ hbg), atI_m1 lyg hve, big1000 (by show 2 ≤ 1000; decide), fun p2 hp2 => ?_⟩
  obtain ⟨Ms, gs, ss, v2⟩ := new_lst (K := K) gr hp2 (Ats.cons v1 (Ats.cons ate Ats.nil))
  replace v8 := v8.mono ss
  have eg : lnT (z.gl.take z.out.length) = .lst ((z.gl.take z.out.length).map frT) := rfl
  have e5 : z.gl.getD z.out.length 0 = z.gl[z.out.length]'(by rw [ok.gl]; omega) := SH.getD_of (List.getElem?_eq_getElem _)
  rw [e5] at v8
  refine ⟨_, _, _, Ms, rfl, v8, v2, ?_, gs.mh, fun Ht gt => ⟨_, rfl, iteF ?_⟩⟩
  · have c1 := cnt_ln (z.gl.take z.out.length)
    have c2 : (z.gl.take z.out.length).length ≤ z.out.length := by simp; omega
    show 1 + (cnt (lnT (z.gl.take z.out.length)) + (3 + 0)) ≤ 1000
    omega
  replace g := gs.trans gt
  replace hbl := ss _ _ hbl
  replace hpf := ss.tup hpf
  replace L := L.mono ss
  replace tf := tf.mono ss
  replace t2 := t2.mono ss
  replace t3 := t3.mono ss
  replace al := al.mono ss
  clear gs gt gr ss v8 v2 v1 ate hp2 hbg lyg hve hvgl atgl eg e5
  -- the rows
  obtain ⟨b2, y2, rfl, hb2, a2⟩ := t2.lst_inv
  obtain ⟨b3, y3, rfl, hb3, a3⟩ := t3.lst_inv
  refine ⟨_, rfl, mI A, rfl, by omega, by omega, for_range (n := mN A) (fun i σ H' => ∃ (M' : Hp) (e13 e20 : Option V), σ = [some (.ref a), some (.int (moreI A)), some (.int (mI A)), some (.int (nI A)), some (.ref z4), some (.ref z5), some (.ref z6), some (.ref z7), some (.ref p8), some (.ref p9), some (.ref pf), some (.ref bl), some (.ref d), e13, none, some vb, some vr, some vg, e18, e19, e20, e21] ∧ Gr M H M' H' ∧ Same Ms M') ⟨Ms, none, none, rfl, g, Same.refl _⟩ ?_ ?_⟩
  · rintro i σ Hi hi ⟨Mi, e13, e20, rfl, gi, si⟩
    rw [Int.zero_add]
    have hil : i < z.ln.length := by rw [ok.ln, lin]; exact hi
    have hli := List.getElem?_eq_getElem hil
    have hw := ok.wd _ (List.getElem_mem hil)
    obtain ⟨vl, hvl, atl⟩ := lns_get al (show (z.ln ++ [z.gl])[i]? = some z.ln[i] by rw [List.getElem?_append_left hil]; exact hli)
    obtain ⟨bi, yi, rfl, hbi, ai⟩ := (atl.mono si).lst_inv
    have lyi : yi.length = z.out.length + 1 := by have := ai.1; simp at this; omega
    obtain ⟨ve, hve, ate⟩ := ln_get ai (List.getElem?_eq_getElem (show z.out.length < z.ln[i].length by omega))
    obtain ⟨vb2, hvb2, atb2⟩ := ln_get (i := i) a2 (show (z.ln.map fun l => l.getD z.out.length 0)[i]? = some (z.ln[i].getD z.out.length 0) by rw [List.getElem?_map, hli]; rfl)
    obtain ⟨vb3, hvb3, atb3⟩ := lns_get (i := i) a3 (show (z.ln.map fun l => l.take z.out.length)[i]? = some (z.ln[i].take z.out.length) by rw [List.getElem?_map, hli]; rfl)
    have e5 : z.ln[i].getD z.out.length 0 = z.ln[i][z.out.length]'(by omega) := SH.getD_of (List.getElem?_eq_getElem _)
    refine ⟨_, rfl, _, rfl, bl, _, _, _, rfl, rfl, SqL.of (gi.mh _ _ (si _ _ hbl)), atI_nat hvl, _, rfl, bi, _, _, _, rfl, rfl, SqL.of (gi.mh _ _ hbi), atI_m1 lyi hve, big1000 (by show 1 ≤ 1000; decide), fun p1 hp1 => ?_⟩
    obtain ⟨M1, g1, s1, w1⟩ := new_lst (K := K) gi hp1 (Ats.cons ate Ats.nil)
    generalize upd Hi p1 (.lst [ve]) = H1 at g1 ⊢
    refine ⟨_, rfl, _, rfl, bl, _, _, _, rfl, rfl, SqL.of (g1.mh _ _ (s1 _ _ (si _ _ hbl))), atI_nat hvl, _, rfl, _, rfl, bi, _, rfl, SqL.of (g1.mh _ _ (s1 _ _ hbi)), fun p2 hp2 => ?_⟩
    rw [cut_m1 lyi]
    obtain ⟨M2, g2, s2, w2⟩ := new_lst (K := K) g1 hp2 ((ai.mono s1).take z.out.length)
    rw [← List.map_take] at w2
    generalize upd H1 p2 (.lst (yi.take z.out.length)) = H2 at g2 ⊢
    refine ⟨big1000 (by show 1 ≤ 1000; decide), fun p3 hp3 => ?_⟩
    obtain ⟨M3, g3, s3, w3⟩ := new_lst (K := K) g2 hp3 (Ats.cons w2 Ats.nil)
    generalize upd H2 p3 (.lst [.ref p2]) = H3 at g3 ⊢
    refine ⟨big1000 (by show 2 ≤ 1000; decide), fun p4 hp4 => ?_⟩
    obtain ⟨M4, g4, s4, w4⟩ := new_lst (K := K) g3 hp4 (Ats.cons (w1.mono (s2.trans s3)) (Ats.cons w3 Ats.nil))
    generalize upd H3 p4 (.lst [.ref p1, .ref p3]) = H4 at g4 ⊢
    have sa := si.trans (s1.trans (s2.trans (s3.trans s4)))
    clear g1 g2 g3 hp1 hp2 hp3 hp4 w1 w2 w3
    refine ⟨_, rfl, pf, _, _, _, rfl, rfl, g4.mh.tup (sa.tup hpf), rfl, _, rfl, _, rfl, _, rfl, _, _, rfl, rfl, (i : Int) + 1, rfl, b2, _, rfl, SqL.of (g4.mh _ _ (sa _ _ hb2)), fun p5 hp5 => ?_⟩
    rw [cut_one hvb2]
    obtain ⟨M5, g5, s5, w5⟩ := new_lst (K := K) g4 hp5 (Ats.cons (atb2.mono sa) Ats.nil)
    generalize upd H4 p5 (.lst [vb2]) = H5 at g5 ⊢
    have sb := sa.trans s5
    refine ⟨_, rfl, pf, _, _, _, rfl, rfl, g5.mh.tup (sb.tup hpf), rfl, _, rfl, _, rfl, _, rfl, _, _, rfl, rfl, (i : Int) + 1, rfl, b3, _, rfl, SqL.of (g5.mh _ _ (sb _ _ hb3)), fun p6 hp6 => ?_⟩
    rw [cut_one hvb3]
    obtain ⟨M6, g6, s6, w6⟩ := new_lst (K := K) g5 hp6 (Ats.cons (atb3.mono sb) Ats.nil)
    generalize upd H5 p6 (.lst [vb3]) = H6 at g6 ⊢
    refine ⟨big1000 (by show 2 ≤ 1000; decide), fun p7 hp7 => ?_⟩
    obtain ⟨M7, g7, s7, w7⟩ := new_lst (K := K) g6 hp7 (Ats.cons (w5.mono s6) (Ats.cons w6 Ats.nil))
    rw [e5] at w7
    refine ⟨_, rfl, _, _, _, M7, rfl, w7, w4.mono (s5.trans (s6.trans s7)), ?_, g7.mh, fun H8 g8 => ⟨_, rfl, iteF ⟨M7, _, _, rfl, g7.trans g8, sb.trans (s6.trans s7)⟩⟩⟩
    have c1 := cnt_ln (z.ln[i].take z.out.length)
    have c2 : (z.ln[i].take z.out.length).length ≤ z.out.length := by simp; omega
    show 1 + ((1 + (3 + 0)) + ((1 + (cnt (lnT (z.ln[i].take z.out.length)) + 0)) + 0)) ≤ 1000
    omega
  · rintro σ Hi ⟨Mi, e13, e20, rfl, gi, si⟩
    replace L := L.mono si
    -- values, goal, fits
    refine ⟨_, rfl, _, rfl, _, rfl, _, rfl, _, rfl, a, ns, _, _, _, _, innL (mN A), outL (nN A), ptsR ns 8 (mN A), rowsR ns (mN A) (nN A), Mi, rfl, gi.hh.seq hS, h63, L.ti, L.to_, L.tb, L.tr, un_L n1.2, by rw [inn_len]; omega, by rw [out_len]; omega, by rw [pts_len, inn_len], by rw [rows_len, inn_len], pts_sm _ _ _, fun r hr => by
      obtain ⟨i, hi⟩ := List.mem_iff_getElem?.mp hr
      rw [out_len]
      exact rows_get hi, gi.mh, fun dd val Mv Hv gv dc ho hi => ?_⟩
    have gv' := gi.trans gv
    refine ⟨_, rfl, _, rfl, _, rfl, _, rfl, a, ns, _, ptsR ns 22 (nN A), Mv, rfl, gv'.hh.seq hS, h63, L.tg.mono gv.mm, by rw [pts_len]; omega, pts_sm _ _ _, gv.mh, fun r v Mw Hw pr er gw tw => ?_⟩
    rw [pts_len] at er
    have fit := eqv.to _ _ _ (law_fit (x := fun u => pq (val u)) ho hi)
    rw [← er] at fit
    have sw := si.trans (gv.mm.trans gw.mm)
    refine ⟨_, _, dd, z, val, r, Mw, rfl, tf.mono sw, ⟨?_, fun u hu => dc.pr u ?_⟩, tw, pr, ok, sz, by omega, by omega, fit, gw.mh, fun H9 => hD H9⟩
    · obtain ⟨kvs, h1, h2⟩ := dc.at_
      refine ⟨kvs, gw.mm _ _ h1, fun u hu => ?_⟩
      have hu' : u ∈ innL (mN A) ++ outL (nN A) := by
        rcases List.mem_append.mp hu with q | q
        · exact List.mem_append.mpr (eqv.nmi u q)
        · exact List.mem_append.mpr (eqv.nmo u q)
      obtain ⟨x, e1, e2⟩ := h2 u hu'
      exact ⟨x, e1, e2.mono gw.mm⟩
    · rcases List.mem_append.mp hu with q | q
      · exact List.mem_append.mpr (eqv.nmi u q)
      · exact List.mem_append.mpr (eqv.nmo u q)
end
end W1


namespace W1
open PySem PySem.Spec L2
section
variable {P : Program} {w : World} {K : PySem.W.Frag} {mg : Str → Option Value} {base : Heap} {t : Adr} {k : Nat}
set_option maxHeartbeats 4000000 in
theorem law_C (T : Txt K mg t) (G__law_same : FnOk P w K mg base (CXE P w) k t.f__law_same t.d__law_same ["_law_found", "_law_due"] (spSame K)) (G__law_changed : FnOk P w K mg base (CXE P w) k t.f__law_changed t.d__law_changed ["_law_lines", "_law_place", "_law_column"] (spChanged K)) (G__law_values_of : FnOk P w K mg base (CXE P w) k t.f__law_values_of t.d__law_values_of ["_law_script", "_law_inner", "_law_outer", "_law_bases", "_law_rows"] (spValues K)) (G__law_goal_of : FnOk P w K mg base (CXE P w) k t.f__law_goal_of t.d__law_goal_of ["_law_script", "_law_gains"] (spGoal K)) (G__law_fits : FnOk P w K mg base (CXE P w) k t.f__law_fits t.d__law_fits ["_law_found", "_law_values", "_law_goal"] (spFits K))
    {cdv : Value} {A0 : Around} {outer : List Env} {s : Shared} {H : Hp} {E : XK} (hr : Room k (A0.deeper (PyProof.Rows.envOfC "law" (defScope s_law) s.heap.objs.size t.f_law cdv))) {a : Addr} {ns : List Int} (hS : SqL K H a (ns.map V.int)) (h63 : ns.length ≤ 63) (A : Int) {M : Hp} : ∃ u, PSs (cxOf (CXE P w) P w K mg base ["_law_script", "_law_more", "_law_many", "_law_wide", "_law_inner", "_law_outer", "_law_cells", "_law_changes", "_law_ones", "_law_lists", "_law_found", "_law_lines", "_law_due", "_law_k", "_law_values", "_law_bases", "_law_rows", "_law_gains", "_law_place", "_law_column", "_law_own", "_law_unknown"] "law" (defScope s_law) t.f_law cdv A0 outer s H E) ((defBody s_law).drop 13) u ∧
      ∀ (D : Ends), (∀ H'', D.rt (.bl true) H'') → ∀ (M' H' : Hp) (z4 z5 z6 z7 p8 p9 : Addr) (fv vb vr vg : V) (cs : List (Nat × Nat)), cs.length ≤ 63 → (∀ c ∈ cs, c.1 < mN A ∧ c.2 < nN A) → Gr M H M' H' → LT K ns A cs M' (.ref z4) (.ref z5) vb vr vg (.ref z7) → At K M' (.tup (sheetT (run (lawS ns (mN A) (nN A)) cs cs.length))) fv → u D [some (.ref a), some (.int (moreI A)), some (.int (mI A)), some (.int (nI A)), some (.ref z4), some (.ref z5), some (.ref z6), some (.ref z7), some (.ref p8), some (.ref p9), some fv, none, none, none, none, some vb, some vr, some vg, none, none, none, none] H' := by
  refine ex_cons (ps_set (i := 11) sc_law.nd rfl (Or.inl rfl) (pe_op op_cat (pe_compG rfl (compt_of (n := 1) (js := [16, 15]) (Nb := ["_law_k", "_law_rows", "_law_bases"]) (by kernel_rfl) rfl (by decide +kernel) (by decide) (by kernel_rfl)) (pi_range1 rfl T.n_range (pa_cons (pv 2) pa_nil)) (fun C s0 H0 fp pn' => (pg_name (i := 0) (nd_of (l := ["_law_k", "_law_rows", "_law_bases"]) (by decide +kernel)) rfl (Or.inl rfl))) own_name (fun C s0 H0 fp pn' => pts_none) (fun C s0 H0 fp pn' => (pe_op op_cat (pe_ix (r := rIxL K) ix_list (pv 1) (pv 0) (fun _ _ => rfl)) (pe_lst (pa_cons (pe_ix (r := rIxL K) ix_list (pv 2) (pv 0) (fun _ _ => rfl)) pa_nil))))) (pe_lst (pa_cons (pe_op op_cat (pv 17) (pe_lst (pa_cons (pe_tup (pa_cons pe_int (pa_cons pe_int pa_nil))) pa_nil))) pa_nil)))) ?_
  refine ex_cons (ps_set (i := 12) sc_law.nd rfl (Or.inl rfl) (pe_lst (pa_cons (pe_callTy call_list_of rfl T.n_list bt_list (pa_cons (pv 4) pa_nil)) (pa_cons (pe_callTy call_list_of rfl T.n_list bt_list (pa_cons (pv 5) pa_nil)) pa_nil)))) ?_
  refine ex_cons (ps_for PassesOwn.leaving rfl (pi_list (pv 7)) (pg_tup (n := 2) rfl (pgs_cons (pg_name (i := 18) sc_law.nd rfl (Or.inl rfl)) (pgs_cons (pg_name (i := 19) sc_law.nd rfl (Or.inl rfl)) pgs_nil)))
      (pss_one (ps_if (pt_cmpR op_neT (pe_ix ix_list (pe_ix ix_list (pv 11) (pv 18) (fun _ _ => rfl)) (pv 19) (fun _ _ => rfl)) (pe_tup (pa_cons pe_int (pa_cons pe_int pa_nil))) (nomark _))
      (pss_cons (ps_set (i := 11) sc_law.nd rfl (Or.inl rfl) (pe_call G__law_changed hr rfl T.m__law_changed T.F__law_changed.kp T.b__law_changed .nil pass_no (pa_cons (pv 11) (pa_cons (pv 18) (pa_cons (pv 19) pa_nil)))))
    (pss_cons (ps_set (i := 21) sc_law.nd rfl (Or.inl rfl) (pe_ix ix_list (pe_ix ix_list (pv 12) pe_int (fun _ _ => rfl)) (pv 18) (fun _ _ => rfl)))
    (pss_cons (ps_asg (pe_ix ix_list (pe_ix ix_list (pv 12) pe_int (fun _ _ => rfl)) (pv 19) (fun _ _ => rfl)) (pg_sub (pe_ix ix_list (pv 12) pe_int (fun _ _ => rfl)) (pv 18) set_list))
    (pss_one (ps_asg (pv 21) (pg_sub (pe_ix ix_list (pv 12) pe_int (fun _ _ => rfl)) (pv 19) set_list))))))
      pss_nil))) ?_
  refine ex_tail (law_D T G__law_same G__law_values_of G__law_goal_of G__law_fits hr hS h63 A (M := M)) (fun rest hrest => ?_)
  intro D hD M' H' z4 z5 z6 z7 p8 p9 fv vb vr vg cs csl csb g L tf
  obtain ⟨hm, m1⟩ := mN_is A
  obtain ⟨hn, n1⟩ := nN_is A
  obtain ⟨cr, yr, rfl, hcr, atr⟩ := id L.tr.lst_inv
  obtain ⟨cb, yb, rfl, hcb, atb⟩ := id L.tb.lst_inv
  obtain ⟨cg, yg, rfl, hcg, atg⟩ := id L.tg.lst_inv
  have lyg : yg.length = nN A := by have := atg.1; rw [List.length_map, pts_len] at this; omega
  -- lines
  refine ⟨_, rfl, mI A, rfl, by omega, by omega, fun z11 hz11 => cm_range (K := K) (M := M') (n := mN A) (F := fun i => lnT ((rowsR ns (mN A) (nN A)).getD i [] ++ [(ptsR ns 8 (mN A)).getD i 0])) g.mh (by omega) hz11 (fun i Mi Hi Qy hi gi kk => ?_) (fun Mt Ht ys gt mt hyt att => ?_)⟩
  · rw [Int.zero_add]
    have e1 := List.getElem?_eq_getElem (show i < (rowsR ns (mN A) (nN A)).length by rw [rows_len]; exact hi)
    have e2 := List.getElem?_eq_getElem (show i < (ptsR ns 8 (mN A)).length by rw [pts_len]; exact hi)
    obtain ⟨vx, hvx, atx⟩ := lns_get atr e1
    obtain ⟨vy, hvy, aty⟩ := ln_get atb e2
    obtain ⟨cx, yx, rfl, hcx, ax⟩ := (atx.mono gi.mm).lst_inv
    have lyx : yx.length ≤ 7 := by have := ax.1; have z := (rows_get e1).1; rw [List.length_map] at this; omega
    refine ⟨_, rfl, _, rfl, cr, _, _, _, rfl, rfl, SqL.of (gi.mh _ _ (gi.mm _ _ hcr)), atI_nat hvx, _, rfl, _, rfl, cb, _, _, _, rfl, rfl, SqL.of (gi.mh _ _ (gi.mm _ _ hcb)), atI_nat hvy, big1000 (by show 1 ≤ 1000; decide), fun p1 hp1 => ?_⟩
    have hcxH := gi.mh _ _ hcx
    refine ⟨cx, p1, yx, _, rfl, rfl, by rw [upd_ne (ne_of_none hcxH hp1)]; exact hcxH, upd_same, big1000 (by simp; omega), fun p2 hp2 => ?_⟩
    have g1' : Gr Mi Hi Mi (upd Hi p1 (.lst [vy])) := (Gr.refl gi.mh).new hp1
    refine kk _ _ _ (g1'.add hp2) ?_
    rw [SH.gD e1, SH.getD_of e2]
    refine Ats.lst (xs := yx ++ [vy]) ?_ upd_same
    rw [List.map_append]
    exact (ax.snoc (aty.mono gi.mm)).mono (same_new (g1'.mh.free hp2) _)
  have att' : Ats K Mt ((lawS ns (mN A) (nN A)).ln.map lnT) ys := ats_range att (by show (List.map lnT (List.zipWith _ (rowsR ns (mN A) (nN A)) (ptsR ns 8 (mN A)))).length = _; simp [rows_len, pts_len]) fun i t ht => by
    rw [show (lawS ns (mN A) (nN A)).ln = List.zipWith (fun r b => r ++ [b]) (rowsR ns (mN A) (nN A)) (ptsR ns 8 (mN A)) from rfl, List.getElem?_map, List.getElem?_zipWith] at ht
    cases e : (rowsR ns (mN A) (nN A))[i]? with
    | none => rw [e] at ht; cases ht
    | some r =>
      cases e2 : (ptsR ns 8 (mN A))[i]? with
      | none => rw [e, e2] at ht; cases ht
      | some b => rw [e, e2] at ht; cases ht; rw [SH.gD e, SH.gD e2]
  have lys : ys.length = mN A := range_len att
  have hz11' : H z11 = none := g.hh.free hz11
  obtain ⟨Mu, gu, su, tln⟩ := frz_lst (g.trans gt) hz11' mt hyt att'
  have su' := gt.mm.trans su
  replace L := L.mono su'
  replace tf := tf.mono su'
  replace hcg := su' _ _ hcg
  replace atg := atg.mono su'
  replace att' := att'.mono su
  clear gt mt att su su' hcr hcb atr atb g hz11
  refine ⟨_, rfl, two_ok, fun p1 hp1 => ?_⟩
  obtain ⟨M1, g1, s1, w1⟩ := new_tup (K := K) gu hp1 (Ats.cons (.int (i := 0)) (Ats.cons (.int (i := 1)) Ats.nil))
  replace w1 : At K M1 (frT 0) (.ref p1) := w1
  replace hyt := (same_new hp1 (.tup [.int 0, .int 1])) _ _ hyt
  generalize upd Ht p1 (.tup [.int 0, .int 1]) = H1 at g1 hyt ⊢
  refine ⟨big1000 (by show 1 ≤ 1000; decide), fun p2 hp2 => ?_⟩
  have g2 : Gr M H M1 (upd H1 p2 (.lst [.ref p1])) := g1.new hp2
  have h2 : upd H1 p2 (.lst [.ref p1]) p2 = some (.lst [.ref p1]) := upd_same
  replace hyt := (same_new hp2 (.lst [.ref p1])) _ _ hyt
  generalize upd H1 p2 (.lst [.ref p1]) = H2 at g2 h2 hyt ⊢
  refine ⟨cg, p2, yg, _, rfl, rfl, g2.mh _ _ (s1 _ _ hcg), h2, big1000 (by simp; omega), fun p3 hp3 => ?_⟩
  obtain ⟨M3, g3, s3, w3⟩ := new_lst (K := K) (ts := (ptsR ns 22 (nN A) ++ [0]).map frT) g2 hp3 (by rw [List.map_append]; exact (atg.mono s1).snoc w1)
  replace hyt := (same_new hp3 (.lst (yg ++ [.ref p1]))) _ _ hyt
  generalize upd H2 p3 (.lst (yg ++ [.ref p1])) = H3 at g3 hyt ⊢
  refine ⟨big1000 (by show 1 ≤ 1000; decide), fun p4 hp4 => ?_⟩
  have g4 : Gr M H M3 (upd H3 p4 (.lst [.ref p3])) := g3.new hp4
  have h4 : upd H3 p4 (.lst [.ref p3]) p4 = some (.lst [.ref p3]) := upd_same
  replace hyt := (same_new hp4 (.lst [.ref p3])) _ _ hyt
  generalize upd H3 p4 (.lst [.ref p3]) = H4 at g4 h4 hyt ⊢
  refine ⟨z11, p4, ys, _, rfl, rfl, hyt, h4, big1000 (by simp; omega), fun p5 hp5 => ?_⟩
  obtain ⟨M5, g5, s5, w5⟩ := new_lst (K := K) (ts := ((lawS ns (mN A) (nN A)).ln ++ [(lawS ns (mN A) (nN A)).gl]).map lnT) g4 hp5 (by rw [List.map_append]; exact (att'.mono (s1.trans s3)).snoc w3)
  generalize upd H4 p5 (.lst (ys ++ [.ref p3])) = H5 at g5 ⊢
  have sA := s1.trans (s3.trans s5)
  replace L := L.mono sA
  replace tf := tf.mono sA
  clear g1 g2 g3 g4 s1 s3 s5 sA w1 w3 h2 h4 hyt hp1 hp2 hp3 hp4 hp5 att' gu hcg atg tln
  replace w5 : At K M5 (lnsT ((lawS ns (mN A) (nN A)).ln ++ [(lawS ns (mN A) (nN A)).gl])) (.ref p5) := w5
  -- due
  obtain ⟨c4, y4, e4, sq4, _, at4⟩ := copy_lst g5 L.ti
  cases e4
  have e4 : y4 = (innL (mN A)).map V.int := Ats.ints_inv at4
  subst e4
  refine ⟨_, rfl, z4, _, rfl, .inl sq4, fun d0 hd0 => ?_⟩
  have g6 : Gr M H M5 (upd H5 d0 (.lst ((innL (mN A)).map V.int))) := g5.new hd0
  have q0 : upd H5 d0 (.lst ((innL (mN A)).map V.int)) d0 = some (.lst ((innL (mN A)).map V.int)) := upd_same
  have n0 : H d0 = none := g5.hh.free hd0
  have k0 : M5 d0 = none := g5.mh.free hd0
  generalize upd H5 d0 (.lst ((innL (mN A)).map V.int)) = H6 at g6 q0 ⊢
  obtain ⟨c5, y5, e5, sq5, _, at5⟩ := copy_lst g6 L.to_
  cases e5
  have e5 : y5 = (outL (nN A)).map V.int := Ats.ints_inv at5
  subst e5
  refine ⟨_, rfl, z5, _, rfl, .inl sq5, fun d1 hd1 => ?_⟩
  have g7 : Gr M H M5 (upd H6 d1 (.lst ((outL (nN A)).map V.int))) := g6.new hd1
  have q1 : upd H6 d1 (.lst ((outL (nN A)).map V.int)) d1 = some (.lst ((outL (nN A)).map V.int)) := upd_same
  have n1' : H d1 = none := g6.hh.free hd1
  have k1 : M5 d1 = none := g6.mh.free hd1
  have ne01 : d0 ≠ d1 := ne_of_none q0 hd1
  replace q0 := (same_new hd1 (.lst ((outL (nN A)).map V.int))) _ _ q0
  generalize upd H6 d1 (.lst ((outL (nN A)).map V.int)) = H7 at g7 q0 q1 ⊢
  refine ⟨big1000 (by show 2 ≤ 1000; decide), fun d hd => ?_⟩
  have g8 : Gr M H M5 (upd H7 d (.lst [.ref d0, .ref d1])) := g7.new hd
  have qd : upd H7 d (.lst [.ref d0, .ref d1]) d = some (.lst [.ref d0, .ref d1]) := upd_same
  have n2 : H d = none := g7.hh.free hd
  have k2 : M5 d = none := g7.mh.free hd
  have ne0 : d0 ≠ d := ne_of_none q0 hd
  have ne1 : d1 ≠ d := ne_of_none q1 hd
  replace q0 := (same_new hd (.lst [.ref d0, .ref d1])) _ _ q0
  replace q1 := (same_new hd (.lst [.ref d0, .ref d1])) _ _ q1
  generalize upd H7 d (.lst [.ref d0, .ref d1]) = H8 at g8 q0 q1 qd ⊢
  clear g5 g6 g7 hd0 hd1 hd at4 at5 sq4 sq5
  -- the changes
  obtain ⟨c7, y7, e7, hc7, ac⟩ := id L.tc.lst_inv
  cases e7
  have l7 : y7.length = cs.length := by have := ac.1; simp at this; omega
  refine ⟨_, rfl, z7, rfl, ⟨_, SqL.of (g8.mh _ _ hc7)⟩, for_list (K := K) (xs := y7) (fun i σ H' => ∃ (Mi : Hp) (vl : V) (e18 e19 e21 : Option V), σ = [some (.ref a), some (.int (moreI A)), some (.int (mI A)), some (.int (nI A)), some (.ref z4), some (.ref z5), some (.ref z6), some (.ref z7), some (.ref p8), some (.ref p9), some fv, some vl, some (.ref d), none, none, some (.ref cb), some (.ref cr), some (.ref cg), e18, e19, none, e21] ∧ Gr M H Mi H' ∧ Same M5 Mi ∧ At K Mi (lnsT ((run (lawS ns (mN A) (nN A)) cs i).ln ++ [(run (lawS ns (mN A) (nN A)) cs i).gl])) vl ∧
      H' d = some (.lst [.ref d0, .ref d1]) ∧ H' d0 = some (.lst ((run (lawS ns (mN A) (nN A)) cs i).inn.map V.int)) ∧ H' d1 = some (.lst ((run (lawS ns (mN A) (nN A)) cs i).out.map V.int)) ∧ Mi d = none ∧ Mi d0 = none ∧ Mi d1 = none)
    ⟨M5, _, none, none, none, rfl, g8, Same.refl _, w5, qd, q0, q1, k2, k0, k1⟩ (fun i σ H' _ h => by obtain ⟨Mi, _, _, _, _, _, g, s, _⟩ := h; exact SqL.of (g.mh _ _ (s _ _ hc7))) ?_ ?_⟩
  · rintro i xc σ Hi hxc ⟨Mi, vl, e18, e19, e21, rfl, gi, si, tl, hd, hd0, hd1, md, md0, md1⟩
    obtain ⟨tc, htc, atc⟩ := ac.get' hxc
    rw [List.getElem?_map] at htc
    obtain ⟨⟨r, p⟩, hc⟩ : ∃ rp, cs[i]? = some rp := by
      cases e : cs[i]? with
      | none => rw [e] at htc; cases htc
      | some rp => exact ⟨rp, rfl⟩
    rw [hc] at htc
    cases htc
    obtain ⟨pc, rfl, hpc⟩ := pT_inv (atc.mono si)
    obtain ⟨hri, hpi⟩ := csb _ (List.mem_of_getElem? hc)
    obtain ⟨_, ok, sz⟩ := law_all (ns := ns) n1.2 csb i
    have hin := run_in (lawS ns (mN A) (nN A)) cs i
    have lin : (run (lawS ns (mN A) (nN A)) cs i).inn.length = mN A := hin.1.trans (inn_len _)
    have lout : (run (lawS ns (mN A) (nN A)) cs i).out.length = nN A := hin.2.trans (out_len _)
    have hnext := run_succ (s0 := lawS ns (mN A) (nN A)) hc
    obtain ⟨_, _, sz2⟩ := law_all (ns := ns) n1.2 csb (i + 1)
    rw [hnext] at sz2
    generalize run (lawS ns (mN A) (nN A)) cs i = z at *
    have hri' : r < z.inn.length := by rw [lin]; exact hri
    have hpi' : p < z.out.length := by rw [lout]; exact hpi
    have hrl : r < z.ln.length := by rw [ok.ln]; exact hri'
    have hw := ok.wd z.ln[r] (List.getElem_mem hrl)
    obtain ⟨bl, yl, rfl, hbl, al⟩ := id tl.lst_inv
    obtain ⟨vx, hvx, atx⟩ := lns_get al (show (z.ln ++ [z.gl])[r]? = some z.ln[r] by rw [List.getElem?_append_left hrl]; exact List.getElem?_eq_getElem hrl)
    obtain ⟨bx, yx, rfl, hbx, ax⟩ := atx.lst_inv
    obtain ⟨ve, hve, ate⟩ := ln_get ax (List.getElem?_eq_getElem (show p < z.ln[r].length by omega))
    obtain ⟨qe, rfl, hqe⟩ := fr_inv ate
    refine ⟨pc, _, rfl, gi.mh.tup hpc, rfl, _, _, rfl, _, _, rfl, rfl, ?_⟩
    refine ⟨_, rfl, _, rfl, bl, _, _, _, rfl, rfl, SqL.of (gi.mh _ _ hbl), atI_nat hvx, _, rfl, bx, _, _, _, rfl, rfl, SqL.of (gi.mh _ _ hbx), atI_nat hve, two_ok, fun p1 hp1 => ?_⟩
    have gj : Gr M H Mi (upd Hi p1 (.tup [.int 0, .int 1])) := gi.new hp1
    have j1 : SqT K (upd Hi p1 (.tup [.int 0, .int 1])) p1 [.int 0, .int 1] := SqT.of upd_same
    replace hd := (same_new hp1 (.tup [.int 0, .int 1])) _ _ hd
    replace hd0 := (same_new hp1 (.tup [.int 0, .int 1])) _ _ hd0
    replace hd1 := (same_new hp1 (.tup [.int 0, .int 1])) _ _ hd1
    generalize upd Hi p1 (.tup [.int 0, .int 1]) = Hj at gj j1 hd hd0 hd1 ⊢
    refine ⟨qe, p1, _, _, _, _, rfl, rfl, gj.mh.tup hqe, j1, hr.units0, _, rfl, ?_⟩
    have ee : (z.ln.getD r []).getD p 0 = z.ln[r][p]'(by omega) := by rw [SH.gD (List.getElem?_eq_getElem hrl), SH.getD_of (List.getElem?_eq_getElem (by omega))]
    by_cases h0 : z.ln[r][p]'(by omega) = 0
    · have hch : chg z (r, p) = z := if_neg (by show ¬ (z.ln.getD r []).getD p 0 ≠ 0; rw [ee]; exact fun z => z h0)
      rw [hch] at hnext
      rw [decide_eq_true ((fr_zero _).mpr h0)]
      refine iteF ⟨Mi, .ref bl, _, _, _, rfl, gj, si, ?_, hd, ?_, ?_, md, md0, md1⟩
      · rw [hnext]; exact tl
      · rw [hnext]; exact hd0
      · rw [hnext]; exact hd1
    · have hch : chg z (r, p) = z.exch r p := if_pos (by show (z.ln.getD r []).getD p 0 ≠ 0; rw [ee]; exact h0)
      rw [hch] at hnext sz2
      rw [decide_eq_false (fun z => h0 ((fr_zero _).mp z))]
      obtain ⟨u, n, l, a', hat⟩ := ok.at_ hri' hpi' (by rw [ee]; exact h0)
      refine iteT ⟨_, rfl, _, rfl, _, rfl, _, z, r, p, u, n, l, a', Mi, rfl, tl, ok, hat, sz, sz2, by omega, by omega, gj.mh, fun xv M9 H9 g9 h9 => ?_⟩
      have gk := gj.trans g9
      replace md := g9.fr _ _ hd md
      replace md0 := g9.fr _ _ hd0 md0
      replace md1 := g9.fr _ _ hd1 md1
      replace hd := g9.hh _ _ hd
      replace hd0 := g9.hh _ _ hd0
      replace hd1 := g9.hh _ _ hd1
      have iu : (z.inn.map V.int)[r]? = some (.int u) := by rw [List.getElem?_map, hat.hu]; rfl
      have iv : (z.out.map V.int)[p]? = some (.int n) := by rw [List.getElem?_map, hat.hv]; rfl
      -- unknown
      refine ⟨_, rfl, d, _, _, _, rfl, rfl, SqL.of hd, rfl, _, rfl, d0, _, _, _, rfl, rfl, SqL.of hd0, atI_nat iu, ?_⟩
      -- due[0][place] = due[1][column]
      refine ⟨_, rfl, d, _, _, _, rfl, rfl, SqL.of hd, rfl, _, rfl, d1, _, _, _, rfl, rfl, SqL.of hd1, atI_nat iv, _, rfl, d, _, _, _, rfl, rfl, SqL.of hd, rfl, _, rfl, d0, _, _, r, rfl, rfl, hd0, ix_nat (by simpa using hri'), ?_⟩
      -- due[1][column] = unknown
      have hd' : upd H9 d0 (.lst ((z.inn.map V.int).set r (.int n))) d = some (.lst [.ref d0, .ref d1]) := by rw [upd_ne ne0.symm]; exact hd
      have hd1' : upd H9 d0 (.lst ((z.inn.map V.int).set r (.int n))) d1 = some (.lst (z.out.map V.int)) := by rw [upd_ne ne01.symm]; exact hd1
      have hd0' : upd H9 d0 (.lst ((z.inn.map V.int).set r (.int n))) d0 = some (.lst ((z.inn.map V.int).set r (.int n))) := upd_same
      have gm : Gr M H M9 (upd H9 d0 (.lst ((z.inn.map V.int).set r (.int n)))) := gk.put n0 md0
      generalize upd H9 d0 (.lst ((z.inn.map V.int).set r (.int n))) = H10 at hd' hd1' hd0' gm ⊢
      refine ⟨_, rfl, _, rfl, d, _, _, _, rfl, rfl, SqL.of hd', rfl, _, rfl, d1, _, _, p, rfl, rfl, hd1', ix_nat (by simpa using hpi'), ?_⟩
      refine ⟨M9, xv, _, _, _, rfl, gm.put n1' md1, si.trans g9.mm, ?_, by rw [upd_ne ne1.symm]; exact hd', ?_, ?_, md, md0, md1⟩
      · rw [hnext]; exact h9
      · rw [upd_ne ne01, hd0', hnext, SH.Sh.exch_eq hat, List.map_set]
      · rw [upd_same, hnext, SH.Sh.exch_eq hat, List.map_set]
  · rintro σ Hi ⟨Mi, vl, e18, e19, e21, rfl, gi, si, tl, hd, hd0, hd1, md, md0, md1⟩
    rw [l7] at tl hd0 hd1
    have ga := gi.frz n0 md0 hd0
    have k1a : upd Mi d0 (.lst ((run (lawS ns (mN A) (nN A)) cs cs.length).inn.map V.int)) d1 = none := by rw [upd_ne ne01.symm]; exact md1
    have gb := ga.frz n1' k1a hd1
    have k2b : upd (upd Mi d0 (.lst ((run (lawS ns (mN A) (nN A)) cs cs.length).inn.map V.int))) d1 (.lst ((run (lawS ns (mN A) (nN A)) cs cs.length).out.map V.int)) d = none := by rw [upd_ne ne1.symm, upd_ne ne0.symm]; exact md
    have gc := gb.frz n2 k2b hd
    have sc := (same_new md0 (.lst ((run (lawS ns (mN A) (nN A)) cs cs.length).inn.map V.int))).trans ((same_new k1a (.lst ((run (lawS ns (mN A) (nN A)) cs cs.length).out.map V.int))).trans (same_new k2b (.lst [.ref d0, .ref d1])))
    refine hrest D hD _ _ _ _ _ _ _ _ _ _ _ _ _ _ _ _ _ cs csb gc (L.mono (si.trans sc)) (tf.mono (si.trans sc)) (tl.mono sc) ?_
    refine Ats.lst (xs := [.ref d0, .ref d1]) (Ats.cons ((Ats.ints _).lst ?_) (Ats.cons ((Ats.ints _).lst ?_) Ats.nil)) upd_same
    · rw [upd_ne ne0, upd_ne ne01]; exact upd_same
    · rw [upd_ne ne1]; exact upd_same
end
end W1


namespace W1
open PySem PySem.Spec L2
section
variable {P : Program} {w : World} {K : PySem.W.Frag} {mg : Str → Option Value} {base : Heap} {t : Adr} {k : Nat}
set_option maxHeartbeats 4000000 in
theorem law_B (T : Txt K mg t) (G_after_changes : FnOk P w K mg base (CXE P w) k t.f_after_changes t.d_after_changes ["inner", "outer", "bases", "rows", "gains", "changes"] (spAfter K)) (G__law_same : FnOk P w K mg base (CXE P w) k t.f__law_same t.d__law_same ["_law_found", "_law_due"] (spSame K)) (G__law_is_sheet : FnOk P w K mg base (CXE P w) k t.f__law_is_sheet t.d__law_is_sheet ["_law_found"] (spIsSheet K)) (G__law_changed : FnOk P w K mg base (CXE P w) k t.f__law_changed t.d__law_changed ["_law_lines", "_law_place", "_law_column"] (spChanged K)) (G__law_values_of : FnOk P w K mg base (CXE P w) k t.f__law_values_of t.d__law_values_of ["_law_script", "_law_inner", "_law_outer", "_law_bases", "_law_rows"] (spValues K)) (G__law_goal_of : FnOk P w K mg base (CXE P w) k t.f__law_goal_of t.d__law_goal_of ["_law_script", "_law_gains"] (spGoal K)) (G__law_fits : FnOk P w K mg base (CXE P w) k t.f__law_fits t.d__law_fits ["_law_found", "_law_values", "_law_goal"] (spFits K))
    {cdv : Value} {A0 : Around} {outer : List Env} {s : Shared} {H : Hp} {E : XK} (hr : Room k (A0.deeper (PyProof.Rows.envOfC "law" (defScope s_law) s.heap.objs.size t.f_law cdv))) {a : Addr} {ns : List Int} (hS : SqL K H a (ns.map V.int)) (h63 : ns.length ≤ 63) (A : Int) {M : Hp} : ∃ u, PSs (cxOf (CXE P w) P w K mg base ["_law_script", "_law_more", "_law_many", "_law_wide", "_law_inner", "_law_outer", "_law_cells", "_law_changes", "_law_ones", "_law_lists", "_law_found", "_law_lines", "_law_due", "_law_k", "_law_values", "_law_bases", "_law_rows", "_law_gains", "_law_place", "_law_column", "_law_own", "_law_unknown"] "law" (defScope s_law) t.f_law cdv A0 outer s H E) ((defBody s_law).drop 10) u ∧
      ∀ (D : Ends), (∀ H'', D.rt (.bl true) H'') → ∀ (M' H' : Hp) (z4 z5 z6 z7 p8 p9 : Addr) (vb vr vg : V) (cs : List (Nat × Nat)), cs.length ≤ 63 → (∀ c ∈ cs, c.1 < mN A ∧ c.2 < nN A) → Gr M H M' H' → LT K ns A cs M' (.ref z4) (.ref z5) vb vr vg (.ref z7) →
      At K M' (.lst [intsT (innL (mN A)), intsT (outL (nN A)), lnT (ptsR ns 8 (mN A))]) (.ref p8) → At K M' (.lst [lnsT (rowsR ns (mN A) (nN A)), lnT (ptsR ns 22 (nN A)), chT cs]) (.ref p9) → u D [some (.ref a), some (.int (moreI A)), some (.int (mI A)), some (.int (nI A)), some (.ref z4), some (.ref z5), some (.ref z6), some (.ref z7), some (.ref p8), some (.ref p9), none, none, none, none, none, some vb, some vr, some vg, none, none, none, none] H' := by
  refine ex_cons (ps_set (i := 10) sc_law.nd rfl (Or.inl rfl) (pe_call G_after_changes hr rfl T.m_after_changes T.F_after_changes.kp T.b_after_changes .nil pass_no (pa_cons (pe_ix ix_list (pv 8) pe_int (fun _ _ => rfl)) (pa_cons (pe_ix ix_list (pv 8) pe_int (fun _ _ => rfl)) (pa_cons (pe_ix ix_list (pv 8) pe_int (fun _ _ => rfl)) (pa_cons (pe_ix ix_list (pv 9) pe_int (fun _ _ => rfl)) (pa_cons (pe_ix ix_list (pv 9) pe_int (fun _ _ => rfl)) (pa_cons (pe_ix ix_list (pv 9) pe_int (fun _ _ => rfl)) pa_nil)))))))) ?_
  refine ex_cons (ps_if (pt_not (pt_val (pe_call G__law_same hr rfl T.m__law_same T.F__law_same.kp T.b__law_same .nil pass_no (pa_cons (pv 8) (pa_cons (pe_lst (pa_cons (pv 4) (pa_cons (pv 5) (pa_cons (pv 15) pa_nil)))) pa_nil)))))
      (pss_one (ps_ret pe_bl))
      pss_nil) ?_
  refine ex_cons (ps_if (PW.pt (pw_or (pt_not (pt_val (pe_call G__law_same hr rfl T.m__law_same T.F__law_same.kp T.b__law_same .nil pass_no (pa_cons (pv 9) (pa_cons (pe_lst (pa_cons (pv 16) (pa_cons (pv 17) (pa_cons (pv 7) pa_nil)))) pa_nil))))) (pw_or1 (pt_not (pt_val (pe_call G__law_is_sheet hr rfl T.m__law_is_sheet T.F__law_is_sheet.kp T.b__law_is_sheet .nil pass_no (pa_cons (pv 10) pa_nil)))))))
      (pss_one (ps_ret pe_bl))
      pss_nil) ?_
  refine ex_tail (law_C T G__law_same G__law_changed G__law_values_of G__law_goal_of G__law_fits hr hS h63 A (M := M)) (fun rest hrest => ?_)
  intro D hD M' H' z4 z5 z6 z7 p8 p9 vb vr vg cs csl csb g L u8 u9
  obtain ⟨hm, m1⟩ := mN_is A
  obtain ⟨hn, n1⟩ := nN_is A
  have all := law_all (ns := ns) (m := mN A) (n := nN A) n1.2 csb
  obtain ⟨_, x8, e8, q8, a8⟩ := id u8.lst_inv
  cases e8
  obtain ⟨_, x9, e9, q9, a9⟩ := id u9.lst_inv
  cases e9
  obtain ⟨o1, o2, o3, rfl⟩ : ∃ x0 x1 x2, x8 = [x0, x1, x2] := by
    match x8, a8.1 with
    | [x0, x1, x2], _ => exact ⟨_, _, _, rfl⟩
  obtain ⟨o4, o5, o6, rfl⟩ : ∃ x0 x1 x2, x9 = [x0, x1, x2] := by
    match x9, a9.1 with
    | [x0, x1, x2], _ => exact ⟨_, _, _, rfl⟩
  have q8L := SqL.of (K := K) (g.mh _ _ q8)
  have q9L := SqL.of (K := K) (g.mh _ _ q9)
  refine ⟨_, rfl, p8, _, _, _, rfl, rfl, q8L, rfl, _, rfl, p8, _, _, _, rfl, rfl, q8L, rfl, _, rfl, p8, _, _, _, rfl, rfl, q8L, rfl, _, rfl, p9, _, _, _, rfl, rfl, q9L, rfl, _, rfl, p9, _, _, _, rfl, rfl, q9L, rfl, _, rfl, p9, _, _, _, rfl, rfl, q9L, rfl, ?_⟩
  refine ⟨_, _, _, _, _, _, innL (mN A), outL (nN A), ptsR ns 8 (mN A), rowsR ns (mN A) (nN A), ptsR ns 22 (nN A), cs, M', rfl, a8.2 0 _ _ rfl rfl, a8.2 1 _ _ rfl rfl, a8.2 2 _ _ rfl rfl, a9.2 0 _ _ rfl rfl, a9.2 1 _ _ rfl rfl, a9.2 2 _ _ rfl rfl, by rw [inn_len]; omega, by rw [out_len]; omega, by rw [rows_len, inn_len], by rw [pts_len, inn_len], by rw [pts_len, out_len], by omega,
    fun r hr => by
      obtain ⟨i, hi⟩ := List.mem_iff_getElem?.mp hr
      rw [out_len]
      exact (rows_get hi).1,
    fun c hc => by rw [inn_len, out_len]; exact csb c hc, fun j => (all j).2, g.mh, fun fv Mn Hn gn tf => ?_⟩
  replace g := g.trans gn
  replace L := L.mono gn.mm
  replace u8 := u8.mono gn.mm
  replace u9 := u9.mono gn.mm
  clear q8 q9 q8L q9L gn a8 a9
  -- what was handed in is the same
  refine ⟨_, rfl, _, rfl, _, rfl, _, rfl, big1000 (by show 3 ≤ 1000; decide), fun p hp => ?_⟩
  obtain ⟨Mo, go, so, v8⟩ := new_lst (K := K) g hp (Ats.cons L.ti (Ats.cons L.to_ (Ats.cons L.tb Ats.nil)))
  refine ⟨_, _, _, Mo, rfl, u8.mono so, v8, ?_, go.mh, fun Hp1 gp => ⟨_, rfl, iteF ?_⟩⟩
  · have c1 := cnt_ints (innL (mN A))
    have c2 := cnt_ints (outL (nN A))
    have c3 := cnt_ln (ptsR ns 8 (mN A))
    rw [inn_len] at c1
    rw [out_len] at c2
    rw [pts_len] at c3
    show 1 + (cnt (intsT (innL (mN A))) + (cnt (intsT (outL (nN A))) + (cnt (lnT (ptsR ns 8 (mN A))) + 0))) ≤ 1000
    omega
  replace g := go.trans gp
  replace L := L.mono so
  replace u9 := u9.mono so
  replace tf := tf.mono so
  clear go gp so v8 u8 hp
  refine ⟨_, rfl, _, rfl, _, rfl, _, rfl, big1000 (by show 3 ≤ 1000; decide), fun p hp => ?_⟩
  obtain ⟨Mq, gq, sq, v9⟩ := new_lst (K := K) g hp (Ats.cons L.tr (Ats.cons L.tg (Ats.cons L.tc Ats.nil)))
  refine ⟨_, _, _, Mq, rfl, u9.mono sq, v9, ?_, gq.mh, fun Hr gr => ⟨_, rfl, iteF ?_⟩⟩
  · have c1 := cnt_lns (n := nN A) (rowsR ns (mN A) (nN A)) (fun l hl => by
      obtain ⟨i, hi⟩ := List.mem_iff_getElem?.mp hl
      exact Nat.le_of_eq (rows_get hi).1)
    have c2 := cnt_ln (ptsR ns 22 (nN A))
    have c3 := cnt_ch cs
    rw [rows_len] at c1
    rw [pts_len] at c2
    have c4 : mN A * (1 + nN A * 3) ≤ 7 * (1 + 7 * 3) := Nat.mul_le_mul m1.2 (by omega)
    show 1 + (cnt (lnsT (rowsR ns (mN A) (nN A))) + (cnt (lnT (ptsR ns 22 (nN A))) + (cnt (chT cs) + 0))) ≤ 1000
    omega
  replace g := gq.trans gr
  replace L := L.mono sq
  replace tf := tf.mono sq
  refine ⟨_, rfl, _, _, Mq, rfl, tf, g.mh, fun Hs gs => ⟨_, rfl, iteF ?_⟩⟩
  exact hrest D hD _ _ _ _ _ _ _ _ _ _ _ _ cs csl csb (g.trans gs) L tf
set_option maxHeartbeats 4000000 in
theorem ok_law (T : Txt K mg t) (G_after_changes : FnOk P w K mg base (CXE P w) k t.f_after_changes t.d_after_changes ["inner", "outer", "bases", "rows", "gains", "changes"] (spAfter K)) (G__law_at : FnOk P w K mg base (CXE P w) k t.f__law_at t.d__law_at ["_law_script", "_law_k"] (spAt K)) (G__law_same : FnOk P w K mg base (CXE P w) k t.f__law_same t.d__law_same ["_law_found", "_law_due"] (spSame K)) (G__law_sheet_of : FnOk P w K mg base (CXE P w) k t.f__law_sheet_of t.d__law_sheet_of ["_law_script", "_law_many", "_law_wide"] (spSheetOf K)) (G__law_is_sheet : FnOk P w K mg base (CXE P w) k t.f__law_is_sheet t.d__law_is_sheet ["_law_found"] (spIsSheet K)) (G__law_changed : FnOk P w K mg base (CXE P w) k t.f__law_changed t.d__law_changed ["_law_lines", "_law_place", "_law_column"] (spChanged K)) (G__law_values_of : FnOk P w K mg base (CXE P w) k t.f__law_values_of t.d__law_values_of ["_law_script", "_law_inner", "_law_outer", "_law_bases", "_law_rows"] (spValues K)) (G__law_goal_of : FnOk P w K mg base (CXE P w) k t.f__law_goal_of t.d__law_goal_of ["_law_script", "_law_gains"] (spGoal K)) (G__law_fits : FnOk P w K mg base (CXE P w) k t.f__law_fits t.d__law_fits ["_law_found", "_law_values", "_law_goal"] (spFits K)) :
    FnOk P w K mg base (CXE P w) (k + 1) t.f_law t.d_law ["_law_script"] (spLaw K) := by
  refine T.F_law.okE sc_law (fun vs H Q E h => ?_) (fun cdv A outer s H vs Q E hr h => ?_)
  · obtain ⟨a, ns, rfl, _⟩ := h
    rfl
  obtain ⟨a, ns, rfl, hS, h63, q⟩ := h
  obtain ⟨M, hM⟩ : ∃ M : Hp, Same M H := ⟨fun _ => none, fun _ _ e => by cases e⟩
  obtain ⟨A, hA⟩ : ∃ A, A = atV ns 0 := ⟨_, rfl⟩
  refine ex_cons (ps_set (i := 1) sc_law.nd rfl (Or.inl rfl) (pe_op op_mulB pe_int (pe_callTy call_int1 rfl T.n_int bt_int (pa_cons (pe_or (pe_cmpR op_gt (pe_callB call_len_seq rfl T.n_len PySem.boot_len (pa_cons (pv 0) pa_nil)) pe_int (nomark _)) (pe_one (pe_cmpR op_eq (pe_op op_mod (pe_call G__law_at hr rfl T.m__law_at T.F__law_at.kp T.b__law_at .nil pass_no (pa_cons (pv 0) (pa_cons pe_int pa_nil))) pe_int) pe_int (nomark _)))) pa_nil)))) ?_
  refine ex_cons (ps_set (i := 2) sc_law.nd rfl (Or.inr rfl) (pe_op op_add (pe_op op_add pe_int (pe_op op_mod (pe_call G__law_at hr rfl T.m__law_at T.F__law_at.kp T.b__law_at .nil pass_no (pa_cons (pv 0) (pa_cons pe_int pa_nil))) pe_int)) (pv 1))) ?_
  refine ex_cons (ps_set (i := 3) sc_law.nd rfl (Or.inr rfl) (pe_op op_add (pe_op op_add pe_int (pe_op op_mod (pe_op op_fdivB (pe_call G__law_at hr rfl T.m__law_at T.F__law_at.kp T.b__law_at .nil pass_no (pa_cons (pv 0) (pa_cons pe_int pa_nil))) pe_int) pe_int)) (pv 1))) ?_
  refine ex_cons (ps_asg (pe_call G__law_sheet_of hr rfl T.m__law_sheet_of T.F__law_sheet_of.kp T.b__law_sheet_of .nil pass_no (pa_cons (pv 0) (pa_cons (pv 2) (pa_cons (pv 3) pa_nil)))) (pg_tup (n := 3) rfl (pgs_cons (pg_name (i := 15) sc_law.nd rfl (Or.inr rfl)) (pgs_cons (pg_name (i := 16) sc_law.nd rfl (Or.inr rfl)) (pgs_cons (pg_name (i := 17) sc_law.nd rfl (Or.inl rfl)) pgs_nil))))) ?_
  refine ex_cons (ps_compG (iy := 4) sc_law.nd rfl (Or.inl rfl) rfl (compt_of (n := 1) (js := []) (Nb := ["_law_k"]) (by kernel_rfl) rfl (by decide +kernel) (by decide) (by kernel_rfl)) (pi_range1 rfl T.n_range (pa_cons (pv 2) pa_nil)) (fun C s0 H0 fp pn' => (pg_name (i := 0) (nd_of (l := ["_law_k"]) (by decide +kernel)) rfl (Or.inl rfl))) own_name (fun C s0 H0 fp pn' => pts_none) (fun C s0 H0 fp pn' => (pe_op op_add pe_int (pv 0)))) ?_
  refine ex_cons (ps_compG (iy := 5) sc_law.nd rfl (Or.inl rfl) rfl (compt_of (n := 1) (js := []) (Nb := ["_law_k"]) (by kernel_rfl) rfl (by decide +kernel) (by decide) (by kernel_rfl)) (pi_range1 rfl T.n_range (pa_cons (pv 3) pa_nil)) (fun C s0 H0 fp pn' => (pg_name (i := 0) (nd_of (l := ["_law_k"]) (by decide +kernel)) rfl (Or.inl rfl))) own_name (fun C s0 H0 fp pn' => pts_none) (fun C s0 H0 fp pn' => (pe_op op_sub (pv 0) pe_int))) ?_
  refine ex_cons (ps_set (i := 6) sc_law.nd rfl (Or.inl rfl) (pe_slice sl_list (pv 0) (po_some pe_int) (po_some (pe_op op_add pe_int (pe_op op_mulB pe_int (pv 1)))))) ?_
  refine ex_cons (ps_compG (iy := 7) sc_law.nd rfl (Or.inl rfl) rfl (compt_of (n := 1) (js := [2, 3]) (Nb := ["_law_cell", "_law_many", "_law_wide"]) (by kernel_rfl) rfl (by decide +kernel) (by decide) (by kernel_rfl)) (pi_list (pv 6)) (fun C s0 H0 fp pn' => (pg_name (i := 0) (nd_of (l := ["_law_cell", "_law_many", "_law_wide"]) (by decide +kernel)) rfl (Or.inl rfl))) own_name (fun C s0 H0 fp pn' => pts_none) (fun C s0 H0 fp pn' => (pe_tup (pa_cons (pe_op op_mod (pv 0) (pv 1)) (pa_cons (pe_op op_mod (pe_op op_fdivB (pv 0) pe_int) (pv 2)) pa_nil))))) ?_
  refine ex_cons (ps_set (i := 8) sc_law.nd rfl (Or.inl rfl) (pe_lst (pa_cons (pe_callTy call_list_of rfl T.n_list bt_list (pa_cons (pv 4) pa_nil)) (pa_cons (pe_callTy call_list_of rfl T.n_list bt_list (pa_cons (pv 5) pa_nil)) (pa_cons (pe_callTy call_list_of rfl T.n_list bt_list (pa_cons (pv 15) pa_nil)) pa_nil))))) ?_
  refine ex_cons (ps_set (i := 9) sc_law.nd rfl (Or.inl rfl) (pe_lst (pa_cons (pe_compG rfl (compt_of (n := 1) (js := []) (Nb := ["_law_row"]) (by kernel_rfl) rfl (by decide +kernel) (by decide) (by kernel_rfl)) (pi_list (pv 16)) (fun C s0 H0 fp pn' => (pg_name (i := 0) (nd_of (l := ["_law_row"]) (by decide +kernel)) rfl (Or.inl rfl))) own_name (fun C s0 H0 fp pn' => pts_none) (fun C s0 H0 fp pn' => (pe_callTy (r := rListOf K) call_list_of rfl T.n_list bt_list (pa_cons (pv 0) pa_nil)))) (pa_cons (pe_callTy call_list_of rfl T.n_list bt_list (pa_cons (pv 17) pa_nil)) (pa_cons (pe_callTy call_list_of rfl T.n_list bt_list (pa_cons (pv 7) pa_nil)) pa_nil))))) ?_
  refine ex_tail (law_B T G_after_changes G__law_same G__law_is_sheet G__law_changed G__law_values_of G__law_goal_of G__law_fits hr hS h63 A (M := M)) (fun rest hrest => ?_)
  have hnl : (ns.map V.int).length = ns.length := List.length_map _
  -- more
  refine ⟨_, rfl, a, _, rfl, .inl hS, _, _, rfl, rfl, _, rfl, ?_⟩
  rw [hnl, decide_eq_false (show ¬ (63 : Int) < (ns.length : Nat) by omega)]
  refine iteF ⟨_, rfl, a, ns, 0, M, rfl, hS, h63, hM, fun H1 g1 => ?_⟩
  rw [← hA]
  refine ⟨A, 32, rfl, rfl, z32, rfl, .inr ⟨decide (V.int (A % 32) = V.int 9), rfl, 4, if decide (V.int (A % 32) = V.int 9) = true then 1 else 0, rfl, rfl, .of_left (by decide), ?_⟩⟩
  -- many, wide
  refine ⟨_, rfl, a, ns, 0, M, rfl, g1.hh.seq hS, h63, g1.mh, fun H2 g2 => ?_⟩
  rw [← hA]
  refine ⟨A, 3, rfl, rfl, z3, 1, A % 3, rfl, rfl, _, rfl, 1 + A % 3, moreI A, rfl, rfl, ?_⟩
  have g12 := g1.trans g2
  refine ⟨_, rfl, a, ns, 0, M, rfl, g12.hh.seq hS, h63, g12.mh, fun H3 g3 => ?_⟩
  rw [← hA]
  refine ⟨A, 3, rfl, rfl, ⟨by decide, lt9000 (by decide)⟩, A.fdiv 3, 3, rfl, rfl, z3, 1, A.fdiv 3 % 3, rfl, rfl, _, rfl, 1 + A.fdiv 3 % 3, moreI A, rfl, rfl, ?_⟩
  have g4 := g12.trans g3
  obtain ⟨hm, m1⟩ := mN_is A
  obtain ⟨hn, n1⟩ := nN_is A
  -- the sheet
  refine ⟨_, rfl, _, rfl, _, rfl, a, ns, mI A, nI A, mN A, nN A, M, rfl, hm, hn, g4.hh.seq hS, h63, by omega, by omega, g4.mh, fun sv M5 H5 g5 hsv => ?_⟩
  have g5' := g4.trans g5
  obtain ⟨ps, xs, rfl, hps, ats⟩ := hsv.tup_inv
  obtain ⟨vb, vr, vg, rfl⟩ : ∃ x0 x1 x2, xs = [x0, x1, x2] := by
    match xs, ats.1 with
    | [x0, x1, x2], _ => exact ⟨_, _, _, rfl⟩
  have tb := ats.2 0 _ _ rfl rfl
  have tr := ats.2 1 _ _ rfl rfl
  have tg := ats.2 2 _ _ rfl rfl
  refine ⟨ps, _, rfl, g5'.mh.tup hps, rfl, _, _, rfl, _, _, rfl, _, _, rfl, rfl, ?_⟩
  clear hps hsv ats
  -- inner
  refine ⟨_, rfl, mI A, rfl, by omega, by omega, fun z4 hz4 => cm_range (K := K) (M := M5) (n := mN A) (F := fun i => .int (7 + (i : Int))) g5'.mh (by omega) hz4 (fun i Mi Hi Qy hi gi kk => ?_) (fun M6 H6 ys g6 m6 hy6 at6 => ?_)⟩
  · rw [Int.zero_add]
    exact ⟨_, rfl, _, _, rfl, rfl, kk _ _ _ (Gr.refl gi.mh) .int⟩
  obtain ⟨M7, g7, s67, ti⟩ := frz_lst (g5'.trans g6) (g5'.hh.free hz4) m6 hy6 (range_ats (f := fun i => 7 + (i : Int)) at6)
  have ti : At K M7 (intsT (innL (mN A))) (.ref z4) := ti
  have s57 := g6.mm.trans s67
  replace tb := tb.mono s57
  replace tr := tr.mono s57
  replace tg := tg.mono s57
  clear g6 m6 hy6 at6 s67 s57 g5' g5
  -- outer
  refine ⟨_, rfl, nI A, rfl, by omega, by omega, fun z5 hz5 => cm_range (K := K) (M := M7) (n := nN A) (F := fun i => .int ((i : Int) - 1)) g7.mh (by omega) hz5 (fun i Mi Hi Qy hi gi kk => ?_) (fun M8 H8 ys g8 m8 hy8 at8 => ?_)⟩
  · rw [Int.zero_add]
    exact ⟨_, rfl, _, _, rfl, rfl, kk _ _ _ (Gr.refl gi.mh) .int⟩
  obtain ⟨M9, g9, s89, to_⟩ := frz_lst (g7.trans g8) (g7.hh.free hz5) m8 hy8 (range_ats (f := fun i => (i : Int) - 1) at8)
  have to_ : At K M9 (intsT (outL (nN A))) (.ref z5) := to_
  have s79 := g8.mm.trans s89
  replace tb := tb.mono s79
  replace tr := tr.mono s79
  replace tg := tg.mono s79
  replace ti := ti.mono s79
  clear g8 m8 hy8 at8 s89 s79 g7
  -- cells
  refine ⟨_, rfl, _, rfl, _, rfl, 4, moreI A, rfl, rfl, .of_left (by decide), 7, 4 * moreI A, rfl, rfl, 7 + 4 * moreI A, rfl, a, _, rfl, g9.hh.seq hS, fun z6 hz6 => ?_⟩
  obtain ⟨cells, hcut, hcl⟩ := cut_ints ns (some 1) (some (7 + 4 * moreI A))
  rw [hcut]
  obtain ⟨Ma, ga, sa, tc⟩ := new_lst (K := K) g9 hz6 (Ats.ints cells)
  have tc : At K Ma (intsT cells) (.ref z6) := tc
  replace tb := tb.mono sa
  replace tr := tr.mono sa
  replace tg := tg.mono sa
  replace ti := ti.mono sa
  replace to_ := to_.mono sa
  generalize upd H8 z6 (.lst (cells.map V.int)) = Ha at ga ⊢
  clear g9 sa hz6 hcut
  -- changes
  obtain ⟨b6, y6, e6, hb6, ac⟩ := tc.lst_inv
  cases e6
  have e6 := Ats.ints_inv ac
  subst e6
  refine ⟨_, rfl, z6, rfl, ⟨_, SqL.of (ga.mh _ _ hb6)⟩, fun z7 hz7 => cm_list (K := K) (M := Ma) (F := fun i => pT (cells.getD i 0 % mI A) ((cells.getD i 0).fdiv 4 % nI A)) ga.mh hb6 (by rw [List.length_map]; omega) hz7 (fun i x Mi Hi Qy hx gi kk => ?_) (fun Mb Hb ys gb mb hyb atb => ?_)⟩
  · rw [List.getElem?_map] at hx
    cases e : cells[i]? with
    | none => rw [e] at hx; cases hx
    | some c =>
      rw [e] at hx
      cases hx
      refine ⟨_, rfl, _, rfl, c, mI A, rfl, rfl, by show (0 : Int) < mI A; omega, _, rfl, c, 4, rfl, rfl, ⟨by decide, lt9000 (by decide)⟩, _, rfl, c.fdiv 4, nI A, rfl, rfl, by show (0 : Int) < nI A; omega, two_ok, fun p hp => ?_⟩
      refine kk _ _ _ ((Gr.refl gi.mh).add hp) ?_
      rw [SH.gD e]
      exact pT_mk (SqT.of upd_same)
  obtain ⟨cs, hcs⟩ : ∃ cs : List (Nat × Nat), cs = cells.map fun c => ((c % mI A).toNat, (c.fdiv 4 % nI A).toNat) := ⟨_, rfl⟩
  have csl : cs.length ≤ 63 := by rw [hcs, List.length_map]; omega
  have csb : ∀ c ∈ cs, c.1 < mN A ∧ c.2 < nN A := by
    intro c hc
    rw [hcs] at hc
    obtain ⟨x, _, rfl⟩ := List.mem_map.mp hc
    have b1 := Int.emod_lt_of_pos x (show (0 : Int) < mI A by omega)
    have b2 := Int.emod_lt_of_pos (x.fdiv 4) (show (0 : Int) < nI A by omega)
    have b3 := Int.emod_nonneg x (show mI A ≠ 0 by omega)
    have b4 := Int.emod_nonneg (x.fdiv 4) (show nI A ≠ 0 by omega)
    exact ⟨by show (x % mI A).toNat < mN A; omega, by show (x.fdiv 4 % nI A).toNat < nN A; omega⟩
  have atb' : Ats K Mb (cs.map fun c => pT c.1 c.2) ys := ats_range atb (by rw [List.length_map, List.length_map, hcs, List.length_map]) fun i t ht => by
    rw [hcs, List.getElem?_map, List.getElem?_map] at ht
    cases e : cells[i]? with
    | none => rw [e] at ht; cases ht
    | some c =>
      rw [e] at ht
      cases ht
      have b3 := Int.emod_nonneg c (show mI A ≠ 0 by omega)
      have b4 := Int.emod_nonneg (c.fdiv 4) (show nI A ≠ 0 by omega)
      rw [SH.gD e]
      show pT _ _ = pT _ _
      rw [Int.toNat_of_nonneg b3, Int.toNat_of_nonneg b4]
  obtain ⟨Mc, gc, sbc, tch⟩ := frz_lst (ga.trans gb) (ga.hh.free hz7) mb hyb atb'
  have tch : At K Mc (chT cs) (.ref z7) := tch
  have sac := gb.mm.trans sbc
  have L : LT K ns A cs Mc (.ref z4) (.ref z5) vb vr vg (.ref z7) := ⟨ti.mono sac, to_.mono sac, tb.mono sac, tr.mono sac, tg.mono sac, tch⟩
  clear gb mb hyb atb atb' sbc sac ga hcs tc ac hb6 ti to_ tb tr tg tch
  have big : ∀ {n : Nat}, n ≤ 1000 → n ≤ sizeLine := fun h => Nat.le_of_lt (small1000 h)
  -- ones
  obtain ⟨c4, y4, e4, sq4, _, at4⟩ := copy_lst gc L.ti
  cases e4
  refine ⟨_, rfl, z4, y4, rfl, .inl sq4, fun o1 ho1 => ?_⟩
  obtain ⟨Md, gd, sd, u1⟩ := new_lst (K := K) gc ho1 at4
  replace L := L.mono sd
  generalize upd Hb o1 (.lst y4) = Hd at gd ⊢
  obtain ⟨c5, y5, e5, sq5, _, at5⟩ := copy_lst gd L.to_
  cases e5
  refine ⟨_, rfl, z5, y5, rfl, .inl sq5, fun o2 ho2 => ?_⟩
  obtain ⟨Me, ge, se, u2⟩ := new_lst (K := K) gd ho2 at5
  replace L := L.mono se
  replace u1 := u1.mono se
  generalize upd Hd o2 (.lst y5) = He at ge ⊢
  obtain ⟨cb, yb, eb, sqb, _, atb⟩ := copy_lst ge L.tb
  refine ⟨_, rfl, cb, yb, by rw [eb], .inl sqb, fun o3 ho3 => ?_⟩
  obtain ⟨Mf, gf, sf, u3⟩ := new_lst (K := K) ge ho3 atb
  replace L := L.mono sf
  replace u1 := u1.mono sf
  replace u2 := u2.mono sf
  generalize upd He o3 (.lst yb) = Hf at gf ⊢
  refine ⟨big (by show 3 ≤ 1000; decide), fun p8 hp8 => ?_⟩
  obtain ⟨Mg, gg, sg, u8⟩ := new_lst (K := K) gf hp8 (Ats.cons u1 (Ats.cons u2 (Ats.cons u3 Ats.nil)))
  have q8 : upd Hf p8 (.lst [.ref o1, .ref o2, .ref o3]) p8 = some (.lst [.ref o1, .ref o2, .ref o3]) := upd_same
  replace L := L.mono sg
  replace u1 := u1.mono sg
  replace u2 := u2.mono sg
  replace u3 := u3.mono sg
  generalize upd Hf p8 (.lst [.ref o1, .ref o2, .ref o3]) = Hg at gg q8 ⊢
  clear gc gd ge gf sd se sf sg at4 at5 atb sq4 sq5 sqb ho1 ho2 ho3 hp8
  -- lists
  obtain ⟨cr, yr, er, sqr, hr1, atr⟩ := copy_lst gg L.tr
  obtain ⟨cr', yr', er', hr1', atr'⟩ := L.tr.lst_inv
  have ecr : cr = cr' := V.ref.inj (er.symm.trans er')
  subst ecr
  have lyr : yr'.length = mN A := by have := atr'.1; rw [List.length_map, rows_len] at this; omega
  refine ⟨_, rfl, cr, by rw [er], ⟨_, sqr⟩, fun z9 hz9 => cm_list (K := K) (M := Mg) (F := fun i => lnT ((rowsR ns (mN A) (nN A)).getD i [])) gg.mh hr1' (by omega) hz9 (fun i x Mi Hi Qy hx gi kk => ?_) (fun Mh Hh ys gh mh hyh ath => ?_)⟩
  · obtain ⟨l, hl, atl⟩ := lns_get' atr' hx
    obtain ⟨cl, yl, rfl, sql, _, al⟩ := copy_lst (Gr.refl gi.mh) (atl.mono gi.mm)
    refine ⟨_, rfl, cl, yl, rfl, .inl sql, fun ol hol => ?_⟩
    refine kk _ _ _ ((Gr.refl gi.mh).add hol) ?_
    rw [SH.gD hl]
    exact (al.mono (same_new (gi.mh.free hol) _)).lst upd_same
  have ath' : Ats K Mh ((rowsR ns (mN A) (nN A)).map lnT) ys := ats_range ath (by rw [List.length_map, rows_len, lyr]) fun i t ht => by
    rw [List.getElem?_map] at ht
    cases e : (rowsR ns (mN A) (nN A))[i]? with
    | none => rw [e] at ht; cases ht
    | some c => rw [e] at ht; cases ht; rw [SH.gD e]
  obtain ⟨Mi, gi, shi, u4⟩ := frz_lst (gg.trans gh) (gg.hh.free hz9) mh hyh ath'
  have sgi := gh.mm.trans shi
  replace L := L.mono sgi
  replace u1 := u1.mono sgi
  replace u2 := u2.mono sgi
  replace u3 := u3.mono sgi
  replace u8 := u8.mono sgi
  replace q8 := gh.hh _ _ q8
  clear gh mh hyh ath ath' shi sgi gg atr atr' hr1 hr1' sqr
  obtain ⟨c7, y7, e7, sq7, _, at7⟩ := copy_lst gi L.tg
  refine ⟨_, rfl, c7, y7, by rw [e7], .inl sq7, fun o5 ho5 => ?_⟩
  obtain ⟨Mj, gj, sj, u5⟩ := new_lst (K := K) gi ho5 at7
  replace L := L.mono sj
  replace u1 := u1.mono sj
  replace u2 := u2.mono sj
  replace u3 := u3.mono sj
  replace u4 := u4.mono sj
  replace u8 := u8.mono sj
  replace q8 := (same_new ho5 (.lst y7)) _ _ q8
  generalize upd Hh o5 (.lst y7) = Hj at gj q8 ⊢
  obtain ⟨c9, y9, e9, sq9, _, at9⟩ := copy_lst gj L.tc
  cases e9
  refine ⟨_, rfl, z7, y9, rfl, .inl sq9, fun o6 ho6 => ?_⟩
  obtain ⟨Mk, gk, sk, u6⟩ := new_lst (K := K) gj ho6 at9
  replace L := L.mono sk
  replace u1 := u1.mono sk
  replace u2 := u2.mono sk
  replace u3 := u3.mono sk
  replace u4 := u4.mono sk
  replace u5 := u5.mono sk
  replace u8 := u8.mono sk
  replace q8 := (same_new ho6 (.lst y9)) _ _ q8
  generalize upd Hj o6 (.lst y9) = Hk at gk q8 ⊢
  refine ⟨big (by show 3 ≤ 1000; decide), fun p9 hp9 => ?_⟩
  obtain ⟨Ml, gl, sl, u9⟩ := new_lst (K := K) gk hp9 (Ats.cons u4 (Ats.cons u5 (Ats.cons u6 Ats.nil)))
  have q9 : upd Hk p9 (.lst [.ref z9, .ref o5, .ref o6]) p9 = some (.lst [.ref z9, .ref o5, .ref o6]) := upd_same
  replace L := L.mono sl
  replace u1 := u1.mono sl
  replace u2 := u2.mono sl
  replace u3 := u3.mono sl
  replace u4 := u4.mono sl
  replace u5 := u5.mono sl
  replace u6 := u6.mono sl
  replace u8 := u8.mono sl
  replace q8 := (same_new hp9 (.lst [.ref z9, .ref o5, .ref o6])) _ _ q8
  generalize upd Hk p9 (.lst [.ref z9, .ref o5, .ref o6]) = Hl at gl q8 q9 ⊢
  clear gi gj gk sj sk sl at7 at9 sq7 sq9 ho5 ho6 hp9
  exact hrest _ q _ _ _ _ _ _ _ _ _ _ _ cs csl csb gl L u8 u9
end
end W1


namespace W1
open PySem PySem.Spec L2
section
variable {P : Program} {w : World} {K : PySem.W.Frag} {mg : Str → Option Value} {base : Heap} {t : Adr} {k : Nat}
/-- all defs -/
theorem law_fn (T : Txt K mg t) (Z : Ers K mg t) : FnOk P w K mg base (CXE P w) 7 t.f_law t.d_law ["_law_script"] (spLaw K) := by
  have up {a b : Nat} (h : a ≤ b) {f : Addr} {fd : FuncData} {ps : List Str} {sp : Sp} (F : FnOk P w K mg base (CXE P w) a f fd ps sp) : FnOk P w K mg base (CXE P w) b f fd ps sp := F.mono h
  have up0 {a b : Nat} (h : a ≤ b) {f : Addr} {fd : FuncData} {ps : List Str} {sp : Sp} (F : FnOk P w K mg base CX0 a f fd ps sp) : FnOk P w K mg base CX0 b f fd ps sp := F.mono h
  have cd := ok_common_divisor (P := P) (w := w) (base := base) (k := 0) T
  have made := ok_made T Z cd
  have plus := ok_plus T made
  have times := ok_times T made
  have over := ok_over T made
  have opp := ok_opposite (P := P) (w := w) (base := base) (k := 0) T
  have sf := ok_solved_for T (up (b := 3) (by decide) opp.toE) over
  have wp := ok_with_put_in T plus times
  have ini := ok_init (P := P) (w := w) (base := base) (k := 0) T
  have ex := ok_exchanged (k := 3) T (up (by decide) ini.toE) sf wp
  have ac := ok_after_changes (k := 4) T (up (by decide) ini.toE) ex
  have lc := ok__law_common (P := P) (w := w) (base := base) (k := 0) T
  have wh := ok__law_whole (P := P) (w := w) (base := base) (k := 0) T
  have la := ok__law_at (P := P) (w := w) (base := base) (k := 0) T
  have same := ok__law_same T wh
  have isf := ok__law_is_fraction T wh lc
  have arf := ok__law_are_fractions T isf
  have sm := ok__law_small T lc
  have cut := ok__law_cut T lc
  have lt := ok__law_times T cut
  have lp := ok__law_plus T cut
  have pi := ok__law_put_in T lp lt
  have lsf := ok__law_solved_for T (up0 (b := 3) (by decide) cut) lt
  have ch := ok__law_changed T lsf pi
  have su := ok__law_sum (P := P) (w := w) (base := base) (k := 0) T
  have eq := ok__law_equal (P := P) (w := w) (base := base) (k := 0) T
  have po := ok__law_points_of T (up0 (b := 2) (by decide) la) sm
  have so := ok__law_sheet_of T (up0 (b := 2) (by decide) la) sm
  have va := ok__law_values_of T (up0 (b := 3) (by decide) su) po
  have go := ok__law_goal_of T (up0 (b := 3) (by decide) su) po
  have is := ok__law_is_sheet (P := P) (w := w) (base := base) (k := 0) T
  have fi := ok__law_fits T arf (up0 (by decide) isf) (up0 (by decide) su) (up0 (by decide) eq)
  exact ok_law (k := 6) T ac (up (by decide) la.toE) (up (by decide) same.toE) (up (by decide) so.toE) (up (by decide) is.toE) (up (by decide) ch.toE) (up (by decide) va.toE) (up (by decide) go.toE) (up (by decide) fi.toE)
end
theorem walk {l : PySem.W.OpenLaw} {q : Program} {loose : List Str} {XP : (Str → Option Value) → Heap → Prop} {YP : World → Heap → Prop} {d : DefRec} {K : Params → PySem.W.Frag} (hn : l.most = some 63) (hdf : d.params.defaults = [])
    (hY : ∀ (w : World) (h : Heap), YP w h → (K w.params).In h)
    (F : ∀ (w : World) (mg : Str → Option Value) (fa : Addr) (h : Heap), (K w.params).In h → h.Ns mainGlobals mg → mg d.name = some (.ref fa) → ∃ t : Adr, Txt (K w.params) mg t ∧ Ers (K w.params) mg t ∧ t.f_law = fa) :
    PySem.W.WalkO q loose XP YP l.row.toRowW d [] (fun f vs => PySem.call f vs) :=
  L2.walk_of (n := 63) (k := 7) (x := "_law_script") (CX := fun w => CXE l.prog w) (sp := fun w => spLaw (K w.params)) hn (by decide) hdf ⟨rfl, by decide, by decide⟩ hY
    (fun w mg fa h KX G hm => by
      obtain ⟨t, T, Z, rfl⟩ := F w mg fa h KX G hm
      exact ⟨t.d_law, Z.bl, fun base _ _ => law_fn T Z⟩)
    (fun _ _ a ns hl _ hS => ⟨a, ns, rfl, hS, hl, fun _ => rfl⟩) fun _ _ _ _ _ h => by
      obtain ⟨_, _, _, _, z, _⟩ := h
      exact z
end W1
open PySem PySem.W PyProof.Rows
set_option pp.maxSteps 400
set_option maxRecDepth 100000 in
set_option maxHeartbeats 0 in
theorem PySem.Challenge.cw_wareplan_k03_unknowns_changed_holds : PySem.Challenge.rw_wareplan_k03_unknowns_changed.Holds := by
  w_on; o_law; k_head; (case hw => w_witness2)
  k_fill
  refine W1.walk (l := PySem.Challenge.rw_wareplan_k03_unknowns_changed) rfl rfl (fun w h Y => PySem.W.kIn_of Y) ?F
  case F =>
    intro w mg fa h KX G hmg
    refine' W1.txt_mk KX G hmg ?a0 ?l0 ?c0 ?k0 ?a1 ?l1 ?c1 ?k1 ?a2 ?l2 ?c2 ?k2 ?a3 ?l3 ?c3 ?k3 ?a4 ?l4 ?c4 ?k4 ?a5 ?l5 ?c5 ?k5 ?a6 ?l6 ?c6 ?k6 ?a7 ?l7 ?c7 ?k7 ?a8 ?l8 ?c8 ?k8 ?a9 ?l9 ?c9 ?k9 ?a10 ?l10 ?c10 ?k10 ?a11 ?l11 ?c11 ?k11 ?a12 ?l12 ?c12 ?k12 ?a13 ?l13 ?c13 ?k13 ?a14 ?l14 ?c14 ?k14 ?a15 ?l15 ?c15 ?k15 ?a16 ?l16 ?c16 ?k16 ?a17 ?l17 ?c17 ?k17 ?a18 ?l18 ?c18 ?k18 ?a19 ?l19 ?c19 ?k19 ?a20 ?l20 ?c20 ?k20 ?a21 ?l21 ?c21 ?k21 ?a22 ?l22 ?c22 ?k22 ?a23 ?l23 ?c23 ?k23 ?a24 ?l24 ?c24 ?k24 ?a25 ?l25 ?c25 ?k25 ?a26 ?l26 ?c26 ?k26 ?a27 ?l27 ?c27 ?k27 ?a28 ?l28 ?c28 ?k28 ?a29 ?l29 ?c29 ?k29 ?a30 ?l30 ?c30 ?k30 ?a31 ?l31 ?c31 ?k31 ?a32 ?i32 ?l32 ?c32 ?k32 ?z0 ?z1 ?z2 ?z3 ?z4 ?z5 ?z6 ?z7 ?z8 ?z9 ?z10 ?y0 ?y1 ?y2 ?u0 ?v0 ?u1 ?v1 ?w2_pg ?w2_hd ?w2_po ?w2_sa ?w2_mk ?w2_kc ?w2_n_inner ?w2_n_outer ?w2_n_lines ?w2_n_goal ?q1
    (case y0 => k_is)
    (case y1 => k_is)
    (case y2 => k_is)
    (case a0 => k_is)
    (case l0 => k_is)
    (case c0 => k_is)
    (case k0 => k_is)
    (case a1 => k_is)
    (case l1 => k_is)
    (case c1 => k_is)
    (case k1 => k_is)
    (case a2 => k_is)
    (case l2 => k_is)
    (case c2 => k_is)
    (case k2 => k_is)
    (case a3 => k_is)
    (case l3 => k_is)
    (case c3 => k_is)
    (case k3 => k_is)
    (case a4 => k_is)
    (case l4 => k_is)
    (case c4 => k_is)
    (case k4 => k_is)
    (case a5 => k_is)
    (case l5 => k_is)
    (case c5 => k_is)
    (case k5 => k_is)
    (case a6 => k_is)
    (case l6 => k_is)
    (case c6 => k_is)
    (case k6 => k_is)
    (case a7 => k_is)
    (case l7 => k_is)
    (case c7 => k_is)
    (case k7 => k_is)
    (case a8 => k_is)
    (case l8 => k_is)
    (case c8 => k_is)
    (case k8 => k_is)
    (case a9 => k_is)
    (case l9 => k_is)
    (case c9 => k_is)
    (case k9 => k_is)
    (case a10 => k_is)
    (case l10 => k_is)
    (case c10 => k_is)
    (case k10 => k_is)
    (case a11 => k_is)
    (case l11 => k_is)
    (case c11 => k_is)
    (case k11 => k_is)
    (case a12 => k_is)
    (case l12 => k_is)
    (case c12 => k_is)
    (case k12 => k_is)
    (case a13 => k_is)
    (case l13 => k_is)
    (case c13 => k_is)
    (case k13 => k_is)
    (case a14 => k_is)
    (case l14 => k_is)
    (case c14 => k_is)
    (case k14 => k_is)
    (case a15 => k_is)
    (case l15 => k_is)
    (case c15 => k_is)
    (case k15 => k_is)
    (case a16 => k_is)
    (case l16 => k_is)
    (case c16 => k_is)
    (case k16 => k_is)
    (case a17 => k_is)
    (case l17 => k_is)
    (case c17 => k_is)
    (case k17 => k_is)
    (case a18 => k_is)
    (case l18 => k_is)
    (case c18 => k_is)
    (case k18 => k_is)
    (case a19 => k_is)
    (case l19 => k_is)
    (case c19 => k_is)
    (case k19 => k_is)
    (case a20 => k_is)
    (case l20 => k_is)
    (case c20 => k_is)
    (case k20 => k_is)
    (case a21 => k_is)
    (case l21 => k_is)
    (case c21 => k_is)
    (case k21 => k_is)
    (case a22 => k_is)
    (case l22 => k_is)
    (case c22 => k_is)
    (case k22 => k_is)
    (case a23 => k_is)
    (case l23 => k_is)
    (case c23 => k_is)
    (case k23 => k_is)
    (case a24 => k_is)
    (case l24 => k_is)
    (case c24 => k_is)
    (case k24 => k_is)
    (case a25 => k_is)
    (case l25 => k_is)
    (case c25 => k_is)
    (case k25 => k_is)
    (case a26 => k_is)
    (case l26 => k_is)
    (case c26 => k_is)
    (case k26 => k_is)
    (case a27 => k_is)
    (case l27 => k_is)
    (case c27 => k_is)
    (case k27 => k_is)
    (case a28 => k_is)
    (case l28 => k_is)
    (case c28 => k_is)
    (case k28 => k_is)
    (case a29 => k_is)
    (case l29 => k_is)
    (case c29 => k_is)
    (case k29 => k_is)
    (case a30 => k_is)
    (case l30 => k_is)
    (case c30 => k_is)
    (case k30 => k_is)
    (case a31 => k_is)
    (case l31 => k_is)
    (case c31 => k_is)
    (case k31 => k_is)
    (case a32 => k_is)
    (case i32 => k_is)
    (case l32 => k_is)
    (case c32 => k_is)
    (case k32 => k_is)
    (case z0 => k_is)
    (case z1 => k_is)
    (case z2 => k_is)
    (case z3 => k_is)
    (case z4 => k_is)
    (case z5 => k_is)
    (case z6 => k_is)
    (case z7 => k_is)
    (case z8 => k_is)
    (case z9 => k_is)
    (case z10 => k_is)
    (case u0 => k_is)
    (case v0 => k_is)
    (case u1 => k_is)
    (case v1 => k_is)
    (case w2_pg => k_is)
    (case w2_hd => k_is)
    (case w2_po => k_is)
    (case w2_sa => k_is)
    (case w2_mk => k_is)
    (case w2_kc => k_is)
    (case w2_n_inner => k_is)
    (case w2_n_outer => k_is)
    (case w2_n_lines => k_is)
    (case w2_n_goal => k_is)
    (case q1 => k_exc)
#print axioms PySem.Challenge.cw_wareplan_k03_unknowns_changed_holds


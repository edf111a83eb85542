import PyProof.Rows.All
import Wide.All
import OpenK.AllK
import Wide.FinOn
import PyProof.EqAt
import PyProof.EqKinds
import PyProof.TupleCall
import KE.BitLaws
import Open.SpecLaws
import KE.OsHead
import KE.OsGo
import PySem.Challenge.RW_partlinedesk_s01_answers
set_option Elab.async false
set_option linter.all false
set_option maxRecDepth 100000
/-! THE HAND LAYER, for ints, bools, texts, own classes, lists, tuples, dicts, comprehensions, walks over dicts, enumerate, zip, reversed, texts, calls, loops. Paste it whole ahead of your own text; what your proof does not reach may be deleted. -/
namespace L2
open PySem PySem.Spec PyProof.Rows
/-- a key: an int or a str -/
abbrev Key := Sum Int Str
def keyIs : Key → Value → Bool
  | .inl k, v => Value.isInt k v
  | .inr x, v => Value.isStrOf x v
def keyH (w : World) : Key → Int
  | .inl k => hashInt k
  | .inr x => hashStr w x
theorem keyIs_shape : ∀ {k : Key} {v : Value}, keyIs k v = true → (∃ i t, k = Sum.inl i ∧ v = Value.int i t) ∨ (∃ x t, k = Sum.inr x ∧ v = Value.str x t)
  | .inl i, v, h => by
    obtain ⟨t, e⟩ := Value.isInt_shape (k := i) (v := v) h
    exact .inl ⟨i, t, rfl, e⟩
  | .inr x, v, h => by
    obtain ⟨t, e⟩ := Value.isStrOf_shape (x := x) (v := v) h
    exact .inr ⟨x, t, rfl, e⟩
theorem keyIs_int (i : Int) (t : Tok) : keyIs (.inl i) (.int i t) = true := by simp [keyIs, Value.isInt]
theorem keyIs_str (x : Str) (t : Tok) : keyIs (.inr x) (.str x t) = true := by simp [keyIs, Value.isStrOf]
theorem key_ll (a b : Int) : decide ((Sum.inl a : Key) = Sum.inl b) = (a == b) := by
  by_cases e : a = b
  · subst e; simp
  · have h : ¬ (Sum.inl a : Key) = Sum.inl b := fun q => e (Sum.inl.inj q)
    rw [decide_eq_false h]
    exact (beq_eq_false_iff_ne.mpr e).symm
theorem key_rr (a b : Str) : decide ((Sum.inr a : Key) = Sum.inr b) = decide (a = b) := by
  by_cases e : a = b
  · subst e; simp
  · have h : ¬ (Sum.inr a : Key) = Sum.inr b := fun q => e (Sum.inr.inj q)
    rw [decide_eq_false h, decide_eq_false e]
theorem key_lr (a : Int) (b : Str) : decide ((Sum.inl a : Key) = Sum.inr b) = false := decide_eq_false (fun q => nomatch q)
theorem key_rl (a : Str) (b : Int) : decide ((Sum.inr a : Key) = Sum.inl b) = false := decide_eq_false (fun q => nomatch q)
def mixKind (prog : Program) (w : World) : PySem.KeyKind prog w Key where
  is := keyIs
  hash := keyH w
  inj := fun v a b ha hb => by
    rcases keyIs_shape ha with ⟨i, t, rfl, rfl⟩ | ⟨x, t, rfl, rfl⟩
    · rcases keyIs_shape hb with ⟨j, u, rfl, e⟩ | ⟨y, u, rfl, e⟩
      · injection e with e1 _; rw [e1]
      · exact nomatch e
    · rcases keyIs_shape hb with ⟨j, u, rfl, e⟩ | ⟨y, u, rfl, e⟩
      · exact nomatch e
      · injection e with e1 _; rw [e1]
  byValue := fun k v h => by
    rcases keyIs_shape h with ⟨i, t, rfl, rfl⟩ | ⟨x, t, rfl, rfl⟩ <;> rfl
  pyHash := fun hv h => by
    rcases keyIs_shape hv with ⟨i, t, rfl, rfl⟩ | ⟨x, t, rfl, rfl⟩
    · exact wpAny_pyHash_int h
    · exact wpAny_pyHash_str h
  eqBool := fun hu hv h => by
    rcases keyIs_shape hu with ⟨i, t, rfl, rfl⟩ | ⟨x, t, rfl, rfl⟩
    · rcases keyIs_shape hv with ⟨j, u, rfl, rfl⟩ | ⟨y, u, rfl, rfl⟩
      · rw [key_ll] at h; exact wpAny_eqBool_int h
      · rw [key_lr] at h; exact SeqAt.EqAt.int_str i t y u _ _ _ _ h
    · rcases keyIs_shape hv with ⟨j, u, rfl, rfl⟩ | ⟨y, u, rfl, rfl⟩
      · rw [key_rl] at h; exact SeqAt.EqAt.str_int x t j u _ _ _ _ h
      · rw [key_rr] at h; exact wpAny_eqBool_str h
  «strs» := fun k x t v h => by
    rcases keyIs_shape h with ⟨i, u, rfl, e⟩ | ⟨y, u, rfl, e⟩
    · exact nomatch e
    · injection e with e1 _
      subst e1
      cases v <;> rfl
theorem mixKind_int (prog : Program) (w : World) (i : Int) (t : Tok) : (mixKind prog w).is (.inl i) (.int i t) = true := keyIs_int i t
theorem mixKind_str (prog : Program) (w : World) (x : Str) (t : Tok) : (mixKind prog w).is (.inr x) (.str x t) = true := keyIs_str x t
end L2
namespace L2
open PySem PySem.Spec PyProof.Rows
/-- a value, without the heap -/
inductive V where
  | non | bl (b : Bool) | int (i : Int) | str (x : Str) | byt (b : Array UInt8) | flt (b : UInt64) | ref (a : Addr) | ty (n : String)
  deriving DecidableEq
def RelV : V → Value → Prop
  | .non, u => u = Value.none
  | .bl b, u => u = Value.bool b
  | .int i, u => ∃ t, u = Value.int i t
  | .str x, u => ∃ t, u = Value.str x t
  | .byt b, u => ∃ t, u = Value.bytes b t
  | .flt b, u => ∃ t, u = Value.float b t
  | .ref a, u => u = Value.ref a
  | .ty n, u => u = Value.type n
abbrev Vals : List V → List Value → Prop := Paired RelV
theorem Vals.length {xs : List V} {us : List Value} (r : Vals xs us) : xs.length = us.length := Paired.length r
theorem Vals.get : ∀ {xs : List V} {us : List Value} {i : Nat} {x : V}, Vals xs us → xs[i]? = some x → ∃ u, us[i]? = some u ∧ RelV x u
  | _, _, _, _, .nil, e => by simp at e
  | _, _, 0, _, .cons r _, e => by simp at e; subst e; exact ⟨_, rfl, r⟩
  | _, _, i + 1, x, .cons _ t, e => by
    obtain ⟨u, h1, h2⟩ := Vals.get (i := i) (x := x) t (by simpa using e)
    exact ⟨u, by simpa using h1, h2⟩
theorem Vals.set {x : V} {u : Value} (r : RelV x u) : ∀ {xs : List V} {us : List Value} (i : Nat), Vals xs us → Vals (xs.set i x) (us.set i u)
  | _, _, _, .nil => .nil
  | _, _, 0, .cons _ t => .cons r t
  | _, _, i + 1, .cons q t => .cons q (Vals.set r i t)
theorem Vals.append : ∀ {xs ys : List V} {us ws : List Value}, Vals xs us → Vals ys ws → Vals (xs ++ ys) (us ++ ws)
  | _, _, _, _, .nil, s => s
  | _, _, _, _, .cons r t, s => .cons r (Vals.append t s)
theorem Vals.take : ∀ {xs : List V} {us : List Value} (n : Nat), Vals xs us → Vals (xs.take n) (us.take n)
  | _, _, 0, _ => .nil
  | _, _, _ + 1, .nil => .nil
  | _, _, n + 1, .cons r t => .cons r (Vals.take n t)
theorem Vals.drop : ∀ {xs : List V} {us : List Value} (n : Nat), Vals xs us → Vals (xs.drop n) (us.drop n)
  | _, _, 0, r => r
  | _, _, _ + 1, .nil => .nil
  | _, _, n + 1, .cons _ t => Vals.drop n t
theorem Vals.none_of : ∀ {xs : List V} {us : List Value} {i : Nat}, Vals xs us → xs[i]? = none → us[i]? = none := fun {xs us i} r e => by
  have h1 := r.length
  have h2 : xs.length ≤ i := List.getElem?_eq_none_iff.mp e
  exact List.getElem?_eq_none_iff.mpr (by omega)
def RelO : Option V → Option Value → Prop
  | some v, some u => RelV v u
  | none, none => True
  | _, _ => False
def KV {κ : Type} : List (κ × V) → List (κ × Value) → Prop := Paired fun (p : κ × V) (q : κ × Value) => p.1 = q.1 ∧ RelV p.2 q.2
/-- a key of a dict (00_mix): an int or a text -/
def kV : Key → V
  | .inl i => .int i
  | .inr x => .str x
/-- what stands at a tracked address -/
inductive HO where
  /-- a list -/
  | lst (xs : List V)
  /-- a tuple (never changes) -/
  | tup (xs : List V)
  /-- a dict whose keys are ints and texts; one whose keys are tuples of ints and texts (the empty one is both) -/
  | dK (kvs : List (Key × V)) | dT (kvs : List (List Key × V))
  /-- a set of ints: its members, its size -/
  | set (S : Int → Bool) (n : Nat)
  /-- an instance of the class at C, its dict at dx, its attributes -/
  | ins (C dx : Addr) (fs : List (Str × V))
  /-- the dict of the instance at x -/
  | own (x : Addr)
  /-- the dict of an exception -/
  | xd (fs : List (Str × V))
  /-- a bound method, f of x -/
  | met (f x : Addr)
  /-- a range object lo, lo + 1, .. below hi -/
  | rng (lo hi : Int)
  /-- a thing that is known to the object (the script; a dict while a loop walks it): read, never written while it is so -/
  | frz (o : Obj) (u : HO)
  /-- a code object's table -/
  | tbl (ps : Array Value)
  /-- any other thing, by what is true of its one object (a def of one's own: SetO a S n := HO.ext fun h => ..) -/
  | ext (φ : Heap → Prop)
abbrev Hp := Addr → Option HO
def upd (H : Hp) (a : Addr) (o : HO) : Hp := fun b => if b = a then some o else H b
theorem upd_same {H : Hp} {a : Addr} {o : HO} : upd H a o a = some o := by unfold upd; rw [if_pos rfl]
theorem upd_ne {H : Hp} {a b : Addr} {o : HO} (h : b ≠ a) : upd H a o b = H b := by unfold upd; rw [if_neg h]
theorem upd_upd {H : Hp} {a : Addr} {o u : HO} : upd (upd H a o) a u = upd H a u := by
  funext b; unfold upd; split <;> rfl
/-- two objects of different content stand apart -/
theorem ne_of {H : Hp} {a b : Addr} {o u : HO} (h : H a = some o) (h' : H b = some u) (d : o ≠ u) : a ≠ b := by
  intro e; subst e; rw [h] at h'; exact d (Option.some.inj h')
theorem ne_of_none {H : Hp} {a b : Addr} {o : HO} (h : H a = some o) (h' : H b = none) : a ≠ b := by
  intro e; subst e; rw [h] at h'; cases h'
section
variable (P : Program) (w : World)
def ObjOk (H : Hp) (h : Heap) (a : Addr) : HO → Prop
  | .lst xs => xs.length ≤ sizeLine ∧ ∃ (its : List Value) (n : Nat), Vals xs its ∧ h.get? a = some { cls := .type "list", data := .seq its.toArray n }
  | .tup xs => xs.length ≤ sizeLine ∧ ∃ its : List Value, Vals xs its ∧ IsTup h a its.toArray
  | .dK kvs => kvs.length ≤ sizeLine ∧ (a == sysModules) = false ∧ ∃ vs, KV kvs vs ∧ h.DictOf (mixKind P w) a vs
  | .dT kvs => kvs.length ≤ sizeLine ∧ (a == sysModules) = false ∧ ∃ xs : List (List Key × Addr × Value),
      Paired (fun (p : List Key × V) (q : List Key × Addr × Value) => p.1 = q.1 ∧ H q.2.1 = some (.tup (p.1.map kV)) ∧ RelV p.2 q.2.2) kvs xs ∧
      ∃ o es ep, h.get? a = some o ∧ o.ExactDict ∧ o.data = .dict es ep ∧ es.toList = xs.map (entryOfKey (tupleKind (mixKind P w))) ∧ (xs.map (·.1)).Nodup
  | .set S n => h.SetOf (intKind P w) a S n
  | .ins C dx fs => H dx = some (.own a) ∧ fs.length ≤ 1000 ∧ dx ≠ a ∧ h.get? a = some (PySem.W.instObj C dx) ∧
      ∃ mA, h.Ns1 dx mA ∧ (∀ f, RelO (fs.lookup f) (mA f)) ∧ PySem.Within mA (fs.map (·.1))
  | .own _ => ∃ o, h.get? a = some o
  | .xd fs => ∃ mA, h.Ns1 a mA ∧ ∀ f, RelO (fs.lookup f) (mA f)
  | .rng lo hi => ∃ t u v, h.get? a = some { cls := .type "range", data := .fields #[.int lo t, .int hi u, .int 1 v] }
  | .frz o u => h.get? a = some o ∧ ObjOk H h a u
  | .tbl ps => h.get? a = some { cls := .none, data := .fields ps }
  | .met f x => h.get? a = some (PySem.W.methodObj (.ref f) (.ref x))
  | .ext φ => φ h ∧ (∃ o, h.get? a = some o) ∧ ∀ h1 h2 : Heap, φ h1 → (∀ o, h1.get? a = some o → h2.get? a = some o) → φ h2
/-- the abstract heap is held -/
def HOk (H : Hp) (h : Heap) : Prop := ∀ a o, H a = some o → ObjOk P w H h a o
end
section
variable {P : Program} {w : World} {H H' : Hp} {h h' : Heap} {a : Addr} {o : HO}
theorem ObjOk.lt (x : ObjOk P w H h a o) : a < h.objs.size := by
  cases o with
  | lst xs => obtain ⟨_, _, _, _, e⟩ := x; exact Heap.lt_size e
  | tup xs => obtain ⟨_, _, _, p⟩ := x; exact p.lt
  | dK kvs => obtain ⟨_, _, _, _, o, _, _, e, _⟩ := x; exact Heap.lt_size e
  | dT kvs => obtain ⟨_, _, _, _, o, _, _, e, _⟩ := x; exact Heap.lt_size e
  | set S n => obtain ⟨o, _, _, _, e, _⟩ := x; exact Heap.lt_size e
  | ins C dx fs => obtain ⟨_, _, _, e, _⟩ := x; exact Heap.lt_size e
  | own y => obtain ⟨_, e⟩ := x; exact Heap.lt_size e
  | xd fs => obtain ⟨_, ⟨_, _, _, e, _⟩, _⟩ := x; exact Heap.lt_size e
  | rng lo hi => obtain ⟨_, _, _, e⟩ := x; exact Heap.lt_size e
  | frz ob u => obtain ⟨e, _⟩ := x; exact Heap.lt_size e
  | tbl ps => exact Heap.lt_size (show h.get? a = some _ from x)
  | met f y => exact Heap.lt_size (show h.get? a = some _ from x)
  | ext φ => obtain ⟨_, ⟨_, e⟩, _⟩ := x; exact Heap.lt_size e
theorem Paired.mapP {α β : Type} {F G : α → β → Prop} : ∀ {l₁ : List α} {l₂ : List β}, Paired F l₁ l₂ → (∀ a b, F a b → G a b) → Paired G l₁ l₂
  | _, _, .nil, _ => .nil
  | _, _, .cons r t, f => .cons (f _ _ r) (Paired.mapP t f)
/-- what an object's description leans on: its own object, its own dict, the tuples -/
theorem ObjOk.stay (x : ObjOk P w H h a o) (k : ∀ b u, (b = a ∨ H b = some (.own a)) → h.get? b = some u → h'.get? b = some u)
    (ho : ∀ b, H b = some (.own a) → H' b = some (.own a)) (ht : ∀ b xs, H b = some (.tup xs) → H' b = some (.tup xs)) : ObjOk P w H' h' a o := by
  induction o with
  | lst xs => obtain ⟨z, its, n, r, e⟩ := x; exact ⟨z, its, n, r, k _ _ (.inl rfl) e⟩
  | tup xs => obtain ⟨z, its, r, ob, e, c⟩ := x; exact ⟨z, its, r, ob, k _ _ (.inl rfl) e, c⟩
  | dK kvs => obtain ⟨z, y, vs, r, ob, es, ep, e, c⟩ := x; exact ⟨z, y, vs, r, ob, es, ep, k _ _ (.inl rfl) e, c⟩
  | dT kvs =>
    obtain ⟨z, y, xs, r, ob, es, ep, e, c⟩ := x
    exact ⟨z, y, xs, Paired.mapP r fun p q z => ⟨z.1, ht _ _ z.2.1, z.2.2⟩, ob, es, ep, k _ _ (.inl rfl) e, c⟩
  | set S n => obtain ⟨ob, es, ep, t, e, c⟩ := x; exact ⟨ob, es, ep, t, k _ _ (.inl rfl) e, c⟩
  | ins C dx fs =>
    obtain ⟨d, z, ne, e, mA, ⟨od, es, ep, e2, c⟩, r⟩ := x
    exact ⟨ho _ d, z, ne, k _ _ (.inl rfl) e, mA, ⟨od, es, ep, k _ _ (.inr d) e2, c⟩, r⟩
  | own y => obtain ⟨ob, e⟩ := x; exact ⟨ob, k _ _ (.inl rfl) e⟩
  | xd fs => obtain ⟨mA, ⟨od, es, ep, e, c⟩, r⟩ := x; exact ⟨mA, ⟨od, es, ep, k _ _ (.inl rfl) e, c⟩, r⟩
  | rng lo hi => obtain ⟨t, u, v, e⟩ := x; exact ⟨t, u, v, k _ _ (.inl rfl) e⟩
  | frz ob u ih => obtain ⟨e, q⟩ := x; exact ⟨k _ _ (.inl rfl) e, ih q⟩
  | tbl ps =>
    have e : h.get? a = some { cls := .none, data := .fields ps } := x
    show h'.get? a = some { cls := .none, data := .fields ps }
    exact k a _ (.inl rfl) e
  | met f y =>
    have e : h.get? a = some (PySem.W.methodObj (.ref f) (.ref y)) := x
    show h'.get? a = some (PySem.W.methodObj (.ref f) (.ref y))
    exact k a _ (.inl rfl) e
  | ext φ => obtain ⟨p, ⟨o, e⟩, st⟩ := x; exact ⟨st _ _ p fun o q => k _ _ (.inl rfl) q, ⟨o, k _ _ (.inl rfl) e⟩, st⟩
theorem HOk.lt (x : HOk P w H h) (e : H a = some o) : a < h.objs.size := (x a o e).lt
theorem HOk.fresh (x : HOk P w H h) (e : h.objs.size ≤ a) : H a = none := by
  cases q : H a with
  | none => rfl
  | some u => exact absurd (Nat.lt_of_lt_of_le (x.lt q) e) (Nat.lt_irrefl _)
/-- every object of the heap is kept -/
theorem HOk.kept (x : HOk P w H h) (k : ∀ b u, h.get? b = some u → h'.get? b = some u) : HOk P w H h' := fun a o e =>
  (x a o e).stay (fun b u _ q => k b u q) (fun _ q => q) fun _ _ q => q
/-- a new object is laid and tracked -/
theorem HOk.laid (x : HOk P w H h) (k : ∀ b u, h.get? b = some u → h'.get? b = some u) (hp : h.objs.size ≤ a) (new : ObjOk P w (upd H a o) h' a o) : HOk P w (upd H a o) h' := fun b u e => by
  have hn := x.fresh hp
  by_cases hb : b = a
  · subst hb; rw [upd_same] at e; cases e; exact new
  · rw [upd_ne hb] at e
    exact (x b u e).stay (fun c v _ q => k c v q) (fun c q => by rw [upd_ne (ne_of_none q hn)]; exact q) fun c xs q => by rw [upd_ne (ne_of_none q hn)]; exact q
end
/-- what may be read as u: it is u, or a known u -/
def Rd (H : Hp) (a : Addr) (u : HO) : Prop := H a = some u ∨ ∃ o, H a = some (.frz o u)
theorem Rd.of {H : Hp} {a : Addr} {u : HO} (h : H a = some u) : Rd H a u := .inl h
theorem Rd.ok {P : Program} {w : World} {H : Hp} {h : Heap} {a : Addr} {u : HO} (r : Rd H a u) (x : HOk P w H h) : ObjOk P w H h a u := by
  rcases r with r | ⟨o, r⟩
  · exact x a u r
  · obtain ⟨_, q⟩ := x a _ r
    exact q
/-- what may be written -/
def Mut : Option HO → Prop
  | some (.lst _) => True
  | some (.dK _) => True
  | some (.dT _) => True
  | some (.set _ _) => True
  | some (.ins _ _ _) => True
  | some (.ext _) => True
  | _ => False
section
variable {P : Program} {w : World} {H : Hp} {h h' : Heap} {x e : Addr} {o' : HO}
/-- the object at e is changed: x itself, or the dict of the instance x -/
theorem HOk.write (ok : HOk P w H h) (mu : Mut (H x)) (he : e = x ∨ H e = some (.own x)) (k : ∀ b u, b ≠ e → h.get? b = some u → h'.get? b = some u) (heo : ∃ u, h'.get? e = some u)
    (new : ObjOk P w (upd H x o') h' x o') : HOk P w (upd H x o') h' := fun b u q => by
  have nown : ∀ c y, H c = some (.own y) → c ≠ x := fun c y r z => by subst z; rw [r] at mu; exact mu
  have ntup : ∀ c xs, H c = some (.tup xs) → c ≠ x := fun c xs r z => by subst z; rw [r] at mu; exact mu
  by_cases hb : b = x
  · subst hb; rw [upd_same] at q; cases q; exact new
  · rw [upd_ne hb] at q
    by_cases hbe : b = e
    · have q' : H b = some (.own x) := by
        rcases he with z | z
        · exact absurd (hbe.trans z) hb
        · rw [hbe]; exact z
      rw [q] at q'; cases q'
      obtain ⟨v, hv⟩ := heo
      exact ⟨v, by rw [hbe]; exact hv⟩
    · refine (ok b u q).stay (fun c v hc r => k c v ?_ r) (fun c r => by rw [upd_ne (nown c b r)]; exact r) fun c xs r => by rw [upd_ne (ntup c xs r)]; exact r
      rcases hc with rfl | hc
      · exact hbe
      · rintro rfl
        rcases he with z | z
        · exact nown c b hc z
        · rw [hc] at z; cases z; exact hb rfl
end
/-! ### kept unless tracked; of the frames at fs (the callers') the slots may change (an exception that passes writes there); of the records at ex (iterators) nothing is said -/
structure Un (fs ex : List Addr) (H H' : Hp) (h h' : Heap) : Prop where
  keep : ∀ b o, h.get? b = some o → H b = none → b ∉ fs → b ∉ ex → h'.get? b = some o
  slot : ∀ b o, h.get? b = some o → H b = none → b ∈ fs → b ∉ ex → ∃ sl, h'.get? b = some { o with slots := sl }
  free : ∀ b o, h.get? b = some o → H b = none → b ∉ ex → H' b = none
  there : ∀ b o, h.get? b = some o → b ∉ ex → ∃ o', h'.get? b = some o'
  tups : ∀ b xs, H b = some (.tup xs) → H' b = some (.tup xs)
  frzs : ∀ b o u, H b = some (.frz o u) → H' b = some (.frz o u)
  tbls : ∀ b ps, H b = some (.tbl ps) → ∃ more, H' b = some (.tbl (ps ++ more))
section
variable {fs fs' ex ex' : List Addr} {H H1 H2 : Hp} {h h1 h2 h' : Heap} {a x e : Addr} {o : HO}
theorem Un.any (u : Un fs ex H H1 h h1) {b : Addr} {ob : Obj} (q : h.get? b = some ob) (n : H b = none) (hx : b ∉ ex) : ∃ sl, h1.get? b = some { ob with slots := sl } := by
  by_cases hb : b ∈ fs
  · exact u.slot b ob q n hb hx
  · exact ⟨ob.slots, u.keep b ob q n hb hx⟩
theorem Un.trans (a : Un fs ex H H1 h h1) (b : Un fs ex H1 H2 h1 h2) : Un fs ex H H2 h h2 where
  keep := fun c ob q n hc hx => b.keep c ob (a.keep c ob q n hc hx) (a.free c ob q n hx) hc hx
  slot := fun c ob q n hc hx => by
    obtain ⟨sl, e1⟩ := a.slot c ob q n hc hx
    obtain ⟨sl', e2⟩ := b.slot c _ e1 (a.free c ob q n hx) hc hx
    exact ⟨sl', e2⟩
  free := fun c ob q n hx => by
    obtain ⟨o', e1⟩ := a.there c ob q hx
    exact b.free c o' e1 (a.free c ob q n hx) hx
  there := fun c ob q hx => by
    obtain ⟨o', e1⟩ := a.there c ob q hx
    exact b.there c o' e1 hx
  tups := fun c xs q => b.tups c xs (a.tups c xs q)
  frzs := fun c ob xs q => b.frzs c ob xs (a.frzs c ob xs q)
  tbls := fun c ps q => by
    obtain ⟨m1, e1⟩ := a.tbls c ps q
    obtain ⟨m2, e2⟩ := b.tbls c _ e1
    exact ⟨m1 ++ m2, by rw [e2, Array.append_assoc]⟩
theorem Un.kept (k : ∀ b u, h.get? b = some u → h'.get? b = some u) : Un fs ex H H h h' :=
  ⟨fun b ob q _ _ _ => k b ob q, fun b ob q _ _ _ => ⟨ob.slots, k b ob q⟩, fun _ _ _ n _ => n, fun b ob q _ => ⟨ob, k b ob q⟩, fun _ _ q => q, fun _ _ _ q => q, fun _ ps q => ⟨#[], by rw [q]; simp⟩⟩
theorem Un.refl : Un fs ex H H h h := Un.kept fun _ _ q => q
theorem Un.laid (k : ∀ b u, h.get? b = some u → h'.get? b = some u) (hp : h.objs.size ≤ a) (hn : H a = none) : Un fs ex H (upd H a o) h h' where
  keep := fun b u q _ _ _ => k b u q
  slot := fun b u q _ _ _ => ⟨u.slots, k b u q⟩
  free := fun b u q n _ => by rw [upd_ne (Nat.ne_of_lt (Nat.lt_of_lt_of_le (Heap.lt_size q) hp))]; exact n
  there := fun b u q _ => ⟨u, k b u q⟩
  tups := fun b xs q => by rw [upd_ne (ne_of_none q hn)]; exact q
  frzs := fun b u xs q => by rw [upd_ne (ne_of_none q hn)]; exact q
  tbls := fun b ps q => ⟨#[], by rw [upd_ne (ne_of_none q hn), q]; simp⟩
theorem Un.write (mu : Mut (H x)) (he : e = x ∨ H e = some (.own x)) (k : ∀ b u, b ≠ e → h.get? b = some u → h'.get? b = some u) (heo : ∃ u, h'.get? e = some u) : Un fs ex H (upd H x o) h h' := by
  have hx : ∀ b, H b = none → b ≠ x := fun b n z => by subst z; rw [n] at mu; exact mu
  have hb : ∀ b, H b = none → b ≠ e := fun b n z => by
    subst z
    rcases he with r | r
    · exact hx b n r
    · rw [n] at r; cases r
  have hm : ∀ b u, H b = some u → ¬ Mut (some u) → b ≠ x := fun b u q nm z => by subst z; rw [q] at mu; exact nm mu
  refine ⟨fun b u q n _ _ => k b u (hb b n) q, fun b u q n _ _ => ⟨u.slots, k b u (hb b n) q⟩, fun b u q n _ => by rw [upd_ne (hx b n)]; exact n, fun b u q _ => ?_,
    fun b xs q => by rw [upd_ne (hm b _ q fun z => z)]; exact q, fun b u xs q => by rw [upd_ne (hm b _ q fun z => z)]; exact q, fun b ps q => ⟨#[], by rw [upd_ne (hm b _ q fun z => z), q]; simp⟩⟩
  by_cases hbe : b = e
  · subst hbe; exact heo
  · exact ⟨u, k b u hbe q⟩
theorem Un.mono (u : Un fs ex H H1 h h1) (hs : ∀ b ∈ fs, b ∈ fs') (hx : ∀ b ∈ ex, b ∈ ex') : Un fs' ex' H H1 h h1 :=
  ⟨fun b ob q n hb he => u.keep b ob q n (fun z => hb (hs b z)) fun z => he (hx b z), fun _ _ q n _ he => u.any q n fun z => he (hx _ z), fun b ob q n he => u.free b ob q n fun z => he (hx b z), fun b ob q he => u.there b ob q fun z => he (hx b z), u.tups, u.frzs, u.tbls⟩
end
/-! ### the heap without what is tracked -/
def trk (h : Heap) (H : Hp) : List Addr := (List.range h.objs.size).filter fun a => (H a).isSome
def hidT (h : Heap) (H : Hp) : Heap := PySem.W.hideAll h (trk h H)
theorem hidT_size (h : Heap) (H : Hp) : (hidT h H).objs.size = h.objs.size := PySem.W.hideAll_size _ _
theorem hidT_get {h : Heap} {H : Hp} {b : Addr} {o : Obj} (e : h.get? b = some o) (n : H b = none) : (hidT h H).get? b = some o :=
  PySem.W.hideAll_get _ e fun hm => by
    have q : (H b).isSome = true := (List.mem_filter.mp hm).2
    rw [n] at q; simp at q
theorem of_hidT {h : Heap} {H : Hp} {b : Addr} {o : Obj} (e : (hidT h H).get? b = some o) : h.get? b = some o ∧ H b = none := by
  have e' : h.get? b = some o := PySem.W.of_hideAll (trk h H) e
  refine ⟨e', ?_⟩
  cases q : H b with
  | none => rfl
  | some x =>
    have hm : b ∈ trk h H := List.mem_filter.mpr ⟨List.mem_range.mpr (Heap.lt_size e'), by simp [q]⟩
    have z : (hidT h H).get? b = none := PySem.W.hideAll_none (trk h H) hm
    rw [z] at e; cases e
/-! ### OpenK's ledger, filled with every new object but one -/
def allNews (g h : Heap) (L : Addr) : List (Addr × Obj) := (List.range h.objs.size).filterMap fun a => if a = L ∨ (g.get? a).isSome = true then none else (h.get? a).map fun o => (a, o)
def rest (g h : Heap) (L d : Addr) : List (Addr × Obj) := (allNews g h L).filter fun p => decide (p.1 ≠ d)
end L2
namespace L2
open PySem PySem.Spec PyProof.Rows
/-- the module's facts, over the base: the heap at the law's entry without what is tracked there -/
structure Mod (K : PySem.W.Frag) (mg : Str → Option Value) (base : Heap) : Prop where
  kin : K.In base
  glob : base.Ns mainGlobals mg
  blt : ∃ mb, base.Ns builtinsNs mb ∧ ∀ x : Str, x ≠ "__name__" → mb x = bootBuiltins x
  nolimit : base.NoLimit
/-- the context: a def's body (or a comprehension's block) running. base: fixed through the whole law; s₀, H₀: the entry; outer: the frames whose slots others may change (a def's callers); stack: all frames that run;
   ex: iterators that were made ahead of the entry and are walked here (a comprehension's); fn: the names whose cells were made at the entry (a def: all; a comprehension's block: its own); calm: not within an except suite; pn: pins that every state bears; xe: what is wanted of an exception that leaves the code -/
structure Cx where
  prog : Program
  w : World
  K : PySem.W.Frag
  mg : Str → Option Value
  base : Heap
  A : Around
  N : List Str
  s_0 : Shared
  H_0 : Hp
  env : Env
  outer : List Env
  stack : List Env
  ex : List Addr
  fn : Str → Bool
  calm : Bool
  pn : List (Addr × Obj)
  xe : Value → Shared → Prop
/-- the callers' frames -/
def frs (l : List Env) : List Addr := l.filterMap (·.frame)
abbrev Cx.fs (X : Cx) : List Addr := frs X.outer
def Vis (sc : Scope) (x : Str) : Prop := sc.names.lookup x = some .local ∨ sc.names.lookup x = some .cell ∨ sc.names.lookup x = some .free
def Loc (sc : Scope) (x : Str) : Prop := sc.names.lookup x = some .local ∨ sc.names.lookup x = some .cell
def Look (env : Env) (h : Heap) (m : Str → Option Value) (x : Str) (u : Value) : Prop :=
  (env.kindOf x = some .local ∧ m x = some u) ∨ ((env.kindOf x = some .cell ∨ env.kindOf x = some .free) ∧ ∃ c, env.cells.lookup x = some c ∧ h.IsCell c (some u))
structure Cx.Ok (X : Cx) : Prop where
  mod : Mod X.K X.mg X.base
  kind : X.env.scope.kind = .function
  glob : X.env.globals = mainGlobals
  blt : X.env.builtins = builtinsNs
  above : X.s_0.heap.objs.size ≤ X.env.locals
  inj : ∀ x y c, X.env.cells.lookup x = some c → X.env.cells.lookup y = some c → x = y
  has : ∀ x, (X.env.kindOf x = some .cell ∨ X.env.kindOf x = some .free) → ∃ c, X.env.cells.lookup x = some c
  cab : ∀ x c, X.fn x = true → X.env.cells.lookup x = some c → X.s_0.heap.objs.size ≤ c
  hd : X.calm = true → X.A.handled = none
  frames : X.A.frames = some X.stack
  stk : X.stack = X.outer ∨ (X.stack = X.env :: X.outer ∧ X.env.frame = some X.env.locals)
  exf : ∀ b ∈ X.ex, b ≠ X.env.locals ∧ ∀ x c, X.env.cells.lookup x = some c → c ≠ b
  bs : ∀ b o, X.base.get? b = some o → X.s_0.heap.get? b = some o ∧ X.H_0 b = none
  bsz : X.base.objs.size ≤ X.s_0.heap.objs.size
  noex : ∀ b o, X.base.get? b = some o → b ∉ X.ex
  exfs : ∀ b ∈ X.ex, b ∉ X.fs
  funs : X.s_0.heap.FunFrames X.base X.outer
  frf : ∀ b ∈ X.fs, X.H_0 b = none
structure Inv (X : Cx) (pins : List (Addr × Obj)) (σ : List (Option V)) (H : Hp) (s : Shared) : Prop where
  ok : X.Ok
  os : s.os = X.s_0.os
  bare : AllBare s.gens
  base : Un X.fs X.ex X.H_0 H X.s_0.heap s.heap
  loc : ∃ m, s.heap.Ns X.env.locals m ∧ ∀ (i : Nat) (x : Str) (v : V), X.N[i]? = some x → σ[i]? = some (some v) → Vis X.env.scope x → ∃ u, RelV v u ∧ Look X.env s.heap m x u
  cell : ∀ x c, X.env.cells.lookup x = some c → ∃ v, s.heap.IsCell c v
  free : H X.env.locals = none
  freeC : ∀ x c, X.env.cells.lookup x = some c → H c = none
  pin : ∀ p ∈ X.pn ++ pins, s.heap.get? p.1 = some p.2 ∧ H p.1 = none ∧ p.1 ≠ X.env.locals ∧ p.1 ∉ X.fs ∧ ∀ v, p.2.data ≠ .cell v
  hok : HOk X.prog X.w H s.heap
  len : σ.length = X.N.length
section
variable {X : Cx} {pins : List (Addr × Obj)} {σ : List (Option V)} {H H' : Hp} {s : Shared} {h' : Heap}
theorem Cx.Ok.nofr (ok : X.Ok) {b : Addr} {o : Obj} (e : X.base.get? b = some o) : b ∉ X.fs := fun hb => by
  have := (ok.funs.mem hb).1
  rw [e] at this; cases this
theorem Inv.bs (I : Inv X pins σ H s) : ∀ b o, X.base.get? b = some o → s.heap.get? b = some o ∧ H b = none := fun b o e =>
  ⟨I.base.keep b o (I.ok.bs b o e).1 (I.ok.bs b o e).2 (I.ok.nofr e) (I.ok.noex b o e), I.base.free b o (I.ok.bs b o e).1 (I.ok.bs b o e).2 (I.ok.noex b o e)⟩
theorem Inv.bk (I : Inv X pins σ H s) : ∀ b o, X.base.get? b = some o → s.heap.get? b = some o := fun b o e => (I.bs b o e).1
theorem Inv.mod (I : Inv X pins σ H s) : Mod X.K X.mg X.base := I.ok.mod
theorem Inv.kIn (I : Inv X pins σ H s) : X.K.In s.heap := I.ok.mod.kin.keeps I.bk
theorem Inv.nolimit (I : Inv X pins σ H s) : s.heap.NoLimit := I.ok.mod.nolimit.keeps I.bk
/-- the frame over the base: for OpenK's rules (K.In X.base is I.mod.kin) -/
theorem Inv.fr (I : Inv X pins σ H s) : ∃ m, Fr X.base X.env.locals s.heap m :=
  let ⟨m, hn, _⟩ := I.loc
  ⟨m, hn, I.bk, Nat.le_trans I.ok.bsz I.ok.above⟩
theorem Inv.lt (I : Inv X pins σ H s) : X.env.locals < s.heap.objs.size := let ⟨_, hn, _⟩ := I.loc; hn.lt
theorem Inv.sz (I : Inv X pins σ H s) : X.s_0.heap.objs.size ≤ s.heap.objs.size := Nat.le_trans I.ok.above (Nat.le_of_lt I.lt)
theorem Inv.nofs (I : Inv X pins σ H s) {a : Addr} (h : s.heap.objs.size ≤ a) : a ∉ X.fs := fun hb => by
  obtain ⟨_, o, ho, _⟩ := I.ok.funs.mem hb
  exact absurd (Nat.lt_of_lt_of_le (Heap.lt_size ho) (Nat.le_trans I.sz h)) (Nat.lt_irrefl _)
theorem Inv.cne (I : Inv X pins σ H s) : ∀ x c, X.env.cells.lookup x = some c → c ≠ X.env.locals := fun x c e z => by
  obtain ⟨v, o, ho, hd⟩ := I.cell x c e
  obtain ⟨m, ⟨o', es, ep, ho', hd', _⟩, _⟩ := I.loc
  rw [z, ho'] at ho; cases ho; rw [hd'] at hd; cases hd
theorem Inv.funs (I : Inv X pins σ H s) : s.heap.FunFrames X.base X.outer := by
  have all : ∀ (l : List Env), (∀ b ∈ frs l, b ∈ X.fs) → X.s_0.heap.FunFrames X.base l → s.heap.FunFrames X.base l := by
    intro l
    induction l with
    | nil => intro _ _; trivial
    | cons env r ih =>
      intro hs hl
      obtain ⟨hk, ⟨L, o, hf, hn, ho, hd⟩, hr⟩ := hl
      have hL : L ∈ X.fs := hs L (by unfold frs; rw [List.filterMap_cons, hf]; exact List.mem_cons_self)
      obtain ⟨sl, e⟩ := I.base.slot L o ho (I.ok.frf L hL) hL fun z => I.ok.exfs L z hL
      exact ⟨hk, ⟨L, _, hf, hn, e, hd⟩, ih (fun b hb => hs b (by unfold frs; rw [List.filterMap_cons, hf]; exact List.mem_cons_of_mem _ hb)) hr⟩
  exact all X.outer (fun _ hb => hb) I.ok.funs
/-- the frames that run, for a call -/
theorem Inv.stack (I : Inv X pins σ H s) : s.heap.FunFrames X.base X.stack := by
  rcases I.ok.stk with e | ⟨e, hf⟩
  · rw [e]; exact I.funs
  · rw [e]
    obtain ⟨m, hn, _⟩ := I.loc
    refine .cons (by rw [I.ok.kind]; decide) hf hn ?_ I.funs
    exact Heap.get?_none_of_le (Nat.le_trans I.ok.bsz I.ok.above)
theorem Inv.stkSub (I : Inv X pins σ H s) : ∀ b ∈ frs X.stack, b ∈ X.env.locals :: X.fs := fun b hb => by
  rcases I.ok.stk with e | ⟨e, hf⟩
  · rw [e] at hb; exact List.mem_cons_of_mem _ hb
  · rw [e] at hb
    unfold frs at hb
    rw [List.filterMap_cons, hf] at hb
    exact hb
theorem Inv.stkFree (I : Inv X pins σ H s) : ∀ b ∈ frs X.stack, H b = none := fun b hb => by
  rcases List.mem_cons.mp (I.stkSub b hb) with e | hb
  · rw [e]; exact I.free
  · obtain ⟨_, o, ho, _⟩ := I.ok.funs.mem hb
    exact I.base.free b o ho (I.ok.frf b hb) fun z => I.ok.exfs b z hb
/-- THE STEP: the untracked objects but the frame and the records at ch are kept (the callers' frames up to slots), the frame's map is kept, the new abstract heap is held -/
theorem Inv.step {g' : Array GenState} {t' : Nat} {d' : Drawn} {ch : List Addr} (I : Inv X pins σ H s)
    (hch : ∀ b ∈ ch, (b ∈ X.ex ∨ X.s_0.heap.objs.size ≤ b) ∧ b ≠ X.env.locals ∧ (∀ x c, X.env.cells.lookup x = some c → c ≠ b) ∧ ∀ p ∈ X.pn ++ pins, p.1 ≠ b)
    (keep : ∀ b o, b ≠ X.env.locals → b ∉ X.fs → b ∉ ch → s.heap.get? b = some o → H b = none → h'.get? b = some o)
    (slot : ∀ b o, b ≠ X.env.locals → b ∈ X.fs → b ∉ ch → s.heap.get? b = some o → H b = none → ∃ sl, h'.get? b = some { o with slots := sl }) (free : ∀ b o, b ∉ ch → s.heap.get? b = some o → H b = none → H' b = none)
    (there : ∀ b o, b ∉ ch → s.heap.get? b = some o → ∃ o', h'.get? b = some o')
    (tups : ∀ b xs, H b = some (.tup xs) → H' b = some (.tup xs)) (frzs : ∀ b o u, H b = some (.frz o u) → H' b = some (.frz o u)) (tbls : ∀ b ps, H b = some (.tbl ps) → ∃ more, H' b = some (.tbl (ps ++ more)))
    (ns : ∀ m, s.heap.Ns X.env.locals m → h'.Ns X.env.locals m) (hok : HOk X.prog X.w H' h') (hg : AllBare g') :
    Inv X pins σ H' { s with heap := h', gens := g', drawn := d', toks := t' } := by
  have neL : ∀ b o, X.s_0.heap.get? b = some o → b ≠ X.env.locals := fun b o e => Nat.ne_of_lt (Nat.lt_of_lt_of_le (Heap.lt_size e) I.ok.above)
  have neC : ∀ b o, X.s_0.heap.get? b = some o → b ∉ X.ex → b ∉ ch := fun b o e hx hb => by
    rcases (hch b hb).1 with z | z
    · exact hx z
    · exact absurd (Nat.lt_of_lt_of_le (Heap.lt_size e) z) (Nat.lt_irrefl _)
  have cellK : ∀ x c, X.env.cells.lookup x = some c → ∀ v, s.heap.IsCell c v → h'.IsCell c v := fun x c e v ⟨o, ho, hd⟩ => by
    have nch : c ∉ ch := fun z => (hch c z).2.2.1 x c e rfl
    by_cases hc : c ∈ X.fs
    · obtain ⟨sl, q⟩ := slot c o (I.cne x c e) hc nch ho (I.freeC x c e)
      exact ⟨_, q, hd⟩
    · exact ⟨o, keep c o (I.cne x c e) hc nch ho (I.freeC x c e), hd⟩
  refine ⟨I.ok, I.os, hg, ⟨fun b o e n hb hx => ?_, fun b o e n hb hx => ?_, fun b o e n hx => ?_, fun b o e hx => ?_, fun b xs e => tups b xs (I.base.tups b xs e), fun b o xs e => frzs b o xs (I.base.frzs b o xs e), fun b ps e => ?_⟩, ?_, fun x c e => ?_, ?_, fun x c e => ?_, fun p hp => ?_, hok, I.len⟩
  · exact keep b o (neL b o e) hb (neC b o e hx) (I.base.keep b o e n hb hx) (I.base.free b o e n hx)
  · obtain ⟨sl, e1⟩ := I.base.slot b o e n hb hx
    obtain ⟨sl', e2⟩ := slot b _ (neL b o e) hb (neC b o e hx) e1 (I.base.free b o e n hx)
    exact ⟨sl', e2⟩
  · obtain ⟨o', e1⟩ := I.base.there b o e hx
    exact free b o' (neC b o e hx) e1 (I.base.free b o e n hx)
  · obtain ⟨o', e1⟩ := I.base.there b o e hx
    exact there b o' (neC b o e hx) e1
  · obtain ⟨m1, e1⟩ := I.base.tbls b ps e
    obtain ⟨m2, e2⟩ := tbls b _ e1
    exact ⟨m1 ++ m2, by rw [e2, Array.append_assoc]⟩
  · obtain ⟨m, hn, hl⟩ := I.loc
    refine ⟨m, ns m hn, fun i x v e1 e2 e3 => ?_⟩
    obtain ⟨u, r, l⟩ := hl i x v e1 e2 e3
    refine ⟨u, r, ?_⟩
    rcases l with l | ⟨k, c, e, z⟩
    · exact .inl l
    · exact .inr ⟨k, c, e, cellK x c e _ z⟩
  · obtain ⟨v, z⟩ := I.cell x c e
    exact ⟨v, cellK x c e v z⟩
  · obtain ⟨m, ⟨o, _, _, ho, _⟩, _⟩ := I.loc
    exact free _ o (fun z => (hch _ z).2.1 rfl) ho I.free
  · obtain ⟨v, o, ho, hd⟩ := I.cell x c e
    exact free c o (fun z => (hch c z).2.2.1 x c e rfl) ho (I.freeC x c e)
  · obtain ⟨e, n, ne, nf, d⟩ := I.pin p hp
    have nch : p.1 ∉ ch := fun z => (hch p.1 z).2.2.2 p hp rfl
    exact ⟨keep p.1 p.2 ne nf nch e n, free p.1 p.2 nch e n, ne, nf, d⟩
/-- .. where the frame's own object is kept too -/
theorem Inv.un {t' : Nat} (I : Inv X pins σ H s) (u : Un X.fs [] H H' s.heap h') (hok : HOk X.prog X.w H' h') : Inv X pins σ H' { s with heap := h', toks := t' } := by
  obtain ⟨m, ⟨o, es, ep, ho, r⟩, _⟩ := id I.loc
  obtain ⟨sl, hL⟩ := u.any ho I.free (by simp)
  exact I.step (g' := s.gens) (d' := s.drawn) (ch := []) (fun _ z => nomatch z) (fun b o _ hb _ e n => u.keep b o e n hb (by simp)) (fun b o _ hb _ e n => u.slot b o e n hb (by simp)) (fun b o _ e n => u.free b o e n (by simp)) (fun b o _ e => u.there b o e (by simp)) u.tups u.frzs u.tbls (fun m' hm => by
    obtain ⟨o', es', ep', ho', r'⟩ := hm
    rw [ho] at ho'; cases ho'
    exact ⟨_, es', ep', hL, r'⟩) hok I.bare
/-- behind a call (or a comprehension's block): the slots of this frame may have changed too, the records at ch may have turned -/
theorem Inv.call {g' : Array GenState} {t' : Nat} {d' : Drawn} {ch : List Addr} (I : Inv X pins σ H s) (u : Un (frs X.stack) ch H H' s.heap h') (hok : HOk X.prog X.w H' h') (hg : AllBare g')
    (hch : ∀ b ∈ ch, (b ∈ X.ex ∨ X.s_0.heap.objs.size ≤ b) ∧ b ≠ X.env.locals ∧ (∀ x c, X.env.cells.lookup x = some c → c ≠ b) ∧ ∀ p ∈ X.pn ++ pins, p.1 ≠ b) :
    Inv X pins σ H' { s with heap := h', gens := g', drawn := d', toks := t' } := by
  obtain ⟨m, ⟨o, es, ep, ho, r⟩, _⟩ := id I.loc
  obtain ⟨sl, hL⟩ := u.any ho I.free fun z => (hch _ z).2.1 rfl
  exact I.step (ch := ch) hch (fun b o hL hb hc e n => u.keep b o e n (fun z => (List.mem_cons.mp (I.stkSub b z)).elim hL hb) hc) (fun b o _ _ hc e n => u.any e n hc) (fun b o hc e n => u.free b o e n hc) (fun b o hc e => u.there b o e hc) u.tups u.frzs u.tbls (fun m' hm => by
    obtain ⟨o', es', ep', ho', r'⟩ := hm
    rw [ho] at ho'; cases ho'
    exact ⟨_, es', ep', hL, r'⟩) hok hg
/-- an untracked record of ours (an iterator) has turned -/
theorem Inv.turned {t' : Nat} {it : Addr} (I : Inv X pins σ H s) (k : ∀ b o, b ≠ it → s.heap.get? b = some o → h'.get? b = some o) (hn : H it = none) (hL : it ≠ X.env.locals)
    (h1 : it ∈ X.ex ∨ X.s_0.heap.objs.size ≤ it) (h2 : ∀ x c, X.env.cells.lookup x = some c → c ≠ it) (h3 : ∀ p ∈ X.pn ++ pins, p.1 ≠ it) : Inv X pins σ H { s with heap := h', toks := t' } := by
  have nit : ∀ b u, H b = some u → b ≠ it := fun b u e z => by rw [z, hn] at e; cases e
  refine I.step (g' := s.gens) (d' := s.drawn) (ch := [it]) (fun b hb => ?_) (fun b o _ _ hc e _ => k b o (fun z => hc (by simp [z])) e) (fun b o _ _ hc e _ => ⟨o.slots, k b o (fun z => hc (by simp [z])) e⟩) (fun _ _ _ _ n => n)
    (fun b o hc e => ⟨o, k b o (fun z => hc (by simp [z])) e⟩) (fun _ _ e => e) (fun _ _ _ e => e) (fun b ps e => ⟨#[], by rw [e]; simp⟩) (fun m hm => ?_) (fun b u e => ?_) I.bare
  · have e : b = it := by simpa using hb
    subst e
    exact ⟨h1, hL, h2, h3⟩
  · obtain ⟨o, es, ep, ho, r⟩ := hm
    exact ⟨o, es, ep, k _ o (Ne.symm hL) ho, r⟩
  · refine (I.hok b u e).stay (fun c v hc q => k c v ?_ q) (fun _ q => q) fun _ _ q => q
    rcases hc with z | z
    · rw [z]; exact nit b u e
    · exact nit c _ z
theorem Inv.tok (I : Inv X pins σ H s) (t : Nat) : Inv X pins σ H { s with toks := t } := I.un (h' := s.heap) (t' := t) Un.refl I.hok
/-- all objects kept -/
theorem Inv.kept {t' : Nat} (I : Inv X pins σ H s) (k : ∀ b u, s.heap.get? b = some u → h'.get? b = some u) : Inv X pins σ H { s with heap := h', toks := t' } := I.un (Un.kept k) (I.hok.kept k)
/-- a new object laid and tracked -/
theorem Inv.laid {a : Addr} {o : HO} {t' : Nat} (I : Inv X pins σ H s) (k : ∀ b u, s.heap.get? b = some u → h'.get? b = some u) (hp : s.heap.objs.size ≤ a) (new : ObjOk X.prog X.w (upd H a o) h' a o) :
    Inv X pins σ (upd H a o) { s with heap := h', toks := t' } := I.un (Un.laid k hp (I.hok.fresh hp)) (I.hok.laid k hp new)
/-- an object written -/
theorem Inv.write {x e : Addr} {o : HO} {t' : Nat} (I : Inv X pins σ H s) (mu : Mut (H x)) (he : e = x ∨ H e = some (.own x)) (k : ∀ b u, b ≠ e → s.heap.get? b = some u → h'.get? b = some u) (heo : ∃ u, h'.get? e = some u)
    (new : ObjOk X.prog X.w (upd H x o) h' x o) : Inv X pins σ (upd H x o) { s with heap := h', toks := t' } := I.un (Un.write mu he k heo) (I.hok.write mu he k heo new)
/-- forgetting slots, pins -/
theorem Inv.weak {σ' : List (Option V)} (I : Inv X pins σ H s) (hl : σ'.length = σ.length) (w : ∀ (i : Nat) v, σ'[i]? = some (some v) → σ[i]? = some (some v)) : Inv X pins σ' H s :=
  ⟨I.ok, I.os, I.bare, I.base, let ⟨m, hn, hl'⟩ := I.loc; ⟨m, hn, fun i x v e1 e2 e3 => hl' i x v e1 (w i v e2) e3⟩, I.cell, I.free, I.freeC, I.pin, I.hok, hl.trans I.len⟩
theorem Inv.pins_of {pins' : List (Addr × Obj)} (I : Inv X pins σ H s) (h : ∀ p ∈ pins', s.heap.get? p.1 = some p.2 ∧ H p.1 = none ∧ p.1 ≠ X.env.locals ∧ p.1 ∉ X.fs ∧ ∀ v, p.2.data ≠ .cell v) : Inv X pins' σ H s :=
  ⟨I.ok, I.os, I.bare, I.base, I.loc, I.cell, I.free, I.freeC, fun p hp => (List.mem_append.mp hp).elim (fun z => I.pin p (List.mem_append_left _ z)) (h p), I.hok, I.len⟩
theorem nodup_ix {N : List Str} (hN : N.Nodup) {i j : Nat} {x : Str} (a : N[i]? = some x) (b : N[j]? = some x) : i = j := by
  obtain ⟨h1, e1⟩ := List.getElem?_eq_some_iff.mp a
  obtain ⟨h2, e2⟩ := List.getElem?_eq_some_iff.mp b
  exact (List.getElem_inj hN).mp (e1.trans e2.symm)
/-- a name is stored; what changed -/
theorem store_ok2 {M : Model} {A : Around} {E : Value → Shared → Prop} {i : Nat} {x : Str} {v : V} {u : Value} {Q : Unit → Shared → Prop} (I : Inv X pins σ H s) (hN : X.N.Nodup) (hi : X.N[i]? = some x) (hx : Loc X.env.scope x) (r : RelV v u)
    (h : ∀ s', Inv X pins (σ.set i (some v)) H s' → (∃ a, Heap.SameBut a s.heap s'.heap ∧ (a = X.env.locals ∨ X.env.cells.lookup x = some a)) → Q () s') (hf : X.fn x = true ∨ X.env.scope.names.lookup x = some .local := by first | exact .inl rfl | exact .inr rfl | assumption) : wpAny M A (storeName X.env x u) Q E s := by
  obtain ⟨m, hn, hl⟩ := id I.loc
  have hcls : (X.env.scope.kind == .class || (X.env.scope.kind == .module && X.env.locals != X.env.globals)) = false := by rw [I.ok.kind]; rfl
  have hiσ : i < σ.length := by rw [I.len]; exact (List.getElem?_eq_some_iff.mp hi).1
  have cne := I.cne
  have tracked : ∀ {a : Addr} {h' : Heap}, (∃ o, s.heap.get? a = some o ∧ H a = none) → Heap.SameBut a s.heap h' → HOk X.prog X.w H h' := fun {a h'} ha hs b ob e => by
    obtain ⟨_, _, hfree⟩ := ha
    refine (I.hok b ob e).stay (fun c w' hc q => (hs.2 c ?_).trans q) (fun _ q => q) fun _ _ q => q
    rintro rfl
    rcases hc with rfl | hc
    · rw [hfree] at e; cases e
    · rw [hfree] at hc; cases hc
  rcases hx with hk | hk
  · refine wpAny_storeName_local hk hn (fun h' hn' hs => ?_) hcls
    obtain ⟨oL, _, _, hoL, _⟩ := id hn
    refine h _ ⟨I.ok, I.os, I.bare, ⟨fun b o e n hb hx => ?_, fun b o e n hb hx => ?_, I.base.free, fun b o e hx => ?_, I.base.tups, I.base.frzs, I.base.tbls⟩, ⟨_, hn', fun j y v' e1 e2 e3 => ?_⟩, fun y c e => ?_, I.free, I.freeC, fun p hp => ?_, tracked ⟨oL, hoL, I.free⟩ hs, by simpa using I.len⟩ ⟨_, hs, .inl rfl⟩
    · exact (hs.2 b (Nat.ne_of_lt (Nat.lt_of_lt_of_le (Heap.lt_size e) I.ok.above))).trans (I.base.keep b o e n hb hx)
    · obtain ⟨sl, e1⟩ := I.base.slot b o e n hb hx
      exact ⟨sl, (hs.2 b (Nat.ne_of_lt (Nat.lt_of_lt_of_le (Heap.lt_size e) I.ok.above))).trans e1⟩
    · obtain ⟨o', e1⟩ := I.base.there b o e hx
      exact ⟨o', (hs.2 b (Nat.ne_of_lt (Nat.lt_of_lt_of_le (Heap.lt_size e) I.ok.above))).trans e1⟩
    · by_cases hj : j = i
      · subst hj
        rw [hi] at e1; cases e1
        rw [List.getElem?_set_self hiσ] at e2
        cases e2
        exact ⟨u, r, .inl ⟨hk, by simp⟩⟩
      · rw [List.getElem?_set_ne (Ne.symm hj)] at e2
        obtain ⟨u', r', q⟩ := hl j y v' e1 e2 e3
        refine ⟨u', r', ?_⟩
        rcases q with ⟨k, e⟩ | ⟨k, c, e, z⟩
        · refine .inl ⟨k, ?_⟩
          have : y ≠ x := fun e => hj (nodup_ix hN e1 (e ▸ hi))
          simp [this, e]
        · exact .inr ⟨k, c, e, z.sameBut hs (cne y c e)⟩
    · obtain ⟨w', z⟩ := I.cell y c e
      exact ⟨w', z.sameBut hs (cne y c e)⟩
    · obtain ⟨e, n, ne, nf, d⟩ := I.pin p hp
      exact ⟨(hs.2 p.1 ne).trans e, n, ne, nf, d⟩
  · have hfn : X.fn x = true := by
      rcases hf with z | z
      · exact z
      · rw [z] at hk; cases hk
    obtain ⟨c, hc⟩ := I.ok.has x (.inl hk)
    obtain ⟨w', z⟩ := I.cell x c hc
    refine wpAny_storeName_cell I.ok.kind hk hc z (fun h' hc' hs => ?_)
    obtain ⟨oc, hoc, hocd⟩ := id z
    refine h { s with heap := h' } ⟨I.ok, I.os, I.bare, ⟨fun b o e n hb hx => ?_, fun b o e n hb hx => ?_, I.base.free, fun b o e hx => ?_, I.base.tups, I.base.frzs, I.base.tbls⟩, ⟨m, hn.sameBut hs (Ne.symm (cne x c hc)), fun j y v' e1 e2 e3 => ?_⟩, fun y c' e => ?_, I.free, I.freeC, fun p hp => ?_, tracked ⟨oc, hoc, I.freeC x c hc⟩ hs, by simpa using I.len⟩ ⟨c, hs, .inr hc⟩
    · exact (hs.2 b (Nat.ne_of_lt (Nat.lt_of_lt_of_le (Heap.lt_size e) (I.ok.cab x c hfn hc)))).trans (I.base.keep b o e n hb hx)
    · obtain ⟨sl, e1⟩ := I.base.slot b o e n hb hx
      exact ⟨sl, (hs.2 b (Nat.ne_of_lt (Nat.lt_of_lt_of_le (Heap.lt_size e) (I.ok.cab x c hfn hc)))).trans e1⟩
    · obtain ⟨o', e1⟩ := I.base.there b o e hx
      exact ⟨o', (hs.2 b (Nat.ne_of_lt (Nat.lt_of_lt_of_le (Heap.lt_size e) (I.ok.cab x c hfn hc)))).trans e1⟩
    · by_cases hj : j = i
      · subst hj
        rw [hi] at e1; cases e1
        rw [List.getElem?_set_self hiσ] at e2
        cases e2
        exact ⟨u, r, .inr ⟨.inl hk, c, hc, hc'⟩⟩
      · rw [List.getElem?_set_ne (Ne.symm hj)] at e2
        obtain ⟨u', r', q⟩ := hl j y v' e1 e2 e3
        refine ⟨u', r', ?_⟩
        rcases q with q | ⟨k, c', e, z'⟩
        · exact .inl q
        · refine .inr ⟨k, c', e, z'.sameBut hs ?_⟩
          rintro rfl
          exact hj (nodup_ix hN e1 (I.ok.inj _ _ _ e hc ▸ hi))
    · by_cases hcc : c' = c
      · subst hcc; exact ⟨_, hc'⟩
      · obtain ⟨w2, z2⟩ := I.cell y c' e
        exact ⟨w2, z2.sameBut hs hcc⟩
    · obtain ⟨e, n, ne, nf, d⟩ := I.pin p hp
      refine ⟨(hs.2 p.1 ?_).trans e, n, ne, nf, d⟩
      intro q
      rw [q, hoc] at e
      have q' : oc = p.2 := Option.some.inj e
      exact d w' (by rw [← q']; exact hocd)
theorem store_ok {M : Model} {A : Around} {E : Value → Shared → Prop} {i : Nat} {x : Str} {v : V} {u : Value} {Q : Unit → Shared → Prop} (I : Inv X pins σ H s) (hN : X.N.Nodup) (hi : X.N[i]? = some x) (hx : Loc X.env.scope x) (r : RelV v u)
    (h : ∀ s', Inv X pins (σ.set i (some v)) H s' → Q () s') (hf : X.fn x = true ∨ X.env.scope.names.lookup x = some .local := by first | exact .inl rfl | exact .inr rfl | assumption) : wpAny M A (storeName X.env x u) Q E s :=
  store_ok2 I hN hi hx r (fun s' I' _ => h s' I') hf
/-- behind a call or a block, the state as it is -/
theorem Inv.call' {s' : Shared} {ch : List Addr} (I : Inv X pins σ H s) (ho : s'.os = s.os) (u : Un (frs X.stack) ch H H' s.heap s'.heap) (hok : HOk X.prog X.w H' s'.heap) (hg : AllBare s'.gens)
    (hch : ∀ b ∈ ch, (b ∈ X.ex ∨ X.s_0.heap.objs.size ≤ b) ∧ b ≠ X.env.locals ∧ (∀ x c, X.env.cells.lookup x = some c → c ≠ b) ∧ ∀ p ∈ X.pn ++ pins, p.1 ≠ b) : Inv X pins σ H' s' := by
  obtain ⟨h', g', d', t', o'⟩ := s'
  have e : o' = s.os := ho
  subst e
  exact I.call (g' := g') (t' := t') (d' := d') u hok hg hch
end
/-! ### the judgements -/
/-- an exception: its class, its own dict's address (where it has one), the abstract heap behind it -/
abbrev XK := Value → Option Addr → Hp → Prop
abbrev St := List (Option V)
abbrev VK := V → Hp → Prop
/-- an expression's reading; a test's; an argument list's -/
abbrev TE := St → Hp → VK → Prop
abbrev TT := St → Hp → (Bool → Hp → Prop) → Prop
abbrev TA := St → Hp → (List V → Hp → Prop) → Prop
/-- what is wanted behind a statement -/
structure Ends where
  nx : St → Hp → Prop
  rt : VK
  bk : St → Hp → Prop := fun _ _ => False
  ct : St → Hp → Prop := fun _ _ => False
abbrev TS := Ends → St → Hp → Prop
def EP (X : Cx) (pins : List (Addr × Obj)) (σ : St) (Q : VK) (u : Value) (s' : Shared) : Prop := ∃ v H', Inv X pins σ H' s' ∧ RelV v u ∧ Q v H'
def TP (X : Cx) (pins : List (Addr × Obj)) (σ : St) (Q : Bool → Hp → Prop) (b : Bool) (s' : Shared) : Prop := ∃ H', Inv X pins σ H' s' ∧ Q b H'
def AP (X : Cx) (pins : List (Addr × Obj)) (σ : St) (Q : List V → Hp → Prop) (us : List Value) (s' : Shared) : Prop := ∃ vs H', Inv X pins σ H' s' ∧ Vals vs us ∧ Q vs H'
def SP (X : Cx) (pins : List (Addr × Obj)) (D : Ends) (f : Flow) (s' : Shared) : Prop :=
  match f with
  | .next => ∃ σ' H', Inv X pins σ' H' s' ∧ D.nx σ' H'
  | .brk => ∃ σ' H', Inv X pins σ' H' s' ∧ D.bk σ' H'
  | .cont => ∃ σ' H', Inv X pins σ' H' s' ∧ D.ct σ' H'
  | .ret u => ∃ v σ' H', Inv X pins σ' H' s' ∧ RelV v u ∧ D.rt v H'
def PE (X : Cx) (e : Expr) (t : TE) : Prop :=
  ∀ (pins : List (Addr × Obj)) (s : Shared) (σ : St) (H : Hp) (Q : VK), Inv X pins σ H s → t σ H Q → wpAny (model X.prog X.w) X.A (eval e X.env) (EP X pins σ Q) X.xe s
def PT (X : Cx) (e : Expr) (t : TT) : Prop :=
  ∀ (pins : List (Addr × Obj)) (s : Shared) (σ : St) (H : Hp) (Q : Bool → Hp → Prop), Inv X pins σ H s → t σ H Q → wpAny (model X.prog X.w) X.A (isTrue e X.env (eval e X.env)) (TP X pins σ Q) X.xe s
/-- a test whatever its 'whole' is (and, or) -/
def PW (X : Cx) (e : Expr) (t : TT) : Prop :=
  ∀ (whole : Sem Value) (pins : List (Addr × Obj)) (s : Shared) (σ : St) (H : Hp) (Q : Bool → Hp → Prop), Inv X pins σ H s → t σ H Q → wpAny (model X.prog X.w) X.A (isTrue e X.env whole) (TP X pins σ Q) X.xe s
theorem PW.pt {X : Cx} {e : Expr} {t : TT} (h : PW X e t) : PT X e t := h _
/-- an argument list (no star), from the left -/
def PA (X : Cx) (es : List Expr) (t : TA) : Prop :=
  ∀ (pos : Pos) (pins : List (Addr × Obj)) (s : Shared) (σ : St) (H : Hp) (Q : List V → Hp → Prop), Inv X pins σ H s → t σ H Q → wpAny (model X.prog X.w) X.A (spliced (backTo pos (starEach es X.env))) (AP X pins σ Q) X.xe s
def PS (X : Cx) (st : Stmt) (t : TS) : Prop :=
  ∀ (pins : List (Addr × Obj)) (s : Shared) (σ : St) (H : Hp) (D : Ends), Inv X pins σ H s → t D σ H → wpAny (model X.prog X.w) X.A (exec st X.env) (SP X pins D) X.xe s
def PSs (X : Cx) (st : List Stmt) (t : TS) : Prop :=
  ∀ (pins : List (Addr × Obj)) (s : Shared) (σ : St) (H : Hp) (D : Ends), Inv X pins σ H s → t D σ H → wpAny (model X.prog X.w) X.A (execs st X.env) (SP X pins D) X.xe s
/-- weaken the end -/
theorem thn {α : Type} {t : Sem α} {Q Q' : α → Shared → Prop} {M : Model} {A : Around} {E : Value → Shared → Prop} {s : Shared} (h : wpAny M A t Q E s) (hQ : ∀ a s, Q a s → Q' a s) : wpAny M A t Q' E s := wpAny_mono h hQ fun _ _ x => x
end L2
namespace L2
open PySem PySem.Spec PyProof.Rows
section
variable {X : Cx}
/-- two expressions in a row -/
theorem bin {a b : Expr} {ta tb : TE} (ha : PE X a ta) (hb : PE X b tb) {pins : List (Addr × Obj)} {s : Shared} {σ : St} {H : Hp} {R : V → V → Hp → Prop} (I : Inv X pins σ H s) (h : ta σ H fun x H1 => tb σ H1 fun y H2 => R x y H2)
    {α : Type} {Q : α → Shared → Prop} {f : Value → Value → Sem α}
    (hf : ∀ v u s2 x y H2, Inv X pins σ H2 s2 → RelV x v → RelV y u → R x y H2 → wpAny (model X.prog X.w) X.A (f v u) Q X.xe s2) :
    wpAny (model X.prog X.w) X.A (eval a X.env) (fun v s₁ => wpAny (model X.prog X.w) X.A (eval b X.env) (fun u s₂ => wpAny (model X.prog X.w) X.A (f v u) Q X.xe s₂) X.xe s₁) X.xe s := by
  refine thn (ha pins s σ H _ I h) fun v s1 ⟨x, H1, I1, r1, q1⟩ => ?_
  refine thn (hb pins s1 σ H1 _ I1 q1) fun u s2 ⟨y, H2, I2, r2, q2⟩ => ?_
  exact hf v u s2 x y H2 I2 r1 r2 q2
/-! ### names and constants -/
def tVar (i : Nat) : TE := fun σ H Q => ∃ v, σ[i]? = some (some v) ∧ Q v H
def tC (v : V) : TE := fun _ H Q => Q v H
theorem pe_var {i : Nat} {x : Str} {pos : Pos} (hN : X.N[i]? = some x) (hv : Vis X.env.scope x) (hd : (x == ("__debug__" : Str)) = false := by decide) (hcd : (x == ("__classdict__" : Str)) = false := by decide) : PE X (.Name x pos) (tVar i) := by
  intro pins s σ H Q I h
  obtain ⟨v, e, h⟩ := h
  obtain ⟨m, hn, hl⟩ := I.loc
  obtain ⟨u, r, l⟩ := hl i x v hN e hv
  have fin : EP X pins σ Q u s := ⟨v, H, I, r, h⟩
  rcases l with ⟨hk, hm⟩ | ⟨hk, c, hc, hcell⟩
  · exact wpAny_Name (wpAny_loadName_local I.ok.kind hk hn hm fin) hd
  · rcases hk with hk | hk
    · exact wpAny_Name (wpAny_loadName_cell I.ok.kind hk hc hcell fin) hd
    · exact wpAny_Name (wpAny_loadName_free I.ok.kind hk hc hcell fin hcd) hd
theorem pe_int {i j pos} : PE X (.Constant (.int i) j pos) (tC (.int i)) := fun _ _ _ H _ I h => wpAny_Constant_int ⟨.int i, H, I.tok _, ⟨_, rfl⟩, h⟩
theorem pe_bl {b j pos} : PE X (.Constant (.bool b) j pos) (tC (.bl b)) := fun _ _ _ H _ I h => Constant_bool ⟨.bl b, H, I, rfl, h⟩
theorem pe_non {j pos} : PE X (.Constant .none j pos) (tC .non) := fun _ _ _ H _ I h => Constant_none ⟨.non, H, I, rfl, h⟩
/-- a global name of the def -/
def Gl (X : Cx) (x : Str) : Prop := X.env.kindOf x = some .globalImplicit
theorem ld_glob {E : Value → Shared → Prop} {pins : List (Addr × Obj)} {s : Shared} {σ : St} {H : Hp} {x : Str} {u : Value} {pos : Pos} {Q : Value → Shared → Prop} (I : Inv X pins σ H s) (hg : Gl X x) (hm : X.mg x = some u) (h : Q u s)
    (hd : (x == ("__debug__" : Str)) = false := by decide) : wpAny (model X.prog X.w) X.A (eval (.Name x pos) X.env) Q E s :=
  Calls.Name_function_global I.ok.kind hg (Calls.loadGlobal_global (by rw [I.ok.glob]; exact I.mod.glob.keeps I.bk) hm h) hd
theorem ld_blt {E : Value → Shared → Prop} {pins : List (Addr × Obj)} {s : Shared} {σ : St} {H : Hp} {x : Str} {u : Value} {pos : Pos} {Q : Value → Shared → Prop} (I : Inv X pins σ H s) (hg : Gl X x) (hm : X.mg x = none) (hv : bootBuiltins x = some u) (h : Q u s)
    (hn : x ≠ "__name__" := by decide) (hd : (x == ("__debug__" : Str)) = false := by decide) : wpAny (model X.prog X.w) X.A (eval (.Name x pos) X.env) Q E s := by
  obtain ⟨mb, h1, h2⟩ := I.mod.blt
  exact Calls.Name_function_global I.ok.kind hg (Calls.loadGlobal_builtin (by rw [I.ok.glob]; exact I.mod.glob.keeps I.bk) hm (by rw [I.ok.blt]; exact h1.keeps I.bk) ((h2 x hn).trans hv) h) hd
/-- a module's constant, a class, a function, as a value -/
theorem pe_glob {x : Str} {v : V} {u : Value} {pos : Pos} (hg : Gl X x) (hm : X.mg x = some u) (r : RelV v u) (hd : (x == ("__debug__" : Str)) = false := by decide) : PE X (.Name x pos) (tC v) :=
  fun _ _ _ H _ I h => ld_glob I hg hm ⟨v, H, I, r, h⟩ hd
/-! ### arithmetic -/
/-- two ints -/
def t2I (ta tb : TE) (k : Int → Int → Hp → Prop) : St → Hp → Prop := fun σ H => ta σ H fun x H1 => tb σ H1 fun y H2 => ∃ i j, x = .int i ∧ y = .int j ∧ k i j H2
def tAdd (ta tb : TE) : TE := fun σ H Q => t2I ta tb (fun i j H2 => Q (.int (i + j)) H2) σ H
def tSub (ta tb : TE) : TE := fun σ H Q => t2I ta tb (fun i j H2 => Q (.int (i - j)) H2) σ H
/-- the left factor below 2^64 -/
def tMul (ta tb : TE) : TE := fun σ H Q => t2I ta tb (fun i j H2 => (-(2 ^ 64) < i ∧ i < 2 ^ 64) ∧ Q (.int (i * j)) H2) σ H
variable {a b : Expr} {ta tb : TE} {pos : Pos}
theorem pe_add (ha : PE X a ta) (hb : PE X b tb) : PE X (.BinOp a .Add b pos) (tAdd ta tb) := by
  intro pins s σ H Q I h
  refine wpAny_BinOp (bin ha hb I h fun v u s2 x y H2 I2 rx ry q => ?_)
  obtain ⟨i, j, rfl, rfl, q⟩ := q
  obtain ⟨t, rfl⟩ := rx
  obtain ⟨t', rfl⟩ := ry
  exact add_int ⟨.int _, H2, I2.tok _, ⟨_, rfl⟩, q⟩
theorem pe_sub (ha : PE X a ta) (hb : PE X b tb) : PE X (.BinOp a .Sub b pos) (tSub ta tb) := by
  intro pins s σ H Q I h
  refine wpAny_BinOp (bin ha hb I h fun v u s2 x y H2 I2 rx ry q => ?_)
  obtain ⟨i, j, rfl, rfl, q⟩ := q
  obtain ⟨t, rfl⟩ := rx
  obtain ⟨t', rfl⟩ := ry
  exact sub_int ⟨.int _, H2, I2.tok _, ⟨_, rfl⟩, q⟩
/-! ### comparisons -/
def PC (X : Cx) (op : CmpOp) (a b : Expr) (t : TE) : Prop :=
  ∀ (pins : List (Addr × Obj)) (s : Shared) (σ : St) (H : Hp) (Q : VK), Inv X pins σ H s → t σ H Q →
    wpAny (model X.prog X.w) X.A (eval a X.env) (fun v s₁ => wpAny (model X.prog X.w) X.A (eval b X.env) (fun u s₂ => wpAny (model X.prog X.w) X.A (compareOp op v u) (EP X pins σ Q) X.xe s₂) X.xe s₁) X.xe s
theorem nobehind (b : Expr) {op : CmpOp} (h : op ≠ .In) (h2 : op ≠ .NotIn) : behindInMarks op b = false := by
  have e1 : (op == CmpOp.In) = false := by cases op <;> first | rfl | exact absurd rfl h
  have e2 : (op == CmpOp.NotIn) = false := by cases op <;> first | rfl | exact absurd rfl h2
  cases b <;> simp [behindInMarks, e1, e2]
def tCmp (p : Int → Int → Bool) (ta tb : TE) : TE := fun σ H Q => t2I ta tb (fun i j H2 => Q (.bl (p i j)) H2) σ H
abbrev tLt : TE → TE → TE := tCmp fun i j => decide (i < j)
abbrev tLe : TE → TE → TE := tCmp fun i j => decide (i ≤ j)
abbrev tGt : TE → TE → TE := tCmp fun i j => decide (j < i)
abbrev tGe : TE → TE → TE := tCmp fun i j => decide (j ≤ i)
abbrev tEqI : TE → TE → TE := tCmp fun i j => decide (i = j)
abbrev tNeI : TE → TE → TE := tCmp fun i j => !decide (i = j)
/-- a comparison of two ints, by its rule -/
theorem pc_int {op : CmpOp} {p : Int → Int → Bool} (ha : PE X a ta) (hb : PE X b tb)
    (rule : ∀ (i j : Int) (t u : Tok) (Q : Value → Shared → Prop) (s : Shared), Q (.bool (p i j)) s → wpAny (model X.prog X.w) X.A (compareOp op (.int i t) (.int j u)) Q X.xe s) : PC X op a b (tCmp p ta tb) := by
  intro pins s σ H Q I h
  refine bin ha hb I h fun v u s2 x y H2 I2 rx ry q => ?_
  obtain ⟨i, j, rfl, rfl, q⟩ := q
  obtain ⟨t, rfl⟩ := rx
  obtain ⟨t', rfl⟩ := ry
  exact rule i j t t' _ s2 ⟨.bl _, H2, I2, rfl, q⟩
theorem pc_lt (ha : PE X a ta) (hb : PE X b tb) : PC X .Lt a b (tLt ta tb) := pc_int ha hb fun _ _ _ _ _ _ h => lt_int h
theorem pc_le (ha : PE X a ta) (hb : PE X b tb) : PC X .LtE a b (tLe ta tb) := pc_int ha hb fun _ _ _ _ _ _ h => le_int h
theorem pc_gt (ha : PE X a ta) (hb : PE X b tb) : PC X .Gt a b (tGt ta tb) := pc_int ha hb fun _ _ _ _ _ _ h => gt_int h
theorem pc_ge (ha : PE X a ta) (hb : PE X b tb) : PC X .GtE a b (tGe ta tb) := pc_int ha hb fun _ _ _ _ _ _ h => ge_int h
theorem pc_eqI (ha : PE X a ta) (hb : PE X b tb) : PC X .Eq a b (tEqI ta tb) := pc_int ha hb fun _ _ _ _ _ _ h => eq_int (by rw [Bool.beq_eq_decide_eq]; exact h)
theorem pc_neI (ha : PE X a ta) (hb : PE X b tb) : PC X .NotEq a b (tNeI ta tb) := pc_int ha hb fun _ _ _ _ _ _ h => ne_int (by rw [bne, Bool.beq_eq_decide_eq]; exact h)
/-- is None -/
def tIsN (ta : TE) : TE := fun σ H Q => ta σ H fun x H1 => Q (.bl (decide (x = .non))) H1
def tNotN (ta : TE) : TE := fun σ H Q => ta σ H fun x H1 => Q (.bl (!decide (x = .non))) H1
theorem RelV.none_iff {x : V} {v : Value} (r : RelV x v) : (v == Value.none) = decide (x = .non) := by
  cases x with
  | non => cases r; rfl
  | bl _ => cases r; rfl
  | int _ => obtain ⟨t, rfl⟩ := r; rfl
  | str _ => obtain ⟨t, rfl⟩ := r; rfl
  | byt _ => obtain ⟨t, rfl⟩ := r; rfl
  | flt _ => obtain ⟨t, rfl⟩ := r; rfl
  | ref _ => cases r; rfl
  | ty _ => cases r; rfl
theorem pc_isN {j pos'} (ha : PE X a ta) : PC X .Is a (.Constant .none j pos') (tIsN ta) := by
  intro pins s σ H Q I h
  refine thn (ha pins s σ H _ I h) fun v s1 ⟨x, H1, I1, r1, q1⟩ => ?_
  exact Constant_none (is_none_gen ⟨.bl _, H1, I1, by rw [r1.none_iff]; rfl, q1⟩)
/-- a comparison as a value, as a test -/
def tB (t : TE) : TT := fun σ H Q => t σ H fun x H1 => ∃ c, x = .bl c ∧ Q c H1
theorem pe_cmp {op : CmpOp} {t : TE} (h : PC X op a b t) (h1 : behindInMarks op b = false := by first | exact nobehind _ (by decide) (by decide) | rfl) : PE X (.Compare a [op] [b] pos) t := fun pins s σ H Q I hw => wpAny_Compare1 (h pins s σ H Q I hw) h1
theorem pt_cmp {op : CmpOp} {t : TE} (h : PC X op a b t) (h1 : behindInMarks op b = false := by first | exact nobehind _ (by decide) (by decide) | rfl) : PT X (.Compare a [op] [b] pos) (tB t) := by
  intro pins s σ H Q I hw
  refine wpAny_isTrue_Compare1 (thn (h pins s σ H _ I hw) fun v s1 h1 => thn h1 fun u s2 h2 => thn h2 fun c s3 ⟨x, H1, I1, r1, q1⟩ => ?_) h1
  obtain ⟨d, rfl, q⟩ := q1
  cases r1
  exact wpAny_truthy_bool ⟨H1, I1, q⟩
/-- an expression whose value is a bool, as a test -/
theorem pt_val {e : Expr} {t : TE} (h : PE X e t) (he : ∀ whole, isTrue e X.env whole = (do let v ← whole; standAt e.pos; holding [v] (truthy v)) := by intro _; rfl) : PT X e (tB t) := by
  intro pins s σ H Q I hw
  refine isTrue_plain (thn (h pins s σ H _ I hw) fun v s1 ⟨x, H1, I1, r1, q1⟩ => ?_) (he _)
  obtain ⟨d, rfl, q⟩ := q1
  cases r1
  exact wpAny_truthy_bool ⟨H1, I1, q⟩
/-! ### and, or, not -/
variable {tA tB' : TT} {rest : List Expr}
def tAnd (t u : TT) : TT := fun σ H Q => t σ H fun c H1 => if c = true then u σ H1 Q else Q false H1
def tOr (t u : TT) : TT := fun σ H Q => t σ H fun c H1 => if c = true then Q true H1 else u σ H1 Q
def tNot (t : TT) : TT := fun σ H Q => t σ H fun c H1 => Q (!c) H1
theorem pw_and1 (ha : PT X a tA) : PW X (.BoolOp .And [a] pos) tA := by
  intro wh pins s σ H Q I h
  refine isTrue_and (thn (ha pins s σ H Q I h) fun c s1 e => ?_)
  cases c with
  | true => exact isTrue_and_nil e
  | false => exact e
theorem pw_or1 (ha : PT X a tA) : PW X (.BoolOp .Or [a] pos) tA := by
  intro wh pins s σ H Q I h
  refine isTrue_or (thn (ha pins s σ H Q I h) fun c s1 e => ?_)
  cases c with
  | false => exact isTrue_or_nil e
  | true => exact e
theorem pw_and (ha : PT X a tA) (hb : PW X (.BoolOp .And (b :: rest) pos) tB') : PW X (.BoolOp .And (a :: b :: rest) pos) (tAnd tA tB') := by
  intro wh pins s σ H Q I h
  refine isTrue_and (thn (ha pins s σ H _ I h) fun c s1 ⟨H1, I1, q1⟩ => ?_)
  cases c with
  | true => exact hb wh pins s1 σ H1 Q I1 q1
  | false => exact ⟨H1, I1, q1⟩
theorem pw_or (ha : PT X a tA) (hb : PW X (.BoolOp .Or (b :: rest) pos) tB') : PW X (.BoolOp .Or (a :: b :: rest) pos) (tOr tA tB') := by
  intro wh pins s σ H Q I h
  refine isTrue_or (thn (ha pins s σ H _ I h) fun c s1 ⟨H1, I1, q1⟩ => ?_)
  cases c with
  | true => exact ⟨H1, I1, q1⟩
  | false => exact hb wh pins s1 σ H1 Q I1 q1
theorem pt_not (ha : PT X a tA) : PT X (.UnaryOp .Not a pos) (tNot tA) := by
  intro pins s σ H Q I h
  exact isTrue_not (ha pins s σ H (fun c H1 => Q (!c) H1) I h)
/-- .. as values (bools) -/
def tAndV (ta tb : TE) : TE := fun σ H Q => ta σ H fun x H1 => ∃ c, x = .bl c ∧ if c = true then tb σ H1 Q else Q (.bl false) H1
def tOrV (ta tb : TE) : TE := fun σ H Q => ta σ H fun x H1 => ∃ c, x = .bl c ∧ if c = true then Q (.bl true) H1 else tb σ H1 Q
def tNotV (ta : TE) : TE := fun σ H Q => ta σ H fun x H1 => ∃ c, x = .bl c ∧ Q (.bl (!c)) H1
theorem pe_one {op} {t : TE} (h : PE X a t) : PE X (.BoolOp op [a] pos) t := fun pins s σ H Q I hw => BoolOp_one (h pins s σ H Q I hw)
theorem pe_and (ha : PE X a ta) (hb : PE X (.BoolOp .And (b :: rest) pos) tb) : PE X (.BoolOp .And (a :: b :: rest) pos) (tAndV ta tb) := by
  intro pins s σ H Q I h
  refine BoolOp_and (thn (ha pins s σ H _ I h) fun v s1 ⟨x, H1, I1, r1, q1⟩ => ?_)
  obtain ⟨c, rfl, q1⟩ := q1
  cases r1
  refine wpAny_truthy_bool ?_
  cases c with
  | true => exact hb pins s1 σ H1 Q I1 q1
  | false => exact ⟨.bl false, H1, I1, rfl, q1⟩
theorem pe_or (ha : PE X a ta) (hb : PE X (.BoolOp .Or (b :: rest) pos) tb) : PE X (.BoolOp .Or (a :: b :: rest) pos) (tOrV ta tb) := by
  intro pins s σ H Q I h
  refine BoolOp_or (thn (ha pins s σ H _ I h) fun v s1 ⟨x, H1, I1, r1, q1⟩ => ?_)
  obtain ⟨c, rfl, q1⟩ := q1
  cases r1
  refine wpAny_truthy_bool ?_
  cases c with
  | false => exact hb pins s1 σ H1 Q I1 q1
  | true => exact ⟨.bl true, H1, I1, rfl, q1⟩
/-- a if t else b -/
def tIf (t : TT) (ta tb : TE) : TE := fun σ H Q => t σ H fun c H1 => if c = true then ta σ H1 Q else tb σ H1 Q
theorem pe_ifExp {c : Expr} (hc : PT X c tA) (ha : PE X a ta) (hb : PE X b tb) : PE X (.IfExp c a b pos) (tIf tA ta tb) := by
  intro pins s σ H Q I h
  refine wpAny_IfExp (thn (hc pins s σ H _ I h) fun d s1 ⟨H1, I1, q1⟩ => ?_)
  cases d with
  | true => exact ha pins s1 σ H1 Q I1 q1
  | false => exact hb pins s1 σ H1 Q I1 q1
end
end L2
namespace L2
open PySem PySem.Spec PyProof.Rows
/-! ### a list, a tuple that is read: tracked, frozen, or an object of the module -/
def SqL (K : PySem.W.Frag) (H : Hp) (a : Addr) (xs : List V) : Prop :=
  Rd H a (.lst xs) ∨
    ∃ (o : Obj) (its : Array Value) (n : Nat), K.lookup a = some o ∧ o.cls = .type "list" ∧ o.dict = none ∧ o.data = .seq its n ∧ its.size ≤ sizeLine ∧ Vals xs its.toList
def SqT (K : PySem.W.Frag) (H : Hp) (a : Addr) (xs : List V) : Prop :=
  Rd H a (.tup xs) ∨
    ∃ (o : Obj) (its : Array Value) (n : Nat), K.lookup a = some o ∧ o.cls = .type "tuple" ∧ o.data = .seq its n ∧ its.size ≤ sizeLine ∧ Vals xs its.toList
def absV : Value → Option V
  | .none => some .non
  | .bool b => some (.bl b)
  | .int i _ => some (.int i)
  | .str x _ => some (.str x)
  | .bytes b _ => some (.byt b)
  | .float b _ => some (.flt b)
  | .ref a => some (.ref a)
  | .type n => some (.ty n)
  | _ => none
theorem RelV.abs {x : V} {u : Value} (r : RelV x u) : absV u = some x := by
  cases x with
  | non => cases r; rfl
  | bl _ => cases r; rfl
  | int _ => obtain ⟨t, rfl⟩ := r; rfl
  | str _ => obtain ⟨t, rfl⟩ := r; rfl
  | byt _ => obtain ⟨t, rfl⟩ := r; rfl
  | flt _ => obtain ⟨t, rfl⟩ := r; rfl
  | ref _ => cases r; rfl
  | ty _ => cases r; rfl
theorem RelV.inj {x y : V} {u : Value} (r : RelV x u) (q : RelV y u) : x = y := Option.some.inj (r.abs.symm.trans q.abs)
theorem Vals.inj : ∀ {xs ys : List V} {us : List Value}, Vals xs us → Vals ys us → xs = ys
  | _, _, _, .nil, .nil => rfl
  | _, _, _, .cons r t, .cons r' t' => by rw [r.inj r', Vals.inj t t']
section
variable {X : Cx} {pins : List (Addr × Obj)} {σ : St} {H : Hp} {s : Shared} {a : Addr} {xs ys : List V}
theorem SqL.of {K : PySem.W.Frag} (h : H a = some (.lst xs)) : SqL K H a xs := .inl (.inl h)
theorem SqT.of {K : PySem.W.Frag} (h : H a = some (.tup xs)) : SqT K H a xs := .inl (.inl h)
theorem Inv.list (I : Inv X pins σ H s) (h : SqL X.K H a xs) : ∃ its : List Value, Vals xs its ∧ PlainL s.heap a its.toArray ∧ xs.length ≤ sizeLine := by
  rcases h with h | ⟨o, its, n, hk, hc, hd, hs, hz, r⟩
  · obtain ⟨z, its, n, r, e⟩ := h.ok I.hok
    exact ⟨its, r, ⟨_, n, e, rfl, rfl, rfl⟩, z⟩
  · refine ⟨its.toList, r, ⟨o, n, I.kIn a o hk, hc, hd, by simpa using hs⟩, ?_⟩
    have e := r.length
    simp only [Array.length_toList] at e
    omega
theorem Inv.tuple (I : Inv X pins σ H s) (h : SqT X.K H a xs) : ∃ its : List Value, Vals xs its ∧ IsTup s.heap a its.toArray ∧ xs.length ≤ sizeLine := by
  rcases h with h | ⟨o, its, n, hk, hc, hs, hz, r⟩
  · obtain ⟨z, its, r, p⟩ := h.ok I.hok
    exact ⟨its, r, p, z⟩
  · refine ⟨its.toList, r, ⟨o, I.kIn a o hk, hc, n, by simpa using hs⟩, ?_⟩
    have e := r.length
    simp only [Array.length_toList] at e
    omega
theorem Inv.list_inj (I : Inv X pins σ H s) (h : SqL X.K H a xs) (h' : SqL X.K H a ys) : xs = ys := by
  obtain ⟨its, r, ⟨o, n, e, _, _, d⟩, _⟩ := I.list h
  obtain ⟨its', r', ⟨o', n', e', _, _, d'⟩, _⟩ := I.list h'
  rw [e] at e'; cases e'
  rw [d] at d'
  injection d' with d1 _
  have : its = its' := by simpa using congrArg Array.toList d1
  subst this
  exact r.inj r'
theorem Inv.tuple_inj (I : Inv X pins σ H s) (h : SqT X.K H a xs) (h' : SqT X.K H a ys) : xs = ys := by
  obtain ⟨its, r, ⟨o, e, _, n, d⟩, _⟩ := I.tuple h
  obtain ⟨its', r', ⟨o', e', _, n', d'⟩, _⟩ := I.tuple h'
  rw [e] at e'; cases e'
  rw [d] at d'
  injection d' with d1 _
  have : its = its' := by simpa using congrArg Array.toList d1
  subst this
  exact r.inj r'
end
/-! ### another wish about exceptions -/
abbrev Cx.wish (X : Cx) (E : Value → Shared → Prop) : Cx := { X with xe := E }
/-- no exception leaves -/
abbrev Cx.nox (X : Cx) : Cx := X.wish fun _ _ => False
theorem Cx.Ok.wish {X : Cx} (ok : X.Ok) (E : Value → Shared → Prop) : (X.wish E).Ok :=
  ⟨ok.mod, ok.kind, ok.glob, ok.blt, ok.above, ok.inj, ok.has, ok.cab, ok.hd, ok.frames, ok.stk, ok.exf, ok.bs, ok.bsz, ok.noex, ok.exfs, ok.funs, ok.frf⟩
theorem Cx.Ok.unwish {X : Cx} {E : Value → Shared → Prop} (ok : (X.wish E).Ok) : X.Ok :=
  ⟨ok.mod, ok.kind, ok.glob, ok.blt, ok.above, ok.inj, ok.has, ok.cab, ok.hd, ok.frames, ok.stk, ok.exf, ok.bs, ok.bsz, ok.noex, ok.exfs, ok.funs, ok.frf⟩
section
variable {X : Cx} {pins : List (Addr × Obj)} {σ : St} {H : Hp} {s : Shared} {E : Value → Shared → Prop}
theorem Inv.wish (I : Inv X pins σ H s) (E : Value → Shared → Prop) : Inv (X.wish E) pins σ H s := ⟨I.ok.wish E, I.os, I.bare, I.base, I.loc, I.cell, I.free, I.freeC, I.pin, I.hok, I.len⟩
theorem Inv.unwish (I : Inv (X.wish E) pins σ H s) : Inv X pins σ H s := ⟨I.ok.unwish, I.os, I.bare, I.base, I.loc, I.cell, I.free, I.freeC, I.pin, I.hok, I.len⟩
theorem SP.unwish {D : Ends} {f : Flow} {s' : Shared} (h : SP (X.wish E) pins D f s') : SP X pins D f s' := by
  cases f with
  | next => obtain ⟨σ', H', I, q⟩ := h; exact ⟨σ', H', I.unwish, q⟩
  | brk => obtain ⟨σ', H', I, q⟩ := h; exact ⟨σ', H', I.unwish, q⟩
  | cont => obtain ⟨σ', H', I, q⟩ := h; exact ⟨σ', H', I.unwish, q⟩
  | ret u => obtain ⟨v, σ', H', I, r, q⟩ := h; exact ⟨v, σ', H', I.unwish, r, q⟩
theorem PE.nox {e : Expr} {t : TE} (h : PE X.nox e t) : PE X e t := fun pins s σ H Q I hw =>
  wpAny_mono (h pins s σ H Q (I.wish _) hw) (fun _ _ ⟨v, H', I', r, q⟩ => ⟨v, H', I'.unwish, r, q⟩) fun _ _ z => False.elim z
theorem PT.nox {e : Expr} {t : TT} (h : PT X.nox e t) : PT X e t := fun pins s σ H Q I hw =>
  wpAny_mono (h pins s σ H Q (I.wish _) hw) (fun _ _ ⟨H', I', q⟩ => ⟨H', I'.unwish, q⟩) fun _ _ z => False.elim z
theorem PSs.nox {st : List Stmt} {t : TS} (h : PSs X.nox st t) : PSs X st t := fun pins s σ H D I hw =>
  wpAny_mono (h pins s σ H D (I.wish _) hw) (fun _ _ q => q.unwish) fun _ _ z => False.elim z
end
/-! ### blocks and small statements -/
section
variable {X : Cx} {st : Stmt} {rest : List Stmt} {t u : TS} {e : Expr} {te : TE} {pos : Pos}
def tNext : TS := fun D σ H => D.nx σ H
def tSeq (t u : TS) : TS := fun D σ H => t { D with nx := u D } σ H
theorem pss_nil : PSs X [] tNext := fun _ _ σ H _ I h => wpAny_execs_nil ⟨σ, H, I, h⟩
theorem pss_cons (h1 : PS X st t) (h2 : PSs X rest u) : PSs X (st :: rest) (tSeq t u) := by
  intro pins s σ H D I h
  refine wpAny_execs_cons (thn (h1 pins s σ H { D with nx := u D } I h) fun f s1 q => ?_)
  cases f with
  | next =>
    obtain ⟨σ', H', I', q⟩ := q
    exact h2 pins s1 σ' H' D I' q
  | ret v => exact q
  | brk => exact q
  | cont => exact q
theorem pss_one (h1 : PS X st t) : PSs X [st] t := by
  intro pins s σ H D I h
  refine wpAny_execs_cons (thn (h1 pins s σ H D I h) fun f s1 q => ?_)
  cases f with
  | next => exact wpAny_execs_nil q
  | ret v => exact q
  | brk => exact q
  | cont => exact q
def tBreak : TS := fun D σ H => D.bk σ H
def tCont : TS := fun D σ H => D.ct σ H
/-- in a def's body nothing is shown -/
theorem Inv.quiet {pins : List (Addr × Obj)} {σ : St} {H : Hp} {s : Shared} (I : Inv X pins σ H s) : interactive X.env = false := by simp [interactive, I.ok.kind]
/-- an expression whose value is dropped -/
def tDrop (te : TE) : TS := fun D σ H => te σ H fun _ H1 => D.nx σ H1
theorem ps_expr (he : PE X e te) (hs : swapsWith e none pos.line X.env = pure false := by rfl) : PS X (.Expr e pos) (tDrop te) := by
  intro pins s σ H D I h
  exact wpAny_Expr_any (thn (he pins s σ H _ I h) fun v s1 ⟨x, H1, I1, r1, q1⟩ => ⟨σ, H1, I1, q1⟩) I.quiet hs
def tRet (te : TE) : TS := fun D σ H => te σ H D.rt
theorem ps_ret (he : PE X e te) : PS X (.Return (some e) pos) (tRet te) := by
  intro pins s σ H D I h
  exact wpAny_Return_some (thn (he pins s σ H _ I h) fun v s1 ⟨x, H1, I1, r1, q1⟩ => ⟨x, σ, H1, I1, r1, q1⟩)
def tRetN : TS := fun D _ H => D.rt .non H
def tIfS (c : TT) (t u : TS) : TS := fun D σ H => c σ H fun b H1 => if b = true then t D σ H1 else u D σ H1
theorem ps_if {c : Expr} {a b : List Stmt} {tc : TT} (hc : PT X c tc) (ha : PSs X a t) (hb : PSs X b u) : PS X (.If c a b pos) (tIfS tc t u) := by
  intro pins s σ H D I h
  refine wpAny_If (thn (hc pins s σ H _ I h) fun d s1 ⟨H1, I1, q1⟩ => ?_)
  cases d with
  | true => exact ha pins s1 σ H1 D I1 q1
  | false => exact hb pins s1 σ H1 D I1 q1
/-- code that the proof never comes to -/
def tNever : TS := fun _ _ _ => False
end
/-! ### targets -/
abbrev TG := V → St → Hp → (St → Hp → Prop) → Prop
abbrev TGs := List V → St → Hp → (St → Hp → Prop) → Prop
def PG (X : Cx) (target : Expr) (t : TG) : Prop :=
  ∀ (pins : List (Addr × Obj)) (s : Shared) (σ : St) (H : Hp) (v : V) (u : Value) (Q : St → Hp → Prop), Inv X pins σ H s → RelV v u → t v σ H Q →
    wpAny (model X.prog X.w) X.A (assign target X.env u) (fun _ s' => ∃ σ' H', Inv X pins σ' H' s' ∧ Q σ' H') X.xe s
/-- several targets, one after another -/
def PGs (X : Cx) (ts : List Expr) (t : TGs) : Prop :=
  ∀ (pins : List (Addr × Obj)) (s : Shared) (σ : St) (H : Hp) (vs : List V) (us : List Value) (Q : St → Hp → Prop), Inv X pins σ H s → Vals vs us → t vs σ H Q →
    wpAny (model X.prog X.w) X.A (assignInOrder ((assignEach ts X.env).map (·.2)) us) (fun _ s' => ∃ σ' H', Inv X pins σ' H' s' ∧ Q σ' H') X.xe s
/-- o[i] = v, by values -/
abbrev TSet := V → V → V → Hp → (Hp → Prop) → Prop
def PSet (X : Cx) (t : TSet) : Prop :=
  ∀ (pins : List (Addr × Obj)) (s : Shared) (σ : St) (H : Hp) (o i v : V) (ov iv u : Value) (Q : Hp → Prop), Inv X pins σ H s → RelV o ov → RelV i iv → RelV v u → t o i v H Q →
    wpAny (model X.prog X.w) X.A (setItem ov iv u) (fun _ s' => ∃ H', Inv X pins σ H' s' ∧ Q H') X.xe s
/-- a op= b, by values -/
abbrev TIp := V → V → Hp → VK → Prop
def PIp (X : Cx) (op : Operator) (t : TIp) : Prop :=
  ∀ (pins : List (Addr × Obj)) (s : Shared) (σ : St) (H : Hp) (x y : V) (v u : Value) (Q : VK), Inv X pins σ H s → RelV x v → RelV y u → t x y H Q →
    wpAny (model X.prog X.w) X.A (inplaceOp op v u) (EP X pins σ Q) X.xe s
section
variable {X : Cx} {pos : Pos}
def gName (i : Nat) : TG := fun v σ H Q => Q (σ.set i (some v)) H
theorem pg_name {i : Nat} {x : Str} (hN : X.N.Nodup) (hi : X.N[i]? = some x) (hx : Loc X.env.scope x) (hf : X.fn x = true ∨ X.env.scope.names.lookup x = some .local := by first | exact .inl rfl | exact .inr rfl | assumption) : PG X (.Name x pos) (gName i) := by
  intro pins s σ H v u Q I r h
  exact wpAny_assign_Name (store_ok I hN hi hx r (fun s' I' => ⟨_, H, I', h⟩) hf)
def gNil : TGs := fun vs σ H Q => vs = [] ∧ Q σ H
def gCons (t : TG) (u : TGs) : TGs := fun vs σ H Q => ∃ v r, vs = v :: r ∧ t v σ H fun σ' H' => u r σ' H' Q
theorem pgs_nil : PGs X [] gNil := by
  intro pins s σ H vs us Q I r h
  obtain ⟨e, h⟩ := h
  subst e
  cases r
  exact assignInOrder_nil ⟨σ, H, I, h⟩
theorem pgs_cons {e : Expr} {es : List Expr} {t : TG} {u : TGs} (h1 : PG X e t) (h2 : PGs X es u)
    (hs : (assignEach (e :: es) X.env).map (·.2) = assign e X.env :: (assignEach es X.env).map (·.2) := by rfl) : PGs X (e :: es) (gCons t u) := by
  intro pins s σ H vs us Q I r h
  obtain ⟨v, vr, e1, h⟩ := h
  subst e1
  cases r with
  | cons r rr =>
    rw [hs]
    refine assignInOrder_cons (thn (h1 pins s σ H _ _ _ I r h) fun _ s1 ⟨σ1, H1, I1, q1⟩ => ?_)
    exact h2 pins s1 σ1 H1 _ _ Q I1 rr q1
/-- (a, b, ..) = a tuple of that length -/
def gTup (K : PySem.W.Frag) (n : Nat) (t : TGs) : TG := fun v σ H Q => ∃ a xs, v = .ref a ∧ SqT K H a xs ∧ xs.length = n ∧ t xs σ H Q
theorem pg_tup {es : List Expr} {k : Nat} {t : TGs} {n : Nat} (hc : X.calm = true) (h : PGs X es t)
    (hn : (assignEach es X.env).length = n := by rfl) (hst : (assignEach es X.env).findIdx? (·.1) = none := by rfl) : PG X (.Tuple es k pos) (gTup X.K n t) := by
  intro pins s σ H v u Q I r hw
  obtain ⟨a, xs, e1, hq, hl, hw⟩ := hw
  subst e1
  cases r
  obtain ⟨its, rv, ht, hz⟩ := I.tuple hq
  refine assign_Tuple_tuple (I.ok.hd hc) ht (by simp [hn, ← hl, rv.length]) hst fun h' hx => ?_
  have I1 : Inv X pins σ H { s with heap := h' } := I.kept (t' := s.toks) fun b o e => hx b o (Nat.ne_of_lt (Heap.lt_size e)) e
  exact h pins _ σ H xs _ Q I1 (by simpa using rv) hw
/-- o[i] = .. -/
def gSub (to ti : TE) (t : TSet) : TG := fun v σ H Q => to σ H fun o H1 => ti σ H1 fun i H2 => t o i v H2 fun H3 => Q σ H3
theorem pg_sub {o i : Expr} {to ti : TE} {t : TSet} (ho : PE X o to) (hi : PE X i ti) (hs : PSet X t)
    (ha : ∀ v, assign (.Subscript o i pos) X.env v = (do
      let ov ← holding [v] (eval o X.env)
      let iv ← holding [v, ov] (eval i X.env)
      standAt pos
      holding [v, ov, iv] (setItem ov iv v)
      release [v, ov, iv] []) := by intro _; rfl) : PG X (.Subscript o i pos) (gSub to ti t) := by
  intro pins s σ H v u Q I r h
  rw [ha]
  refine wpAny_bind (wpAny_holding (thn (ho pins s σ H _ I h) fun ov s1 ⟨x, H1, I1, r1, q1⟩ => ?_))
  refine wpAny_bind (wpAny_holding (thn (hi pins s1 σ H1 _ I1 q1) fun iv s2 ⟨y, H2, I2, r2, q2⟩ => ?_))
  refine wpAny_bind (wpAny_standAt (wpAny_bind (wpAny_holding (thn (hs pins s2 σ H2 x y v ov iv u _ I2 r1 r2 r q2) fun _ s3 ⟨H3, I3, q3⟩ => ?_))))
  exact wpAny_release ⟨σ, H3, I3, q3⟩
/-- target = value -/
def tAsg (te : TE) (g : TG) : TS := fun D σ H => te σ H fun x H1 => g x σ H1 D.nx
theorem ps_asg {tg e : Expr} {te : TE} {g : TG} (he : PE X e te) (hg : PG X tg g) (hs : swapsWithSole [tg] e pos.line X.env = pure false := by rfl) (hw : swappedStores [tg] e X.env = pure none := by rfl)
    (h1 : (assignEach [tg] X.env).map (·.2) = [assign tg X.env] := by rfl) : PS X (.Assign [tg] e pos) (tAsg te g) := by
  intro pins s σ H D I h
  refine wpAny_Assign_stores (thn (he pins s σ H _ I h) fun v s1 ⟨x, H1, I1, r1, q1⟩ => ?_) hs hw
  rw [h1]
  exact thn (hg pins s1 σ H1 x v _ I1 r1 q1) fun _ s2 q => q
/-- name = value -/
theorem ps_set {i : Nat} {x : Str} {e : Expr} {te : TE} {pos' : Pos} (hN : X.N.Nodup) (hi : X.N[i]? = some x) (hx : Loc X.env.scope x) (he : PE X e te) (hs : swapsWith e (some (.Name x pos')) pos.line X.env = pure false := by rfl) (hf : X.fn x = true ∨ X.env.scope.names.lookup x = some .local := by first | exact .inl rfl | exact .inr rfl | assumption) :
    PS X (.Assign [.Name x pos'] e pos) (tAsg te (gName i)) := by
  intro pins s σ H D I h
  refine wpAny_Assign_Name (thn (he pins s σ H _ I h) fun v s1 ⟨y, H1, I1, r1, q1⟩ => ?_) hs
  exact store_ok I1 hN hi hx r1 (fun s2 I2 => ⟨_, H1, I2, q1⟩) hf
/-- a, b = x, y with plain local names: stored from the right; the pair itself is not tracked (the opening rows as in PyProof/Rows/TupAssign.lean:23) -/
def tPar (i j : Nat) (ta : TA) : TS := fun D σ H => ta σ H fun vs H1 => ∃ v w, vs = [v, w] ∧ D.nx ((σ.set i (some v)).set j (some w)) H1
/-- name op= e -/
def tAug (i : Nat) (te : TE) (ti : TIp) : TS := fun D σ H => ∃ x, σ[i]? = some (some x) ∧ te σ H fun y H1 => ti x y H1 fun z H2 => D.nx (σ.set i (some z)) H2
theorem ps_aug {i : Nat} {x : Str} {e : Expr} {te : TE} {op : Operator} {ti : TIp} {pos' : Pos} (hN : X.N.Nodup) (hi : X.N[i]? = some x) (hx : Loc X.env.scope x) (he : PE X e te) (ho : PIp X op ti) (hf : X.fn x = true ∨ X.env.scope.names.lookup x = some .local := by first | exact .inl rfl | exact .inr rfl | assumption) :
    PS X (.AugAssign (.Name x pos') op e pos) (tAug i te ti) := by
  intro pins s σ H D I h
  obtain ⟨v, e1, h⟩ := h
  obtain ⟨m, hn, hl⟩ := I.loc
  have vis : Vis X.env.scope x := by rcases hx with k | k; exact .inl k; exact .inr (.inl k)
  obtain ⟨u, r, l⟩ := hl i x v hi e1 vis
  refine wpAny_AugAssign_Name ?_
  have go : wpAny (model X.prog X.w) X.A (eval e X.env) (fun w s₂ => wpAny (model X.prog X.w) X.A (inplaceOp op u w) (fun r s₃ => wpAny (model X.prog X.w) X.A (storeName X.env x r) (fun _ => SP X pins D .next) X.xe s₃) X.xe s₂) X.xe s := by
    refine thn (he pins s σ H _ I h) fun w s1 ⟨y, H1, I1, r1, q1⟩ => ?_
    refine thn (ho pins s1 σ H1 v y u w _ I1 r r1 q1) fun z s2 ⟨zv, H2, I2, r2, q2⟩ => ?_
    exact store_ok I2 hN hi hx r2 (fun s3 I3 => ⟨_, H2, I3, q2⟩) hf
  rcases l with ⟨hk, hm⟩ | ⟨hk, c, hc, hcell⟩
  · exact wpAny_loadName_local I.ok.kind hk hn hm go
  · rcases hk with hk | hk
    · exact wpAny_loadName_cell I.ok.kind hk hc hcell go
    · rcases hx with k | k
      · have : X.env.scope.names.lookup x = some .free := hk
        rw [k] at this; cases this
      · have : X.env.scope.names.lookup x = some .free := hk
        rw [k] at this; cases this
/-- o[i] op= e -/
def tAugS (to ti te : TE) (tget : V → V → Hp → VK → Prop) (tip : TIp) (tset : TSet) : TS := fun D σ H => to σ H fun o H1 => ti σ H1 fun i H2 => tget o i H2 fun x H3 => te σ H3 fun y H4 => tip x y H4 fun z H5 => tset o i z H5 fun H6 => D.nx σ H6
/-- o[i], by values -/
def PGet (X : Cx) (t : V → V → Hp → VK → Prop) : Prop :=
  ∀ (pins : List (Addr × Obj)) (s : Shared) (σ : St) (H : Hp) (o i : V) (ov iv : Value) (Q : VK), Inv X pins σ H s → RelV o ov → RelV i iv → t o i H Q →
    wpAny (model X.prog X.w) X.A (getItem ov iv) (EP X pins σ Q) X.xe s
/-- ints -/
def ipI (f : Int → Int → Int) : TIp := fun x y H Q => ∃ i j, x = .int i ∧ y = .int j ∧ Q (.int (f i j)) H
theorem ip_add : PIp X .Add (ipI fun i j => i + j) := by
  intro pins s σ H x y v u Q I r1 r2 h
  obtain ⟨i, j, e1, e2, q⟩ := h
  subst e1; subst e2
  obtain ⟨t, rfl⟩ := r1
  obtain ⟨t', rfl⟩ := r2
  exact iadd_int ⟨.int _, H, I.tok _, ⟨_, rfl⟩, q⟩
theorem ip_sub : PIp X .Sub (ipI fun i j => i - j) := by
  intro pins s σ H x y v u Q I r1 r2 h
  obtain ⟨i, j, e1, e2, q⟩ := h
  subst e1; subst e2
  obtain ⟨t, rfl⟩ := r1
  obtain ⟨t', rfl⟩ := r2
  exact isub_int ⟨.int _, H, I.tok _, ⟨_, rfl⟩, q⟩
end
/-! ### while -/
section
variable {X : Cx} {pos : Pos}
/-- the invariant W with its measure -/
def tWhile (c : TT) (tb : TS) : TS := fun D σ H => ∃ W : Nat → St → Hp → Prop, (∃ m, W m σ H) ∧ ∀ m σ H, W m σ H →
  c σ H fun b H1 => if b = true then ∃ N : St → Hp → Prop, (∀ σ' H', N σ' H' → ∃ m', m' < m ∧ W m' σ' H') ∧ tb { D with nx := N, ct := N, bk := D.nx } σ H1 else D.nx σ H1
theorem ps_while {c : Expr} {body : List Stmt} {tc : TT} {tb : TS} (hp : PassesOwn (model X.prog X.w) X.A X.env X.xe) (hc : PT X c tc) (hb : PSs X body tb) : PS X (.While c body [] pos) (tWhile tc tb) := by
  intro pins s σ H D I h
  obtain ⟨W, ⟨m0, w0⟩, turn⟩ := h
  refine wpAny_While (codeAny_whileLoop (fun n s' => ∃ σ' H', Inv X pins σ' H' s' ∧ W n σ' H') ?_ m0 ⟨σ, H, I, w0⟩)
  rintro n s1 ⟨σ1, H1, I1, w1⟩
  refine wpAny_passesOwn hp (thn (hc pins s1 σ1 H1 _ I1 (turn n σ1 H1 w1)) fun b s2 ⟨H2, I2, q2⟩ => ?_)
  cases b with
  | true =>
    obtain ⟨N, hN, q2⟩ := q2
    rw [if_pos rfl]
    refine wpAny_passesOwn hp (thn (hb pins s2 σ1 H2 _ I2 q2) fun f s3 q3 => ?_)
    cases f with
    | next =>
      obtain ⟨σ3, H3, I3, n3⟩ := q3
      obtain ⟨m', hm, w3⟩ := hN σ3 H3 n3
      exact ⟨m', hm, σ3, H3, I3, w3⟩
    | cont =>
      obtain ⟨σ3, H3, I3, n3⟩ := q3
      obtain ⟨m', hm, w3⟩ := hN σ3 H3 n3
      exact ⟨m', hm, σ3, H3, I3, w3⟩
    | brk => exact q3
    | ret v => exact q3
  | false =>
    rw [if_neg Bool.false_ne_true]
    exact wpAny_execs_nil ⟨σ1, H2, I2, q2⟩
end
/-! ### what a loop or a comprehension walks -/
/-- at turn i: it yields x (the heap may grow), or it stops -/
structure It where
  go : Nat → Hp → Prop
  yld : Nat → Hp → V → Hp → Prop
  stop : Nat → Hp → Prop
/-- the iterator's own objects may turn: they are not the frame's, not pinned, younger than the entry (or a comprehension's own) -/
def FpOk (X : Cx) (pins : List (Addr × Obj)) (H : Hp) (b : Addr) : Prop :=
  H b = none ∧ b ≠ X.env.locals ∧ b ∉ X.fs ∧ (b ∈ X.ex ∨ X.s_0.heap.objs.size ≤ b) ∧ (∀ x c, X.env.cells.lookup x = some c → c ≠ b) ∧ ∀ p ∈ X.pn ++ pins, p.1 ≠ b
theorem Inv.fpOk {X : Cx} {pins : List (Addr × Obj)} {σ : St} {H H' : Hp} {s : Shared} {b : Addr} (I : Inv X pins σ H s) (hb : s.heap.objs.size ≤ b) (hn : H' b = none) : FpOk X pins H' b := by
  refine ⟨hn, Nat.ne_of_gt (Nat.lt_of_lt_of_le I.lt hb), I.nofs hb, .inr (Nat.le_trans I.sz hb), fun x c e z => ?_, fun p hp z => ?_⟩
  · obtain ⟨v, q⟩ := I.cell x c e
    exact absurd (Nat.lt_of_lt_of_le q.lt (by rw [z]; exact hb)) (Nat.lt_irrefl _)
  · exact absurd (Nat.lt_of_lt_of_le (Heap.lt_size (I.pin p hp).1) (by rw [z]; exact hb)) (Nat.lt_irrefl _)
structure Turn (P : Program) (w : World) (K : PySem.W.Frag) (tg : Expr) (J : It) (fp : List Addr) (it : Addr) (tn : Nat → Heap → Prop) : Prop where
  mem : it ∈ fp
  obj : ∀ i h, tn i h → ∀ b ∈ fp, ∃ o, h.get? b = some o ∧ ∀ v, o.data ≠ .cell v
  keep : ∀ i h h', tn i h → (∀ b ∈ fp, ∀ o, h.get? b = some o → h'.get? b = some o) → tn i h'
  item : ∀ (X : Cx), X.prog = P → X.w = w → X.K = K → X.calm = true → ∀ (i : Nat) (pins : List (Addr × Obj)) (s : Shared) (σ : St) (H : Hp) (E : Value → Shared → Prop), Inv X pins σ H s → (∀ b ∈ fp, FpOk X pins H b) → tn i s.heap → J.go i H →
    wpAny (model P w) X.A (pyNext (.ref it)) (fun r s1 => ∃ u, r = some u ∧
      wpAny (model P w) X.A (letOwnedTupleGo tg (.ref it) u) (fun _ s2 => ∃ x H', Inv X pins σ H' s2 ∧ RelV x u ∧ J.yld i H x H' ∧ tn (i + 1) s2.heap ∧ ∀ b ∈ fp, H' b = none) E s1) E s
  done : ∀ (X : Cx), X.prog = P → X.w = w → X.K = K → X.calm = true → ∀ (i : Nat) (pins : List (Addr × Obj)) (s : Shared) (σ : St) (H : Hp) (E : Value → Shared → Prop), Inv X pins σ H s → (∀ b ∈ fp, FpOk X pins H b) → tn i s.heap → J.stop i H →
    wpAny (model P w) X.A (pyNext (.ref it)) (fun r s1 => r = none ∧ Inv X pins σ H s1) E s
  self : ∀ (A : Around) (i : Nat) (s : Shared) (Q : Value → Shared → Prop) (E : Value → Shared → Prop), tn i s.heap → Q (.ref it) s → wpAny (model P w) A (pyIter (.ref it)) Q E s
abbrev TI := St → Hp → (It → Hp → Prop) → Prop
/-- an iterator has come -/
def PIE (X : Cx) (pins : List (Addr × Obj)) (σ : St) (tg : Expr) (R : It → Hp → Prop) (itv : Value) (s2 : Shared) : Prop :=
  ∃ (it : Addr) (fp : List Addr) (tn : Nat → Heap → Prop) (J : It) (H' : Hp), itv = .ref it ∧ Inv X pins σ H' s2 ∧ Turn X.prog X.w X.K tg J fp it tn ∧ tn 0 s2.heap ∧ (∀ b ∈ fp, FpOk X pins H' b) ∧ R J H'
def PI (X : Cx) (tg iter : Expr) (wi : TI) : Prop :=
  ∀ (pins : List (Addr × Obj)) (s : Shared) (σ : St) (H : Hp) (R : It → Hp → Prop), Inv X pins σ H s → wi σ H R →
    wpAny (model X.prog X.w) X.A (eval iter X.env) (fun v s1 => wpAny (model X.prog X.w) X.A (pyIter v) (PIE X pins σ tg R) X.xe s1) X.xe s
/-- the step ahead of the store is nothing for an iterator that keeps no tuple -/
theorem go_of {M : Model} {A : Around} {E : Value → Shared → Prop} {s : Shared} {tg : Expr} {it : Addr} {u : Value} {o : Obj} {n : String} {vs : Array Value} {Q : Unit → Shared → Prop} (ho : s.heap.get? it = some o) (hc : o.cls = .type n) (hd : o.data = .fields vs)
    (hn : ["enumerate", "zip", "dict_itemiterator", "dict_reverseitemiterator", "odict_iterator", "itertools.zip_longest", "itertools.pairwise"].contains n = false) (hQ : Q () s) : wpAny M A (letOwnedTupleGo tg (.ref it) u) Q E s := by
  unfold letOwnedTupleGo
  cases tg <;> first
    | exact wpAny_pure hQ
    | (cases u <;> first
        | exact wpAny_pure hQ
        | (refine wpAny_bind (wpAny_load ho ?_)
           rw [hc, hd]
           show wpAny M A (if (["enumerate", "zip", "dict_itemiterator", "dict_reverseitemiterator", "odict_iterator", "itertools.zip_longest", "itertools.pairwise"].contains n && vs[0]? == some (rawInt _)) = true then _ else _) Q E s
           rw [if_neg (by intro h; rw [hn, Bool.false_and] at h; cases h)]
           exact wpAny_pure hQ))
/-- the list at a, as it stands at each turn (a loop may append to it) -/
def Itl (K : PySem.W.Frag) (a : Addr) : It :=
  ⟨fun i H => ∃ xs x, SqL K H a xs ∧ xs[i]? = some x, fun i H x H' => H' = H ∧ ∀ xs, SqL K H a xs → xs[i]? = some x, fun i H => ∃ xs, SqL K H a xs ∧ xs.length ≤ i⟩
def Itt (K : PySem.W.Frag) (a : Addr) : It :=
  ⟨fun i H => ∃ xs x, SqT K H a xs ∧ xs[i]? = some x, fun i H x H' => H' = H ∧ ∀ xs, SqT K H a xs → xs[i]? = some x, fun i H => ∃ xs, SqT K H a xs ∧ xs.length ≤ i⟩
/-- lo, lo + 1, .. (n of them) -/
def Itr (lo : Int) (n : Nat) : It := ⟨fun i _ => i < n, fun i H x H' => H' = H ∧ x = .int (lo + i), fun i _ => n ≤ i⟩
theorem turn_list {P : Program} {w : World} {K : PySem.W.Frag} {tg : Expr} (a it : Addr) : Turn P w K tg (Itl K a) [it] it (fun i h => h.IsListIter it a i) where
  mem := by simp
  obj := fun i h st b hb => by
    have e : b = it := by simpa using hb
    subst e
    obtain ⟨o, e, c, d⟩ := st
    exact ⟨o, e, fun v z => by rw [d] at z; cases z⟩
  keep := fun i h h' st k => st.at fun o e => k it (by simp) o e
  item := by
    intro X hP hw hK hc i pins s σ H E I hf st hg
    subst hP hw hK
    obtain ⟨xs, x, hq, hx⟩ := hg
    obtain ⟨its, rv, p, hz⟩ := I.list hq
    obtain ⟨u, hu, ru⟩ := rv.get hx
    obtain ⟨f0, f1, f2, f3, f4, f5⟩ := hf it (by simp)
    refine wpAny_pyNext_list_item st p.isList (x := u) (by simpa using hu) fun h' st' sb => ?_
    have I1 : Inv X pins σ H { s with heap := h' } := I.turned (t' := s.toks) (fun b o hb e => (sb.2 b hb).trans e) f0 f1 f3 f4 f5
    obtain ⟨o, e, c, d⟩ := id st'
    exact ⟨u, rfl, go_of (s := { s with heap := h' }) e c d (by decide) ⟨x, H, I1, ru, ⟨rfl, fun ys hy => by rw [I.list_inj hy hq]; exact hx⟩, st', fun b hb => (hf b hb).1⟩⟩
  done := by
    intro X hP hw hK hc i pins s σ H E I hf st hg
    subst hP hw hK
    obtain ⟨xs, hq, hx⟩ := hg
    obtain ⟨its, rv, p, hz⟩ := I.list hq
    obtain ⟨f0, f1, f2, f3, f4, f5⟩ := hf it (by simp)
    have hl := rv.length
    exact wpAny_pyNext_list_end (I.ok.hd hc) st p.isList (by simp; omega) fun h' eb => ⟨rfl, I.turned (t' := s.toks) (fun b o hb e => eb b o hb e) f0 f1 f3 f4 f5⟩
  self := fun _ _ _ _ _ st h => wpAny_pyIter_listiter st h
theorem turn_tuple {P : Program} {w : World} {K : PySem.W.Frag} {tg : Expr} (a it : Addr) : Turn P w K tg (Itt K a) [it] it (fun i h => h.IsTupleIter it a i) where
  mem := by simp
  obj := fun i h st b hb => by
    have e : b = it := by simpa using hb
    subst e
    obtain ⟨o, e, c, d⟩ := st
    exact ⟨o, e, fun v z => by rw [d] at z; cases z⟩
  keep := fun i h h' st k => st.at fun o e => k it (by simp) o e
  item := by
    intro X hP hw hK hc i pins s σ H E I hf st hg
    subst hP hw hK
    obtain ⟨xs, x, hq, hx⟩ := hg
    obtain ⟨its, rv, p, hz⟩ := I.tuple hq
    obtain ⟨u, hu, ru⟩ := rv.get hx
    obtain ⟨f0, f1, f2, f3, f4, f5⟩ := hf it (by simp)
    refine wpAny_pyNext_tuple_item st (show s.heap.IsTuple a its.toArray from p) (x := u) (by simpa using hu) fun h' st' sb => ?_
    have I1 : Inv X pins σ H { s with heap := h' } := I.turned (t' := s.toks) (fun b o hb e => (sb.2 b hb).trans e) f0 f1 f3 f4 f5
    obtain ⟨o, e, c, d⟩ := id st'
    exact ⟨u, rfl, go_of (s := { s with heap := h' }) e c d (by decide) ⟨x, H, I1, ru, ⟨rfl, fun ys hy => by rw [I.tuple_inj hy hq]; exact hx⟩, st', fun b hb => (hf b hb).1⟩⟩
  done := by
    intro X hP hw hK hc i pins s σ H E I hf st hg
    subst hP hw hK
    obtain ⟨xs, hq, hx⟩ := hg
    obtain ⟨its, rv, p, hz⟩ := I.tuple hq
    obtain ⟨f0, f1, f2, f3, f4, f5⟩ := hf it (by simp)
    have hl := rv.length
    exact wpAny_pyNext_tuple_end (I.ok.hd hc) st (show s.heap.IsTuple a its.toArray from p) (by simp; omega) fun h' eb => ⟨rfl, I.turned (t' := s.toks) (fun b o hb e => eb b o hb e) f0 f1 f3 f4 f5⟩
  self := fun _ _ _ _ _ st h => wpAny_pyIter_tupleiter st h
theorem turn_range {P : Program} {w : World} {K : PySem.W.Frag} {tg : Expr} (it : Addr) (lo : Int) (n : Nat) : Turn P w K tg (Itr lo n) [it] it (fun i h => IsRangeIter h it (lo + (i : Nat) * 1) ((n : Int) - (i : Nat)) 1) where
  mem := by simp
  obj := fun i h st b hb => by
    have e : b = it := by simpa using hb
    subst e
    exact ⟨_, st, fun v z => by
      have z' : Data.fields _ = Data.cell v := z
      cases z'⟩
  keep := fun i h h' st k => k it (by simp) _ st
  item := by
    intro X hP hw hK hc i pins s σ H E I hf st hg
    subst hP hw hK
    obtain ⟨f0, f1, f2, f3, f4, f5⟩ := hf it (by simp)
    have W := Walks.range (prog := X.prog) (w := X.w) (I.ok.hd hc) it lo 1 n
    refine W.item i s _ _ hg st fun v h' tk hv st' kk => ?_
    obtain ⟨t, rfl⟩ := hv
    have I1 : Inv X pins σ H { s with heap := h', toks := tk } := I.turned (fun b o hb e => kk b o (by simpa using hb) e) f0 f1 f3 f4 f5
    refine ⟨_, rfl, go_of (s := { s with heap := h', toks := tk }) (n := "range_iterator") st' rfl rfl (by decide) ⟨.int (lo + i), H, I1, ⟨t, ?_⟩, ⟨rfl, rfl⟩, st', fun b hb => (hf b hb).1⟩⟩
    rw [Int.mul_one]
  done := by
    intro X hP hw hK hc i pins s σ H E I hf st hg
    subst hP hw hK
    obtain ⟨f0, f1, f2, f3, f4, f5⟩ := hf it (by simp)
    exact wpAny_pyNext_range_end (I.ok.hd hc) st (by have : n ≤ i := hg; omega) fun h' eb => ⟨rfl, I.turned (t' := s.toks) (fun b o hb e => eb b o hb e) f0 f1 f3 f4 f5⟩
  self := fun _ _ _ _ _ st h => wpAny_pyIter_rangeiter st h
end L2
namespace L2
open PySem PySem.Spec PyProof.Rows
section
variable {X : Cx} {tg : Expr}
def iList (K : PySem.W.Frag) (tl : TE) : TI := fun σ H R => tl σ H fun x H1 => ∃ a, x = .ref a ∧ (∃ xs, SqL K H1 a xs) ∧ R (Itl K a) H1
def iTup (K : PySem.W.Frag) (tl : TE) : TI := fun σ H R => tl σ H fun x H1 => ∃ a, x = .ref a ∧ (∃ xs, SqT K H1 a xs) ∧ R (Itt K a) H1
theorem pi_list {l : Expr} {tl : TE} (hl : PE X l tl) : PI X tg l (iList X.K tl) := by
  intro pins s σ H R I h
  refine thn (hl pins s σ H _ I h) fun v s1 ⟨x, H1, I1, r1, q1⟩ => ?_
  obtain ⟨a, e, ⟨xs, hq⟩, q⟩ := q1
  subst e
  cases r1
  obtain ⟨its, rv, p, hz⟩ := I1.list hq
  refine wpAny_pyIter_list p.isList ?_
  refine ⟨s1.heap.objs.size, [s1.heap.objs.size], _, _, H1, rfl, I1.kept (t' := s1.toks) fun b o e => Heap.get?_push_of_some _ e, turn_list a _, ⟨_, Heap.get?_push_size _ rfl, rfl, rfl⟩, fun b hb => ?_, q⟩
  have e : b = s1.heap.objs.size := by simpa using hb
  subst e
  exact I1.fpOk (Nat.le_refl _) (I1.hok.fresh (Nat.le_refl _))
theorem pi_tup {l : Expr} {tl : TE} (hl : PE X l tl) : PI X tg l (iTup X.K tl) := by
  intro pins s σ H R I h
  refine thn (hl pins s σ H _ I h) fun v s1 ⟨x, H1, I1, r1, q1⟩ => ?_
  obtain ⟨a, e, ⟨xs, hq⟩, q⟩ := q1
  subst e
  cases r1
  obtain ⟨its, rv, p, hz⟩ := I1.tuple hq
  refine wpAny_pyIter_tuple (show s1.heap.IsTuple a its.toArray from p) ?_
  refine ⟨s1.heap.objs.size, [s1.heap.objs.size], _, _, H1, rfl, I1.kept (t' := s1.toks) fun b o e => Heap.get?_push_of_some _ e, turn_tuple a _, ⟨_, Heap.get?_push_size _ rfl, rfl, rfl⟩, fun b hb => ?_, q⟩
  have e : b = s1.heap.objs.size := by simpa using hb
  subst e
  exact I1.fpOk (Nat.le_refl _) (I1.hok.fresh (Nat.le_refl _))
/-- a range object just made, walked -/
theorem range_it {pins : List (Addr × Obj)} {σ : St} {H : Hp} {s : Shared} {R : It → Hp → Prop} {E : Value → Shared → Prop} {lo hi : Int} {t u v : Tok} {tk : Nat} (I : Inv X pins σ H s) (h1 : -(2 ^ 62) ≤ lo) (h2 : lo < 2 ^ 62) (h3 : -(2 ^ 62) ≤ hi) (h4 : hi < 2 ^ 62)
    (q : R (Itr lo (hi - lo).toNat) H) : wpAny (model X.prog X.w) X.A (pyIter (.ref s.heap.objs.size)) (PIE X pins σ tg R) E { s with heap := s.heap.push { cls := .type "range", data := .fields #[.int lo t, .int hi u, .int 1 v] }, toks := tk } := by
  refine wpAny_pyIter_range (IsRange.new ..) (small_one h1 h2 h3 h4) ?_
  have I1 : Inv X pins σ H { s with heap := s.heap.push { cls := .type "range", data := .fields #[.int lo t, .int hi u, .int 1 v] }, toks := tk } := I.kept fun b o e => Heap.get?_push_of_some _ e
  refine ⟨(s.heap.push { cls := .type "range", data := .fields #[.int lo t, .int hi u, .int 1 v] }).objs.size, [(s.heap.push { cls := .type "range", data := .fields #[.int lo t, .int hi u, .int 1 v] }).objs.size], _, _, H, rfl,
    I1.kept (t' := tk) fun b o e => Heap.get?_push_of_some _ e, turn_range _ lo (hi - lo).toNat, ?_, fun b hb => ?_, q⟩
  · have e1 : lo + ((0 : Nat) : Int) * 1 = lo := by simp
    have e2 : (((hi - lo).toNat : Nat) : Int) - ((0 : Nat) : Int) = Builtin.Range.rangeSize lo hi 1 := by rw [rangeSize_one]; split <;> omega
    show IsRangeIter _ _ (lo + ((0 : Nat) : Int) * 1) ((((hi - lo).toNat : Nat) : Int) - ((0 : Nat) : Int)) 1
    rw [e1, e2]
    exact Heap.get?_push_size _ rfl
  · have e : b = (s.heap.push { cls := .type "range", data := .fields #[.int lo t, .int hi u, .int 1 v] }).objs.size := by simpa using hb
    subst e
    exact I1.fpOk (Nat.le_refl _) (I1.hok.fresh (Nat.le_refl _))
def iRng1 (ta : TA) : TI := fun σ H R => ta σ H fun vs H1 => ∃ j : Int, vs = [.int j] ∧ -(2 ^ 62) ≤ j ∧ j < 2 ^ 62 ∧ R (Itr 0 j.toNat) H1
def iRng2 (ta : TA) : TI := fun σ H R => ta σ H fun vs H1 => ∃ i j : Int, vs = [.int i, .int j] ∧ (-(2 ^ 62) ≤ i ∧ i < 2 ^ 62 ∧ -(2 ^ 62) ≤ j ∧ j < 2 ^ 62) ∧ R (Itr i (j - i).toNat) H1
theorem pi_range1 {a : Expr} {ta : TA} {p pos : Pos} (hg : Gl X "range") (hm : X.mg "range" = none) (ha : PA X [a] ta) (hs : starEach [a] X.env = [(false, eval a X.env)] := by rfl) : PI X tg (.Call (.Name "range" p) [a] [] pos) (iRng1 ta) := by
  intro pins s σ H R I h
  refine Call_ (ld_blt I hg hm boot_range (PyProof.Rows.callWith_type1 (thn (ha pos pins s σ H _ I h) fun us s1 ⟨vs, H1, I1, r1, q1⟩ => ?_) hs rfl))
  obtain ⟨j, e, q1, q2, q⟩ := q1
  subst e
  cases r1 with
  | cons r rr =>
    cases rr
    obtain ⟨t, rfl⟩ := r
    exact call_range_1 (range_it I1 (by omega) (by omega) q1 q2 (by simpa using q))
theorem pi_range2 {a b : Expr} {ta : TA} {p pos : Pos} (hg : Gl X "range") (hm : X.mg "range" = none) (ha : PA X [a, b] ta) (hs : starEach [a, b] X.env = [(false, eval a X.env), (false, eval b X.env)] := by rfl) (hs2 : starEach [b] X.env = [(false, eval b X.env)] := by rfl) :
    PI X tg (.Call (.Name "range" p) [a, b] [] pos) (iRng2 ta) := by
  intro pins s σ H R I h
  refine Call_ (ld_blt I hg hm boot_range (PyProof.Rows.callWith_type1 (thn (ha pos pins s σ H _ I h) fun us s1 ⟨vs, H1, I1, r1, q1⟩ => ?_) (by rw [hs, hs2]) (by rw [hs2]; rfl)))
  obtain ⟨i, j, e, ⟨q1, q2, q3, q4⟩, q⟩ := q1
  subst e
  cases r1 with
  | cons r rr =>
    cases rr with
    | cons r' rr =>
      cases rr
      obtain ⟨t, rfl⟩ := r
      obtain ⟨t', rfl⟩ := r'
      exact call_range_2 (range_it I1 q1 q2 q3 q4 q)
/-! ### for -/
/-- W: the invariant by the turn and a measure; N: what the body is to reach -/
def tFor (wi : TI) (g : TG) (tb : TS) : TS := fun D σ H => wi σ H fun J H1 => ∃ W : Nat → Nat → St → Hp → Prop, (∃ m, W 0 m σ H1) ∧ ∀ i m σ H, W i m σ H →
  (J.stop i H ∧ D.nx σ H) ∨ (J.go i H ∧ ∃ N : St → Hp → Prop, (∀ σ' H', N σ' H' → ∃ m', m' < m ∧ W (i + 1) m' σ' H') ∧ ∀ x H', J.yld i H x H' → g x σ H' fun σ2 H2 => tb { D with nx := N, ct := N, bk := D.nx } σ2 H2)
/-- the records at fp as they stand -/
def pinsAt (fp : List Addr) (h : Heap) : List (Addr × Obj) := fp.filterMap fun b => (h.get? b).map fun o => (b, o)
theorem mem_pinsAt {fp : List Addr} {h : Heap} {b : Addr} {o : Obj} (hb : b ∈ fp) (e : h.get? b = some o) : (b, o) ∈ pinsAt fp h := List.mem_filterMap.mpr ⟨b, hb, by rw [e]; rfl⟩
theorem of_pinsAt {fp : List Addr} {h : Heap} {p : Addr × Obj} (hp : p ∈ pinsAt fp h) : p.1 ∈ fp ∧ h.get? p.1 = some p.2 := by
  obtain ⟨b, hb, e⟩ := List.mem_filterMap.mp hp
  cases q : h.get? b with
  | none => rw [q] at e; cases e
  | some o =>
    rw [q] at e
    have e' : (b, o) = p := Option.some.inj e
    subst e'
    exact ⟨hb, q⟩
theorem Inv.pinned {pins : List (Addr × Obj)} {σ : St} {H : Hp} {s : Shared} {fp : List Addr} (I : Inv X pins σ H s) (hf : ∀ b ∈ fp, FpOk X pins H b) (ho : ∀ b ∈ fp, ∃ o, s.heap.get? b = some o ∧ ∀ v, o.data ≠ .cell v) : Inv X (pins ++ pinsAt fp s.heap) σ H s :=
  I.pins_of fun p hp => (List.mem_append.mp hp).elim (fun z => I.pin p (List.mem_append_right _ z)) fun z => by
    obtain ⟨hb, e⟩ := of_pinsAt z
    obtain ⟨f0, f1, f2, _⟩ := hf p.1 hb
    obtain ⟨o, e', d⟩ := ho p.1 hb
    rw [e] at e'; cases e'
    exact ⟨e, f0, f1, f2, d⟩
theorem Inv.unpinned {pins pl : List (Addr × Obj)} {σ : St} {H : Hp} {s : Shared} (I : Inv X (pins ++ pl) σ H s) : Inv X pins σ H s := I.pins_of fun p hp => I.pin p (List.mem_append_right _ (List.mem_append_left _ hp))
theorem ps_for {iter : Expr} {body : List Stmt} {wi : TI} {g : TG} {tb : TS} {pos : Pos} (hp : PassesOwn (model X.prog X.w) X.A X.env X.xe) (hc : X.calm = true) (hi : PI X tg iter wi) (hg : PG X tg g) (hb : PSs X body tb)
    (hs : ∀ x, foldedSetIterable iter X.env x = pure x := by intro _; rfl) : PS X (.For tg iter body [] pos) (tFor wi g tb) := by
  intro pins s σ H D I h
  refine wpAny_For (thn (hi pins s σ H _ I h) fun v s1 h1 => thn h1 fun itv s2 h2 => ?_) hs
  obtain ⟨it, fp, tn, J, H2, e, I2, T, st2, f2, W, ⟨m0, w0⟩, turn⟩ := h2
  subst e
  -- what stays true of the iterator's objects through the loop
  have stat : ∀ {H' : Hp}, (∀ b ∈ fp, H' b = none) → ∀ b ∈ fp, FpOk X pins H' b := fun hn b hb => ⟨hn b hb, (f2 b hb).2⟩
  refine codeAny_forLoop_any (fun n s' => ∃ i σ' H', Inv X pins σ' H' s' ∧ tn i s'.heap ∧ (∀ b ∈ fp, H' b = none) ∧ W i n σ' H') ?_ m0 ⟨0, σ, H2, I2, st2, fun b hb => (f2 b hb).1, w0⟩
  rintro n s3 ⟨i, σ3, H3, I3, st3, fr3, w3⟩
  rcases turn i n σ3 H3 w3 with ⟨stop, qn⟩ | ⟨go, N, hN, step⟩
  · refine wpAny_passesOwn hp (thn (T.done X rfl rfl rfl hc i pins s3 σ3 H3 X.xe I3 (stat fr3) st3 stop) fun r s4 ⟨hr, I4⟩ => ?_)
    subst hr
    exact wpAny_execs_nil ⟨σ3, H3, I4, qn⟩
  · refine wpAny_passesOwn hp (thn (T.item X rfl rfl rfl hc i pins s3 σ3 H3 X.xe I3 (stat fr3) st3 go) fun r s4 ⟨u, hr, h4⟩ => ?_)
    subst hr
    refine wpAny_passesOwn hp (thn h4 fun _ s5 ⟨x, H5, I5, r5, y5, st5, fr5⟩ => ?_)
    have I5' := I5.pinned (stat fr5) (T.obj _ _ st5)
    refine wpAny_passesOwn hp (thn (hg _ s5 σ3 H5 x u _ I5' r5 (step x H5 y5)) fun _ s6 ⟨σ6, H6, I6, q6⟩ => ?_)
    refine wpAny_passesOwn hp (thn (hb _ s6 σ6 H6 _ I6 q6) fun f s7 q7 => ?_)
    have again : ∀ {σ7 : St} {H7 : Hp}, Inv X (pins ++ pinsAt fp s5.heap) σ7 H7 s7 → N σ7 H7 → ∃ m, m < n ∧ ∃ i σ' H', Inv X pins σ' H' s7 ∧ tn i s7.heap ∧ (∀ b ∈ fp, H' b = none) ∧ W i m σ' H' := fun {σ7 H7} I7 n7 => by
      obtain ⟨m', hm, w7⟩ := hN σ7 H7 n7
      refine ⟨m', hm, i + 1, σ7, H7, I7.unpinned, T.keep _ _ _ st5 fun b hb o e => (I7.pin (b, o) (List.mem_append_right _ (List.mem_append_right _ (mem_pinsAt hb e)))).1, fun b hb => ?_, w7⟩
      obtain ⟨o, e, d⟩ := T.obj _ _ st5 b hb
      exact (I7.pin (b, o) (List.mem_append_right _ (List.mem_append_right _ (mem_pinsAt hb e)))).2.1
    cases f with
    | next => obtain ⟨σ7, H7, I7, n7⟩ := q7; exact again I7 n7
    | cont => obtain ⟨σ7, H7, I7, n7⟩ := q7; exact again I7 n7
    | brk => obtain ⟨σ7, H7, I7, q7⟩ := q7; exact ⟨σ7, H7, I7.unpinned, q7⟩
    | ret v => obtain ⟨x7, σ7, H7, I7, r7, q7⟩ := q7; exact ⟨x7, σ7, H7, I7.unpinned, r7, q7⟩
end
/-! ### the forms one uses -/
/-- over a list that the body leaves as it is -/
theorem for_list {K : PySem.W.Frag} {a : Addr} {xs : List V} {g : TG} {tb : TS} {D : Ends} {σ : St} {H : Hp} (Pv : Nat → St → Hp → Prop) (h0 : Pv 0 σ H) (hl : ∀ i σ H, i ≤ xs.length → Pv i σ H → SqL K H a xs)
    (hs : ∀ i x σ H, xs[i]? = some x → Pv i σ H → g x σ H fun σ2 H2 => tb { D with nx := Pv (i + 1), ct := Pv (i + 1), bk := D.nx } σ2 H2) (hd : ∀ σ H, Pv xs.length σ H → D.nx σ H) :
    ∃ W : Nat → Nat → St → Hp → Prop, (∃ m, W 0 m σ H) ∧ ∀ i m σ H, W i m σ H →
      ((Itl K a).stop i H ∧ D.nx σ H) ∨ ((Itl K a).go i H ∧ ∃ N : St → Hp → Prop, (∀ σ' H', N σ' H' → ∃ m', m' < m ∧ W (i + 1) m' σ' H') ∧ ∀ x H', (Itl K a).yld i H x H' → g x σ H' fun σ2 H2 => tb { D with nx := N, ct := N, bk := D.nx } σ2 H2) := by
  refine ⟨fun i m σ H => m = xs.length - i ∧ i ≤ xs.length ∧ Pv i σ H, ⟨xs.length, by simp, Nat.zero_le _, h0⟩, ?_⟩
  rintro i m σ H ⟨rfl, hi, p⟩
  have q := hl i σ H hi p
  by_cases hlt : i < xs.length
  · refine .inr ⟨⟨xs, xs[i], q, by simp [hlt]⟩, Pv (i + 1), fun σ' H' p' => ⟨xs.length - (i + 1), by omega, rfl, hlt, p'⟩, fun x H' y => ?_⟩
    obtain ⟨e, y⟩ := y
    subst e
    exact hs i x σ _ (y xs q) p
  · have e : i = xs.length := by omega
    subst e
    exact .inl ⟨⟨xs, q, Nat.le_refl _⟩, hd σ H p⟩
theorem for_range {lo : Int} {n : Nat} {g : TG} {tb : TS} {D : Ends} {σ : St} {H : Hp} (Pv : Nat → St → Hp → Prop) (h0 : Pv 0 σ H)
    (hs : ∀ i σ H, i < n → Pv i σ H → g (.int (lo + i)) σ H fun σ2 H2 => tb { D with nx := Pv (i + 1), ct := Pv (i + 1), bk := D.nx } σ2 H2) (hd : ∀ σ H, Pv n σ H → D.nx σ H) :
    ∃ W : Nat → Nat → St → Hp → Prop, (∃ m, W 0 m σ H) ∧ ∀ i m σ H, W i m σ H →
      ((Itr lo n).stop i H ∧ D.nx σ H) ∨ ((Itr lo n).go i H ∧ ∃ N : St → Hp → Prop, (∀ σ' H', N σ' H' → ∃ m', m' < m ∧ W (i + 1) m' σ' H') ∧ ∀ x H', (Itr lo n).yld i H x H' → g x σ H' fun σ2 H2 => tb { D with nx := N, ct := N, bk := D.nx } σ2 H2) := by
  refine ⟨fun i m σ H => m = n - i ∧ i ≤ n ∧ Pv i σ H, ⟨n, by simp, Nat.zero_le _, h0⟩, ?_⟩
  rintro i m σ H ⟨rfl, hi, p⟩
  by_cases hlt : i < n
  · refine .inr ⟨hlt, Pv (i + 1), fun σ' H' p' => ⟨n - (i + 1), by omega, rfl, hlt, p'⟩, fun x H' y => ?_⟩
    obtain ⟨e, y⟩ := y
    subst e y
    exact hs i σ _ hlt p
  · have e : i = n := by omega
    subst e
    exact .inl ⟨Nat.le_refl _, hd σ H p⟩
end L2
namespace L2
open PySem PySem.Spec PyProof.Rows
abbrev R2 := V → V → Hp → VK → Prop
/-- a two-place operation on values: f is binaryOp op, inplaceOp op or compareOp op -/
def OpR (X : Cx) (f : Value → Value → Sem Value) (r : R2) : Prop :=
  ∀ (pins : List (Addr × Obj)) (s : Shared) (σ : St) (H : Hp) (x y : V) (v u : Value) (Q : VK), Inv X pins σ H s → RelV x v → RelV y u → r x y H Q →
    wpAny (model X.prog X.w) X.A (f v u) (EP X pins σ Q) X.xe s
/-- a one-place operation -/
def UnR (X : Cx) (f : Value → Sem Value) (r : V → Hp → VK → Prop) : Prop :=
  ∀ (pins : List (Addr × Obj)) (s : Shared) (σ : St) (H : Hp) (x : V) (v : Value) (Q : VK), Inv X pins σ H s → RelV x v → r x H Q →
    wpAny (model X.prog X.w) X.A (f v) (EP X pins σ Q) X.xe s
/-- a call of a value that is known (a builtin, a type) with values -/
def CallR (X : Cx) (f : Value) (r : List V → Hp → VK → Prop) : Prop :=
  ∀ (pins : List (Addr × Obj)) (s : Shared) (σ : St) (H : Hp) (xs : List V) (us : List Value) (Q : VK), Inv X pins σ H s → Vals xs us → r xs H Q →
    wpAny (model X.prog X.w) X.A (call f us) (EP X pins σ Q) X.xe s
/-- a value's truth -/
def TruR (X : Cx) (r : V → Hp → (Bool → Hp → Prop) → Prop) : Prop :=
  ∀ (pins : List (Addr × Obj)) (s : Shared) (σ : St) (H : Hp) (x : V) (v : Value) (Q : Bool → Hp → Prop), Inv X pins σ H s → RelV x v → r x H Q →
    wpAny (model X.prog X.w) X.A (truthy v) (TP X pins σ Q) X.xe s
def tOp (r : R2) (ta tb : TE) : TE := fun σ H Q => ta σ H fun x H1 => tb σ H1 fun y H2 => r x y H2 Q
def tUn (r : V → Hp → VK → Prop) (ta : TE) : TE := fun σ H Q => ta σ H fun x H1 => r x H1 Q
/-- ints in, under C, and a value out -/
def rI (C : Int → Int → Prop) (g : Int → Int → V) : R2 := fun x y H Q => ∃ i j, x = .int i ∧ y = .int j ∧ C i j ∧ Q (g i j) H
def rI0 (g : Int → Int → V) : R2 := fun x y H Q => ∃ i j, x = .int i ∧ y = .int j ∧ Q (g i j) H
def rU (g : Int → V) : V → Hp → VK → Prop := fun x H Q => ∃ i, x = .int i ∧ Q (g i) H
section
variable {X : Cx} {a b c : Expr} {ta tb tc : TE} {pos : Pos}
theorem binT (ha : PE X a ta) (hb : PE X b tb) {pins : List (Addr × Obj)} {s : Shared} {σ : St} {H : Hp} {R : V → V → Hp → Prop} (I : Inv X pins σ H s)
    (h : ta σ H fun x H1 => tb σ H1 fun y H2 => R x y H2) {Q : Value → Shared → Prop} {f : Value → Value → Sem Value}
    (hf : ∀ v u s2 x y H2, Inv X pins σ H2 s2 → RelV x v → RelV y u → R x y H2 → wpAny (model X.prog X.w) X.A (f v u) Q X.xe s2) :
    wpAny (model X.prog X.w) X.A (eval a X.env) (fun v s₁ => wpAny (model X.prog X.w) X.A (eval b X.env) (fun u s₂ => wpAny (model X.prog X.w) X.A (f v u) Q X.xe s₂) X.xe s₁) X.xe s := by
  refine thn (ha pins s σ H _ I h) fun v s1 ⟨x, H1, I1, r1, q1⟩ => ?_
  refine thn (hb pins s1 σ H1 _ I1 q1) fun u s2 ⟨y, H2, I2, r2, q2⟩ => ?_
  exact hf v u s2 x y H2 I2 r1 r2 q2
theorem pe_op {op : Operator} {r : R2} (ho : OpR X (binaryOp op) r) (ha : PE X a ta) (hb : PE X b tb) : PE X (.BinOp a op b pos) (tOp r ta tb) := by
  intro pins s σ H Q I h
  exact wpAny_BinOp (binT ha hb I h fun v u s2 x y H2 I2 rx ry q => ho pins s2 σ H2 x y v u Q I2 rx ry q)
theorem pe_un {op : UnaryOp} {r : V → Hp → VK → Prop} (ho : UnR X (unaryOp op) r) (ha : PE X a ta) : PE X (.UnaryOp op a pos) (tUn r ta) := by
  intro pins s σ H Q I h
  exact UnaryOp_ (thn (ha pins s σ H _ I h) fun v s1 ⟨x, H1, I1, r1, q1⟩ => ho pins s1 σ H1 x v Q I1 r1 q1)
/-! ### ints -/
theorem opI {f : Value → Value → Sem Value} {C : Int → Int → Prop} {g : Int → Int → Int}
    (rule : ∀ (i j : Int) (t u : Tok) (s : Shared) (Q : Value → Shared → Prop) (E : Value → Shared → Prop), C i j → Q (.int (g i j) s.toks) { s with toks := s.toks + 1 } → wpAny (model X.prog X.w) X.A (f (.int i t) (.int j u)) Q E s) :
    OpR X f (rI C fun i j => .int (g i j)) := by
  intro pins s σ H x y v u Q I rx ry h
  obtain ⟨i, j, rfl, rfl, hc, q⟩ := h
  obtain ⟨t, rfl⟩ := rx
  obtain ⟨t', rfl⟩ := ry
  exact rule i j t t' s _ _ hc ⟨.int (g i j), H, I.tok _, ⟨_, rfl⟩, q⟩
theorem opB0 {f : Value → Value → Sem Value} {g : Int → Int → Bool}
    (rule : ∀ (i j : Int) (t u : Tok) (s : Shared) (Q : Value → Shared → Prop) (E : Value → Shared → Prop), Q (.bool (g i j)) s → wpAny (model X.prog X.w) X.A (f (.int i t) (.int j u)) Q E s) :
    OpR X f (rI0 fun i j => .bl (g i j)) := by
  intro pins s σ H x y v u Q I rx ry h
  obtain ⟨i, j, rfl, rfl, q⟩ := h
  obtain ⟨t, rfl⟩ := rx
  obtain ⟨t', rfl⟩ := ry
  exact rule i j t t' s _ _ ⟨.bl (g i j), H, I, rfl, q⟩
def CDiv (i j : Int) : Prop := 0 < j ∧ j < 1073741824
def CDivN (i j : Int) : Prop := j ≠ 0 ∧ j.natAbs < 1073741824
def CPow (i j : Int) : Prop := 0 ≤ j ∧ j ≤ 1000000 ∧ i.natAbs < 2 ^ 64
def CMul (i j : Int) : Prop := (-(2 ^ 64) < i ∧ i < 2 ^ 64) ∨ (-(2 ^ 64) < j ∧ j < 2 ^ 64)
theorem CMul.ok {i j : Int} (h : CMul i j) : IntMulOk i j := by
  rcases h with ⟨h1, h2⟩ | ⟨h1, h2⟩
  · exact .of_left (intBits_le_64 h1 h2)
  · exact .of_right (intBits_le_64 h1 h2)
theorem op_mul : OpR X (binaryOp .Mult) (rI CMul fun i j => .int (i * j)) := opI fun _ _ _ _ _ _ _ hc q => mul_int q hc.ok
/-- // by a positive divisor -/
theorem op_fdiv : OpR X (binaryOp .FloorDiv) (rI CDiv fun i j => .int (i / j)) := opI fun i j _ _ _ _ _ hc q => by
  have h1 : (0 : Int) < j := hc.1
  have h2 : j < 1073741824 := hc.2
  exact floordiv_int (by omega) (by rw [Int.fdiv_eq_ediv_of_nonneg i (by omega)]; exact q) (.inl (PyProof.noPylong_small (by omega)))
/-- % by a positive divisor of any size -/
theorem op_mod : OpR X (binaryOp .Mod) (rI (fun _ j => 0 < j) fun i j => .int (i % j)) := opI fun i j _ _ _ _ _ hc q => by
  have h1 : (0 : Int) < j := hc
  exact mod_int' (by omega) (by rw [Int.fmod_eq_emod_of_nonneg i (by omega)]; exact q)
theorem unI {f : Value → Sem Value} {g : Int → Int}
    (rule : ∀ (i : Int) (t : Tok) (s : Shared) (Q : Value → Shared → Prop) (E : Value → Shared → Prop), Q (.int (g i) s.toks) { s with toks := s.toks + 1 } → wpAny (model X.prog X.w) X.A (f (.int i t)) Q E s) :
    UnR X f (rU fun i => .int (g i)) := by
  intro pins s σ H x v Q I rx h
  obtain ⟨i, rfl, q⟩ := h
  obtain ⟨t, rfl⟩ := rx
  exact rule i t s _ _ ⟨.int (g i), H, I.tok _, ⟨_, rfl⟩, q⟩
theorem un_neg : UnR X (unaryOp .USub) (rU fun i => .int (-i)) := unI fun _ _ _ _ _ q => neg_int q
/-! ### bools among ints: n += (a < b) -/
end
/-! ### comparisons -/
/-- the scalars that == tells apart as data does -/
def scal : V → V → Bool
  | .non, .non => true | .non, .int _ => true | .int _, .non => true | .non, .bl _ => true | .bl _, .non => true | .non, .str _ => true | .str _, .non => true
  | .int _, .int _ => true | .bl _, .bl _ => true | .str _, .str _ => true | .byt _, .byt _ => true
  | .int _, .str _ => true | .str _, .int _ => true | .bl _, .str _ => true | .str _, .bl _ => true
  | _, _ => false
def rEq : R2 := fun x y H Q => scal x y = true ∧ Q (.bl (decide (x = y))) H
def rNe : R2 := fun x y H Q => scal x y = true ∧ Q (.bl (!decide (x = y))) H
section
variable {X : Cx} {a b c : Expr} {ta tb tc : TE} {pos : Pos}
theorem op_le : OpR X (compareOp .LtE) (rI0 fun i j => .bl (decide (i ≤ j))) := opB0 fun _ _ _ _ _ _ _ q => le_int q
/-- is, is not of two objects that are tracked lists or instances -/
def isObj : HO → Bool
  | .lst _ => true
  | .ins _ _ _ => true
  | _ => false
/-- two rules for one operation: by cases -/
theorem OpR.or {f : Value → Value → Sem Value} {r r' : R2} (h : OpR X f r) (h' : OpR X f r') : OpR X f (fun x y H Q => r x y H Q ∨ r' x y H Q) := by
  intro pins s σ H x y v u Q I rx ry q
  rcases q with q | q
  · exact h pins s σ H x y v u Q I rx ry q
  · exact h' pins s σ H x y v u Q I rx ry q
/-- a reading of a value as a test -/
def tTest (t : TE) : TT := fun σ H Q => t σ H fun x H' => ∃ k, x = .bl k ∧ Q k H'
/-- a op1 b op2 c -/
def tChain (r r' : R2) (ta tb tc : TE) : TE := fun σ H Q => ta σ H fun x H1 => tb σ H1 fun y H2 => r x y H2 fun z H3 => ∃ k, z = .bl k ∧
  (if k = true then tc σ H3 fun w' H4 => r' y w' H4 Q else Q (.bl false) H3)
theorem pe_chain {op op' : CmpOp} {r r' : R2} (ho : OpR X (compareOp op) r) (ho' : OpR X (compareOp op') r') (ha : PE X a ta) (hb : PE X b tb) (hc : PE X c tc)
    (hm : lastMarks [op, op'] [b, c] = false := by with_unfolding_all rfl) : PE X (.Compare a [op, op'] [b, c] pos) (tChain r r' ta tb tc) := by
  intro pins s σ H Q I h
  refine Compare_chain (thn (ha pins s σ H _ I h) fun v s1 ⟨x, H1, I1, r1, q1⟩ => chain_link (thn (hb pins s1 σ H1 _ I1 q1) fun u s2 ⟨y, H2, I2, r2, q2⟩ =>
    thn (ho pins s2 σ H2 x y v u _ I2 r1 r2 q2) fun d s3 ⟨z, H3, I3, r3, k, e, q3⟩ => ?_)) hm
  subst e
  cases r3
  refine wpAny_truthy_bool ?_
  cases k with
  | false => exact ite_ff ⟨.bl false, H3, I3, rfl, q3⟩
  | true => exact ite_tt (chain_last (thn (hc pins s3 σ H3 _ I3 q3) fun w' s4 ⟨z', H4, I4, r4, q4⟩ => ho' pins s4 σ H4 y z' u w' Q I4 r2 r4 q4))
/-! ### truth -/
/-- a value's truth by the abstract heap -/
def TruV (K : PySem.W.Frag) (x : V) (H : Hp) (k : Bool) : Prop :=
  match x with
  | .non => k = false
  | .bl b => k = b
  | .int i => k = (i != 0)
  | .str y => y.length ≤ sizeLine ∧ k = ((y.length : Int) != 0)
  | .byt y => y.size ≤ sizeLine ∧ k = ((y.size : Int) != 0)
  | .ref p => (∃ xs, SqL K H p xs ∧ k = !xs.isEmpty) ∨ (∃ xs, SqT K H p xs ∧ k = !xs.isEmpty) ∨ ∃ kvs, H p = some (.dK kvs) ∧ k = !kvs.isEmpty
  | _ => False
theorem line63 : (sizeLine : Nat) < 2 ^ 63 := by rw [sizeLine_eq]; decide
/-! ### strs and bytes -/
def PlainIxT (b : Expr) : Prop := ∀ o i, subscripted b false o i = operate [o, i] (getItem o i)
/-! ### scalar builtins, by CallR -/
theorem vals1 {x : V} {us : List Value} (r : Vals [x] us) : ∃ u, us = [u] ∧ RelV x u := by
  cases r with
  | cons r1 r2 => cases r2; exact ⟨_, rfl, r1⟩
theorem vals2 {x y : V} {us : List Value} (r : Vals [x, y] us) : ∃ u w', us = [u, w'] ∧ RelV x u ∧ RelV y w' := by
  cases r with
  | cons r1 r2 =>
    cases r2 with
    | cons r3 r4 => cases r4; exact ⟨_, _, rfl, r1, r3⟩
theorem call_max2 (hc : X.calm = true) : CallR X (.builtin "max") (fun xs H Q => ∃ i j, xs = [.int i, .int j] ∧ Q (.int (if j > i then j else i)) H) := by
  intro pins s σ H xs us Q I r h
  obtain ⟨i, j, rfl, q⟩ := h
  obtain ⟨u, w', rfl, ⟨t, rfl⟩, ⟨t', rfl⟩⟩ := vals2 r
  refine max_two_ints (I.ok.hd hc) fun h' tk k => ⟨_, H, I.kept k, ?_, q⟩
  by_cases hj : j > i
  · rw [if_pos hj, if_pos hj]; exact ⟨_, rfl⟩
  · rw [if_neg hj, if_neg hj]; exact ⟨_, rfl⟩
theorem call_min2 (hc : X.calm = true) : CallR X (.builtin "min") (fun xs H Q => ∃ i j, xs = [.int i, .int j] ∧ Q (.int (if j < i then j else i)) H) := by
  intro pins s σ H xs us Q I r h
  obtain ⟨i, j, rfl, q⟩ := h
  obtain ⟨u, w', rfl, ⟨t, rfl⟩, ⟨t', rfl⟩⟩ := vals2 r
  refine min_two_ints (I.ok.hd hc) fun h' tk k => ⟨_, H, I.kept k, ?_, q⟩
  by_cases hj : j < i
  · rw [if_pos hj, if_pos hj]; exact ⟨_, rfl⟩
  · rw [if_neg hj, if_neg hj]; exact ⟨_, rfl⟩
/-- len of a str, a bytes, a list, a tuple -/
def LenV (K : PySem.W.Frag) (x : V) (H : Hp) (n : Nat) : Prop :=
  match x with
  | .str y => y.length ≤ sizeLine ∧ n = y.length
  | .byt y => y.size ≤ sizeLine ∧ n = y.size
  | .ref p => (∃ xs, SqL K H p xs ∧ n = xs.length) ∨ ∃ xs, SqT K H p xs ∧ n = xs.length
  | _ => False
end
end L2
namespace L2
open PySem PySem.Spec PyProof.Rows
/-! ### an instance, its attributes a map -/
structure ObjM (h : Heap) (x dx C : Addr) (mA : Str → Option Value) : Prop where
  obj : h.get? x = some (PySem.W.instObj C dx)
  ns : h.Ns1 dx mA
  ne : dx ≠ x
theorem lookIn_ns {h : Heap} {dx : Addr} {mA : Str → Option Value} (n : h.Ns1 dx mA) : ∃ od, h.get? dx = some od ∧ ∀ name, PySem.W.lookIn name od = some (mA name) := by
  obtain ⟨o, es, ep, ho, hd, hk, _, hm⟩ := n
  refine ⟨o, ho, fun name => ?_⟩
  have e := hm name
  unfold nsFind findBy at e
  rw [← Array.find?_toList] at e
  unfold PySem.W.lookIn
  rw [hd]
  dsimp only
  split
  · rename_i y q
    rw [q] at e
    exact congrArg some e
  · rename_i q
    rw [q] at e
    have a : es.toList.any (·.refKey) = false := by
      rw [List.any_eq_false]
      intro y hy
      obtain ⟨z, t, hkey⟩ := hk y (Array.mem_toList_iff.mp hy)
      simp [DictEntry.refKey, hkey]
    have a' : ¬ es.toList.any (·.refKey) = true := by rw [a]; exact Bool.false_ne_true
    rw [if_neg a']
    exact congrArg some e
theorem ObjM.look {h : Heap} {x dx C : Addr} {mA : Str → Option Value} (I : ObjM h x dx C mA) : ∃ od, PySem.W.InstAt h x (PySem.W.instObj C dx) C (some od) ∧ ∀ name, PySem.W.lookIn name od = some (mA name) :=
  let ⟨od, ho, hl⟩ := lookIn_ns I.ns
  ⟨od, ⟨I.obj, rfl, rfl, ho⟩, hl⟩
section
variable {prog : Program} {w : World} {A : Around} {E : Value → Shared → Prop} {s : Shared} {K : PySem.W.Frag} {x dx C f : Addr} {mA : Str → Option Value} {name : Str} {v : Value}
theorem get_map {expr : Bool} {Q : Value → Shared → Prop} (X : K.In s.heap) (I : ObjM s.heap x dx C mA) (hg : PySem.W.plainGet K C name = true) (hh : PySem.W.hasDictIn K C = true)
    (ha : PySem.W.findIn K (.ref C) name = some none) (hv : mA name = some v) (hv' : PySem.W.handedIn v = true) (h : Q v { s with toks := s.toks + 1 }) :
    wpAny (model prog w) A (getAttr (.ref x) name expr) Q E s := by
  obtain ⟨od, J, hl⟩ := I.look
  exact PySem.W.get_value X J (PySem.W.plainGet_of hg).1 (PySem.W.findObj_own hh ha rfl (by rw [hl, hv])) hv' h
theorem get_meth {pl : Sem Bool} {Q : Value × List Value → Shared → Prop} (X : K.In s.heap) (I : ObjM s.heap x dx C mA) (hg : PySem.W.plainGet K C name = true)
    (hf : PySem.W.findIn K (.ref C) name = some (some (.ref f))) (ht : PySem.W.isFn K (.ref f) = true) (hv : mA name = none) (h : Q (.ref f, [.ref x]) s) :
    wpAny (model prog w) A (getMethod (.ref x) name pl) Q E s := by
  obtain ⟨od, J, hl⟩ := I.look
  exact PySem.W.method_fn X J (PySem.W.plainGet_of hg).1 (PySem.W.plainGet_of hg).2 hf (beq_iff_eq.mp ht) (by show (PySem.W.lookIn name od).map (·.isSome) = some false; rw [hl, hv]; rfl) h
theorem set_map {ns : List Str} {Q : Unit → Shared → Prop} (X : K.In s.heap) (I : ObjM s.heap x dx C mA)
    (hs : PySem.W.findIn K (.ref C) "__setattr__" = some (some (.builtin "object.__setattr__"))) (hp : PySem.W.plainOver K C = true) (ht : PySem.W.takerIn K C name = some none) (hh : PySem.W.hasDictIn K C = true)
    (hw : PySem.Within mA ns) (hsz : ns.length ≤ sizeLine)
    (h : ∀ h', ObjM h' x dx C (fun y => if y = name then some v else mA y) → Heap.SameBut dx s.heap h' → Q () { s with heap := h', toks := s.toks + 2 }) :
    wpAny (model prog w) A (setAttr (.ref x) name v) Q E s := by
  obtain ⟨od, J, hl⟩ := I.look
  refine PySem.W.set_plain X J hs (PySem.W.osa_open (s := { s with toks := s.toks + 1 }) (r := none) X J hp ht fun b => ?_)
  obtain ⟨cd, hc, hd'⟩ := PySem.W.any_some hh
  have hx : s.heap.get? x = some ⟨.ref C, some dx, .plain, #[]⟩ := I.obj
  refine wpAny_bind (wpAny_pure (wpAny_bind (wpAny_bind (wpAny_loadPart hx (wpAny_bind (PySem.W.Looks.here (s := { s with toks := s.toks + 1 }) (PySem.W.looks_clsIn X hc) ?_))))))
  rw [hd']
  refine wpAny_pure (a := some dx) (wpAny_bind (wpAny_pure (wpAny_bind ?_)))
  refine wpAny_nsSet1 (s := { s with toks := s.toks + 1 }) I.ns fun h' hn2 hs2 => ?_
  obtain ⟨oD, esD, epD, hoD, hdD, hcD⟩ := hn2.count (PySem.Within.cons name v hw)
  refine wpAny_bind (wpAny_lookBehind hoD (by rw [hdD]; exact pastItsLine_dict (Nat.le_trans hcD (by rw [List.length_cons]; omega))) ?_)
  exact wpAny_pure (h _ ⟨(hs2.2 _ (Ne.symm I.ne)).trans I.obj, hn2, I.ne⟩ hs2)
/-- C(..): the dict at the heap's end, the instance behind it; then its __init__ -/
theorem make_map {R : Result → Shared → Prop} {vs : List Value} {kw : List (Str × Value)} (X : K.In s.heap) (hm : PySem.W.makesIn K C = true)
    (hi : PySem.W.findIn K (.ref C) "__init__" = some (some (.ref f))) (hf : PySem.W.typeIn K (.ref f) = some (.type "function"))
    (h : codeAny (model prog w) (A.under (.builtin "type.__call__" ⟨.ref C :: vs, kw⟩)) (.call (.ref f) ⟨.ref (s.heap.objs.size + 1) :: vs, kw⟩) (PySem.W.InitBack (s.heap.objs.size + 1) R)
      { s with heap := (s.heap.push PySem.W.emptyDict).push (PySem.W.instObj C s.heap.objs.size) }) :
    codeAny (model prog w) A (.call (.ref C) ⟨vs, kw⟩) R s := by
  obtain ⟨hh, g, d, t, os⟩ := s
  exact PySem.W.make_core (PySem.W.makes_of X hm) (PySem.W.looks_findIn X hi) (fun self => PySem.W.bind_fn X self hf) (.inl rfl) h
end
/-! ### the attributes as a list of pairs -/
def putF (f : Str) (v : V) : List (Str × V) → List (Str × V)
  | [] => [(f, v)]
  | (g, x) :: r => if g = f then (g, v) :: r else (g, x) :: putF f v r
theorem lookup_putF (f g : Str) (v : V) : ∀ fs : List (Str × V), (putF f v fs).lookup g = if g = f then some v else fs.lookup g
  | [] => by
    show List.lookup g [(f, v)] = _
    by_cases h : g = f
    · have hb : (g == f) = true := beq_iff_eq.mpr h
      simp only [List.lookup, hb, if_pos h]
    · have hb : (g == f) = false := beq_eq_false_iff_ne.mpr h
      simp only [List.lookup, hb, if_neg h]
  | (k, x) :: r => by
    have ih := lookup_putF f g v r
    rw [show putF f v ((k, x) :: r) = (if k = f then (k, v) :: r else (k, x) :: putF f v r) from rfl]
    by_cases hk : k = f
    · rw [if_pos hk]
      by_cases h : g = k
      · have hb : (g == k) = true := beq_iff_eq.mpr h
        simp only [List.lookup, hb, if_pos (h.trans hk)]
      · have hb : (g == k) = false := beq_eq_false_iff_ne.mpr h
        simp only [List.lookup, hb, if_neg (fun e : g = f => h (e.trans hk.symm))]
    · rw [if_neg hk]
      by_cases h : g = k
      · have hb : (g == k) = true := beq_iff_eq.mpr h
        simp only [List.lookup, hb, if_neg (fun e : g = f => hk (h.symm.trans e))]
      · have hb : (g == k) = false := beq_eq_false_iff_ne.mpr h
        simp only [List.lookup, hb]
        exact ih
theorem keys_putF (f : Str) (v : V) : ∀ fs : List (Str × V), f ∈ (putF f v fs).map (·.1) ∧ ∀ g, g ∈ fs.map (·.1) → g ∈ (putF f v fs).map (·.1)
  | [] => ⟨by simp [putF], fun g h => by simp at h⟩
  | (k, x) :: r => by
    obtain ⟨i1, i2⟩ := keys_putF f v r
    rw [show putF f v ((k, x) :: r) = (if k = f then (k, v) :: r else (k, x) :: putF f v r) from rfl]
    by_cases hk : k = f
    · rw [if_pos hk]
      subst hk
      exact ⟨by simp, fun g h => by simpa using h⟩
    · rw [if_neg hk]
      refine ⟨?_, fun g h => ?_⟩
      · rw [List.map_cons]
        exact List.mem_cons_of_mem _ i1
      · rw [List.map_cons] at h ⊢
        rcases List.mem_cons.mp h with e | e
        · exact List.mem_cons.mpr (.inl e)
        · exact List.mem_cons_of_mem _ (i2 g e)
theorem length_putF (f : Str) (v : V) : ∀ fs : List (Str × V), (putF f v fs).length ≤ fs.length + 1
  | [] => by simp [putF]
  | (k, x) :: r => by
    have ih := length_putF f v r
    rw [show putF f v ((k, x) :: r) = (if k = f then (k, v) :: r else (k, x) :: putF f v r) from rfl]
    by_cases hk : k = f
    · rw [if_pos hk, List.length_cons, List.length_cons]; omega
    · rw [if_neg hk, List.length_cons, List.length_cons]; omega
theorem RelO.some_of {v : V} {o : Option Value} (r : RelO (some v) o) : ∃ u, o = some u ∧ RelV v u := by
  cases o with
  | none => exact (show False from r).elim
  | some u => exact ⟨u, rfl, r⟩
theorem RelO.none_of {o : Option Value} (r : RelO none o) : o = none := by
  cases o with
  | none => rfl
  | some u => exact (show False from r).elim
theorem handed_of {v : V} {u : Value} (r : RelV v u) : PySem.W.handedIn u = true := by
  cases v with
  | non => cases (show u = Value.none from r); rfl
  | bl b => cases (show u = Value.bool b from r); rfl
  | int i => obtain ⟨t, e⟩ := (show ∃ t, u = Value.int i t from r); cases e; rfl
  | str x => obtain ⟨t, e⟩ := (show ∃ t, u = Value.str x t from r); cases e; rfl
  | byt b => obtain ⟨t, e⟩ := (show ∃ t, u = Value.bytes b t from r); cases e; rfl
  | flt b => obtain ⟨t, e⟩ := (show ∃ t, u = Value.float b t from r); cases e; rfl
  | ref a => cases (show u = Value.ref a from r); rfl
  | ty n => cases (show u = Value.type n from r); rfl
section
variable {P : Program} {w : World} {H H' : Hp} {h h' : Heap} {a C dx : Addr} {fs fs' : List (Str × V)}
theorem ins_get (hok : HOk P w H h) (e : H a = some (.ins C dx fs)) : ∃ mA, ObjM h a dx C mA ∧ (∀ f, RelO (fs.lookup f) (mA f)) ∧ PySem.Within mA (fs.map (·.1)) ∧ fs.length ≤ 1000 ∧ H dx = some (.own a) := by
  obtain ⟨d, z, ne, ob, mA, n, r, q⟩ := (show ObjOk P w H h a (.ins C dx fs) from hok a _ e)
  exact ⟨mA, ⟨ob, n, ne⟩, r, q, z, d⟩
end
/-! ### what of the text a class must have -/
structure Cls (K : PySem.W.Frag) (C : Addr) : Prop where
  pg : PySem.W.plainGet K C Str.empty = true
  hd : PySem.W.hasDictIn K C = true
  po : PySem.W.plainOver K C = true
  sa : PySem.W.findIn K (.ref C) "__setattr__" = some (some (.builtin "object.__setattr__"))
theorem Cls.get {K : PySem.W.Frag} {C : Addr} (c : Cls K C) (f : Str) : PySem.W.plainGet K C f = true := c.pg
/-- no class of it has the name -/
def NoAttr (K : PySem.W.Frag) (C : Addr) (f : Str) : Prop := PySem.W.findIn K (.ref C) f = some none
theorem NoAttr.taker {K : PySem.W.Frag} {C : Addr} {f : Str} (n : NoAttr K C f) : PySem.W.takerIn K C f = some none := by
  unfold PySem.W.takerIn
  rw [show PySem.W.findIn K (.ref C) f = some none from n]
  rfl
/-- a constant of the class -/
structure Con (K : PySem.W.Frag) (C : Addr) (f : Str) (v : V) (u : Value) : Prop where
  at_ : PySem.W.findIn K (.ref C) f = some (some u)
  rel : RelV v u
  get : PySem.W.specialIn K u "__get__" = some none
/-- a method: a plain def of the class or of one above it -/
structure Meth (K : PySem.W.Frag) (C : Addr) (m : Str) (f : Addr) : Prop where
  at_ : PySem.W.findIn K (.ref C) m = some (some (.ref f))
  fn : PySem.W.isFn K (.ref f) = true
  kp : PySem.W.keepIn K (.ref f) = true
section
variable {X : Cx} {pins : List (Addr × Obj)} {σ : St} {H : Hp} {s : Shared} {a C dx : Addr} {fs : List (Str × V)} {f : Str} {v : V} {A : Around} {E : Value → Shared → Prop}
theorem getattr_ok {b : Bool} {Q : Value → Shared → Prop} (I : Inv X pins σ H s) (e : H a = some (.ins C dx fs)) (c : Cls X.K C) (n : NoAttr X.K C f) (l : fs.lookup f = some v)
    (h : ∀ u s', Inv X pins σ H s' → RelV v u → Q u s') : wpAny (model X.prog X.w) A (getAttr (.ref a) f b) Q E s := by
  obtain ⟨mA, O, r, _, _, _⟩ := ins_get I.hok e
  obtain ⟨u, hu, ru⟩ := RelO.some_of (v := v) (o := mA f) (by rw [← l]; exact r f)
  exact get_map I.kIn O (c.get f) c.hd n hu (handed_of ru) (h u _ (I.tok _) ru)
theorem getmeth_ok {m : Str} {g : Addr} {pl : Sem Bool} {Q : Value × List Value → Shared → Prop} (I : Inv X pins σ H s) (e : H a = some (.ins C dx fs)) (c : Cls X.K C) (k : Meth X.K C m g) (l : fs.lookup m = none)
    (h : Q (.ref g, [.ref a]) s) : wpAny (model X.prog X.w) A (getMethod (.ref a) m pl) Q E s := by
  obtain ⟨mA, O, r, _, _, _⟩ := ins_get I.hok e
  have hn : mA m = none := RelO.none_of (by rw [← l]; exact r m)
  exact get_meth I.kIn O (c.get m) k.at_ k.fn hn h
theorem setattr_ok {y : V} {u : Value} {Q : Unit → Shared → Prop} (I : Inv X pins σ H s) (e : H a = some (.ins C dx fs)) (c : Cls X.K C) (n : NoAttr X.K C f) (hl : fs.length < 1000) (ry : RelV y u)
    (h : ∀ s', Inv X pins σ (upd H a (.ins C dx (putF f y fs))) s' → Q () s') : wpAny (model X.prog X.w) A (setAttr (.ref a) f u) Q E s := by
  obtain ⟨mA, O, r, wi, _, ho⟩ := ins_get I.hok e
  have hz : (fs.map (·.1)).length ≤ sizeLine := by rw [List.length_map, sizeLine_eq]; omega
  refine set_map I.kIn O c.sa c.po n.taker c.hd wi hz fun h' O' sb => h _ ?_
  have hd : ∃ o, h'.get? dx = some o := let ⟨o, _, _, e', _⟩ := O'.ns; ⟨o, e'⟩
  refine I.write (x := a) (e := dx) (by rw [e]; exact True.intro) (.inr ho) (fun b q hb z => (sb.2 b hb).trans z) hd ?_
  refine ⟨by rw [upd_ne O.ne]; exact ho, ?_, O.ne, O'.obj, _, O'.ns, fun g => ?_, fun g hg => ?_⟩
  · have := length_putF f y fs; omega
  · show RelO ((putF f y fs).lookup g) (if g = f then some u else mA g)
    rw [lookup_putF]
    by_cases q : g = f
    · rw [if_pos q, if_pos q]; exact ry
    · rw [if_neg q, if_neg q]; exact r g
  · by_cases q : g = f
    · rw [q]; exact (keys_putF f y fs).1
    · refine (keys_putF f y fs).2 g (wi g fun z => hg ?_)
      show (if g = f then some u else mA g) = none
      rw [if_neg q]; exact z
/-- a new instance, tracked, without attributes -/
theorem Inv.made (I : Inv X pins σ H s) : Inv X pins σ (upd (upd H s.heap.objs.size (.own (s.heap.objs.size + 1))) (s.heap.objs.size + 1) (.ins C s.heap.objs.size []))
    { s with heap := (s.heap.push PySem.W.emptyDict).push (PySem.W.instObj C s.heap.objs.size) } := by
  have e1 : (s.heap.push PySem.W.emptyDict).get? s.heap.objs.size = some PySem.W.emptyDict := Heap.get?_push_size s.heap rfl
  have e2 : ((s.heap.push PySem.W.emptyDict).push (PySem.W.instObj C s.heap.objs.size)).get? (s.heap.objs.size + 1) = some (PySem.W.instObj C s.heap.objs.size) := by
    have := Heap.get?_push_size (s.heap.push PySem.W.emptyDict) (o := PySem.W.instObj C s.heap.objs.size) rfl
    rwa [Heap.size_push] at this
  have e3 : (s.heap.push PySem.W.emptyDict).Ns s.heap.objs.size (fun _ => none) := ⟨PySem.W.emptyDict, #[], _, e1, rfl, (fun e he => absurd he (by simp)), fun _ => rfl⟩
  have I1 := I.laid (a := s.heap.objs.size) (o := .own (s.heap.objs.size + 1)) (h' := s.heap.push PySem.W.emptyDict) (t' := s.toks) (fun b u q => Heap.get?_push_of_some _ q) (Nat.le_refl _) ⟨_, e1⟩
  refine I1.laid (a := s.heap.objs.size + 1) (o := .ins C s.heap.objs.size []) (t' := s.toks) (fun b u q => Heap.get?_push_of_some _ q) (Nat.le_of_eq (Heap.size_push _ _)) ?_
  have ne : s.heap.objs.size ≠ s.heap.objs.size + 1 := Nat.ne_of_lt (Nat.lt_succ_self _)
  refine ⟨by rw [upd_ne ne, upd_same], Nat.zero_le _, ne, e2, fun _ => none, (Heap.Ns1.of_empty e3).at fun o q => Heap.get?_push_of_some _ q, fun _ => True.intro, fun y hy => absurd rfl hy⟩
/-- e.f where nothing but the object is asked: through attributeBase (super) and the last hold -/
theorem attr_of {prog : Program} {w : World} {env : Env} {e : Expr} {f : Str} {pos : Pos} {s : Shared} {Q : Value → Shared → Prop} (hb : attributeBase e f env (eval e env) = eval e env)
    (h : wpAny (model prog w) A (eval e env) (fun o s₁ => wpAny (model prog w) A (getAttr o f true) Q E s₁) E s) : wpAny (model prog w) A (eval (.Attribute e f pos) env) Q E s :=
  Attribute_any_ h (by rw [arm_eval_Attribute, hb])
end
/-! ### readings and rules -/
/-- e.f, an attribute of the instance -/
def tFld (K : PySem.W.Frag) (ta : TE) (f : Str) : TE := fun σ H Q => ta σ H fun x H1 => ∃ a C dx fs v, x = .ref a ∧ H1 a = some (.ins C dx fs) ∧ Cls K C ∧ NoAttr K C f ∧ fs.lookup f = some v ∧ Q v H1
/-- e.f, a constant of the class -/
def tCon (K : PySem.W.Frag) (ta : TE) (f : Str) : TE := fun σ H Q => ta σ H fun x H1 => ∃ a C dx fs v u, x = .ref a ∧ H1 a = some (.ins C dx fs) ∧ Cls K C ∧ Con K C f v u ∧ fs.lookup f = none ∧ Q v H1
/-- e.f = value -/
def sFld (K : PySem.W.Frag) (ta tv : TE) (f : Str) : TS := fun D σ H => tv σ H fun y H1 => ta σ H1 fun x H2 => ∃ a C dx fs, x = .ref a ∧ H2 a = some (.ins C dx fs) ∧ Cls K C ∧ NoAttr K C f ∧ fs.length < 1000 ∧
  D.nx σ (upd H2 a (.ins C dx (putF f y fs)))
/-- an augmented operator on two values -/
def InOp (X : Cx) (op : Operator) (rd : V → V → Hp → VK → Prop) : Prop :=
  ∀ (pins : List (Addr × Obj)) (s : Shared) (σ : St) (H : Hp) (x y : V) (u v : Value) (Q : VK), Inv X pins σ H s → RelV x u → RelV y v → rd x y H Q → wpAny (model X.prog X.w) X.A (inplaceOp op u v) (EP X pins σ Q) X.xe s
/-- e.f op= value -/
def sFldAug (K : PySem.W.Frag) (ta tv : TE) (rd : V → V → Hp → VK → Prop) (f : Str) : TS := fun D σ H => ta σ H fun x H1 => ∃ a C dx fs v, x = .ref a ∧ H1 a = some (.ins C dx fs) ∧ Cls K C ∧ NoAttr K C f ∧ fs.lookup f = some v ∧
  tv σ H1 fun y H2 => rd v y H2 fun z H3 => ∃ dx' fs', H3 a = some (.ins C dx' fs') ∧ fs'.length < 1000 ∧ D.nx σ (upd H3 a (.ins C dx' (putF f z fs')))
section
variable {X : Cx} {o e value : Expr} {f : Str} {pos pos' tpos : Pos} {ta tv : TE}
theorem pe_fld (he : PE X e ta) (hb : attributeBase e f X.env (eval e X.env) = eval e X.env) : PE X (.Attribute e f pos) (tFld X.K ta f) := by
  intro pins s σ H Q I h
  refine attr_of hb (thn (he pins s σ H _ I h) fun u s1 ⟨x, H1, I1, rx, a, C, dx, fs, v, ex, ea, c, n, l, q⟩ => ?_)
  subst ex
  obtain rfl : u = Value.ref a := rx
  exact getattr_ok I1 ea c n l fun u' s2 I2 ru => ⟨v, H1, I2, ru, q⟩
theorem ps_fld (ha : PE X o ta) (hv : PE X value tv) (hs : swapsWith value (some (.Attribute o f pos')) pos.line X.env = pure false) : PS X (.Assign [.Attribute o f pos'] value pos) (sFld X.K ta tv f) := by
  intro pins s σ H D I h
  refine plainObj_wpAny_Assign_Attribute (thn (hv pins s σ H _ I h) fun u s1 ⟨y, H1, I1, ry, q⟩ => thn (ha pins s1 σ H1 _ I1 q) fun ov s2 ⟨x, H2, I2, rx, a, C, dx, fs, ex, ea, c, n, l, q2⟩ => ?_) hs
  subst ex
  obtain rfl : ov = Value.ref a := rx
  exact setattr_ok I2 ea c n l ry fun s3 I3 => ⟨σ, _, I3, q2⟩
def rAdd : V → V → Hp → VK → Prop := fun x y H Q => ∃ i j, x = .int i ∧ y = .int j ∧ Q (.int (i + j)) H
def rSub : V → V → Hp → VK → Prop := fun x y H Q => ∃ i j, x = .int i ∧ y = .int j ∧ Q (.int (i - j)) H
end
/-! ### isinstance -/
section
variable {X : Cx} {pins : List (Addr × Obj)} {σ : St} {H : Hp} {s : Shared} {A : Around} {E : Value → Shared → Prop} {Q : Value → Shared → Prop} {c : Value} {b : Bool}
/-- the type of a value, as the fragment's deciders take it; for an instance its class -/
inductive TyOf (K : PySem.W.Frag) (H : Hp) : V → Value → Prop where
  | non : TyOf K H .non (.type "NoneType")
  | bl (x : Bool) : TyOf K H (.bl x) (.type "bool")
  | int (i : Int) : TyOf K H (.int i) (.type "int")
  | str (x : Str) : TyOf K H (.str x) (.type "str")
  | flt (x : UInt64) : TyOf K H (.flt x) (.type "float")
  | lst {a : Addr} {xs : List V} (e : H a = some (.lst xs)) : TyOf K H (.ref a) (.type "list")
  | frz {a : Addr} {o : Obj} {xs : List V} (e : H a = some (.frz o (.lst xs))) : TyOf K H (.ref a) (.type "list")
  | tup {a : Addr} {xs : List V} (e : H a = some (.tup xs)) : TyOf K H (.ref a) (.type "tuple")
  | dK {a : Addr} {kvs : List (Key × V)} (e : H a = some (.dK kvs)) : TyOf K H (.ref a) (.type "dict")
  | dT {a : Addr} {kvs : List (List Key × V)} (e : H a = some (.dT kvs)) : TyOf K H (.ref a) (.type "dict")
  | ins {a C dx : Addr} {fs : List (Str × V)} (e : H a = some (.ins C dx fs)) (cl : Cls K C) (ha : PySem.W.findIn K (.ref C) "__class__" = some (some (.builtin "object.__class__")))
      (hn : PySem.W.specialIn K (.builtin "object.__class__") "__get__" = some (some (.builtin "getset_descriptor.__get__"))) (htk : PySem.W.takesIn K (.builtin "object.__class__") = some true)
      (hm : PySem.W.mroIn K C (.type "object") = some true) : TyOf K H (.ref a) (.ref C)
end
end L2
namespace L2
open PySem PySem.Spec PyProof.Rows
/-! ### room -/
structure Room (k : Nat) (A : Around) : Prop where
  hd : A.handled = none
  dp : A.depth + 3 * k + 5 < recursionLimit
  un : A.units + 16 * k + 200 < cLine
theorem Room.mono {j k : Nat} {A : Around} (r : Room k A) (h : j ≤ k) : Room j A := ⟨r.hd, by have := r.dp; omega, by have := r.un; omega⟩
theorem Room.deeper {k : Nat} {A : Around} (r : Room (k + 1) A) (env : Env) : Room k (A.deeper env) :=
  ⟨r.hd, by have := r.dp; show A.depth + 1 + 3 * k + 5 < _; omega, by have := r.un; show A.units + 3 + 16 * k + 200 < _; omega⟩
theorem Room.in1 {k : Nat} {A : Around} (r : Room (k + 1) A) : Room k A.in1 :=
  ⟨r.hd, by have := r.dp; show A.depth + 3 * k + 5 < _; omega, by have := r.un; show A.units + 1 + 16 * k + 200 < _; omega⟩
theorem make_depth {A : Around} {C : Addr} {us : List Value} {kw : List (Str × Value)} : (A.under (.builtin "type.__call__" ⟨.ref C :: us, kw⟩)).depth = A.depth + 1 := by
  first | rfl | simp [Around.under, Code.weight, Code.isCreation, Code.isGuard, Code.isCaller, Code.frames, Code.isFrame, guardIds]
theorem make_units {A : Around} {C : Addr} {us : List Value} {kw : List (Str × Value)} : (A.under (.builtin "type.__call__" ⟨.ref C :: us, kw⟩)).units = A.units + 1 := by
  first | rfl | simp [Around.under, Code.cUnits, Code.frames, Code.isFrame]
theorem Room.make {k : Nat} {A : Around} (r : Room (k + 1) A) (C : Addr) (us : List Value) (kw : List (Str × Value)) : Room k (A.under (.builtin "type.__call__" ⟨.ref C :: us, kw⟩)) :=
  ⟨r.hd, by have := r.dp; rw [make_depth]; omega, by have := r.un; rw [make_units]; omega⟩
theorem Room.depth {k : Nat} {A : Around} (r : Room k A) : A.depth < recursionLimit := by have := r.dp; omega
theorem Room.units {k : Nat} {A : Around} (r : Room k A) : A.units + 64 < cLine := by have := r.un; omega
/-! ### argument lists and displays -/
def tNil : TA := fun _ H Q => Q [] H
def tCons (ta : TE) (tr : TA) : TA := fun σ H Q => ta σ H fun x H1 => tr σ H1 fun xs H2 => Q (x :: xs) H2
section
variable {X : Cx} {e : Expr} {es : List Expr} {te : TE} {t : TA} {pos : Pos}
theorem pa_nil : PA X [] tNil := fun _ _ _ _ H Q I h => Calls.spliced_nil ⟨[], H, I, .nil, h⟩
theorem pa_cons (ha : PE X e te) (hr : PA X es t) (hs : starEach (e :: es) X.env = (false, eval e X.env) :: starEach es X.env := by rfl) : PA X (e :: es) (tCons te t) := by
  intro pos pins s σ H Q I h
  rw [hs]
  show wpAny _ _ (spliced ((false, eval e X.env) :: backTo pos (starEach es X.env))) _ _ s
  refine Calls.spliced_cons (thn (ha pins s σ H _ I h) fun u s1 ⟨x, H1, I1, r1, q1⟩ => ?_)
  exact thn (hr pos pins s1 σ H1 _ I1 q1) fun us s2 ⟨xs, H2, I2, r2, q2⟩ => ⟨x :: xs, H2, I2, .cons r1 r2, q2⟩
/-- a tuple, a list of written items -/
def tTup (t : TA) : TE := fun σ H Q => t σ H fun xs H1 => xs.length ≤ sizeLine ∧ ∀ p, H1 p = none → Q (.ref p) (upd H1 p (.tup xs))
def tLst (t : TA) : TE := fun σ H Q => t σ H fun xs H1 => xs.length ≤ sizeLine ∧ ∀ p, H1 p = none → Q (.ref p) (upd H1 p (.lst xs))
theorem pe_tup {x1} (h : PA X es t) : PE X (.Tuple es x1 pos) (tTup t) := by
  intro pins s σ H Q I hq
  refine wpAny_Tuple_spliced (thn (h pos pins s σ H _ I hq) fun us s1 ⟨xs, H1, I1, r, z, q⟩ => ⟨by rw [← r.length]; exact z, ?_⟩)
  have hf : H1 s1.heap.objs.size = none := I1.hok.fresh (Nat.le_refl _)
  refine ⟨.ref s1.heap.objs.size, upd H1 s1.heap.objs.size (.tup xs), I1.laid (t' := s1.toks) (fun b u e => Heap.get?_push_of_some _ e) (Nat.le_refl _) ?_, rfl, q _ hf⟩
  exact ⟨z, us, r, ⟨_, Heap.get?_push_size _ rfl, rfl, _, rfl⟩⟩
theorem pe_lst (h : PA X es t) : PE X (.List es pos) (tLst t) := by
  intro pins s σ H Q I hq
  refine wpAny_List_spliced (thn (h pos pins s σ H _ I hq) fun us s1 ⟨xs, H1, I1, r, z, q⟩ => ⟨by rw [← r.length]; exact z, ?_⟩)
  have hf : H1 s1.heap.objs.size = none := I1.hok.fresh (Nat.le_refl _)
  refine ⟨.ref s1.heap.objs.size, upd H1 s1.heap.objs.size (.lst xs), I1.laid (t' := s1.toks) (fun b u e => Heap.get?_push_of_some _ e) (Nat.le_refl _) ?_, rfl, q _ hf⟩
  exact ⟨z, us, 0, r, Heap.get?_push_size _ rfl⟩
end
/-! ### what a def promises -/
/-- a def's promise: the bound arguments in the parameters' order, the heap, the wanted end, the wanted exception -/
abbrev Sp := List V → Hp → VK → XK → Prop
/-- how an exception lies behind a call (file 08 gives it): the callers' frames, abstract heap and state ahead of the call, the wish, the exception, the state -/
abbrev CXT := List Env → Hp → Shared → XK → Value → Shared → Prop
/-- the state at a call -/
structure Env0 (P : Program) (w : World) (K : PySem.W.Frag) (mg : Str → Option Value) (base : Heap) (A : Around) (outer : List Env) (s : Shared) (H : Hp) : Prop where
  frames : A.frames = some outer
  mod : Mod K mg base
  bs : ∀ b o, base.get? b = some o → s.heap.get? b = some o ∧ H b = none
  bsz : base.objs.size ≤ s.heap.objs.size
  funs : s.heap.FunFrames base outer
  frf : ∀ b ∈ frs outer, H b = none
  hok : HOk P w H s.heap
  bare : AllBare s.gens
/-- a call's end -/
def CE (outer : List Env) (P : Program) (w : World) (H : Hp) (s : Shared) (Q : VK) (u : Value) (s' : Shared) : Prop :=
  ∃ v H', s'.os = s.os ∧ AllBare s'.gens ∧ Un (frs outer) [] H H' s.heap s'.heap ∧ HOk P w H' s'.heap ∧ RelV v u ∧ Q v H'
def CR (CX : CXT) (outer : List Env) (P : Program) (w : World) (H : Hp) (s : Shared) (Q : VK) (E : XK) (r : Result) (s' : Shared) : Prop :=
  match r with
  | .ok (.ret u) => CE outer P w H s Q u s'
  | .ok _ => False
  | .error e => CX outer H s E e s'
structure FnOk (P : Program) (w : World) (K : PySem.W.Frag) (mg : Str → Option Value) (base : Heap) (CX : CXT) (k : Nat) (f : Addr) (fd : FuncData) (ps : List Str) (sp : Sp) : Prop where
  len : ∀ vs H Q E, sp vs H Q E → vs.length = ps.length
  run : ∀ (A : Around) (outer : List Env) (s : Shared) (H : Hp) (args : Args) (us : List Value) (vs : List V) (Q : VK) (E : XK), Room k A → Env0 P w K mg base A outer s H → BindsTo s fd args (ps.zip us) → Vals vs us → sp vs H Q E →
    codeAny (model P w) A (.call (.ref f) args) (CR CX outer P w H s Q E) s
theorem FnOk.mono {P : Program} {w : World} {K : PySem.W.Frag} {mg : Str → Option Value} {base : Heap} {CX : CXT} {j k : Nat} {f : Addr} {fd : FuncData} {ps : List Str} {sp : Sp} (F : FnOk P w K mg base CX j f fd ps sp) (h : j ≤ k) :
    FnOk P w K mg base CX k f fd ps sp := ⟨F.len, fun A outer s H args us vs Q E hr => F.run A outer s H args us vs Q E (hr.mono h)⟩
/-- a weaker promise -/
theorem FnOk.imp {P : Program} {w : World} {K : PySem.W.Frag} {mg : Str → Option Value} {base : Heap} {CX : CXT} {k : Nat} {f : Addr} {fd : FuncData} {ps : List Str} {sp sp' : Sp} (F : FnOk P w K mg base CX k f fd ps sp)
    (h : ∀ vs H Q E, sp' vs H Q E → sp vs H Q E) : FnOk P w K mg base CX k f fd ps sp' :=
  ⟨fun vs H Q E q => F.len vs H Q E (h _ _ _ _ q), fun A outer s H args us vs Q E hr he hb hv hs => F.run A outer s H args us vs Q E hr he hb hv (h _ _ _ _ hs)⟩
theorem Env0.make {P : Program} {w : World} {K : PySem.W.Frag} {mg : Str → Option Value} {base : Heap} {A : Around} {outer : List Env} {s : Shared} {H : Hp} (e : Env0 P w K mg base A outer s H) (C : Addr) (us : List Value) (kw : List (Str × Value)) :
    Env0 P w K mg base (A.under (.builtin "type.__call__" ⟨.ref C :: us, kw⟩)) outer s H := ⟨by first | exact e.frames | (simpa [Around.under, Code.envs, Code.isFrame, pushEnvs] using e.frames), e.mod, e.bs, e.bsz, e.funs, e.frf, e.hok, e.bare⟩
theorem Env0.in1 {P : Program} {w : World} {K : PySem.W.Frag} {mg : Str → Option Value} {base : Heap} {A : Around} {outer : List Env} {s : Shared} {H : Hp} (e : Env0 P w K mg base A outer s H) :
    Env0 P w K mg base A.in1 outer s H := ⟨e.frames, e.mod, e.bs, e.bsz, e.funs, e.frf, e.hok, e.bare⟩
section
variable {X : Cx} {pins : List (Addr × Obj)} {σ : St} {H : Hp} {s s' : Shared}
/-- from a body: what a callee wants -/
theorem Inv.env0 (I : Inv X pins σ H s) : Env0 X.prog X.w X.K X.mg X.base X.A X.stack s H :=
  ⟨I.ok.frames, I.ok.mod, I.bs, Nat.le_trans I.ok.bsz I.sz, I.stack, I.stkFree, I.hok, I.bare⟩
/-- behind a call -/
theorem Inv.after {Q : VK} {u : Value} (I : Inv X pins σ H s) (h : CE X.stack X.prog X.w H s Q u s') : EP X pins σ Q u s' := by
  obtain ⟨v, H', os, bare, un, hok, r, q⟩ := h
  obtain ⟨hh, g, d, t, os'⟩ := s'
  obtain rfl : os' = s.os := os
  exact ⟨v, H', I.call (h' := hh) (g' := g) (d' := d) (t' := t) (ch := []) un hok bare (fun b z => absurd z (by simp)), r, q⟩
end
/-! ### calls -/
/-- f(..): the written arguments, then the defaults dvs; E: what is wanted of an exception -/
def tCall (sp : Sp) (dvs : List V) (E : XK) (t : TA) : TE := fun σ H Q => t σ H fun vs H1 => sp (vs ++ dvs) H1 Q E
/-- o.m(..) of an instance of the class at C -/
def tMeth (C : Addr) (m : Str) (sp : Sp) (dvs : List V) (E : XK) (ta : TE) (t : TA) : TE := fun σ H Q => ta σ H fun x H1 => ∃ a dx fs, x = .ref a ∧ H1 a = some (.ins C dx fs) ∧ fs.lookup m = none ∧
  t σ H1 fun vs H2 => sp (x :: (vs ++ dvs)) H2 Q E
/-- C(..): a new instance and its dict, then __init__ -/
def tMake (C : Addr) (sp : Sp) (dvs : List V) (E : XK) (t : TA) : TE := fun σ H Q => t σ H fun vs H1 => ∀ x dx, H1 x = none → H1 dx = none → dx ≠ x →
  sp (.ref x :: (vs ++ dvs)) (upd (upd H1 dx (.own x)) x (.ins C dx [])) (fun v H2 => v = .non ∧ Q (.ref x) H2) E
/-- how the parameters are bound: us the positional arguments, kw the keywords' values by name, ds the defaults that fill up -/
def Binds (K : PySem.W.Frag) (fd : FuncData) (ps : List Str) (ds : List Value) : Prop :=
  ∀ (s : Shared) (us : List Value), K.In s.heap → (us ++ ds).length = ps.length → BindsTo s fd ⟨us, []⟩ (ps.zip (us ++ ds))
/-- every parameter is given -/
theorem Binds.all {K : PySem.W.Frag} {fd : FuncData} {ps : List Str} (h : ∀ us : List Value, us.length = ps.length → bindArgs fd ⟨us, []⟩ = pure (ps.zip us)) : Binds K fd ps [] := fun s us _ hl => by
  rw [List.append_nil] at hl ⊢
  exact .of_eq (h us hl)
/-- an exception of a callee reaches what this body wants of exceptions -/
def Passes (CX : CXT) (X : Cx) (E : XK) : Prop := ∀ (pins : List (Addr × Obj)) (σ : St) (H : Hp) (s : Shared) (e : Value) (s' : Shared), Inv X pins σ H s → CX X.stack H s E e s' → X.xe e s'
section
variable {X : Cx} {CX : CXT} {k : Nat} {f C : Addr} {fd : FuncData} {ps : List Str} {sp : Sp} {dvs : List V} {ds : List Value} {E : XK} {x m : Str} {p pos apos : Pos} {e o : Expr} {es : List Expr} {ta : TE} {t : TA}
/-- the callee runs -/
theorem run_fn {pins : List (Addr × Obj)} {σ : St} {H : Hp} {s : Shared} {Q : VK} {us : List Value} {vs : List V} (F : FnOk X.prog X.w X.K X.mg X.base CX k f fd ps sp) (hr : Room k X.A) (hb : Binds X.K fd ps ds) (hd : Vals dvs ds) (hx : Passes CX X E)
    (I : Inv X pins σ H s) (r : Vals vs us) (h : sp (vs ++ dvs) H Q E) : wpAny (model X.prog X.w) X.A (call (.ref f) us) (EP X pins σ Q) X.xe s := by
  have r2 : Vals (vs ++ dvs) (us ++ ds) := r.append hd
  have hl : (us ++ ds).length = ps.length := by rw [← r2.length]; exact F.len _ _ _ _ h
  refine wpAny_call (codeAny_mono (F.run X.A X.stack s H ⟨us, []⟩ (us ++ ds) (vs ++ dvs) Q E hr I.env0 (hb s us I.kIn hl) r2 h) fun r s' hq => ?_)
  cases r with
  | error e => exact hx pins σ H s e s' I hq
  | ok fl =>
    cases fl with
    | ret u => exact I.after hq
    | next => exact False.elim hq
    | brk => exact False.elim hq
    | cont => exact False.elim hq
theorem pe_call (F : FnOk X.prog X.w X.K X.mg X.base CX k f fd ps sp) (hr : Room k X.A) (hg : Gl X x) (hm : X.mg x = some (.ref f)) (hk : PySem.W.keepIn X.K (.ref f) = true) (hb : Binds X.K fd ps ds) (hd : Vals dvs ds) (hx : Passes CX X E)
    (ha : PA X (e :: es) t) (hdb : (x == ("__debug__" : Str)) = false := by decide) (he : starEach (e :: es) X.env = (false, eval e X.env) :: starEach es X.env := by rfl) (hpl : (backTo pos (starEach es X.env)).any (·.1) = false := by rfl) :
    PE X (.Call (.Name x p) (e :: es) [] pos) (tCall sp dvs E t) := by
  intro pins s σ H Q I h
  refine wpAny_Call_Name_kw (ld_glob I hg hm ?_ hdb)
  refine PySem.W.callWith_K (h₀ := X.base) I.ok.mod.kin hk (thn (ha pos pins s σ H _ I h) fun us s1 ⟨vs, H1, I1, r, q⟩ => ⟨I1.kIn, ?_⟩) he hpl
  exact run_fn F hr hb hd hx I1 r q
/-- o.m(e, ..) -/
theorem pe_meth {pl : Sem Bool} (he : PE X o ta) (c : Cls X.K C) (hm : Meth X.K C m f) (F : FnOk X.prog X.w X.K X.mg X.base CX k f fd ps sp) (hr : Room k X.A) (hb : Binds X.K fd ps ds) (hd : Vals dvs ds) (hx : Passes CX X E) (ha : PA X (e :: es) t)
    (hst : starEach (e :: es) X.env = (false, eval e X.env) :: starEach es X.env := by rfl) (hpl : (backTo pos (starEach es X.env)).any (·.1) = false := by rfl)
    (ht : eval (.Call (.Attribute o m apos) (e :: es) [] pos) X.env = (do
      let ov ← eval o X.env
      standAt apos.atName
      let (f, first) ← holding [ov] (getMethod ov m pl)
      callWith pos f first (backTo pos (starEach (e :: es) X.env)) (backToKw pos (keywordEach [] X.env))) := by rfl) :
    PE X (.Call (.Attribute o m apos) (e :: es) [] pos) (tMeth C m sp dvs E ta t) := by
  intro pins s σ H Q I h
  refine PySem.W.methodCall_KW (pl := pl) (thn (he pins s σ H _ I h) fun u s1 ⟨x, H1, I1, rx, a, dx, fs, ex, ea, l, q⟩ => ?_) ht
  subst ex
  obtain rfl : u = Value.ref a := rx
  refine getmeth_ok I1 ea c hm l ?_
  refine PySem.W.callWith_K (first := [.ref a]) (h₀ := X.base) I.ok.mod.kin hm.kp (thn (ha pos pins s1 σ H1 _ I1 q) fun us s2 ⟨vs, H2, I2, r, q2⟩ => ⟨I2.kIn, ?_⟩) hst hpl
  exact run_fn (us := .ref a :: us) (vs := .ref a :: vs) F hr hb hd hx I2 (.cons rfl r) q2
/-- o.m() -/
theorem pe_meth0 {pl : Sem Bool} (he : PE X o ta) (c : Cls X.K C) (hm : Meth X.K C m f) (F : FnOk X.prog X.w X.K X.mg X.base CX k f fd ps sp) (hr : Room k X.A) (hb : Binds X.K fd ps ds) (hd : Vals dvs ds) (hx : Passes CX X E)
    (ht : eval (.Call (.Attribute o m apos) [] [] pos) X.env = (do
      let ov ← eval o X.env
      standAt apos.atName
      let (f, first) ← holding [ov] (getMethod ov m pl)
      callWith pos f first (backTo pos (starEach [] X.env)) (backToKw pos (keywordEach [] X.env))) := by rfl) :
    PE X (.Call (.Attribute o m apos) [] [] pos) (tMeth C m sp dvs E ta tNil) := by
  intro pins s σ H Q I h
  refine PySem.W.methodCall_KW (pl := pl) (thn (he pins s σ H _ I h) fun u s1 ⟨x, H1, I1, rx, a, dx, fs, ex, ea, l, q⟩ => ?_) ht
  subst ex
  obtain rfl : u = Value.ref a := rx
  refine getmeth_ok I1 ea c hm l ?_
  exact PySem.W.callWith_K0 (first := [.ref a]) I1.kIn hm.kp (run_fn (us := [.ref a]) (vs := [.ref a]) F hr hb hd hx I1 (.cons rfl .nil) q)
/-- what a class must have to be made -/
structure Mk (K : PySem.W.Frag) (C f : Addr) : Prop where
  makes : PySem.W.makesIn K C = true
  init : PySem.W.findIn K (.ref C) "__init__" = some (some (.ref f))
  fn : PySem.W.isFn K (.ref f) = true
  kp : PySem.W.keepIn K (.ref C) = true
theorem run_make {pins : List (Addr × Obj)} {σ : St} {H : Hp} {s : Shared} {Q : VK} {us : List Value} {vs : List V} (M : Mk X.K C f) (F : FnOk X.prog X.w X.K X.mg X.base CX k f fd ps sp) (hr : Room (k + 1) X.A) (hb : Binds X.K fd ps ds) (hd : Vals dvs ds)
    (hx : Passes CX X E) (I : Inv X pins σ H s) (r : Vals vs us)
    (h : ∀ x dx, H x = none → H dx = none → dx ≠ x → sp (.ref x :: (vs ++ dvs)) (upd (upd H dx (.own x)) x (.ins C dx [])) (fun v H2 => v = .non ∧ Q (.ref x) H2) E) :
    wpAny (model X.prog X.w) X.A (call (.ref C) us) (EP X pins σ Q) X.xe s := by
  have hq := h (s.heap.objs.size + 1) s.heap.objs.size (I.hok.fresh (Nat.le_succ _)) (I.hok.fresh (Nat.le_refl _)) (Nat.ne_of_lt (Nat.lt_succ_self _))
  have I2 := Inv.made (C := C) I
  have r2 : Vals (V.ref (s.heap.objs.size + 1) :: (vs ++ dvs)) (Value.ref (s.heap.objs.size + 1) :: (us ++ ds)) := .cons rfl (r.append hd)
  have hl : (Value.ref (s.heap.objs.size + 1) :: us ++ ds).length = ps.length := by
    have e := r2.length
    rw [F.len _ _ _ _ hq] at e
    exact e.symm
  refine wpAny_call (make_map (f := f) I.kIn M.makes M.init (beq_iff_eq.mp M.fn) (codeAny_mono (F.run _ X.stack _ _ ⟨Value.ref (s.heap.objs.size + 1) :: us, []⟩ (Value.ref (s.heap.objs.size + 1) :: (us ++ ds)) _ _ E (hr.make C us [])
    (I2.env0.make C us []) (hb _ (Value.ref (s.heap.objs.size + 1) :: us) I2.kIn hl) r2 hq) fun r s' hq' => ?_))
  cases r with
  | error e => exact hx pins σ _ _ e s' I2 hq'
  | ok fl =>
    cases fl with
    | ret u =>
      obtain ⟨v, H', I3, rv, ev, q3⟩ := I2.after hq'
      subst ev
      exact ⟨rv, ⟨V.ref (s.heap.objs.size + 1), H', I3, rfl, q3⟩⟩
    | next => exact False.elim hq'
    | brk => exact False.elim hq'
    | cont => exact False.elim hq'
theorem pe_make0 (M : Mk X.K C f) (F : FnOk X.prog X.w X.K X.mg X.base CX k f fd ps sp) (hr : Room (k + 1) X.A) (hg : Gl X x) (hm : X.mg x = some (.ref C)) (hb : Binds X.K fd ps ds) (hd : Vals dvs ds) (hx : Passes CX X E)
    (hdb : (x == ("__debug__" : Str)) = false := by decide) : PE X (.Call (.Name x p) [] [] pos) (tMake C sp dvs E tNil) := by
  intro pins s σ H Q I h
  refine wpAny_Call_Name_kw (ld_glob I hg hm ?_ hdb)
  exact PySem.W.callWith_K0 I.kIn M.kp (run_make (us := []) M F hr hb hd hx I .nil h)
end
/-! ### keywords -/
/-- the values of the keywords, from the left -/
def PK (X : Cx) (kws : List Keyword) (t : TA) : Prop :=
  ∀ (pos : Pos) (pins : List (Addr × Obj)) (s : Shared) (σ : St) (H : Hp) (Q : List V → Hp → Prop), Inv X pins σ H s → t σ H Q → wpAny (model X.prog X.w) X.A (evalAll ((backToKw pos (keywordEach kws X.env)).map (·.2))) (AP X pins σ Q) X.xe s
section
variable {X : Cx} {CX : CXT} {k : Nat} {f C : Addr} {fd : FuncData} {ps ks : List Str} {sp : Sp} {E : XK} {x m : Str} {p pos apos kpos : Pos} {e o : Expr} {es : List Expr} {kws : List Keyword} {te ta : TE} {t tk : TA} {nm : Option Str}
/-- how a call with keywords binds: g puts the positional values us and the keywords' values ws (names ks) in the parameters' order, defaults among them -/
structure KBinds (K : PySem.W.Frag) (fd : FuncData) (ps ks : List Str) (g : List Value → List Value → List Value) (gV : List V → List V → List V) : Prop where
  to : ∀ (s : Shared) (us ws : List Value), K.In s.heap → (g us ws).length = ps.length → BindsTo s fd ⟨us, ks.zip ws⟩ (ps.zip (g us ws))
  rel : ∀ {vs : List V} {us : List Value} {zs : List V} {ws : List Value}, Vals vs us → Vals zs ws → Vals (gV vs zs) (g us ws)
def tCallK (sp : Sp) (gV : List V → List V → List V) (E : XK) (t tk : TA) : TE := fun σ H Q => t σ H fun vs H1 => tk σ H1 fun zs H2 => sp (gV vs zs) H2 Q E
variable {g : List Value → List Value → List Value} {gV : List V → List V → List V}
end
/-! ### a def's body keeps its promise -/
/-- names: the parameters first -/
structure FnScope (N P : List Str) (sc : Scope) : Prop where
  kind : sc.kind = .function
  co : sc.isCoroutine = false
  gen : sc.isGenerator = false
  nd : N.Nodup
  pre : N.take P.length = P
  par : ∀ x ∈ P, sc.names.lookup x = some .local ∨ sc.names.lookup x = some .cell
  nofree : ∀ y ∈ sc.names, y.2 ≠ .free
theorem bindL_out {kindOf : Str → Option NameKind} {x : Str} : ∀ {binds : List (Str × Value)} {m : Str → Option Value}, (∀ v, (x, v) ∉ binds) → bindL kindOf binds m x = m x
  | [], _, _ => rfl
  | (n, v) :: r, m, h => by
    unfold bindL
    rw [bindL_out fun w hw => h w (List.mem_cons_of_mem _ hw)]
    split
    · have : x ≠ n := by rintro rfl; exact h v List.mem_cons_self
      simp [this]
    · rfl
theorem bindC_out {kindOf : Str → Option NameKind} {x : Str} : ∀ {binds : List (Str × Value)} {m : Str → Option Value}, (∀ v, (x, v) ∉ binds) → bindC kindOf binds m x = m x
  | [], _, _ => rfl
  | (n, v) :: r, m, h => by
    unfold bindC
    rw [bindC_out fun w hw => h w (List.mem_cons_of_mem _ hw)]
    split
    · rfl
    · have : x ≠ n := by rintro rfl; exact h v List.mem_cons_self
      simp [this]
theorem bindL_get {kindOf : Str → Option NameKind} {x : Str} {v : Value} : ∀ {P : List Str} {vs : List Value} {i : Nat} {m : Str → Option Value}, P.Nodup → P[i]? = some x → vs[i]? = some v → kindOf x = some .local →
    bindL kindOf (P.zip vs) m x = some v
  | [], _, _, _, _, h, _, _ => by simp at h
  | _ :: _, [], _, _, _, _, h, _ => by simp at h
  | p :: P, w :: vs, 0, m, nd, h1, h2, hk => by
    simp at h1 h2; subst h1; subst h2
    show bindL kindOf ((p, w) :: P.zip vs) m p = _
    unfold bindL
    rw [bindL_out fun v hv => (List.nodup_cons.mp nd).1 (List.of_mem_zip hv).1, if_pos hk]
    simp
  | p :: P, w :: vs, i + 1, m, nd, h1, h2, hk => by
    show bindL kindOf ((p, w) :: P.zip vs) m x = _
    unfold bindL
    exact bindL_get (i := i) (List.nodup_cons.mp nd).2 (by simpa using h1) (by simpa using h2) hk
theorem bindC_get {kindOf : Str → Option NameKind} {x : Str} {v : Value} : ∀ {P : List Str} {vs : List Value} {i : Nat} {m : Str → Option Value}, P.Nodup → P[i]? = some x → vs[i]? = some v → kindOf x ≠ some .local →
    bindC kindOf (P.zip vs) m x = some v
  | [], _, _, _, _, h, _, _ => by simp at h
  | _ :: _, [], _, _, _, _, h, _ => by simp at h
  | p :: P, w :: vs, 0, m, nd, h1, h2, hk => by
    simp at h1 h2; subst h1; subst h2
    show bindC kindOf ((p, w) :: P.zip vs) m p = _
    unfold bindC
    rw [bindC_out fun v hv => (List.nodup_cons.mp nd).1 (List.of_mem_zip hv).1, if_neg hk]
    simp
  | p :: P, w :: vs, i + 1, m, nd, h1, h2, hk => by
    show bindC kindOf ((p, w) :: P.zip vs) m x = _
    unfold bindC
    exact bindC_get (i := i) (List.nodup_cons.mp nd).2 (by simpa using h1) (by simpa using h2) hk
/-- the names' values at the entry -/
def start (N : List Str) (vs : List V) : St := vs.map some ++ List.replicate (N.length - vs.length) none
/-- the context of a def's body, at its entry; an exception leaves the frame, then lies as CX says -/
def cxOf (CX : CXT) (P : Program) (w : World) (K : PySem.W.Frag) (mg : Str → Option Value) (base : Heap) (N : List Str) (qual : Str) (scope : Scope) (f : Addr) (cd : Value) (A : Around) (outer : List Env) (s : Shared) (H : Hp) (E : XK) : Cx where
  prog := P
  w := w
  K := K
  mg := mg
  base := base
  A := A.deeper (envOfC qual scope s.heap.objs.size f cd)
  N := N
  s_0 := s
  H_0 := H
  env := envOfC qual scope s.heap.objs.size f cd
  outer := outer
  stack := envOfC qual scope s.heap.objs.size f cd :: outer
  ex := []
  calm := true
  fn := fun _ => true
  pn := []
  xe := fun e s' => wpAny (model P w) (A.deeper (envOfC qual scope s.heap.objs.size f cd)) (leaving (envOfC qual scope s.heap.objs.size f cd) e) (fun _ s'' => CX outer H s E e s'') (fun e' s'' => CX outer H s E e' s'') s'
theorem cell_has {sc : Scope} {n : Nat} {x : Str} (h : sc.names.lookup x = some .cell) : ∃ c, (cellsFrom n sc.names []).lookup x = some c := by
  have q := PySem.W.cellsFrom_some sc.names n [] (.inl h)
  exact Option.isSome_iff_exists.mp q
theorem inv_start {CX : CXT} {P : Program} {w : World} {K : PySem.W.Frag} {mg : Str → Option Value} {base : Heap} {N ps : List Str} {qual : Str} {scope : Scope} {f : Addr} {cd : Value} {A : Around} {outer : List Env} {s s1 : Shared} {H : Hp} {E : XK} {us : List Value} {vs : List V}
    (S : FnScope N ps scope) (hd : A.handled = none) (e0 : Env0 P w K mg base A outer s H) (hl : vs.length = ps.length) (r : Vals vs us)
    (x : InCallC s s.heap.objs.size (bindL (envOfC qual scope s.heap.objs.size f cd).kindOf (ps.zip us) fun _ => none) (cellsFrom (s.heap.objs.size + 1) scope.names []) (bindC (envOfC qual scope s.heap.objs.size f cd).kindOf (ps.zip us) fun _ => none) s1) :
    Inv (cxOf CX P w K mg base N qual scope f cd A outer s H E) [] (start N vs) H s1 := by
  have hpl : ps.length ≤ N.length := by have := congrArg List.length S.pre; rw [List.length_take] at this; omega
  obtain ⟨h1, tk, rfl, hk⟩ := x.done
  have noA : ∀ b : Addr, b ∉ (cxOf CX P w K mg base N qual scope f cd A outer s H E).ex := fun b z => absurd (show b ∈ ([] : List Addr) from z) (by simp)
  refine ⟨⟨e0.mod, S.kind, rfl, rfl, Nat.le_refl _, fun y z c h1 h2 => ?_, fun y hy => ?_, fun y c _ h => ?_, fun _ => hd, Around.frames_deeper e0.frames, .inr ⟨rfl, rfl⟩, fun b z => absurd z (noA b), e0.bs, e0.bsz, fun b _ _ => noA b, fun b z => absurd z (noA b), e0.funs, e0.frf⟩,
    rfl, e0.bare, Un.kept hk, ⟨_, x.toInCall.ns, fun i y v h1 h2 h3 => ?_⟩, fun y c h => ⟨_, x.cell y c h⟩, e0.hok.fresh (Nat.le_refl _), fun y c h => ?_, fun p hp => absurd (show p ∈ ([] : List (Addr × Obj)) from hp) (by simp), e0.hok.kept hk, ?_⟩
  · exact name_of_addr x.apart (PySem.mem_of_lookup h1) (PySem.mem_of_lookup h2)
  · have hy : scope.names.lookup y = some .cell ∨ scope.names.lookup y = some .free := hy
    rcases hy with hy | hy
    · exact cell_has hy
    · exact absurd rfl (S.nofree _ (PySem.mem_of_lookup hy))
  · exact Nat.le_of_lt (x.above y c (PySem.mem_of_lookup h))
  · have hi : i < vs.length := by
      unfold start at h2
      by_cases hi : i < vs.length
      · exact hi
      · rw [List.getElem?_append_right (by simpa using hi)] at h2
        rw [List.getElem?_replicate] at h2
        split at h2 <;> cases h2
    have ha : vs[i]? = some v := by
      unfold start at h2
      rw [List.getElem?_append_left (by simpa using hi), List.getElem?_map] at h2
      cases e : vs[i]? with
      | none => rw [e] at h2; cases h2
      | some a => rw [e] at h2; cases h2; rfl
    obtain ⟨u, hu, rv⟩ := r.get ha
    have hp : ps[i]? = some y := by
      rw [← S.pre, List.getElem?_take_of_lt (by omega)]; exact h1
    have ndP : ps.Nodup := by rw [← S.pre]; exact S.nd.sublist (List.take_sublist _ _)
    refine ⟨u, rv, ?_⟩
    rcases S.par y (List.mem_of_getElem? hp) with k | k
    · exact .inl ⟨k, bindL_get ndP hp hu k⟩
    · obtain ⟨c, e⟩ := cell_has (n := s.heap.objs.size + 1) k
      refine .inr ⟨.inl k, c, e, ?_⟩
      have q := x.cell y c e
      rw [bindC_get ndP hp hu (by show scope.names.lookup y ≠ _; rw [k]; decide)] at q
      exact q
  · exact e0.hok.fresh (Nat.le_of_lt (x.above y c (PySem.mem_of_lookup h)))
  · unfold start
    show _ = N.length
    rw [List.length_append, List.length_map, List.length_replicate]
    omega
/-- THE RULE: a def (or a method) of the text, by its body. The body's reading t is chosen for each entry; it is run at the parameters' values -/
theorem fn_of {CX : CXT} {P : Program} {w : World} {K : PySem.W.Frag} {mg : Str → Option Value} {base : Heap} {k : Nat} {f : Addr} {name qual : Str} {params : Arguments} {body : List Stmt} {scope : Scope} {dV kV doc pm cdv ct oc : Value} {an od : Option Addr}
    {osl : Array (Option Value)} {N ps : List Str} {sp : Sp} (lk : K.lookup f = some ⟨oc, od, .func (PySem.W.fnOf name qual params body scope dV kV doc pm an cdv ct), osl⟩) (hcd : PySem.W.codeIn K cdv qual = true) (S : FnScope N ps scope)
    (len : ∀ vs H Q E, sp vs H Q E → vs.length = ps.length)
    (hbody : ∀ (A : Around) (outer : List Env) (s : Shared) (H : Hp) (vs : List V) (Q : VK) (E : XK), Room k (A.deeper (envOfC qual scope s.heap.objs.size f cdv)) → sp vs H Q E →
      ∃ t, PSs (cxOf CX P w K mg base N qual scope f cdv A outer s H E) body t ∧ t { nx := fun _ H' => Q .non H', rt := Q } (start N vs) H) :
    FnOk P w K mg base CX (k + 1) f (PySem.W.fnOf name qual params body scope dV kV doc pm an cdv ct) ps sp := by
  refine ⟨len, fun A outer s H args us vs Q E hr e0 hb r hsp => ?_⟩
  have hl := len _ _ _ _ hsp
  have KX : K.In s.heap := e0.mod.kin.keeps fun b o e => (e0.bs b o e).1
  have lim : s.heap.NoLimit := e0.mod.nolimit.keeps fun b o e => (e0.bs b o e).1
  have hkind : ∀ y ∈ ps.zip us, scope.names.lookup y.1 = some .local ∨ (scope.names.lookup y.1 = some .cell ∧ ((cellsFrom (s.heap.objs.size + 1) scope.names []).lookup y.1).isSome = true) := fun ⟨n, v⟩ hy => by
    rcases S.par n (List.of_mem_zip hy).1 with q | q
    · exact .inl q
    · exact .inr ⟨q, PySem.W.cellsFrom_some _ _ _ (.inl q)⟩
  refine codeAny_call_function hr.depth (KX _ _ lk) rfl S.co S.gen rfl (PySem.W.codeRec_of KX hcd) (hb _ _ _ _ ?_)
  refine wpAny_newFunctionEnv_cells S.kind hkind fun env he s1 x => ?_
  subst he
  refine ⟨lim.keeps x.toInCall.keep, codeAny_func ?_⟩
  obtain ⟨t, ht, hq⟩ := hbody A outer s H vs Q E (hr.deeper _) hsp
  have I : Inv (cxOf CX P w K mg base N qual scope f cdv A outer s H E) [] (start N vs) H s1 := inv_start S hr.hd e0 hl r x
  refine wpAny_mono (ht [] s1 (start N vs) H _ I hq) (fun fl s' hs => ?_) fun e s' hs => hs
  have fin : ∀ {σ' : St} {H' : Hp} {v : V} {u : Value}, Inv (cxOf CX P w K mg base N qual scope f cdv A outer s H E) [] σ' H' s' → RelV v u → Q v H' → CE outer P w H s Q u s' :=
    fun {σ' H' v u} J rv q => ⟨v, H', J.os, J.bare, J.base, J.hok, rv, q⟩
  cases fl with
  | ret u =>
    obtain ⟨v, σ', H', J, rv, q⟩ := hs
    exact fin J rv q
  | next =>
    obtain ⟨σ', H', J, q⟩ := hs
    exact fin (v := V.non) (u := Value.none) J rfl q
  | brk =>
    obtain ⟨_, _, _, q⟩ := hs
    exact False.elim q
  | cont =>
    obtain ⟨_, _, _, q⟩ := hs
    exact False.elim q
end L2
namespace L2
open PySem PySem.Spec PyProof.Rows
section
variable {X : Cx} {x : Str} {p pos : Pos} {e : Expr} {es : List Expr} {t : TA} {id T : String} {r : List V → Hp → VK → Prop}
def tCB (r : List V → Hp → VK → Prop) (t : TA) : TE := fun σ H Q => t σ H fun vs H1 => r vs H1 Q
/-- f(e, ..), f a built-in function -/
theorem pe_callB (hc : CallR X (.builtin id) r) (hg : Gl X x) (hm : X.mg x = none) (hv : bootBuiltins x = some (.builtin id)) (ha : PA X (e :: es) t) (hn : x ≠ "__name__" := by decide) (hdb : (x == ("__debug__" : Str)) = false := by decide)
    (he : starEach (e :: es) X.env = (false, eval e X.env) :: starEach es X.env := by rfl) (hpl : (backTo pos (starEach es X.env)).any (·.1) = false := by rfl) : PE X (.Call (.Name x p) (e :: es) [] pos) (tCB r t) := by
  intro pins s σ H Q I h
  refine wpAny_Call_Name_kw (ld_blt I hg hm hv ?_ hn hdb)
  exact PyProof.Rows.callWith_builtin1 (thn (ha pos pins s σ H _ I h) fun us s1 ⟨vs, H1, I1, r1, q1⟩ => hc pins s1 σ H1 vs us Q I1 r1 q1) he hpl
/-- T(e, ..), T a built-in type -/
theorem pe_callTy (hc : CallR X (.type T) r) (hg : Gl X x) (hm : X.mg x = none) (hv : bootBuiltins x = some (.type T)) (ha : PA X (e :: es) t) (hn : x ≠ "__name__" := by decide) (hdb : (x == ("__debug__" : Str)) = false := by decide)
    (he : starEach (e :: es) X.env = (false, eval e X.env) :: starEach es X.env := by rfl) (hpl : (backTo pos (starEach es X.env)).any (·.1) = false := by rfl) : PE X (.Call (.Name x p) (e :: es) [] pos) (tCB r t) := by
  intro pins s σ H Q I h
  refine wpAny_Call_Name_kw (ld_blt I hg hm hv ?_ hn hdb)
  exact PyProof.Rows.callWith_type1 (thn (ha pos pins s σ H _ I h) fun us s1 ⟨vs, H1, I1, r1, q1⟩ => hc pins s1 σ H1 vs us Q I1 r1 q1) he hpl
end
end L2
namespace HT
open PySem PyProof.Rows
/-- t < u of tuples of ints -/
def lexLt : List Int → List Int → Bool
  | [], [] => false
  | [], _ :: _ => true
  | _ :: _, [] => false
  | x :: xs, y :: ys => if x = y then lexLt xs ys else decide (x < y)
section
open PySem.SeqAt
open PySem.AutoSeq1 (wpAny_loadPart')
open PySem.MeetsSeq PySem.MeetsSeq2 PySem.MeetsSeq3
end
section
variable {prog : Program} {w : World} {A : Around} {E : Value → Shared → Prop} {s : Shared}
/-! ### t[a:b], not the whole -/
/-- a slice's bound as a place among n (d where it is left out) -/
def sIx (n d : Nat) : Option Int → Nat
  | none => d
  | some v => if v < 0 then (v + (n : Int)).toNat else min v.toNat n
theorem sIx_nat (n d k : Nat) : sIx n d (some (k : Int)) = min k n := by
  show (if (k : Int) < 0 then ((k : Int) + (n : Int)).toNat else min (k : Int).toNat n) = min k n
  rw [if_neg (by omega), Int.toNat_natCast]
theorem sIx_le (n d : Nat) (hd : d ≤ n) (o : Option Int) : sIx n d o ≤ n := by
  cases o with
  | none => exact hd
  | some v =>
    show (if v < 0 then (v + (n : Int)).toNat else min v.toNat n) ≤ n
    by_cases hv : v < 0
    · rw [if_pos hv]; omega
    · rw [if_neg hv]; exact Nat.min_le_right _ _
theorem clip_eq (v : Int) (n d : Nat) : (if v < 0 then max (v + (n : Int)) 0 else min v (n : Int)) = ((sIx n d (some v) : Nat) : Int) := by
  show (if v < 0 then max (v + (n : Int)) 0 else min v (n : Int)) = (((if v < 0 then (v + (n : Int)).toNat else min v.toNat n) : Nat) : Int)
  by_cases hv : v < 0
  · simp only [if_pos hv]; omega
  · simp only [if_neg hv]; omega
theorem adjust_gen (lo hi : Option Int) (n : Nat) : Builtin.Slice.sliceAdjust lo hi 1 (n : Int) = (((sIx n 0 lo : Nat) : Int), ((sIx n n hi : Nat) : Int)) := by
  have h1 : ¬ ((1 : Int) < 0) := by omega
  unfold Builtin.Slice.sliceAdjust
  simp only [h1, if_false]
  refine Prod.ext ?_ ?_
  · cases lo with
    | none => rfl
    | some v => exact clip_eq v n 0
  · cases hi with
    | none => rfl
    | some v => exact clip_eq v n n
theorem places_gen (i j : Nat) : Builtin.Slice.slicePlaces (i : Int) (j : Int) 1 = j - i := by
  unfold Builtin.Slice.slicePlaces
  have h1 : (1 : Int) > 0 := by omega
  simp only [h1, if_true, Int.ediv_one]
  split <;> omega
theorem slicePart_ {v : Value} {o : Option Int} {Q : Option Int → Shared → Prop} (p : IsPart v o) (h : Q o s) : wpAny (model prog w) A (Builtin.Slice.slicePartIndex v) Q E s := by
  cases p with
  | none => exact slicePart_none h
  | int i t => exact slicePart_int h
theorem sliceApplied_gen {sl : Addr} {vl vu : Value} {lo hi : Option Int} {n : Nat} {Q : Int × Int × Nat → Shared → Prop} (hs : s.heap.IsSliceOf sl vl vu .none) (pl : IsPart vl lo) (pu : IsPart vu hi)
    (h : Q (((sIx n 0 lo : Nat) : Int), 1, sIx n n hi - sIx n 0 lo) s) : wpAny (model prog w) A (Builtin.Slice.sliceApplied (.ref sl) (pure (n : Int))) Q E s := by
  obtain ⟨os, hos, hcs, hds⟩ := id hs
  unfold Builtin.Slice.sliceApplied Builtin.Slice.sliceFields
  refine wpAny_bind (wpAny_bind (wpAny_field hos hds (x := vl) rfl (wpAny_bind (wpAny_field hos hds (x := vu) rfl (wpAny_bind (wpAny_field hos hds (x := .none) rfl (wpAny_pure ?_)))))))
  refine wpAny_bind (slicePart_none ?_)
  show wpAny _ _ (if ((1 : Int) == 0) = true then _ else _) _ _ s
  rw [if_neg (by decide)]
  refine wpAny_bind (slicePart_ pl (wpAny_bind (slicePart_ pu (wpAny_bind (wpAny_pure ?_)))))
  show wpAny _ _ (match Builtin.Slice.sliceAdjust lo hi 1 (n : Int) with | (lo, hi) => pure (lo, (1 : Int), Builtin.Slice.slicePlaces lo hi 1)) _ _ s
  rw [adjust_gen lo hi n]
  show wpAny _ _ (pure (((sIx n 0 lo : Nat) : Int), (1 : Int), Builtin.Slice.slicePlaces ((sIx n 0 lo : Nat) : Int) ((sIx n n hi : Nat) : Int) 1)) _ _ s
  rw [places_gen]
  exact wpAny_pure h
theorem pick_gen (xs : Array Value) (i k : Nat) : ((List.range k).filterMap fun (m : Nat) => xs[((i : Int) + (m : Int) * 1).toNat]?).toArray = ((xs.toList.drop i).take k).toArray := by
  have e : (fun (m : Nat) => xs[((i : Int) + (m : Int) * 1).toNat]?) = fun m => xs[i + m]? := by
    funext m
    have : ((i : Int) + (m : Int) * 1).toNat = i + m := by omega
    rw [this]
  rw [e]
  have := pick_run xs i k
  rw [List.filterMap_map] at this
  have e2 : ((fun x => xs[x]?) ∘ fun x => i + x) = fun m => xs[i + m]? := rfl
  rw [e2] at this
  rw [this]
theorem getItem_tuple_cut {t sl : Addr} {items : Array Value} {vl vu : Value} {lo hi : Option Int} {Q : Value → Shared → Prop} (ht : IsTup s.heap t items) (hs : s.heap.IsSliceOf sl vl vu .none) (pl : IsPart vl lo) (pu : IsPart vu hi)
    (hw : ¬ (sIx items.size 0 lo = 0 ∧ sIx items.size items.size hi = items.size))
    (h : Q (.ref s.heap.objs.size) { s with heap := s.heap.push { cls := .type "tuple", data := .seq ((items.toList.drop (sIx items.size 0 lo)).take (sIx items.size items.size hi - sIx items.size 0 lo)).toArray } })
    (hsz : items.size ≤ sizeLine) : wpAny (model prog w) A (getItem (.ref t) (.ref sl)) Q E s := by
  have htake : sizeOk (.seq ((items.toList.drop (sIx items.size 0 lo)).take (sIx items.size items.size hi - sIx items.size 0 lo)).toArray) := by
    show ((items.toList.drop (sIx items.size 0 lo)).take (sIx items.size items.size hi - sIx items.size 0 lo)).toArray.size ≤ sizeLine
    rw [List.size_toArray, List.length_take, List.length_drop, Array.length_toList]
    omega
  have hj : sIx items.size items.size hi ≤ items.size := sIx_le _ _ (Nat.le_refl _) hi
  obtain ⟨os, hos, hcs, hds⟩ := id hs
  have hTs : s.TypeIs (.ref sl) "slice" := ⟨os, hos, hcs⟩
  unfold getItem
  try with_reducible refine wpAny_holding ?_
  first | refine wpAny_bind (wpAny_pure ?_) | skip
  refine wpAny_bind (wpAny_sequenceKey ht.typeIs (by decide) ?_)
  refine wpAny_bind (wpAny_callSpecial?_slot (name := Str.ofString "__getitem__") ht.typeIs PyProof.Rows.slot_tuple_getitem
    (wpAny_call_entry PyProof.Rows.slot_tuple_getitem ht.typeIs entry_tuple_getitem ?_ (args_tuple_getitem _ _)))
  show wpAny _ _ (Builtin.Tuple.tupleItemsOf (.ref t) >>= _) _ _ s
  refine wpAny_bind (tupleItemsOf_ ht ?_)
  refine wpAny_bind (wpAny_typeOf hTs ?_)
  rw [if_pos (by decide)]
  refine wpAny_bind (sliceApplied_gen hs pl pu ?_)
  have hno : ¬ ((((sIx items.size 0 lo : Nat) : Int) == 0 && (1 : Int) == 1 && (sIx items.size items.size hi - sIx items.size 0 lo) == items.size) = true) := by
    intro q
    rw [Bool.and_eq_true, Bool.and_eq_true] at q
    have q1 : ((sIx items.size 0 lo : Nat) : Int) = 0 := eq_of_beq q.1.1
    have q2 : sIx items.size items.size hi - sIx items.size 0 lo = items.size := eq_of_beq q.2
    exact hw ⟨by omega, by omega⟩
  show wpAny _ _ (if (((sIx items.size 0 lo : Nat) : Int) == 0 && (1 : Int) == 1 && (sIx items.size items.size hi - sIx items.size 0 lo) == items.size) = true then _ else _) _ _ s
  rw [if_neg hno, pick_gen]
  first
    | exact wpAny_bind (m := Builtin.Tuple.tupleExact _) (wpAny_newObj_type (wpAny_pure ⟨_, rfl, wpAny_pure h⟩) htake)
    | exact wpAny_bind (m := Builtin.Tuple.tupleExact _) (wpAny_newObj_type (wpAny_bind (wpAny_pure (wpAny_pure ⟨_, rfl, wpAny_pure h⟩))) htake)
    | exact wpAny_bind (wpAny_bind (m := Builtin.Tuple.tupleExact _) (wpAny_newObj_type (wpAny_pure (wpAny_pure ⟨_, rfl, wpAny_pure h⟩)) htake))
    | exact wpAny_bind (wpAny_bind (m := Builtin.Tuple.tupleExact _) (wpAny_newObj_type (wpAny_pure ⟨_, rfl, wpAny_pure h⟩) htake))
end
end HT
namespace L2
open PySem PySem.Spec PyProof.Rows
/-! ### the parts of a slice -/
abbrev TO := St → Hp → (Option Int → Hp → Prop) → Prop
/-- a slice's part (left out, or an int) -/
def PO (X : Cx) (e : Option Expr) (t : TO) : Prop :=
  ∀ (pins : List (Addr × Obj)) (s : Shared) (σ : St) (H : Hp) (Q : Option Int → Hp → Prop), Inv X pins σ H s → t σ H Q →
    wpAny (model X.prog X.w) X.A (evalPart e X.env) (fun u s' => ∃ o H', Inv X pins σ H' s' ∧ IsPart u o ∧ Q o H') X.xe s
def tNoPart : TO := fun _ H Q => Q none H
def tPart (t : TE) : TO := fun σ H Q => t σ H fun x H1 => ∃ i, x = .int i ∧ Q (some i) H1
section
variable {X : Cx} {e : Expr} {te : TE} {lo hi : Option Expr} {tl th : TO} {pos p2 : Pos}
theorem po_some (h : PE X e te) : PO X (some e) (tPart te) := by
  intro pins s σ H Q I hw
  rw [evalPart_some]
  refine thn (h pins s σ H _ I hw) fun u s1 ⟨x, H1, I1, r1, q1⟩ => ?_
  obtain ⟨i, rfl, q⟩ := q1
  obtain ⟨t, rfl⟩ := r1
  exact ⟨some i, H1, I1, .int i t, q⟩
/-- what a slice of a value is, by values: the slice object stands at sl -/
def SlR (X : Cx) (r : V → Option Int → Option Int → Hp → VK → Prop) : Prop :=
  ∀ (pins : List (Addr × Obj)) (s : Shared) (σ : St) (H : Hp) (x : V) (v vl vu : Value) (lo hi : Option Int) (sl : Addr) (Q : VK), Inv X pins σ H s → RelV x v → s.heap.IsSliceOf sl vl vu .none → IsPart vl lo → IsPart vu hi → r x lo hi H Q →
    ∃ T id, typeLookup (.type T) "__getitem__" = pure (some (.builtin id)) ∧ s.TypeIs v T ∧ wpAny (model X.prog X.w) X.A (getItem v (.ref sl)) (EP X pins σ Q) X.xe s
theorem SlR.or {r r' : V → Option Int → Option Int → Hp → VK → Prop} (h : SlR X r) (h' : SlR X r') : SlR X (fun x lo hi H Q => r x lo hi H Q ∨ r' x lo hi H Q) := by
  intro pins s σ H x v vl vu lo hi sl Q I rx hs pl pu q
  rcases q with q | q
  · exact h pins s σ H x v vl vu lo hi sl Q I rx hs pl pu q
  · exact h' pins s σ H x v vl vu lo hi sl Q I rx hs pl pu q
def tSl (r : V → Option Int → Option Int → Hp → VK → Prop) (te : TE) (tl th : TO) : TE := fun σ H Q => te σ H fun x H1 => tl σ H1 fun l H2 => th σ H2 fun u H3 => r x l u H3 Q
/-- a[lo:hi], any a -/
theorem pe_slice {r : V → Option Int → Option Int → Hp → VK → Prop} (hr : SlR X r) (he : PE X e te) (hl : PO X lo tl) (hu : PO X hi th) : PE X (.Subscript e (.Slice lo hi none p2) pos) (tSl r te tl th) := by
  intro pins s σ H Q I h
  refine Subscript_ (thn (he pins s σ H _ I h) fun v s1 ⟨x, H1, I1, r1, q1⟩ => ?_)
  refine wpAny_Slice (thn (hl pins s1 σ H1 _ I1 q1) fun vl s2 ⟨l, H2, I2, pl, q2⟩ => thn (hu pins s2 σ H2 _ I2 q2) fun vu s3 ⟨u, H3, I3, pu, q3⟩ => ?_)
  rw [evalPart_none]
  refine wpAny_pure ?_
  have I4 : Inv X pins σ H3 { s3 with heap := s3.heap.push { cls := .type "slice", data := .fields #[vl, vu, .none] } } := I3.kept (t' := s3.toks) fun b ob q => Heap.get?_push_of_some _ q
  obtain ⟨T, id, hT, ht, hg⟩ := hr pins { s3 with heap := s3.heap.push { cls := .type "slice", data := .fields #[vl, vu, .none] } } σ H3 x v vl vu l u s3.heap.objs.size Q I4 r1 (Heap.IsSliceOf.new ..) pl pu q3
  show wpAny (model X.prog X.w) X.A (subscriptTail e (.Slice lo hi none p2) v (.ref s3.heap.objs.size)) (EP X pins σ Q) X.xe { s3 with heap := s3.heap.push { cls := .type "slice", data := .fields #[vl, vu, .none] } }
  exact tail_any (ops := [.ref s3.heap.objs.size, v]) ht hT hg (by with_unfolding_all rfl)
/-- the items of xs[lo:hi] -/
def cutV (xs : List V) (lo hi : Option Int) : List V := (xs.drop (HT.sIx xs.length 0 lo)).take (HT.sIx xs.length xs.length hi - HT.sIx xs.length 0 lo)
theorem cutV_length (xs : List V) (lo hi : Option Int) : (cutV xs lo hi).length ≤ xs.length := by
  unfold cutV
  rw [List.length_take, List.length_drop]
  omega
/-- t[lo:hi], not the whole of it (the whole would be t itself) -/
def rSlT (K : PySem.W.Frag) : V → Option Int → Option Int → Hp → VK → Prop := fun x lo hi H Q => ∃ a xs, x = .ref a ∧ SqT K H a xs ∧
  ¬ (HT.sIx xs.length 0 lo = 0 ∧ HT.sIx xs.length xs.length hi = xs.length) ∧ ∀ p, H p = none → Q (.ref p) (upd H p (.tup (cutV xs lo hi)))
theorem sl_tup : SlR X (rSlT X.K) := by
  intro pins s σ H x v vl vu lo hi sl Q I rx hs pl pu h
  obtain ⟨a, xs, rfl, hx, hw, q⟩ := h
  cases rx
  obtain ⟨its, r, ht, hz⟩ := I.tuple hx
  have hlen : its.toArray.size = xs.length := by rw [List.size_toArray]; exact r.length.symm
  refine ⟨"tuple", _, PyProof.Rows.slot_tuple_getitem.lookup, ht.typeIs, ?_⟩
  refine HT.getItem_tuple_cut ht hs pl pu (by rw [hlen]; exact hw) ?_ (by rw [hlen]; exact hz)
  rw [hlen]
  refine ⟨.ref s.heap.objs.size, _, I.laid (t' := s.toks) (o := .tup (cutV xs lo hi)) (fun b ob q => Heap.get?_push_of_some _ q) (Nat.le_refl _) ?_, rfl, q _ (I.hok.fresh (Nat.le_refl _))⟩
  exact ⟨Nat.le_trans (cutV_length xs lo hi) hz, _, (r.drop (HT.sIx xs.length 0 lo)).take (HT.sIx xs.length xs.length hi - HT.sIx xs.length 0 lo), IsTup.new _ _⟩
/-! ### t < u, t + u -/
def rLtT (K : PySem.W.Frag) : R2 := fun x y H Q => ∃ a b ns ms, x = .ref a ∧ y = .ref b ∧ SqT K H a (ns.map V.int) ∧ SqT K H b (ms.map V.int) ∧ Q (.bl (HT.lexLt ns ms)) H
/-- t + u, t not empty: u empty gives t itself -/
def rCatT (K : PySem.W.Frag) : R2 := fun x y H Q => ∃ a b xs ys, x = .ref a ∧ y = .ref b ∧ SqT K H a xs ∧ SqT K H b ys ∧ xs ≠ [] ∧ xs.length + ys.length ≤ sizeLine ∧
  (ys = [] → Q (.ref a) H) ∧ (ys ≠ [] → ∀ p, H p = none → Q (.ref p) (upd H p (.tup (xs ++ ys))))
end
end L2
namespace L2
open PySem PySem.Spec PyProof.Rows
/-! ### places -/
/-- the place that an index of any sign means -/
def ixN (n : Nat) (i : Int) : Option Nat := if 0 ≤ i then (if i < n then some i.toNat else none) else if -(n : Int) ≤ i then some (i + n).toNat else none
def atI {α : Type} (xs : List α) (i : Int) : Option α := (ixN xs.length i).bind fun j => xs[j]?
theorem ixN_seq {n : Nat} {i : Int} {j : Nat} (h : ixN n i = some j) : seqIndex? i n = some j ∧ j < n ∧ -(n : Int) ≤ i ∧ i < n := by
  unfold ixN at h
  by_cases h0 : 0 ≤ i
  · rw [if_pos h0] at h
    by_cases h1 : i < n
    · rw [if_pos h1] at h
      have e : i.toNat = j := Option.some.inj h
      exact ⟨by rw [seqIndex_of h0 h1, e], by omega, by omega, h1⟩
    · rw [if_neg h1] at h; cases h
  · rw [if_neg h0] at h
    by_cases h1 : -(n : Int) ≤ i
    · rw [if_pos h1] at h
      have e : (i + n).toNat = j := Option.some.inj h
      exact ⟨by rw [seqIndex_neg (by omega) h1, e], by omega, h1, by omega⟩
    · rw [if_neg h1] at h; cases h
theorem atI_get {α : Type} {xs : List α} {i : Int} {v : α} (h : atI xs i = some v) : ∃ j, seqIndex? i xs.length = some j ∧ xs[j]? = some v ∧ j < xs.length ∧ -(xs.length : Int) ≤ i ∧ i < xs.length := by
  unfold atI at h
  cases e : ixN xs.length i with
  | none => rw [e] at h; cases h
  | some j =>
    rw [e] at h
    obtain ⟨h1, h2, h3, h4⟩ := ixN_seq e
    exact ⟨j, h1, h, h2, h3, h4⟩
theorem atI_nat {α : Type} {xs : List α} {j : Nat} {v : α} (h : xs[j]? = some v) : atI xs (j : Int) = some v := by
  have hj : j < xs.length := (List.getElem?_eq_some_iff.mp h).1
  have e : ixN xs.length (j : Int) = some j := by
    unfold ixN
    rw [if_pos (by omega), if_pos (by omega)]; simp
  unfold atI; rw [e]; exact h
/-! ### what may be subscripted -/
/-- what stands as an index of a plain subscript -/
def PlainIx (b : Expr) : Prop := ∀ o i, subscripted b false o i = operate [o, i] (getItem o i)
/-- a subscript by values -/
def IxR (X : Cx) (r : R2) : Prop :=
  ∀ (value slice : Expr) (pins : List (Addr × Obj)) (s : Shared) (σ : St) (H : Hp) (x y : V) (v u : Value) (Q : VK), Inv X pins σ H s → RelV x v → RelV y u → r x y H Q →
    subscripted slice false v u = operate [v, u] (getItem v u) → wpAny (model X.prog X.w) X.A (subscriptTail value slice v u) (EP X pins σ Q) X.xe s
/-- a call of a builtin's method by values: the receiver, the arguments -/
def MtR (X : Cx) (id : String) (r : V → List V → Hp → VK → Prop) : Prop :=
  ∀ (pins : List (Addr × Obj)) (s : Shared) (σ : St) (H : Hp) (x : V) (xs : List V) (v : Value) (us : List Value) (Q : VK), Inv X pins σ H s → RelV x v → Vals xs us → r x xs H Q →
    wpAny (model X.prog X.w) X.A (call (.builtin id) (v :: us)) (EP X pins σ Q) X.xe s
section
variable {X : Cx} {a b : Expr} {ta tb : TE} {pos : Pos}
theorem IxR.or {r r' : R2} (h : IxR X r) (h' : IxR X r') : IxR X (fun x y H Q => r x y H Q ∨ r' x y H Q) := by
  intro value slice pins s σ H x y v u Q I rx ry q hs
  rcases q with q | q
  · exact h value slice pins s σ H x y v u Q I rx ry q hs
  · exact h' value slice pins s σ H x y v u Q I rx ry q hs
theorem MtR.or {id : String} {r r' : V → List V → Hp → VK → Prop} (h : MtR X id r) (h' : MtR X id r') : MtR X id (fun x xs H Q => r x xs H Q ∨ r' x xs H Q) := by
  intro pins s σ H x xs v us Q I rx rs q
  rcases q with q | q
  · exact h pins s σ H x xs v us Q I rx rs q
  · exact h' pins s σ H x xs v us Q I rx rs q
/-- a[b] -/
theorem pe_ix {r : R2} (hr : IxR X r) (ha : PE X a ta) (hb : PE X b tb) (hs : PlainIx b) : PE X (.Subscript a b pos) (tOp r ta tb) := by
  intro pins s σ H Q I h
  exact Subscript_ (binT ha hb I h fun v u s2 x y H2 I2 rx ry q => hr a b pins s2 σ H2 x y v u Q I2 rx ry q (hs _ _))
def rIxL (K : PySem.W.Frag) : R2 := fun x y H Q => ∃ p xs i v, x = .ref p ∧ y = .int i ∧ SqL K H p xs ∧ atI xs i = some v ∧ Q v H
def rIxT (K : PySem.W.Frag) : R2 := fun x y H Q => ∃ p xs i v, x = .ref p ∧ y = .int i ∧ SqT K H p xs ∧ atI xs i = some v ∧ Q v H
def rIxS : R2 := fun x y H Q => ∃ z i c, x = .str z ∧ y = .int i ∧ z.length ≤ sizeLine ∧ atI z.cps.toList i = some c ∧ Q (.str ⟨#[c]⟩) H
theorem ix_list : IxR X (rIxL X.K) := by
  intro value slice pins s σ H x y v u Q I rx ry h hs
  obtain ⟨p, xs, i, z, rfl, rfl, hq, he, q⟩ := h
  cases rx
  obtain ⟨t, rfl⟩ := ry
  obtain ⟨its, r, pl, hz⟩ := I.list hq
  obtain ⟨j, h1, h2, h3, h4, h5⟩ := atI_get he
  obtain ⟨w, ew, rw'⟩ := r.get h2
  have hl := r.length
  have hn := line63
  have fin : EP X pins σ Q w s := ⟨z, H, I, rw', q⟩
  by_cases h0 : 0 ≤ i
  · have hj : i.toNat = j := by
      rw [seqIndex_of h0 h5] at h1
      exact Option.some.inj h1
    exact item_listR pl.isList h0 (by omega) (by rw [hj]; simpa using ew) fin hs
  · have hj : (i + (its.toArray.size : Int)).toNat = j := by
      rw [seqIndex_neg (by omega) h4] at h1
      rw [List.size_toArray, ← hl]
      exact Option.some.inj h1
    exact subscriptTail_builtinR (x := w) pl.isList.typeIs slot_list_getitem.lookup
      (wpAny_getItem_list_neg (Q := fun r s' => r = w ∧ EP X pins σ Q r s') pl.isList (by omega) (by rw [List.size_toArray] <;> omega) (by omega) (by rw [hj]; simpa using ew) ⟨rfl, fin⟩) hs
theorem ix_tup : IxR X (rIxT X.K) := by
  intro value slice pins s σ H x y v u Q I rx ry h hs
  obtain ⟨p, xs, i, z, rfl, rfl, hq, he, q⟩ := h
  cases rx
  obtain ⟨t, rfl⟩ := ry
  obtain ⟨its, r, pl, hz⟩ := I.tuple hq
  obtain ⟨j, h1, h2, h3, h4, h5⟩ := atI_get he
  obtain ⟨w, ew, rw'⟩ := r.get h2
  have hl := r.length
  have hn := line63
  have fin : EP X pins σ Q w s := ⟨z, H, I, rw', q⟩
  exact subscriptTail_builtinR (x := w) pl.typeIs slot_tuple_getitem.lookup
    (getItem_tuple (j := j) (Q := fun r s' => r = w ∧ EP X pins σ Q r s') pl (by omega) (by omega) (by rw [List.size_toArray, ← hl]; exact h1) (by simpa using ew) ⟨rfl, fin⟩) hs
/-- list, tuple or str -/
def rIx (K : PySem.W.Frag) : R2 := fun x y H Q => rIxL K x y H Q ∨ rIxT K x y H Q ∨ rIxS x y H Q
/-! ### xs[i] = v, any sign -/
/-- the list's object behind a store -/
theorem mapSeq_set (its : List Value) (n j : Nat) (u : Value) : Obj.mapSeq (·.setIfInBounds j u) { cls := .type "list", data := .seq its.toArray n } = { cls := .type "list", data := .seq (its.set j u).toArray n } := by
  simp [Obj.mapSeq]
theorem Inv.lst {pins : List (Addr × Obj)} {σ : St} {H : Hp} {s : Shared} {p : Addr} {xs : List V} (I : Inv X pins σ H s) (h : H p = some (.lst xs)) :
    ∃ (its : List Value) (n : Nat), Vals xs its ∧ s.heap.get? p = some { cls := .type "list", data := .seq its.toArray n } ∧ xs.length ≤ sizeLine := by
  obtain ⟨z, its, n, r, e⟩ := I.hok p _ h
  exact ⟨its, n, r, e, z⟩
/-- the list at p is written by an update of its object -/
theorem Inv.lstUpd {pins : List (Addr × Obj)} {σ : St} {H : Hp} {s : Shared} {p : Addr} {xs ys : List V} {its its' : List Value} {n n' : Nat} {f : Obj → Obj} (I : Inv X pins σ H s) (h : H p = some (.lst xs))
    (ho : s.heap.get? p = some { cls := .type "list", data := .seq its.toArray n }) (hf : f { cls := .type "list", data := .seq its.toArray n } = { cls := .type "list", data := .seq its'.toArray n' }) (r : Vals ys its') (hz : ys.length ≤ sizeLine) (t : Nat) :
    Inv X pins σ (upd H p (.lst ys)) { s with heap := s.heap.update p f, toks := t } := by
  have e : (s.heap.update p f).get? p = some { cls := .type "list", data := .seq its'.toArray n' } := by
    rw [Heap.get?_update_self f ho (by rw [hf] <;> rfl), hf]
  refine I.write (x := p) (e := p) (by rw [h]; trivial) (.inl rfl) (fun b u hb q => (Heap.get?_update_other _ _ (Ne.symm hb)).trans q) ⟨_, e⟩ ?_
  exact ⟨hz, its', n', r, e⟩
def rSetL : V → V → V → Hp → (Hp → Prop) → Prop := fun o i v H Q => ∃ p xs k j, o = .ref p ∧ i = .int k ∧ H p = some (.lst xs) ∧ ixN xs.length k = some j ∧ Q (upd H p (.lst (xs.set j v)))
theorem set_list : PSet X rSetL := by
  intro pins s σ H o i v ov iv u Q I ro ri rv h
  obtain ⟨p, xs, k, j, rfl, rfl, hp, hj, q⟩ := h
  cases ro
  obtain ⟨t, rfl⟩ := ri
  obtain ⟨its, n, r, ho, hz⟩ := I.lst hp
  obtain ⟨h1, h2, h3, h4⟩ := ixN_seq hj
  have hl := r.length
  have hn := line63
  have I' : Inv X pins σ (upd H p (.lst (xs.set j v))) { s with heap := s.heap.update p (Obj.mapSeq (·.setIfInBounds j u)) } :=
    I.lstUpd hp ho (mapSeq_set its n j u) (r.set rv j) (by rw [List.length_set]; exact hz) s.toks
  by_cases h0 : 0 ≤ k
  · have hk : k.toNat = j := by
      rw [seqIndex_of h0 h4] at h1
      exact Option.some.inj h1
    exact PySem.W.ki_setAt ho h0 (by omega) (by rw [List.size_toArray, ← hl]; exact h4) (by rw [hk]; exact ⟨_, I', q⟩)
  · have hk : (k + (its.toArray.size : Int)).toNat = j := by
      rw [seqIndex_neg (by omega) h3] at h1
      rw [List.size_toArray, ← hl]
      exact Option.some.inj h1
    exact PySem.W.ki_setBack ho (by omega) (by rw [List.size_toArray, ← hl]; exact h3) (by omega) (by rw [hk]; exact ⟨_, I', q⟩)
/-! ### slices -/
theorem slice_bounds (lo hi : Option Int) (n : Nat) : (sliceBounds lo hi none n).1 = ((HT.sIx n 0 lo : Nat) : Int) ∧ (sliceBounds lo hi none n).2.1 = ((HT.sIx n n hi : Nat) : Int) ∧ (sliceBounds lo hi none n).2.2 = 1 := by
  refine ⟨?_, ?_, rfl⟩
  · cases lo with
    | none => simp [sliceBounds, HT.sIx]
    | some i =>
      simp only [sliceBounds, HT.sIx, Option.getD_none, show (1 : Int) > 0 by decide, if_true]
      by_cases h : i < 0
      · simp only [h, if_true] <;> omega
      · simp only [h, if_false] <;> omega
  · cases hi with
    | none => simp [sliceBounds, HT.sIx]
    | some i =>
      simp only [sliceBounds, HT.sIx, Option.getD_none, show (1 : Int) > 0 by decide, if_true]
      by_cases h : i < 0
      · simp only [h, if_true] <;> omega
      · simp only [h, if_false] <;> omega
theorem slicePick_cut (its : List Value) (lo hi : Option Int) : slicePick its.toArray lo hi none = ((its.drop (HT.sIx its.length 0 lo)).take (HT.sIx its.length its.length hi - HT.sIx its.length 0 lo)).toArray := by
  obtain ⟨h1, h2, h3⟩ := slice_bounds lo hi its.toArray.size
  unfold slicePick
  rw [h1, h2, h3]
  simp only [sliceRange_one, pick_run, List.size_toArray] <;> rfl
/-- xs[lo:hi] of a list: a new list -/
def rSlL (K : PySem.W.Frag) : V → Option Int → Option Int → Hp → VK → Prop := fun x lo hi H Q => ∃ a xs, x = .ref a ∧ SqL K H a xs ∧ ∀ p, H p = none → Q (.ref p) (upd H p (.lst (cutV xs lo hi)))
theorem sl_list : SlR X (rSlL X.K) := by
  intro pins s σ H x v vl vu lo hi sl Q I rx hs pl pu h
  obtain ⟨a, xs, rfl, hx, q⟩ := h
  cases rx
  obtain ⟨its, r, ht, hz⟩ := I.list hx
  have hlen := r.length
  refine ⟨"list", _, slot_list_getitem.lookup, ht.isList.typeIs, ?_⟩
  refine wpAny_getItem_list_slice ht.isList hs pl pu .none (by simp) ?_ (by rw [List.size_toArray] <;> omega)
  rw [slicePick_cut, ← hlen]
  refine ⟨.ref s.heap.objs.size, _, I.laid (t' := s.toks) (o := .lst (cutV xs lo hi)) (fun b ob q => Heap.get?_push_of_some _ q) (Nat.le_refl _) ?_, rfl, q _ (I.hok.fresh (Nat.le_refl _))⟩
  exact ⟨Nat.le_trans (cutV_length xs lo hi) hz, _, 0, (r.drop (HT.sIx xs.length 0 lo)).take (HT.sIx xs.length xs.length hi - HT.sIx xs.length 0 lo), Heap.get?_push_size _ rfl⟩
/-! ### in, not in: flat items -/
def flatV : V → Bool
  | .non => true
  | .bl _ => true
  | .int _ => true
  | .str _ => true
  | _ => false
/-- == of flat values -/
def eqV : V → V → Bool
  | .non, .non => true
  | .bl a, .bl b => a == b
  | .bl a, .int b => (if a then 1 else 0) == b
  | .int a, .bl b => a == (if b then 1 else 0)
  | .int a, .int b => a == b
  | .str a, .str b => a == b
  | _, _ => false
/-- the items' answers, read off the values (a value's own answer does not lean on its token) -/
def eqU (x : V) (u : Value) : Bool := match u with
  | .none => eqV .non x
  | .bool b => eqV (.bl b) x
  | .int i _ => eqV (.int i) x
  | .str z _ => eqV (.str z) x
  | _ => false
def inV (x : V) (xs : List V) : Bool := xs.any fun y => eqV y x
/-- x in a list or tuple of flat items -/
def rIn (K : PySem.W.Frag) (neg : Bool) : R2 := fun x y H Q => ∃ p xs, y = .ref p ∧ (SqL K H p xs ∨ SqT K H p xs) ∧ flatV x = true ∧ xs.all flatV = true ∧ Q (.bl (if neg then !inV x xs else inV x xs)) H
/-! ### len, list(x), tuple(x) of any list or tuple that is read -/
theorem call_len_seq : CallR X (.builtin "len") (fun xs H Q => ∃ p ys, xs = [.ref p] ∧ (SqL X.K H p ys ∨ SqT X.K H p ys) ∧ Q (.int ys.length) H) := by
  intro pins s σ H xs us Q I r h
  obtain ⟨p, ys, rfl, hq, q⟩ := h
  obtain ⟨u, rfl, rx⟩ := vals1 r
  cases rx
  have hn := line63
  rcases hq with hq | hq
  · obtain ⟨its, r', pl, hz⟩ := I.list hq
    have hlen := r'.length
    exact Calls.call_len_list pl.isList (by simp only [List.size_toArray] <;> omega) ⟨.int ys.length, H, I.tok _, ⟨s.toks + 1, by rw [List.size_toArray, hlen]⟩, q⟩
  · obtain ⟨its, r', pl, hz⟩ := I.tuple hq
    have hlen := r'.length
    exact len_tuple pl (by simp only [List.size_toArray] <;> omega) ⟨.int ys.length, H, I.tok _, ⟨s.toks + 1, by rw [List.size_toArray, hlen]⟩, q⟩
theorem CallR.or {f : Value} {r r' : List V → Hp → VK → Prop} (h : CallR X f r) (h' : CallR X f r') : CallR X f (fun xs H Q => r xs H Q ∨ r' xs H Q) := by
  intro pins s σ H xs us Q I rs q
  rcases q with q | q
  · exact h pins s σ H xs us Q I rs q
  · exact h' pins s σ H xs us Q I rs q
theorem call_tuple_of : CallR X (.type "tuple") (fun xs H Q => ∃ p ys, xs = [.ref p] ∧ ((SqL X.K H p ys ∧ ∀ l, H l = none → Q (.ref l) (upd H l (.tup ys))) ∨ (SqT X.K H p ys ∧ Q (.ref p) H))) := by
  intro pins s σ H xs us Q I r h
  obtain ⟨p, ys, rfl, h⟩ := h
  obtain ⟨u, rfl, rx⟩ := vals1 r
  cases rx
  rcases h with ⟨hq, q⟩ | ⟨hq, q⟩
  · obtain ⟨its, r', pl, hz⟩ := I.list hq
    have hlen := r'.length
    refine call_tuple_list pl.isList (fun h' kp => ?_) (by simp only [List.size_toArray] <;> omega)
    have I1 : Inv X pins σ H { s with heap := h' } := I.kept (t' := s.toks) kp
    have I2 : Inv X pins σ (upd H h'.objs.size (.tup ys)) { s with heap := h'.push { cls := .type "tuple", data := .seq its.toArray } } :=
      I1.laid (t' := s.toks) (fun b o e => Heap.get?_push_of_some _ e) (Nat.le_refl _) (show ObjOk X.prog X.w _ _ _ (.tup ys) from ⟨hz, its, r', IsTup.new _ _⟩)
    exact ⟨.ref h'.objs.size, _, I2, rfl, q _ (I1.hok.fresh (Nat.le_refl _))⟩
  · obtain ⟨its, r', pl, hz⟩ := I.tuple hq
    exact call_tuple_same pl ⟨.ref p, H, I, rfl, q⟩
/-! ### the call of a builtin's method: o.m(..) -/
/-- the value is of that builtin type -/
def tyV (K : PySem.W.Frag) (T : String) (x : V) (H : Hp) : Prop := match x with
  | .str _ => T = "str"
  | .int _ => T = "int"
  | .ref p => (T = "list" ∧ ∃ xs, SqL K H p xs) ∨ (T = "tuple" ∧ ∃ o, K.lookup p = some o ∧ o.cls = .type "tuple" ∧ o.dict = none) ∨
      (T = "dict" ∧ ((∃ kvs, H p = some (.dK kvs)) ∨ ∃ kvs, H p = some (.dT kvs))) ∨ (T = "set" ∧ ∃ S n, H p = some (.set S n))
  | _ => False
theorem tyV_is {pins : List (Addr × Obj)} {σ : St} {H : Hp} {s : Shared} {T : String} {x : V} {v : Value} (I : Inv X pins σ H s) (r : RelV x v) (ty : tyV X.K T x H) :
    s.TypeIs v T ∧ ∀ a, v = .ref a → ∃ ob, s.heap.get? a = some ob ∧ ob.dict = none := by
  cases x with
  | str z =>
    obtain ⟨t, rfl⟩ := r
    cases (show T = "str" from ty)
    exact ⟨typeIs_str s z t, fun _ e => nomatch e⟩
  | int i =>
    obtain ⟨t, rfl⟩ := r
    cases (show T = "int" from ty)
    exact ⟨typeIs_int s i t, fun _ e => nomatch e⟩
  | ref p =>
    cases r
    rcases ty with ⟨rfl, xs, hq⟩ | ⟨rfl, o, hk, hc, hd⟩ | ⟨rfl, hk⟩ | ⟨rfl, S, n, hk⟩
    · obtain ⟨its, _, pl, _⟩ := I.list hq
      refine ⟨pl.isList.typeIs, fun a e => ?_⟩
      cases e
      obtain ⟨o, n, e, c, hd, _⟩ := pl
      exact ⟨o, e, hd⟩
    · refine ⟨⟨o, I.kIn p o hk, hc⟩, fun a e => ?_⟩
      cases e
      exact ⟨o, I.kIn _ o hk, hd⟩
    · have z : ∃ o, s.heap.get? p = some o ∧ o.ExactDict := by
        rcases hk with ⟨kvs, hk⟩ | ⟨kvs, hk⟩
        · obtain ⟨_, _, _, _, o, _, _, e, ex, _⟩ := I.hok p _ hk
          exact ⟨o, e, ex⟩
        · obtain ⟨_, _, _, _, o, _, _, e, ex, _⟩ := I.hok p _ hk
          exact ⟨o, e, ex⟩
      obtain ⟨o, e, ex⟩ := z
      refine ⟨⟨o, e, ex.1⟩, fun a e2 => ?_⟩
      cases e2
      exact ⟨o, e, ex.2.1⟩
    · obtain ⟨o, _, _, _, e, ex, _⟩ := I.hok p _ hk
      refine ⟨⟨o, e, ex.1⟩, fun a e2 => ?_⟩
      cases e2
      exact ⟨o, e, ex.2.1⟩
  | _ => exact False.elim ty
def tBM0 (K : PySem.W.Frag) (T : String) (r : V → List V → Hp → VK → Prop) (to : TE) : TE := fun σ H Q => to σ H fun x H1 => tyV K T x H1 ∧ r x [] H1 Q
def tBM (K : PySem.W.Frag) (T : String) (r : V → List V → Hp → VK → Prop) (to : TE) (t : TA) : TE := fun σ H Q => to σ H fun x H1 => tyV K T x H1 ∧ t σ H1 fun xs H2 => r x xs H2 Q
variable {o e : Expr} {es : List Expr} {to : TE} {t : TA} {name : Str} {apos cpos : Pos} {T id : String} {r : V → List V → Hp → VK → Prop}
theorem pe_bm (pa : PlainAttrs T) (slot : Slot T name id) (hty : typeOf (.builtin id) = pure (.type "method_descriptor")) (hm : MtR X id r) (ho : PE X o to) (ha : PA X (e :: es) t)
    (hbase : attributeBase o name X.env (eval o X.env) = eval o X.env := by rfl)
    (hfew : ((backTo cpos (starEach (e :: es) X.env)).all (fun x => !x.1) && (backToKw cpos (keywordEach [] X.env)).all (fun x => x.1.isSome)
      && decide ((e :: es).length + ([] : List Keyword).length + (if ([] : List Keyword).isEmpty then 0 else 1) < 30)) = true := by rfl)
    (hline : (apos.endLine == cpos.line) = true := by rfl) (hs : starEach (e :: es) X.env = (false, eval e X.env) :: starEach es X.env := by rfl) (hplain : (backTo cpos (starEach es X.env)).any (·.1) = false := by rfl) :
    PE X (.Call (.Attribute o name apos) (e :: es) [] cpos) (tBM X.K T r to t) := by
  intro pins s σ H Q I h
  refine wpAny_Call_method_late hbase hfew hline rfl (thn (ho pins s σ H _ I h) fun v s1 ⟨x, H1, I1, r1, ty, q1⟩ => ?_)
  obtain ⟨h1, h2⟩ := tyV_is I1 r1 ty
  refine ⟨T, id, pa, slot, hty, h1, h2, ?_⟩
  have hA := ha cpos pins s1 σ H1 _ I1 q1
  rw [hs] at hA ⊢
  refine Calls.callWith_builtin (by show (false || (backTo cpos (starEach es X.env)).any (·.1)) = false; rw [hplain] <;> rfl) (Calls.evalArgs_plain ?_)
  exact thn hA fun us s2 ⟨vs, H2, I2, r2, q2⟩ => hm pins s2 σ H2 x vs v us Q I2 r1 r2 q2
/- xs.append(e), list.index on a module's tuple .. are MtR facts of 06m -/
end
end L2
namespace L2
open PySem PySem.Spec PyProof.Rows
def MtM (X : Cx) (id : String) (r : V → List V → Hp → VK → Prop) : Prop :=
  ∀ (pins : List (Addr × Obj)) (s : Shared) (σ : St) (H : Hp) (x : V) (xs : List V) (v : Value) (us : List Value) (Q : VK), Inv X pins σ H s → RelV x v → Vals xs us → r x xs H Q →
    wpAny (model X.prog X.w) X.A (call (.builtin id) (v :: us)) (EP X pins σ Q) X.xe s
/-! ### lists of values -/
theorem Vals.one : ∀ {x : V} {us : List Value}, Vals [x] us → ∃ u, us = [u] ∧ RelV x u
  | _, _, .cons r .nil => ⟨_, rfl, r⟩
theorem Vals.two : ∀ {x y : V} {us : List Value}, Vals [x, y] us → ∃ u v, us = [u, v] ∧ RelV x u ∧ RelV y v
  | _, _, _, .cons r (.cons q .nil) => ⟨_, _, rfl, r, q⟩
theorem Vals.zero : ∀ {us : List Value}, Vals [] us → us = []
  | _, .nil => rfl
theorem Vals.dropLast {xs : List V} {us : List Value} (h : Vals xs us) : Vals xs.dropLast us.dropLast := by
  induction h with
  | nil => exact .nil
  | cons r t ih =>
    cases t with
    | nil => exact .nil
    | cons q t' => exact .cons r ih
theorem Vals.eraseIdx : ∀ {xs : List V} {us : List Value} (i : Nat), Vals xs us → Vals (xs.eraseIdx i) (us.eraseIdx i)
  | _, _, _, .nil => .nil
  | _, _, 0, .cons _ t => t
  | _, _, i + 1, .cons r t => .cons r (Vals.eraseIdx i t)
theorem Vals.reverse {xs : List V} {us : List Value} (h : Vals xs us) : Vals xs.reverse us.reverse := by
  induction h with
  | nil => exact .nil
  | cons r t ih => rw [List.reverse_cons, List.reverse_cons]; exact Vals.append ih (.cons r .nil)
theorem Vals.rep {xs : List V} {us : List Value} (h : Vals xs us) : ∀ k : Nat, Vals (List.replicate k xs).flatten (List.replicate k us).flatten
  | 0 => .nil
  | k + 1 => by
    rw [List.replicate_succ, List.replicate_succ, List.flatten_cons, List.flatten_cons]
    exact Vals.append h (Vals.rep h k)
theorem foldl_rep (its : List Value) : ∀ (k : Nat) (acc : List Value),
    List.foldl (fun x1 x2 => x1 ++ x2) acc.toArray (List.replicate k its.toArray) = (acc ++ (List.replicate k its).flatten).toArray
  | 0, acc => by simp
  | k + 1, acc => by
    have e : acc.toArray ++ its.toArray = (acc ++ its).toArray := by simp
    have e2 : (acc ++ its) ++ (List.replicate k its).flatten = acc ++ (List.replicate (k + 1) its).flatten := by
      rw [List.replicate_succ, List.flatten_cons, List.append_assoc]
    rw [← e2, ← foldl_rep its k (acc ++ its), ← e, List.replicate_succ, List.foldl_cons]
section
variable {X : Cx} {pins : List (Addr × Obj)} {σ : St} {H : Hp} {s : Shared} {l b : Addr} {xs ys zs : List V}
/-! ### the two steps: a tracked list is rewritten, a new list is laid -/
theorem Inv.lset {its its' : List Value} {n : Nat} {f : Array Value → Array Value} {t' : Nat} (I : Inv X pins σ H s) (hH : H l = some (.lst xs))
    (e : s.heap.get? l = some { cls := .type "list", data := .seq its.toArray n }) (hf : f its.toArray = its'.toArray) (hv : Vals ys its') (hz : ys.length ≤ sizeLine) :
    Inv X pins σ (upd H l (.lst ys)) { s with heap := s.heap.update l (Obj.mapSeq f), toks := t' } := by
  have q := PySem.IsL.update e f
  rw [hf] at q
  refine I.write (x := l) (e := l) (by rw [hH]; exact trivial) (.inl rfl) (fun b' u hb hu => (Heap.get?_update_other s.heap (Obj.mapSeq f) (Ne.symm hb)).trans hu) ⟨_, q⟩ ?_
  exact ⟨hz, its', _, hv, q⟩
theorem Inv.lnew {its : List Value} {t' : Nat} (I : Inv X pins σ H s) (hv : Vals ys its) (hz : ys.length ≤ sizeLine) :
    Inv X pins σ (upd H s.heap.objs.size (.lst ys)) { s with heap := s.heap.push { cls := .type "list", data := .seq its.toArray }, toks := t' } :=
  I.laid (fun _ _ q => Heap.get?_push_of_some _ q) (Nat.le_refl _) ⟨hz, its, 0, hv, Heap.get?_push_size _ rfl⟩
theorem Inv.fresh (I : Inv X pins σ H s) : H s.heap.objs.size = none := I.hok.fresh (Nat.le_refl _)
theorem Inv.lstM (I : Inv X pins σ H s) (hH : H l = some (.lst xs)) : xs.length ≤ sizeLine ∧ ∃ (its : List Value) (n : Nat), Vals xs its ∧ xs.length = its.length ∧ s.heap.get? l = some { cls := .type "list", data := .seq its.toArray n } := by
  obtain ⟨z, its, n, r, e⟩ := I.hok l _ hH
  exact ⟨z, its, n, r, r.length, e⟩
theorem notLongL {n : Nat} (h : n ≤ sizeLine) : Builtin.List.listTooLong n = false := by
  unfold Builtin.List.listTooLong
  exact decide_eq_false (by omega)
end
section
variable {X : Cx}
/-! ### methods -/
def rAppend : V → List V → Hp → VK → Prop := fun x vs H Q => ∃ l xs y, x = .ref l ∧ vs = [y] ∧ H l = some (.lst xs) ∧ xs.length < sizeLine ∧ Q .non (upd H l (.lst (xs ++ [y])))
theorem mt_append : MtM X "list.append" rAppend := by
  intro pins s σ H x vs v us Q I rx rv h
  obtain ⟨l, xs, y, rfl, rfl, hH, hz, q⟩ := h
  cases rx
  obtain ⟨u, rfl, ru⟩ := rv.one
  obtain ⟨z, its, n, r, hl, e⟩ := I.lstM hH
  refine call_meets F.slot_list_append ⟨_, e, rfl⟩ F.entry_list_append (F.args_list_append_2 _ _) (PySem.list_append l its.toArray n u (by rw [List.size_toArray]; omega)) ⟨e, ?_⟩
  refine ⟨.non, _, I.lset (its' := its ++ [u]) hH e (by simp) (r.append (.cons ru .nil)) ?_, rfl, q⟩
  rw [List.length_append, List.length_singleton]
  omega
def rExtend : V → List V → Hp → VK → Prop := fun x vs H Q => ∃ l b xs zs, x = .ref l ∧ vs = [.ref b] ∧ H l = some (.lst xs) ∧ H b = some (.lst zs) ∧ xs.length + zs.length ≤ sizeLine ∧ Q .non (upd H l (.lst (xs ++ zs)))
theorem mt_extend : MtM X "list.extend" rExtend := by
  intro pins s σ H x vs v us Q I rx rv h
  obtain ⟨l, b, xs, zs, rfl, rfl, hH, hB, hz, q⟩ := h
  cases rx
  obtain ⟨u, rfl, ru⟩ := rv.one
  cases ru
  obtain ⟨z, its, n, r, hl, e⟩ := I.lstM hH
  obtain ⟨z2, its2, n2, r2, hl2, e2⟩ := I.lstM hB
  have hsz : its.toArray.size + its2.toArray.size ≤ sizeLine := by rw [List.size_toArray, List.size_toArray]; omega
  have hlong : ¬ (!its.toArray.isEmpty && Builtin.List.listTooLong (its.toArray.size + its2.toArray.size)) = true := by
    rw [notLongL hsz, Bool.and_false]
    exact Bool.false_ne_true
  refine call_meets F.slot_list_extend ⟨_, e, rfl⟩ F.entry_list_extend (F.args_list_extend_2 _ _)
    (AutoSeq1.list_extend_list_list_0 l its.toArray n b its2.toArray n2 hlong (by rw [List.size_toArray]; omega) (by omega)) ⟨e, e2, ?_⟩
  refine ⟨.non, _, I.lset (its' := its ++ its2) hH e (by simp) (r.append r2) ?_, rfl, q⟩
  rw [List.length_append]
  omega
def rPop : V → List V → Hp → VK → Prop := fun x vs H Q => ∃ l xs y, x = .ref l ∧ vs = [] ∧ H l = some (.lst xs) ∧ xs[xs.length - 1]? = some y ∧ Q y (upd H l (.lst xs.dropLast))
def rPopAt : V → List V → Hp → VK → Prop := fun x vs H Q => ∃ l xs i k y, x = .ref l ∧ vs = [.int i] ∧ H l = some (.lst xs) ∧ -(2 ^ 63) ≤ i ∧ i < 2 ^ 63 ∧ seqIndex? i xs.length = some k ∧ xs[k]? = some y ∧ Q y (upd H l (.lst (xs.eraseIdx k)))
def rReverse : V → List V → Hp → VK → Prop := fun x vs H Q => ∃ l xs, x = .ref l ∧ vs = [] ∧ H l = some (.lst xs) ∧ Q .non (upd H l (.lst xs.reverse))
def rClear : V → List V → Hp → VK → Prop := fun x vs H Q => ∃ l xs, x = .ref l ∧ vs = [] ∧ H l = some (.lst xs) ∧ Q .non (upd H l (.lst []))
/-! ### list + list, list += list, list * int -/
def rCat : R2 := fun x y H Q => ∃ l b xs zs, x = .ref l ∧ y = .ref b ∧ H l = some (.lst xs) ∧ H b = some (.lst zs) ∧ xs.length + zs.length ≤ sizeLine ∧ ∀ p, H p = none → Q (.ref p) (upd H p (.lst (xs ++ zs)))
theorem op_cat : OpR X (binaryOp .Add) rCat := by
  intro pins s σ H x y v u Q I rx ry h
  obtain ⟨l, b, xs, zs, rfl, rfl, hH, hB, hz, q⟩ := h
  cases rx
  cases ry
  obtain ⟨z, its, n, r, hl, e⟩ := I.lstM hH
  obtain ⟨z2, its2, n2, r2, hl2, e2⟩ := I.lstM hB
  refine PySem.P.add_list e e2 ?_ (by rw [List.size_toArray, List.size_toArray]; omega)
  have ea : its.toArray ++ its2.toArray = (its ++ its2).toArray := by simp
  rw [ea]
  exact ⟨.ref _, _, I.lnew (t' := s.toks) (r.append r2) (by rw [List.length_append]; omega), rfl, q _ I.fresh⟩
/-- a list times an int (a negative one is nothing) -/
def rRep : R2 := fun x y H Q => ∃ l k xs, x = .ref l ∧ y = .int k ∧ H l = some (.lst xs) ∧ -(2 ^ 63) ≤ k ∧ k < 2 ^ 63 ∧ xs.length * k.toNat ≤ sizeLine ∧
  ∀ p, H p = none → Q (.ref p) (upd H p (.lst (List.replicate k.toNat xs).flatten))
theorem len_rep {α : Type} (xs : List α) (k : Nat) : (List.replicate k xs).flatten.length = k * xs.length := by
  induction k with
  | zero => simp
  | succ k ih => rw [List.replicate_succ, List.flatten_cons, List.length_append, ih, Nat.succ_mul, Nat.add_comm]
theorem op_rep : OpR X (binaryOp .Mult) rRep := by
  intro pins s σ H x y v u Q I rx ry h
  obtain ⟨l, k, xs, rfl, rfl, hH, h1, h2, hz, q⟩ := h
  cases rx
  obtain ⟨t, rfl⟩ := ry
  obtain ⟨z, its, n, r, hl, e⟩ := I.lstM hH
  have hlen : its.toArray.size * k.toNat ≤ sizeLine := by rw [List.size_toArray, ← hl]; exact hz
  have hcap : ¬ its.toArray.size * k.toNat > (2 ^ 63 - 1) / 8 := by
    have : (sizeLine : Nat) ≤ (2 ^ 63 - 1) / 8 := by decide
    omega
  have hfit : ¬ (!Builtin.List.listFitsIndex k) = true := by
    rw [fitsIndex_both h1 h2]
    exact Bool.false_ne_true
  have hlong : ¬ Builtin.List.listTooLong (its.toArray.size * k.toNat) = true := by
    rw [notLongL hlen]
    exact Bool.false_ne_true
  have hnew : List.foldl (fun x1 x2 => x1 ++ x2) #[] (List.replicate (if its.toArray.isEmpty = true then 0 else k.toNat) its.toArray) = (List.replicate k.toNat its).flatten.toArray := by
    have f0 : ∀ m : Nat, List.foldl (fun x1 x2 => x1 ++ x2) #[] (List.replicate m its.toArray) = (List.replicate m its).flatten.toArray := fun m => by
      have := foldl_rep its m []
      rw [List.nil_append] at this
      exact this
    rw [f0]
    cases its with
    | nil => simp
    | cons a r' => rw [if_neg (by simp)]
  refine wpAny_binaryOp_repeat_ref (T := "list") (U := "int") (by decide) ⟨_, e, rfl⟩ (fun s' => typeIs_int s' k t) noFill_list_mul F.fills_int_mul F.slot_int_rmul repeat_list F.slot_int_index.lookup
    (call_meets F.slot_int_rmul (typeIs_int s k t) F.entry_int_rmul (F.args_int_rmul_2 _ _) (int___rmul___int_list k t l its.toArray n)
      ⟨e, rfl, ⟨_, e, rfl⟩, call_meets F.slot_list_mul ⟨_, e, rfl⟩ F.entry_list_mul (F.args_list_mul_2 _ _) (AutoListH.list___mul___list_int_3 l its.toArray n k t hfit hcap hlong) ⟨e, ?_⟩⟩)
  rw [hnew]
  exact ⟨.ref _, _, I.lnew (t' := s.toks) (r.rep k.toNat) (by rw [len_rep, Nat.mul_comm]; exact hz), rfl, q _ I.fresh⟩
/-! ### del xs[i] -/
end
/-! ### xs[a:b] = ys -/
section
variable {prog : Program} {w : World} {A : Around} {E : Value → Shared → Prop} {s : Shared}
set_option maxRecDepth 100000 in
end
section
variable {X : Cx}
end
end L2
namespace L2
open PySem PySem.Spec PyProof.Rows
theorem Vals.ints : ∀ {ns : List Int} {us : List Value}, Vals (ns.map V.int) us → IntsAre us ns
  | [], us, h => by
    rw [List.map_nil] at h
    cases h
    exact IntsAre.nil
  | n :: ns, us, h => by
    rw [List.map_cons] at h
    cases h with
    | cons r t =>
      obtain ⟨k, rfl⟩ := r
      exact IntsAre.cons n k (Vals.ints t)
theorem Vals.strs : ∀ {xs : List Str} {us : List Value}, Vals (xs.map V.str) us → StrsAre us xs
  | [], us, h => by
    rw [List.map_nil] at h
    cases h
    exact StrsAre.nil
  | x :: xs, us, h => by
    rw [List.map_cons] at h
    cases h with
    | cons r t =>
      obtain ⟨k, rfl⟩ := r
      exact StrsAre.cons x k (Vals.strs t)
theorem Vals.bls : ∀ {bs : List Bool} {us : List Value}, Vals (bs.map V.bl) us → us = bs.map Value.bool
  | [], us, h => by
    rw [List.map_nil] at h
    cases h
    rfl
  | b :: bs, us, h => by
    rw [List.map_cons] at h
    cases h with
    | cons r t =>
      cases r
      rw [Vals.bls t, List.map_cons]
theorem Vals.ref1 {a : Addr} {us : List Value} (r : Vals [V.ref a] us) : us = [Value.ref a] := by
  cases r with
  | cons r t =>
    cases t
    cases r
    rfl
/-! ### the library's walks over a list of ints, kept objects alone -/
section
variable {prog : Program} {w : World} {A : Around} {E : Value → Shared → Prop} {s : Shared} {l : Addr} {its : List Value} {ns : List Int} {Q : Value → Shared → Prop}
theorem sum_raw (hh : A.handled = none) (hl : s.heap.IsList l its.toArray) (hi : IntsAre its ns)
    (h : ∀ h' tk t', (∀ b o, s.heap.get? b = some o → h'.get? b = some o) → Q (.int ns.sum t') { s with heap := h', toks := tk }) : wpAny (model prog w) A (call (.builtin "sum") [.ref l]) Q E s := by
  obtain ⟨xs, e⟩ := hi.allInts.items
  have hn : numsOf (intItems xs).toList = ns := by rw [← e]; exact hi.numsOf
  rw [nums_intItems] at hn
  rw [e] at hl
  refine PySem.sum_intListG hh hl fun h' tk t' hk => ?_
  have := h h' tk t' hk
  rw [preSum_eq, List.take_of_length_le (by simp), hn]; exact this
end
/-! ### the calls, by values (CallR of 03t; MtR of 06l) -/
section
variable {X : Cx}
/-- sum(xs) of a list of ints -/
def rSum (K : PySem.W.Frag) : List V → Hp → VK → Prop := fun vs H Q => ∃ (a : Addr) (ns : List Int), vs = [V.ref a] ∧ SqL K H a (ns.map V.int) ∧ Q (.int ns.sum) H
/-- max(xs), min(xs) of a list of ints -/
def rMax (K : PySem.W.Frag) : List V → Hp → VK → Prop := fun vs H Q => ∃ (a : Addr) (ns : List Int), vs = [V.ref a] ∧ SqL K H a (ns.map V.int) ∧ 0 < ns.length ∧ ∀ m, m ∈ ns → (∀ y, y ∈ ns → y ≤ m) → Q (.int m) H
def rMin (K : PySem.W.Frag) : List V → Hp → VK → Prop := fun vs H Q => ∃ (a : Addr) (ns : List Int), vs = [V.ref a] ∧ SqL K H a (ns.map V.int) ∧ 0 < ns.length ∧ ∀ m, m ∈ ns → (∀ y, y ∈ ns → m ≤ y) → Q (.int m) H
theorem cr_sum (hc : X.calm = true) : CallR X (.builtin "sum") (rSum X.K) := by
  intro pins s σ H vs us Q I r h
  obtain ⟨a, ns, rfl, hs, q⟩ := h
  obtain ⟨its, rv, hl, _⟩ := I.list hs
  rw [Vals.ref1 r]
  exact sum_raw (I.ok.hd hc) hl.isList rv.ints fun h' tk t' hk => ⟨.int _, H, I.kept hk, ⟨_, rfl⟩, q⟩
/-! sorted, sort (fewer than 64 items: the library's own bound) -/
def rSorted (K : PySem.W.Frag) : List V → Hp → VK → Prop := fun vs H Q => ∃ (a : Addr) (ns : List Int), vs = [V.ref a] ∧ SqL K H a (ns.map V.int) ∧ ns.length < 64 ∧
  ∀ (ns' : List Int) (p : Addr), ns'.Perm ns → ns'.Pairwise (· ≤ ·) → H p = none → Q (.ref p) (upd H p (.lst (ns'.map V.int)))
def rSortedS (K : PySem.W.Frag) : List V → Hp → VK → Prop := fun vs H Q => ∃ (a : Addr) (xs : List Str), vs = [V.ref a] ∧ SqL K H a (xs.map V.str) ∧ xs.length < 64 ∧
  ∀ (ys : List Str) (p : Addr), ys.Perm xs → sortedS ys = true → H p = none → Q (.ref p) (upd H p (.lst (ys.map V.str)))
/-- xs.sort(), ints -/
def rSort : V → List V → Hp → VK → Prop := fun x xs H Q => ∃ (a : Addr) (ns : List Int), x = V.ref a ∧ xs = [] ∧ H a = some (.lst (ns.map V.int)) ∧ ns.length < 64 ∧
  ∀ ns' : List Int, ns'.Perm ns → ns'.Pairwise (· ≤ ·) → Q .non (upd H a (.lst (ns'.map V.int)))
end
/-! ### list.index, flat items -/
section
variable {X : Cx}
def rIndex (K : PySem.W.Frag) : V → List V → Hp → VK → Prop := fun x xs H Q => ∃ (a : Addr) (ys : List V) (y : V) (j : Nat) (z : V), x = V.ref a ∧ xs = [y] ∧ SqL K H a ys ∧ flatV y = true ∧ ys.all flatV = true ∧ ys[j]? = some z ∧ eqV z y = true ∧
  (∀ (m : Nat) (z' : V), m < j → ys[m]? = some z' → eqV z' y = false) ∧ Q (.int (j : Nat)) H
end
/-! ### type(x) of an own instance; is, is not of a module's class -/
section
variable {X : Cx}
end
/-! ### any(xs), all(xs) of a list of bools -/
theorem iter_any {prog : Program} {w : World} {A : Around} {E : Value → Shared → Prop} {s : Shared} {l : Addr} {items : Array Value} {Q : Value → Shared → Prop} (hl : s.heap.IsList l items)
    (h : ∀ s₂ : Shared, s₂ = { s with heap := s.heap.push { cls := .type "list_iterator", data := .fields #[.ref l, .int 0 0] } } →
      (s₂.heap.IsListIter s.heap.objs.size l 0 ∧ s₂.heap.IsList l items) → l ≠ s.heap.objs.size → Q (.ref s.heap.objs.size) s₂) : wpAny (model prog w) A (pyIter (.ref l)) Q E s := by
  have hlt : l < s.heap.objs.size := by obtain ⟨_, e, _⟩ := hl; exact Heap.lt_size e
  exact wpAny_pyIter_list hl (h _ rfl ⟨⟨_, Heap.get?_push_size _ rfl, rfl, rfl⟩, hl.push _⟩ (Nat.ne_of_lt hlt))
theorem truth_bools {prog : Program} {w : World} {A : Around} {bs : List Bool} {its : List Value} (e : its = bs.map Value.bool) :
    TruthOf prog w A (fun i v => its.toArray[i]? = some v) (fun i => bs.getD i false) := fun i v s Q E hv hq => by
  have hv' : its[i]? = some v := by simpa using hv
  rw [e, List.getElem?_map] at hv'
  obtain ⟨b, hb, rfl⟩ := Option.map_eq_some_iff.mp hv'
  have hg : bs.getD i false = b := by rw [List.getD_eq_getElem?_getD, hb] <;> rfl
  have hq' : Q (bs.getD i false) s := hq
  rw [hg] at hq'
  exact wpAny_truthy_bool hq'
theorem all_range : ∀ bs : List Bool, (List.range bs.length).all (fun i => bs.getD i false) = bs.all id
  | [] => rfl
  | b :: bs => by
    rw [List.length_cons, List.range_succ_eq_map, List.all_cons, List.all_map, List.all_cons, ← all_range bs]
    all_goals rfl
section
variable {X : Cx}
def rAny (K : PySem.W.Frag) : List V → Hp → VK → Prop := fun vs H Q => ∃ (a : Addr) (bs : List Bool), vs = [V.ref a] ∧ SqL K H a (bs.map V.bl) ∧ Q (.bl (bs.any id)) H
def rAll (K : PySem.W.Frag) : List V → Hp → VK → Prop := fun vs H Q => ∃ (a : Addr) (bs : List Bool), vs = [V.ref a] ∧ SqL K H a (bs.map V.bl) ∧ Q (.bl (bs.all id)) H
theorem cr_all (hc : X.calm = true) : CallR X (.builtin "all") (rAll X.K) := by
  intro pins s σ H vs us Q I r h
  obtain ⟨a, bs, rfl, hs, q⟩ := h
  obtain ⟨its, rv, hl, _⟩ := I.list hs
  rw [Vals.ref1 r]
  have hb := rv.bls
  refine call_all_walk (iter_any hl.isList fun s₂ e2 st hne => ?_)
  subst e2
  refine ⟨_, _, _, _, _, _, _, rfl, Walks.list (A := X.A.in1) (I.ok.hd hc) _ a hne its.toArray, st, truth_bools hb, fun h' tk hk => ?_⟩
  refine ⟨.bl _, H, I.kept fun b o eo => hk b o (fun hmem => ?_) (Heap.get?_push_of_some _ eo), ?_, q⟩
  · rcases List.mem_cons.mp hmem with e1 | hmem
    · exact absurd (e1 ▸ Heap.lt_size eo) (Nat.lt_irrefl _)
    · cases hmem
  · show Value.bool _ = Value.bool _
    rw [← all_range, hb, List.size_toArray, List.length_map]
end
/-! ### == and != of data at any depth: none, bools, ints, texts, lists, tuples -/
mutual
inductive Dp (K : PySem.W.Frag) (H : Hp) : V → PyData → Prop
  | non : Dp K H .non .none
  | bl (b : Bool) : Dp K H (.bl b) (.bool b)
  | int (i : Int) : Dp K H (.int i) (.int i)
  | str (x : Str) : Dp K H (.str x) (.str x)
  | lst {a : Addr} {xs : List V} {ds : List PyData} : SqL K H a xs → DpAll K H xs ds → Dp K H (.ref a) (.list ds)
  | tup {a : Addr} {xs : List V} {ds : List PyData} : SqT K H a xs → DpAll K H xs ds → Dp K H (.ref a) (.tuple ds)
inductive DpAll (K : PySem.W.Frag) (H : Hp) : List V → List PyData → Prop
  | nil : DpAll K H [] []
  | cons {v : V} {vs : List V} {d : PyData} {ds : List PyData} : Dp K H v d → DpAll K H vs ds → DpAll K H (v :: vs) (d :: ds)
end
section
variable {X : Cx} {pins : List (Addr × Obj)} {σ : St} {H : Hp} {s : Shared}
mutual
theorem Dp.reads (I : Inv X pins σ H s) : ∀ (d : PyData) (v : V) (u : Value), Dp X.K H v d → RelV v u → ∃ as, Reads s.heap u d as
  | .none, _, _, h, r => by
    cases h
    cases r
    exact ⟨_, Reads.none⟩
  | .bool b, _, _, h, r => by
    cases h
    cases r
    exact ⟨_, Reads.bool b⟩
  | .int i, _, _, h, r => by
    cases h
    obtain ⟨t, rfl⟩ := r
    exact ⟨_, Reads.int i t⟩
  | .str x, _, _, h, r => by
    cases h
    obtain ⟨t, rfl⟩ := r
    exact ⟨_, Reads.str x t⟩
  | .list ds, _, _, h, r => by
    cases h with
    | lst hs ha =>
      cases r
      obtain ⟨its, rv, ⟨o, n, ho, hc, _, hd⟩, _⟩ := I.list hs
      obtain ⟨as, hr⟩ := Dp.readsAll I ds _ its ha rv
      exact ⟨_, Reads.list ho hc hd hr⟩
  | .tuple ds, _, _, h, r => by
    cases h with
    | tup hs ha =>
      cases r
      obtain ⟨its, rv, ⟨o, ho, hc, n, hd⟩, _⟩ := I.tuple hs
      obtain ⟨as, hr⟩ := Dp.readsAll I ds _ its ha rv
      exact ⟨_, Reads.tuple ho hc hd hr⟩
  | .dict _, _, _, h, _ => by cases h
theorem Dp.readsAll (I : Inv X pins σ H s) : ∀ (ds : List PyData) (vs : List V) (us : List Value), DpAll X.K H vs ds → Vals vs us → ∃ as, ReadsAll s.heap us ds as
  | [], _, _, h, r => by
    cases h
    cases r
    exact ⟨_, ReadsAll.nil⟩
  | d :: ds, _, _, h, r => by
    cases h with
    | cons h1 h2 =>
      cases r with
      | cons r1 r2 =>
        obtain ⟨as, q1⟩ := Dp.reads I d _ _ h1 r1
        obtain ⟨bs, q2⟩ := Dp.readsAll I ds _ _ h2 r2
        exact ⟨_, ReadsAll.cons q1 q2⟩
end
end
section
variable {X : Cx}
def rEqD (K : PySem.W.Frag) : R2 := fun x y H Q => ∃ d e, Dp K H x d ∧ Dp K H y e ∧ SeqAt.shaped d = true ∧ SeqAt.shaped e = true ∧ Q (.bl (PyData.eqv d e)) H
def rNeD (K : PySem.W.Frag) : R2 := fun x y H Q => ∃ d e, Dp K H x d ∧ Dp K H y e ∧ SeqAt.shaped d = true ∧ SeqAt.shaped e = true ∧ Q (.bl (!PyData.eqv d e)) H
end
end L2
namespace L2
open PySem PySem.Spec PyProof.Rows
abbrev CellAt (h : Heap) (c : Addr) (v : Option Value) : Prop := h.IsCell c v
def relS (scope sc : Scope) : Scope :=
  { scope with names := scope.names.map fun (n, k) => if (k == .free && sc.kind == .function && sc.names.lookup n == some .cell) then (n, .cell) else (n, k) }
def cloFrom (cells : List (Str × Addr)) : List (Str × NameKind) → List (Str × Addr) → List (Str × Addr)
  | [], acc => acc
  | (n, k) :: r, acc => if k == .free then cloFrom cells r ((n, (cells.lookup n).getD 0) :: acc) else cloFrom cells r acc
theorem closure_loop (env : Env) (f : Str × NameKind → List (Str × Addr) → Sem (ForInStep (List (Str × Addr))))
    (hf : ∀ n k c, f (n, k) c = if k == .free then (do let a ← cellOf env n; pure (.yield ((n, a) :: c))) else pure (.yield c)) :
    ∀ (names : List (Str × NameKind)) (acc : List (Str × Addr)), (∀ y ∈ names, y.2 = .free → ∃ c, env.cells.lookup y.1 = some c) → forIn names acc f = pure (cloFrom env.cells names acc)
  | [], acc, _ => by rw [List.forIn_nil]; rfl
  | (n, k) :: r, acc, h => by
    rw [List.forIn_cons, hf]
    have ih := fun acc => closure_loop env f hf r acc fun y hy => h y (List.mem_cons_of_mem _ hy)
    unfold cloFrom
    by_cases hk : (k == NameKind.free) = true
    · rw [if_pos hk, if_pos hk]
      obtain ⟨c, hc⟩ := h (n, k) List.mem_cons_self (by simpa using hk)
      have e : cellOf env n = pure c := by unfold cellOf; rw [hc]
      rw [e]
      have e2 : (env.cells.lookup n).getD 0 = c := by rw [hc]; rfl
      rw [e2]
      exact ih _
    · rw [if_neg hk, if_neg hk]
      exact ih _
theorem closure_ok {scope : Scope} {env : Env} (h : ∀ y ∈ scope.names, y.2 = .free → ∃ c, env.cells.lookup y.1 = some c) : closureFor scope env = pure (cloFrom env.cells scope.names []) := by
  simp only [closureFor]
  rw [closure_loop env _ (fun n k c => rfl) scope.names [] h]
  rfl
theorem mem_lookup {α : Type} : ∀ {l : List (Str × α)} {n : Str} {c : α}, (n, c) ∈ l → ∃ c', l.lookup n = some c'
  | (k, v) :: r, n, c, h => by
    rw [List.lookup_cons]
    cases hb : n == k with
    | true => exact ⟨_, rfl⟩
    | false =>
      rcases List.mem_cons.mp h with e | h
      · cases e; simp at hb
      · exact mem_lookup h
theorem cloFrom_mem {cells : List (Str × Addr)} : ∀ {names : List (Str × NameKind)} {acc : List (Str × Addr)} {n : Str} {c : Addr}, (n, c) ∈ cloFrom cells names acc → (n, c) ∈ acc ∨ ((n, .free) ∈ names ∧ c = (cells.lookup n).getD 0)
  | [], _, _, _, h => .inl h
  | (m, k) :: r, acc, n, c, h => by
    unfold cloFrom at h
    split at h
    · rename_i hk
      have hk : k = .free := by simpa using hk
      rcases cloFrom_mem h with h | ⟨h1, h2⟩
      · rcases List.mem_cons.mp h with e | h
        · cases e; exact .inr ⟨hk ▸ List.mem_cons_self, rfl⟩
        · exact .inl h
      · exact .inr ⟨List.mem_cons_of_mem _ h1, h2⟩
    · rcases cloFrom_mem h with h | ⟨h1, h2⟩
      · exact .inl h
      · exact .inr ⟨List.mem_cons_of_mem _ h1, h2⟩
theorem cloFrom_acc {cells : List (Str × Addr)} : ∀ {names : List (Str × NameKind)} {acc : List (Str × Addr)} {p : Str × Addr}, p ∈ acc → p ∈ cloFrom cells names acc
  | [], _, _, h => h
  | (m, k) :: r, acc, p, h => by
    unfold cloFrom
    split
    · exact cloFrom_acc (List.mem_cons_of_mem _ h)
    · exact cloFrom_acc h
theorem cloFrom_has {cells : List (Str × Addr)} : ∀ {names : List (Str × NameKind)} {acc : List (Str × Addr)} {n : Str}, (n, .free) ∈ names → (n, (cells.lookup n).getD 0) ∈ cloFrom cells names acc
  | (m, k) :: r, acc, n, h => by
    unfold cloFrom
    rcases List.mem_cons.mp h with e | h
    · cases e
      exact cloFrom_acc List.mem_cons_self
    · split
      · exact cloFrom_has h
      · exact cloFrom_has h
theorem cells_mem : ∀ {names : List (Str × NameKind)} {h : Heap} {acc : List (Str × Addr)} {x : Str} {c : Addr}, (x, c) ∈ cellsFrom h.objs.size names acc →
    (x, c) ∈ acc ∨ ((x, .cell) ∈ names ∧ h.objs.size ≤ c ∧ CellAt (pushCells h names) c none)
  | [], _, _, _, _, h => .inl h
  | (n, k) :: r, h, acc, x, c, hm => by
    unfold cellsFrom at hm
    unfold pushCells
    split at hm
    · rename_i hk
      rw [if_pos hk]
      have hk : k = .cell := by simpa using hk
      rw [← Heap.size_push h { cls := .type "cell", data := .cell none }] at hm
      rcases cells_mem hm with hm | ⟨h1, h2, h3⟩
      · rcases List.mem_cons.mp hm with e | hm
        · cases e
          exact .inr ⟨hk ▸ List.mem_cons_self, Nat.le_refl _, _, pushCells_keeps r _ _ _ (Heap.get?_push_size _ rfl), rfl⟩
        · exact .inl hm
      · rw [Heap.size_push] at h2
        exact .inr ⟨List.mem_cons_of_mem _ h1, Nat.le_of_succ_le h2, h3⟩
    · rename_i hk
      rw [if_neg hk]
      rcases cells_mem hm with hm | ⟨h1, h2, h3⟩
      · exact .inl hm
      · exact .inr ⟨List.mem_cons_of_mem _ h1, h2, h3⟩
theorem cells_acc : ∀ {names : List (Str × NameKind)} {n : Nat} {acc : List (Str × Addr)} {p : Str × Addr}, p ∈ acc → p ∈ cellsFrom n names acc
  | [], _, _, _, h => h
  | (m, k) :: r, n, acc, p, h => by
    unfold cellsFrom
    split
    · exact cells_acc (List.mem_cons_of_mem _ h)
    · exact cells_acc h
theorem cells_has : ∀ {names : List (Str × NameKind)} {n : Nat} {acc : List (Str × Addr)} {x : Str}, (x, .cell) ∈ names → ∃ c, (x, c) ∈ cellsFrom n names acc
  | (m, k) :: r, n, acc, x, h => by
    unfold cellsFrom
    rcases List.mem_cons.mp h with e | h
    · cases e
      exact ⟨n, cells_acc List.mem_cons_self⟩
    · split
      · exact cells_has h
      · exact cells_has h
theorem cells_inj : ∀ {names : List (Str × NameKind)} {h : Heap} {acc : List (Str × Addr)} {x y : Str} {c : Addr}, (∀ p ∈ acc, p.2 < h.objs.size) → (∀ x y c, (x, c) ∈ acc → (y, c) ∈ acc → x = y) →
    (x, c) ∈ cellsFrom h.objs.size names acc → (y, c) ∈ cellsFrom h.objs.size names acc → x = y
  | [], _, _, _, _, _, _, hi, h1, h2 => hi _ _ _ h1 h2
  | (n, k) :: r, h, acc, x, y, c, hl, hi, h1, h2 => by
    unfold cellsFrom at h1 h2
    split at h1
    · rename_i hk
      rw [if_pos hk] at h2
      rw [← Heap.size_push h { cls := .type "cell", data := .cell none }] at h1 h2
      refine cells_inj (h := h.push _) (fun p hp => ?_) (fun x y c a b => ?_) h1 h2
      · rw [Heap.size_push]
        rcases List.mem_cons.mp hp with rfl | hp
        · exact Nat.lt_succ_self _
        · exact Nat.lt_succ_of_lt (hl p hp)
      · rcases List.mem_cons.mp a with e | a <;> rcases List.mem_cons.mp b with e' | b
        · cases e; cases e'; rfl
        · cases e; exact absurd (hl _ b) (Nat.lt_irrefl _)
        · cases e'; exact absurd (hl _ a) (Nat.lt_irrefl _)
        · exact hi _ _ _ a b
    · rename_i hk
      rw [if_neg hk] at h2
      exact cells_inj hl hi h1 h2
theorem newEnv_comp {M : Model} {A : Around} {E : Value → Shared → Prop} {s : Shared} {scope : Scope} {globals : Addr} {closure : List (Str × Addr)} {qual : Str} {func : Option Addr} {code : Value} {around : Env} {builtins : Addr} {Q : Env → Shared → Prop}
    (h : Q (newEnv scope s.heap.objs.size globals (cellsFrom (s.heap.objs.size + 1) scope.names closure) qual func code (some around) builtins)
      { s with heap := pushCells (s.heap.push { cls := .type "dict", data := .dict #[] }) scope.names }) :
    wpAny M A (newFunctionEnv scope globals closure [] qual func code (some around) builtins) Q E s := by
  simp only [newFunctionEnv, Option.isSome_some, if_true]
  refine wpAny_bind (wpAny_alloc ?_)
  refine wpAny_bind (wpAny_layCells _ (fun n k c => rfl) scope.names closure _ _ ?_)
  rw [show ({ s with heap := s.heap.push { cls := .type "dict", data := .dict #[] } } : Shared).heap.objs.size = s.heap.objs.size + 1 from Heap.size_push ..]
  rw [List.forIn_nil]
  exact wpAny_bind (wpAny_pure (wpAny_pure h))
/-- every name of the written scope, in the scope that runs -/
theorem lookup_relS {sc : Scope} : ∀ {names : List (Str × NameKind)} {x : Str} {k : NameKind},
    (names.map fun (n, k) => if (k == NameKind.free && sc.kind == .function && sc.names.lookup n == some .cell) then (n, NameKind.cell) else (n, k)).lookup x = some k →
    ∃ k', names.lookup x = some k' ∧ (k = k' ∨ (k' = .free ∧ k = .cell))
  | [], _, _, h => by simp at h
  | (n, k₀) :: r, x, k, h => by
    have ih := @lookup_relS sc r x k
    have h' : List.lookup x ((if (k₀ == NameKind.free && sc.kind == .function && sc.names.lookup n == some .cell) = true then (n, NameKind.cell) else (n, k₀)) :: (r.map _)) = some k := h
    cases hx : x == n with
    | true =>
      simp only [List.lookup_cons, hx]
      by_cases hc : (k₀ == NameKind.free && sc.kind == .function && sc.names.lookup n == some .cell) = true
      · rw [if_pos hc] at h'
        simp only [List.lookup_cons, hx] at h'
        cases h'
        simp only [Bool.and_eq_true, beq_iff_eq] at hc
        exact ⟨k₀, rfl, .inr ⟨hc.1.1, rfl⟩⟩
      · rw [if_neg hc] at h'
        simp only [List.lookup_cons, hx] at h'
        cases h'
        exact ⟨_, rfl, .inl rfl⟩
    | false =>
      simp only [List.lookup_cons, hx]
      by_cases hc : (k₀ == NameKind.free && sc.kind == .function && sc.names.lookup n == some .cell) = true
      · rw [if_pos hc] at h'
        simp only [List.lookup_cons, hx] at h'
        exact ih h'
      · rw [if_neg hc] at h'
        simp only [List.lookup_cons, hx] at h'
        exact ih h'
/-- the names of a comprehension's block: its own (with their places in N), or captured -/
structure BlkOk (N : List Str) (sc scope : Scope) (own : List (Str × Nat)) : Prop where
  kind : scope.kind = .function
  uniq : ∀ y ∈ scope.names, scope.names.lookup y.1 = some y.2
  ix : ∀ p ∈ own, N[p.2]? = some p.1
  free : ∀ y ∈ scope.names, y.2 = .free → sc.names.lookup y.1 = some .cell ∨ sc.names.lookup y.1 = some .free
  own : ∀ y ∈ scope.names, y.2 = .local ∨ y.2 = .cell → y.1 ∈ own.map (·.1) ∨ y.1 ∉ N
/-- the slots of the block's own names forgotten -/
def wipe (σ : St) : List Nat → St
  | [] => σ
  | v :: vs => (wipe σ vs).set v none
theorem wipe_length (σ : St) : ∀ vs : List Nat, (wipe σ vs).length = σ.length
  | [] => rfl
  | v :: vs => by unfold wipe; rw [List.length_set, wipe_length σ vs]
theorem wipe_some {σ : St} {i : Nat} {x : V} : ∀ {vs : List Nat}, (wipe σ vs)[i]? = some (some x) → σ[i]? = some (some x) ∧ i ∉ vs
  | [], h => ⟨h, by simp⟩
  | v :: vs, h => by
    unfold wipe at h
    by_cases hi : v = i
    · subst hi
      by_cases hv : v < (wipe σ vs).length
      · rw [List.getElem?_set_self hv] at h; cases h
      · rw [List.getElem?_eq_none (by simpa using hv)] at h; cases h
    · rw [List.getElem?_set_ne hi] at h
      obtain ⟨h1, h2⟩ := wipe_some h
      exact ⟨h1, by simp only [List.mem_cons, not_or]; exact ⟨fun e => hi e.symm, h2⟩⟩
/-- the context of a block that starts at s, its iterator's objects at fp -/
abbrev Cx.blk (X : Cx) (s : Shared) (H : Hp) (scope : Scope) (cenv : Env) (fp : List Addr) : Cx := { X with s_0 := s, H_0 := H, env := cenv, outer := X.stack, ex := fp, fn := fun x => scope.names.lookup x == some .cell, pn := [], xe := fun _ _ => False }
section
variable {X : Cx} {pins : List (Addr × Obj)} {σ : St} {H : Hp} {s : Shared}
theorem block_start {scope : Scope} {own : List (Str × Nat)} {fp : List Addr} (I : Inv X pins σ H s) (ok : BlkOk X.N X.env.scope scope own) (hN : X.N.Nodup) (hfp : ∀ b ∈ fp, FpOk X pins H b ∧ b < s.heap.objs.size) :
    Inv (X.blk s H scope (compEnvC scope (cellsFrom (s.heap.objs.size + 1) scope.names (cloFrom X.env.cells scope.names [])) s.heap.objs.size X.env) fp) [] (wipe σ (own.map (·.2))) H { s with heap := pushCells (s.heap.push { cls := .type "dict", data := .dict #[] }) scope.names } := by
  have hfree : ∀ y ∈ scope.names, y.2 = .free → ∃ c, X.env.cells.lookup y.1 = some c := fun y hy e => by
    rcases ok.free y hy e with k | k
    · exact I.ok.has _ (.inl k)
    · exact I.ok.has _ (.inr k)
  generalize hcenv : compEnvC scope (cellsFrom (s.heap.objs.size + 1) scope.names (cloFrom X.env.cells scope.names [])) s.heap.objs.size X.env = cenv
  have kp : ∀ b o, s.heap.get? b = some o → (pushCells (s.heap.push { cls := .type "dict", data := .dict #[] }) scope.names).get? b = some o := fun b o e => pushCells_keeps _ _ _ _ (Heap.get?_push_of_some _ e)
  have hL : cenv.locals = s.heap.objs.size := by rw [← hcenv]; rfl
  have hcl : cenv.cells = cellsFrom (s.heap.objs.size + 1) scope.names (cloFrom X.env.cells scope.names []) := by rw [← hcenv]; rfl
  have hsc : cenv.scope = relS scope X.env.scope := by rw [← hcenv]; rfl
  rw [← Heap.size_push s.heap { cls := .type "dict", data := .dict #[] }] at hcl
  have cm : ∀ {y c}, (y, c) ∈ cloFrom X.env.cells scope.names [] → X.env.cells.lookup y = some c ∧ c < s.heap.objs.size := fun {y c} hm => by
    rcases cloFrom_mem hm with hm | ⟨h1, rfl⟩
    · cases hm
    · obtain ⟨c, hc⟩ := hfree _ h1 rfl
      rw [hc]
      obtain ⟨w, z⟩ := I.cell _ _ hc
      exact ⟨rfl, z.lt⟩
  have mem : ∀ {y c}, cenv.cells.lookup y = some c → (X.env.cells.lookup y = some c ∧ c < s.heap.objs.size) ∨ (s.heap.objs.size + 1 ≤ c ∧ CellAt (pushCells (s.heap.push { cls := .type "dict", data := .dict #[] }) scope.names) c none) := fun {y c} e => by
    rw [hcl] at e
    rcases cells_mem (PySem.mem_of_lookup e) with hm | ⟨_, h2, h3⟩
    · exact .inl (cm hm)
    · rw [Heap.size_push] at h2; exact .inr ⟨h2, h3⟩
  have look : ∀ {y}, scope.names.lookup y = some .free → ∃ c, cenv.cells.lookup y = some c ∧ X.env.cells.lookup y = some c := fun {y} hl => by
    have hy : (y, NameKind.free) ∈ scope.names := PySem.mem_of_lookup hl
    obtain ⟨c', e'⟩ := mem_lookup (cells_acc (names := scope.names) (n := (s.heap.push { cls := .type "dict", data := .dict #[] }).objs.size) (cloFrom_has (cells := X.env.cells) (acc := []) hy))
    rw [← hcl] at e'
    refine ⟨c', e', ?_⟩
    rw [hcl] at e'
    rcases cells_mem (PySem.mem_of_lookup e') with hm | ⟨h1, _, _⟩
    · exact (cm hm).1
    · have := ok.uniq _ h1
      rw [hl] at this; cases this
  have okB : (X.blk s H scope cenv fp).Ok := by
    refine ⟨I.ok.mod, by show cenv.scope.kind = _; rw [hsc]; exact ok.kind, by show cenv.globals = _; rw [← hcenv]; exact I.ok.glob, by show cenv.builtins = _; rw [← hcenv]; exact I.ok.blt, by show s.heap.objs.size ≤ cenv.locals; rw [hL]; exact Nat.le_refl _,
      fun y z c e1 e2 => ?_, fun y hy => ?_, fun y c z e => ?_, I.ok.hd, I.ok.frames, .inl rfl, fun b hb => ⟨?_, fun y c e z => ?_⟩, I.bs, Nat.le_trans I.ok.bsz I.sz, fun b o e hb => ?_, fun b hb z => ?_, I.stack, I.stkFree⟩
    · have e1 : cenv.cells.lookup y = some c := e1
      have e2 : cenv.cells.lookup z = some c := e2
      rw [hcl] at e1 e2
      refine cells_inj (fun p hp => ?_) (fun y z c a b => I.ok.inj y z c (cm a).1 (cm b).1) (PySem.mem_of_lookup e1) (PySem.mem_of_lookup e2)
      rw [Heap.size_push]
      exact Nat.lt_succ_of_lt (cm (y := p.1) (c := p.2) hp).2
    · show ∃ c, cenv.cells.lookup y = some c
      have key : ∀ k, cenv.kindOf y = some k → (k = .cell ∨ k = .free) → ∃ c, cenv.cells.lookup y = some c := fun k hk hk' => by
        unfold Env.kindOf at hk
        rw [hsc] at hk
        obtain ⟨k', e, r⟩ := lookup_relS hk
        have : k' = .cell ∨ k' = .free := by
          rcases r with rfl | ⟨rfl, _⟩
          · exact hk'
          · exact .inr rfl
        rcases this with rfl | rfl
        · obtain ⟨c, hm⟩ := cells_has (n := (s.heap.push { cls := .type "dict", data := .dict #[] }).objs.size) (acc := cloFrom X.env.cells scope.names []) (PySem.mem_of_lookup e)
          obtain ⟨c', e'⟩ := mem_lookup hm
          exact ⟨c', by rw [hcl]; exact e'⟩
        · obtain ⟨c, h1, _⟩ := look e
          exact ⟨c, h1⟩
      rcases hy with hy | hy
      · exact key _ hy (.inl rfl)
      · exact key _ hy (.inr rfl)
    · have z : (scope.names.lookup y == some NameKind.cell) = true := z
      have z : scope.names.lookup y = some .cell := by simpa using z
      have e : cenv.cells.lookup y = some c := e
      rw [hcl] at e
      rcases cells_mem (PySem.mem_of_lookup e) with hm | ⟨_, h2, _⟩
      · rcases cloFrom_mem hm with hm | ⟨h1, _⟩
        · cases hm
        · have q := ok.uniq _ h1
          rw [z] at q; cases q
      · rw [Heap.size_push] at h2
        exact Nat.le_of_succ_le h2
    · show b ≠ cenv.locals
      rw [hL]; exact Nat.ne_of_lt (hfp b hb).2
    · have e : cenv.cells.lookup y = some c := e
      rcases mem e with ⟨h1, _⟩ | ⟨h1, _⟩
      · exact (hfp b hb).1.2.2.2.2.1 y c h1 z
      · have h2 : s.heap.objs.size + 1 ≤ b := by rw [← z]; exact h1
        exact absurd (Nat.lt_of_lt_of_le (hfp b hb).2 (Nat.le_of_succ_le h2)) (Nat.lt_irrefl _)
    · rcases (hfp b hb).1.2.2.2.1 with z | z
      · exact I.ok.noex b o e z
      · exact absurd (Nat.lt_of_lt_of_le (Heap.lt_size e) (Nat.le_trans I.ok.bsz z)) (Nat.lt_irrefl _)
    · rcases List.mem_cons.mp (I.stkSub b z) with z | z
      · exact (hfp b hb).1.2.1 z
      · exact (hfp b hb).1.2.2.1 z
  refine ⟨okB, rfl, I.bare, Un.kept kp, ⟨fun _ => none, ?_, fun i y av e1 e2 e3 => ?_⟩, fun y c e => ?_, ?_, fun y c e => ?_, fun p hp => ?_, I.hok.kept kp, by rw [wipe_length]; exact I.len⟩
  · show Heap.Ns _ cenv.locals _
    rw [hL]
    exact Heap.Ns.keeps (Heap.Ns.new ..) fun b o e => pushCells_keeps _ _ _ _ e
  · obtain ⟨e2, hne⟩ := wipe_some e2
    have hfr : scope.names.lookup y = some .free ∧ (cenv.kindOf y = some .cell ∨ cenv.kindOf y = some .free) := by
      have key : ∀ k, cenv.scope.names.lookup y = some k → k = .local ∨ k = .cell ∨ k = .free → scope.names.lookup y = some .free ∧ (cenv.kindOf y = some .cell ∨ cenv.kindOf y = some .free) := fun k hk hk' => by
        have hk0 := hk
        rw [hsc] at hk
        obtain ⟨k', e, r⟩ := lookup_relS hk
        have no : ¬ (k' = .local ∨ k' = .cell) := fun hh => by
          rcases ok.own _ (PySem.mem_of_lookup e) hh with e' | e'
          · obtain ⟨p, hp, hpy⟩ := List.mem_map.mp e'
            have e3 := ok.ix p hp
            have : p.1 = y := hpy
            rw [this] at e3
            exact hne (List.mem_map.mpr ⟨p, hp, nodup_ix hN e3 e1⟩)
          · exact e' (List.mem_of_getElem? e1)
        rcases r with rfl | ⟨rfl, rfl⟩
        · rcases hk' with rfl | rfl | rfl
          · exact absurd (.inl rfl) no
          · exact absurd (.inr rfl) no
          · exact ⟨e, .inr hk0⟩
        · exact ⟨e, .inl hk0⟩
      have e3 : Vis cenv.scope y := e3
      rcases e3 with e3 | e3 | e3
      · exact key _ e3 (.inl rfl)
      · exact key _ e3 (.inr (.inl rfl))
      · exact key _ e3 (.inr (.inr rfl))
    obtain ⟨m, hn, hl⟩ := I.loc
    have hvis : Vis X.env.scope y := (ok.free _ (PySem.mem_of_lookup hfr.1) rfl).elim (fun k => .inr (.inl k)) (fun k => .inr (.inr k))
    obtain ⟨w, r, q⟩ := hl i y av e1 e2 hvis
    refine ⟨w, r, .inr ⟨hfr.2, ?_⟩⟩
    obtain ⟨c, h1, h2⟩ := look hfr.1
    rcases q with ⟨k, _⟩ | ⟨_, c', e', z⟩
    · have k : X.env.scope.names.lookup y = some .local := k
      rcases ok.free _ (PySem.mem_of_lookup hfr.1) rfl with k' | k' <;> rw [show X.env.scope.names.lookup y = _ from k'] at k <;> cases k
    · rw [h2] at e'; cases e'
      exact ⟨c, h1, z.keeps kp⟩
  · have e : cenv.cells.lookup y = some c := e
    rcases mem e with ⟨h1, _⟩ | ⟨_, z⟩
    · obtain ⟨w, z⟩ := I.cell y c h1
      exact ⟨w, z.keeps kp⟩
    · exact ⟨_, z⟩
  · show H cenv.locals = none
    rw [hL]; exact I.hok.fresh (Nat.le_refl _)
  · have e : cenv.cells.lookup y = some c := e
    rcases mem e with ⟨h1, _⟩ | ⟨h1, _⟩
    · exact I.freeC y c h1
    · exact I.hok.fresh (Nat.le_of_succ_le h1)
  · exact absurd (show p ∈ ([] : List (Addr × Obj)) ++ [] from hp) (by simp)
/-- an item appended to a tracked list -/
theorem app_ok {E : Value → Shared → Prop} {D : Addr} {xs : List V} {y : V} {v : Value} {Q : Value → Shared → Prop} (I : Inv X pins σ H s) (hD : H D = some (.lst xs)) (hz : xs.length < sizeLine) (r : RelV y v)
    (h : ∀ s', Inv X pins σ (upd H D (.lst (xs ++ [y]))) s' → Q .none s') : wpAny (model X.prog X.w) X.A (call (.builtin "list.append") [.ref D, v]) Q E s := by
  obtain ⟨hz', its, n, ri, e⟩ := I.hok D _ hD
  have hl := ri.length
  refine append_at (hsz := by rw [List.size_toArray]; omega) e fun h' sb ho' => ?_
  refine h { s with heap := h' } (I.write (t' := s.toks) (by rw [hD]; trivial) (.inl rfl) (fun b u hb q => (sb.2 b hb).trans q) ⟨_, ho'⟩ ⟨by rw [List.length_append]; exact hz, its ++ [v], n + 1, ri.append (.cons r .nil), ?_⟩)
  rw [ho']
  simp
/-- a clause's tests -/
def PTs (X : Cx) (ifs : List Expr) (t : TT) : Prop :=
  ∀ (pins : List (Addr × Obj)) (s : Shared) (σ : St) (H : Hp) (Q : Bool → Hp → Prop), Inv X pins σ H s → t σ H Q →
    wpAny (model X.prog X.w) X.A (forIn ifs true fun c r => if r = true then do let ok ← isTrue c X.env (eval c X.env); pure (ForInStep.yield ok) else pure (ForInStep.yield r)) (TP X pins σ Q) X.xe s
def tYes : TT := fun _ H Q => Q true H
theorem pts_nil : PTs X [] tYes := fun _ _ _ H _ I h => wpAny_tests_nil ⟨H, I, h⟩
theorem pts_one {c : Expr} {t : TT} (h : PT X c t) : PTs X [c] t := fun pins s σ H Q I hw => wpAny_tests_one (h pins s σ H Q I hw)
end
theorem thnF {α : Type} {t : Sem α} {Q Q' : α → Shared → Prop} {M : Model} {A : Around} {E : Value → Shared → Prop} {s : Shared} (h : wpAny M A t Q (fun _ _ => False) s) (hQ : ∀ a s, Q a s → Q' a s) : wpAny M A t Q' E s := wpAny_mono h hQ fun _ _ z => False.elim z
/-- the loop of a list comprehension's block, the target of any form (codeAny_compLoop_tests asks a target that no tuple goes to; statement and proof follow it, PyProof/CompMap.lean:41-61, with the step letOwnedTupleGo kept) -/
theorem compLoop_any {prog : Program} {w : World} {A : Around} {R : Result → Shared → Prop} {s : Shared} {elt target iter : Expr} {ifs : List Expr} {scope : Scope} {pos : Pos} {it acc : Value} {env : Env} (I : Nat → Shared → Prop)
    (turn : ∀ n s, I n s → wpAny (model prog w) A (pyNext it) (fun r s₁ => match r with
      | none => R (.ok .next) s₁
      | some v => wpAny (model prog w) A (letOwnedTupleGo target it v) (fun _ s₁' => wpAny (model prog w) A (assign target env v) (fun _ s₂ =>
          wpAny (model prog w) A (forIn ifs true fun c r => if r = true then do let ok ← isTrue c env (eval c env); pure (ForInStep.yield ok) else pure (ForInStep.yield r)) (fun ok s₃ =>
            if ok = true then wpAny (model prog w) A (eval elt env) (fun x s₄ =>
              wpAny (model prog w) A (call (.builtin "list.append") [acc, x]) (fun _ s₅ => ∃ m, m < n ∧ I m s₅) (notedBy (model prog w) A env fun e s' => R (.error e) s') s₄) (notedBy (model prog w) A env fun e s' => R (.error e) s') s₃
            else ∃ m, m < n ∧ I m s₃) (notedBy (model prog w) A env fun e s' => R (.error e) s') s₂) (notedBy (model prog w) A env fun e s' => R (.error e) s') s₁') (notedBy (model prog w) A env fun e s' => R (.error e) s') s₁) (notedBy (model prog w) A env fun e s' => R (.error e) s') s)
    (n : Nat) (h : I n s) :
    codeAny (model prog w) A (.compLoop (.ListComp elt [⟨target, iter, ifs, 0⟩] scope pos) 0 it acc env) R s := by
  refine codeAny_loop rfl I (fun n s hI => ?_) n h
  show wpAny _ A ((compTurn (.ListComp elt [⟨target, iter, ifs, 0⟩] scope pos) 0 it acc env).onRaise (fun x => do noteFrame x env; theTreesLotGoes x)) _ _ s
  refine wpAny_noted ?_
  rw [compTurn_list]
  refine wpAny_bind (wpAny_standAt (wpAny_bind (wpAny_mono (turn n s hI) (fun r s₁ h₁ => ?_) fun _ _ h' => h')))
  cases r with
  | none => exact wpAny_pure h₁
  | some v =>
    refine wpAny_bind (wpAny_mono h₁ (fun _ s₁' h₁' => ?_) fun _ _ h' => h')
    refine wpAny_bind (wpAny_mono h₁' (fun _ s₂ h₂ => wpAny_bind (wpAny_mono h₂ (fun ok s₃ h₃ => ?_) fun _ _ h' => h')) fun _ _ h' => h')
    cases ok with
    | false => exact wpAny_pure ⟨rfl, h₃⟩
    | true =>
      exact wpAny_bind (wpAny_bind (wpAny_mono h₃ (fun x s₄ h₄ => wpAny_bind (wpAny_mono h₄ (fun _ s₅ h₅ => wpAny_pure (wpAny_pure ⟨rfl, h₅⟩)) fun _ _ h' => h')) fun _ _ h' => h'))
section
variable {X : Cx}
/-- [elt for target in iter if ..]: D the new list; W by the turn and a measure, Nx what a turn is to reach -/
def tLc (wi : TI) (g : TG) (tt : TT) (te : TE) (vs : List Nat) : TE := fun σ H Q => wi σ H fun J H1 => ∀ D, H1 D = none → ∃ W : Nat → Nat → Hp → Prop, (∃ m, W 0 m (upd H1 D (.lst []))) ∧ ∀ i m H, W i m H →
  (J.stop i H ∧ Q (.ref D) H) ∨ (J.go i H ∧ ∃ Nx : Hp → Prop, (∀ H', Nx H' → ∃ m', m' < m ∧ W (i + 1) m' H') ∧ ∀ x H', J.yld i H x H' → g x (wipe σ vs) H' fun σ2 H2 => wipe σ2 vs = wipe σ vs ∧ tt σ2 H2 fun b H3 =>
    if b = true then te σ2 H3 fun y H4 => ∃ acc, H4 D = some (.lst acc) ∧ acc.length < sizeLine ∧ Nx (upd H4 D (.lst (acc ++ [y]))) else Nx H3)
theorem lc_core {pins : List (Addr × Obj)} {s : Shared} {σ : St} {H : Hp} {Q : VK} {elt tg iter : Expr} {ifs : List Expr} {scope : Scope} {own : List (Str × Nat)} {pos pos' : Pos} {wi : TI} {g : TG} {tt : TT} {te : TE} {use : Option (Value → Sem Unit)} {Qf : Value → Shared → Prop}
    (hc : X.calm = true) (hN : X.N.Nodup) (I : Inv X pins σ H s) (hi : PI X tg iter wi) (ok : BlkOk X.N X.env.scope scope own)
    (hg : ∀ (s : Shared) (H : Hp) (C : Addr) (cl : List (Str × Addr)) (fp : List Addr), PG (X.blk s H scope (compEnvC scope cl C X.env) fp) tg g) (ht : ∀ (s : Shared) (H : Hp) (C : Addr) (cl : List (Str × Addr)) (fp : List Addr), PTs (X.blk s H scope (compEnvC scope cl C X.env) fp) ifs tt)
    (he : ∀ (s : Shared) (H : Hp) (C : Addr) (cl : List (Str × Addr)) (fp : List Addr), PE (X.blk s H scope (compEnvC scope cl C X.env) fp) elt te) (hs : ∀ x, foldedSetIterable iter X.env x = pure x)
    (h : tLc wi g tt te (own.map (·.2)) σ H Q)
    (hRR : ∀ D C s' m H', Inv X pins σ H' s' → Q (.ref D) H' → s'.heap.Ns C m → FpOk X pins H' C → compPost (model X.prog X.w) X.A X.xe use Qf (.ref D) C (.ok .next) s') :
    wpAny (model X.prog X.w) X.A (comprehension (.ListComp elt [⟨tg, iter, ifs, 0⟩] scope pos) scope X.env pos' (newList []) false (eval iter X.env) use) Qf X.xe s := by
  have hfree : ∀ y ∈ scope.names, y.2 = .free → ∃ c, X.env.cells.lookup y.1 = some c := fun y hy e => by
    rcases ok.free y hy e with k | k
    · exact I.ok.has _ (.inl k)
    · exact I.ok.has _ (.inr k)
  refine wpAny_comprehension_free (use := use) rfl hs (closure_ok hfree) ok.kind (fun y hy e => by rw [ok.uniq y hy, e])
    (thn (hi pins s σ H _ I h) fun xv s1 hx => thn hx fun itv s2 h2 => ?_)
  obtain ⟨it, fp, tn, J, H2, e, I2, T, st2, f2, q⟩ := h2
  subst e
  refine wpAny_newObj_type (newEnv_comp ?_) (by show 0 ≤ sizeLine; decide)
  generalize hD : s2.heap.objs.size = D
  have hDn : H2 D = none := I2.hok.fresh (Nat.le_of_eq hD)
  obtain ⟨W, ⟨m0, w0⟩, turn⟩ := q D hDn
  -- the new list
  generalize hs3 : ({ s2 with heap := s2.heap.push { cls := .type "list", data := .seq ([] : List Value).toArray } } : Shared) = s3
  have I3 : Inv X pins σ (upd H2 D (.lst [])) s3 := by
    rw [← hs3]
    refine I2.laid (t' := s2.toks) (fun b o e => Heap.get?_push_of_some _ e) (Nat.le_of_eq hD) ⟨Nat.zero_le _, [], 0, .nil, ?_⟩
    rw [← hD]
    exact Heap.get?_push_size _ rfl
  have h3 : s3.heap = s2.heap.push { cls := .type "list", data := .seq ([] : List Value).toArray } := by rw [← hs3]
  have sz : ∀ b ∈ fp, b < s2.heap.objs.size := fun b hb => by
    obtain ⟨o, e, _⟩ := T.obj _ _ st2 b hb
    exact Heap.lt_size e
  have f3 : ∀ b ∈ fp, FpOk X pins (upd H2 D (.lst [])) b ∧ b < s3.heap.objs.size := fun b hb => by
    have hlt := sz b hb
    refine ⟨⟨?_, (f2 b hb).2⟩, by rw [h3, Heap.size_push]; exact Nat.lt_succ_of_lt hlt⟩
    rw [upd_ne (by rw [← hD]; exact Nat.ne_of_lt hlt)]
    exact (f2 b hb).1
  have st3 : tn 0 s3.heap := T.keep _ _ _ st2 fun b _ o e => by rw [h3]; exact Heap.get?_push_of_some _ e
  have I4 := block_start I3 ok hN f3
  have pg := hg s3 (upd H2 D (.lst [])) s3.heap.objs.size (cellsFrom (s3.heap.objs.size + 1) scope.names (cloFrom X.env.cells scope.names [])) fp
  have pt := ht s3 (upd H2 D (.lst [])) s3.heap.objs.size (cellsFrom (s3.heap.objs.size + 1) scope.names (cloFrom X.env.cells scope.names [])) fp
  have pe := he s3 (upd H2 D (.lst [])) s3.heap.objs.size (cellsFrom (s3.heap.objs.size + 1) scope.names (cloFrom X.env.cells scope.names [])) fp
  show codeAny _ _ (.compStart (.ListComp elt [⟨tg, iter, ifs, 0⟩] scope pos) 0 (.ref it) (.ref D) (compEnvC scope (cellsFrom (s3.heap.objs.size + 1) scope.names (cloFrom X.env.cells scope.names [])) s3.heap.objs.size X.env)) (compPost (model X.prog X.w) X.A X.xe use Qf (.ref D) s3.heap.objs.size) { s3 with heap := pushCells (s3.heap.push { cls := .type "dict", data := .dict #[] }) scope.names }
  have nfp : ∀ b ∈ fp, (upd H2 D (.lst [])) b = none := fun b hb => (f3 b hb).1.1
  generalize hce : compEnvC scope (cellsFrom (s3.heap.objs.size + 1) scope.names (cloFrom X.env.cells scope.names [])) s3.heap.objs.size X.env = ce at I4 pg pt pe ⊢
  have cL : ce.locals = s3.heap.objs.size := by subst hce; rfl
  generalize hH3 : upd H2 D (.lst []) = H3 at I3 I4 pg pt pe w0 nfp f3
  generalize hs4 : ({ s3 with heap := pushCells (s3.heap.push { cls := .type "dict", data := .dict #[] }) scope.names } : Shared) = s4 at I4 ⊢
  have st4 : tn 0 s4.heap := T.keep _ _ _ st3 fun b _ o e => by rw [← hs4]; exact pushCells_keeps _ _ _ _ (Heap.get?_push_of_some _ e)
  have stat : ∀ {σ' : St} {H' : Hp} {s' : Shared}, Inv (X.blk s3 H3 scope ce fp) [] σ' H' s' → (∀ b ∈ fp, H' b = none) → ∀ b ∈ fp, FpOk (X.blk s3 H3 scope ce fp) [] H' b := fun {σ' H' s'} I' hn b hb =>
    ⟨hn b hb, (I'.ok.exf b hb).1, I'.ok.exfs b hb, .inl hb, fun x c e => (I'.ok.exf b hb).2 x c e, fun p hp => absurd (show p ∈ ([] : List (Addr × Obj)) ++ [] from hp) (by simp)⟩
  have loop : codeAny (model X.prog X.w) X.A (.compLoop (.ListComp elt [⟨tg, iter, ifs, 0⟩] scope pos) 0 (.ref it) (.ref D) ce) (compPost (model X.prog X.w) X.A X.xe use Qf (.ref D) s3.heap.objs.size) s4 := by
    refine compLoop_any (fun n s' => ∃ i H', Inv (X.blk s3 H3 scope ce fp) [] (wipe σ (own.map (·.2))) H' s' ∧ tn i s'.heap ∧ (∀ b ∈ fp, H' b = none) ∧ W i n H') ?_ m0 ⟨0, H3, I4, st4, nfp, w0⟩
    rintro n s5 ⟨i, H5, I5, st5, n5, w5⟩
    rcases turn i n H5 w5 with ⟨stop, qq⟩ | ⟨go, Nx, hNx, step⟩
    · have td := T.done (X.blk s3 H3 scope ce fp) rfl rfl rfl hc i [] s5 _ H5 (fun _ _ => False) I5 (stat I5 n5) st5 stop
      refine thnF td fun r s6 ⟨hr, I6⟩ => ?_
      subst hr
      -- back in the def's context
      have I7 : Inv X pins σ H5 s6 := I3.call' (ch := fp) I6.os I6.base I6.hok I6.bare fun b hb => ⟨(f3 b hb).1.2.2.2.1, (f3 b hb).1.2.1, (f3 b hb).1.2.2.2.2.1, (f3 b hb).1.2.2.2.2.2⟩
      have nC : H5 s3.heap.objs.size = none := by
        have z : H5 ce.locals = none := I6.free
        rw [cL] at z
        exact z
      obtain ⟨m, hn, _⟩ := I6.loc
      have hn : s6.heap.Ns ce.locals m := hn
      rw [cL] at hn
      exact hRR D s3.heap.objs.size s6 m H5 I7 qq hn (I3.fpOk (Nat.le_refl _) nC)
    · have ti := T.item (X.blk s3 H3 scope ce fp) rfl rfl rfl hc i [] s5 _ H5 (fun _ _ => False) I5 (stat I5 n5) st5 go
      refine thnF ti fun r s6 ⟨u, hr, h6⟩ => ?_
      subst hr
      refine thnF h6 fun _ s7 ⟨x, H7, I7, r7, y7, st7, n7⟩ => ?_
      have I7' := I7.pinned (stat I7 n7) (T.obj _ _ st7)
      refine thnF (pg _ s7 _ H7 x u _ I7' r7 (step x H7 y7)) fun _ s8 ⟨σ8, H8, I8, hw8, q8⟩ => ?_
      refine thnF (pt _ s8 σ8 H8 _ I8 q8) fun b s9 ⟨H9, I9, q9⟩ => ?_
      -- the turn's end
      have fin : ∀ {s' : Shared} {H' : Hp}, Inv (X.blk s3 H3 scope ce fp) ([] ++ pinsAt fp s7.heap) σ8 H' s' → Nx H' → ∃ m, m < n ∧ ∃ i H', Inv (X.blk s3 H3 scope ce fp) [] (wipe σ (own.map (·.2))) H' s' ∧ tn i s'.heap ∧ (∀ b ∈ fp, H' b = none) ∧ W i m H' := fun {s' H'} I' nx => by
        obtain ⟨m', hm, w'⟩ := hNx H' nx
        have pin' : ∀ b ∈ fp, ∀ o, s7.heap.get? b = some o → s'.heap.get? b = some o ∧ H' b = none := fun b hb o e =>
          let z := I'.pin (b, o) (List.mem_append_right _ (List.mem_append_right _ (mem_pinsAt hb e)))
          ⟨z.1, z.2.1⟩
        have hl : (wipe σ (own.map (·.2))).length = σ8.length := by rw [← hw8, wipe_length]
        refine ⟨m', hm, i + 1, H', (I'.unpinned (pins := [])).weak hl (fun j v e => ?_), T.keep _ _ _ st7 fun b hb o e => (pin' b hb o e).1, fun b hb => ?_, w'⟩
        · rw [← hw8] at e
          exact (wipe_some e).1
        · obtain ⟨o, e, _⟩ := T.obj _ _ st7 b hb
          exact (pin' b hb o e).2
      cases b with
      | false =>
        simp only [Bool.false_eq_true, if_false] at q9 ⊢
        exact fin I9 q9
      | true =>
        simp only [if_true] at q9 ⊢
        refine thnF (pe _ s9 σ8 H9 _ I9 q9) fun z s10 ⟨yv, H10, I10, r10, acc, hD10, hz10, nx⟩ => ?_
        exact app_ok (X := X.blk s3 H3 scope ce fp) I10 hD10 hz10 r10 fun s11 I11 => fin I11 nx
  exact codeAny_compStart_list loop (T.self X.A 0 _ _ _ st4 loop)
/-- as a value -/
theorem pe_lc {elt tg iter : Expr} {ifs : List Expr} {scope : Scope} {own : List (Str × Nat)} {pos : Pos} {wi : TI} {g : TG} {tt : TT} {te : TE} (hc : X.calm = true) (hN : X.N.Nodup) (hi : PI X tg iter wi) (ok : BlkOk X.N X.env.scope scope own)
    (hg : ∀ (s : Shared) (H : Hp) (C : Addr) (cl : List (Str × Addr)) (fp : List Addr), PG (X.blk s H scope (compEnvC scope cl C X.env) fp) tg g) (ht : ∀ (s : Shared) (H : Hp) (C : Addr) (cl : List (Str × Addr)) (fp : List Addr), PTs (X.blk s H scope (compEnvC scope cl C X.env) fp) ifs tt)
    (he : ∀ (s : Shared) (H : Hp) (C : Addr) (cl : List (Str × Addr)) (fp : List Addr), PE (X.blk s H scope (compEnvC scope cl C X.env) fp) elt te) (hs : ∀ x, foldedSetIterable iter X.env x = pure x := by intro _; rfl) :
    PE X (.ListComp elt [⟨tg, iter, ifs, 0⟩] scope pos) (tLc wi g tt te (own.map (·.2))) := by
  intro pins s σ H Q I h
  rw [eval_ListComp]
  refine lc_core hc hN I hi ok hg ht he hs h fun D C s' m H' I' q hn f => ⟨m, hn, fun h'' sb => ?_⟩
  obtain ⟨f0, f1, f2, f3, f4, f5⟩ := f
  exact ⟨.ref D, H', I'.turned (t' := s'.toks) (fun b o hb e => (sb.2 b hb).trans e) f0 f1 f3 f4 f5, rfl, q⟩
end
/-! ### the forms one uses -/
/-- over a list that the block leaves as it is -/
theorem lc_list {K : PySem.W.Frag} {a : Addr} {xs : List V} {g : TG} {tt : TT} {te : TE} {vs : List Nat} {σ : St} {H1 : Hp} {D : Addr} {Qd : Hp → Prop} (Pv : Nat → Hp → Prop) (h0 : Pv 0 (upd H1 D (.lst []))) (hl : ∀ i H, i ≤ xs.length → Pv i H → SqL K H a xs)
    (hs : ∀ i x H, xs[i]? = some x → Pv i H → g x (wipe σ vs) H fun σ2 H2 => wipe σ2 vs = wipe σ vs ∧ tt σ2 H2 fun b H3 =>
      if b = true then te σ2 H3 fun y H4 => ∃ acc, H4 D = some (.lst acc) ∧ acc.length < sizeLine ∧ Pv (i + 1) (upd H4 D (.lst (acc ++ [y]))) else Pv (i + 1) H3) (hd : ∀ H, Pv xs.length H → Qd H) :
    ∃ W : Nat → Nat → Hp → Prop, (∃ m, W 0 m (upd H1 D (.lst []))) ∧ ∀ i m H, W i m H →
      ((Itl K a).stop i H ∧ Qd H) ∨ ((Itl K a).go i H ∧ ∃ Nx : Hp → Prop, (∀ H', Nx H' → ∃ m', m' < m ∧ W (i + 1) m' H') ∧ ∀ x H', (Itl K a).yld i H x H' → g x (wipe σ vs) H' fun σ2 H2 => wipe σ2 vs = wipe σ vs ∧ tt σ2 H2 fun b H3 =>
        if b = true then te σ2 H3 fun y H4 => ∃ acc, H4 D = some (.lst acc) ∧ acc.length < sizeLine ∧ Nx (upd H4 D (.lst (acc ++ [y]))) else Nx H3) := by
  refine ⟨fun i m H => m = xs.length - i ∧ i ≤ xs.length ∧ Pv i H, ⟨xs.length, by simp, Nat.zero_le _, h0⟩, ?_⟩
  rintro i m H ⟨rfl, hi, p⟩
  have q := hl i H hi p
  by_cases hlt : i < xs.length
  · refine .inr ⟨⟨xs, xs[i], q, by simp [hlt]⟩, Pv (i + 1), fun H' p' => ⟨xs.length - (i + 1), by omega, rfl, hlt, p'⟩, fun x H' y => ?_⟩
    obtain ⟨e, y⟩ := y
    subst e
    exact hs i x _ (y xs q) p
  · have e : i = xs.length := by omega
    subst e
    exact .inl ⟨⟨xs, q, Nat.le_refl _⟩, hd H p⟩
/-- over a tuple -/
theorem lc_tup {K : PySem.W.Frag} {a : Addr} {xs : List V} {g : TG} {tt : TT} {te : TE} {vs : List Nat} {σ : St} {H1 : Hp} {D : Addr} {Qd : Hp → Prop} (Pv : Nat → Hp → Prop) (h0 : Pv 0 (upd H1 D (.lst []))) (hl : ∀ i H, i ≤ xs.length → Pv i H → SqT K H a xs)
    (hs : ∀ i x H, xs[i]? = some x → Pv i H → g x (wipe σ vs) H fun σ2 H2 => wipe σ2 vs = wipe σ vs ∧ tt σ2 H2 fun b H3 =>
      if b = true then te σ2 H3 fun y H4 => ∃ acc, H4 D = some (.lst acc) ∧ acc.length < sizeLine ∧ Pv (i + 1) (upd H4 D (.lst (acc ++ [y]))) else Pv (i + 1) H3) (hd : ∀ H, Pv xs.length H → Qd H) :
    ∃ W : Nat → Nat → Hp → Prop, (∃ m, W 0 m (upd H1 D (.lst []))) ∧ ∀ i m H, W i m H →
      ((Itt K a).stop i H ∧ Qd H) ∨ ((Itt K a).go i H ∧ ∃ Nx : Hp → Prop, (∀ H', Nx H' → ∃ m', m' < m ∧ W (i + 1) m' H') ∧ ∀ x H', (Itt K a).yld i H x H' → g x (wipe σ vs) H' fun σ2 H2 => wipe σ2 vs = wipe σ vs ∧ tt σ2 H2 fun b H3 =>
        if b = true then te σ2 H3 fun y H4 => ∃ acc, H4 D = some (.lst acc) ∧ acc.length < sizeLine ∧ Nx (upd H4 D (.lst (acc ++ [y]))) else Nx H3) := by
  refine ⟨fun i m H => m = xs.length - i ∧ i ≤ xs.length ∧ Pv i H, ⟨xs.length, by simp, Nat.zero_le _, h0⟩, ?_⟩
  rintro i m H ⟨rfl, hi, p⟩
  have q := hl i H hi p
  by_cases hlt : i < xs.length
  · refine .inr ⟨⟨xs, xs[i], q, by simp [hlt]⟩, Pv (i + 1), fun H' p' => ⟨xs.length - (i + 1), by omega, rfl, hlt, p'⟩, fun x H' y => ?_⟩
    obtain ⟨e, y⟩ := y
    subst e
    exact hs i x _ (y xs q) p
  · have e : i = xs.length := by omega
    subst e
    exact .inl ⟨⟨xs, q, Nat.le_refl _⟩, hd H p⟩
def blkC (N : List Str) (sc scope : Scope) (own : List (Str × Nat)) : Bool :=
  (match scope.kind with | .function => true | _ => false) && (scope.names.all fun y => decide (scope.names.lookup y.1 = some y.2)) && (own.all fun p => decide (N[p.2]? = some p.1)) &&
    (scope.names.all fun y => match y.2 with
      | .free => (match sc.names.lookup y.1 with | some .cell => true | some .free => true | _ => false)
      | .local => decide (y.1 ∈ own.map (·.1)) || decide (y.1 ∉ N)
      | .cell => decide (y.1 ∈ own.map (·.1)) || decide (y.1 ∉ N)
      | _ => true)
theorem blkOk_by {N : List Str} {sc scope : Scope} {own : List (Str × Nat)} (h : blkC N sc scope own = true) : BlkOk N sc scope own := by
  unfold blkC at h
  simp only [Bool.and_eq_true, List.all_eq_true, decide_eq_true_eq] at h
  obtain ⟨⟨⟨h1, h2⟩, h3⟩, h4⟩ := h
  refine ⟨?_, h2, h3, fun y hy e => ?_, fun y hy e => ?_⟩
  · split at h1
    · assumption
    · cases h1
  · have q := h4 y hy
    simp only [e] at q
    split at q <;> first | exact .inl (by assumption) | exact .inr (by assumption) | cases q
  · have q := h4 y hy
    rcases e with e | e <;> (simp only [e, Bool.or_eq_true, decide_eq_true_eq] at q; exact q)
end L2
namespace L2
open PySem PySem.Spec PyProof.Rows
section
variable {prog : Program} {w : World} {A : Around} {R : Result → Shared → Prop} {s : Shared} {elt t0 i0 t1 i1 : Expr} {ifs0 ifs1 : List Expr} {scope : Scope} {pos : Pos} {it acc : Value} {env : Env}
end
section
variable {X : Cx}
/-- [elt for tg in iter if .. for tg1 in iter1 if ..]: behind the first clause's store and tests the second source's own loop, from which Nx is reached. vs: the block's names; vs1: those of the second target -/
def tLc2 (wi : TI) (g : TG) (tt : TT) (wi1 : TI) (g1 : TG) (tt1 : TT) (te : TE) (vs vs1 : List Nat) : TE := fun σ H Q => wi σ H fun J H1 => ∀ D, H1 D = none → ∃ W : Nat → Nat → Hp → Prop, (∃ m, W 0 m (upd H1 D (.lst []))) ∧ ∀ i m H, W i m H →
  (J.stop i H ∧ Q (.ref D) H) ∨ (J.go i H ∧ ∃ Nx : Hp → Prop, (∀ H', Nx H' → ∃ m', m' < m ∧ W (i + 1) m' H') ∧ ∀ x H', J.yld i H x H' → g x (wipe σ vs) H' fun σ2 H2 => wipe σ2 vs = wipe σ vs ∧ tt σ2 H2 fun b H3 =>
    if b = true then wi1 σ2 H3 fun J1 H4 => ∃ W1 : Nat → Nat → Hp → Prop, (∃ m, W1 0 m H4) ∧ ∀ j k H, W1 j k H →
      (J1.stop j H ∧ Nx H) ∨ (J1.go j H ∧ ∃ Nx1 : Hp → Prop, (∀ H', Nx1 H' → ∃ k', k' < k ∧ W1 (j + 1) k' H') ∧ ∀ x H', J1.yld j H x H' → g1 x (wipe σ2 vs1) H' fun σ3 H5 => wipe σ3 vs1 = wipe σ2 vs1 ∧ tt1 σ3 H5 fun b H6 =>
        if b = true then te σ3 H6 fun y H7 => ∃ acc, H7 D = some (.lst acc) ∧ acc.length < sizeLine ∧ Nx1 (upd H7 D (.lst (acc ++ [y]))) else Nx1 H6)
    else Nx H3)
end
end L2
namespace L2
open PySem PySem.Spec PyProof.Rows
/-! ### lists of pairs as tables -/
section
variable {κ : Type} [DecidableEq κ]
def valV (kvs : List (κ × V)) (k : κ) : Option V := (kvs.find? fun kv => decide (kv.1 = k)).map (·.2)
/-- in its place, or at the end -/
def putK (kvs : List (κ × V)) (k : κ) (v : V) : List (κ × V) :=
  if (kvs.any fun kv => decide (kv.1 = k)) = true then kvs.map (fun kv => if kv.1 = k then (kv.1, v) else kv) else kvs ++ [(k, v)]
def dropK (kvs : List (κ × V)) (k : κ) : List (κ × V) := kvs.filter fun kv => decide (kv.1 ≠ k)
theorem valV_pos {p : κ × V} {r : List (κ × V)} {k : κ} (e : p.1 = k) : valV (p :: r) k = some p.2 := by simp [valV, List.find?_cons, e]
theorem valV_neg {p : κ × V} {r : List (κ × V)} {k : κ} (e : ¬ p.1 = k) : valV (p :: r) k = valV r k := by simp [valV, List.find?_cons, e]
theorem valV_any (k : κ) : ∀ kvs : List (κ × V), (kvs.any fun kv => decide (kv.1 = k)) = (valV kvs k).isSome
  | [] => rfl
  | p :: r => by
    rw [List.any_cons]
    by_cases e : p.1 = k
    · simp only [valV_pos e, decide_eq_true e, Bool.true_or, Option.isSome_some]
    · rw [valV_neg e, decide_eq_false e, Bool.false_or]; exact valV_any k r
theorem valV_map (k j : κ) (y : V) : ∀ kvs : List (κ × V), valV (kvs.map fun kv => if kv.1 = k then (kv.1, y) else kv) j = (valV kvs j).map fun x => if j = k then y else x
  | [] => rfl
  | p :: r => by
    have ih := valV_map k j y r
    rw [List.map_cons]
    by_cases h : p.1 = k
    · rw [if_pos h]
      by_cases e : p.1 = j
      · rw [valV_pos (p := (p.1, y)) e, valV_pos e, Option.map_some, if_pos (e.symm.trans h)]
      · rw [valV_neg (p := (p.1, y)) e, valV_neg e, ih]
    · rw [if_neg h]
      by_cases e : p.1 = j
      · rw [valV_pos (p := p) e, valV_pos e, Option.map_some, if_neg (fun z => h (e.trans z))]
      · rw [valV_neg (p := p) e, valV_neg e, ih]
theorem valV_snoc (k j : κ) (y : V) : ∀ kvs : List (κ × V), valV kvs k = none → valV (kvs ++ [(k, y)]) j = if j = k then some y else valV kvs j
  | [], _ => by
    by_cases e : k = j
    · rw [if_pos e.symm]; exact valV_pos (p := (k, y)) e
    · rw [if_neg (fun z => e z.symm)]; exact valV_neg (p := (k, y)) e
  | p :: r, hn => by
    rw [List.cons_append]
    have hk : ¬ p.1 = k := fun z => by rw [valV_pos z] at hn; cases hn
    rw [valV_neg hk] at hn
    have ih := valV_snoc k j y r hn
    by_cases e : p.1 = j
    · rw [valV_pos e, valV_pos e, if_neg (fun z => hk (e.trans z))]
    · rw [valV_neg e, valV_neg e, ih]
theorem valV_put (kvs : List (κ × V)) (k j : κ) (y : V) : valV (putK kvs k y) j = if j = k then some y else valV kvs j := by
  unfold putK
  by_cases a : (kvs.any fun kv => decide (kv.1 = k)) = true
  · rw [if_pos a, valV_map]
    rw [valV_any] at a
    by_cases e : j = k
    · obtain ⟨x, hx⟩ := Option.isSome_iff_exists.mp a
      rw [if_pos e, e, hx, Option.map_some, if_pos rfl]
    · rw [if_neg e]
      cases valV kvs j with
      | none => rfl
      | some x => rw [Option.map_some, if_neg e]
  · rw [if_neg a]
    refine valV_snoc k j y kvs ?_
    rw [valV_any] at a
    cases q : valV kvs k with
    | none => rfl
    | some x => rw [q] at a; exact (a rfl).elim
theorem length_putK (kvs : List (κ × V)) (k : κ) (v : V) : (putK kvs k v).length ≤ kvs.length + 1 := by
  unfold putK
  split
  · rw [List.length_map]; omega
  · rw [List.length_append, List.length_cons, List.length_nil]; omega
theorem RelO.isSome_eq {o : Option V} {u : Option Value} (r : RelO o u) : o.isSome = u.isSome := by
  cases o with
  | none => cases u with
    | none => rfl
    | some _ => exact (show False from r).elim
  | some _ => cases u with
    | none => exact (show False from r).elim
    | some _ => rfl
theorem RelO.getD {o : Option V} {u : Option Value} {d : V} {d' : Value} (r : RelO o u) (rd : RelV d d') : RelV (o.getD d) (u.getD d') := by
  cases o with
  | none => cases u with
    | none => exact rd
    | some _ => exact (show False from r).elim
  | some _ => cases u with
    | none => exact (show False from r).elim
    | some _ => exact r
/-- raw tables of the same keys -/
theorem KV.val {kvs : List (κ × V)} {vs : List (κ × Value)} (r : KV kvs vs) (k : κ) : RelO (valV kvs k) (valueAt vs k) := by
  unfold KV at r
  induction r with
  | nil => exact True.intro
  | @cons p q ps qs h t ih =>
    obtain ⟨h1, h2⟩ := h
    by_cases e : p.1 = k
    · have e' : q.1 = k := h1.symm.trans e
      have b : valueAt (q :: qs) k = some q.2 := by simp [valueAt, List.find?_cons, e']
      rw [valV_pos e, b]; exact h2
    · have e' : ¬ q.1 = k := fun z => e (h1.trans z)
      have b : valueAt (q :: qs) k = valueAt qs k := by simp [valueAt, List.find?_cons, e']
      rw [valV_neg e, b]; exact ih
theorem KV.any {kvs : List (κ × V)} {vs : List (κ × Value)} (r : KV kvs vs) (k : κ) : (kvs.any fun kv => decide (kv.1 = k)) = vs.any fun kv => decide (kv.1 = k) := by
  unfold KV at r
  induction r with
  | nil => rfl
  | cons h t ih => rw [List.any_cons, List.any_cons, ih, h.1]
theorem KV.repl {kvs : List (κ × V)} {vs : List (κ × Value)} (r : KV kvs vs) (k : κ) {y : V} {u : Value} (ry : RelV y u) :
    KV (kvs.map fun kv => if kv.1 = k then (kv.1, y) else kv) (vs.map fun kv => if kv.1 = k then (kv.1, u) else kv) := by
  unfold KV at r ⊢
  induction r with
  | nil => exact .nil
  | @cons p q ps qs h t ih =>
    rw [List.map_cons, List.map_cons]
    refine .cons ?_ ih
    obtain ⟨h1, h2⟩ := h
    by_cases e : p.1 = k
    · rw [if_pos e, if_pos (h1.symm.trans e)]; exact ⟨h1, ry⟩
    · rw [if_neg e, if_neg (fun z => e (h1.trans z))]; exact ⟨h1, h2⟩
theorem KV.put {kvs : List (κ × V)} {vs : List (κ × Value)} (r : KV kvs vs) (k : κ) {y : V} {u : Value} (ry : RelV y u) : KV (putK kvs k y) (stored vs k u) := by
  unfold putK stored
  rw [r.any k]
  by_cases e : (vs.any fun kv => decide (kv.1 = k)) = true
  · rw [if_pos e, if_pos e]; exact r.repl k ry
  · rw [if_neg e, if_neg e]; exact Paired.snoc r ⟨rfl, ry⟩
theorem KV.drop {kvs : List (κ × V)} {vs : List (κ × Value)} (r : KV kvs vs) (k : κ) : KV (dropK kvs k) (without vs k) := by
  unfold KV at r ⊢
  unfold dropK without
  induction r with
  | nil => exact .nil
  | @cons p q ps qs h t ih =>
    obtain ⟨h1, h2⟩ := h
    rw [List.filter_cons, List.filter_cons]
    by_cases e : p.1 = k
    · have a : ¬ decide (p.1 ≠ k) = true := by simp [e]
      have b : ¬ decide (q.1 ≠ k) = true := by simp [h1.symm.trans e]
      rw [if_neg a, if_neg b]; exact ih
    · have e' : ¬ q.1 = k := fun z => e (h1.trans z)
      have a : decide (p.1 ≠ k) = true := by simp [e]
      have b : decide (q.1 ≠ k) = true := by simp [e']
      rw [if_pos a, if_pos b]; exact .cons ⟨h1, h2⟩ ih
theorem KV.keys {kvs : List (κ × V)} {vs : List (κ × Value)} (r : KV kvs vs) : kvs.map (·.1) = vs.map (·.1) := by
  unfold KV at r
  induction r with
  | nil => rfl
  | cons h t ih => rw [List.map_cons, List.map_cons, ih, h.1]
theorem KV.length {kvs : List (κ × V)} {vs : List (κ × Value)} (r : KV kvs vs) : kvs.length = vs.length := Paired.length r
end
/-! ### a tracked dict, its keys ints and texts or tuples of these -/
theorem kV_is {P : Program} {w : World} {k : Key} {u : Value} (r : RelV (kV k) u) : (mixKind P w).is k u = true := by
  cases k with
  | inl i => obtain ⟨t, e⟩ := (show ∃ t, u = Value.int i t from r); subst e; exact mixKind_int P w i t
  | inr x => obtain ⟨t, e⟩ := (show ∃ t, u = Value.str x t from r); subst e; exact mixKind_str P w x t
theorem items_are {P : Program} {w : World} : ∀ {ks : List Key} {us : List Value}, Vals (ks.map kV) us → ItemsAre (mixKind P w) ks us
  | [], _, r => by rw [List.map_nil] at r; cases r; exact .nil
  | k :: ks, _, r => by
    rw [List.map_cons] at r
    cases r with
    | cons h t => exact .cons (kV_is h) (items_are t)
/-- raw entries of a dict with tuple keys -/
abbrev KT (H : Hp) : List (List Key × V) → List (List Key × Addr × Value) → Prop := Paired fun p q => p.1 = q.1 ∧ H q.2.1 = some (.tup (p.1.map kV)) ∧ RelV p.2 q.2.2
theorem KT.val {H : Hp} {kvs : List (List Key × V)} {xs : List (List Key × Addr × Value)} (r : KT H kvs xs) (k : List Key) : RelO (valV kvs k) ((atKey xs k).map (·.2)) := by
  induction r with
  | nil => exact True.intro
  | @cons p q ps qs h t ih =>
    obtain ⟨h1, _, h2⟩ := h
    by_cases e : p.1 = k
    · have e' : q.1 = k := h1.symm.trans e
      have b : atKey (q :: qs) k = some q.2 := by simp [atKey, List.find?_cons, e']
      rw [valV_pos e, b]; exact h2
    · have e' : ¬ q.1 = k := fun z => e (h1.trans z)
      have b : atKey (q :: qs) k = atKey qs k := by simp [atKey, List.find?_cons, e']
      rw [valV_neg e, b]; exact ih
theorem KT.repl {H : Hp} {kvs : List (List Key × V)} {xs : List (List Key × Addr × Value)} (r : KT H kvs xs) (k : List Key) {y : V} {u : Value} (ry : RelV y u) :
    KT H (kvs.map fun kv => if kv.1 = k then (kv.1, y) else kv) (xs.map (putAt k u)) := by
  induction r with
  | nil => exact .nil
  | @cons p q ps qs h t ih =>
    rw [List.map_cons, List.map_cons]
    refine .cons ?_ ih
    obtain ⟨h1, h2, h3⟩ := h
    unfold putAt
    by_cases e : p.1 = k
    · rw [if_pos e, if_pos (h1.symm.trans e)]; exact ⟨h1, h2, ry⟩
    · rw [if_neg e, if_neg (fun z => e (h1.trans z))]; exact ⟨h1, h2, h3⟩
theorem KT.put {H : Hp} {kvs : List (List Key × V)} {xs : List (List Key × Addr × Value)} (r : KT H kvs xs) (k : List Key) {b : Addr} {y : V} {u : Value} (hb : H b = some (.tup (k.map kV))) (ry : RelV y u) :
    KT H (putK kvs k y) (storedH xs k b u) := by
  have e : (kvs.any fun kv => decide (kv.1 = k)) = (atKey xs k).isSome := by
    rw [valV_any, (r.val k).isSome_eq, Option.isSome_map]
  unfold putK storedH
  rw [e]
  by_cases q : (atKey xs k).isSome = true
  · rw [if_pos q, if_pos q]; exact r.repl k ry
  · rw [if_neg q, if_neg q]; exact Paired.snoc r ⟨rfl, hb, ry⟩
theorem KT.keeps {H H' : Hp} {kvs : List (List Key × V)} {xs : List (List Key × Addr × Value)} (r : KT H kvs xs) (ht : ∀ b ys, H b = some (.tup ys) → H' b = some (.tup ys)) : KT H' kvs xs :=
  Paired.mapP r fun _ _ z => ⟨z.1, ht _ _ z.2.1, z.2.2⟩
section
variable {P : Program} {w : World} {H : Hp} {h : Heap} {a : Addr}
theorem rd_of {u : HO} (ok : HOk P w H h) (e : Rd H a u) : ObjOk P w H h a u := e.ok ok
theorem dk_rd {kvs : List (Key × V)} (ok : HOk P w H h) (e : Rd H a (.dK kvs)) : kvs.length ≤ sizeLine ∧ (a == sysModules) = false ∧ ∃ vs, KV kvs vs ∧ h.DictOf (mixKind P w) a vs :=
  show ObjOk P w H h a (.dK kvs) from rd_of ok e
theorem dk_of {kvs : List (Key × V)} (ok : HOk P w H h) (e : H a = some (.dK kvs)) : kvs.length ≤ sizeLine ∧ (a == sysModules) = false ∧ ∃ vs, KV kvs vs ∧ h.DictOf (mixKind P w) a vs := dk_rd ok (.inl e)
/-- a tracked tuple of ints and texts is a key -/
theorem key_of {ks : List Key} (ok : HOk P w H h) (e : H a = some (.tup (ks.map kV))) : (tupleKind (mixKind P w)).is h ks a := by
  obtain ⟨_, its, r, o, h1, h2, n, h3⟩ := (show ObjOk P w H h a (.tup (ks.map kV)) from ok a _ e)
  exact ⟨o, its.toArray, n, h1, h2, h3, by simpa using items_are r⟩
theorem dt_rd {kvs : List (List Key × V)} (ok : HOk P w H h) (e : Rd H a (.dT kvs)) : kvs.length ≤ sizeLine ∧ (a == sysModules) = false ∧
    ∃ xs, KT H kvs xs ∧ h.DictOfH (tupleKind (mixKind P w)) a xs := by
  obtain ⟨z, y, xs, r, o, es, ep, h1, h2, h3, h4, h5⟩ := (show ObjOk P w H h a (.dT kvs) from rd_of ok e)
  refine ⟨z, y, xs, r, o, es, ep, h1, h2, h3, h4, fun x hx => ?_, h5⟩
  have all : ∀ {l : List (List Key × V)} {m : List (List Key × Addr × Value)}, KT H l m → ∀ x ∈ m, (tupleKind (mixKind P w)).is h x.1 x.2.1 := by
    intro l m q
    induction q with
    | nil => intro x hx; exact nomatch hx
    | @cons p q ps qs hq t ih =>
      intro x hx
      rcases List.mem_cons.mp hx with e | hx
      · subst e
        exact key_of ok (by rw [← hq.1]; exact hq.2.1)
      · exact ih x hx
  exact all r x hx
theorem dt_of {kvs : List (List Key × V)} (ok : HOk P w H h) (e : H a = some (.dT kvs)) : kvs.length ≤ sizeLine ∧ (a == sysModules) = false ∧
    ∃ xs, KT H kvs xs ∧ h.DictOfH (tupleKind (mixKind P w)) a xs := dt_rd ok (.inl e)
end
/-- what the dict at a holds at the key y -/
def DGet (H : Hp) (a : Addr) (y : V) (r : Option V) : Prop :=
  (∃ kvs k, Rd H a (.dK kvs) ∧ y = kV k ∧ r = valV kvs k) ∨ ∃ kvs k b, Rd H a (.dT kvs) ∧ y = .ref b ∧ H b = some (.tup (k.map kV)) ∧ r = valV kvs k
/-- the heap behind a[y] = v -/
def DPut (H : Hp) (a : Addr) (y v : V) (H' : Hp) : Prop :=
  (∃ kvs k, H a = some (.dK kvs) ∧ y = kV k ∧ kvs.length < sizeLine ∧ H' = upd H a (.dK (putK kvs k v))) ∨
  ∃ kvs k b, H a = some (.dT kvs) ∧ y = .ref b ∧ H b = some (.tup (k.map kV)) ∧ kvs.length < sizeLine ∧ H' = upd H a (.dT (putK kvs k v))
theorem DGet.k {H : Hp} {a : Addr} {kvs : List (Key × V)} {k : Key} (e : H a = some (.dK kvs)) : DGet H a (kV k) (valV kvs k) := .inl ⟨kvs, k, .inl e, rfl, rfl⟩
theorem DGet.t {H : Hp} {a b : Addr} {kvs : List (List Key × V)} {k : List Key} (e : H a = some (.dT kvs)) (eb : H b = some (.tup (k.map kV))) : DGet H a (.ref b) (valV kvs k) := .inr ⟨kvs, k, b, .inl e, rfl, eb, rfl⟩
theorem DPut.k {H : Hp} {a : Addr} {kvs : List (Key × V)} {k : Key} {v : V} (e : H a = some (.dK kvs)) (hl : kvs.length < sizeLine) : DPut H a (kV k) v (upd H a (.dK (putK kvs k v))) := .inl ⟨kvs, k, e, rfl, hl, rfl⟩
theorem DPut.t {H : Hp} {a b : Addr} {kvs : List (List Key × V)} {k : List Key} {v : V} (e : H a = some (.dT kvs)) (eb : H b = some (.tup (k.map kV))) (hl : kvs.length < sizeLine) :
    DPut H a (.ref b) v (upd H a (.dT (putK kvs k v))) := .inr ⟨kvs, k, b, e, rfl, eb, hl, rfl⟩
section
variable {X : Cx} {pins : List (Addr × Obj)} {σ : St} {H : Hp} {s : Shared} {a : Addr} {y v : V} {u r : Value} {o : Option V} {A : Around} {E : Value → Shared → Prop}
theorem Inv.big (I : Inv X pins σ H s) : sysModules < s.heap.objs.size := by
  have h : mainGlobals < s.heap.objs.size := (I.mod.glob.keeps I.bk).lt
  exact Nat.lt_trans (by decide) h
/-- d[y], there -/
theorem d_getItem {Q : Value → Shared → Prop} (hu : A.units + 1 < cLine) (I : Inv X pins σ H s) (g : DGet H a y (some v)) (ry : RelV y u) (h : ∀ w' s', Inv X pins σ H s' → RelV v w' → Q w' s') :
    wpAny (model X.prog X.w) A (getItem (.ref a) u) Q E s := by
  rcases g with ⟨kvs, k, e, ey, l⟩ | ⟨kvs, k, b, e, ey, eb, l⟩
  · subst ey
    obtain ⟨z, hd, vs, rel, dd⟩ := dk_rd I.hok e
    obtain ⟨w', hw, rw'⟩ := RelO.some_of (v := v) (o := valueAt vs k) (by rw [l]; exact rel.val k)
    exact wpAny_getItem_of (kV_is ry) dd.mapOf hw (h w' _ (I.tok _) rw')
  · subst ey
    cases (show u = Value.ref b from ry)
    obtain ⟨z, hd, xs, rel, dd⟩ := dt_rd I.hok e
    obtain ⟨w', hw, rw'⟩ := RelO.some_of (v := v) (o := (atKey xs k).map (·.2)) (by rw [l]; exact rel.val k)
    obtain ⟨p, hp, hp2⟩ := Option.map_eq_some_iff.mp hw
    refine wpAny_getItem_heap (tupleKind_room_in1 hu) (key_of I.hok eb) dd hp ?_
    rw [hp2]
    exact h w' _ (I.tok _) rw'
theorem d_notIn {Q : Value → Shared → Prop} (hu : A.units + 1 < cLine) (I : Inv X pins σ H s) (g : DGet H a y o) (ry : RelV y u) (h : ∀ s', Inv X pins σ H s' → Q (.bool (!o.isSome)) s') :
    wpAny (model X.prog X.w) A (compareOp .NotIn u (.ref a)) Q E s := by
  rcases g with ⟨kvs, k, e, ey, l⟩ | ⟨kvs, k, b, e, ey, eb, l⟩
  · subst ey
    obtain ⟨z, hd, vs, rel, dd⟩ := dk_rd I.hok e
    refine wpAny_notIn_of (kV_is ry) hd dd.mapOf ?_
    rw [← (rel.val k).isSome_eq, ← l]
    exact h _ (I.tok _)
  · subst ey
    cases (show u = Value.ref b from ry)
    obtain ⟨z, hd, xs, rel, dd⟩ := dt_rd I.hok e
    refine wpAny_notIn_heap (tupleKind_room_in1 hu) (key_of I.hok eb) hd dd ?_
    have q := (rel.val k).isSome_eq
    rw [Option.isSome_map] at q
    rw [← q, ← l]
    exact h _ (I.tok _)
/-- a dict's object is replaced -/
theorem d_write {h' : Heap} {t' : Nat} {ob : HO} (I : Inv X pins σ H s) (mu : Mut (H a)) (hs : Heap.SameBut a s.heap h') (he : ∃ q, h'.get? a = some q) (new : ObjOk X.prog X.w (upd H a ob) h' a ob) :
    Inv X pins σ (upd H a ob) { s with heap := h', toks := t' } :=
  I.write (x := a) (e := a) mu (.inl rfl) (fun b q hb z => (hs.2 b hb).trans z) he new
theorem dk_new {P : Program} {w : World} {H' : Hp} {h' : Heap} {kvs : List (Key × V)} {vs : List (Key × Value)} (z : kvs.length ≤ sizeLine) (hd : (a == sysModules) = false) (rel : KV kvs vs) (dd : h'.DictOf (mixKind P w) a vs) :
    ObjOk P w H' h' a (.dK kvs) := ⟨z, hd, vs, rel, dd⟩
/-- d[y] = v -/
theorem d_setItem {H' : Hp} {Q : Unit → Shared → Prop} (hu : A.units + 1 < cLine) (I : Inv X pins σ H s) (g : DPut H a y v H') (ry : RelV y u) (rv : RelV v r) (h : ∀ s', Inv X pins σ H' s' → Q () s') :
    wpAny (model X.prog X.w) A (setItem (.ref a) u r) Q E s := by
  rcases g with ⟨kvs, k, e, ey, l, eH⟩ | ⟨kvs, k, b, e, ey, eb, l, eH⟩
  · subst ey eH
    obtain ⟨z, hd, vs, rel, dd⟩ := dk_of I.hok e
    have hz : vs.length ≤ sizeLine := by rw [← rel.length]; exact z
    have hl : (putK kvs k v).length ≤ sizeLine := by have := length_putK kvs k v; omega
    refine wpAny_setItem_pairs (hsz := hz) (kV_is ry) dd fun h' dd' hs => h _ ?_
    have he : ∃ q, h'.get? a = some q := let ⟨q, _, _, hq, _⟩ := dd'; ⟨q, hq⟩
    exact d_write I (by rw [e]; exact True.intro) hs he (dk_new hl hd (rel.put k rv) dd')
  · subst ey eH
    cases (show u = Value.ref b from ry)
    obtain ⟨z, hd, xs, rel, dd⟩ := dt_of I.hok e
    have hz : xs.length ≤ sizeLine := by rw [← Paired.length rel]; exact z
    have hl : (putK kvs k v).length ≤ sizeLine := by have := length_putK kvs k v; omega
    refine wpAny_setItem_heap (hsz := hz) (tupleKind_room_in1 hu) (key_of I.hok eb) dd fun h' dd' hs => h _ ?_
    obtain ⟨q, es, ep, hq, h2, h3, h4, _, h5⟩ := dd'
    refine d_write I (by rw [e]; exact True.intro) hs ⟨q, hq⟩ ⟨hl, hd, _, (rel.put k eb rv).keeps fun c ys ec => ?_, q, es, ep, hq, h2, h3, h4, h5⟩
    rw [upd_ne (ne_of ec e (fun z => nomatch z))]
    exact ec
end
section
variable {X : Cx} {pins : List (Addr × Obj)} {σ : St} {H : Hp} {s : Shared} {a : Addr} {kvs : List (Key × V)} {k : Key} {u : Value} {A : Around} {E : Value → Shared → Prop}
end
/-! ### readings and rules -/
/-- the element of a subscription, not a slice -/
def NoSl (i : Expr) : Prop := ∀ ov iv, subscripted i false ov iv = operate [ov, iv] (getItem ov iv)
theorem subD_of {prog : Program} {w : World} {A : Around} {E : Value → Shared → Prop} {s : Shared} {env : Env} {value slice : Expr} {pos : Pos} {T id : String} {Q : Value → Shared → Prop}
    (hl : typeLookup (.type T) "__getitem__" = pure (some (.builtin id))) (hs : NoSl slice)
    (h : wpAny (model prog w) A (eval value env) (fun o s₁ => wpAny (model prog w) A (eval slice env) (fun i s₂ => s₂.TypeIs o T ∧ wpAny (model prog w) A (getItem o i) Q E s₂) E s₁) E s) :
    wpAny (model prog w) A (eval (.Subscript value slice pos) env) Q E s := by
  refine Subscript_ (wpAny_mono h (fun o s₁ h₁ => wpAny_mono h₁ (fun i s₂ h₂ => ?_) fun _ _ x => x) fun _ _ x => x)
  obtain ⟨hT, h₂⟩ := h₂
  unfold subscriptTail
  refine wpAny_bind ?_
  rw [getitemInPython_of_ne hT.not_modules]
  refine wpAny_bind (wpAny_specialOf hT hl ?_)
  have fin : wpAny (model prog w) A (subscripted slice false o i) (fun r s₃ => wpAny (model prog w) A (letTemporaryGo value o r >>= fun _ => pure r) Q E s₃) E s₂ := by
    rw [hs o i]
    exact wpAny_operating (wpAny_mono h₂ (fun r s₃ h₃ => wpAny_bind (wpAny_letTemporaryGo (wpAny_pure h₃))) fun _ _ x => x)
  first
    | exact wpAny_pure (wpAny_bind fin)
    | exact wpAny_bind (wpAny_pure (wpAny_bind fin))
    | exact wpAny_bind fin
theorem dict_typeIs {X : Cx} {pins : List (Addr × Obj)} {σ : St} {H : Hp} {s : Shared} {a : Addr} {y : V} {o : Option V} (I : Inv X pins σ H s) (g : DGet H a y o) : s.TypeIs (.ref a) "dict" := by
  rcases g with ⟨kvs, k, e, _, _⟩ | ⟨kvs, k, b, e, _, _, _⟩
  · obtain ⟨_, _, vs, _, dd⟩ := dk_rd I.hok e
    exact dd.typeIs
  · obtain ⟨_, _, xs, _, dd⟩ := dt_rd I.hok e
    exact dd.typeIs
/-- d[y] -/
def tDGet (td ty : TE) : TE := fun σ H Q => td σ H fun x H1 => ty σ H1 fun y H2 => ∃ a v, x = .ref a ∧ DGet H2 a y (some v) ∧ Q v H2
/-- y in d, y not in d -/
def tDIn (ty td : TE) : TE := fun σ H Q => ty σ H fun y H1 => td σ H1 fun x H2 => ∃ a o, x = .ref a ∧ DGet H2 a y o ∧ Q (.bl o.isSome) H2
def tDNotIn (ty td : TE) : TE := fun σ H Q => ty σ H fun y H1 => td σ H1 fun x H2 => ∃ a o, x = .ref a ∧ DGet H2 a y o ∧ Q (.bl (!o.isSome)) H2
/-- d[y] = v -/
def sDPut (td ty tv : TE) : TS := fun D σ H => tv σ H fun v H1 => td σ H1 fun x H2 => ty σ H2 fun y H3 => ∃ a H4, x = .ref a ∧ DPut H3 a y v H4 ∧ D.nx σ H4
/-- d[y] op= v -/
def sDAug (td ty tv : TE) (rd : V → V → Hp → VK → Prop) : TS := fun D σ H => td σ H fun x H1 => ty σ H1 fun y H2 => ∃ a v, x = .ref a ∧ DGet H2 a y (some v) ∧
  tv σ H2 fun y2 H3 => rd v y2 H3 fun z H4 => ∃ H5, DPut H4 a y z H5 ∧ D.nx σ H5
/-- del d[y] -/
def sDDel (td ty : TE) : TS := fun D σ H => td σ H fun x H1 => ty σ H1 fun y H2 => ∃ a kvs k, x = .ref a ∧ H2 a = some (.dK kvs) ∧ y = kV k ∧ (valV kvs k).isSome = true ∧ D.nx σ (upd H2 a (.dK (dropK kvs k)))
section
variable {X : Cx} {o i e value : Expr} {pos pos' tpos : Pos} {td ty tv : TE}
theorem pe_dget (hu : X.A.units + 1 < cLine) (ho : PE X o td) (hi : PE X i ty) (hs : NoSl i) : PE X (.Subscript o i pos) (tDGet td ty) := by
  intro pins s σ H Q I h
  refine subD_of PySem.F.slot_dict_getitem.lookup hs (thn (ho pins s σ H _ I h) fun u s1 ⟨x, H1, I1, rx, q1⟩ => thn (hi pins s1 σ H1 _ I1 q1) fun iv s2 ⟨y, H2, I2, ry, a, v, ex, g, q2⟩ => ?_)
  subst ex
  obtain rfl : u = Value.ref a := rx
  exact ⟨dict_typeIs I2 g, d_getItem hu I2 g ry fun w' s3 I3 rw' => ⟨v, H2, I3, rw', q2⟩⟩
theorem pc_dnotin (hu : X.A.units + 1 < cLine) (hi : PE X i ty) (ho : PE X o td) : PC X .NotIn i o (tDNotIn ty td) := by
  intro pins s σ H Q I h
  refine thn (hi pins s σ H _ I h) fun iv s1 ⟨y, H1, I1, ry, q1⟩ => thn (ho pins s1 σ H1 _ I1 q1) fun u s2 ⟨x, H2, I2, rx, a, ov, ex, g, q2⟩ => ?_
  subst ex
  obtain rfl : u = Value.ref a := rx
  exact d_notIn hu I2 g ry fun s3 I3 => ⟨.bl (!ov.isSome), H2, I3, rfl, q2⟩
theorem ps_dput (hu : X.A.units + 1 < cLine) (ho : PE X o td) (hi : PE X i ty) (hv : PE X value tv) (hs : swapsWith value (some (.Subscript o i pos')) pos.line X.env = pure false) :
    PS X (.Assign [.Subscript o i pos'] value pos) (sDPut td ty tv) := by
  intro pins s σ H D I h
  refine wpAny_Assign_Subscript (thn (hv pins s σ H _ I h) fun r s1 ⟨v, H1, I1, rv, q1⟩ => thn (ho pins s1 σ H1 _ I1 q1) fun u s2 ⟨x, H2, I2, rx, q2⟩ => thn (hi pins s2 σ H2 _ I2 q2) fun iv s3 ⟨y, H3, I3, ry, a, H4, ex, g, q3⟩ => ?_) hs
  subst ex
  obtain rfl : u = Value.ref a := rx
  exact d_setItem hu I3 g ry rv fun s4 I4 => ⟨σ, H4, I4, q3⟩
end
/-! ### displays -/
theorem dt_empty {P : Program} {w : World} {H : Hp} (h : Heap) (hb : sysModules < h.objs.size) : ObjOk P w H (h.push { cls := .type "dict", data := .dict #[] }) h.objs.size (.dT []) :=
  ⟨Nat.zero_le _, beq_eq_false_iff_ne.mpr (Ne.symm (Nat.ne_of_lt hb)), [], .nil, _, #[], 0, Heap.get?_push_size _ rfl, ⟨rfl, rfl, rfl⟩, rfl, rfl, List.nodup_nil⟩
/-- {}, to be a dict of the kind that is wanted -/
def tDNewK : TE := fun _ H Q => ∀ p, H p = none → Q (.ref p) (upd H p (.dK []))
def tDNewT : TE := fun _ H Q => ∀ p, H p = none → Q (.ref p) (upd H p (.dT []))
section
variable {X : Cx} {pos : Pos}
theorem pe_dnewT : PE X (.Dict [] [] pos) tDNewT := fun pins s σ H Q I h =>
  wpAny_Dict_empty ⟨.ref s.heap.objs.size, _, I.laid (a := s.heap.objs.size) (o := .dT []) (t' := s.toks) (fun _ _ q => Heap.get?_push_of_some _ q) (Nat.le_refl _) (dt_empty s.heap I.big), rfl, h _ (I.hok.fresh (Nat.le_refl _))⟩
end
/-- the pairs of a display, from the left -/
def tPairs : List (TE × TE) → St → Hp → (List (V × V) → Hp → Prop) → Prop
  | [], _, H, Q => Q [] H
  | (tk, tv) :: r, σ, H, Q => tk σ H fun x H1 => tv σ H1 fun y H2 => tPairs r σ H2 fun ps H3 => Q ((x, y) :: ps) H3
abbrev VV : List (V × V) → List (Value × Value) → Prop := Paired fun p q => RelV p.1 q.1 ∧ RelV p.2 q.2
def PPs (X : Cx) (pos : Pos) (keys : List (Option Expr)) (values : List Expr) (trs : List (TE × TE)) : Prop :=
  ∀ (pins : List (Addr × Obj)) (s : Shared) (σ : St) (H : Hp) (Q : List (V × V) → Hp → Prop), Inv X pins σ H s → tPairs trs σ H Q →
    wpAny (model X.prog X.w) X.A (evalPairs (pairTrees keys values X.env pos)) (fun vs s' => ∃ ps H', Inv X pins σ H' s' ∧ VV ps vs ∧ Q ps H') X.xe s
def mergeK (kvs more : List (Key × V)) : List (Key × V) := more.foldl (fun acc kv => putK acc kv.1 kv.2) kvs
/-- {k: v, ..} with keys ints and texts; the new dict stands empty while the pairs are made -/
def tDisp (trs : List (TE × TE)) : TE := fun σ H Q => ∀ p, H p = none → tPairs trs σ (upd H p (.dK [])) fun ps H2 => H2 p = some (.dK []) ∧ ∃ kvs : List (Key × V), ps = kvs.map (fun kv => (kV kv.1, kv.2)) ∧ kvs.length ≤ 15 ∧ Q (.ref p) (upd H2 p (.dK (mergeK [] kvs)))
/-! ### methods -/
/-- a method call o.m(e) of a built-in, with one argument: what must be seen of the text -/
structure M1 (X : Cx) (o : Expr) (m : Str) (apos : Pos) (e : Expr) (cpos : Pos) : Prop where
  base : attributeBase o m X.env (eval o X.env) = eval o X.env
  few : ((backTo cpos (starEach [e] X.env)).all (fun x => !x.1) && (backToKw cpos (keywordEach [] X.env)).all (fun x => x.1.isSome)
    && decide (([e] : List Expr).length + ([] : List Keyword).length + (if ([] : List Keyword).isEmpty then 0 else 1) < 30)) = true
  line : (apos.endLine == cpos.line) = true
  trees : backTo cpos (starEach [e] X.env) = [(false, eval e X.env)]
structure M2 (X : Cx) (o : Expr) (m : Str) (apos : Pos) (e f : Expr) (cpos : Pos) : Prop where
  base : attributeBase o m X.env (eval o X.env) = eval o X.env
  few : ((backTo cpos (starEach [e, f] X.env)).all (fun x => !x.1) && (backToKw cpos (keywordEach [] X.env)).all (fun x => x.1.isSome)
    && decide (([e, f] : List Expr).length + ([] : List Keyword).length + (if ([] : List Keyword).isEmpty then 0 else 1) < 30)) = true
  line : (apos.endLine == cpos.line) = true
  trees : backTo cpos (starEach [e, f] X.env) = [(false, eval e X.env), (false, eval f X.env)]
/-- a is a dict, whatever its keys -/
def IsD (H : Hp) (a : Addr) : Prop := (∃ kvs, Rd H a (.dK kvs)) ∨ ∃ kvs, Rd H a (.dT kvs)
theorem isD_at {X : Cx} {pins : List (Addr × Obj)} {σ : St} {H : Hp} {s : Shared} {a : Addr} (I : Inv X pins σ H s) (d : IsD H a) :
    s.TypeIs (.ref a) "dict" ∧ (∀ b, Value.ref a = .ref b → ∃ ob, s.heap.get? b = some ob ∧ ob.dict = none) ∧ (a == sysModules) = false := by
  rcases d with ⟨kvs, e⟩ | ⟨kvs, e⟩
  · obtain ⟨_, hd, vs, _, dd⟩ := dk_rd I.hok e
    refine ⟨dd.typeIs, fun b q => ?_, hd⟩
    cases q
    obtain ⟨ob, _, _, h1, h2, _⟩ := dd
    exact ⟨ob, h1, h2.2.1⟩
  · obtain ⟨_, hd, xs, _, dd⟩ := dt_rd I.hok e
    refine ⟨dd.typeIs, fun b q => ?_, hd⟩
    cases q
    obtain ⟨ob, _, _, h1, h2, _⟩ := dd
    exact ⟨ob, h1, h2.2.1⟩
section
variable {X : Cx} {pins : List (Addr × Obj)} {σ : St} {H : Hp} {s : Shared} {a : Addr} {y d : V} {u r : Value} {o : Option V} {A : Around} {E : Value → Shared → Prop}
/-- d.get(y, x) -/
theorem d_get2 {Q : Value → Shared → Prop} (hu : A.units + 1 < cLine) (I : Inv X pins σ H s) (g : DGet H a y o) (ry : RelV y u) (rd : RelV d r) (h : ∀ w' s', Inv X pins σ H s' → RelV (o.getD d) w' → Q w' s') :
    wpAny (model X.prog X.w) A (call (.builtin "dict.get") [.ref a, u, r]) Q E s := by
  rcases g with ⟨kvs, k, e, ey, l⟩ | ⟨kvs, k, b, e, ey, eb, l⟩
  · subst ey
    obtain ⟨z, hd, vs, rel, dd⟩ := dk_rd I.hok e
    refine call_meetsIn PySem.F.slot_dict_get dd.typeIs PySem.F.entry_dict_get (PySem.F.args_dict_get_3 _ _ _) (meets_dict_get_default (mixKind X.prog X.w) a (kV_is ry) hd r) ⟨_, dd.mapOf, h _ _ (I.tok _) ?_⟩
    rw [l]
    exact (rel.val k).getD rd
  · subst ey
    cases (show u = Value.ref b from ry)
    obtain ⟨z, hd, xs, rel, dd⟩ := dt_rd I.hok e
    refine call_meetsIn PySem.F.slot_dict_get dd.typeIs PySem.F.entry_dict_get (PySem.F.args_dict_get_3 _ _ _) (meetsH_dict_get_default (tupleKind (mixKind X.prog X.w)) a b hd r) ⟨tupleKind_room_in1 hu, k, xs, key_of I.hok eb, dd, h _ _ (I.tok _) ?_⟩
    rw [l]
    exact (rel.val k).getD rd
end
def tDGet1 (td ty : TE) : TE := fun σ H Q => td σ H fun x H1 => ∃ a, x = .ref a ∧ IsD H1 a ∧ ty σ H1 fun y H2 => ∃ o, DGet H2 a y o ∧ Q (o.getD .non) H2
def tDGet2 (td ty tx : TE) : TE := fun σ H Q => td σ H fun x H1 => ∃ a, x = .ref a ∧ IsD H1 a ∧ ty σ H1 fun y H2 => tx σ H2 fun z H3 => ∃ o, DGet H3 a y o ∧ Q (o.getD z) H3
/-- d.pop(k): there; d.pop(k, x): there or not -/
def tDPop1 (td ty : TE) : TE := fun σ H Q => td σ H fun x H1 => ∃ a, x = .ref a ∧ IsD H1 a ∧ ty σ H1 fun y H2 => ∃ kvs k v, H2 a = some (.dK kvs) ∧ y = kV k ∧ valV kvs k = some v ∧ Q v (upd H2 a (.dK (dropK kvs k)))
def tDPop2 (td ty tx : TE) : TE := fun σ H Q => td σ H fun x H1 => ∃ a, x = .ref a ∧ IsD H1 a ∧ ty σ H1 fun y H2 => tx σ H2 fun z H3 => ∃ kvs k, H3 a = some (.dK kvs) ∧ y = kV k ∧
  (∀ v, valV kvs k = some v → Q v (upd H3 a (.dK (dropK kvs k)))) ∧ (valV kvs k = none → Q z H3)
section
variable {X : Cx} {o e f : Expr} {apos cpos : Pos} {td ty tx : TE}
theorem pe_dget2 (hu : X.A.units + 1 < cLine) (ho : PE X o td) (he : PE X e ty) (hf : PE X f tx) (m : M2 X o "get" apos e f cpos) : PE X (.Call (.Attribute o "get" apos) [e, f] [] cpos) (tDGet2 td ty tx) := by
  intro pins s σ H Q I h
  refine wpAny_Call_method m.base m.few m.line PySem.F.plainAttrs_dict PySem.F.slot_dict_get PySem.F.type_dict_get (thn (ho pins s σ H _ I h) fun u s1 ⟨x, H1, I1, rx, a, ex, d, q1⟩ => ?_)
  subst ex
  obtain rfl : u = Value.ref a := rx
  obtain ⟨t1, t2, _⟩ := isD_at I1 d
  refine ⟨t1, t2, ?_⟩
  rw [m.trees]
  refine Calls.callWith_builtin rfl (Calls.evalArgs_plain (Calls.spliced_cons (thn (he pins s1 σ H1 _ I1 q1) fun iv s2 ⟨y, H2, I2, ry, q2⟩ =>
    Calls.spliced_cons (thn (hf pins s2 σ H2 _ I2 q2) fun fv s3 ⟨z, H3, I3, rz, ov, g, q3⟩ => Calls.spliced_nil ?_))))
  exact d_get2 hu I3 g ry rz fun w' s4 I4 rw' => ⟨_, H3, I4, rw', q3⟩
end
/-! ### dict(d): a copy -/
section
variable {X : Cx} {pins : List (Addr × Obj)} {σ : St} {H : Hp} {s : Shared} {a : Addr} {kvs : List (Key × V)} {A : Around} {E : Value → Shared → Prop}
end
section
variable {X : Cx} {pins : List (Addr × Obj)} {σ : St} {H : Hp} {s : Shared} {a : Addr} {y : V} {u : Value} {A : Around} {E : Value → Shared → Prop}
end
end L2
namespace L2
open PySem PySem.Spec PyProof.Rows
section
variable {prog : Program} {w : World} {A : Around} {E : Value → Shared → Prop}
end
section
variable {X : Cx}
end
end L2
namespace L2
open PySem PySem.Spec PyProof.Rows
section
variable {X : Cx} {pins : List (Addr × Obj)} {σ : St} {H : Hp} {s : Shared} {h' : Heap}
/-- several records of ours have turned -/
theorem Inv.turnedL {t' : Nat} {ch : List Addr} (I : Inv X pins σ H s) (k : ∀ b o, b ∉ ch → s.heap.get? b = some o → h'.get? b = some o) (hf : ∀ b ∈ ch, FpOk X pins H b) : Inv X pins σ H { s with heap := h', toks := t' } := by
  have nit : ∀ b u, H b = some u → b ∉ ch := fun b u e z => by
    have q := (hf b z).1
    rw [q] at e; cases e
  refine I.step (g' := s.gens) (d' := s.drawn) (ch := ch) (fun b hb => ⟨(hf b hb).2.2.2.1, (hf b hb).2.1, (hf b hb).2.2.2.2.1, (hf b hb).2.2.2.2.2⟩) (fun b o _ _ hc e _ => k b o hc e) (fun b o _ _ hc e _ => ⟨o.slots, k b o hc e⟩)
    (fun _ _ _ _ n => n) (fun b o hc e => ⟨o, k b o hc e⟩) (fun _ _ e => e) (fun _ _ _ e => e) (fun b ps e => ⟨#[], by rw [e]; simp⟩) (fun m hm => ?_) (fun b u e => ?_) I.bare
  · obtain ⟨o, es, ep, ho, r⟩ := hm
    exact ⟨o, es, ep, k _ o (fun z => (hf _ z).2.1 rfl) ho, r⟩
  · refine (I.hok b u e).stay (fun c v hc q => k c v ?_ q) (fun _ q => q) fun _ _ q => q
    rcases hc with z | z
    · rw [z]; exact nit b u e
    · exact nit c _ z
/-- .. and one new object is laid -/
theorem Inv.turnedNew {t' : Nat} {ch : List Addr} {T : Addr} {ob : HO} (I : Inv X pins σ H s) (k : ∀ b o, b ∉ ch → s.heap.get? b = some o → h'.get? b = some o) (hf : ∀ b ∈ ch, FpOk X pins H b) (hT : s.heap.objs.size ≤ T)
    (new : ObjOk X.prog X.w (upd H T ob) h' T ob) : Inv X pins σ (upd H T ob) { s with heap := h', toks := t' } := by
  have hn : H T = none := I.hok.fresh hT
  have nit : ∀ b u, H b = some u → b ∉ ch := fun b u e z => by
    have q := (hf b z).1
    rw [q] at e; cases e
  refine I.step (g' := s.gens) (d' := s.drawn) (ch := ch) (fun b hb => ⟨(hf b hb).2.2.2.1, (hf b hb).2.1, (hf b hb).2.2.2.2.1, (hf b hb).2.2.2.2.2⟩) (fun b o _ _ hc e _ => k b o hc e) (fun b o _ _ hc e _ => ⟨o.slots, k b o hc e⟩)
    (fun b o _ e n => ?_) (fun b o hc e => ⟨o, k b o hc e⟩) (fun b xs e => ?_) (fun b o u e => ?_) (fun b ps e => ⟨#[], ?_⟩) (fun m hm => ?_) (fun b u e => ?_) I.bare
  · rw [upd_ne (Nat.ne_of_lt (Nat.lt_of_lt_of_le (Heap.lt_size e) hT))]; exact n
  · rw [upd_ne (ne_of_none e hn)]; exact e
  · rw [upd_ne (ne_of_none e hn)]; exact e
  · rw [upd_ne (ne_of_none e hn), e]; simp
  · obtain ⟨o, es, ep, ho, r⟩ := hm
    exact ⟨o, es, ep, k _ o (fun z => (hf _ z).2.1 rfl) ho, r⟩
  · by_cases hb : b = T
    · subst hb
      rw [upd_same] at e
      cases e
      exact new
    · rw [upd_ne hb] at e
      refine (I.hok b u e).stay (fun c v hc q => k c v ?_ q) (fun c q => by rw [upd_ne (ne_of_none q hn)]; exact q) fun c xs q => by rw [upd_ne (ne_of_none q hn)]; exact q
      rcases hc with z | z
      · rw [z]; exact nit b u e
      · exact nit c _ z
/-! ### locking a thing while a statement runs -/
end
/-- the statement runs while the thing at d is locked (read, not written); d and what stands there are the reading's choice -/
def tLock (t : TS) : TS := fun D σ H => ∃ d u, H d = some u ∧ Mut (some u) ∧ ∀ od, t ⟨fun σ' H' => H' d = some (.frz od u) ∧ D.nx σ' (upd H' d u), fun v H' => H' d = some (.frz od u) ∧ D.rt v (upd H' d u), fun σ' H' => H' d = some (.frz od u) ∧ D.bk σ' (upd H' d u), fun σ' H' => H' d = some (.frz od u) ∧ D.ct σ' (upd H' d u)⟩ σ (upd H d (.frz od u))
def tLockE (t : TE) : TE := fun σ H Q => ∃ d u, H d = some u ∧ Mut (some u) ∧ ∀ od, t σ (upd H d (.frz od u)) fun v H' => H' d = some (.frz od u) ∧ Q v (upd H' d u)
section
variable {X : Cx}
/-! ### one iterator just laid -/
theorem pi_one {tg : Expr} {pins : List (Addr × Obj)} {σ : St} {H : Hp} {s : Shared} {R : It → Hp → Prop} {J : It} {tn : Nat → Heap → Prop} {tk : Nat} (I : Inv X pins σ H s) (o : Obj)
    (T : Turn X.prog X.w X.K tg J [s.heap.objs.size] s.heap.objs.size tn) (st : tn 0 (s.heap.push o)) (q : R J H) : PIE X pins σ tg R (.ref s.heap.objs.size) { s with heap := s.heap.push o, toks := tk } := by
  refine ⟨s.heap.objs.size, [s.heap.objs.size], tn, J, H, rfl, I.kept fun b ob e => Heap.get?_push_of_some _ e, T, st, fun b hb => ?_, q⟩
  have e : b = s.heap.objs.size := by simpa using hb
  subst e
  exact I.fpOk (Nat.le_refl _) (I.hok.fresh (Nat.le_refl _))
end
/-! ### range with a step -/
/-- lo, lo + c, .. (n of them) -/
def Itc (lo c : Int) (n : Nat) : It := ⟨fun i _ => i < n, fun i H x H' => H' = H ∧ x = .int (lo + (i : Nat) * c), fun i _ => n ≤ i⟩
theorem turn_rangeC {P : Program} {w : World} {K : PySem.W.Frag} {tg : Expr} (it : Addr) (lo c : Int) (n : Nat) : Turn P w K tg (Itc lo c n) [it] it (fun i h => IsRangeIter h it (lo + (i : Nat) * c) ((n : Int) - (i : Nat)) c) where
  mem := by simp
  obj := fun i h st b hb => by
    have e : b = it := by simpa using hb
    subst e
    exact ⟨_, st, fun v z => nomatch z⟩
  keep := fun i h h' st k => k it (by simp) _ st
  item := by
    intro X hP hw hK hc i pins s σ H E I hf st hg
    subst hP hw hK
    obtain ⟨f0, f1, f2, f3, f4, f5⟩ := hf it (by simp)
    have W := Walks.range (prog := X.prog) (w := X.w) (I.ok.hd hc) it lo c n
    refine W.item i s _ _ hg st fun v h' tk hv st' kk => ?_
    obtain ⟨t, rfl⟩ := hv
    have I1 : Inv X pins σ H { s with heap := h', toks := tk } := I.turned (fun b o hb e => kk b o (by simpa using hb) e) f0 f1 f3 f4 f5
    exact ⟨_, rfl, go_of (s := { s with heap := h', toks := tk }) (n := "range_iterator") st' rfl rfl (by decide) ⟨.int (lo + (i : Nat) * c), H, I1, ⟨t, rfl⟩, ⟨rfl, rfl⟩, st', fun b hb => (hf b hb).1⟩⟩
  done := by
    intro X hP hw hK hc i pins s σ H E I hf st hg
    subst hP hw hK
    obtain ⟨f0, f1, f2, f3, f4, f5⟩ := hf it (by simp)
    exact wpAny_pyNext_range_end (I.ok.hd hc) st (by have : n ≤ i := hg; omega) fun h' eb => ⟨rfl, I.turned (t' := s.toks) (fun b o hb e => eb b o hb e) f0 f1 f3 f4 f5⟩
  self := fun A i s Q E st h => wpAny_pyIter_rangeiter st h
/-- range(i, j, c): small bounds, n items -/
def RgC (i j c : Int) (n : Nat) : Prop := c ≠ 0 ∧ c.natAbs < 1073741824 ∧ Builtin.Range.small i j c = true ∧ Builtin.Range.rangeSize i j c = n
theorem RgC.neg {i j : Int} (ha : -(2 ^ 62) ≤ i) (ha' : i < 2 ^ 62) (hb : -(2 ^ 62) ≤ j) (hb' : j < 2 ^ 62) : RgC i j (-1) (i - j).toNat :=
  ⟨by decide, by decide, PySem.W.small_down ha ha' hb hb', PySem.W.rangeSize_downNat i j⟩
def iRng3 (ta : TA) : TI := fun σ H R => ta σ H fun vs H1 => ∃ (i j c : Int) (n : Nat), vs = [.int i, .int j, .int c] ∧ RgC i j c n ∧ R (Itc i c n) H1
section
variable {X : Cx} {tg : Expr}
theorem pi_range3 {a b c : Expr} {ta : TA} {p pos : Pos} (hg : Gl X "range") (hm : X.mg "range" = none) (ha : PA X [a, b, c] ta)
    (hs : starEach [a, b, c] X.env = (false, eval a X.env) :: starEach [b, c] X.env := by rfl) (hpl : (backTo pos (starEach [b, c] X.env)).any (·.1) = false := by rfl) :
    PI X tg (.Call (.Name "range" p) [a, b, c] [] pos) (iRng3 ta) := by
  intro pins s σ H R I h
  refine Call_ (ld_blt I hg hm boot_range (PyProof.Rows.callWith_type1 (thn (ha pos pins s σ H _ I h) fun us s1 ⟨vs, H1, I1, r1, q1⟩ => ?_) hs hpl))
  obtain ⟨i, j, k, n, e, ⟨c0, c1, c2, c3⟩, q⟩ := q1
  subst e
  cases r1 with
  | cons r rr =>
    cases rr with
    | cons r' rr =>
      cases rr with
      | cons r'' rr =>
        cases rr
        obtain ⟨t, rfl⟩ := r
        obtain ⟨t', rfl⟩ := r'
        obtain ⟨t'', rfl⟩ := r''
        refine call_range_3 c0 ?_ (.inl (PyProof.noPylong_small c1))
        refine wpAny_pyIter_range (IsRange.new ..) c2 ?_
        have I2 : Inv X pins σ H1 { s1 with heap := s1.heap.push { cls := .type "range", data := .fields #[.int i t, .int j t', .int k t''] } } := I1.kept (t' := s1.toks) fun b o e => Heap.get?_push_of_some _ e
        refine pi_one (tk := s1.toks) I2 _ (turn_rangeC _ i k n) ?_ q
        have e1 : i + ((0 : Nat) : Int) * k = i := by simp
        have e2 : (n : Int) - ((0 : Nat) : Int) = Builtin.Range.rangeSize i j k := by rw [c3]; simp
        show IsRangeIter _ _ (i + ((0 : Nat) : Int) * k) ((n : Int) - ((0 : Nat) : Int)) k
        rw [e1, e2]
        exact Heap.get?_push_size _ rfl
end
/-! ### reversed(list) -/
/-- the list at a (n items at the start, which the loop leaves there), from its end -/
def Itv (K : PySem.W.Frag) (a : Addr) (n : Nat) : It :=
  ⟨fun i H => i < n ∧ ∃ (xs : List V) (x : V), SqL K H a xs ∧ xs[n - 1 - i]? = some x, fun i H x H' => H' = H ∧ ∀ xs, SqL K H a xs → xs[n - 1 - i]? = some x, fun i _ => n ≤ i⟩
def iRev (K : PySem.W.Frag) (ta : TA) : TI := fun σ H R => ta σ H fun vs H1 => ∃ (a : Addr) (xs : List V), vs = [.ref a] ∧ SqL K H1 a xs ∧ R (Itv K a xs.length) H1
section
variable {X : Cx} {tg : Expr}
end
/-! ### a str -/
def Its (x : Str) : It := ⟨fun i _ => i < x.cps.size, fun i H v H' => H' = H ∧ ∃ c, x.cps[i]? = some c ∧ v = .str ⟨#[c]⟩, fun i _ => x.cps.size ≤ i⟩
def iStr (te : TE) : TI := fun σ H R => te σ H fun v H1 => ∃ x, v = .str x ∧ R (Its x) H1
/-! ### a dict's keys: any dict's entries -/
section
variable {prog : Program} {w : World} {A : Around} {E : Value → Shared → Prop} {s : Shared}
end
/-! ### a locked dict -/
section
variable {X : Cx} {pins : List (Addr × Obj)} {σ : St} {H : Hp} {s : Shared} {d : Addr} {o : Obj}
end
/-- the keys of the locked dict at d, in their order -/
def Itk (d : Addr) (o : Obj) (kvs : List (Key × V)) : It :=
  ⟨fun i H => H d = some (.frz o (.dK kvs)) ∧ i < kvs.length, fun i H x H' => H' = H ∧ ∃ k v, kvs[i]? = some (k, v) ∧ x = kV k, fun i H => H d = some (.frz o (.dK kvs)) ∧ kvs.length ≤ i⟩
/-- .. of tuple keys: the key's own tuple -/
def Itkt (d : Addr) (o : Obj) (kvs : List (List Key × V)) : It :=
  ⟨fun i H => H d = some (.frz o (.dT kvs)) ∧ i < kvs.length, fun i H x H' => H' = H ∧ ∃ (k : List Key) (v : V) (q : Addr), kvs[i]? = some (k, v) ∧ x = .ref q ∧ H q = some (.tup (k.map kV)), fun i H => H d = some (.frz o (.dT kvs)) ∧ kvs.length ≤ i⟩
/-- the values -/
def Itd (d : Addr) (o : Obj) (kvs : List (Key × V)) : It :=
  ⟨fun i H => H d = some (.frz o (.dK kvs)) ∧ i < kvs.length, fun i H x H' => H' = H ∧ ∃ k, kvs[i]? = some (k, x), fun i H => H d = some (.frz o (.dK kvs)) ∧ kvs.length ≤ i⟩
/-- the pairs, each a new tuple -/
def Iti (d : Addr) (o : Obj) (kvs : List (Key × V)) : It :=
  ⟨fun i H => H d = some (.frz o (.dK kvs)) ∧ i < kvs.length, fun i H x H' => ∃ T k v, kvs[i]? = some (k, v) ∧ x = .ref T ∧ H T = none ∧ H' = upd H T (.tup [kV k, v]), fun i H => H d = some (.frz o (.dK kvs)) ∧ kvs.length ≤ i⟩
section
variable {P : Program} {w : World} {K : PySem.W.Frag} {tg : Expr} {d : Addr} {o : Obj} {es : Array DictEntry} {ep : Nat}
end
/-! ### for k in d, d.keys(), d.values(), d.items() -/
/-- the dict is locked (tLock, or by the caller) -/
def iKeys (td : TE) : TI := fun σ H R => td σ H fun x H1 => ∃ d o, x = .ref d ∧ ((∃ kvs, H1 d = some (.frz o (.dK kvs)) ∧ R (Itk d o kvs) H1) ∨ ∃ kvs, H1 d = some (.frz o (.dT kvs)) ∧ R (Itkt d o kvs) H1)
def iVals (td : TE) : TI := fun σ H R => td σ H fun x H1 => ∃ d o kvs, x = .ref d ∧ H1 d = some (.frz o (.dK kvs)) ∧ R (Itd d o kvs) H1
def iItems (td : TE) : TI := fun σ H R => td σ H fun x H1 => ∃ d o kvs, x = .ref d ∧ H1 d = some (.frz o (.dK kvs)) ∧ R (Iti d o kvs) H1
def iKeysM (td : TE) : TI := fun σ H R => td σ H fun x H1 => ∃ d o kvs, x = .ref d ∧ H1 d = some (.frz o (.dK kvs)) ∧ R (Itk d o kvs) H1
section
variable {X : Cx} {tg e : Expr} {td : TE} {apos cpos : Pos}
end
/-! ### enumerate(list) -/
/-- the list at a as it stands at each turn, each item in a new pair -/
def Ite (K : PySem.W.Frag) (a : Addr) : It :=
  ⟨fun i H => ∃ (xs : List V) (x : V), SqL K H a xs ∧ xs[i]? = some x, fun i H v H' => ∃ T x, v = .ref T ∧ H T = none ∧ H' = upd H T (.tup [.int (i : Nat), x]) ∧ ∀ xs, SqL K H a xs → xs[i]? = some x, fun i H => ∃ xs : List V, SqL K H a xs ∧ xs.length ≤ i⟩
theorem turn_enum {P : Program} {w : World} {K : PySem.W.Frag} {elts : List Expr} {kk : Nat} {tpos : Pos} (a e it : Addr) :
    Turn P w K (.Tuple elts kk tpos) (Ite K a) [e, it] e (fun i h => (∃ old, IsEnum h e it ((i : Nat) : Int) old) ∧ h.IsListIter it a i ∧ e ≠ it) where
  mem := by simp
  obj := fun i h st b hb => by
    obtain ⟨⟨old, he⟩, ⟨o, ho, hc, hd⟩, _⟩ := st
    have e' : b = e ∨ b = it := by simpa using hb
    rcases e' with z | z
    · rw [z]; exact ⟨_, he, fun v q => nomatch q⟩
    · rw [z]; exact ⟨o, ho, fun v q => by rw [hd] at q; cases q⟩
  keep := fun i h h' st k => let ⟨⟨old, he⟩, hi, hne⟩ := st; ⟨⟨old, k e (by simp) _ he⟩, hi.at fun o q => k it (by simp) o q, hne⟩
  item := by
    intro X hP hw hK hc i pins s σ H E I hf st hg
    subst hP hw hK
    obtain ⟨⟨old, he⟩, hit, hne⟩ := st
    obtain ⟨xs, x, hq, hx⟩ := hg
    obtain ⟨its, rv, p, hz⟩ := I.list hq
    obtain ⟨u, hu, ru⟩ := rv.get hx
    have hel : e < s.heap.objs.size := Heap.lt_size he
    have hil : it < s.heap.objs.size := by obtain ⟨_, q, _⟩ := hit; exact Heap.lt_size q
    refine wpAny_pyNext_enum_item he hit p.isList (x := u) (by simpa using hu) hne fun h' ho hit' hT hsz hk => ?_
    refine ⟨_, rfl, wpAny_letOwnedTupleGo_enum (s := { s with heap := h', toks := s.toks + 1 }) ho fun h'' he' sb => ?_⟩
    have hT2 : h''.get? s.heap.objs.size = some { cls := .type "tuple", data := .seq #[.int i s.toks, u] } := (sb.2 _ (Nat.ne_of_gt hel)).trans hT
    have new : ObjOk X.prog X.w (upd H s.heap.objs.size (.tup [.int (i : Nat), x])) h'' s.heap.objs.size (.tup [.int (i : Nat), x]) :=
      ⟨by show 2 ≤ sizeLine; decide, [.int i s.toks, u], .cons ⟨_, rfl⟩ (.cons ru .nil), ⟨_, hT2, rfl, _, rfl⟩⟩
    have I1 : Inv X pins σ (upd H s.heap.objs.size (.tup [.int (i : Nat), x])) { s with heap := h'', toks := s.toks + 1 } :=
      I.turnedNew (ch := [e, it]) (fun b ob hb q => (sb.2 b (fun z => hb (by simp [z]))).trans (hk b ob (fun z => hb (by simp [z])) (fun z => hb (by simp [z])) q)) hf (Nat.le_refl _) new
    refine ⟨.ref s.heap.objs.size, _, I1, rfl, ⟨_, x, rfl, I.hok.fresh (Nat.le_refl _), rfl, fun ys hy => by rw [I.list_inj hy hq]; exact hx⟩, ⟨⟨u, ?_⟩, hit'.at fun o q => (sb.2 it (Ne.symm hne)).trans q, hne⟩, fun b hb => ?_⟩
    · have e1 : ((i + 1 : Nat) : Int) = (i : Int) + 1 := by omega
      rw [e1]; exact he'
    · have hb' : b < s.heap.objs.size := by
        have e' : b = e ∨ b = it := by simpa using hb
        rcases e' with z | z
        · rw [z]; exact hel
        · rw [z]; exact hil
      rw [upd_ne (Nat.ne_of_lt hb')]
      exact (hf b hb).1
  done := by
    intro X hP hw hK hc i pins s σ H E I hf st hg
    subst hP hw hK
    obtain ⟨⟨old, he⟩, hit, hne⟩ := st
    obtain ⟨xs, hq, hx⟩ := hg
    obtain ⟨its, rv, p, hz⟩ := I.list hq
    obtain ⟨f0, f1, f2, f3, f4, f5⟩ := hf it (by simp)
    have hl := rv.length
    exact wpAny_pyNext_enum_end (I.ok.hd hc) he hit p.isList (by simp; omega) fun h' eb => ⟨rfl, I.turned (t' := s.toks) (fun b o hb q => eb b o hb q) f0 f1 f3 f4 f5⟩
  self := fun A i s Q E st h => let ⟨⟨_, he⟩, _⟩ := st; wpAny_pyIter_enum he h
def iEnum (K : PySem.W.Frag) (ta : TA) : TI := fun σ H R => ta σ H fun vs H1 => ∃ a xs, vs = [.ref a] ∧ SqL K H1 a xs ∧ R (Ite K a) H1
theorem pi_enum {X : Cx} {e : Expr} {ta : TA} {p pos tpos : Pos} {elts : List Expr} {kk : Nat} (hg : Gl X "enumerate") (hm : X.mg "enumerate" = none) (ha : PA X [e] ta) (hs : starEach [e] X.env = [(false, eval e X.env)] := by rfl) :
    PI X (.Tuple elts kk tpos) (.Call (.Name "enumerate" p) [e] [] pos) (iEnum X.K ta) := by
  intro pins s σ H R I h
  refine Call_ (ld_blt I hg hm boot_enumerate (PyProof.Rows.callWith_type1 (thn (ha pos pins s σ H _ I h) fun us s1 ⟨vs, H1, I1, r1, q1⟩ => ?_) hs rfl))
  obtain ⟨a, xs, ex, hq, q⟩ := q1
  subst ex
  cases r1 with
  | cons r rr =>
    cases rr
    cases r
    obtain ⟨its, rv, p', hz⟩ := I1.list hq
    refine call_enumerate_list p'.isList fun h' he hit hsz hk => wpAny_pyIter_enum he ?_
    have I2 : Inv X pins σ H1 { s1 with heap := h' } := I1.kept (t' := s1.toks) hk
    refine ⟨s1.heap.objs.size + 1, [s1.heap.objs.size + 1, s1.heap.objs.size], _, _, H1, rfl, I2, turn_enum a (s1.heap.objs.size + 1) s1.heap.objs.size, ⟨⟨.none, he⟩, hit, Nat.succ_ne_self _⟩, fun b hb => ?_, q⟩
    have e' : b = s1.heap.objs.size + 1 ∨ b = s1.heap.objs.size := by simpa using hb
    have hle : s1.heap.objs.size ≤ b := by
      rcases e' with z | z
      · rw [z]; exact Nat.le_add_right _ _
      · rw [z]; exact Nat.le_refl _
    exact I1.fpOk hle (I1.hok.fresh hle)
/-! ### zip(list, list) -/
theorem boot_zip5 : bootBuiltins "zip" = some (.type "zip") := by decide +kernel
/-- the lists at a and b as they stand at each turn, the items in new pairs -/
def Itz (K : PySem.W.Frag) (a b : Addr) : It :=
  ⟨fun i H => ∃ (xs ys : List V) (x y : V), SqL K H a xs ∧ SqL K H b ys ∧ xs[i]? = some x ∧ ys[i]? = some y,
    fun i H v H' => ∃ T x y, v = .ref T ∧ H T = none ∧ H' = upd H T (.tup [x, y]) ∧ (∀ xs, SqL K H a xs → xs[i]? = some x) ∧ ∀ ys, SqL K H b ys → ys[i]? = some y,
    fun i H => ∃ xs ys : List V, SqL K H a xs ∧ SqL K H b ys ∧ (xs.length ≤ i ∨ ys.length ≤ i)⟩
theorem turn_zip {P : Program} {w : World} {K : PySem.W.Frag} {elts : List Expr} {kk : Nat} {tpos : Pos} {a b z TI TO i1 i2 : Addr} (D : ZipApart z TI TO i1 i2 a b) :
    Turn P w K (.Tuple elts kk tpos) (Itz K a b) [z, TI, TO, i1, i2] z (fun i h => IsZip h z TI TO .none ∧ IsPair h TI (.ref i1) (.ref i2) ∧ (∃ x y, IsPair h TO x y) ∧ h.IsListIter i1 a i ∧ h.IsListIter i2 b i) where
  mem := by simp
  obj := fun i h st c hc => by
    obtain ⟨hz, hTI, ⟨x, y, hTO⟩, ⟨o1, e1, _, d1⟩, ⟨o2, e2, _, d2⟩⟩ := st
    have e' : c = z ∨ c = TI ∨ c = TO ∨ c = i1 ∨ c = i2 := by simpa using hc
    rcases e' with q | q | q | q | q
    · rw [q]; exact ⟨_, hz, fun v q => nomatch q⟩
    · rw [q]; exact ⟨_, hTI, fun v q => nomatch q⟩
    · rw [q]; exact ⟨_, hTO, fun v q => nomatch q⟩
    · rw [q]; exact ⟨o1, e1, fun v q => by rw [d1] at q; cases q⟩
    · rw [q]; exact ⟨o2, e2, fun v q => by rw [d2] at q; cases q⟩
  keep := fun i h h' st k => by
    obtain ⟨hz, hTI, ⟨x, y, hTO⟩, h1, h2⟩ := st
    exact ⟨k z (by simp) _ hz, k TI (by simp) _ hTI, ⟨x, y, k TO (by simp) _ hTO⟩, h1.at fun o q => k i1 (by simp) o q, h2.at fun o q => k i2 (by simp) o q⟩
  item := by
    intro X hP hw hK hc i pins s σ H E I hf st hg
    subst hP hw hK
    obtain ⟨hz, hTI, ⟨x0, y0, hTO⟩, h1, h2⟩ := st
    obtain ⟨xs, ys, x, y, hqx, hqy, hx, hy⟩ := hg
    obtain ⟨its, rv, p, _⟩ := I.list hqx
    obtain ⟨its2, rv2, p2, _⟩ := I.list hqy
    obtain ⟨u, hu, ru⟩ := rv.get hx
    obtain ⟨u2, hu2, ru2⟩ := rv2.get hy
    have hzl : z < s.heap.objs.size := Heap.lt_size hz
    refine wpAny_pyNext_zip_item D hz hTI hTO h1 h2 p.isList p2.isList (x := u) (y := u2) (by simpa using hu) (by simpa using hu2) fun h' z' TO' h1' h2' hT hsz hk => ?_
    refine ⟨_, rfl, wpAny_letOwnedTupleGo_zip (s := { s with heap := h' }) z' fun h'' z'' sb => ?_⟩
    have hT2 : h''.get? s.heap.objs.size = some { cls := .type "tuple", data := .seq #[u, u2] } := (sb.2 _ (Nat.ne_of_gt hzl)).trans hT
    have new : ObjOk X.prog X.w (upd H s.heap.objs.size (.tup [x, y])) h'' s.heap.objs.size (.tup [x, y]) :=
      ⟨by show 2 ≤ sizeLine; decide, [u, u2], .cons ru (.cons ru2 .nil), ⟨_, hT2, rfl, _, rfl⟩⟩
    have I1 : Inv X pins σ (upd H s.heap.objs.size (.tup [x, y])) { s with heap := h'' } :=
      I.turnedNew (t' := s.toks) (ch := [z, TI, TO, i1, i2]) (fun c o hb q => (sb.2 c (fun q' => hb (by simp [q']))).trans (hk c o (fun q' => hb (by simp [q'])) (fun q' => hb (by simp [q'])) (fun q' => hb (by simp [q'])) (fun q' => hb (by simp [q'])) q)) hf (Nat.le_refl _) new
    refine ⟨.ref s.heap.objs.size, _, I1, rfl, ⟨_, x, y, rfl, I.hok.fresh (Nat.le_refl _), rfl, fun l hl => by rw [I.list_inj hl hqx]; exact hx, fun l hl => by rw [I.list_inj hl hqy]; exact hy⟩, ⟨z'', ?_, ⟨u, u2, ?_⟩, ?_, ?_⟩, fun c hcm => ?_⟩
    · exact (sb.2 _ D.TIz).trans (hk _ _ D.TIz D.TITO D.TIi1 D.TIi2 hTI)
    · exact (sb.2 _ D.TOz).trans TO'
    · exact h1'.at fun o q => (sb.2 _ D.i1z).trans q
    · exact h2'.at fun o q => (sb.2 _ D.i2z).trans q
    · have hlt : c < s.heap.objs.size := by
        have e' : c = z ∨ c = TI ∨ c = TO ∨ c = i1 ∨ c = i2 := by simpa using hcm
        rcases e' with q | q | q | q | q
        · rw [q]; exact hzl
        · rw [q]; exact Heap.lt_size hTI
        · rw [q]; exact Heap.lt_size hTO
        · rw [q]; obtain ⟨_, e1, _⟩ := h1; exact Heap.lt_size e1
        · rw [q]; obtain ⟨_, e2, _⟩ := h2; exact Heap.lt_size e2
      rw [upd_ne (Nat.ne_of_lt hlt)]
      exact (hf c hcm).1
  done := by
    intro X hP hw hK hc i pins s σ H E I hf st hg
    subst hP hw hK
    obtain ⟨hz, hTI, ⟨x0, y0, hTO⟩, h1, h2⟩ := st
    obtain ⟨xs, ys, hqx, hqy, hend⟩ := hg
    obtain ⟨its, rv, p, _⟩ := I.list hqx
    obtain ⟨its2, rv2, p2, _⟩ := I.list hqy
    have l1 := rv.length
    have l2 := rv2.length
    have he : its.toArray[i]? = none ∨ its2.toArray[i]? = none := by
      rcases hend with q | q
      · exact .inl (by simp; omega)
      · exact .inr (by simp; omega)
    exact wpAny_pyNext_zip_end (I.ok.hd hc) D hz hTI hTO h1 h2 p.isList p2.isList he fun h' hk => ⟨rfl, I.turnedL (t' := s.toks) (ch := [z, TI, TO, i1, i2]) (fun c o hb q =>
      hk c o (fun q' => hb (by simp [q'])) (fun q' => hb (by simp [q'])) (fun q' => hb (by simp [q'])) (fun q' => hb (by simp [q'])) q) hf⟩
  self := fun A i s Q E st h => wpAny_pyIter_zip st.1 h
def iZip (K : PySem.W.Frag) (ta : TA) : TI := fun σ H R => ta σ H fun vs H1 => ∃ a b xs ys, vs = [.ref a, .ref b] ∧ SqL K H1 a xs ∧ SqL K H1 b ys ∧ R (Itz K a b) H1
theorem pi_zip {X : Cx} {e e2 : Expr} {ta : TA} {p pos tpos : Pos} {elts : List Expr} {kk : Nat} (hg : Gl X "zip") (hm : X.mg "zip" = none) (ha : PA X [e, e2] ta)
    (hs : starEach [e, e2] X.env = (false, eval e X.env) :: starEach [e2] X.env := by rfl) (hpl : (backTo pos (starEach [e2] X.env)).any (·.1) = false := by rfl) :
    PI X (.Tuple elts kk tpos) (.Call (.Name "zip" p) [e, e2] [] pos) (iZip X.K ta) := by
  intro pins s σ H R I h
  refine Call_ (ld_blt I hg hm boot_zip5 (PyProof.Rows.callWith_type1 (thn (ha pos pins s σ H _ I h) fun us s1 ⟨vs, H1, I1, r1, q1⟩ => ?_) hs hpl))
  obtain ⟨a, b, xs, ys, ex, hqx, hqy, q⟩ := q1
  subst ex
  cases r1 with
  | cons r rr =>
    cases rr with
    | cons r' rr =>
      cases rr
      cases r
      cases r'
      obtain ⟨its, rv, p1, _⟩ := I1.list hqx
      obtain ⟨its2, rv2, p2, _⟩ := I1.list hqy
      have la : a < s1.heap.objs.size := p1.lt
      have lb : b < s1.heap.objs.size := p2.lt
      refine call_zip_2 p1.isList p2.isList fun h' hz hTI hTO h1 h2 hsz hk => wpAny_pyIter_zip hz ?_
      have I2 : Inv X pins σ H1 { s1 with heap := h' } := I1.kept (t' := s1.toks) hk
      refine ⟨s1.heap.objs.size + 4, [s1.heap.objs.size + 4, s1.heap.objs.size + 2, s1.heap.objs.size + 3, s1.heap.objs.size, s1.heap.objs.size + 1], _, _, H1, rfl, I2, turn_zip (PySem.W.ktu_apart s1.heap.objs.size a b la lb), ⟨hz, hTI, ⟨_, _, hTO⟩, h1, h2⟩, fun c hcm => ?_, q⟩
      have e' : c = s1.heap.objs.size + 4 ∨ c = s1.heap.objs.size + 2 ∨ c = s1.heap.objs.size + 3 ∨ c = s1.heap.objs.size ∨ c = s1.heap.objs.size + 1 := by simpa using hcm
      have hle : s1.heap.objs.size ≤ c := by
        rcases e' with z | z | z | z | z
        · rw [z]; exact Nat.le_add_right _ _
        · rw [z]; exact Nat.le_add_right _ _
        · rw [z]; exact Nat.le_add_right _ _
        · rw [z]; exact Nat.le_refl _
        · rw [z]; exact Nat.le_add_right _ _
      exact I1.fpOk hle (I1.hok.fresh hle)
end L2
section 
namespace Bits
open PySem PyProof.Rows
end Bits
end 
section 
namespace TL
open PySem PySem.Builtin PySem.Builtin.Str PySem.StrLaws
abbrev tl (x : Str) : List Nat := x.cps.toList
/-! ### the list functions -/
/-- S stands at the head of l -/
def pre (S l : List Nat) : Bool := l.take S.length == S
/-- l cut at each S from the left; k signs are still to be passed over -/
def spl (S : List Nat) : Nat → List Nat → List Nat → List (List Nat)
  | _, acc, [] => [acc]
  | 0, acc, c :: r => if pre S (c :: r) = true then acc :: spl S (S.length - 1) [] r else spl S 0 (acc ++ [c]) r
  | k + 1, acc, _ :: r => spl S k acc r
/-- what stands before the first S, and behind it -/
def par (S : List Nat) : List Nat → List Nat → Option (List Nat × List Nat)
  | _, [] => none
  | acc, c :: r => if pre S (c :: r) = true then some (acc, (c :: r).drop S.length) else par S (acc ++ [c]) r
/-! ### the model's split and partition are these -/
/-! ### computing spl and par -/
/-- joined lists -/
def joinL (S : List Nat) : List (List Nat) → List Nat
  | [] => []
  | [p] => p
  | p :: q :: r => p ++ (S ++ joinL S (q :: r))
/-! ### digits -/
/-- the signs of a number -/
def numL (n : Nat) : List Nat := (Nat.toDigits 10 n).map Char.toNat
/-! ### words: x.split() -/
def wstep (st : List (List Nat) × List Nat) (c : Nat) : List (List Nat) × List Nat :=
  if Unicode.isSpace c = true then (if st.2 = [] then st else (st.1 ++ [st.2], [])) else (st.1, st.2 ++ [c])
def wfin (st : List (List Nat) × List Nat) : List (List Nat) := if st.2 = [] then st.1 else st.1 ++ [st.2]
end TL
end 
namespace L2
open PySem PySem.Spec PyProof.Rows
/-- a new list of texts, tracked -/
def rNewStrs (ys : List Str) : Hp → VK → Prop := fun H Q => ∀ p, H p = none → Q (.ref p) (upd H p (.lst (ys.map V.str)))
section
variable {X : Cx} {pins : List (Addr × Obj)} {σ : St} {H : Hp} {s : Shared} {Q : VK}
end
section
variable {X : Cx}
/-! ### of a text alone -/
/-! ### of a text and a text -/
end
section
variable {X : Cx} {o e : Expr} {to te : TE}
def tM0 (r : V → List V → Hp → VK → Prop) (to : TE) : TE := fun σ H Q => to σ H fun x H1 => (∃ a, x = .str a) ∧ r x [] H1 Q
def tM1 (r : V → List V → Hp → VK → Prop) (to te : TE) : TE := fun σ H Q => to σ H fun x H1 => (∃ a, x = .str a) ∧ te σ H1 fun y H2 => r x [y] H2 Q
end
end L2
namespace L2
open PySem PySem.Spec PyProof.Rows
section
variable {X : Cx}
end
/-! ### slices of a text -/
theorem IsPart.raw {v : Value} {o : Option Int} (p : IsPart v o) : ∃ l : Option (Int × Tok), v = partValue l ∧ l.map (·.1) = o := by
  cases p with
  | none => exact ⟨none, rfl, rfl⟩
  | int i t => exact ⟨some (i, t), rfl, rfl⟩
/-- a part, clipped, as the text's slice reckons it -/
def clipS (n d : Nat) : Option Int → Int
  | none => (d : Int)
  | some i => max 0 (min (if i < 0 then i + (n : Int) else i) (n : Int))
/-- z[lo:hi] -/
def cutS (z : Str) (lo hi : Option Int) : Str :=
  ⟨((z.cps.toList.drop (HT.sIx z.length 0 lo)).take (HT.sIx z.length z.length hi - HT.sIx z.length 0 lo)).toArray⟩
def rSlS : V → Option Int → Option Int → Hp → VK → Prop := fun x lo hi H Q => ∃ z, x = .str z ∧ z.length ≤ sizeLine ∧ Q (.str (cutS z lo hi)) H
end L2
namespace Att
open PySem PySem.W PySem.Calls PyProof.Rows
/-! ### the script -/
theorem ints_of_wellAll {P : Params} {h : Heap} : ∀ (ns : List Int) (vs : List Value), WellAll P h vs (ns.map WData.int) → IntsAre vs ns := by
  intro ns
  induction ns with
  | nil =>
    intro vs w
    rw [List.map_nil] at w
    cases w
    exact .nil
  | cons n ns ih =>
    intro vs w
    rw [List.map_cons] at w
    cases w with
    | cons a b =>
      cases a
      exact .cons _ _ (ih _ b)
theorem script_of {l : OpenLaw} {n : Nat} (hn : l.most = some n) {P : Params} {h : Heap} {args : List WData} {vals : List Value}
    (hpre : l.row.toRowW.claim.pre args = true) (hwl : WellAll P h vals args) :
    ∃ a vs ns, vals = [Value.ref a] ∧ args = [WData.list (ns.map WData.int)] ∧ h.get? a = some { cls := .type "list", data := .seq vs.toArray } ∧ IntsAre vs ns ∧ ns.length ≤ n := by
  have hsh : WShape.hasAll [] args [.list .int] = true := (pre_splitW hpre).1
  have hc : l.pre.holds [] { args := args } = true := (pre_splitW hpre).2
  obtain ⟨d, r, rfl, h1, h2⟩ := hasAllW_cons hsh
  obtain rfl := hasAllW_nil h2
  obtain ⟨xs, rfl, h3⟩ := hasW_list h1
  obtain ⟨ns, rfl⟩ := items_int h3
  have hlen : ns.length ≤ n := by
    unfold OpenLaw.pre at hc
    have h4 : (WTm.not (.lt (.lit (.int (n : Int))) (.len (.arg 0)))).holds [] { args := [.list (ns.map .int)] } = true := by
      have h4 := (holds_andW hc).1
      rw [hn] at h4
      exact h4
    have h5 := condW_of h4 (w_not (w_lt w_lit (w_len_list (w_arg rfl))))
    rw [List.length_map] at h5
    refine Nat.le_of_not_lt fun q => ?_
    have q' : (n : Int) < ((ns.length : Nat) : Int) := by omega
    first
      | (rw [decide_eq_true q'] at h5; exact absurd h5 (by decide))
      | (simp at h5; omega)
  cases hwl with
  | cons w1 w2 =>
    cases w2
    cases w1 with
    | list ho hall => exact ⟨_, _, ns, rfl, rfl, ho, ints_of_wellAll ns _ hall, hlen⟩
theorem post_true (l : OpenLaw) (args : List WData) : l.row.toRowW.claim.post args (.bool true) args = true :=
  postW_of (r := l.row.toRowW) (X := (true == true))
    (show WShape.has [] (.bool true) .bool = true by first | rfl | decide | simp [WShape.has, WShape.arms, WShape.armsAll])
    (show (WTm.eq .res (.lit (.bool true))).value [] { args := args, res := some (.bool true), after := args } = some (.bool (true == true)) from w_eq_bool (w_res rfl) w_lit) rfl
/-! ### the attachment: holds_open's last premise (the goal 'hc' behind k_head) from a wpAny of the law's body -/
/-- the same from a codeAny of the CALL (for a layer whose function contracts speak of calls) -/
theorem attach_call {l : OpenLaw} {n : Nat} {q : Program} {loose : List Str} {XP : (Str → Option Value) → Heap → Prop} {YP : World → Heap → Prop} {d : DefRec}
    (hn : l.most = some n) (hdf : d.params.defaults = [])
    (call : ∀ (w : World) (s₀ s₁ : Shared) (mg mb : Str → Option Value) (fa : Addr) (o : Obj) (pm cd doc : Value) (a : Addr) (vs : List Value) (ns : List Int),
      Ground q loose [] XP w s₀ mg mb s₁.heap → YP w s₁.heap →
      s₁.heap.get? fa = some o → o.data = .func (docDef d.name d.params d.body d.scope pm cd doc) → s₁.heap.CodeRec cd d.name → mg d.name = some (.ref fa) →
      s₁.heap.get? a = some { cls := .type "list", data := .seq vs.toArray } → IntsAre vs ns → ns.length ≤ n → s₁.gens = #[] →
      codeAny (model l.prog w) callerA (.call (.ref fa) ⟨[.ref a], []⟩) (fun r s' => r = .ok (.ret (.bool true)) ∧ OldK s₁.heap s'.heap ∧ s'.os = s₁.os ∧ AllBare s'.gens) s₁) :
    WalkO q loose XP YP l.row.toRowW d [] (fun f vs => PySem.call f vs) := by
  intro w s₀ s₁ mg mb G Y fa o pm cd doc dV kV ho hd hcd hD hmg hg args vals as hpre hlay hrd hwl hlo
  obtain rfl : dV = .none := Dflts.none hD hdf
  obtain rfl : kV = .none := Dflts.noKw hD
  obtain ⟨a, vs, ns, rfl, rfl, hobj, hints, hlen⟩ := script_of hn hpre hwl
  refine enter_call (codeAny_mono (call w s₀ s₁ mg mb fa o pm cd doc a vs ns G Y ho (fd_plain hd) hcd hmg hobj hints hlen hg) fun r s' hq => ?_)
  obtain ⟨rfl, h2, h3, h4⟩ := hq
  exact ⟨.inl ⟨.bool true, .bool true, [], rfl, fun _ => rfl, .bool true, post_true l _, fun _ => ⟨List.Pairwise.nil, fun _ hm => (nomatch hm)⟩⟩, h2, h3, h4⟩
/-! ### rules over ANY heap (no ledger) from facts about the written part K: the library's own take a ledger (News) for what they write -/
section
variable {prog : Program} {w : World} {A : Around} {E : Value → Shared → Prop} {s : Shared} {K : Frag}
/-! the whole heap as the ledger: makes every rule that writes through a ledger a rule over any heap -/
def noObjs (h : Heap) : Heap := { h with objs := #[] }
def ledger (h : Heap) (L d : Addr) : List (Addr × Obj) := (List.range h.objs.size).filterMap fun a => if a = L ∨ a = d then none else (h.get? a).map fun o => (a, o)
end
end Att
namespace L2
open PySem PySem.Spec PyProof.Rows
theorem vals_ints : ∀ {vs : List Value} {ns : List Int}, IntsAre vs ns → Vals (ns.map V.int) vs
  | _, _, .nil => .nil
  | _, _, .cons n t h => .cons ⟨t, rfl⟩ (vals_ints h)
/-- nothing is tracked but the script, known to the object (or it is an object of the module) -/
def Only (H : Hp) : Prop := ∀ b, H b = none ∨ ∃ o xs, H b = some (.frz o (.lst xs))
/-- THE HEAD: the law's promise, at the heap behind the top. F, the promise of the law's def, may use that base is part of the heap (so K.In base, base.Ns mainGlobals mg stand in Mod) -/
theorem law_call {P : Program} {w : World} {K : PySem.W.Frag} {mg mb : Str → Option Value} {CX : CXT} {k : Nat} {fa a : Addr} {fd : FuncData} {x : Str} {sp : Sp} {s₁ : Shared} {vs : List Value} {ns : List Int}
    (KX : K.In s₁.heap) (hns : s₁.heap.Ns mainGlobals mg) (hb : s₁.heap.Ns builtinsNs mb) (hbb : ∀ x : Str, x ≠ "__name__" → mb x = bootBuiltins x) (hlim : s₁.heap.NoLimit) (hg : s₁.gens = #[])
    (ha : s₁.heap.get? a = some { cls := .type "list", data := .seq vs.toArray }) (hi : IntsAre vs ns) (hl : ns.length ≤ sizeLine) (hr : Room k callerA)
    (F : ∀ base : Heap, K.In base → base.Ns mainGlobals mg → FnOk P w K mg base CX k fa fd [x] sp) (hbind : ∀ (s : Shared) (u : Value), BindsTo s fd ⟨[u], []⟩ [(x, u)])
    (hsp : ∀ H : Hp, Only H → SqL K H a (ns.map V.int) → sp [.ref a] H (fun v _ => v = .bl true) fun _ _ _ => False)
    (hCX : ∀ H e s', CX [] H s₁ (fun _ _ _ => False) e s' → False) :
    codeAny (model P w) callerA (.call (.ref fa) ⟨[.ref a], []⟩) (fun r s' => r = .ok (.ret (.bool true)) ∧ OldK s₁.heap s'.heap ∧ s'.os = s₁.os ∧ AllBare s'.gens) s₁ := by
  have rv := vals_ints hi
  have lenV := hi.length
  -- from an abstract heap in which nothing but the script may be tracked
  have core : ∀ H : Hp, Only H → SqL K H a (ns.map V.int) → HOk P w H s₁.heap → (∀ b, H b ≠ none → b = a) → (H a ≠ none → K.lookup a = none) →
      codeAny (model P w) callerA (.call (.ref fa) ⟨[.ref a], []⟩) (fun r s' => r = .ok (.ret (.bool true)) ∧ OldK s₁.heap s'.heap ∧ s'.os = s₁.os ∧ AllBare s'.gens) s₁ := by
    intro H hO hS hok hA hK
    have base_of : ∀ {b : Addr} {o : Obj}, s₁.heap.get? b = some o → H b = none → (hidT s₁.heap H).get? b = some o := fun e n => hidT_get e n
    have noA : ∀ {b : Addr} {o : Obj} {es : Array DictEntry} {ep : Nat}, s₁.heap.get? b = some o → o.data = .dict es ep → H b = none := fun {b o es ep} e d => by
      cases q : H b with
      | none => rfl
      | some u =>
        have e' : b = a := hA b (by rw [q]; simp)
        subst e'
        rw [ha] at e; cases e
        have d' : Data.seq vs.toArray _ = Data.dict es ep := d
        cases d'
    have nsK : ∀ {b : Addr} {m : Str → Option Value}, s₁.heap.Ns b m → (hidT s₁.heap H).Ns b m := fun {b m} ⟨o, es, ep, e, d, r⟩ => ⟨o, es, ep, base_of e (noA e d), d, r⟩
    have hKb : K.In (hidT s₁.heap H) := fun b o e => base_of (KX b o e) (by
      cases q : H b with
      | none => rfl
      | some u =>
        have e' : b = a := hA b (by rw [q]; simp)
        subst e'
        rw [hK (by rw [q]; simp)] at e; cases e)
    have hM : Mod K mg (hidT s₁.heap H) := ⟨hKb, nsK hns, ⟨mb, nsK hb, hbb⟩, let ⟨mc, h1, h2⟩ := hlim; ⟨mc, nsK h1, h2⟩⟩
    have e0 : Env0 P w K mg (hidT s₁.heap H) callerA [] s₁ H := ⟨rfl, hM, fun b o e => of_hidT e, Nat.le_of_eq (hidT_size _ _), trivial, fun b hb => absurd (show b ∈ ([] : List Addr) from hb) (by simp), hok, .of_eq hg⟩
    refine codeAny_mono ((F _ hKb (nsK hns)).run callerA [] s₁ H ⟨[.ref a], []⟩ [.ref a] [.ref a] _ _ hr e0 (hbind s₁ (.ref a)) (.cons rfl .nil) (hsp H hO hS)) fun r s' h => ?_
    cases r with
    | error e => exact (hCX H e s' h).elim
    | ok fl =>
      cases fl with
      | next => exact False.elim h
      | brk => exact False.elim h
      | cont => exact False.elim h
      | ret u =>
        obtain ⟨v, H', os, bare, un, hok', r', q⟩ := h
        have q' : v = .bl true := q
        subst q'
        obtain rfl : u = Value.bool true := r'
        refine ⟨rfl, OldK.of_keep fun b o e => ?_, os, bare⟩
        cases q : H b with
        | none => exact un.keep b o e q (by intro z; exact absurd (show b ∈ ([] : List Addr) from z) (by simp)) (by simp)
        | some u =>
          rcases hO b with z | ⟨ob, xs, z⟩
          · rw [q] at z; cases z
          · have z2 := un.frzs b ob _ z
            obtain ⟨e1, _⟩ := hok b _ z
            obtain ⟨e2, _⟩ := hok' b _ z2
            rw [e] at e1; cases e1
            exact e2
  cases hk : K.lookup a with
  | some o =>
    -- the script is one of the module's own objects
    have e := KX a o hk
    rw [ha] at e
    cases e
    refine core (fun _ => none) (fun _ => .inl rfl) (.inr ⟨_, vs.toArray, _, hk, rfl, rfl, rfl, by rw [List.size_toArray, lenV]; exact hl, by simpa using rv⟩) (fun b u z => by have z' : (none : Option HO) = some u := z; cases z') (fun b z => absurd rfl z) fun z => absurd rfl z
  | none =>
    refine core (fun b => if b = a then some (.frz { cls := .type "list", data := .seq vs.toArray } (.lst (ns.map V.int))) else none) (fun b => ?_) (.inl (.inr ⟨{ cls := .type "list", data := .seq vs.toArray }, if_pos rfl⟩)) (fun b u z => ?_) (fun b z => ?_) fun _ => hk
    · by_cases hb : b = a
      · exact .inr ⟨_, _, if_pos hb⟩
      · exact .inl (if_neg hb)
    · by_cases hb : b = a
      · have z' := (if_pos hb).symm.trans z
        cases z'
        subst hb
        exact ⟨ha, by rw [List.length_map]; exact hl, vs, _, rv, ha⟩
      · have z' := (if_neg hb).symm.trans z
        cases z'
    · by_cases hb : b = a
      · exact hb
      · exact absurd (if_neg hb) z
end L2
namespace L2
open PySem PySem.Spec PyProof.Rows
abbrev KOf {K : PySem.W.Frag} {h : Heap} (_ : K.In h) : PySem.W.Frag := K
/-- the goal that k_head leaves (case hc), from the law's promise. F gives the function object fd (K's own) once, then the promise over every base -/
theorem walk_of {l : PySem.W.OpenLaw} {n k : Nat} {q : Program} {loose : List Str} {XP : (Str → Option Value) → Heap → Prop} {YP : World → Heap → Prop} {d : DefRec} {K : Params → PySem.W.Frag} {CX : World → CXT} {sp : World → Sp} {x : Str}
    (hn : l.most = some n) (hn2 : n ≤ sizeLine) (hdf : d.params.defaults = []) (hr : Room k callerA)
    (hY : ∀ (w : World) (h : Heap), YP w h → (K w.params).In h)
    (F : ∀ (w : World) (mg : Str → Option Value) (fa : Addr) (h : Heap), (K w.params).In h → h.Ns mainGlobals mg → mg d.name = some (.ref fa) →
      ∃ fd : FuncData, (∀ (s : Shared) (u : Value), BindsTo s fd ⟨[u], []⟩ [(x, u)]) ∧
        ∀ base : Heap, (K w.params).In base → base.Ns mainGlobals mg → FnOk l.prog w (K w.params) mg base (CX w) k fa fd [x] (sp w))
    (hsp : ∀ (w : World) (H : Hp) (a : Addr) (ns : List Int), ns.length ≤ n → Only H → SqL (K w.params) H a (ns.map V.int) → sp w [.ref a] H (fun v _ => v = .bl true) fun _ _ _ => False)
    (hCX : ∀ (w : World) (H : Hp) (s : Shared) (e : Value) (s' : Shared), CX w [] H s (fun _ _ _ => False) e s' → False) :
    PySem.W.WalkO q loose XP YP l.row.toRowW d [] (fun f vs => PySem.call f vs) := by
  refine Att.attach_call hn hdf fun w s₀ s₁ mg mb fa o pm cd doc a vs ns G Y ho hd hcd hmg hobj hints hlen hg => ?_
  have KX := hY w _ Y
  obtain ⟨fd, hb, hF⟩ := F w mg fa _ KX G.T.g hmg
  exact law_call KX G.T.g G.T.b G.T.builtins G.T.nolimit hg hobj hints (Nat.le_trans hlen hn2) hr hF hb (fun H hO hS => hsp w H a ns hlen hO hS) fun H e s' => hCX w H s₁ e s'
end L2
/- THE LAST THEOREM (shape; LID, My.* are yours):
   My.Adr: a structure of the addresses that your layer names (classes, functions); My.Txt K t: a structure (Prop) of the equations over K;
   My.txt_mk : {K} {implicit addresses ..} (e1 : nsIn K mainGlobals "law" = some (some (.ref f))) (e2 : K.lookup f = some ⟨oc, od, .func (fnOf "law" "law" params body scope dV kV doc pm an cdv ct), sl⟩) (e3 : codeIn K cdv "law" = true) .. : ∃ t, My.Txt K t
set_option maxRecDepth 100000 in
set_option maxHeartbeats 0 in
theorem PySem.Challenge.cw_LID_holds : PySem.Challenge.rw_LID.Holds := by
  w_on; o_law; k_head; (case hw => w_witness2)
  k_fill
  refine L2.walk_of (l := PySem.Challenge.rw_LID) (n := 63) (k := 40) (x := "script") (CX := fun w => ..) (sp := fun _ => My.sp_law) rfl (by decide) rfl ⟨rfl, by decide, by decide⟩ (fun w h Y => PySem.W.kIn_of Y) ?F ?S ?C
  case F =>
    intro w mg fa h KX G hmg
    have T : ∃ t, My.Txt (L2.KOf KX) t := by
      dsimp only [L2.KOf]                          -- K must stand as «<heap const> w.params» for k_is
      refine' My.txt_mk ?e1 ?e2 ?e3 ..
      (case e1 => PySem.W.k_is)                    -- in the order: a name -> its address -> its object -> its parts
      (case e2 => PySem.W.k_is)
      ..
    obtain ⟨t, T⟩ := T
    have e0 := hmg.symm.trans (PySem.W.mg_of KX G T.law)
    cases e0                                       -- fa is the law's own address
    exact ⟨_, fun s u => .of_eq rfl, fun base kb nb => My.law_fn T kb nb⟩     -- if «.of_eq rfl» comes too early: refine' ⟨_, ?b, fun base kb nb => My.law_fn T kb nb⟩; exact fun s u => .of_eq rfl
  case S => exact fun w H a ns hl hO hS => ..
  case C => exact ..
(the tactic k_is has no namespace: write k_is) -/
/-! SHORT WORDS over the layer: a def of the text, its body, what a loop and a test want. -/
namespace L2
open PySem PySem.Spec PyProof.Rows
/-! ### the text by places -/
/-- the j-th statement of a class's body -/
def inClass (s : Stmt) (j : Nat) : Stmt := match s with
  | .ClassDef _ _ _ body _ _ _ _ _ _ _ => body.getD j (.Pass ⟨0, 0, 0, 0⟩)
  | _ => .Pass ⟨0, 0, 0, 0⟩
def defArgs (s : Stmt) : Arguments := match s with
  | .FunctionDef _ a _ _ _ _ _ _ _ _ => a
  | _ => { posonlyargs := [], args := [], vararg := none, kwonlyargs := [], kw_defaults := [], kwarg := none, defaults := [] }
def defBody (s : Stmt) : List Stmt := match s with
  | .FunctionDef _ _ b _ _ _ _ _ _ _ => b
  | _ => []
def defScope (s : Stmt) : Scope := match s with
  | .FunctionDef _ _ _ _ _ _ sc _ _ _ => sc
  | _ => { kind := .function, names := [], isGenerator := false, isCoroutine := false }
/-! ### no exception leaves a def -/
abbrev CX0 : CXT := fun _ _ _ _ _ _ => False
abbrev E0 : XK := fun _ _ _ => False
theorem pass0 {X : Cx} : Passes CX0 X E0 := fun _ _ _ _ _ _ _ h => h.elim
/-! ### a def (or method) of the text as it stands behind the top -/
structure Fun (K : PySem.W.Frag) (x qual : Str) (st : Stmt) (f : Addr) (fd : FuncData) : Prop where
  ex : ∃ (oc : Value) (od : Option Addr) (kV doc pm : Value) (an : Option Addr) (cdv ct : Value) (osl : Array (Option Value)),
    fd = PySem.W.fnOf x qual (defArgs st) (defBody st) (defScope st) .none kV doc pm an cdv ct ∧ K.lookup f = some ⟨oc, od, .func fd, osl⟩ ∧ PySem.W.codeIn K cdv qual = true
  kp : PySem.W.keepIn K (.ref f) = true
section
variable {P : Program} {w : World} {K : PySem.W.Frag} {mg : Str → Option Value} {base : Heap}
/-- THE RULE for a def: its body as a term of rules, and the reading of that term -/
theorem Fun.ok {x qual : Str} {st : Stmt} {f : Addr} {fd : FuncData} {N ps : List Str} {k : Nat} {sp : Sp} (F : Fun K x qual st f fd) (S : FnScope N ps (defScope st)) (len : ∀ vs H Q E, sp vs H Q E → vs.length = ps.length)
    (hbody : ∀ (cdv : Value) (A : Around) (outer : List Env) (s : Shared) (H : Hp) (vs : List V) (Q : VK) (E : XK), Room k (A.deeper (envOfC qual (defScope st) s.heap.objs.size f cdv)) → sp vs H Q E →
      ∃ t, PSs (cxOf CX0 P w K mg base N qual (defScope st) f cdv A outer s H E).nox (defBody st) t ∧ t { nx := fun _ H' => Q .non H', rt := Q } (start N vs) H) : FnOk P w K mg base CX0 (k + 1) f fd ps sp := by
  obtain ⟨oc, od, kV, doc, pm, an, cdv, ct, osl, rfl, lk, hcd⟩ := F.ex
  refine fn_of lk hcd S len fun A outer s H vs Q E hr hsp => ?_
  obtain ⟨t, h, q⟩ := hbody cdv A outer s H vs Q E hr hsp
  exact ⟨t, h.nox, q⟩
/-- how its arguments bind (no defaults): h is «fun _ _ _ _ _ _ us hl => match us, hl with | [_, _], _ => rfl», one _ a parameter -/
theorem Fun.binds {x qual : Str} {st : Stmt} {f : Addr} {fd : FuncData} {ps : List Str} (F : Fun K x qual st f fd)
    (h : ∀ (kV doc pm : Value) (an : Option Addr) (cdv ct : Value) (us : List Value), us.length = ps.length → bindArgs (PySem.W.fnOf x qual (defArgs st) (defBody st) (defScope st) .none kV doc pm an cdv ct) ⟨us, []⟩ = pure (ps.zip us)) : Binds K fd ps [] := by
  obtain ⟨oc, od, kV, doc, pm, an, cdv, ct, osl, rfl, lk, hcd⟩ := F.ex
  exact .all (h kV doc pm an cdv ct)
theorem fun_mk {x qual : Str} {st : Stmt} {f : Addr} {oc : Value} {od an : Option Addr} {osl : Array (Option Value)} {kV doc pm cdv ct : Value} (l : K.lookup f = some ⟨oc, od, .func (PySem.W.fnOf x qual (defArgs st) (defBody st) (defScope st) .none kV doc pm an cdv ct), osl⟩)
    (c : PySem.W.codeIn K cdv qual = true) (k : PySem.W.keepIn K (.ref f) = true) : Fun K x qual st f (PySem.W.fnOf x qual (defArgs st) (defBody st) (defScope st) .none kV doc pm an cdv ct) := ⟨⟨oc, od, kV, doc, pm, an, cdv, ct, osl, rfl, l, c⟩, k⟩
end
theorem hu_of {A : Around} {k : Nat} (hr : Room k A) : A.units + 1 < cLine := Nat.lt_of_le_of_lt (Nat.add_le_add_left (by decide : 1 ≤ 64) _) hr.units
/-! ### expressions in short: the name that stands in the i-th slot -/
section
variable {X : Cx}
theorem pv (i : Nat) {x : Str} {pos : Pos} (hN : X.N[i]? = some x := by rfl) (hv : Vis X.env.scope x := by first | exact Or.inl rfl | exact Or.inr (Or.inl rfl) | exact Or.inr (Or.inr rfl)) (hd : (x == ("__debug__" : Str)) = false := by decide)
    (hcd : (x == ("__classdict__" : Str)) = false := by decide) : PE X (.Name x pos) (tVar i) := pe_var hN hv hd hcd
end
/-! ### tests -/
theorem iteF {A B : Prop} (h : B) : if false = true then A else B := by
  rw [if_neg Bool.false_ne_true]
  exact h
theorem iteT {A B : Prop} (h : A) : if true = true then A else B := by
  rw [if_pos rfl]
  exact h
theorem ite2 {c A B : Prop} [Decidable c] (h1 : c → A) (h2 : ¬ c → B) : if c then A else B := by
  by_cases h : c
  · rw [if_pos h]
    exact h1 h
  · rw [if_neg h]
    exact h2 h
/-! ### heaps -/
/-- all that was tracked is as it was -/
def Same (H H' : Hp) : Prop := ∀ b o, H b = some o → H' b = some o
theorem Same.refl (H : Hp) : Same H H := fun _ _ h => h
theorem Same.trans {H H1 H2 : Hp} (a : Same H H1) (b : Same H1 H2) : Same H H2 := fun c o h => b c o (a c o h)
theorem Same.free {H H' : Hp} (e : Same H H') {l : Addr} (h : H' l = Option.none) : H l = Option.none := by
  cases q : H l with
  | none => rfl
  | some o =>
    rw [e l o q] at h
    cases h
theorem Same.seq {K : PySem.W.Frag} {H H' : Hp} {a : Addr} {xs : List V} (e : Same H H') (h : SqL K H a xs) : SqL K H' a xs := by
  rcases h with (h | ⟨o, h⟩) | h
  · exact .inl (.inl (e _ _ h))
  · exact .inl (.inr ⟨o, e _ _ h⟩)
  · exact .inr h
/-! ### a dict's pairs: keys that differ -/
section
variable {κ : Type} [DecidableEq κ]
end
/-! ### lists -/
theorem at_of {xs : List V} {z : Int} {j : Nat} {v : V} (e : z = (j : Int)) (h : xs[j]? = some v) : atI xs z = some v := by
  rw [e]
  exact atI_nat h
/-- a new instance and its __init__ leave all that was tracked as it was -/
theorem Same.made {H H1 : Hp} {x dx C : Addr} (nx : H x = Option.none) (nd : H dx = Option.none) (k : ∀ b o, (upd (upd H dx (.own x)) x (.ins C dx [])) b = some o → b ≠ x → H1 b = some o) : Same H H1 := fun b o e =>
  k b o (by rw [upd_ne (ne_of_none e nx), upd_ne (ne_of_none e nd)]; exact e) (ne_of_none e nx)
end L2
section
set_option Elab.async false
set_option linter.all false
set_option maxRecDepth 100000
set_option maxHeartbeats 2000000
namespace L2
open PySem PySem.Spec PyProof.Rows
open PySem.W (WData Codec OpenSpec Well WellAll ReadsW ReadsAllW)
/-! ### an answer as data -/
mutual
/-- x stands for the datum d, lists and tuples all the way -/
inductive Dw (K : PySem.W.Frag) (H : Hp) : V → WData → Prop
  | non : Dw K H .non .none
  | bl (b : Bool) : Dw K H (.bl b) (.bool b)
  | int (i : Int) : Dw K H (.int i) (.int i)
  | str (x : Str) : Dw K H (.str x) (.str x)
  | byt (b : Array UInt8) : Dw K H (.byt b) (.bytes b.toList)
  | lst {a : Addr} {xs : List V} {ds : List WData} : SqL K H a xs → DwAll K H xs ds → Dw K H (.ref a) (.list ds)
  | tup {a : Addr} {xs : List V} {ds : List WData} : SqT K H a xs → DwAll K H xs ds → Dw K H (.ref a) (.tuple ds)
inductive DwAll (K : PySem.W.Frag) (H : Hp) : List V → List WData → Prop
  | nil : DwAll K H [] []
  | cons {v : V} {vs : List V} {d : WData} {ds : List WData} : Dw K H v d → DwAll K H vs ds → DwAll K H (v :: vs) (d :: ds)
end
theorem dw_ints {K : PySem.W.Frag} {H : Hp} : ∀ ns : List Int, DwAll K H (ns.map V.int) (ns.map WData.int)
  | [] => .nil
  | n :: r => .cons (.int n) (dw_ints r)
theorem ints_dw {K : PySem.W.Frag} {H : Hp} : ∀ (ns : List Int) (xs : List V), DwAll K H xs (ns.map WData.int) → xs = ns.map V.int
  | [], xs, h => by
    cases h
    rfl
  | n :: r, xs, h => by
    cases h with
    | cons h1 h2 =>
      cases h1
      rw [ints_dw r _ h2] <;> rfl
section
variable {P : Program} {w : World} {K : PySem.W.Frag} {H : Hp} {h : Heap} {R : PySem.W.WRecords} {cl : Str → Option Addr}
theorem sqL_at {a : Addr} {xs : List V} (hok : HOk P w H h) (KX : K.In h) (q : SqL K H a xs) : ∃ (its : List Value) (o : Obj) (n : Nat), Vals xs its ∧ h.get? a = some o ∧ o.cls = .type "list" ∧ o.data = .seq its.toArray n := by
  rcases q with q | ⟨o, its, n, e, hc, _, hd, _, hv⟩
  · obtain ⟨_, its, n, hv, e⟩ := (show ObjOk P w H h a (.lst xs) from q.ok hok)
    exact ⟨its, _, n, hv, e, rfl, rfl⟩
  · exact ⟨its.toList, o, n, hv, KX _ _ e, hc, by simp [hd]⟩
theorem sqT_at {a : Addr} {xs : List V} (hok : HOk P w H h) (KX : K.In h) (q : SqT K H a xs) : ∃ (its : List Value) (o : Obj) (n : Nat), Vals xs its ∧ h.get? a = some o ∧ o.cls = .type "tuple" ∧ o.data = .seq its.toArray n := by
  rcases q with q | ⟨o, its, n, e, hc, hd, _, hv⟩
  · obtain ⟨_, its, hv, o, e, hc, n, hd⟩ := (show ObjOk P w H h a (.tup xs) from q.ok hok)
    exact ⟨its, o, n, hv, e, hc, hd⟩
  · exact ⟨its.toList, o, n, hv, KX _ _ e, hc, by simp [hd]⟩
mutual
theorem Dw.reads (hok : HOk P w H h) (KX : K.In h) : ∀ (d : WData) (v : V) (u : Value), Dw K H v d → RelV v u → ∃ as, ReadsW R cl h u d as
  | .none, _, _, x, r => by
    cases x
    cases r
    exact ⟨_, ReadsW.none⟩
  | .bool b, _, _, x, r => by
    cases x
    cases r
    exact ⟨_, ReadsW.bool b⟩
  | .int i, _, _, x, r => by
    cases x
    obtain ⟨t, rfl⟩ := r
    exact ⟨_, ReadsW.int i t⟩
  | .str s, _, _, x, r => by
    cases x
    obtain ⟨t, rfl⟩ := r
    exact ⟨_, ReadsW.str s t⟩
  | .bytes b, _, _, x, r => by
    cases x
    obtain ⟨t, rfl⟩ := r
    exact ⟨_, ReadsW.bytes _ t⟩
  | .list ds, _, _, x, r => by
    cases x with
    | lst hs ha =>
      cases r
      obtain ⟨its, o, n, rv, ho, hc, hd⟩ := sqL_at hok KX hs
      obtain ⟨as, hr⟩ := Dw.readsAll hok KX ds _ its ha rv
      exact ⟨_, ReadsW.list ho hc hd hr⟩
  | .tuple ds, _, _, x, r => by
    cases x with
    | tup hs ha =>
      cases r
      obtain ⟨its, o, n, rv, ho, hc, hd⟩ := sqT_at hok KX hs
      obtain ⟨as, hr⟩ := Dw.readsAll hok KX ds _ its ha rv
      exact ⟨_, ReadsW.tuple ho hc hd hr⟩
  | .float _, _, _, x, _ => by cases x
  | .dict _, _, _, x, _ => by cases x
  | .bytearray _, _, _, x, _ => by cases x
  | .set _, _, _, x, _ => by cases x
  | .frozenset _, _, _, x, _ => by cases x
  | .obj _ _, _, _, x, _ => by cases x
theorem Dw.readsAll (hok : HOk P w H h) (KX : K.In h) : ∀ (ds : List WData) (vs : List V) (us : List Value), DwAll K H vs ds → Vals vs us → ∃ as, ReadsAllW R cl h us ds as
  | [], _, _, x, r => by
    cases x
    cases r
    exact ⟨_, ReadsAllW.nil⟩
  | d :: ds, _, _, x, r => by
    cases x with
    | cons h1 h2 =>
      cases r with
      | cons r1 r2 =>
        obtain ⟨as, q1⟩ := Dw.reads hok KX d _ _ h1 r1
        obtain ⟨bs, q2⟩ := Dw.readsAll hok KX ds _ _ h2 r2
        exact ⟨_, ReadsAllW.cons q1 q2⟩
end
end
/-! ### the arguments -/
mutual
/-- data that a codec tells -/
def plW : WData → Bool
  | .none => true
  | .bool _ => true
  | .int _ => true
  | .str _ => true
  | .bytes _ => true
  | .list xs => plWs xs
  | .tuple xs => plWs xs
  | _ => false
def plWs : List WData → Bool
  | [] => true
  | x :: r => plW x && plWs r
end
theorem plWs_map {α : Type} {f : α → WData} (h : ∀ a, plW (f a) = true) : ∀ l : List α, plWs (l.map f) = true
  | [] => rfl
  | x :: r => by
    show (plW (f x) && plWs (r.map f)) = true
    rw [h x, plWs_map h r] <;> rfl
theorem pl_enc : ∀ (c : Codec) (a : c.denote), plW (c.enc a) = true
  | .unit, _ => rfl
  | .bool, _ => rfl
  | .int _ _, _ => rfl
  | .nat _ _, _ => rfl
  | .u8, _ => rfl
  | .bytes _ _, _ => rfl
  | .text _ _ _ _, _ => rfl
  | .list _ _ c, a => plWs_map (fun x => pl_enc c x) a
  | .pair c d, a => by
    show (plW (c.enc a.1) && (plW (d.enc a.2) && true)) = true
    rw [pl_enc c a.1, pl_enc d a.2] <;> rfl
  | .triple c d e, a => by
    show (plW (c.enc a.1) && (plW (d.enc a.2.1) && (plW (e.enc a.2.2) && true))) = true
    rw [pl_enc c a.1, pl_enc d a.2.1, pl_enc e a.2.2] <;> rfl
  | .option c, none => rfl
  | .option c, some x => pl_enc c x
theorem pl_encAll : ∀ (cs : List Codec) (a : Codec.denoteAll cs), plWs (Codec.encAll cs a) = true
  | [], _ => rfl
  | c :: cs, a => by
    show (plW (c.enc a.1) && plWs (Codec.encAll cs a.2)) = true
    rw [pl_enc c a.1, pl_encAll cs a.2] <;> rfl
theorem weight_mem : ∀ {xs : List WData} {d : WData}, d ∈ xs → d.weight ≤ WData.weightAll xs
  | [], d, h => absurd h (by simp)
  | x :: r, d, h => by
    show d.weight ≤ x.weight + 1 + WData.weightAll r
    rcases List.mem_cons.mp h with e | m
    · rw [e]
      omega
    · have z := weight_mem m
      omega
def toV : Value → V
  | .none => .non
  | .bool b => .bl b
  | .int i _ => .int i
  | .str x _ => .str x
  | .bytes b _ => .byt b
  | .ref a => .ref a
  | _ => .non
/-- a value of the arguments, its objects among A -/
def OkU (A : List Addr) : Value → Prop
  | .none => True
  | .bool _ => True
  | .int _ _ => True
  | .str _ _ => True
  | .bytes _ _ => True
  | .ref a => a ∈ A
  | _ => False
theorem OkU.mono {A B : List Addr} (h : ∀ a ∈ A, a ∈ B) : ∀ {u : Value}, OkU A u → OkU B u := fun {u} x => by
  cases u with
  | ref a => exact h a x
  | none => trivial
  | bool b => trivial
  | int i t => trivial
  | str s t => trivial
  | bytes b t => trivial
  | _ => exact False.elim x
theorem relV_toV {A : List Addr} {u : Value} (x : OkU A u) : RelV (toV u) u := by
  cases u with
  | ref a => rfl
  | none => rfl
  | bool b => rfl
  | int i t => exact ⟨t, rfl⟩
  | str s t => exact ⟨t, rfl⟩
  | bytes b t => exact ⟨t, rfl⟩
  | _ => exact False.elim x
theorem vals_toV {A : List Addr} : ∀ {vs : List Value}, (∀ u ∈ vs, OkU A u) → Vals (vs.map toV) vs
  | [], _ => .nil
  | u :: r, h => .cons (relV_toV (h u (List.mem_cons_self ..))) (vals_toV fun x hx => h x (List.mem_cons_of_mem _ hx))
/-- an object of the arguments -/
def ArgOb (h : Heap) (A : List Addr) (a : Addr) : Prop := ∃ vs : List Value, vs.length ≤ sizeLine ∧ (∀ u ∈ vs, OkU A u) ∧
  (h.get? a = some { cls := .type "list", data := .seq vs.toArray } ∨ h.get? a = some { cls := .type "tuple", data := .seq vs.toArray })
theorem ArgOb.mono {h : Heap} {A B : List Addr} {a : Addr} (k : ∀ a ∈ A, a ∈ B) (x : ArgOb h A a) : ArgOb h B a := by
  obtain ⟨vs, h1, h2, h3⟩ := x
  exact ⟨vs, h1, fun u hu => (h2 u hu).mono k, h3⟩
theorem wellAll_len {P : Params} {h : Heap} : ∀ {vs : List Value} {ds : List WData}, WellAll P h vs ds → vs.length = ds.length
  | _, _, .nil => rfl
  | _, _, .cons _ b => by
    show _ + 1 = _ + 1
    rw [wellAll_len b]
theorem well_list {P : Params} {h : Heap} {v : Value} {ds : List WData} (x : Well P h v (.list ds)) : ∃ (a : Addr) (vs : List Value), v = .ref a ∧ h.get? a = some { cls := .type "list", data := .seq vs.toArray } ∧ WellAll P h vs ds := by
  cases x with
  | list ho hall => exact ⟨_, _, rfl, ho, hall⟩
theorem well_tuple {P : Params} {h : Heap} {v : Value} {ds : List WData} (x : Well P h v (.tuple ds)) : ∃ (a : Addr) (vs : List Value), v = .ref a ∧ h.get? a = some { cls := .type "tuple", data := .seq vs.toArray } ∧ WellAll P h vs ds := by
  cases x with
  | tuple ho hall => exact ⟨_, _, rfl, ho, hall⟩
theorem well_cons {P : Params} {h : Heap} {us : List Value} {d : WData} {ds : List WData} (x : WellAll P h us (d :: ds)) : ∃ (v : Value) (vs : List Value), us = v :: vs ∧ Well P h v d ∧ WellAll P h vs ds := by
  cases x with
  | cons a b => exact ⟨_, _, rfl, a, b⟩
theorem line_of {n : Nat} (h : n ≤ 1048576) : n ≤ sizeLine := Nat.le_trans h (by decide)
section
variable {P : Params} {h : Heap}
mutual
theorem area_one : ∀ (d : WData) (v : Value), Well P h v d → plW d = true → d.weight ≤ 1048576 → ∃ A : List Addr, OkU A v ∧ ∀ a ∈ A, ArgOb h A a
  | .none, _, x, _, _ => by
    cases x
    exact ⟨[], trivial, fun a m => absurd m (by simp)⟩
  | .bool b, _, x, _, _ => by
    cases x
    exact ⟨[], trivial, fun a m => absurd m (by simp)⟩
  | .int i, _, x, _, _ => by
    cases x
    exact ⟨[], trivial, fun a m => absurd m (by simp)⟩
  | .str s, _, x, _, _ => by
    cases x
    exact ⟨[], trivial, fun a m => absurd m (by simp)⟩
  | .bytes b, _, x, _, _ => by
    cases x
    exact ⟨[], trivial, fun a m => absurd m (by simp)⟩
  | .list ds, _, x, p, z => by
    obtain ⟨a, vs, rfl, ho, hall⟩ := well_list x
    have z2 : WData.weightAll ds ≤ 1048576 := z
    obtain ⟨A, h1, h2⟩ := area_all ds _ hall p fun d hd => Nat.le_trans (weight_mem hd) z2
    have k : ∀ b ∈ A, b ∈ a :: A := fun b hb => List.mem_cons_of_mem _ hb
    refine ⟨a :: A, List.mem_cons_self .., fun b hb => ?_⟩
    rcases List.mem_cons.mp hb with e | m
    · rw [e]
      exact ⟨vs, line_of (by rw [wellAll_len hall]; exact Nat.le_trans (PySem.W.length_le_weightAllW ds) z2), fun u hu => (h1 u hu).mono k, .inl ho⟩
    · exact (h2 b m).mono k
  | .tuple ds, _, x, p, z => by
    obtain ⟨a, vs, rfl, ho, hall⟩ := well_tuple x
    have z2 : WData.weightAll ds ≤ 1048576 := z
    obtain ⟨A, h1, h2⟩ := area_all ds _ hall p fun d hd => Nat.le_trans (weight_mem hd) z2
    have k : ∀ b ∈ A, b ∈ a :: A := fun b hb => List.mem_cons_of_mem _ hb
    refine ⟨a :: A, List.mem_cons_self .., fun b hb => ?_⟩
    rcases List.mem_cons.mp hb with e | m
    · rw [e]
      exact ⟨vs, line_of (by rw [wellAll_len hall]; exact Nat.le_trans (PySem.W.length_le_weightAllW ds) z2), fun u hu => (h1 u hu).mono k, .inr ho⟩
    · exact (h2 b m).mono k
  | .float _, _, _, p, _ => Bool.noConfusion (show false = true from p)
  | .dict _, _, _, p, _ => Bool.noConfusion (show false = true from p)
  | .bytearray _, _, _, p, _ => Bool.noConfusion (show false = true from p)
  | .set _, _, _, p, _ => Bool.noConfusion (show false = true from p)
  | .frozenset _, _, _, p, _ => Bool.noConfusion (show false = true from p)
  | .obj _ _, _, _, p, _ => Bool.noConfusion (show false = true from p)
theorem area_all : ∀ (ds : List WData) (vs : List Value), WellAll P h vs ds → plWs ds = true → (∀ d ∈ ds, d.weight ≤ 1048576) → ∃ A : List Addr, (∀ u ∈ vs, OkU A u) ∧ ∀ a ∈ A, ArgOb h A a
  | [], _, x, _, _ => by
    cases x
    exact ⟨[], fun u m => absurd m (by simp), fun a m => absurd m (by simp)⟩
  | d :: ds, _, x, p, z => by
    obtain ⟨v, vs, rfl, x1, x2⟩ := well_cons x
    have q : plW d = true ∧ plWs ds = true := Bool.and_eq_true_iff.mp p
    obtain ⟨A, a1, a2⟩ := area_one d v x1 q.1 (z d (List.mem_cons_self ..))
    obtain ⟨B, b1, b2⟩ := area_all ds vs x2 q.2 fun e he => z e (List.mem_cons_of_mem _ he)
    have kA : ∀ b ∈ A, b ∈ A ++ B := fun b hb => List.mem_append.mpr (.inl hb)
    have kB : ∀ b ∈ B, b ∈ A ++ B := fun b hb => List.mem_append.mpr (.inr hb)
    refine ⟨A ++ B, fun u hu => ?_, fun b hb => ?_⟩
    · rcases List.mem_cons.mp hu with e | m
      · rw [e]
        exact a1.mono kA
      · exact (b1 u m).mono kB
    · rcases List.mem_append.mp hb with m | m
      · exact (a2 b m).mono kA
      · exact (b2 b m).mono kB
end
end
/-- what is tracked of an argument's object -/
def hoOf (o : Obj) : Option HO := match o.data with
  | .seq vs _ => if (o.cls == Value.type "list") = true then some (.frz o (.lst (vs.toList.map toV))) else some (.frz o (.tup (vs.toList.map toV)))
  | _ => none
def argH (K : PySem.W.Frag) (h : Heap) (A : List Addr) : Hp := fun b => if b ∈ A then (if (K.lookup b).isNone = true then (h.get? b).bind hoOf else none) else none
/-- nothing is tracked but what is known to the object -/
def OnlyF (H : Hp) : Prop := ∀ b, H b = none ∨ ∃ o u, H b = some (.frz o u)
theorem hoOf_lst (vs : List Value) : hoOf { cls := .type "list", data := .seq vs.toArray } = some (.frz { cls := .type "list", data := .seq vs.toArray } (.lst (vs.map toV))) := by
  show (if (Value.type "list" == Value.type "list") = true then some (HO.frz { cls := .type "list", data := .seq vs.toArray } (.lst (vs.toArray.toList.map toV))) else some (HO.frz { cls := .type "list", data := .seq vs.toArray } (.tup (vs.toArray.toList.map toV)))) = _
  rw [if_pos (beq_self_eq_true _)]
theorem hoOf_tup (vs : List Value) : hoOf { cls := .type "tuple", data := .seq vs.toArray } = some (.frz { cls := .type "tuple", data := .seq vs.toArray } (.tup (vs.map toV))) := by
  show (if (Value.type "tuple" == Value.type "list") = true then some (HO.frz { cls := .type "tuple", data := .seq vs.toArray } (.lst (vs.toArray.toList.map toV))) else some (HO.frz { cls := .type "tuple", data := .seq vs.toArray } (.tup (vs.toArray.toList.map toV)))) = _
  rw [if_neg (by decide)]
section
variable {P : Program} {w : World} {K : PySem.W.Frag} {h : Heap} {A : List Addr}
theorem argH_at {b : Addr} {o : Obj} (hb : b ∈ A) (hk : K.lookup b = none) (e : h.get? b = some o) : argH K h A b = hoOf o := by
  unfold argH
  rw [if_pos hb, hk, if_pos (show (none : Option Obj).isNone = true from rfl), e] <;> rfl
theorem of_argH {b : Addr} {u : HO} (q : argH K h A b = some u) : b ∈ A ∧ K.lookup b = none := by
  unfold argH at q
  by_cases hb : b ∈ A
  · rw [if_pos hb] at q
    cases hk : K.lookup b with
    | none => exact ⟨hb, rfl⟩
    | some o =>
      rw [hk, if_neg (by simp)] at q
      cases q
  · rw [if_neg hb] at q
    cases q
/-- what stands tracked -/
theorem argH_is (ar : ∀ a ∈ A, ArgOb h A a) {b : Addr} {u : HO} (q : argH K h A b = some u) : K.lookup b = none ∧ ∃ vs : List Value, vs.length ≤ sizeLine ∧ (∀ u ∈ vs, OkU A u) ∧
    ((h.get? b = some { cls := .type "list", data := .seq vs.toArray } ∧ u = .frz { cls := .type "list", data := .seq vs.toArray } (.lst (vs.map toV))) ∨
     (h.get? b = some { cls := .type "tuple", data := .seq vs.toArray } ∧ u = .frz { cls := .type "tuple", data := .seq vs.toArray } (.tup (vs.map toV)))) := by
  obtain ⟨hb, hk⟩ := of_argH q
  obtain ⟨vs, h1, h2, h3⟩ := ar b hb
  refine ⟨hk, vs, h1, h2, ?_⟩
  rcases h3 with e | e
  · rw [argH_at hb hk e, hoOf_lst] at q
    exact .inl ⟨e, (Option.some.inj q).symm⟩
  · rw [argH_at hb hk e, hoOf_tup] at q
    exact .inr ⟨e, (Option.some.inj q).symm⟩
theorem argH_only (ar : ∀ a ∈ A, ArgOb h A a) : OnlyF (argH K h A) := fun b => by
  cases q : argH K h A b with
  | none => exact .inl rfl
  | some u =>
    obtain ⟨_, vs, _, _, ⟨_, e⟩ | ⟨_, e⟩⟩ := argH_is ar q
    · exact .inr ⟨_, _, by rw [e]⟩
    · exact .inr ⟨_, _, by rw [e]⟩
theorem argH_ok (ar : ∀ a ∈ A, ArgOb h A a) : HOk P w (argH K h A) h := fun b u q => by
  obtain ⟨_, vs, h1, h2, ⟨e, rfl⟩ | ⟨e, rfl⟩⟩ := argH_is ar q
  · exact ⟨e, by rw [List.length_map]; exact h1, vs, _, vals_toV h2, e⟩
  · exact ⟨e, by rw [List.length_map]; exact h1, vs, vals_toV h2, _, e, rfl, _, rfl⟩
theorem seq_inj {c c' : Value} {vs us : List Value} (e : (some { cls := c, data := .seq vs.toArray } : Option Obj) = some { cls := c', data := .seq us.toArray }) : c = c' ∧ vs = us := by
  have e1 := Option.some.inj e
  have e2 : c = c' := congrArg Obj.cls e1
  have e3 : Data.seq vs.toArray = Data.seq us.toArray := congrArg Obj.data e1
  injection e3 with e4
  refine ⟨e2, ?_⟩
  have e5 := congrArg Array.toList e4
  simpa using e5
/-- a list argument -/
theorem argL (KX : K.In h) (ar : ∀ a ∈ A, ArgOb h A a) {a : Addr} {vs : List Value} (ha : a ∈ A) (e : h.get? a = some { cls := .type "list", data := .seq vs.toArray }) : (∀ u ∈ vs, OkU A u) ∧ SqL K (argH K h A) a (vs.map toV) := by
  obtain ⟨us, h1, h2, h3⟩ := ar a ha
  have hu : us = vs := by
    rcases h3 with q | q
    · rw [e] at q
      exact (seq_inj q).2.symm
    · rw [e] at q
      exact absurd (Value.type.inj (seq_inj q).1) (by decide)
  subst hu
  refine ⟨h2, ?_⟩
  cases hk : K.lookup a with
  | none => exact .inl (.inr ⟨_, by rw [argH_at ha hk e, hoOf_lst]⟩)
  | some o =>
    have e2 := KX a o hk
    rw [e] at e2
    obtain rfl := Option.some.inj e2
    exact .inr ⟨_, us.toArray, _, hk, rfl, rfl, rfl, by rw [List.size_toArray]; exact h1, by simpa using vals_toV h2⟩
theorem argT (KX : K.In h) (ar : ∀ a ∈ A, ArgOb h A a) {a : Addr} {vs : List Value} (ha : a ∈ A) (e : h.get? a = some { cls := .type "tuple", data := .seq vs.toArray }) : (∀ u ∈ vs, OkU A u) ∧ SqT K (argH K h A) a (vs.map toV) := by
  obtain ⟨us, h1, h2, h3⟩ := ar a ha
  have hu : us = vs := by
    rcases h3 with q | q
    · rw [e] at q
      exact absurd (Value.type.inj (seq_inj q).1) (by decide)
    · rw [e] at q
      exact (seq_inj q).2.symm
  subst hu
  refine ⟨h2, ?_⟩
  cases hk : K.lookup a with
  | none => exact .inl (.inr ⟨_, by rw [argH_at ha hk e, hoOf_tup]⟩)
  | some o =>
    have e2 := KX a o hk
    rw [e] at e2
    obtain rfl := Option.some.inj e2
    exact .inr ⟨_, us.toArray, _, hk, rfl, rfl, by rw [List.size_toArray]; exact h1, by simpa using vals_toV h2⟩
mutual
theorem dw_one {Pm : Params} (KX : K.In h) (ar : ∀ a ∈ A, ArgOb h A a) : ∀ (d : WData) (v : Value), Well Pm h v d → plW d = true → OkU A v → Dw K (argH K h A) (toV v) d
  | .none, _, x, _, _ => by
    cases x
    exact .non
  | .bool b, _, x, _, _ => by
    cases x
    exact .bl b
  | .int i, _, x, _, _ => by
    cases x
    exact .int i
  | .str s, _, x, _, _ => by
    cases x
    exact .str s
  | .bytes b, _, x, _, _ => by
    cases x
    have z := Dw.byt (K := K) (H := argH K h A) b.toArray
    exact z
  | .list ds, _, x, p, hu => by
    obtain ⟨a, vs, rfl, ho, hall⟩ := well_list x
    obtain ⟨h2, hs⟩ := argL KX ar hu ho
    exact .lst hs (dw_all KX ar ds _ hall p h2)
  | .tuple ds, _, x, p, hu => by
    obtain ⟨a, vs, rfl, ho, hall⟩ := well_tuple x
    obtain ⟨h2, hs⟩ := argT KX ar hu ho
    exact .tup hs (dw_all KX ar ds _ hall p h2)
  | .float _, _, _, p, _ => Bool.noConfusion (show false = true from p)
  | .dict _, _, _, p, _ => Bool.noConfusion (show false = true from p)
  | .bytearray _, _, _, p, _ => Bool.noConfusion (show false = true from p)
  | .set _, _, _, p, _ => Bool.noConfusion (show false = true from p)
  | .frozenset _, _, _, p, _ => Bool.noConfusion (show false = true from p)
  | .obj _ _, _, _, p, _ => Bool.noConfusion (show false = true from p)
theorem dw_all {Pm : Params} (KX : K.In h) (ar : ∀ a ∈ A, ArgOb h A a) : ∀ (ds : List WData) (vs : List Value), WellAll Pm h vs ds → plWs ds = true → (∀ u ∈ vs, OkU A u) → DwAll K (argH K h A) (vs.map toV) ds
  | [], _, x, _, _ => by
    cases x
    exact .nil
  | d :: ds, _, x, p, hu => by
    obtain ⟨v, vs, rfl, x1, x2⟩ := well_cons x
    have q : plW d = true ∧ plWs ds = true := Bool.and_eq_true_iff.mp p
    exact .cons (dw_one KX ar d v x1 q.1 (hu _ (List.mem_cons_self ..))) (dw_all KX ar ds vs x2 q.2 fun u m => hu u (List.mem_cons_of_mem _ m))
end
end
/-! ### the call -/
theorem spec_call {P : Program} {w : World} {K : PySem.W.Frag} {mg mb : Str → Option Value} {CX : CXT} {k : Nat} {fa : Addr} {fd : FuncData} {ps : List Str} {sp : Sp} {s₁ : Shared} {vals : List Value} {ds : List WData} {R : PySem.W.WRecords} {cl : Str → Option Addr} {d0 : WData}
    (KX : K.In s₁.heap) (hns : s₁.heap.Ns mainGlobals mg) (hb : s₁.heap.Ns builtinsNs mb) (hbb : ∀ x : Str, x ≠ "__name__" → mb x = bootBuiltins x) (hlim : s₁.heap.NoLimit) (hg : s₁.gens = #[])
    (hwl : WellAll w.params s₁.heap vals ds) (hpl : plWs ds = true) (hwt : ∀ d ∈ ds, d.weight ≤ 1048576) (hr : Room k callerA)
    (F : ∀ base : Heap, K.In base → base.Ns mainGlobals mg → FnOk P w K mg base CX k fa fd ps sp) (hbind : ∀ (s : Shared) (us : List Value), us.length = ps.length → BindsTo s fd ⟨us, []⟩ (ps.zip us)) (hlen : ds.length = ps.length)
    (hsp : ∀ (H : Hp) (xs : List V), OnlyF H → DwAll K H xs ds → sp xs H (fun v H' => Dw K H' v d0) fun _ _ _ => False)
    (hCX : ∀ H e s', CX [] H s₁ (fun _ _ _ => False) e s' → False) :
    codeAny (model P w) callerA (.call (.ref fa) ⟨vals, []⟩) (fun r s' => ∃ u as, r = .ok (.ret u) ∧ ReadsW R cl s'.heap u d0 as ∧ OldK s₁.heap s'.heap ∧ s'.os = s₁.os ∧ AllBare s'.gens) s₁ := by
  obtain ⟨A, ho, ar⟩ := area_all ds vals hwl hpl hwt
  have hO : OnlyF (argH K s₁.heap A) := argH_only ar
  have hok : HOk P w (argH K s₁.heap A) s₁.heap := argH_ok ar
  have hS := dw_all KX ar ds vals hwl hpl ho
  have hV := vals_toV ho
  have hK : ∀ b u, argH K s₁.heap A b = some u → K.lookup b = none := fun b u q => (argH_is ar q).1
  have noA : ∀ {b : Addr} {o : Obj} {es : Array DictEntry} {ep : Nat}, s₁.heap.get? b = some o → o.data = .dict es ep → argH K s₁.heap A b = none := fun {b o es ep} e d => by
    cases q : argH K s₁.heap A b with
    | none => rfl
    | some u =>
      obtain ⟨_, vs, _, _, ⟨e2, _⟩ | ⟨e2, _⟩⟩ := argH_is ar q
      · rw [e2] at e
        cases e
        have d' : Data.seq vs.toArray _ = Data.dict es ep := d
        cases d'
      · rw [e2] at e
        cases e
        have d' : Data.seq vs.toArray _ = Data.dict es ep := d
        cases d'
  generalize argH K s₁.heap A = H at hO hok hS hK noA
  have base_of : ∀ {b : Addr} {o : Obj}, s₁.heap.get? b = some o → H b = none → (hidT s₁.heap H).get? b = some o := fun e n => hidT_get e n
  have nsK : ∀ {b : Addr} {m : Str → Option Value}, s₁.heap.Ns b m → (hidT s₁.heap H).Ns b m := fun {b m} ⟨o, es, ep, e, d, r⟩ => ⟨o, es, ep, base_of e (noA e d), d, r⟩
  have nK : ∀ b o, K.lookup b = some o → H b = none := fun b o e => by
    cases q : H b with
    | none => rfl
    | some u =>
      rw [hK b u q] at e
      cases e
  have hKb : K.In (hidT s₁.heap H) := fun b o e => base_of (KX b o e) (nK b o e)
  have hM : Mod K mg (hidT s₁.heap H) := ⟨hKb, nsK hns, ⟨mb, nsK hb, hbb⟩, let ⟨mc, h1, h2⟩ := hlim; ⟨mc, nsK h1, h2⟩⟩
  have e0 : Env0 P w K mg (hidT s₁.heap H) callerA [] s₁ H := ⟨rfl, hM, fun b o e => of_hidT e, Nat.le_of_eq (hidT_size _ _), trivial, fun b hb => absurd (show b ∈ ([] : List Addr) from hb) (by simp), hok, .of_eq hg⟩
  have hl : vals.length = ps.length := by rw [wellAll_len hwl]; exact hlen
  refine codeAny_mono ((F _ hKb (nsK hns)).run callerA [] s₁ H ⟨vals, []⟩ vals (vals.map toV) _ _ hr e0 (hbind s₁ vals hl) hV (hsp H _ hO hS)) fun r s' x => ?_
  cases r with
  | error e => exact (hCX H e s' x).elim
  | ok fl =>
    cases fl with
    | next => exact False.elim x
    | brk => exact False.elim x
    | cont => exact False.elim x
    | ret u =>
      obtain ⟨v, H', os, bare, un, hok', r', q⟩ := x
      have kept : ∀ b o, s₁.heap.get? b = some o → s'.heap.get? b = some o := fun b o e => by
        cases q2 : H b with
        | none => exact un.keep b o e q2 (by intro z; exact absurd (show b ∈ ([] : List Addr) from z) (by simp)) (by simp)
        | some u2 =>
          rcases hO b with z | ⟨ob, u3, z⟩
          · rw [q2] at z
            cases z
          · have z2 := un.frzs b ob _ z
            obtain ⟨e1, _⟩ := hok b _ z
            obtain ⟨e2, _⟩ := hok' b _ z2
            rw [e] at e1
            cases e1
            exact e2
      have KX' : K.In s'.heap := fun b o e => kept b o (KX b o e)
      obtain ⟨as, hrd⟩ := Dw.reads (R := R) (cl := cl) hok' KX' d0 v u q r'
      exact ⟨u, as, rfl, hrd, OldK.of_keep kept, os, bare⟩
/-! ### the row -/
theorem layable_weight {ds : List WData} (h : WData.layableAll ds = true) : ∀ d ∈ ds, d.weight ≤ 1048576 := fun d hd =>
  (PySem.W.layableW_iff.mp (List.all_eq_true.mp h d hd)).2.2
theorem encAll_len : ∀ (cs : List Codec) (a : Codec.denoteAll cs), (Codec.encAll cs a).length = cs.length
  | [], _ => rfl
  | c :: cs, a => by
    show (Codec.encAll cs a.2).length + 1 = cs.length + 1
    rw [encAll_len cs a.2]
/-- the goal that k_headS leaves (case hc), from the promise of the row's def: whatever the arguments that the codecs let and the row asks for, the def gives what stands for enc (f ..) -/
theorem walk_spec {r : OpenSpec} {k : Nat} {q : Program} {loose : List Str} {XP : (Str → Option Value) → Heap → Prop} {YP : World → Heap → Prop} {d : DefRec} {K : Params → PySem.W.Frag} {CX : World → CXT} {ps : List Str} {sp : World → Sp}
    (hwell : r.wellSaid = true) (hdf : d.params.defaults = []) (hlen : r.args.length = ps.length) (hr : Room k callerA)
    (hY : ∀ (w : World) (h : Heap), YP w h → (K w.params).In h)
    (F : ∀ (w : World) (mg : Str → Option Value) (fa : Addr) (h : Heap), YP w h → (K w.params).In h → h.Ns mainGlobals mg → mg d.name = some (.ref fa) →
      ∃ fd : FuncData, (∀ (s : Shared) (us : List Value), us.length = ps.length → BindsTo s fd ⟨us, []⟩ (ps.zip us)) ∧
        ∀ base : Heap, (K w.params).In base → base.Ns mainGlobals mg → FnOk r.prog w (K w.params) mg base (CX w) k fa fd ps (sp w))
    (hsp : ∀ (w : World) (H : Hp) (xs : List V) (a : Codec.denoteAll r.args), OnlyF H → Codec.withinAll r.args a = true → Codec.app r.args r.asked a = true → DwAll (K w.params) H xs (Codec.encAll r.args a) →
      sp w xs H (fun v H' => Dw (K w.params) H' v (r.ret.enc (Codec.app r.args r.f a))) fun _ _ _ => False)
    (hCX : ∀ (w : World) (H : Hp) (s : Shared) (e : Value) (s' : Shared), CX w [] H s (fun _ _ _ => False) e s' → False) :
    PySem.W.WalkOS q loose XP YP r d [] (fun f vs => PySem.call f vs) := by
  intro w s_0 s₁ mg mb G Y fa o pm cd doc dV kV ho hd hcd hD hmg hg args vals as hpre hlay hrd hwl hlo
  obtain ⟨a, e1, e2⟩ := PySem.W.os_pre_some hpre
  obtain ⟨e3, hwi⟩ := Codec.encAll_of_decAll r.args args a e1
  subst e3
  have KX := hY w _ Y
  obtain ⟨fd, hb, hF⟩ := F w mg fa _ Y KX G.T.g hmg
  refine PySem.W.enter_call (codeAny_mono (spec_call (R := []) (cl := classAt s_0.heap) (d0 := r.ret.enc (Codec.app r.args r.f a)) KX G.T.g G.T.b G.T.builtins G.T.nolimit hg hwl (pl_encAll _ _) (layable_weight hlay) hr hF hb (by rw [encAll_len]; exact hlen)
    (fun H xs hO hS => hsp w H xs a hO hwi e2 hS) fun H e s' => hCX w H s₁ e s') fun r' s' hq => ?_)
  obtain ⟨u, as', rfl, h1, h2, h3, h4⟩ := hq
  exact ⟨.inl ⟨u, _, as', rfl, fun _ => rfl, h1, (OpenSpec.post_iff hwell hwi _ _).mpr rfl, fun z => Bool.noConfusion (show false = true from z)⟩, h2, h3, h4⟩
/-- the same where the promise hangs on the written part alone -/
theorem walk_specK {r : OpenSpec} {k : Nat} {q : Program} {loose : List Str} {XP : (Str → Option Value) → Heap → Prop} {YP : World → Heap → Prop} {d : DefRec} {K : Params → PySem.W.Frag} {CX : CXT} {ps : List Str} {sp : PySem.W.Frag → Sp}
    (hwell : r.wellSaid = true) (hdf : d.params.defaults = []) (hlen : r.args.length = ps.length) (hr : Room k callerA)
    (hY : ∀ (w : World) (h : Heap), YP w h → (K w.params).In h)
    (F : ∀ (w : World) (mg : Str → Option Value) (fa : Addr) (h : Heap), YP w h → (K w.params).In h → h.Ns mainGlobals mg → mg d.name = some (.ref fa) →
      ∃ fd : FuncData, (∀ (s : Shared) (us : List Value), us.length = ps.length → BindsTo s fd ⟨us, []⟩ (ps.zip us)) ∧
        ∀ base : Heap, (K w.params).In base → base.Ns mainGlobals mg → FnOk r.prog w (K w.params) mg base CX k fa fd ps (sp (K w.params)))
    (hsp : ∀ (K : PySem.W.Frag) (H : Hp) (xs : List V) (a : Codec.denoteAll r.args), OnlyF H → Codec.withinAll r.args a = true → Codec.app r.args r.asked a = true → DwAll K H xs (Codec.encAll r.args a) →
      sp K xs H (fun v H' => Dw K H' v (r.ret.enc (Codec.app r.args r.f a))) fun _ _ _ => False)
    (hCX : ∀ (H : Hp) (s : Shared) (e : Value) (s' : Shared), CX [] H s (fun _ _ _ => False) e s' → False) :
    PySem.W.WalkOS q loose XP YP r d [] (fun f vs => PySem.call f vs) :=
  walk_spec (K := K) (CX := fun _ => CX) (sp := fun w => sp (K w.params)) hwell hdf hlen hr hY F (fun w H xs a h1 h2 h3 h4 => hsp (K w.params) H xs a h1 h2 h3 h4) fun _ H s e s' => hCX H s e s'
end L2
-- rests on (row put in by the clerk, for the bench that shows a file only what it spells): KE.SpHead KE.OsShapes
end
set_option maxRecDepth 512
set_option maxHeartbeats 200000
namespace Pd
def isParting (z : Int) : Bool := decide (z = 32) || decide (z = 10)
def isDig (z : Int) : Bool := decide (48 ≤ z) && decide (z ≤ 57)
def isSmall (z : Int) : Bool := decide (97 ≤ z) && decide (z ≤ 122)
def isCap (z : Int) : Bool := decide (65 ≤ z) && decide (z ≤ 90)
def isLet (z : Int) : Bool := isSmall z || isCap z
def mkSmall (z : Int) : Int := if isCap z = true then z - 65 + 97 else z
def nats (l : List Int) : List Nat := l.map fun z => z.toNat
/-! ### words -/
def wStep (s : List (List Int) × List Int) (c : Int) : List (List Int) × List Int :=
  if isParting c = true then (if s.2 = [] then s else (s.1 ++ [s.2], [])) else (s.1, s.2 ++ [c])
def wordsI (l : List Int) : List (List Int) := let s := l.foldl wStep ([], []); if s.2 = [] then s.1 else s.1 ++ [s.2]
theorem nats_nil_iff (l : List Int) : nats l = [] ↔ l = [] := by simp [nats]
theorem parting_iff (c : Int) : isParting c = true ↔ (c.toNat = 32 ∨ c.toNat = 10) := by
  unfold isParting
  simp only [Bool.or_eq_true, decide_eq_true_eq]
  omega
def wStepN (s : List (List Nat) × List Nat) (c : Nat) : List (List Nat) × List Nat :=
  if c = 32 ∨ c = 10 then (if s.2 = [] then s else (s.1 ++ [s.2], [])) else (s.1, s.2 ++ [c])
theorem words_sim : ∀ (l : List Int) (s : List (List Int) × List Int), (nats l).foldl wStepN (s.1.map nats, nats s.2) = ((l.foldl wStep s).1.map nats, nats (l.foldl wStep s).2)
  | [], s => rfl
  | c :: r, s => by
    have h : wStepN (s.1.map nats, nats s.2) c.toNat = ((wStep s c).1.map nats, nats (wStep s c).2) := by
      unfold wStepN wStep
      by_cases hp : isParting c = true
      · rw [if_pos hp, if_pos ((parting_iff c).mp hp)]
        by_cases h2 : s.2 = []
        · simp [h2, nats]
        · rw [if_neg h2, if_neg (show ¬ nats s.2 = [] by rw [nats_nil_iff]; exact h2)]
          simp [nats]
      · rw [if_neg hp, if_neg (fun q => hp ((parting_iff c).mpr q))]
        simp [nats]
    show (nats r).foldl wStepN (wStepN (s.1.map nats, nats s.2) c.toNat) = _
    rw [h]
    exact words_sim r (wStep s c)
theorem words_eq (l : List Int) : Rb17.words (nats l) = (wordsI l).map nats := by
  have h := words_sim l ([], [])
  show (let s := (nats l).foldl wStepN ([], []); if s.2 = [] then s.1 else s.1 ++ [s.2]) = _
  have h' : (nats l).foldl wStepN ([], []) = ((l.foldl wStep ([], [])).1.map nats, nats (l.foldl wStep ([], [])).2) := h
  rw [h']
  unfold wordsI
  simp only [nats_nil_iff]
  split <;> simp
/-! ### signs, digits, patterns -/
def signsI (w : List Int) : List Int := w.filter fun z => !isDig z
def twoDig : List Int → Bool
  | a :: b :: r => (isDig a && isDig b) || twoDig (b :: r)
  | _ => false
def dStep (ds : List Int) (z : Int) : List Int := if isDig z = true then ds.set (ds.length - 1) (z - 48) else ds ++ [0]
def digitsI (w : List Int) : List Int := w.foldl dStep [0]
def innerI (s : List Int) : List Int :=
  let f := if 0 < s.length ∧ s.getD 0 0 = 46 then 1 else 0
  let e := if f < s.length ∧ s.getD (s.length - 1) 0 = 46 then s.length - 1 else s.length
  (s.drop f).take (e - f)
def patI (w : List Int) : Bool := !(decide (32 < (signsI w).length) || twoDig w) && (decide (0 < (innerI (signsI w)).length) && (innerI (signsI w)).all isSmall)
def textI (t : List Int) : Bool := decide (t.length ≤ 262144) && (decide ((wordsI t).length ≤ 4096) && (wordsI t).all patI)
theorem dig_iff (c : Int) (h : 0 ≤ c) : isDig c = Rb17.isDigit c.toNat := by
  unfold isDig Rb17.isDigit
  rw [Bool.eq_iff_iff]
  simp only [Bool.and_eq_true, decide_eq_true_eq]
  omega
theorem small_iff (c : Int) (h : 0 ≤ c) : isSmall c = Rb17.isLetter c.toNat := by
  unfold isSmall Rb17.isLetter
  rw [Bool.eq_iff_iff]
  simp only [Bool.and_eq_true, decide_eq_true_eq]
  omega
def okSigns (l : List Int) : Bool := (signsI l).all fun z => isSmall z || decide (z = 46)
def natInts (l : List Nat) : List Int := l.map fun (x : Nat) => (x : Int)
theorem set_last {α : Type} (l : List α) (a b : α) : (l ++ [a]).set ((l ++ [a]).length - 1) b = l ++ [b] := by
  induction l with
  | nil => rfl
  | cons x r ih =>
    have e : ((x :: r) ++ [a]).length - 1 = ((r ++ [a]).length - 1) + 1 := by simp
    rw [e]
    show x :: (r ++ [a]).set ((r ++ [a]).length - 1) b = x :: (r ++ [b])
    rw [ih]
theorem nats_natInts (l : List Nat) : nats (natInts l) = l := by
  induction l with
  | nil => rfl
  | cons a r ih =>
    show ((a : Int)).toNat :: nats (natInts r) = a :: r
    rw [ih]
    simp
theorem pattern_eq : ∀ (l : List Int) (n : Nat) (p : Rb17.Pattern), (∀ z ∈ l, 0 ≤ z) → Rb17.pattern n p (nats l) =
    if (okSigns l && !twoDig l) = true then some ⟨p.letters ++ nats (signsI l), nats (l.foldl dStep (natInts (p.numbers ++ [n])))⟩ else none
  | [], n, p, _ => by
    show some (⟨p.letters, p.numbers ++ [n]⟩ : Rb17.Pattern) = _
    rw [if_pos (by rfl)]
    show _ = some (⟨p.letters ++ [], nats (natInts (p.numbers ++ [n]))⟩ : Rb17.Pattern)
    rw [nats_natInts, List.append_nil]
  | c :: r, n, p, h0 => by
    have hc : 0 ≤ c := h0 c (by simp)
    have hr : ∀ z ∈ r, 0 ≤ z := fun z hz => h0 z (by simp [hz])
    have ih := pattern_eq r
    have hd := dig_iff c hc
    by_cases hdc : isDig c = true
    · -- a digit
      have e1 : signsI (c :: r) = signsI r := by simp [signsI, hdc]
      have e2 : dStep (natInts (p.numbers ++ [n])) c = natInts (p.numbers ++ [c.toNat - 48]) := by
        unfold dStep
        rw [if_pos hdc]
        have q : natInts (p.numbers ++ [n]) = natInts p.numbers ++ [(n : Int)] := by simp [natInts]
        rw [q, set_last]
        have q2 : natInts (p.numbers ++ [c.toNat - 48]) = natInts p.numbers ++ [((c.toNat - 48 : Nat) : Int)] := by simp [natInts]
        rw [q2]
        unfold isDig at hdc
        simp only [Bool.and_eq_true, decide_eq_true_eq] at hdc
        have q3 : c - 48 = ((c.toNat - 48 : Nat) : Int) := by omega
        rw [q3]
      have ek : okSigns (c :: r) = okSigns r := by unfold okSigns; rw [e1]
      match r, ih, hr, e1, ek with
      | [], _, _, e1, ek =>
        show (if Rb17.isDigit c.toNat = true then _ else _) = _
        rw [if_pos (by rw [← hd]; exact hdc)]
        show some (⟨p.letters, p.numbers ++ [c.toNat - 48]⟩ : Rb17.Pattern) = _
        rw [if_pos (by rw [ek]; rfl), e1]
        show _ = some (⟨_, nats (dStep (natInts (p.numbers ++ [n])) c)⟩ : Rb17.Pattern)
        rw [e2, nats_natInts]
        simp [signsI, nats]
      | d :: r', ih, hr, e1, ek =>
        show (if Rb17.isDigit c.toNat = true then (if Rb17.isDigit d.toNat = true then none else Rb17.pattern (c.toNat - 48) p (nats (d :: r'))) else _) = _
        rw [if_pos (by rw [← hd]; exact hdc), ← dig_iff d (hr d (by simp))]
        by_cases hdd : isDig d = true
        · rw [if_pos hdd, if_neg]
          simp [twoDig, hdc, hdd]
        · rw [if_neg hdd, ih (c.toNat - 48) p hr, ek, e1]
          have et : twoDig (c :: d :: r') = twoDig (d :: r') := by simp [twoDig, hdd]
          rw [et]
          show _ = if _ then some (⟨_, nats ((d :: r').foldl dStep (dStep (natInts (p.numbers ++ [n])) c))⟩ : Rb17.Pattern) else none
          rw [e2]
    · have e1 : signsI (c :: r) = c :: signsI r := by simp [signsI, hdc]
      have et : twoDig (c :: r) = twoDig r := by
        cases r with
        | nil => rfl
        | cons d r' => simp [twoDig, hdc]
      have e2 : dStep (natInts (p.numbers ++ [n])) c = natInts ((p.numbers ++ [n]) ++ [0]) := by
        unfold dStep
        rw [if_neg hdc]
        simp [natInts]
      have ek : okSigns (c :: r) = ((isSmall c || decide (c = 46)) && okSigns r) := by unfold okSigns; rw [e1]; rfl
      have h46 : (c.toNat = 46) ↔ (c = 46) := by omega
      have hl := small_iff c hc
      show Rb17.pattern n p (c.toNat :: nats r) = _
      unfold Rb17.pattern
      rw [if_neg (by rw [← hd]; exact hdc), ← hl]
      by_cases hs : isSmall c = true ∨ c.toNat = 46
      · rw [if_pos hs, ih 0 ⟨p.letters ++ [c.toNat], p.numbers ++ [n]⟩ hr, et, ek]
        have hk : (isSmall c || decide (c = 46)) = true := by
          rcases hs with q | q
          · simp [q]
          · simp [h46.mp q]
        rw [hk, e1]
        show _ = if _ then some (⟨_, nats (r.foldl dStep (dStep (natInts (p.numbers ++ [n])) c))⟩ : Rb17.Pattern) else none
        rw [e2]
        simp [nats]
      · rw [if_neg hs, if_neg]
        rw [ek]
        have hk : (isSmall c || decide (c = 46)) = false := by
          simp only [not_or] at hs
          simp [hs.1]
          exact fun q => hs.2 (h46.mpr q)
        simp [hk]
end Pd
namespace Pd
theorem wfold_len : ∀ (l : List Int) (s : List (List Int) × List Int), (l.foldl wStep s).1.length ≤ s.1.length + l.length ∧ (l.foldl wStep s).2.length ≤ s.2.length + l.length
  | [], s => ⟨Nat.le_refl _, Nat.le_refl _⟩
  | c :: r, s => by
    have ih := wfold_len r (wStep s c)
    have h : (wStep s c).1.length ≤ s.1.length + 1 ∧ (wStep s c).2.length ≤ s.2.length + 1 := by
      unfold wStep
      split
      · split
        · simp
        · simp
      · simp
    show (r.foldl wStep (wStep s c)).1.length ≤ s.1.length + (r.length + 1) ∧ (r.foldl wStep (wStep s c)).2.length ≤ s.2.length + (r.length + 1)
    omega
theorem wordsI_len (l : List Int) : (wordsI l).length ≤ l.length + 1 := by
  have h := wfold_len l ([], [])
  unfold wordsI
  simp only
  split
  · simp at h
    omega
  · simp at h ⊢
    omega
end Pd
namespace Pd
theorem twoDig_iff : ∀ l : List Int, twoDig l = true ↔ ∃ k, k + 1 < l.length ∧ isDig (l.getD k 0) = true ∧ isDig (l.getD (k + 1) 0) = true
  | [] => by simp [twoDig]
  | [a] => by simp [twoDig]
  | a :: b :: r => by
    have ih := twoDig_iff (b :: r)
    unfold twoDig
    rw [Bool.or_eq_true, Bool.and_eq_true, ih]
    constructor
    · rintro (⟨h1, h2⟩ | ⟨k, h1, h2, h3⟩)
      · exact ⟨0, by simp, h1, h2⟩
      · exact ⟨k + 1, by simp at h1 ⊢; omega, h2, h3⟩
    · rintro ⟨k, h1, h2, h3⟩
      match k, h1, h2, h3 with
      | 0, _, h2, h3 => exact .inl ⟨h2, h3⟩
      | k + 1, h1, h2, h3 => exact .inr ⟨k, by simp at h1 ⊢; omega, h2, h3⟩
theorem dfold_len : ∀ (l ds : List Int), (l.foldl dStep ds).length = ds.length + (signsI l).length
  | [], ds => by simp [signsI]
  | z :: r, ds => by
    have ih := dfold_len r (dStep ds z)
    show (r.foldl dStep (dStep ds z)).length = _
    rw [ih]
    unfold dStep signsI
    by_cases h : isDig z = true
    · simp [h]
    · simp [h]
      omega
theorem digitsI_len (l : List Int) : (digitsI l).length = (signsI l).length + 1 := by
  unfold digitsI
  rw [dfold_len]
  simp
  omega
theorem dfold_pos : ∀ (l ds : List Int), (∀ z ∈ ds, 0 ≤ z) → ∀ z ∈ l.foldl dStep ds, 0 ≤ z
  | [], ds, h => h
  | c :: r, ds, h => by
    refine dfold_pos r (dStep ds c) fun z hz => ?_
    unfold dStep at hz
    by_cases hd : isDig c = true
    · rw [if_pos hd] at hz
      unfold isDig at hd
      simp only [Bool.and_eq_true, decide_eq_true_eq] at hd
      rcases List.mem_or_eq_of_mem_set hz with q | q
      · exact h z q
      · omega
    · rw [if_neg hd] at hz
      rcases List.mem_append.mp hz with q | q
      · exact h z q
      · simp at q
        omega
theorem digitsI_pos (l : List Int) : ∀ z ∈ digitsI l, 0 ≤ z := dfold_pos l [0] (by simp)
theorem signsI_len (l : List Int) : (signsI l).length ≤ l.length := List.length_filter_le _ _
theorem innerI_len (s : List Int) : (innerI s).length ≤ s.length := by
  unfold innerI
  simp only
  rw [List.length_take, List.length_drop]
  omega
/-- the words of a text have no more bytes than it -/
theorem wfold_mem : ∀ (l : List Int) (s : List (List Int) × List Int) (n : Nat), (∀ w ∈ s.1, w.length ≤ n) → s.2.length ≤ n → (∀ w ∈ (l.foldl wStep s).1, w.length ≤ n + l.length) ∧ (l.foldl wStep s).2.length ≤ n + l.length
  | [], s, n, h1, h2 => ⟨h1, h2⟩
  | c :: r, s, n, h1, h2 => by
    have ih := wfold_mem r (wStep s c) (n + 1) (fun w hw => ?_) ?_
    · show (∀ w ∈ (r.foldl wStep (wStep s c)).1, w.length ≤ n + (r.length + 1)) ∧ (r.foldl wStep (wStep s c)).2.length ≤ n + (r.length + 1)
      refine ⟨fun w hw => ?_, ?_⟩
      · have := ih.1 w hw
        omega
      · have := ih.2
        omega
    · unfold wStep at hw
      split at hw
      · split at hw
        · have := h1 w hw
          omega
        · rcases List.mem_append.mp hw with q | q
          · have := h1 w q
            omega
          · rw [List.mem_singleton.mp q]
            omega
      · have := h1 w hw
        omega
    · unfold wStep
      split
      · split
        · omega
        · simp
      · simp
        omega
theorem wordsI_mem (l : List Int) (w : List Int) (h : w ∈ wordsI l) : w.length ≤ l.length := by
  have q := wfold_mem l ([], []) 0 (by simp) (by simp)
  rw [Nat.zero_add] at q
  unfold wordsI at h
  simp only at h
  split at h
  · exact q.1 w h
  · rcases List.mem_append.mp h with h | h
    · exact q.1 w h
    · rw [List.mem_singleton.mp h]
      exact q.2
end Pd
namespace Pd
/-! ### the greatest digits -/
def raiseAt : List Int → Nat → List Int → List Int
  | gr, _, [] => gr
  | gr, st, d :: ds => raiseAt (gr.set st (max (gr.getD st 0) d)) (st + 1) ds
theorem raiseAt_len : ∀ (gr : List Int) (st : Nat) (ds : List Int), (raiseAt gr st ds).length = gr.length
  | gr, st, [] => rfl
  | gr, st, d :: ds => by
    unfold raiseAt
    rw [raiseAt_len _ (st + 1) ds, List.length_set]
theorem raiseAt_snoc : ∀ (ds gr : List Int) (st : Nat) (d : Int), raiseAt gr st (ds ++ [d]) = (raiseAt gr st ds).set (st + ds.length) (max ((raiseAt gr st ds).getD (st + ds.length) 0) d)
  | [], gr, st, d => rfl
  | e :: ds, gr, st, d => by
    show raiseAt (gr.set st (max (gr.getD st 0) e)) (st + 1) (ds ++ [d]) = _
    rw [raiseAt_snoc ds _ (st + 1) d]
    show _ = (raiseAt (gr.set st (max (gr.getD st 0) e)) (st + 1) ds).set (st + (ds.length + 1)) _
    have e1 : st + 1 + ds.length = st + (ds.length + 1) := by omega
    rw [e1]
    rfl
theorem getD_set (l : List Int) (i j : Nat) (v : Int) (h : i < l.length) : (l.set i v).getD j 0 = if j = i then v else l.getD j 0 := by
  rw [List.getD_eq_getElem?_getD, List.getD_eq_getElem?_getD]
  by_cases e : j = i
  · subst e
    rw [if_pos rfl, List.getElem?_set_self h]
    rfl
  · rw [if_neg e, List.getElem?_set_ne (Ne.symm e)]
theorem raiseAt_getD : ∀ (ds gr : List Int) (st g : Nat), st + ds.length ≤ gr.length → (raiseAt gr st ds).getD g 0 = if st ≤ g ∧ g < st + ds.length then max (gr.getD g 0) (ds.getD (g - st) 0) else gr.getD g 0
  | [], gr, st, g, h => by
    show gr.getD g 0 = _
    rw [if_neg (by simp)]
  | d :: ds, gr, st, g, h => by
    have hl : st + (ds.length + 1) ≤ gr.length := h
    unfold raiseAt
    rw [raiseAt_getD ds _ (st + 1) g (by rw [List.length_set]; omega), getD_set gr st g _ (by omega)]
    have hl2 : (d :: ds).length = ds.length + 1 := rfl
    rw [hl2]
    by_cases e : g = st
    · subst e
      rw [if_neg (by omega), if_pos rfl, if_pos ⟨Nat.le_refl _, by omega⟩, Nat.sub_self]
      rfl
    · rw [if_neg e]
      by_cases q : st + 1 ≤ g ∧ g < st + 1 + ds.length
      · rw [if_pos q, if_pos ⟨by omega, by omega⟩]
        have e2 : g - st = (g - (st + 1)) + 1 := by omega
        rw [e2]
        rfl
      · rw [if_neg q, if_neg (by omega)]
end Pd
namespace Pd
/-! ### the patterns by their signs -/
def zeros (n : Nat) : List Int := List.replicate n 0
theorem zeros_len (n : Nat) : (zeros n).length = n := List.length_replicate
def pStep (dv : List Int → Option (List Int)) (w : List Int) : List Int → Option (List Int) := fun k =>
  if k = signsI w then some (raiseAt ((dv (signsI w)).getD (zeros ((signsI w).length + 1))) 0 (digitsI w)) else dv k
def dvOf (ws : List (List Int)) : List Int → Option (List Int) := ws.foldl pStep (fun _ => none)
theorem dvOf_snoc (ws : List (List Int)) (w : List Int) : dvOf (ws ++ [w]) = pStep (dvOf ws) w := by
  unfold dvOf
  rw [List.foldl_append]
  rfl
theorem pStep_len {dv : List Int → Option (List Int)} (w : List Int) (h : ∀ s v, dv s = some v → v.length = s.length + 1) : ∀ s v, pStep dv w s = some v → v.length = s.length + 1 := fun s v e => by
  unfold pStep at e
  by_cases q : s = signsI w
  · rw [if_pos q] at e
    have e := Option.some.inj e
    rw [← e, raiseAt_len, q]
    cases r : dv (signsI w) with
    | none => exact zeros_len _
    | some u => exact h _ _ r
  · rw [if_neg q] at e
    exact h s v e
theorem foldp_len : ∀ (ws : List (List Int)) (dv : List Int → Option (List Int)), (∀ s v, dv s = some v → v.length = s.length + 1) → ∀ s v, ws.foldl pStep dv s = some v → v.length = s.length + 1
  | [], dv, h => h
  | w :: r, dv, h => foldp_len r (pStep dv w) (pStep_len w h)
theorem dvOf_len (ws : List (List Int)) : ∀ s v, dvOf ws s = some v → v.length = s.length + 1 := foldp_len ws _ (fun s v e => by cases e)
end Pd
namespace Pd
def isCount (z : Int) : Bool := decide (1 ≤ z) && decide (z ≤ 64)
def askI (l r : Int) (w : List Int) : Bool := (isCount (w.length : Int) && (isCount l && isCount r)) && w.all isLet
def dotI (w : List Int) : List Int := 46 :: (w.map mkSmall ++ [46])
def gapIn (dv : List Int → Option (List Int)) (signs : List Int) (st : Nat) (gr : List Int) (j : Nat) : List Int :=
  (List.range j).foldl (fun g i => raiseAt g st ((dv ((signs.drop st).take (i + 1))).getD [])) gr
def gapOut (dv : List Int → Option (List Int)) (signs : List Int) (i : Nat) : List Int :=
  (List.range i).foldl (fun g st => gapIn dv signs st g (min signs.length (st + 32) - st)) (zeros (signs.length + 1))
def gapI (dv : List Int → Option (List Int)) (signs : List Int) : List Int := gapOut dv signs signs.length
theorem gapIn_succ (dv : List Int → Option (List Int)) (signs : List Int) (st : Nat) (gr : List Int) (j : Nat) :
    gapIn dv signs st gr (j + 1) = raiseAt (gapIn dv signs st gr j) st ((dv ((signs.drop st).take (j + 1))).getD []) := by
  unfold gapIn
  rw [List.range_succ, List.foldl_append]
  rfl
theorem gapOut_succ (dv : List Int → Option (List Int)) (signs : List Int) (i : Nat) : gapOut dv signs (i + 1) = gapIn dv signs i (gapOut dv signs i) (min signs.length (i + 32) - i) := by
  unfold gapOut
  rw [List.range_succ, List.foldl_append]
  rfl
theorem gapIn_len (dv : List Int → Option (List Int)) (signs : List Int) (st : Nat) (gr : List Int) : ∀ j, (gapIn dv signs st gr j).length = gr.length
  | 0 => rfl
  | j + 1 => by rw [gapIn_succ, raiseAt_len, gapIn_len dv signs st gr j]
theorem gapOut_len (dv : List Int → Option (List Int)) (signs : List Int) : ∀ i, (gapOut dv signs i).length = signs.length + 1
  | 0 => zeros_len _
  | i + 1 => by rw [gapOut_succ, gapIn_len, gapOut_len dv signs i]
def markI (dv : List Int → Option (List Int)) (l r : Int) (w : List Int) (i : Nat) : Int :=
  if (gapI dv (dotI w)).getD (i + 2) 0 % 2 = 1 ∧ l ≤ (i : Int) + 1 ∧ r ≤ (w.length : Int) - ((i : Int) + 1) then 1 else 0
def marksI (dv : List Int → Option (List Int)) (l r : Int) (w : List Int) : List Int := (List.range w.length).map (markI dv l r w)
end Pd
namespace Pd
/-! ### lines -/
/-- the things, four numbers each -/
def quads : List Int → List (List Int)
  | a :: b :: c :: d :: r => [a, b, c, d] :: quads r
  | _ => []
def q4 (q : List Int) : Prop := q.length = 4
theorem quads_len : ∀ ns : List Int, (quads ns).length = ns.length / 4
  | [] => by simp [quads]
  | [_] => by simp [quads]
  | [_, _] => by simp [quads]
  | [_, _, _] => by simp [quads]
  | a :: b :: c :: d :: r => by
    have ih := quads_len r
    show (quads r).length + 1 = (r.length + 4) / 4
    rw [ih]
    omega
theorem quads_at : ∀ (ns : List Int) (i : Nat), i < ns.length / 4 → (quads ns)[i]? = some ((ns.drop (4 * i)).take 4)
  | [], i, h => by simp at h
  | [_], i, h => by simp at h
  | [_, _], i, h => by simp at h
  | [_, _, _], i, h => by simp at h
  | a :: b :: c :: d :: r, i, h => by
    match i with
    | 0 => rfl
    | i + 1 =>
      have h' : i < r.length / 4 := by
        have : (a :: b :: c :: d :: r).length = r.length + 4 := rfl
        omega
      have ih := quads_at r i h'
      show (quads r)[i]? = _
      rw [ih, show 4 * (i + 1) = 4 * i + 4 by omega]
      rfl
theorem quads_q4 : ∀ (ns : List Int), ∀ q ∈ quads ns, q.length = 4
  | [], q, h => by cases h
  | [_], q, h => by cases h
  | [_, _], q, h => by cases h
  | [_, _, _], q, h => by cases h
  | a :: b :: c :: d :: r, q, h => by
    have h : q ∈ [a, b, c, d] :: quads r := h
    rcases List.mem_cons.mp h with e | e
    · rw [e]
      rfl
    · exact quads_q4 r q e
abbrev at4 (q : List Int) (i : Nat) : Int := q.getD i 0
def lineI (qs : List (List Int)) (a j : Nat) : List (List Int) := ((qs.take j).drop a).dropWhile fun q => !decide (at4 q 0 = 0)
def endW (qs : List (List Int)) (j : Nat) : Int := match qs[j]? with
  | some q => if at4 q 0 = 2 then at4 q 1 else 0
  | none => 0
def natW (line : List (List Int)) : Int := ((line.filter fun q => !decide (at4 q 0 = 2)).map fun q => at4 q 1).sum
def canI (line : List (List Int)) (g : Nat) : Int := ((line.filter fun q => decide (at4 q 0 = 1)).map fun q => at4 q g).sum
def partI (t given s : Int) : Int := if s = 0 then 0 else t * given / s
def bpStep (g : Nat) (t s : Int) (st : List Int × Int) (q : List Int) : List Int × Int :=
  let e := if at4 q 0 = 1 then st.2 + at4 q g else st.2
  (st.1 ++ [partI t e s - partI t st.2 s], e)
def partsI (line : List (List Int)) (g : Nat) (t : Int) : List Int := (line.foldl (bpStep g t (canI line g)) ([], 0)).1
def begStep (sign : Int) (st : List Int × Int) (x : List Int × Int) : List Int × Int := (st.1 ++ [st.2], if at4 x.1 0 = 2 then st.2 else st.2 + (at4 x.1 1 + sign * x.2))
def begI (line : List (List Int)) (g : Nat) (t : Int) : List Int := ((line.zip (partsI line g t)).foldl (begStep (if g = 2 then 1 else -1)) ([], 0)).1
def widthI (qs : List (List Int)) (i j width : Int) : Option (List Int) :=
  let line := lineI qs (i + 1).toNat j.toNat
  let missing := width - (natW line + endW qs j.toNat)
  if 0 ≤ missing then some (begI line 2 missing) else if canI line 3 < -missing then none else some (begI line 3 (-missing))
theorem bpStep_len (g : Nat) (t s : Int) : ∀ (l : List (List Int)) (st : List Int × Int), (l.foldl (bpStep g t s) st).1.length = st.1.length + l.length
  | [], st => rfl
  | q :: r, st => by
    show (r.foldl (bpStep g t s) (bpStep g t s st q)).1.length = _
    rw [bpStep_len g t s r]
    simp [bpStep]
    omega
theorem partsI_len (line : List (List Int)) (g : Nat) (t : Int) : (partsI line g t).length = line.length := by
  unfold partsI
  rw [bpStep_len]
  simp
theorem lineI_len (qs : List (List Int)) (a j : Nat) : (lineI qs a j).length ≤ qs.length := by
  unfold lineI
  have h1 := (List.dropWhile_sublist (fun q => !decide (at4 q 0 = 0)) (l := (qs.take j).drop a)).length_le
  rw [List.length_drop, List.length_take] at h1
  omega
theorem lineI_mem (qs : List (List Int)) (a j : Nat) (q : List Int) (h : q ∈ lineI qs a j) : q ∈ qs :=
  List.mem_of_mem_take (List.mem_of_mem_drop ((List.dropWhile_sublist _).subset h))
/-- the numbers of a line's things -/
def okQ (q : List Int) : Prop := q.length = 4 ∧ (at4 q 0 = 0 ∨ at4 q 0 = 1 ∨ at4 q 0 = 2) ∧ 0 ≤ at4 q 1 ∧ at4 q 1 ≤ 1000000 ∧ (at4 q 0 = 1 → 0 ≤ at4 q 2 ∧ at4 q 2 ≤ 1000000 ∧ 0 ≤ at4 q 3 ∧ at4 q 3 ≤ 1000000)
theorem canI_le : ∀ (line : List (List Int)) (g : Nat), g = 2 ∨ g = 3 → (∀ q ∈ line, okQ q) → 0 ≤ canI line g ∧ canI line g ≤ 1000000 * (line.length : Int)
  | [], g, _, _ => by simp [canI]
  | q :: r, g, hg, h => by
    have ih := canI_le r g hg fun x hx => h x (List.mem_cons_of_mem _ hx)
    have hq := h q (List.mem_cons_self ..)
    unfold canI at ih ⊢
    have hl : ((q :: r).length : Int) = (r.length : Int) + 1 := by simp
    rw [List.filter_cons, hl]
    by_cases e : at4 q 0 = 1
    · rw [if_pos (decide_eq_true e), List.map_cons, List.sum_cons]
      have := hq.2.2.2.2 e
      rcases hg with rfl | rfl <;> omega
    · rw [if_neg (by simpa using e)]
      omega
theorem lineI_found {qs : List (List Int)} {a j k : Nat} (hk : a ≤ k) (hkj : k < j) (hj : j ≤ qs.length) (hno : ∀ m, a ≤ m → m < k → ¬ at4 (qs.getD m []) 0 = 0) (hyes : at4 (qs.getD k []) 0 = 0) : lineI qs a j = (qs.drop k).take (j - k) := by
  unfold lineI
  have e0 : (qs.drop k).take (j - k) = (qs.take j).drop k := by rw [List.drop_take]
  rw [e0]
  induction hn : k - a generalizing a with
  | zero =>
    have e : a = k := by omega
    subst e
    have hl : a < (qs.take j).length := by rw [List.length_take]; omega
    rw [List.drop_eq_getElem_cons hl, List.dropWhile_cons]
    have e2 : (qs.take j)[a] = qs.getD a [] := by
      rw [List.getElem_take, List.getD_eq_getElem?_getD, List.getElem?_eq_getElem (by omega)]
      rfl
    rw [e2, if_neg (by rw [hyes]; decide)]
  | succ n ih =>
    have hl : a < (qs.take j).length := by rw [List.length_take]; omega
    rw [List.drop_eq_getElem_cons hl, List.dropWhile_cons]
    have e2 : (qs.take j)[a] = qs.getD a [] := by
      rw [List.getElem_take, List.getD_eq_getElem?_getD, List.getElem?_eq_getElem (by omega)]
      rfl
    rw [e2, if_pos (by simpa using hno a (Nat.le_refl _) (by omega))]
    exact ih (by omega) (fun m h1 h2 => hno m (by omega) h2) (by omega)
theorem dw_nil {α : Type} (p : α → Bool) : ∀ (l : List α), (∀ x ∈ l, p x = true) → l.dropWhile p = []
  | [], _ => rfl
  | x :: r, h => by
    rw [List.dropWhile_cons, if_pos (h x (List.mem_cons_self ..))]
    exact dw_nil p r fun y hy => h y (List.mem_cons_of_mem _ hy)
theorem lineI_none {qs : List (List Int)} {a j : Nat} (hj : j ≤ qs.length) (hno : ∀ m, a ≤ m → m < j → ¬ at4 (qs.getD m []) 0 = 0) : lineI qs a j = [] := by
  unfold lineI
  refine dw_nil _ _ fun q hq => ?_
  obtain ⟨i, hi⟩ := List.getElem?_of_mem hq
  rw [List.getElem?_drop] at hi
  obtain ⟨h1, h2⟩ := List.getElem?_eq_some_iff.mp hi
  rw [List.length_take] at h1
  have h3 := hno (a + i) (by omega) (by omega)
  rw [List.getElem_take] at h2
  have e : qs.getD (a + i) [] = q := by
    rw [List.getD_eq_getElem?_getD, List.getElem?_eq_getElem (by omega), h2]
    rfl
  rw [e] at h3
  simpa using h3
theorem range_filter {α β : Type} (p : α → Bool) (f : α → β) (d : α) : ∀ (l : List α), ((List.range l.length).filter fun i => p (l.getD i d)).map (fun i => f (l.getD i d)) = (l.filter p).map f
  | [] => rfl
  | x :: r => by
    have ih := range_filter p f d r
    rw [List.length_cons, List.range_succ_eq_map, List.filter_cons, List.filter_cons, List.filter_map]
    have e0 : (x :: r).getD 0 d = x := rfl
    have e1 : ((fun i => p ((x :: r).getD i d)) ∘ Nat.succ) = fun i => p (r.getD i d) := rfl
    rw [e0, e1]
    by_cases h : p x = true
    · rw [if_pos h, if_pos h, List.map_cons, List.map_cons, e0, List.map_map, ← ih]
      rfl
    · rw [if_neg h, if_neg h, List.map_map, ← ih]
      rfl
theorem natW_pos : ∀ (line : List (List Int)), (∀ q ∈ line, okQ q) → 0 ≤ natW line
  | [], _ => by simp [natW]
  | q :: r, h => by
    have ih := natW_pos r fun x hx => h x (List.mem_cons_of_mem _ hx)
    have hq := h q (List.mem_cons_self ..)
    unfold natW at ih ⊢
    rw [List.filter_cons]
    split
    · rw [List.map_cons, List.sum_cons]
      have := hq.2.2.1
      omega
    · exact ih
theorem endW_pos (qs : List (List Int)) (j : Nat) (h : ∀ q ∈ qs, okQ q) : 0 ≤ endW qs j := by
  unfold endW
  cases e : qs[j]? with
  | none => exact Int.le_refl _
  | some q =>
    have hq := h q (List.mem_of_getElem? e)
    simp only
    split
    · exact hq.2.2.1
    · exact Int.le_refl _
end Pd
namespace Pd
/-! ### the calls -/
def takeW (ws : List (List Int)) (xs : List Int) : List (List Int) := if textI xs = true then wordsI xs else ws
def takeA (xs : List Int) : List Int := if textI xs = true then [((wordsI xs).length : Int)] else [-1]
def partA (ws : List (List Int)) (l r : Int) (xs : List Int) : List Int := if askI l r xs = true then (marksI (dvOf ws) l r xs).sum :: marksI (dvOf ws) l r xs else [-1]
def placeA (wd i j : Int) (ns : List Int) : List Int := match widthI (quads ns) i j wd with
  | none => [-1]
  | some l => (l.length : Int) :: l
end Pd
namespace Pd
/-- a call's number, its whole numbers, its row -/
abbrev Cl := Int × List Int × List Int
/-- the list's calls, one behind another -/
inductive Parses : List Int → List Cl → Prop
  | nil : Parses [] []
  | beg {r : List Int} {cs : List Cl} : Parses r cs → Parses (0 :: r) ((0, [], []) :: cs)
  | call {p : Int} {nums row t : List Int} {cs : List Cl} : ((p = 1 ∧ nums.length = 0) ∨ (p = 2 ∧ nums.length = 2) ∨ (p = 4 ∧ nums.length = 3)) → Parses t cs → Parses (p :: (nums ++ ((row.length : Int) :: (row ++ t)))) ((p, nums, row) :: cs)
/-- what may be asked of one call -/
def OkCl (c : Cl) : Prop :=
  (c.1 = 0) ∨ (c.1 = 1 ∧ c.2.2.length ≤ 5000) ∨ (c.1 = 2 ∧ c.2.1.length = 2 ∧ c.2.2.length ≤ 64) ∨
  (c.1 = 4 ∧ c.2.1.length = 3 ∧ c.2.2.length ≤ 2000 ∧ c.2.2.length % 4 = 0 ∧ -1 ≤ c.2.1.getD 1 0 ∧ c.2.1.getD 1 0 < c.2.1.getD 2 0 ∧ 4 * c.2.1.getD 2 0 ≤ (c.2.2.length : Int) ∧ 0 ≤ c.2.1.getD 0 0 ∧ c.2.1.getD 0 0 ≤ 1000000000 ∧ ∀ q ∈ quads c.2.2, okQ q)
def stepW (ws : List (List Int)) (c : Cl) : List (List Int) := if c.1 = 1 then takeW ws c.2.2 else if c.1 = 2 then ws else if c.1 = 4 then ws else []
def stepA (ws : List (List Int)) (c : Cl) : List Int := if c.1 = 1 then takeA c.2.2 else if c.1 = 2 then partA ws (c.2.1.getD 0 0) (c.2.1.getD 1 0) c.2.2 else if c.1 = 4 then placeA (c.2.1.getD 0 0) (c.2.1.getD 1 0) (c.2.1.getD 2 0) c.2.2 else [0]
def aStep (st : List (List Int) × List Int) (c : Cl) : List (List Int) × List Int := (stepW st.1 c, st.2 ++ (((stepA st.1 c).length : Int) :: stepA st.1 c))
end Pd
namespace Pd
/-! ### the list's calls -/
def conv (c : Cl) : List (List Int) := if c.1 = 0 then [[0]] else [c.1 :: c.2.1, c.2.2]
def ShC (c : Cl) : Prop := c = (0, [], []) ∨ (c.1 = 1 ∧ c.2.1.length = 0) ∨ (c.1 = 2 ∧ c.2.1.length = 2) ∨ (c.1 = 4 ∧ c.2.1.length = 3)
theorem rows1 {l : List Int} {xs : List (List Int)} {t : List Int} (h : PyFlat.rows 1 l = some (xs, t)) : ∃ row, xs = [row] ∧ l = (row.length : Int) :: (row ++ t) := by
  match l, h with
  | [], h => cases h
  | n :: r, h =>
    unfold PyFlat.rows PyFlat.row at h
    dsimp only at h
    by_cases q : 0 ≤ n ∧ n.toNat ≤ r.length
    · rw [if_pos q] at h
      simp only [PyFlat.rows] at h
      have h := Option.some.inj h
      have h1 : xs = [r.take n.toNat] := (congrArg Prod.fst h).symm
      have h2 : t = r.drop n.toNat := (congrArg Prod.snd h).symm
      refine ⟨r.take n.toNat, h1, ?_⟩
      rw [h2, List.take_append_drop, List.length_take]
      congr 1
      omega
    · rw [if_neg q] at h
      cases h
theorem call_of {l : List Int} {c : List (List Int)} {t : List Int} (h : PyFlat.call PyRb17.shape l = some (c, t)) : (∃ r, l = 0 :: r ∧ c = [[0]] ∧ t = r) ∨
    ∃ (p : Int) (nums row : List Int), ((p = 1 ∧ nums.length = 0) ∨ (p = 2 ∧ nums.length = 2) ∨ (p = 4 ∧ nums.length = 3)) ∧ l = p :: (nums ++ ((row.length : Int) :: (row ++ t))) ∧ c = [p :: nums, row] := by
  match l, h with
  | [], h => cases h
  | p :: r, h =>
    have go : ∀ n : Nat, PyRb17.shape p = some (n, 1) → ∃ (nums row : List Int), nums.length = n ∧ p :: r = p :: (nums ++ ((row.length : Int) :: (row ++ t))) ∧ c = [p :: nums, row] := fun n hs => by
      unfold PyFlat.call at h
      dsimp only at h
      rw [hs] at h
      dsimp only at h
      by_cases q : r.length < n
      · rw [if_pos q] at h
        cases h
      · rw [if_neg q] at h
        cases e : PyFlat.rows 1 (r.drop n) with
        | none =>
          rw [e] at h
          cases h
        | some x =>
          rw [e] at h
          obtain ⟨xs, u⟩ := x
          simp only at h
          have h := Option.some.inj h
          have h1 : c = (p :: r.take n) :: xs := (congrArg Prod.fst h).symm
          have h2 : t = u := (congrArg Prod.snd h).symm
          obtain ⟨row, e1, e2⟩ := rows1 e
          refine ⟨r.take n, row, by rw [List.length_take]; omega, ?_, by rw [h1, e1]⟩
          rw [h2, ← e2, List.take_append_drop]
    by_cases p0 : p = 0
    · left
      subst p0
      have e : PyFlat.call PyRb17.shape (0 :: r) = some ([[0]], r) := by
        unfold PyFlat.call
        dsimp only
        have hs : PyRb17.shape 0 = some (0, 0) := rfl
        rw [hs]
        simp [PyFlat.rows]
      rw [e] at h
      have h := Option.some.inj h
      exact ⟨r, rfl, (congrArg Prod.fst h).symm, (congrArg Prod.snd h).symm⟩
    · right
      by_cases p1 : p = 1
      · obtain ⟨nums, row, h1, h2, h3⟩ := go 0 (by rw [p1]; rfl)
        exact ⟨p, nums, row, .inl ⟨p1, h1⟩, h2, h3⟩
      · by_cases p2 : p = 2
        · obtain ⟨nums, row, h1, h2, h3⟩ := go 2 (by rw [p2]; rfl)
          exact ⟨p, nums, row, .inr (.inl ⟨p2, h1⟩), h2, h3⟩
        · by_cases p4 : p = 4
          · obtain ⟨nums, row, h1, h2, h3⟩ := go 3 (by rw [p4]; rfl)
            exact ⟨p, nums, row, .inr (.inr ⟨p4, h1⟩), h2, h3⟩
          · exfalso
            unfold PyFlat.call PyRb17.shape at h
            dsimp only at h
            rw [if_neg p0, if_neg p1, if_neg p2, if_neg p4] at h
            cases h
theorem calls_of : ∀ (f : Nat) (l : List Int) (cs0 : List (List (List Int))), PyFlat.calls PyRb17.shape f l = some cs0 → ∃ cs : List Cl, Parses l cs ∧ cs0 = cs.map conv ∧ ∀ c ∈ cs, ShC c
  | _, [], cs0, h => by
    unfold PyFlat.calls at h
    have h := Option.some.inj h
    exact ⟨[], .nil, h.symm, fun c hc => by cases hc⟩
  | 0, p :: r, cs0, h => by cases h
  | f + 1, p :: r, cs0, h => by
    unfold PyFlat.calls at h
    cases e : PyFlat.call PyRb17.shape (p :: r) with
    | none =>
      rw [e] at h
      cases h
    | some x =>
      obtain ⟨c, t⟩ := x
      rw [e] at h
      simp only at h
      cases e2 : PyFlat.calls PyRb17.shape f t with
      | none =>
        rw [e2] at h
        cases h
      | some ds =>
        rw [e2] at h
        have h := Option.some.inj h
        obtain ⟨cs, i1, i2, i3⟩ := calls_of f t ds e2
        rcases call_of e with ⟨r', h1, h2, h3⟩ | ⟨p', nums, row, hp, h1, h2⟩
        · subst h3
          refine ⟨(0, [], []) :: cs, by rw [h1]; exact .beg i1, ?_, fun c' hc => ?_⟩
          · rw [← h, h2, i2]
            rfl
          · rcases List.mem_cons.mp hc with q | q
            · exact .inl q
            · exact i3 c' q
        · refine ⟨(p', nums, row) :: cs, by rw [h1]; exact .call hp i1, ?_, fun c' hc => ?_⟩
          · rw [← h, h2, i2, List.map_cons]
            congr 1
            unfold conv
            rw [if_neg (by show ¬ p' = 0; omega)]
          · rcases List.mem_cons.mp hc with q | q
            · rw [q]
              exact .inr hp
            · exact i3 c' q
end Pd
namespace Pd
/-! ### lines: the mirror is the specification -/
def toTh (q : List Int) : Rb17.Thing := if at4 q 0 = 0 then .box (at4 q 1).toNat else if at4 q 0 = 1 then .glue (at4 q 1).toNat (at4 q 2).toNat (at4 q 3).toNat else .place (at4 q 1).toNat (at4 q 2) (at4 q 3 == 1)
theorem things_quads : ∀ (t : List Int), Rb17Neutral.things t = (quads t).map toTh
  | [] => rfl
  | [_] => rfl
  | [_, _] => rfl
  | [_, _, _] => rfl
  | k :: w :: a :: b :: r => by
    have ih := things_quads r
    show (if k = 0 then Rb17.Thing.box w.toNat else if k = 1 then .glue w.toNat a.toNat b.toNat else .place w.toNat a (b == 1)) :: Rb17Neutral.things r = toTh [k, w, a, b] :: (quads r).map toTh
    rw [ih]
    rfl
theorem thing_ok {k w a b : Int} (h : Rb17Neutral.thing [k, w, a, b] = true) : okQ [k, w, a, b] := by
  unfold Rb17Neutral.thing Rb17Neutral.between at h
  simp only [Bool.and_eq_true, decide_eq_true_eq] at h
  obtain ⟨⟨h1, h2⟩, h3⟩ := h
  refine ⟨rfl, ?_, h1, h2, ?_⟩
  · show k = 0 ∨ k = 1 ∨ k = 2
    by_cases e : k = 0
    · exact .inl e
    · rw [if_neg e] at h3
      by_cases e1 : k = 1
      · exact .inr (.inl e1)
      · rw [if_neg e1] at h3
        simp only [Bool.and_eq_true, decide_eq_true_eq] at h3
        exact .inr (.inr h3.1)
  · show k = 1 → 0 ≤ a ∧ a ≤ 1000000 ∧ 0 ≤ b ∧ b ≤ 1000000
    intro e
    rw [if_neg (by omega), if_pos e] at h3
    simp only [Bool.and_eq_true, decide_eq_true_eq] at h3
    omega
theorem all4_ok : ∀ (t : List Int), Rb17Neutral.all4 t = true → t.length % 4 = 0 ∧ ∀ q ∈ quads t, okQ q
  | [], _ => ⟨rfl, fun q h => by cases h⟩
  | [_], h => by cases h
  | [_, _], h => by cases h
  | [_, _, _], h => by cases h
  | k :: w :: a :: b :: r, h => by
    have h : (Rb17Neutral.thing [k, w, a, b] && Rb17Neutral.all4 r) = true := h
    rw [Bool.and_eq_true] at h
    have ih := all4_ok r h.2
    refine ⟨?_, fun q hq => ?_⟩
    · show (r.length + 4) % 4 = 0
      omega
    · have hq : q ∈ [k, w, a, b] :: quads r := hq
      rcases List.mem_cons.mp hq with e | e
      · rw [e]
        exact thing_ok h.1
      · exact ih.2 q e
theorem isBox_th (q : List Int) : (toTh q).isBox = decide (at4 q 0 = 0) := by
  unfold toTh
  by_cases e : at4 q 0 = 0
  · rw [if_pos e, decide_eq_true e]
    rfl
  · rw [if_neg e, decide_eq_false e]
    by_cases e1 : at4 q 0 = 1
    · rw [if_pos e1]
      rfl
    · rw [if_neg e1]
      rfl
theorem dropWhile_mapT (f : List Int → Rb17.Thing) (p : Rb17.Thing → Bool) (p' : List Int → Bool) (h : ∀ q, p (f q) = p' q) : ∀ l : List (List Int), (l.map f).dropWhile p = (l.dropWhile p').map f
  | [] => rfl
  | q :: r => by
    rw [List.map_cons, List.dropWhile_cons, List.dropWhile_cons, h q]
    by_cases e : p' q = true
    · rw [if_pos e, if_pos e]
      exact dropWhile_mapT f p p' h r
    · rw [if_neg e, if_neg e, List.map_cons]
theorem line_at (qs : List (List Int)) (a j : Nat) : (((qs.map toTh).drop a).take (j - a)).dropWhile (fun t => !t.isBox) = (lineI qs a j).map toTh := by
  unfold lineI
  rw [← List.map_drop, ← List.map_take, dropWhile_mapT toTh (fun t => !t.isBox) (fun q => !decide (at4 q 0 = 0)) fun q => by rw [isBox_th], List.drop_take]
theorem line_th (qs : List (List Int)) (i : Int) (j : Nat) (hi : -1 ≤ i) : Rb17.line (qs.map toTh) (if i < 0 then none else some i.toNat) j = (lineI qs (i + 1).toNat j).map toTh := by
  by_cases q : i < 0
  · rw [if_pos q, show (i + 1).toNat = 0 by omega]
    exact line_at qs 0 j
  · rw [if_neg q, show (i + 1).toNat = i.toNat + 1 by omega]
    exact line_at qs (i.toNat + 1) j
theorem natural_th : ∀ (l : List (List Int)), (∀ q ∈ l, okQ q) → (Rb17.natural (l.map toTh) : Int) = natW l
  | [], _ => rfl
  | q :: r, h => by
    have ih := natural_th r fun x hx => h x (List.mem_cons_of_mem _ hx)
    have hq := h q (List.mem_cons_self ..)
    obtain ⟨_, hk, h1, _⟩ := hq
    unfold natW at ih ⊢
    rw [List.map_cons, List.filter_cons]
    rcases hk with e | e | e
    · have et : toTh q = .box (at4 q 1).toNat := by unfold toTh; rw [if_pos e]
      rw [et, if_pos (by rw [e]; decide), List.map_cons, List.sum_cons, ← ih]
      show (((at4 q 1).toNat + Rb17.natural (r.map toTh) : Nat) : Int) = _
      omega
    · have et : toTh q = .glue (at4 q 1).toNat (at4 q 2).toNat (at4 q 3).toNat := by unfold toTh; rw [if_neg (by omega), if_pos e]
      rw [et, if_pos (by rw [e]; decide), List.map_cons, List.sum_cons, ← ih]
      show (((at4 q 1).toNat + Rb17.natural (r.map toTh) : Nat) : Int) = _
      omega
    · have et : toTh q = .place (at4 q 1).toNat (at4 q 2) (at4 q 3 == 1) := by unfold toTh; rw [if_neg (by omega), if_neg (by omega)]
      rw [et, if_neg (by rw [e]; decide), ← ih]
      rfl
theorem more_th : ∀ (l : List (List Int)), (∀ q ∈ l, okQ q) → (Rb17.more (l.map toTh) : Int) = canI l 2 ∧ (Rb17.less (l.map toTh) : Int) = canI l 3
  | [], _ => ⟨rfl, rfl⟩
  | q :: r, h => by
    have ih := more_th r fun x hx => h x (List.mem_cons_of_mem _ hx)
    have hq := h q (List.mem_cons_self ..)
    obtain ⟨_, hk, h1, _, h2⟩ := hq
    unfold canI at ih ⊢
    rw [List.map_cons, List.filter_cons]
    rcases hk with e | e | e
    · have et : toTh q = .box (at4 q 1).toNat := by unfold toTh; rw [if_pos e]
      rw [et, if_neg (by rw [e]; decide)]
      exact ih
    · have et : toTh q = .glue (at4 q 1).toNat (at4 q 2).toNat (at4 q 3).toNat := by unfold toTh; rw [if_neg (by omega), if_pos e]
      have h2 := h2 e
      rw [et, if_pos (by rw [e]; decide), List.map_cons, List.sum_cons, List.map_cons, List.sum_cons, ← ih.1, ← ih.2]
      constructor
      · show (((at4 q 2).toNat + Rb17.more (r.map toTh) : Nat) : Int) = _
        omega
      · show (((at4 q 3).toNat + Rb17.less (r.map toTh) : Nat) : Int) = _
        omega
    · have et : toTh q = .place (at4 q 1).toNat (at4 q 2) (at4 q 3 == 1) := by unfold toTh; rw [if_neg (by omega), if_neg (by omega)]
      rw [et, if_neg (by rw [e]; decide)]
      exact ih
theorem widthAt_th (qs : List (List Int)) (j : Nat) (h : ∀ q ∈ qs, okQ q) : (Rb17.widthAt (qs.map toTh) j : Int) = endW qs j := by
  unfold Rb17.widthAt endW
  rw [List.getElem?_map]
  cases e : qs[j]? with
  | none => rfl
  | some q =>
    obtain ⟨_, hk, h1, _⟩ := h q (List.mem_of_getElem? e)
    show ((match some (toTh q) with
      | some (.place w _ _) => w
      | _ => 0 : Nat) : Int) = if at4 q 0 = 2 then at4 q 1 else 0
    rcases hk with k | k | k
    · have et : toTh q = .box (at4 q 1).toNat := by unfold toTh; rw [if_pos k]
      rw [et, if_neg (by omega)]
      rfl
    · have et : toTh q = .glue (at4 q 1).toNat (at4 q 2).toNat (at4 q 3).toNat := by unfold toTh; rw [if_neg (by omega), if_pos k]
      rw [et, if_neg (by omega)]
      rfl
    · have et : toTh q = .place (at4 q 1).toNat (at4 q 2) (at4 q 3 == 1) := by unfold toTh; rw [if_neg (by omega), if_neg (by omega)]
      rw [et, if_pos k]
      show ((at4 q 1).toNat : Int) = _
      omega
/-! ### where things begin -/
def partsR (g : Nat) (t s : Int) : Int → List (List Int) → List Int
  | _, [] => []
  | d, q :: r => (partI t (if at4 q 0 = 1 then d + at4 q g else d) s - partI t d s) :: partsR g t s (if at4 q 0 = 1 then d + at4 q g else d) r
theorem bp_fold (g : Nat) (t s : Int) : ∀ (l : List (List Int)) (acc : List Int) (d : Int), (l.foldl (bpStep g t s) (acc, d)).1 = acc ++ partsR g t s d l
  | [], acc, d => by simp [partsR]
  | q :: r, acc, d => by
    show (r.foldl (bpStep g t s) (acc ++ [_], _)).1 = _
    rw [bp_fold g t s r]
    simp [partsR]
def begR (sign : Int) : Int → List (List Int × Int) → List Int
  | _, [] => []
  | x, q :: r => x :: begR sign (if at4 q.1 0 = 2 then x else x + (at4 q.1 1 + sign * q.2)) r
theorem beg_fold (sign : Int) : ∀ (l : List (List Int × Int)) (acc : List Int) (x : Int), (l.foldl (begStep sign) (acc, x)).1 = acc ++ begR sign x l
  | [], acc, x => by simp [begR]
  | q :: r, acc, x => by
    show (r.foldl (begStep sign) (acc ++ [x], _)).1 = _
    rw [beg_fold sign r]
    simp [begR]
theorem part_eq (T S e d : Nat) (t : Int) (ht : S = 0 ∨ t = (T : Int)) : partI t (e : Int) (S : Int) - partI t (d : Int) (S : Int) = if S = 0 then 0 else ((T * e / S : Nat) : Int) - ((T * d / S : Nat) : Int) := by
  unfold partI
  by_cases h : S = 0
  · subst h
    rfl
  · rw [if_neg (show ¬ (S : Int) = 0 by omega), if_neg (show ¬ (S : Int) = 0 by omega), if_neg h]
    rcases ht with q | q
    · exact absurd q h
    · rw [q, Int.natCast_ediv, Int.natCast_ediv, Int.natCast_mul, Int.natCast_mul]
theorem stands_th (g : Nat) (wide : Bool) (hg : g = if wide = true then 2 else 3) (T S : Nat) (t : Int) (ht : S = 0 ∨ t = (T : Int)) : ∀ (l : List (List Int)) (x : Int) (d : Nat), (∀ q ∈ l, okQ q) →
    Rb17.stands T S wide x d (l.map toTh) = begR (if wide = true then 1 else -1) x (l.zip (partsR g t (S : Int) (d : Int) l))
  | [], x, d, _ => rfl
  | q :: r, x, d, h => by
    have hr := fun x hx => h x (List.mem_cons_of_mem q hx)
    obtain ⟨_, hk, h1, _, h2⟩ := h q (List.mem_cons_self ..)
    have ih := fun x d => stands_th g wide hg T S t ht r x d hr
    rw [List.map_cons]
    show _ = x :: begR _ (if at4 q 0 = 2 then x else x + (at4 q 1 + (if wide = true then 1 else -1) * (partI t (if at4 q 0 = 1 then (d : Int) + at4 q g else (d : Int)) S - partI t d S))) (r.zip (partsR g t S (if at4 q 0 = 1 then (d : Int) + at4 q g else (d : Int)) r))
    rcases hk with k | k | k
    · have et : toTh q = .box (at4 q 1).toNat := by unfold toTh; rw [if_pos k]
      rw [et, if_neg (show ¬ at4 q 0 = 2 by omega), if_neg (show ¬ at4 q 0 = 1 by omega), ← ih]
      show x :: Rb17.stands T S wide (x + ((at4 q 1).toNat : Int)) d (r.map toTh) = _
      rw [Int.sub_self, Int.mul_zero, Int.add_zero, Int.toNat_of_nonneg h1]
    · have et : toTh q = .glue (at4 q 1).toNat (at4 q 2).toNat (at4 q 3).toNat := by unfold toTh; rw [if_neg (by omega), if_pos k]
      have h2 := h2 k
      rw [et, if_neg (show ¬ at4 q 0 = 2 by omega), if_pos k]
      have ee : (d : Int) + at4 q g = ((d + (if wide = true then (at4 q 2).toNat else (at4 q 3).toNat) : Nat) : Int) := by
        rw [hg]
        cases wide
        · show d + at4 q 3 = ((d + (at4 q 3).toNat : Nat) : Int)
          omega
        · show d + at4 q 2 = ((d + (at4 q 2).toNat : Nat) : Int)
          omega
      rw [ee, ← ih, part_eq T S _ d t ht]
      have e1 : ((at4 q 1).toNat : Int) = at4 q 1 := Int.toNat_of_nonneg h1
      cases wide
      · show x :: Rb17.stands T S false (x + ((at4 q 1).toNat : Int) - (if S = 0 then 0 else ((T * (d + (at4 q 3).toNat) / S : Nat) : Int) - ((T * d / S : Nat) : Int))) (d + (at4 q 3).toNat) (r.map toTh) = x :: Rb17.stands T S false (x + (at4 q 1 + -1 * (if S = 0 then 0 else ((T * (d + (at4 q 3).toNat) / S : Nat) : Int) - ((T * d / S : Nat) : Int)))) (d + (at4 q 3).toNat) (r.map toTh)
        rw [e1]
        generalize (if S = 0 then 0 else ((T * (d + (at4 q 3).toNat) / S : Nat) : Int) - ((T * d / S : Nat) : Int)) = z
        rw [show x + at4 q 1 - z = x + (at4 q 1 + -1 * z) by omega]
      · show x :: Rb17.stands T S true (x + ((at4 q 1).toNat : Int) + (if S = 0 then 0 else ((T * (d + (at4 q 2).toNat) / S : Nat) : Int) - ((T * d / S : Nat) : Int))) (d + (at4 q 2).toNat) (r.map toTh) = x :: Rb17.stands T S true (x + (at4 q 1 + 1 * (if S = 0 then 0 else ((T * (d + (at4 q 2).toNat) / S : Nat) : Int) - ((T * d / S : Nat) : Int)))) (d + (at4 q 2).toNat) (r.map toTh)
        rw [e1]
        generalize (if S = 0 then 0 else ((T * (d + (at4 q 2).toNat) / S : Nat) : Int) - ((T * d / S : Nat) : Int)) = z
        rw [show x + at4 q 1 + z = x + (at4 q 1 + 1 * z) by omega]
    · have et : toTh q = .place (at4 q 1).toNat (at4 q 2) (at4 q 3 == 1) := by unfold toTh; rw [if_neg (by omega), if_neg (by omega)]
      rw [et, if_pos k, if_neg (show ¬ at4 q 0 = 1 by omega), ← ih]
      rfl
theorem begI_th (l : List (List Int)) (g : Nat) (wide : Bool) (hg : g = if wide = true then 2 else 3) (T S : Nat) (t : Int) (hS : (S : Int) = canI l g) (ht : S = 0 ∨ t = (T : Int)) (h : ∀ q ∈ l, okQ q) : Rb17.stands T S wide 0 0 (l.map toTh) = begI l g t := by
  rw [stands_th g wide hg T S t ht l 0 0 h]
  unfold begI partsI
  rw [beg_fold, bp_fold, List.nil_append, List.nil_append, ← hS, hg]
  cases wide <;> rfl
theorem places_th (t : List Int) (wd i j : Int) (h0 : 0 ≤ wd) (hi : -1 ≤ i) (h : ∀ q ∈ quads t, okQ q) : Rb17.placed (Rb17Neutral.things t) wd.toNat (if i < 0 then none else some i.toNat) j.toNat = widthI (quads t) i j wd := by
  rw [things_quads]
  unfold Rb17.placed widthI
  dsimp only
  rw [line_th _ _ _ hi]
  have hl : ∀ q ∈ lineI (quads t) (i + 1).toNat j.toNat, okQ q := fun q hq => h q (lineI_mem _ _ _ q hq)
  have h1 := natural_th _ hl
  have h2 := more_th _ hl
  have h3 := widthAt_th _ j.toNat h
  generalize lineI (quads t) (i + 1).toNat j.toNat = L at *
  generalize Rb17.widthAt ((quads t).map toTh) j.toNat = W at *
  have hc := canI_le L 2 (.inl rfl) hl
  by_cases q : Rb17.natural (L.map toTh) + W ≤ wd.toNat
  · have p1 : 0 ≤ wd - (natW L + endW (quads t) j.toNat) := by omega
    rw [if_pos q, if_pos p1]
    refine congrArg some (begI_th L 2 true rfl _ _ _ h2.1 ?_ hl)
    by_cases z : Rb17.more (L.map toTh) = 0
    · exact .inl z
    · rw [if_neg z]
      right
      omega
  · have p1 : ¬ 0 ≤ wd - (natW L + endW (quads t) j.toNat) := by omega
    rw [if_neg q, if_neg p1]
    by_cases q2 : Rb17.natural (L.map toTh) + W - wd.toNat ≤ Rb17.less (L.map toTh)
    · have p2 : ¬ canI L 3 < -(wd - (natW L + endW (quads t) j.toNat)) := by omega
      rw [if_pos q2, if_neg p2]
      exact congrArg some (begI_th L 3 false rfl _ _ _ h2.2 (.inr (by omega)) hl)
    · have p2 : canI L 3 < -(wd - (natW L + endW (quads t) j.toNat)) := by omega
      rw [if_neg q2, if_pos p2]
end Pd
namespace Pd
/-! ### a text of patterns: the mirror is the specification -/
def patOf (w : List Int) : Rb17.Pattern := ⟨nats (signsI w), nats (digitsI w)⟩
theorem nats_getD (l : List Int) (i : Nat) : (nats l).getD i 0 = (l.getD i 0).toNat := by
  unfold nats
  rw [List.getD_eq_getElem?_getD, List.getD_eq_getElem?_getD, List.getElem?_map]
  cases l[i]? <;> rfl
theorem nats_len (l : List Int) : (nats l).length = l.length := List.length_map ..
theorem mem_getD {l : List Int} {z : Int} (h : z ∈ l) : ∃ i, i < l.length ∧ l.getD i 0 = z := by
  obtain ⟨i, hi, e⟩ := List.mem_iff_getElem.mp h
  refine ⟨i, hi, ?_⟩
  rw [List.getD_eq_getElem?_getD, List.getElem?_eq_getElem hi, e]
  rfl
theorem getD_mem {l : List Int} {i : Nat} (h : i < l.length) : l.getD i 0 ∈ l := by
  rw [List.getD_eq_getElem?_getD, List.getElem?_eq_getElem h]
  exact List.getElem_mem h
theorem cut_getD (l : List Int) (f n i : Nat) (h : i < n) : ((l.drop f).take n).getD i 0 = l.getD (f + i) 0 := by
  rw [List.getD_eq_getElem?_getD, List.getD_eq_getElem?_getD, List.getElem?_take_of_lt h, List.getElem?_drop]
theorem signs_sub (w : List Int) : ∀ z ∈ signsI w, z ∈ w := fun z h => (List.mem_filter.mp h).1
/-- what the specification asks of a pattern's letters -/
def okLetters (s : List Int) : Prop := (∀ i, i < s.length → isSmall (s.getD i 0) = true ∨ s.getD i 0 = 46) ∧ (∃ i, i < s.length ∧ isSmall (s.getD i 0) = true) ∧ ∀ i, i < s.length → s.getD i 0 = 46 → i = 0 ∨ i + 1 = s.length
theorem small46 {z : Int} (h : isSmall z = true) : ¬ z = 46 := by
  unfold isSmall at h
  simp only [Bool.and_eq_true, decide_eq_true_eq] at h
  omega
theorem inner_iff (s : List Int) : ((innerI s).all isSmall = true ∧ 0 < (innerI s).length) ↔ okLetters s := by
  unfold innerI
  dsimp only
  generalize hf : (if 0 < s.length ∧ s.getD 0 0 = 46 then 1 else 0) = f
  generalize he : (if f < s.length ∧ s.getD (s.length - 1) 0 = 46 then s.length - 1 else s.length) = e
  have hf1 : (f = 1 ∧ 0 < s.length ∧ s.getD 0 0 = 46) ∨ (f = 0 ∧ ¬ (0 < s.length ∧ s.getD 0 0 = 46)) := by
    by_cases q : 0 < s.length ∧ s.getD 0 0 = 46
    · rw [if_pos q] at hf
      exact .inl ⟨hf.symm, q⟩
    · rw [if_neg q] at hf
      exact .inr ⟨hf.symm, q⟩
  have he1 : (e = s.length - 1 ∧ f < s.length ∧ s.getD (s.length - 1) 0 = 46) ∨ (e = s.length ∧ ¬ (f < s.length ∧ s.getD (s.length - 1) 0 = 46)) := by
    by_cases q : f < s.length ∧ s.getD (s.length - 1) 0 = 46
    · rw [if_pos q] at he
      exact .inl ⟨he.symm, q⟩
    · rw [if_neg q] at he
      exact .inr ⟨he.symm, q⟩
  clear hf he
  have hlen : ((s.drop f).take (e - f)).length = e - f := by
    rw [List.length_take, List.length_drop]
    omega
  rw [List.all_eq_true, hlen]
  constructor
  · rintro ⟨h1, h2⟩
    have hin : ∀ i, f ≤ i → i < e → isSmall (s.getD i 0) = true := fun i a b => by
      have q := cut_getD s f (e - f) (i - f) (by omega)
      rw [show f + (i - f) = i by omega] at q
      rw [← q]
      exact h1 _ (getD_mem (by rw [hlen]; omega))
    refine ⟨fun i hi => ?_, ⟨f, by omega, hin f (Nat.le_refl _) (by omega)⟩, fun i hi h46 => ?_⟩
    · by_cases a : f ≤ i
      · by_cases b : i < e
        · exact .inl (hin i a b)
        · right
          have : i = s.length - 1 := by omega
          subst this
          rcases he1 with q | q
          · exact q.2.2
          · omega
      · right
        have : i = 0 := by omega
        subst this
        rcases hf1 with q | q
        · exact q.2.2
        · omega
    · by_cases a : f ≤ i
      · by_cases b : i < e
        · exact absurd h46 (small46 (hin i a b))
        · omega
      · omega
  · rintro ⟨h1, ⟨k, hk, hks⟩, h3⟩
    have hk0 : f ≤ k := by
      rcases hf1 with q | q
      · have : ¬ k = 0 := fun z => by
          subst z
          exact small46 hks q.2.2
        omega
      · omega
    have hke : k < e := by
      rcases he1 with q | q
      · have : ¬ k = s.length - 1 := fun z => by
          subst z
          exact small46 hks q.2.2
        omega
      · omega
    refine ⟨fun z hz => ?_, by omega⟩
    obtain ⟨i, hi, rfl⟩ := mem_getD hz
    rw [hlen] at hi
    rw [cut_getD s f (e - f) i hi]
    rcases h1 (f + i) (by omega) with q | q
    · exact q
    · exfalso
      rcases h3 (f + i) (by omega) q with z | z
      · rw [z] at q
        omega
      · have : f + i = s.length - 1 := by omega
        rw [this] at q
        omega
/-- what the specification asks of a word's pattern -/
def okPat (p : Option Rb17.Pattern) : Bool := match p with
  | some p => decide (1 ≤ p.letters.length) && (decide (p.letters.length ≤ 32) && (p.letters.any Rb17.isLetter && (List.range p.letters.length).all fun i => decide (p.letters.getD i 0 ≠ 46) || (i == 0 || i + 1 == p.letters.length)))
  | none => false
theorem signs_pos {w : List Int} (h : ∀ z ∈ w, 0 ≤ z) : ∀ z ∈ signsI w, 0 ≤ z := fun z hz => h z (signs_sub w z hz)
theorem pat_eq (w : List Int) (h0 : ∀ z ∈ w, 0 ≤ z) : okPat (Rb17.pattern 0 ⟨[], []⟩ (nats w)) = patI w ∧ (patI w = true → Rb17.pattern 0 ⟨[], []⟩ (nats w) = some (patOf w)) := by
  have hp := pattern_eq w 0 ⟨[], []⟩ h0
  have e1 : nats (w.foldl dStep (natInts (([] : List Nat) ++ [0]))) = nats (digitsI w) := rfl
  simp only [List.nil_append] at hp
  have hp : Rb17.pattern 0 ⟨[], []⟩ (nats w) = if (okSigns w && !twoDig w) = true then some (patOf w) else none := hp
  have hs := signs_pos h0
  have hok : okSigns w = true ↔ ∀ i, i < (signsI w).length → isSmall ((signsI w).getD i 0) = true ∨ (signsI w).getD i 0 = 46 := by
    unfold okSigns
    rw [List.all_eq_true]
    constructor
    · intro h i hi
      have := h _ (getD_mem hi)
      rw [Bool.or_eq_true, decide_eq_true_eq] at this
      exact this
    · intro h z hz
      obtain ⟨i, hi, rfl⟩ := mem_getD hz
      rw [Bool.or_eq_true, decide_eq_true_eq]
      exact h i hi
  have hany : (nats (signsI w)).any Rb17.isLetter = true ↔ ∃ i, i < (signsI w).length ∧ isSmall ((signsI w).getD i 0) = true := by
    rw [List.any_eq_true]
    constructor
    · rintro ⟨x, hx, hl⟩
      obtain ⟨z, hz, rfl⟩ := List.mem_map.mp hx
      obtain ⟨i, hi, e⟩ := mem_getD hz
      refine ⟨i, hi, ?_⟩
      rw [e, small_iff z (hs z hz)]
      exact hl
    · rintro ⟨i, hi, hl⟩
      have hz := getD_mem hi
      rw [small_iff _ (hs _ hz)] at hl
      exact ⟨_, List.mem_map.mpr ⟨_, hz, rfl⟩, hl⟩
  have hdot : ((List.range (nats (signsI w)).length).all fun i => decide ((nats (signsI w)).getD i 0 ≠ 46) || (i == 0 || i + 1 == (nats (signsI w)).length)) = true ↔ ∀ i, i < (signsI w).length → (signsI w).getD i 0 = 46 → i = 0 ∨ i + 1 = (signsI w).length := by
    rw [List.all_eq_true, nats_len]
    constructor
    · intro h i hi e
      have := h i (List.mem_range.mpr hi)
      rw [nats_getD] at this
      simp only [Bool.or_eq_true, decide_eq_true_eq, beq_iff_eq] at this
      rcases this with q | q
      · omega
      · exact q
    · intro h i hi
      have hi := List.mem_range.mp hi
      rw [nats_getD]
      simp only [Bool.or_eq_true, decide_eq_true_eq, beq_iff_eq]
      by_cases e : (signsI w).getD i 0 = 46
      · exact .inr (h i hi e)
      · left
        have := hs _ (getD_mem hi)
        omega
  have hin := inner_iff (signsI w)
  have hpat : patI w = true ↔ ((signsI w).length ≤ 32 ∧ twoDig w = false ∧ okLetters (signsI w)) := by
    rw [← hin]
    unfold patI
    simp only [Bool.and_eq_true, Bool.not_eq_true', Bool.or_eq_false_iff, decide_eq_true_eq, decide_eq_false_iff_not]
    constructor
    · rintro ⟨⟨a, b⟩, c, d⟩
      exact ⟨by omega, b, d, c⟩
    · rintro ⟨a, b, d, c⟩
      exact ⟨⟨by omega, b⟩, c, d⟩
  refine ⟨?_, fun hy => ?_⟩
  · rw [Bool.eq_iff_iff, hpat, hp]
    by_cases q : (okSigns w && !twoDig w) = true
    · rw [if_pos q]
      simp only [Bool.and_eq_true, Bool.not_eq_true'] at q
      have e2 : okPat (some (patOf w)) = (decide (1 ≤ (nats (signsI w)).length) && (decide ((nats (signsI w)).length ≤ 32) && ((nats (signsI w)).any Rb17.isLetter && (List.range (nats (signsI w)).length).all fun i => decide ((nats (signsI w)).getD i 0 ≠ 46) || (i == 0 || i + 1 == (nats (signsI w)).length)))) := rfl
      rw [e2, Bool.and_eq_true, Bool.and_eq_true, Bool.and_eq_true, hany, hdot, nats_len, decide_eq_true_eq, decide_eq_true_eq]
      unfold okLetters
      constructor
      · rintro ⟨a, b, c, d⟩
        exact ⟨b, q.2, hok.mp q.1, c, d⟩
      · rintro ⟨b, _, _, ⟨i, hi, c⟩, d⟩
        exact ⟨by omega, b, ⟨i, hi, c⟩, d⟩
    · rw [if_neg q]
      constructor
      · intro z
        cases z
      · rintro ⟨_, b, c⟩
        exfalso
        apply q
        rw [hok.mpr c.1, b]
        rfl
  · obtain ⟨_, b, c⟩ := hpat.mp hy
    rw [hp, if_pos (by rw [hok.mpr c.1, b]; rfl)]
theorem words_pos : ∀ (l : List Int) (s : List (List Int) × List Int), (∀ z ∈ l, 0 ≤ z) → (∀ w ∈ s.1, ∀ z ∈ w, 0 ≤ z) → (∀ z ∈ s.2, 0 ≤ z) → (∀ w ∈ (l.foldl wStep s).1, ∀ z ∈ w, 0 ≤ z) ∧ ∀ z ∈ (l.foldl wStep s).2, 0 ≤ z
  | [], s, _, h1, h2 => ⟨h1, h2⟩
  | c :: r, s, h0, h1, h2 => by
    have hc := h0 c (List.mem_cons_self ..)
    refine words_pos r (wStep s c) (fun z hz => h0 z (List.mem_cons_of_mem _ hz)) (fun w hw => ?_) (fun z hz => ?_)
    · unfold wStep at hw
      split at hw
      · split at hw
        · exact h1 w hw
        · rcases List.mem_append.mp hw with q | q
          · exact h1 w q
          · rw [List.mem_singleton.mp q]
            exact h2
      · exact h1 w hw
    · unfold wStep at hz
      split at hz
      · split at hz
        · exact h2 z hz
        · cases hz
      · rcases List.mem_append.mp hz with q | q
        · exact h2 z q
        · rw [List.mem_singleton.mp q]
          exact hc
theorem wordsI_pos (l : List Int) (h0 : ∀ z ∈ l, 0 ≤ z) : ∀ w ∈ wordsI l, ∀ z ∈ w, 0 ≤ z := by
  have q := words_pos l ([], []) h0 (fun w hw => by cases hw) (fun z hz => by cases hz)
  intro w hw
  unfold wordsI at hw
  dsimp only at hw
  split at hw
  · exact q.1 w hw
  · rcases List.mem_append.mp hw with h | h
    · exact q.1 w h
    · rw [List.mem_singleton.mp h]
      exact q.2
theorem patterns_eq (t : List Int) (h0 : ∀ z ∈ t, 0 ≤ z) (hl : t.length ≤ 262144) : Rb17.patterns (nats t) = if textI t = true then some ((wordsI t).map patOf) else none := by
  have hw := wordsI_pos t h0
  unfold Rb17.patterns
  dsimp only
  rw [words_eq, List.map_map]
  show (if ((wordsI t).map nats).length ≤ 4096 ∧ (((wordsI t).map (Rb17.pattern 0 ⟨[], []⟩ ∘ nats)).all okPat) = true then some (((wordsI t).map (Rb17.pattern 0 ⟨[], []⟩ ∘ nats)).filterMap id) else none) = _
  have e1 : ((wordsI t).map (Rb17.pattern 0 ⟨[], []⟩ ∘ nats)).all okPat = (wordsI t).all patI := by
    rw [List.all_map]
    rw [Bool.eq_iff_iff, List.all_eq_true, List.all_eq_true]
    constructor
    · intro h w m
      rw [← (pat_eq w (hw w m)).1]
      exact h w m
    · intro h w m
      show okPat (Rb17.pattern 0 ⟨[], []⟩ (nats w)) = true
      rw [(pat_eq w (hw w m)).1]
      exact h w m
  rw [e1, List.length_map]
  have et : textI t = true ↔ ((wordsI t).length ≤ 4096 ∧ (wordsI t).all patI = true) := by
    unfold textI
    rw [Bool.and_eq_true, Bool.and_eq_true, decide_eq_true_eq, decide_eq_true_eq]
    exact ⟨fun h => h.2, fun h => ⟨hl, h⟩⟩
  by_cases q : (wordsI t).length ≤ 4096 ∧ (wordsI t).all patI = true
  · rw [if_pos q, if_pos (et.mpr q)]
    congr 1
    have ha := List.all_eq_true.mp q.2
    have key : ∀ ws : List (List Int), (∀ w ∈ ws, patI w = true ∧ ∀ z ∈ w, 0 ≤ z) → (ws.map (Rb17.pattern 0 ⟨[], []⟩ ∘ nats)).filterMap id = ws.map patOf := by
      intro ws
      induction ws with
      | nil => intro _; rfl
      | cons w r ih =>
        intro h
        have h1 := h w (List.mem_cons_self ..)
        rw [List.map_cons, List.map_cons, ← ih fun x hx => h x (List.mem_cons_of_mem _ hx)]
        have e : (Rb17.pattern 0 ⟨[], []⟩ ∘ nats) w = some (patOf w) := (pat_eq w h1.2).2 h1.1
        rw [e]
        rfl
    exact key _ fun w m => ⟨ha w m, hw w m⟩
  · rw [if_neg q, if_neg (fun z => q (et.mp z))]
end Pd
namespace Pd
/-! ### the greatest digits: the mirror is the specification -/
theorem foldl_max_le : ∀ (l : List Nat) (a x : Nat), l.foldl max a ≤ x ↔ a ≤ x ∧ ∀ y ∈ l, y ≤ x
  | [], a, x => by simp
  | b :: r, a, x => by
    show r.foldl max (max a b) ≤ x ↔ _
    rw [foldl_max_le r (max a b) x]
    constructor
    · rintro ⟨h1, h2⟩
      refine ⟨by omega, fun y hy => ?_⟩
      rcases List.mem_cons.mp hy with q | q
      · rw [q]
        omega
      · exact h2 y q
    · rintro ⟨h1, h2⟩
      have := h2 b (List.mem_cons_self ..)
      exact ⟨by omega, fun y hy => h2 y (List.mem_cons_of_mem _ hy)⟩
theorem number_le (ps : List Rb17.Pattern) (w : List Nat) (g x : Nat) : Rb17.number ps w g ≤ x ↔
    ∀ p ∈ ps, ∀ a, a < w.length → ((w.drop a).take p.letters.length = p.letters ∧ a ≤ g ∧ g ≤ a + p.letters.length) → p.numbers.getD (g - a) 0 ≤ x := by
  unfold Rb17.number
  rw [foldl_max_le]
  constructor
  · rintro ⟨_, h⟩ p hp a ha hc
    have h1 := h _ (List.mem_map.mpr ⟨p, hp, rfl⟩)
    rw [foldl_max_le] at h1
    have h2 := h1.2 _ (List.mem_map.mpr ⟨a, List.mem_range.mpr ha, rfl⟩)
    rw [if_pos hc] at h2
    exact h2
  · intro h
    refine ⟨Nat.zero_le _, fun y hy => ?_⟩
    obtain ⟨p, hp, rfl⟩ := List.mem_map.mp hy
    rw [foldl_max_le]
    refine ⟨Nat.zero_le _, fun z hz => ?_⟩
    obtain ⟨a, ha, rfl⟩ := List.mem_map.mp hz
    split
    · rename_i hc
      exact h p hp a (List.mem_range.mp ha) hc
    · exact Nat.zero_le _
theorem getD_out {l : List Int} {i : Nat} (h : l.length ≤ i) : l.getD i 0 = 0 := by
  rw [List.getD_eq_getElem?_getD, List.getElem?_eq_none h]
  rfl
theorem raise_le (ds gr : List Int) (st g : Nat) (x : Int) (hx : 0 ≤ x) (h : st + ds.length ≤ gr.length) : (raiseAt gr st ds).getD g 0 ≤ x ↔ gr.getD g 0 ≤ x ∧ (st ≤ g → ds.getD (g - st) 0 ≤ x) := by
  rw [raiseAt_getD ds gr st g h]
  by_cases q : st ≤ g ∧ g < st + ds.length
  · rw [if_pos q]
    constructor
    · intro z
      exact ⟨by omega, fun _ => by omega⟩
    · rintro ⟨z1, z2⟩
      have := z2 q.1
      omega
  · rw [if_neg q]
    constructor
    · intro z
      refine ⟨z, fun hs => ?_⟩
      rw [getD_out (by omega)]
      exact hx
    · exact fun z => z.1
/-- a digit of what the dict has -/
def valAt (dv : List Int → Option (List Int)) (s : List Int) (k : Nat) : Int := ((dv s).getD []).getD k 0
theorem pStep_le (dv : List Int → Option (List Int)) (hd : ∀ s v, dv s = some v → v.length = s.length + 1) (w s : List Int) (k : Nat) (x : Int) (hx : 0 ≤ x) : valAt (pStep dv w) s k ≤ x ↔ valAt dv s k ≤ x ∧ (signsI w = s → (digitsI w).getD k 0 ≤ x) := by
  unfold valAt pStep
  by_cases q : s = signsI w
  · rw [if_pos q, Option.getD_some]
    have hl := digitsI_len w
    have e : ((dv (signsI w)).getD (zeros ((signsI w).length + 1))).length = (signsI w).length + 1 := by
      cases r : dv (signsI w) with
      | none => exact zeros_len _
      | some u => exact hd _ _ r
    rw [raise_le _ _ 0 k x hx (by rw [e]; omega), Nat.sub_zero]
    have e2 : ((dv (signsI w)).getD (zeros ((signsI w).length + 1))).getD k 0 = ((dv s).getD []).getD k 0 := by
      rw [q]
      cases r : dv (signsI w) with
      | none =>
        show (zeros ((signsI w).length + 1)).getD k 0 = ([] : List Int).getD k 0
        unfold zeros
        rw [List.getD_eq_getElem?_getD, List.getElem?_replicate]
        split <;> rfl
      | some u => rfl
    rw [e2]
    exact ⟨fun h => ⟨h.1, fun _ => h.2 (Nat.zero_le _)⟩, fun h => ⟨h.1, fun _ => h.2 q.symm⟩⟩
  · rw [if_neg q]
    exact ⟨fun h => ⟨h, fun z => absurd z.symm q⟩, fun h => h.1⟩
theorem fold_le : ∀ (ws : List (List Int)) (dv : List Int → Option (List Int)), (∀ s v, dv s = some v → v.length = s.length + 1) → ∀ (s : List Int) (k : Nat) (x : Int), 0 ≤ x →
    (valAt (ws.foldl pStep dv) s k ≤ x ↔ valAt dv s k ≤ x ∧ ∀ w ∈ ws, signsI w = s → (digitsI w).getD k 0 ≤ x)
  | [], dv, hd, s, k, x, hx => by simp
  | w :: r, dv, hd, s, k, x, hx => by
    show valAt (r.foldl pStep (pStep dv w)) s k ≤ x ↔ _
    rw [fold_le r (pStep dv w) (pStep_len w hd) s k x hx, pStep_le dv hd w s k x hx]
    constructor
    · rintro ⟨⟨h1, h2⟩, h3⟩
      refine ⟨h1, fun u hu => ?_⟩
      rcases List.mem_cons.mp hu with q | q
      · rw [q]
        exact h2
      · exact h3 u q
    · rintro ⟨h1, h2⟩
      exact ⟨⟨h1, h2 w (List.mem_cons_self ..)⟩, fun u hu => h2 u (List.mem_cons_of_mem _ hu)⟩
theorem dvOf_le (ws : List (List Int)) (s : List Int) (k : Nat) (x : Int) (hx : 0 ≤ x) : valAt (dvOf ws) s k ≤ x ↔ ∀ w ∈ ws, signsI w = s → (digitsI w).getD k 0 ≤ x := by
  unfold dvOf
  rw [fold_le ws _ (fun s v e => by cases e) s k x hx]
  exact ⟨fun h => h.2, fun h => ⟨hx, h⟩⟩
section
variable {dv : List Int → Option (List Int)} (hd : ∀ s v, dv s = some v → v.length = s.length + 1) (sg : List Int)
include hd
theorem gapIn_le (st : Nat) (hst : st ≤ sg.length) (gr : List Int) (hg : gr.length = sg.length + 1) (g : Nat) (x : Int) (hx : 0 ≤ x) : ∀ j, (gapIn dv sg st gr j).getD g 0 ≤ x ↔ gr.getD g 0 ≤ x ∧ ∀ i, i < j → st ≤ g → valAt dv ((sg.drop st).take (i + 1)) (g - st) ≤ x
  | 0 => by
    show gr.getD g 0 ≤ x ↔ _
    exact ⟨fun h => ⟨h, fun i hi => absurd hi (Nat.not_lt_zero _)⟩, fun h => h.1⟩
  | j + 1 => by
    have ih := gapIn_le st hst gr hg g x hx j
    have hl : st + ((dv ((sg.drop st).take (j + 1))).getD []).length ≤ sg.length + 1 := by
      cases e : dv ((sg.drop st).take (j + 1)) with
      | none =>
        show st + 0 ≤ _
        omega
      | some v =>
        have := hd _ _ e
        rw [List.length_take, List.length_drop] at this
        show st + v.length ≤ _
        omega
    rw [gapIn_succ, raise_le _ _ st g x hx (by rw [gapIn_len, hg]; exact hl), ih]
    constructor
    · rintro ⟨⟨h1, h2⟩, h3⟩
      refine ⟨h1, fun i hi hs => ?_⟩
      by_cases q : i = j
      · rw [q]
        exact h3 hs
      · exact h2 i (by omega) hs
    · rintro ⟨h1, h2⟩
      exact ⟨⟨h1, fun i hi hs => h2 i (by omega) hs⟩, fun hs => h2 j (by omega) hs⟩
theorem gapOut_le (g : Nat) (x : Int) (hx : 0 ≤ x) : ∀ n, n ≤ sg.length → ((gapOut dv sg n).getD g 0 ≤ x ↔ ∀ st, st < n → ∀ i, i < min sg.length (st + 32) - st → st ≤ g → valAt dv ((sg.drop st).take (i + 1)) (g - st) ≤ x)
  | 0, _ => by
    have e : (gapOut dv sg 0).getD g 0 = 0 := by
      show (zeros (sg.length + 1)).getD g 0 = 0
      unfold zeros
      rw [List.getD_eq_getElem?_getD, List.getElem?_replicate]
      split <;> rfl
    rw [e]
    exact ⟨fun _ st h => absurd h (Nat.not_lt_zero _), fun _ => hx⟩
  | n + 1, hn => by
    rw [gapOut_succ, gapIn_le hd sg n (by omega) _ (gapOut_len dv sg n) g x hx, gapOut_le g x hx n (by omega)]
    constructor
    · rintro ⟨h1, h2⟩ st hst
      by_cases q : st = n
      · rw [q]
        exact h2
      · exact h1 st (by omega)
    · intro h
      exact ⟨fun st hst => h st (by omega), h n (by omega)⟩
theorem gap_room (st j : Nat) (hst : st ≤ sg.length) : st + ((dv ((sg.drop st).take (j + 1))).getD []).length ≤ sg.length + 1 := by
  cases e : dv ((sg.drop st).take (j + 1)) with
  | none =>
    show st + 0 ≤ _
    omega
  | some v =>
    have := hd _ _ e
    rw [List.length_take, List.length_drop] at this
    show st + v.length ≤ _
    omega
theorem gapIn_pos (st : Nat) (hst : st ≤ sg.length) (gr : List Int) (hg : gr.length = sg.length + 1) (g : Nat) : ∀ j, gr.getD g 0 ≤ (gapIn dv sg st gr j).getD g 0
  | 0 => Int.le_refl _
  | j + 1 => by
    have ih := gapIn_pos st hst gr hg g j
    rw [gapIn_succ, raiseAt_getD _ _ st g (by rw [gapIn_len, hg]; exact gap_room hd sg st j hst)]
    split <;> omega
theorem gapOut_pos (g : Nat) : ∀ n, n ≤ sg.length → 0 ≤ (gapOut dv sg n).getD g 0
  | 0, _ => by
    show 0 ≤ (zeros (sg.length + 1)).getD g 0
    unfold zeros
    rw [List.getD_eq_getElem?_getD, List.getElem?_replicate]
    split <;> exact Int.le_refl _
  | n + 1, hn => by
    rw [gapOut_succ]
    exact Int.le_trans (gapOut_pos g n (by omega)) (gapIn_pos hd sg n (by omega) _ (gapOut_len dv sg n) g _)
end
theorem nats_inj : ∀ (a b : List Int), (∀ z ∈ a, 0 ≤ z) → (∀ z ∈ b, 0 ≤ z) → nats a = nats b → a = b
  | [], [], _, _, _ => rfl
  | [], _ :: _, _, _, h => by cases h
  | _ :: _, [], _, _, h => by cases h
  | x :: r, y :: s, ha, hb, h => by
    have h : x.toNat :: nats r = y.toNat :: nats s := h
    injection h with h1 h2
    have e := nats_inj r s (fun z hz => ha z (List.mem_cons_of_mem _ hz)) (fun z hz => hb z (List.mem_cons_of_mem _ hz)) h2
    have a1 := ha x (List.mem_cons_self ..)
    have b1 := hb y (List.mem_cons_self ..)
    rw [e, show x = y by omega]
theorem nats_cut (l : List Int) (a n : Nat) : ((nats l).drop a).take n = nats ((l.drop a).take n) := by
  unfold nats
  rw [← List.map_drop, ← List.map_take]
/-- what holds of an object's patterns -/
def OkWs (ws : List (List Int)) : Prop := ∀ w ∈ ws, patI w = true ∧ ∀ z ∈ w, 0 ≤ z
theorem patI_len {w : List Int} (h : patI w = true) : 1 ≤ (signsI w).length ∧ (signsI w).length ≤ 32 := by
  unfold patI at h
  simp only [Bool.and_eq_true, Bool.not_eq_true', Bool.or_eq_false_iff, decide_eq_true_eq, decide_eq_false_iff_not] at h
  have := innerI_len (signsI w)
  omega
theorem number_eq (ws : List (List Int)) (hws : OkWs ws) (sg : List Int) (hsg : ∀ z ∈ sg, 0 ≤ z) (g : Nat) : (Rb17.number (ws.map patOf) (nats sg) g : Int) = (gapI (dvOf ws) sg).getD g 0 := by
  have key : ∀ x : Nat, Rb17.number (ws.map patOf) (nats sg) g ≤ x ↔ (gapI (dvOf ws) sg).getD g 0 ≤ (x : Int) := by
    intro x
    unfold gapI
    rw [number_le, gapOut_le (dvOf_len ws) sg g (x : Int) (by omega) sg.length (Nat.le_refl _)]
    constructor
    · intro h st hst i hi hg
      rw [dvOf_le ws _ _ _ (by omega)]
      intro w hw hs
      have hl : (signsI w).length = i + 1 := by
        rw [hs, List.length_take, List.length_drop]
        omega
      have hdl := digitsI_len w
      by_cases hgo : g ≤ st + (i + 1)
      · have h1 := h (patOf w) (List.mem_map.mpr ⟨w, hw, rfl⟩) st (by rw [nats_len]; exact hst) ?_
        · have h1 : (nats (digitsI w)).getD (g - st) 0 ≤ x := h1
          rw [nats_getD] at h1
          omega
        · show ((nats sg).drop st).take (nats (signsI w)).length = nats (signsI w) ∧ st ≤ g ∧ g ≤ st + (nats (signsI w)).length
          rw [nats_len, nats_cut, hl, ← hs]
          exact ⟨rfl, hg, hgo⟩
      · rw [getD_out (by omega)]
        omega
    · intro h p hp a ha hc
      obtain ⟨w, hw, rfl⟩ := List.mem_map.mp hp
      rw [nats_len] at ha
      have hc : ((nats sg).drop a).take (nats (signsI w)).length = nats (signsI w) ∧ a ≤ g ∧ g ≤ a + (nats (signsI w)).length := hc
      rw [nats_len, nats_cut] at hc
      have hpl := patI_len (hws w hw).1
      have hcut := nats_inj _ _ (fun z hz => hsg z (List.mem_of_mem_drop (List.mem_of_mem_take hz))) (signs_pos (hws w hw).2) hc.1
      have hl2 : ((sg.drop a).take (signsI w).length).length = (signsI w).length := by rw [hcut]
      rw [List.length_take, List.length_drop] at hl2
      have h1 := h a ha ((signsI w).length - 1) (by omega) hc.2.1
      rw [dvOf_le ws _ _ _ (by omega)] at h1
      have h2 := h1 w hw (by rw [show (signsI w).length - 1 + 1 = (signsI w).length by omega]; exact hcut.symm)
      show (nats (digitsI w)).getD (g - a) 0 ≤ x
      rw [nats_getD]
      omega
  have hpos : 0 ≤ (gapI (dvOf ws) sg).getD g 0 := gapOut_pos (dvOf_len ws) sg g sg.length (Nat.le_refl _)
  have k1 := (key (Rb17.number (ws.map patOf) (nats sg) g)).mp (Nat.le_refl _)
  have k2 := (key ((gapI (dvOf ws) sg).getD g 0).toNat).mpr (by omega)
  omega
end Pd
namespace Pd
/-! ### where a word may be parted -/
theorem lower_eq (z : Int) (h : 0 ≤ z) : Rb17.lower z.toNat = (mkSmall z).toNat ∧ 0 ≤ mkSmall z := by
  unfold Rb17.lower mkSmall isCap
  simp only [Bool.and_eq_true, decide_eq_true_eq]
  by_cases q : 65 ≤ z ∧ z ≤ 90
  · rw [if_pos q, if_pos (by omega)]
    omega
  · rw [if_neg q, if_neg (by omega)]
    exact ⟨rfl, h⟩
theorem dot_eq (w : List Int) (h : ∀ z ∈ w, 0 ≤ z) : 46 :: ((nats w).map Rb17.lower ++ [46]) = nats (dotI w) ∧ ∀ z ∈ dotI w, 0 ≤ z := by
  constructor
  · unfold dotI nats
    rw [List.map_cons, List.map_append, List.map_map, List.map_map]
    have e : w.map (Rb17.lower ∘ fun z => z.toNat) = w.map ((fun z => z.toNat) ∘ mkSmall) := List.map_congr_left fun z hz => (lower_eq z (h z hz)).1
    rw [e]
    rfl
  · intro z hz
    rcases List.mem_cons.mp hz with q | q
    · omega
    · rcases List.mem_append.mp q with q | q
      · obtain ⟨y, hy, rfl⟩ := List.mem_map.mp q
        exact (lower_eq y (h y hy)).2
      · rw [List.mem_singleton.mp q]
        omega
theorem letter_eq (z : Int) (h : 0 ≤ z) : isLet z = Rb17.isLetter (Rb17.lower z.toNat) := by
  rw [(lower_eq z h).1, ← small_iff _ (lower_eq z h).2]
  unfold isLet mkSmall isSmall isCap
  rw [Bool.eq_iff_iff]
  simp only [Bool.or_eq_true, Bool.and_eq_true, decide_eq_true_eq]
  split <;> omega
theorem wordOk_eq (w : List Int) (h : ∀ z ∈ w, 0 ≤ z) : Rb17.wordOk (nats w) = w.all isLet := by
  unfold Rb17.wordOk nats
  rw [List.all_map, Bool.eq_iff_iff, List.all_eq_true, List.all_eq_true]
  constructor
  · intro q z hz
    rw [letter_eq z (h z hz)]
    exact q z hz
  · intro q z hz
    show Rb17.isLetter (Rb17.lower z.toNat) = true
    rw [← letter_eq z (h z hz)]
    exact q z hz
theorem parted_eq (ws : List (List Int)) (hws : OkWs ws) (w : List Int) (hw : ∀ z ∈ w, 0 ≤ z) (l r : Int) (hl : 1 ≤ l) (hr : 1 ≤ r) : Rb17Neutral.ints (Rb17.parted (ws.map patOf) (nats w) l.toNat r.toNat) = marksI (dvOf ws) l r w := by
  unfold Rb17Neutral.ints Rb17.parted marksI
  dsimp only
  rw [(dot_eq w hw).1, nats_len, List.map_map]
  refine List.map_congr_left fun i hi => ?_
  have hi := List.mem_range.mp hi
  have hn := number_eq ws hws (dotI w) (dot_eq w hw).2 (i + 2)
  show (((if l.toNat ≤ i + 1 ∧ r.toNat ≤ w.length - (i + 1) ∧ i + 1 < w.length ∧ Rb17.number (ws.map patOf) (nats (dotI w)) (i + 2) % 2 = 1 then 1 else 0 : Nat)) : Int) = markI (dvOf ws) l r w i
  unfold markI
  rw [← hn]
  generalize Rb17.number (ws.map patOf) (nats (dotI w)) (i + 2) = N
  by_cases q : l.toNat ≤ i + 1 ∧ r.toNat ≤ w.length - (i + 1) ∧ i + 1 < w.length ∧ N % 2 = 1
  · rw [if_pos q, if_pos (by omega)]
    rfl
  · rw [if_neg q, if_neg (by omega)]
    rfl
theorem sum_ints : ∀ l : List Nat, ((l.sum : Nat) : Int) = (Rb17Neutral.ints l).sum
  | [] => rfl
  | a :: r => by
    have ih := sum_ints r
    unfold Rb17Neutral.ints at ih ⊢
    rw [List.sum_cons, List.map_cons, List.sum_cons, ← ih]
    omega
/-! ### a call -/
def Inv (ws : List (List Int)) (s : Rb17Neutral.S) : Prop := s = ws.map patOf ∧ OkWs ws
theorem bytes_of {b : List Int} {n lo hi : Int} (h : Rb17Neutral.bytes b n lo hi = true) : (∀ z ∈ b, 0 ≤ z ∧ z ≤ 255) ∧ (b.length : Int) = if lo ≤ n ∧ n ≤ hi then n else 0 := by
  unfold Rb17Neutral.bytes Rb17Neutral.between at h
  rw [Bool.and_eq_true, List.all_eq_true, decide_eq_true_eq] at h
  refine ⟨fun z hz => ?_, h.2⟩
  have := h.1 z hz
  rw [Bool.and_eq_true, decide_eq_true_eq, decide_eq_true_eq] at this
  exact this
theorem len2 : ∀ l : List Int, l.length = 2 → ∃ a b, l = [a, b]
  | [], h => by cases h
  | [_], h => by cases h
  | [a, b], _ => ⟨a, b, rfl⟩
  | _ :: _ :: _ :: _, h => by simp at h
theorem len3 : ∀ l : List Int, l.length = 3 → ∃ a b c, l = [a, b, c]
  | [], h => by cases h
  | [_], h => by cases h
  | [_, _], h => by cases h
  | [a, b, c], _ => ⟨a, b, c, rfl⟩
  | _ :: _ :: _ :: _ :: _, h => by simp at h
theorem step_eq (ws : List (List Int)) (s : Rb17Neutral.S) (c : Cl) (hS : ShC c) (hI : Inv ws s) (hA : Rb17Neutral.asked1 (PyRb17.whole (conv c)) = true) :
    OkCl c ∧ (Rb17Neutral.step s (PyRb17.whole (conv c))).2 = stepA ws c ∧ Inv (stepW ws c) (Rb17Neutral.step s (PyRb17.whole (conv c))).1 := by
  obtain ⟨p, nums, row⟩ := c
  rcases hS with e | ⟨e, en⟩ | ⟨e, en⟩ | ⟨e, en⟩
  · injection e with e1 e2
    injection e2 with e2 e3
    subst e1 e2 e3
    exact ⟨.inl rfl, rfl, rfl, fun w hw => by cases hw⟩
  · have e : p = 1 := e
    subst e
    have en : nums = [] := List.length_eq_zero_iff.mp en
    subst en
    have hA : Rb17Neutral.asked1 [[1, (row.length : Int)], row] = true := hA
    have hA : (Rb17Neutral.whole (row.length : Int) 32 && (decide ((row.length : Int) ≤ 5000 ∨ 262144 < (row.length : Int)) && Rb17Neutral.bytes row (row.length : Int) 0 262144)) = true := hA
    rw [Bool.and_eq_true, Bool.and_eq_true, decide_eq_true_eq] at hA
    obtain ⟨_, h1, h2⟩ := hA
    obtain ⟨hb, hl⟩ := bytes_of h2
    have hlen : row.length ≤ 5000 := by
      split at hl <;> omega
    refine ⟨.inr (.inl ⟨rfl, hlen⟩), ?_⟩
    have hpos : ∀ z ∈ row, 0 ≤ z := fun z hz => (hb z hz).1
    have hp := patterns_eq row hpos (by omega)
    show (Rb17Neutral.step s [[1, (row.length : Int)], row]).2 = stepA ws (1, [], row) ∧ Inv (stepW ws (1, [], row)) (Rb17Neutral.step s [[1, (row.length : Int)], row]).1
    have hbt : Rb17Neutral.between (row.length : Int) 0 262144 = true := by
      unfold Rb17Neutral.between
      rw [Bool.and_eq_true, decide_eq_true_eq, decide_eq_true_eq]
      omega
    have es : Rb17Neutral.step s [[1, (row.length : Int)], row] = match (if Rb17Neutral.between (row.length : Int) 0 262144 = true then Rb17.patterns (nats row) else none) with
      | some p => (p, [((p.length : Nat) : Int)])
      | none => (s, [-1]) := rfl
    rw [es, if_pos hbt, hp]
    show _ = takeA row ∧ Inv (takeW ws row) _
    unfold takeA takeW
    by_cases q : textI row = true
    · rw [if_pos q, if_pos q, if_pos q]
      dsimp only
      rw [List.length_map]
      refine ⟨rfl, rfl, fun w hw => ⟨?_, wordsI_pos row hpos w hw⟩⟩
      unfold textI at q
      rw [Bool.and_eq_true, Bool.and_eq_true, List.all_eq_true] at q
      exact q.2.2 w hw
    · rw [if_neg q, if_neg q, if_neg q]
      exact ⟨rfl, hI⟩
  · have e : p = 2 := e
    subst e
    obtain ⟨l, r, en⟩ : ∃ l r, nums = [l, r] := len2 nums en
    subst en
    have ec : PyRb17.whole (conv (2, [l, r], row)) = [[2, (row.length : Int), l, r], row] := by
      unfold conv
      rw [if_neg (show ¬ (_ : Int) = 0 by dsimp only; omega)]
      rfl
    rw [ec] at hA ⊢
    have hA : (Rb17Neutral.whole (row.length : Int) 32 && (Rb17Neutral.whole l 32 && (Rb17Neutral.whole r 32 && Rb17Neutral.bytes row (row.length : Int) 1 64))) = true := hA
    rw [Bool.and_eq_true, Bool.and_eq_true, Bool.and_eq_true] at hA
    obtain ⟨_, _, _, h2⟩ := hA
    obtain ⟨hb, hl⟩ := bytes_of h2
    have hlen : row.length ≤ 64 := by
      split at hl <;> omega
    refine ⟨.inr (.inr (.inl ⟨rfl, rfl, hlen⟩)), ?_, hI⟩
    have hpos : ∀ z ∈ row, 0 ≤ z := fun z hz => (hb z hz).1
    show (if (Rb17Neutral.between (row.length : Int) 1 64 && (Rb17Neutral.between l 1 64 && (Rb17Neutral.between r 1 64 && Rb17.wordOk (nats row)))) = true then ((Rb17.parted s (nats row) l.toNat r.toNat).sum : Int) :: Rb17Neutral.ints (Rb17.parted s (nats row) l.toNat r.toNat) else [-1]) = partA ws l r row
    have ea : (Rb17Neutral.between (row.length : Int) 1 64 && (Rb17Neutral.between l 1 64 && (Rb17Neutral.between r 1 64 && Rb17.wordOk (nats row)))) = askI l r row := by
      rw [wordOk_eq row hpos]
      unfold askI isCount Rb17Neutral.between
      simp only [Bool.and_assoc]
    rw [ea]
    unfold partA
    by_cases q : askI l r row = true
    · rw [if_pos q, if_pos q, sum_ints, hI.1]
      have hlr : 1 ≤ l ∧ 1 ≤ r := by
        unfold askI isCount at q
        simp only [Bool.and_eq_true, decide_eq_true_eq] at q
        omega
      rw [parted_eq ws hI.2 row hpos l r hlr.1 hlr.2]
    · rw [if_neg q, if_neg q]
  · have e : p = 4 := e
    subst e
    obtain ⟨wd, i, j, en⟩ : ∃ wd i j, nums = [wd, i, j] := len3 nums en
    subst en
    have ec : PyRb17.whole (conv (4, [wd, i, j], row)) = [[4, wd, i, j], row] := by
      unfold conv
      rw [if_neg (show ¬ (_ : Int) = 0 by dsimp only; omega)]
      rfl
    rw [ec] at hA ⊢
    have hA : (Rb17Neutral.between wd 0 1000000000 && (Rb17Neutral.all4 row && (decide (row.length ≤ 2000) && (decide (-1 ≤ i) && (decide (i < j) && decide (4 * j ≤ (row.length : Int))))))) = true := hA
    unfold Rb17Neutral.between at hA
    simp only [Bool.and_eq_true, decide_eq_true_eq] at hA
    obtain ⟨⟨h1, h2⟩, h3, h4, h5, h6, h7⟩ := hA
    obtain ⟨h8, h9⟩ := all4_ok row h3
    refine ⟨.inr (.inr (.inr ⟨rfl, rfl, h4, h8, h5, h6, h7, h1, h2, h9⟩)), ?_, hI⟩
    show (match Rb17.placed (Rb17Neutral.things row) wd.toNat (if i < 0 then none else some i.toNat) j.toNat with
      | some z => ((z.length : Nat) : Int) :: z
      | none => [-1]) = placeA wd i j row
    rw [places_th row wd i j h1 h5 h9]
    unfold placeA
    cases widthI (quads row) i j wd <;> rfl
/-! ### all calls -/
theorem play_eq : ∀ (cs : List Cl) (ws : List (List Int)) (s : Rb17Neutral.S) (acc : List Int), Inv ws s → (∀ c ∈ cs, ShC c) → ((cs.map conv).map PyRb17.whole).all Rb17Neutral.asked1 = true →
    (∀ c ∈ cs, OkCl c) ∧ acc ++ PyFlat.told (PyFlat.played Rb17Neutral.step s ((cs.map conv).map PyRb17.whole)) = (cs.foldl aStep (ws, acc)).2
  | [], ws, s, acc, _, _, _ => by
    refine ⟨fun c hc => (by cases hc), ?_⟩
    show acc ++ [] = acc
    rw [List.append_nil]
  | c :: r, ws, s, acc, hI, hS, hA => by
    rw [List.map_cons, List.map_cons, List.all_cons, Bool.and_eq_true] at hA
    obtain ⟨h1, h2, h3⟩ := step_eq ws s c (hS c (List.mem_cons_self ..)) hI hA.1
    obtain ⟨i1, i2⟩ := play_eq r (stepW ws c) _ (acc ++ (((stepA ws c).length : Int) :: stepA ws c)) h3 (fun x hx => hS x (List.mem_cons_of_mem _ hx)) hA.2
    refine ⟨fun x hx => ?_, ?_⟩
    · rcases List.mem_cons.mp hx with q | q
      · rw [q]
        exact h1
      · exact i1 x q
    · show _ = (r.foldl aStep (stepW ws c, acc ++ (((stepA ws c).length : Int) :: stepA ws c))).2
      rw [← i2, List.map_cons, List.map_cons]
      show acc ++ PyFlat.told ((Rb17Neutral.step s (PyRb17.whole (conv c))).2 :: PyFlat.played Rb17Neutral.step (Rb17Neutral.step s (PyRb17.whole (conv c))).1 ((r.map conv).map PyRb17.whole)) = _
      rw [h2]
      unfold PyFlat.told
      rw [List.flatMap_cons, List.append_assoc]
theorem asked_all (l : List Int) (h : PyRb17.answers_asked l = true) : ∃ cs : List Cl, Parses l cs ∧ (∀ c ∈ cs, OkCl c) ∧ cs.length ≤ 100 ∧ PyRb17.answers l = (cs.foldl aStep ([], [])).2 := by
  unfold PyRb17.answers_asked PyRb17.calls at h
  unfold PyRb17.answers PyRb17.calls
  cases e : PyFlat.calls PyRb17.shape l.length l with
  | none =>
    rw [e] at h
    cases h
  | some cs0 =>
    rw [e] at h
    dsimp only at h ⊢
    obtain ⟨cs, h1, h2, h3⟩ := calls_of _ _ _ e
    rw [h2] at h ⊢
    rw [Bool.and_eq_true] at h
    unfold PyFlat.atMost Rb17Neutral.asked at h
    rw [decide_eq_true_eq, List.length_map, List.length_map, Bool.and_eq_true] at h
    obtain ⟨i1, i2⟩ := play_eq cs [] Rb17Neutral.start [] ⟨rfl, fun w hw => by cases hw⟩ h3 h.2.1
    exact ⟨cs, h1, i1, h.1, i2⟩
end Pd
set_option maxRecDepth 100000
set_option maxHeartbeats 2000000
namespace Pd
open PySem PySem.Spec PyProof.Rows L2
/-! ### the text by places -/
def top (i : Nat) : Stmt := PySem.Challenge.pw_partlinedesk_s01_answers.main.body.getD i (.Pass ⟨0, 0, 0, 0⟩)
theorem cxK {CX : CXT} {P : Program} {w : World} {K : PySem.W.Frag} {mg : Str → Option Value} {base : Heap} {N : List Str} {q : Str} {sc : Scope} {f : Addr} {cd : Value} {A : Around} {o : List Env} {s : Shared} {H : Hp} {E : XK} : (cxOf CX P w K mg base N q sc f cd A o s H E).K = K := rfl
/-- a def of the text that may be called: its promise -/
structure COk (P : Program) (w : World) (K : PySem.W.Frag) (mg : Str → Option Value) (base : Heap) (k : Nat) (x : Str) (ps : List Str) (sp : Sp) : Prop where
  ex : ∃ (f : Addr) (fd : FuncData), mg x = some (.ref f) ∧ PySem.W.keepIn K (.ref f) = true ∧ Binds K fd ps [] ∧ FnOk P w K mg base CX0 k f fd ps sp
/-- a def of the text as it stands behind the top -/
structure Df (K : PySem.W.Frag) (mg : Str → Option Value) (x : Str) (st : Stmt) (ps : List Str) : Prop where
  ex : ∃ (f : Addr) (fd : FuncData), mg x = some (.ref f) ∧ Fun K x x st f fd ∧ Binds K fd ps []
section
variable {P : Program} {w : World} {K : PySem.W.Frag} {mg : Str → Option Value} {base : Heap}
theorem Df.ok {x : Str} {st : Stmt} {N ps : List Str} {k : Nat} {sp : Sp} (D : Df K mg x st ps) (S : FnScope N ps (defScope st)) (len : ∀ vs H Q E, sp vs H Q E → vs.length = ps.length)
    (hbody : ∀ (f : Addr) (cdv : Value) (A : Around) (outer : List Env) (s : Shared) (H : Hp) (vs : List V) (Q : VK) (E : XK), Room k (A.deeper (envOfC x (defScope st) s.heap.objs.size f cdv)) → sp vs H Q E →
      ∃ t, PSs (cxOf CX0 P w K mg base N x (defScope st) f cdv A outer s H E).nox (defBody st) t ∧ t { nx := fun _ H' => Q .non H', rt := Q } (start N vs) H) : COk P w K mg base (k + 1) x ps sp := by
  obtain ⟨f, fd, h1, h2, h3⟩ := D.ex
  exact ⟨f, fd, h1, h2.kp, h3, h2.ok S len fun cdv A outer s H vs Q E hr h => hbody f cdv A outer s H vs Q E hr h⟩
theorem COk.mono {j k : Nat} {x : Str} {ps : List Str} {sp : Sp} (C : COk P w K mg base j x ps sp) (h : j ≤ k) : COk P w K mg base k x ps sp := by
  obtain ⟨f, fd, h1, h2, h3, h4⟩ := C.ex
  exact ⟨f, fd, h1, h2, h3, h4.mono h⟩
end
section
variable {X : Cx}
/-- f(e, ..) of a def of the text -/
theorem pcall {k : Nat} {x : Str} {ps : List Str} {sp : Sp} {e : Expr} {es : List Expr} {t : TA} {p pos : Pos} (C : COk X.prog X.w X.K X.mg X.base k x ps sp) (hr : Room k X.A) (ha : PA X (e :: es) t) (hg : Gl X x := by rfl)
    (hdb : (x == ("__debug__" : Str)) = false := by decide) (he : starEach (e :: es) X.env = (false, eval e X.env) :: starEach es X.env := by rfl) (hpl : (backTo pos (starEach es X.env)).any (·.1) = false := by rfl) :
    PE X (.Call (.Name x p) (e :: es) [] pos) (tCall sp [] E0 t) := by
  obtain ⟨f, fd, h1, h2, h3, h4⟩ := C.ex
  exact pe_call h4 hr hg h1 h2 h3 .nil pass0 ha hdb he hpl
/-- a global int -/
def GI (mg : Str → Option Value) (x : Str) (n : Int) : Prop := ∃ t, mg x = some (.int n t)
theorem pgi {x : Str} {n : Int} {pos : Pos} (h : GI X.mg x n) (hg : Gl X x := by rfl) (hd : (x == ("__debug__" : Str)) = false := by decide) : PE X (.Name x pos) (tC (.int n)) := by
  obtain ⟨t, e⟩ := h
  exact pe_glob hg e ⟨t, rfl⟩ hd
end
/-- the module's numbers, and the built-ins that no name of the module hides -/
structure Gs (mg : Str → Option Value) : Prop where
  PRINTED : GI mg "PRINTED" 0
  BLANK_lines : GI mg "BLANK_lines" 1
  PLACE : GI mg "PLACE" 2
  KIND : GI mg "KIND" 0
  WIDTH : GI mg "WIDTH" 1
  WIDER : GI mg "WIDER" 2
  NARROWER : GI mg "NARROWER" 3
  FOUR : GI mg "NUMBERS_OF_A_THING" 4
  LINE_FEED : GI mg "LINE_FEED" 10
  BLANK_letters : GI mg "BLANK_letters" 32
  DOT : GI mg "DOT" 46
  ZERO : GI mg "ZERO" 48
  NINE : GI mg "NINE" 57
  CAPITAL_A : GI mg "CAPITAL_A" 65
  CAPITAL_Z : GI mg "CAPITAL_Z" 90
  SMALL_A : GI mg "SMALL_A" 97
  SMALL_Z : GI mg "SMALL_Z" 122
  MOST_BYTES : GI mg "MOST_BYTES" 262144
  MOST_WORDS : GI mg "MOST_WORDS" 4096
  MOST_SIGNS : GI mg "MOST_SIGNS" 32
  MOST_LETTERS : GI mg "MOST_LETTERS" 64
  BEGIN : GI mg "BEGIN" 0
  PATTERNS : GI mg "PATTERNS" 1
  PARTED : GI mg "PARTED" 2
  PLACES : GI mg "PLACES" 4
  REFUSED : GI mg "REFUSED" (-1)
  range : mg "range" = none
  len : mg "len" = none
  sum : mg "sum" = none
  all : mg "all" = none
  max : mg "max" = none
  min : mg "min" = none
  zip : mg "zip" = none
  enumerate : mg "enumerate" = none
  tuple : mg "tuple" = none
end Pd
namespace HT
open PySem PyProof.Rows
section
variable {prog : Program} {w : World} {A : Around} {E : Value → Shared → Prop} {s : Shared}
theorem getItem_tuple_whole {t sl : Addr} {items : Array Value} {vl vu : Value} {lo hi : Option Int} {Q : Value → Shared → Prop} (ht : IsTup s.heap t items) (hs : s.heap.IsSliceOf sl vl vu .none) (pl : IsPart vl lo) (pu : IsPart vu hi)
    (hw : sIx items.size 0 lo = 0 ∧ sIx items.size items.size hi = items.size) (h : Q (.ref t) s) : wpAny (model prog w) A (getItem (.ref t) (.ref sl)) Q E s := by
  obtain ⟨os, hos, hcs, hds⟩ := id hs
  have hTs : s.TypeIs (.ref sl) "slice" := ⟨os, hos, hcs⟩
  unfold getItem
  try with_reducible refine wpAny_holding ?_
  first | refine wpAny_bind (wpAny_pure ?_) | skip
  refine wpAny_bind (wpAny_sequenceKey ht.typeIs (by decide) ?_)
  refine wpAny_bind (wpAny_callSpecial?_slot (name := Str.ofString "__getitem__") ht.typeIs PyProof.Rows.slot_tuple_getitem
    (wpAny_call_entry PyProof.Rows.slot_tuple_getitem ht.typeIs entry_tuple_getitem ?_ (args_tuple_getitem _ _)))
  show wpAny _ _ (Builtin.Tuple.tupleItemsOf (.ref t) >>= _) _ _ s
  refine wpAny_bind (tupleItemsOf_ ht ?_)
  refine wpAny_bind (wpAny_typeOf hTs ?_)
  rw [if_pos (by decide)]
  refine wpAny_bind (sliceApplied_gen hs pl pu ?_)
  have hyes : (((sIx items.size 0 lo : Nat) : Int) == 0 && (1 : Int) == 1 && (sIx items.size items.size hi - sIx items.size 0 lo) == items.size) = true := by
    rw [hw.1, hw.2]
    simp
  show wpAny _ _ (if (((sIx items.size 0 lo : Nat) : Int) == 0 && (1 : Int) == 1 && (sIx items.size items.size hi - sIx items.size 0 lo) == items.size) = true then _ else _) _ _ s
  rw [if_pos hyes]
  have go : wpAny (model prog w) A.in1 (Builtin.Tuple.tupleIsExact (.ref t)) (fun b s' => b = true ∧ s' = s) E s := by
    unfold Builtin.Tuple.tupleIsExact
    exact wpAny_bind (wpAny_typeOf ht.typeIs (wpAny_pure ⟨by decide, rfl⟩))
  refine wpAny_bind (wpAny_mono go (fun b s' hb => ?_) fun _ _ x => x)
  obtain ⟨hb, es⟩ := hb
  subst hb es
  rw [if_pos rfl]
  exact wpAny_bind (wpAny_rule (wpAny_pure ⟨_, rfl, wpAny_pure h⟩))
end
end HT
namespace L2
open PySem PySem.Spec PyProof.Rows
/-- t[lo:hi]: t itself where that is the whole of it -/
def rSlTA (K : PySem.W.Frag) : V → Option Int → Option Int → Hp → VK → Prop := fun x lo hi H Q => ∃ a xs, x = .ref a ∧ SqT K H a xs ∧
  ((HT.sIx xs.length 0 lo = 0 ∧ HT.sIx xs.length xs.length hi = xs.length) → Q (.ref a) H) ∧
  (¬ (HT.sIx xs.length 0 lo = 0 ∧ HT.sIx xs.length xs.length hi = xs.length) → ∀ p, H p = none → Q (.ref p) (upd H p (.tup (cutV xs lo hi))))
theorem sl_tupA {X : Cx} : SlR X (rSlTA X.K) := by
  intro pins s σ H x v vl vu lo hi sl Q I rx hs pl pu h
  obtain ⟨a, xs, rfl, hx, q1, q2⟩ := h
  by_cases hw : HT.sIx xs.length 0 lo = 0 ∧ HT.sIx xs.length xs.length hi = xs.length
  · cases rx
    obtain ⟨its, r, ht, hz⟩ := I.tuple hx
    have hlen : its.toArray.size = xs.length := by rw [List.size_toArray]; exact r.length.symm
    refine ⟨"tuple", _, PyProof.Rows.slot_tuple_getitem.lookup, ht.typeIs, ?_⟩
    exact HT.getItem_tuple_whole ht hs pl pu (by rw [hlen]; exact hw) ⟨.ref a, H, I, rfl, q1 hw⟩
  · exact sl_tup pins s σ H _ v vl vu lo hi sl Q I rx hs pl pu ⟨a, xs, rfl, hx, hw, q2 hw⟩
end L2
namespace Pd
open PySem PySem.Spec PyProof.Rows L2
section
variable {P : Program} {w : World} {K : PySem.W.Frag} {mg : Str → Option Value} {base : Heap}
/-- a def of one int that gives a bool -/
def spB (f : Int → Bool) : Sp := fun vs H Q _ => ∃ z : Int, vs = [.int z] ∧ Q (.bl (f z)) H
theorem len1B {f : Int → Bool} {x : Str} : ∀ vs H Q E, spB f vs H Q E → vs.length = ([x] : List Str).length := fun vs H Q E h => by
  obtain ⟨z, rfl, _⟩ := h
  rfl
theorem or_ite {Q : VK} {H : Hp} {a b : Bool} (k : Q (.bl (a || b)) H) : if a = true then Q (.bl true) H else Q (.bl b) H := by
  cases a
  · exact iteF k
  · exact iteT k
theorem and_ite {Q : VK} {H : Hp} {a b : Bool} (k : Q (.bl (a && b)) H) : if a = true then Q (.bl b) H else Q (.bl false) H := by
  cases a
  · exact iteF k
  · exact iteT k
theorem sc_parting : FnScope ["byte"] ["byte"] (defScope (top 28)) := ⟨rfl, rfl, rfl, by decide +kernel, rfl, by decide +kernel, by decide +kernel⟩
theorem ok_parting (G : Gs mg) (D : Df K mg "is_parting" (top 28) ["byte"]) : COk P w K mg base 1 "is_parting" ["byte"] (spB isParting) := by
  refine D.ok sc_parting len1B (fun f cdv A outer s H vs Q E hr h => ?_)
  obtain ⟨z, rfl, k⟩ := h
  refine ⟨_, pss_one (ps_ret (pe_or (pe_cmp (pc_eqI (pv 0) (pgi G.BLANK_letters))) (pe_one (pe_cmp (pc_eqI (pv 0) (pgi G.LINE_FEED)))))), ?_⟩
  simp only [and_assoc, rIxL, rIxT, tSl, tPart, tNoPart, gSub, rSetL, rSum, rAll, rCat, rRep, List.length_map, cxK, wipe, tYes,  tLst, tTup, tBM, rAppend, tChain, tTest, tRet, tRetN, tDrop, tSeq, tNext, tIfS, tOrV, tAndV, tNotV, tOp, tUn, tVar, tC, t2I, tCmp, tB, tAnd, tOr, tNot, tIf, tAsg, gName, tCall, tCons, tNil, rI0, rI, rU, tAdd, tSub, tMul, tCB, tAug, ipI, L2.start, List.map_cons, List.map_nil, List.cons_append, List.nil_append, List.append_nil, List.length_cons, List.length_nil, Nat.reduceSub, Nat.reduceAdd, List.replicate_succ, List.replicate_zero, List.replicate, List.set_cons_zero, List.set_cons_succ, List.getElem?_cons_zero, List.getElem?_cons_succ, Option.some.injEq, V.int.injEq, V.bl.injEq, V.ref.injEq, List.cons.injEq, and_true, true_and, exists_eq_left', exists_eq_left, exists_eq_right, exists_and_left, exists_and_right, exists_eq']
  exact or_ite k
theorem sc_digit : FnScope ["byte"] ["byte"] (defScope (top 29)) := ⟨rfl, rfl, rfl, by decide +kernel, rfl, by decide +kernel, by decide +kernel⟩
theorem ok_digit (G : Gs mg) (D : Df K mg "is_digit" (top 29) ["byte"]) : COk P w K mg base 1 "is_digit" ["byte"] (spB isDig) := by
  refine D.ok sc_digit len1B (fun f cdv A outer s H vs Q E hr h => ?_)
  obtain ⟨z, rfl, k⟩ := h
  refine ⟨_, pss_one (ps_ret (pe_chain op_le op_le (pgi G.ZERO) (pv 0) (pgi G.NINE))), ?_⟩
  simp only [and_assoc, rIxL, rIxT, tSl, tPart, tNoPart, gSub, rSetL, rSum, rAll, rCat, rRep, List.length_map, cxK, wipe, tYes,  tLst, tTup, tBM, rAppend, tChain, tTest, tRet, tRetN, tDrop, tSeq, tNext, tIfS, tOrV, tAndV, tNotV, tOp, tUn, tVar, tC, t2I, tCmp, tB, tAnd, tOr, tNot, tIf, tAsg, gName, tCall, tCons, tNil, rI0, rI, rU, tAdd, tSub, tMul, tCB, tAug, ipI, L2.start, List.map_cons, List.map_nil, List.cons_append, List.nil_append, List.append_nil, List.length_cons, List.length_nil, Nat.reduceSub, Nat.reduceAdd, List.replicate_succ, List.replicate_zero, List.replicate, List.set_cons_zero, List.set_cons_succ, List.getElem?_cons_zero, List.getElem?_cons_succ, Option.some.injEq, V.int.injEq, V.bl.injEq, V.ref.injEq, List.cons.injEq, and_true, true_and, exists_eq_left', exists_eq_left, exists_eq_right, exists_and_left, exists_and_right, exists_eq']
  exact and_ite k
theorem sc_small : FnScope ["byte"] ["byte"] (defScope (top 30)) := ⟨rfl, rfl, rfl, by decide +kernel, rfl, by decide +kernel, by decide +kernel⟩
theorem ok_small (G : Gs mg) (D : Df K mg "is_small" (top 30) ["byte"]) : COk P w K mg base 1 "is_small" ["byte"] (spB isSmall) := by
  refine D.ok sc_small len1B (fun f cdv A outer s H vs Q E hr h => ?_)
  obtain ⟨z, rfl, k⟩ := h
  refine ⟨_, pss_one (ps_ret (pe_chain op_le op_le (pgi G.SMALL_A) (pv 0) (pgi G.SMALL_Z))), ?_⟩
  simp only [and_assoc, rIxL, rIxT, tSl, tPart, tNoPart, gSub, rSetL, rSum, rAll, rCat, rRep, List.length_map, cxK, wipe, tYes,  tLst, tTup, tBM, rAppend, tChain, tTest, tRet, tRetN, tDrop, tSeq, tNext, tIfS, tOrV, tAndV, tNotV, tOp, tUn, tVar, tC, t2I, tCmp, tB, tAnd, tOr, tNot, tIf, tAsg, gName, tCall, tCons, tNil, rI0, rI, rU, tAdd, tSub, tMul, tCB, tAug, ipI, L2.start, List.map_cons, List.map_nil, List.cons_append, List.nil_append, List.append_nil, List.length_cons, List.length_nil, Nat.reduceSub, Nat.reduceAdd, List.replicate_succ, List.replicate_zero, List.replicate, List.set_cons_zero, List.set_cons_succ, List.getElem?_cons_zero, List.getElem?_cons_succ, Option.some.injEq, V.int.injEq, V.bl.injEq, V.ref.injEq, List.cons.injEq, and_true, true_and, exists_eq_left', exists_eq_left, exists_eq_right, exists_and_left, exists_and_right, exists_eq']
  exact and_ite k
theorem sc_capital : FnScope ["byte"] ["byte"] (defScope (top 31)) := ⟨rfl, rfl, rfl, by decide +kernel, rfl, by decide +kernel, by decide +kernel⟩
theorem ok_capital (G : Gs mg) (D : Df K mg "is_capital" (top 31) ["byte"]) : COk P w K mg base 1 "is_capital" ["byte"] (spB isCap) := by
  refine D.ok sc_capital len1B (fun f cdv A outer s H vs Q E hr h => ?_)
  obtain ⟨z, rfl, k⟩ := h
  refine ⟨_, pss_one (ps_ret (pe_chain op_le op_le (pgi G.CAPITAL_A) (pv 0) (pgi G.CAPITAL_Z))), ?_⟩
  simp only [and_assoc, rIxL, rIxT, tSl, tPart, tNoPart, gSub, rSetL, rSum, rAll, rCat, rRep, List.length_map, cxK, wipe, tYes,  tLst, tTup, tBM, rAppend, tChain, tTest, tRet, tRetN, tDrop, tSeq, tNext, tIfS, tOrV, tAndV, tNotV, tOp, tUn, tVar, tC, t2I, tCmp, tB, tAnd, tOr, tNot, tIf, tAsg, gName, tCall, tCons, tNil, rI0, rI, rU, tAdd, tSub, tMul, tCB, tAug, ipI, L2.start, List.map_cons, List.map_nil, List.cons_append, List.nil_append, List.append_nil, List.length_cons, List.length_nil, Nat.reduceSub, Nat.reduceAdd, List.replicate_succ, List.replicate_zero, List.replicate, List.set_cons_zero, List.set_cons_succ, List.getElem?_cons_zero, List.getElem?_cons_succ, Option.some.injEq, V.int.injEq, V.bl.injEq, V.ref.injEq, List.cons.injEq, and_true, true_and, exists_eq_left', exists_eq_left, exists_eq_right, exists_and_left, exists_and_right, exists_eq']
  exact and_ite k
theorem sc_letter : FnScope ["byte"] ["byte"] (defScope (top 32)) := ⟨rfl, rfl, rfl, by decide +kernel, rfl, by decide +kernel, by decide +kernel⟩
theorem ok_letter (D : Df K mg "is_letter" (top 32) ["byte"]) (C1 : COk P w K mg base 1 "is_small" ["byte"] (spB isSmall)) (C2 : COk P w K mg base 1 "is_capital" ["byte"] (spB isCap)) : COk P w K mg base 2 "is_letter" ["byte"] (spB isLet) := by
  refine D.ok sc_letter len1B (fun f cdv A outer s H vs Q E hr h => ?_)
  obtain ⟨z, rfl, k⟩ := h
  refine ⟨_, pss_one (ps_ret (pe_or (pcall C1 hr (pa_cons (pv 0) pa_nil)) (pe_one (pcall C2 hr (pa_cons (pv 0) pa_nil))))), ?_⟩
  simp only [and_assoc, rIxL, rIxT, tSl, tPart, tNoPart, gSub, rSetL, rSum, rAll, rCat, rRep, List.length_map, cxK, wipe, tYes,  tLst, tTup, tBM, rAppend, tChain, tTest, tRet, tRetN, tDrop, tSeq, tNext, tIfS, tOrV, tAndV, tNotV, tOp, tUn, tVar, tC, t2I, tCmp, tB, tAnd, tOr, tNot, tIf, tAsg, gName, tCall, tCons, tNil, rI0, rI, rU, tAdd, tSub, tMul, tCB, tAug, ipI, L2.start, List.map_cons, List.map_nil, List.cons_append, List.nil_append, List.append_nil, List.length_cons, List.length_nil, Nat.reduceSub, Nat.reduceAdd, List.replicate_succ, List.replicate_zero, List.replicate, List.set_cons_zero, List.set_cons_succ, List.getElem?_cons_zero, List.getElem?_cons_succ, Option.some.injEq, V.int.injEq, V.bl.injEq, V.ref.injEq, List.cons.injEq, and_true, true_and, exists_eq_left', exists_eq_left, exists_eq_right, exists_and_left, exists_and_right, exists_eq', spB]
  exact or_ite k
theorem sc_mk : FnScope ["byte"] ["byte"] (defScope (top 33)) := ⟨rfl, rfl, rfl, by decide +kernel, rfl, by decide +kernel, by decide +kernel⟩
/-- a def of one int that gives an int -/
def spI (f : Int → Int) : Sp := fun vs H Q _ => ∃ z : Int, vs = [.int z] ∧ Q (.int (f z)) H
theorem ok_mk (G : Gs mg) (D : Df K mg "made_small" (top 33) ["byte"]) (C2 : COk P w K mg base 1 "is_capital" ["byte"] (spB isCap)) : COk P w K mg base 2 "made_small" ["byte"] (spI mkSmall) := by
  refine D.ok sc_mk (fun vs H Q E h => ?_) (fun f cdv A outer s H vs Q E hr h => ?_)
  · obtain ⟨z, rfl, _⟩ := h
    rfl
  obtain ⟨z, rfl, k⟩ := h
  refine ⟨_, pss_cons (ps_if (pt_val (pcall C2 hr (pa_cons (pv 0) pa_nil))) (pss_one (ps_ret (pe_add (pe_sub (pv 0) (pgi G.CAPITAL_A)) (pgi G.SMALL_A)))) pss_nil) (pss_one (ps_ret (pv 0))), ?_⟩
  simp only [and_assoc, rIxL, rIxT, tSl, tPart, tNoPart, gSub, rSetL, rSum, rAll, rCat, rRep, List.length_map, cxK, wipe, tYes,  tLst, tTup, tBM, rAppend, tChain, tTest, tRet, tRetN, tDrop, tSeq, tNext, tIfS, tOrV, tAndV, tNotV, tOp, tUn, tVar, tC, t2I, tCmp, tB, tAnd, tOr, tNot, tIf, tAsg, gName, tCall, tCons, tNil, rI0, rI, rU, tAdd, tSub, tMul, tCB, tAug, ipI, L2.start, List.map_cons, List.map_nil, List.cons_append, List.nil_append, List.append_nil, List.length_cons, List.length_nil, Nat.reduceSub, Nat.reduceAdd, List.replicate_succ, List.replicate_zero, List.replicate, List.set_cons_zero, List.set_cons_succ, List.getElem?_cons_zero, List.getElem?_cons_succ, Option.some.injEq, V.int.injEq, V.bl.injEq, V.ref.injEq, List.cons.injEq, and_true, true_and, exists_eq_left', exists_eq_left, exists_eq_right, exists_and_left, exists_and_right, exists_eq', spB]
  unfold mkSmall at k
  refine ite2 (fun q => ?_) (fun q => ?_)
  · rw [if_pos q] at k
    exact k
  · rw [if_neg q] at k
    exact k
end
end Pd
namespace Pd
open PySem PySem.Spec PyProof.Rows L2
/-! ### heaps -/
theorem _root_.L2.Same.new {H : Hp} {p : Addr} {o : HO} (hp : H p = none) : Same H (upd H p o) := fun b u e => by
  rw [upd_ne (ne_of_none e hp)]
  exact e
theorem _root_.L2.Same.put {H H' : Hp} {p : Addr} {o : HO} (s : Same H H') (hp : H p = none) : Same H (upd H' p o) := fun b u e => by
  rw [upd_ne (ne_of_none e hp)]
  exact s b u e
theorem _root_.L2.Same.puts {H H' : Hp} {p : Addr} {o : HO} (s : Same H H') (hp : H' p = none) : Same H (upd H' p o) := s.put (s.free hp)
theorem upd_none {H : Hp} {p q : Addr} {o : HO} (h : upd H p o q = none) : q ≠ p ∧ H q = none := by
  by_cases e : q = p
  · subst e
    rw [upd_same] at h
    cases h
  · rw [upd_ne e] at h
    exact ⟨e, h⟩
/-- a list, a tuple of ints -/
def IL (H : Hp) (a : Addr) (xs : List Int) : Prop := H a = some (.lst (xs.map V.int))
def IT (H : Hp) (a : Addr) (xs : List Int) : Prop := H a = some (.tup (xs.map V.int))
theorem IL.same {H H' : Hp} {a : Addr} {xs : List Int} (h : IL H a xs) (s : Same H H') : IL H' a xs := s _ _ h
theorem IT.same {H H' : Hp} {a : Addr} {xs : List Int} (h : IT H a xs) (s : Same H H') : IT H' a xs := s _ _ h
theorem IL.seq {K : PySem.W.Frag} {H : Hp} {a : Addr} {xs : List Int} (h : IL H a xs) : SqL K H a (xs.map V.int) := SqL.of h
theorem IT.seq {K : PySem.W.Frag} {H : Hp} {a : Addr} {xs : List Int} (h : IT H a xs) : SqT K H a (xs.map V.int) := SqT.of h
/-- a list of lists of ints: its items' addresses -/
def LLa (H : Hp) (a : Addr) (as : List Addr) (xss : List (List Int)) : Prop :=
  H a = some (.lst (as.map V.ref)) ∧ as.length = xss.length ∧ ∀ (i : Nat) (b : Addr), as[i]? = some b → ∃ xs, xss[i]? = some xs ∧ IL H b xs
def LL (H : Hp) (a : Addr) (xss : List (List Int)) : Prop := ∃ as : List Addr, LLa H a as xss
theorem LLa.same {H H' : Hp} {a : Addr} {as : List Addr} {xss : List (List Int)} (h : LLa H a as xss) (s : Same H H') : LLa H' a as xss :=
  ⟨s _ _ h.1, h.2.1, fun i b e => let ⟨xs, h1, h2⟩ := h.2.2 i b e; ⟨xs, h1, h2.same s⟩⟩
theorem LL.same {H H' : Hp} {a : Addr} {xss : List (List Int)} (h : LL H a xss) (s : Same H H') : LL H' a xss := let ⟨as, q⟩ := h; ⟨as, q.same s⟩
theorem take_snoc {α : Type} : ∀ {l : List α} {i : Nat} {x : α}, l[i]? = some x → l.take (i + 1) = l.take i ++ [x]
  | [], i, x, h => by simp at h
  | a :: l, 0, x, h => by
    have e : a = x := Option.some.inj h
    subst e
    rfl
  | a :: l, i + 1, x, h => by
    have ih := take_snoc (l := l) (i := i) (x := x) h
    show a :: l.take (i + 1) = a :: l.take i ++ [x]
    rw [ih]
    rfl
theorem map_at {α β : Type} {f : α → β} {l : List α} {i : Nat} {y : β} (h : (l.map f)[i]? = some y) : ∃ x, l[i]? = some x ∧ y = f x := by
  rw [List.getElem?_map] at h
  cases e : l[i]? with
  | none =>
    rw [e] at h
    cases h
  | some z =>
    rw [e] at h
    exact ⟨z, rfl, (Option.some.inj h).symm⟩
theorem at_map {α β : Type} {f : α → β} {l : List α} {i : Nat} {x : α} (h : l[i]? = some x) : (l.map f)[i]? = some (f x) := by
  rw [List.getElem?_map, h]
  rfl
theorem map_snoc {α β : Type} (f : α → β) (l : List α) (x : α) : l.map f ++ [f x] = (l ++ [x]).map f := by simp
theorem tyL {K : PySem.W.Frag} {H : Hp} {p : Addr} {xs : List V} (h : H p = some (.lst xs)) : tyV K "list" (.ref p) H := .inl ⟨rfl, _, SqL.of h⟩
/-! ### loops -/
section
variable {K : PySem.W.Frag} {tl : TE} {g : TG} {tb : TS} {D : Ends} {σ : L2.St} {H : Hp}
/-- for x in a list -/
theorem tfor_list {wi : TI} {a : Addr} {xs : List V} (Pv : Nat → L2.St → Hp → Prop) (H1 : Hp) (hw : ∀ R : It → Hp → Prop, R (Itl K a) H1 → wi σ H R) (h0 : Pv 0 σ H1) (hl : ∀ i σ H, i ≤ xs.length → Pv i σ H → SqL K H a xs)
    (hs : ∀ i x σ H, xs[i]? = some x → Pv i σ H → g x σ H fun σ2 H2 => tb { D with nx := Pv (i + 1), ct := Pv (i + 1), bk := D.nx } σ2 H2) (hd : ∀ σ H, Pv xs.length σ H → D.nx σ H) :
    tFor wi g tb D σ H := hw _ (for_list Pv h0 hl hs hd)
/-- for k in range(lo, lo + n) -/
theorem tfor_range {wi : TI} {lo : Int} {n : Nat} (Pv : Nat → L2.St → Hp → Prop) (H1 : Hp) (hw : ∀ R : It → Hp → Prop, R (Itr lo n) H1 → wi σ H R) (h0 : Pv 0 σ H1)
    (hs : ∀ i σ H, i < n → Pv i σ H → g (.int (lo + i)) σ H fun σ2 H2 => tb { D with nx := Pv (i + 1), ct := Pv (i + 1), bk := D.nx } σ2 H2) (hd : ∀ σ H, Pv n σ H → D.nx σ H) :
    tFor wi g tb D σ H := hw _ (for_range Pv h0 hs hd)
end
theorem _root_.L2.Same.seqT {K : PySem.W.Frag} {H H' : Hp} {a : Addr} {xs : List V} (e : Same H H') (h : SqT K H a xs) : SqT K H' a xs := by
  rcases h with (h | ⟨o, h⟩) | h
  · exact .inl (.inl (e _ _ h))
  · exact .inl (.inr ⟨o, e _ _ h⟩)
  · exact .inr h
theorem filter_snoc {α : Type} (p : α → Bool) (l : List α) (x : α) : (l ++ [x]).filter p = if p x = true then l.filter p ++ [x] else l.filter p := by
  rw [List.filter_append]
  by_cases h : p x = true
  · rw [if_pos h, List.filter_cons, if_pos h, List.filter_nil]
  · rw [if_neg h, List.filter_cons, if_neg h, List.filter_nil, List.append_nil]
/-- [e for x in a list if t], nothing else made -/
theorem tlc_pure {K : PySem.W.Frag} {wi : TI} {g : TG} {tt : TT} {te : TE} {vs : List Nat} {σ : L2.St} {H : Hp} {Q : VK} {a : Addr} {xs : List V} (H1 : Hp) (p : V → Bool) (fe : V → V) (hw : ∀ R : It → Hp → Prop, R (Itl K a) H1 → wi σ H R) (ha : SqL K H1 a xs) (hlen : xs.length < sizeLine)
    (hs : ∀ x H' (Rf : Hp → Prop) (Rt : V → Hp → Prop), x ∈ xs → Same H1 H' → (p x = true → Rt (fe x) H') → (p x = false → Rf H') → g x (wipe σ vs) H' fun σ2 H2 => wipe σ2 vs = wipe σ vs ∧ tt σ2 H2 fun b H3 => if b = true then te σ2 H3 Rt else Rf H3)
    (hd : ∀ D, H1 D = none → Q (.ref D) (upd H1 D (.lst ((xs.filter p).map fe)))) : tLc wi g tt te vs σ H Q := by
  refine hw _ fun D hD => lc_list (xs := xs) (fun i H' => H' = upd H1 D (.lst (((xs.take i).filter p).map fe))) rfl (fun i H' _ e => ?_) (fun i x H' hi e => ?_) (fun H' e => ?_)
  · rw [e]
    exact (Same.new hD).seq ha
  · have e3 : ((xs.take (i + 1)).filter p).map fe = if p x = true then ((xs.take i).filter p).map fe ++ [fe x] else ((xs.take i).filter p).map fe := by
      rw [take_snoc hi, filter_snoc]
      split
      · rw [List.map_append]; rfl
      · rfl
    have hfl : (((xs.take i).filter p).map fe).length < sizeLine := by
      rw [List.length_map]
      have h1 := List.length_filter_le p (xs.take i)
      have h2 : (xs.take i).length ≤ xs.length := by rw [List.length_take]; omega
      omega
    refine hs x H' _ _ (List.mem_of_getElem? hi) (by rw [e]; exact Same.new hD) (fun q => ?_) (fun q => ?_)
    · refine ⟨_, by rw [e, upd_same], hfl, ?_⟩
      rw [e, upd_upd, e3, if_pos q]
    · rw [e, e3, if_neg (by rw [q]; decide)]
  · rw [List.take_length] at e
    rw [e]
    exact hd D hD
/-- [e for x in a tuple if t], nothing else made -/
theorem tlc_pureT {K : PySem.W.Frag} {wi : TI} {g : TG} {tt : TT} {te : TE} {vs : List Nat} {σ : L2.St} {H : Hp} {Q : VK} {a : Addr} {xs : List V} (H1 : Hp) (p : V → Bool) (fe : V → V) (hw : ∀ R : It → Hp → Prop, R (Itt K a) H1 → wi σ H R) (ha : SqT K H1 a xs) (hlen : xs.length < sizeLine)
    (hs : ∀ x H' (Rf : Hp → Prop) (Rt : V → Hp → Prop), x ∈ xs → Same H1 H' → (p x = true → Rt (fe x) H') → (p x = false → Rf H') → g x (wipe σ vs) H' fun σ2 H2 => wipe σ2 vs = wipe σ vs ∧ tt σ2 H2 fun b H3 => if b = true then te σ2 H3 Rt else Rf H3)
    (hd : ∀ D, H1 D = none → Q (.ref D) (upd H1 D (.lst ((xs.filter p).map fe)))) : tLc wi g tt te vs σ H Q := by
  refine hw _ fun D hD => lc_tup (xs := xs) (fun i H' => H' = upd H1 D (.lst (((xs.take i).filter p).map fe))) rfl (fun i H' _ e => ?_) (fun i x H' hi e => ?_) (fun H' e => ?_)
  · rw [e]
    exact (Same.new hD).seqT ha
  · have e3 : ((xs.take (i + 1)).filter p).map fe = if p x = true then ((xs.take i).filter p).map fe ++ [fe x] else ((xs.take i).filter p).map fe := by
      rw [take_snoc hi, filter_snoc]
      split
      · rw [List.map_append]; rfl
      · rfl
    have hfl : (((xs.take i).filter p).map fe).length < sizeLine := by
      rw [List.length_map]
      have h1 := List.length_filter_le p (xs.take i)
      have h2 : (xs.take i).length ≤ xs.length := by rw [List.length_take]; omega
      omega
    refine hs x H' _ _ (List.mem_of_getElem? hi) (by rw [e]; exact Same.new hD) (fun q => ?_) (fun q => ?_)
    · refine ⟨_, by rw [e, upd_same], hfl, ?_⟩
      rw [e, upd_upd, e3, if_pos q]
    · rw [e, e3, if_neg (by rw [q]; decide)]
  · rw [List.take_length] at e
    rw [e]
    exact hd D hD
/-- what a filter of ints keeps -/
theorem filter_ints (p : V → Bool) (q : Int → Bool) (f : V → V) (g : Int → V) (hp : ∀ z, p (.int z) = q z) (hf : ∀ z, f (.int z) = g z) : ∀ xs : List Int, ((xs.map V.int).filter p).map f = (xs.filter q).map g
  | [] => rfl
  | z :: r => by
    have ih := filter_ints p q f g hp hf r
    rw [List.map_cons, List.filter_cons, List.filter_cons, hp z]
    split
    · rw [List.map_cons, List.map_cons, hf z, ih]
    · exact ih
def vInt : V → Int
  | .int z => z
  | _ => 0
section
variable {X : Cx}
/-- len(e), e a list or a tuple -/
theorem plen {e : Expr} {te : TE} {p pos : Pos} (hm : X.mg "len" = none) (he : PE X e te) (hg : Gl X "len" := by rfl) (hs : starEach [e] X.env = (false, eval e X.env) :: starEach [] X.env := by rfl) (hpl : (backTo pos (starEach [] X.env)).any (·.1) = false := by rfl) :
    PE X (.Call (.Name "len" p) [e] [] pos) (tCB (fun xs H Q => ∃ p ys, xs = [.ref p] ∧ (SqL X.K H p ys ∨ SqT X.K H p ys) ∧ Q (.int ys.length) H) (tCons te tNil)) :=
  pe_callB call_len_seq hg hm PySem.boot_len (pa_cons he pa_nil hs) (by decide) (by decide) hs hpl
/-- o.append(e) -/
theorem papp {o e : Expr} {to te : TE} {apos cpos : Pos} (ho : PE X o to) (he : PE X e te)
    (hbase : attributeBase o "append" X.env (eval o X.env) = eval o X.env := by rfl)
    (hfew : ((backTo cpos (starEach [e] X.env)).all (fun x => !x.1) && (backToKw cpos (keywordEach [] X.env)).all (fun x => x.1.isSome)
      && decide (([e] : List Expr).length + ([] : List Keyword).length + (if ([] : List Keyword).isEmpty then 0 else 1) < 30)) = true := by rfl)
    (hline : (apos.endLine == cpos.line) = true := by rfl) (hs : starEach [e] X.env = (false, eval e X.env) :: starEach [] X.env := by rfl) (hplain : (backTo cpos (starEach [] X.env)).any (·.1) = false := by rfl) :
    PE X (.Call (.Attribute o "append" apos) [e] [] cpos) (tBM X.K "list" rAppend to (tCons te tNil)) :=
  pe_bm PySem.F.plainAttrs_list PySem.F.slot_list_append PySem.F.type_list_append mt_append ho (pa_cons he pa_nil hs) hbase hfew hline hs hplain
end
end Pd
namespace Pd
open PySem PySem.Spec PyProof.Rows L2
section
variable {P : Program} {w : World} {K : PySem.W.Frag} {mg : Str → Option Value} {base : Heap}
/-- a def of a list of ints that gives a new tuple of ints -/
def spSigns : Sp := fun vs H Q _ => ∃ (a : Addr) (xs : List Int), vs = [.ref a] ∧ IL H a xs ∧ xs.length ≤ 5000 ∧ ∀ (H' : Hp) (p : Addr), Same H H' → H p = none → IT H' p (signsI xs) → Q (.ref p) H'
theorem sc_signs : FnScope ["word", "byte"] ["word"] (defScope (top 39)) := ⟨rfl, rfl, rfl, by decide +kernel, rfl, by decide +kernel, by decide +kernel⟩
theorem ok_signs (G : Gs mg) (D : Df K mg "signs_of" (top 39) ["word"]) (C : COk P w K mg base 1 "is_digit" ["byte"] (spB isDig)) : COk P w K mg base 2 "signs_of" ["word"] spSigns := by
  refine D.ok sc_signs (fun vs H Q E h => ?_) (fun f cdv A outer s H vs Q E hr h => ?_)
  · obtain ⟨a, xs, rfl, _⟩ := h
    rfl
  obtain ⟨a, xs, rfl, ha, hlen, k⟩ := h
  refine ⟨_, pss_one (ps_ret (pe_callTy call_tuple_of rfl G.tuple PyProof.Rows.boot_tuple (pa_cons (pe_lc (own := [("byte", 1)]) rfl sc_signs.nd (pi_list (pv 0)) (blkOk_by (show blkC ["word", "byte"] (defScope (top 39)) _ _ = true by decide +kernel))
    (fun s H C cl fp => pg_name (i := 1) sc_signs.nd rfl (Or.inl rfl)) (fun s H C' cl fp => pts_one (pt_not (pt_val (pcall C hr (pa_cons (pv 1) pa_nil))))) (fun s H C cl fp => pv 1)) pa_nil))), ?_⟩
  simp only [and_assoc, rIxL, rIxT, tSl, tPart, tNoPart, gSub, rSetL, rSum, rAll, rCat, rRep, List.length_map, cxK, wipe, tYes,  tLst, tTup, tBM, rAppend, tChain, tTest, tRet, tRetN, tDrop, tSeq, tNext, tIfS, tOrV, tAndV, tNotV, tOp, tUn, tVar, tC, t2I, tCmp, tB, tAnd, tOr, tNot, tIf, tAsg, gName, tCall, tCons, tNil, rI0, rI, rU, tAdd, tSub, tMul, tCB, tAug, ipI, L2.start, List.map_cons, List.map_nil, List.cons_append, List.nil_append, List.append_nil, List.length_cons, List.length_nil, Nat.reduceSub, Nat.reduceAdd, List.replicate_succ, List.replicate_zero, List.replicate, List.set_cons_zero, List.set_cons_succ, List.getElem?_cons_zero, List.getElem?_cons_succ, Option.some.injEq, V.int.injEq, V.bl.injEq, V.ref.injEq, List.cons.injEq, and_true, true_and, exists_eq_left', exists_eq_left, exists_eq_right, exists_and_left, exists_and_right, exists_eq']
  refine tlc_pure (K := K) (a := a) (xs := xs.map V.int) H (fun v => !isDig (vInt v)) id (fun R r => ⟨_, rfl, a, rfl, ⟨_, ha.seq⟩, r⟩) ha.seq (by rw [List.length_map]; exact Nat.lt_of_le_of_lt hlen (by decide)) (fun x H' Rf Rt hx s1 ht hf => ?_) (fun D hD => ?_)
  · obtain ⟨z, hz, rfl⟩ := List.mem_map.mp hx
    simp only [and_assoc, rIxL, rIxT, tSl, tPart, tNoPart, gSub, rSetL, rSum, rAll, rCat, rRep, List.length_map, cxK, wipe, tYes,  tLst, tTup, tBM, rAppend, tChain, tTest, tRet, tRetN, tDrop, tSeq, tNext, tIfS, tOrV, tAndV, tNotV, tOp, tUn, tVar, tC, t2I, tCmp, tB, tAnd, tOr, tNot, tIf, tAsg, gName, tCall, tCons, tNil, rI0, rI, rU, tAdd, tSub, tMul, tCB, tAug, ipI, L2.start, List.map_cons, List.map_nil, List.cons_append, List.nil_append, List.append_nil, List.length_cons, List.length_nil, Nat.reduceSub, Nat.reduceAdd, List.replicate_succ, List.replicate_zero, List.replicate, List.set_cons_zero, List.set_cons_succ, List.getElem?_cons_zero, List.getElem?_cons_succ, Option.some.injEq, V.int.injEq, V.bl.injEq, V.ref.injEq, List.cons.injEq, and_true, true_and, exists_eq_left', exists_eq_left, exists_eq_right, exists_and_left, exists_and_right, exists_eq', spB]
    refine ite2 (fun q => ht q) (fun q => hf (show (!isDig z) = false by simpa using q))
  · refine ⟨D, rfl, _, .inl ⟨SqL.of upd_same, fun l hl => ?_⟩⟩
    obtain ⟨n1, n2⟩ := upd_none hl
    refine k _ l ((Same.new hD).puts hl) n2 ?_
    show upd _ l _ l = _
    rw [upd_same, filter_ints _ (fun z => !isDig z) _ V.int (fun z => rfl) (fun z => rfl)]
    rfl
end
end Pd
namespace Pd
open PySem PySem.Spec PyProof.Rows L2
section
variable {P : Program} {w : World} {K : PySem.W.Frag} {mg : Str → Option Value} {base : Heap}
/-- a def of a list of ints that gives a new list of lists of ints -/
def spWords : Sp := fun vs H Q _ => ∃ (a : Addr) (xs : List Int), vs = [.ref a] ∧ IL H a xs ∧ xs.length ≤ 5000 ∧ ∀ (H' : Hp) (p : Addr), Same H H' → H p = none → LL H' p (wordsI xs) → Q (.ref p) H'
theorem sc_words : FnScope ["text", "words", "word", "byte"] ["text"] (defScope (top 38)) := ⟨rfl, rfl, rfl, by decide +kernel, rfl, by decide +kernel, by decide +kernel⟩
/-- the words so far: the list at W holds the lists at as, the word that grows stands at wd -/
structure WAt (H0 H : Hp) (W wd : Addr) (as : List Addr) (st : List (List Int) × List Int) : Prop where
  same : Same H0 H
  ll : LLa H W as st.1
  il : IL H wd st.2
  nW : H0 W = none
  nwd : H0 wd = none
  ne : wd ≠ W
  ni : wd ∉ as
  nj : W ∉ as
theorem LLa.put {H : Hp} {W p : Addr} {as : List Addr} {xss : List (List Int)} {o : HO} (h : LLa H W as xss) (h1 : p ≠ W) (h2 : p ∉ as) : LLa (upd H p o) W as xss :=
  ⟨by rw [upd_ne (Ne.symm h1)]; exact h.1, h.2.1, fun i b e => by
    obtain ⟨xs, e1, e2⟩ := h.2.2 i b e
    refine ⟨xs, e1, ?_⟩
    show upd H p o b = _
    rw [upd_ne (fun q => h2 (by rw [← q]; exact List.mem_of_getElem? e))]
    exact e2⟩
theorem LLa.snoc {H : Hp} {W b : Addr} {as : List Addr} {xss : List (List Int)} {xs : List Int} (h : LLa H W as xss) (hb : IL H b xs) (hn : W ∉ as) (hbW : b ≠ W) : LLa (upd H W (.lst (as.map V.ref ++ [V.ref b]))) W (as ++ [b]) (xss ++ [xs]) := by
  refine ⟨by rw [upd_same, List.map_append]; rfl, by simp [h.2.1], fun i c e => ?_⟩
  by_cases hi : i < as.length
  · rw [List.getElem?_append_left hi] at e
    obtain ⟨ys, e1, e2⟩ := h.2.2 i c e
    refine ⟨ys, by rw [List.getElem?_append_left (by rw [← h.2.1]; exact hi)]; exact e1, ?_⟩
    show upd H W _ c = _
    rw [upd_ne (fun q => hn (by rw [← q]; exact List.mem_of_getElem? e))]
    exact e2
  · rw [List.getElem?_append_right (by omega)] at e
    have hi0 : i - as.length = 0 := by
      by_cases q : i - as.length = 0
      · exact q
      · rw [List.getElem?_eq_none (by simp; omega)] at e
        cases e
    rw [hi0] at e
    have e : b = c := Option.some.inj e
    subst e
    refine ⟨xs, ?_, ?_⟩
    · rw [List.getElem?_append_right (by rw [← h.2.1]; omega), ← h.2.1, hi0]
      rfl
    · show upd H W _ b = _
      rw [upd_ne hbW]
      exact hb
theorem ok_words (G : Gs mg) (D : Df K mg "words_of" (top 38) ["text"]) (C : COk P w K mg base 1 "is_parting" ["byte"] (spB isParting)) : COk P w K mg base 2 "words_of" ["text"] spWords := by
  refine D.ok sc_words (fun vs H Q E h => ?_) (fun f cdv A outer s H vs Q E hr h => ?_)
  · obtain ⟨a, xs, rfl, _⟩ := h
    rfl
  obtain ⟨a, xs, rfl, ha, hlen, k⟩ := h
  refine ⟨_, pss_cons (ps_set (i := 1) sc_words.nd rfl (Or.inl rfl) (pe_lst pa_nil)) (pss_cons (ps_set (i := 2) sc_words.nd rfl (Or.inl rfl) (pe_lst pa_nil))
    (pss_cons (ps_for PassesOwn.never rfl (pi_list (pv 0)) (pg_name (i := 3) sc_words.nd rfl (Or.inl rfl))
      (pss_one (ps_if (pt_not (pt_val (pcall C hr (pa_cons (pv 3) pa_nil)))) (pss_one (ps_expr (papp (pv 2) (pv 3))))
        (pss_one (ps_if (pt_cmp (pc_gt (plen G.len (pv 2)) pe_int)) (pss_cons (ps_expr (papp (pv 1) (pv 2))) (pss_one (ps_set (i := 2) sc_words.nd rfl (Or.inl rfl) (pe_lst pa_nil)))) pss_nil)))))
    (pss_cons (ps_if (pt_cmp (pc_gt (plen G.len (pv 2)) pe_int)) (pss_one (ps_expr (papp (pv 1) (pv 2)))) pss_nil)
    (pss_one (ps_ret (pv 1)))))), ?_⟩
  simp only [and_assoc, rIxL, rIxT, tSl, tPart, tNoPart, gSub, rSetL, rSum, rAll, rCat, rRep, List.length_map, cxK, wipe, tYes,  tLst, tTup, tBM, rAppend, tChain, tTest, tRet, tRetN, tDrop, tSeq, tNext, tIfS, tOrV, tAndV, tNotV, tOp, tUn, tVar, tC, t2I, tCmp, tB, tAnd, tOr, tNot, tIf, tAsg, gName, tCall, tCons, tNil, rI0, rI, rU, tAdd, tSub, tMul, tCB, tAug, ipI, L2.start, List.map_cons, List.map_nil, List.cons_append, List.nil_append, List.append_nil, List.length_cons, List.length_nil, Nat.reduceSub, Nat.reduceAdd, List.replicate_succ, List.replicate_zero, List.replicate, List.set_cons_zero, List.set_cons_succ, List.getElem?_cons_zero, List.getElem?_cons_succ, Option.some.injEq, V.int.injEq, V.bl.injEq, V.ref.injEq, List.cons.injEq, and_true, true_and, exists_eq_left', exists_eq_left, exists_eq_right, exists_and_left, exists_and_right, exists_eq']
  refine ⟨Nat.zero_le _, fun W hW => ⟨Nat.zero_le _, fun wd0 hwd0 => ?_⟩⟩
  obtain ⟨ne0, hwd0'⟩ := upd_none hwd0
  have s0 : Same H (upd (upd H W (.lst [])) wd0 (.lst [])) := (Same.new hW).puts hwd0
  refine tfor_list (K := K) (a := a) (xs := xs.map V.int) (fun i σ H' => ∃ (wd : Addr) (v : Option V) (as : List Addr), σ = [some (.ref a), some (.ref W), some (.ref wd), v] ∧ WAt H H' W wd as ((xs.take i).foldl wStep ([], []))) _
    (fun R r => ⟨_, rfl, a, rfl, ⟨_, (ha.same s0).seq⟩, r⟩)
    ⟨wd0, none, [], rfl, s0, ⟨by rw [upd_ne (Ne.symm ne0), upd_same]; rfl, rfl, fun i b e => by simp at e⟩, by show upd _ wd0 _ wd0 = _; rw [upd_same]; rfl, hW, hwd0', ne0, by simp, by simp⟩
    (fun i σ H' _ ⟨wd, v, as, _, B⟩ => (ha.same B.same).seq) ?_ ?_
  · rintro i y σ H' hi ⟨wd, v, as, rfl, B⟩
    obtain ⟨z, hz, rfl⟩ := map_at hi
    have hfl := wfold_len (xs.take i) ([], [])
    have htl : (xs.take i).length ≤ 5000 := by rw [List.length_take]; omega
    have hsz : sizeLine = 16777216 := by decide
    have ef : (xs.take (i + 1)).foldl wStep ([], []) = wStep ((xs.take i).foldl wStep ([], [])) z := by rw [take_snoc hz, List.foldl_append]; rfl
    simp only [List.length_nil, Nat.zero_add] at hfl
    generalize hst : (xs.take i).foldl wStep ([], []) = st at B ef hfl
    simp only [and_assoc, rIxL, rIxT, tSl, tPart, tNoPart, gSub, rSetL, rSum, rAll, rCat, rRep, List.length_map, cxK, wipe, tYes,  tLst, tTup, tBM, rAppend, tChain, tTest, tRet, tRetN, tDrop, tSeq, tNext, tIfS, tOrV, tAndV, tNotV, tOp, tUn, tVar, tC, t2I, tCmp, tB, tAnd, tOr, tNot, tIf, tAsg, gName, tCall, tCons, tNil, rI0, rI, rU, tAdd, tSub, tMul, tCB, tAug, ipI, L2.start, List.map_cons, List.map_nil, List.cons_append, List.nil_append, List.append_nil, List.length_cons, List.length_nil, Nat.reduceSub, Nat.reduceAdd, List.replicate_succ, List.replicate_zero, List.replicate, List.set_cons_zero, List.set_cons_succ, List.getElem?_cons_zero, List.getElem?_cons_succ, Option.some.injEq, V.int.injEq, V.bl.injEq, V.ref.injEq, List.cons.injEq, and_true, true_and, exists_eq_left', exists_eq_left, exists_eq_right, exists_and_left, exists_and_right, exists_eq', spB]
    refine ite2 (fun q => ?_) (fun q => ?_)
    · have q' : ¬ isParting z = true := by simpa using q
      refine ⟨tyL B.il, _, B.il, by rw [List.length_map]; omega, as, ?_⟩
      rw [ef]
      unfold wStep
      rw [if_neg q']
      refine ⟨B.same.put B.nwd, B.ll.put B.ne B.ni, ?_, B.nW, B.nwd, B.ne, B.ni, B.nj⟩
      show upd _ wd _ wd = _
      rw [upd_same, ← map_snoc]
    · have q' : isParting z = true := by simpa using q
      refine ⟨_, .inl B.il.seq, ?_⟩
      rw [List.length_map]
      refine ite2 (fun q2 => ?_) (fun q2 => ?_)
      · have q2' : ¬ st.2 = [] := by
          intro e
          rw [e] at q2
          simp at q2
        refine ⟨tyL B.ll.1, _, B.ll.1, by rw [List.length_map, B.ll.2.1]; omega, Nat.zero_le _, fun n hn => ?_⟩
        obtain ⟨n1, n2⟩ := upd_none hn
        refine ⟨as ++ [wd], ?_⟩
        rw [ef]
        unfold wStep
        rw [if_pos q', if_neg q2']
        have L := B.ll.snoc B.il B.nj B.ne
        have n3 : n ≠ wd := (ne_of_none B.il n2).symm
        have n4 : n ∉ as := fun m => by
          obtain ⟨j, hj⟩ := List.getElem?_of_mem m
          obtain ⟨ys, _, e2⟩ := B.ll.2.2 j n hj
          exact ne_of_none e2 n2 rfl
        have n5 : n ∉ as ++ [wd] := by simp [n3, n4]
        refine ⟨(B.same.put B.nW).puts hn, L.put n1 n5, ?_, B.nW, B.same.free n2, n1, n5, by simp [B.nj, Ne.symm B.ne]⟩
        show upd _ n _ n = _
        rw [upd_same]
        rfl
      · have q2' : st.2 = [] := by
          cases e : st.2 with
          | nil => rfl
          | cons x r =>
            rw [e] at q2
            simp at q2
        refine ⟨as, ?_⟩
        rw [ef]
        unfold wStep
        rw [if_pos q', if_pos q2']
        exact B
  · rintro σ H' ⟨wd, v, as, rfl, B⟩
    rw [List.length_map, List.take_length] at B
    have hfl := wfold_len xs ([], [])
    have hsz : sizeLine = 16777216 := by decide
    simp only [List.length_nil, Nat.zero_add] at hfl
    have ew : wordsI xs = if (xs.foldl wStep ([], [])).2 = [] then (xs.foldl wStep ([], [])).1 else (xs.foldl wStep ([], [])).1 ++ [(xs.foldl wStep ([], [])).2] := rfl
    generalize hst : xs.foldl wStep ([], []) = st at B hfl ew
    simp only [and_assoc, rIxL, rIxT, tSl, tPart, tNoPart, gSub, rSetL, rSum, rAll, rCat, rRep, List.length_map, cxK, wipe, tYes,  tLst, tTup, tBM, rAppend, tChain, tTest, tRet, tRetN, tDrop, tSeq, tNext, tIfS, tOrV, tAndV, tNotV, tOp, tUn, tVar, tC, t2I, tCmp, tB, tAnd, tOr, tNot, tIf, tAsg, gName, tCall, tCons, tNil, rI0, rI, rU, tAdd, tSub, tMul, tCB, tAug, ipI, L2.start, List.map_cons, List.map_nil, List.cons_append, List.nil_append, List.append_nil, List.length_cons, List.length_nil, Nat.reduceSub, Nat.reduceAdd, List.replicate_succ, List.replicate_zero, List.replicate, List.set_cons_zero, List.set_cons_succ, List.getElem?_cons_zero, List.getElem?_cons_succ, Option.some.injEq, V.int.injEq, V.bl.injEq, V.ref.injEq, List.cons.injEq, and_true, true_and, exists_eq_left', exists_eq_left, exists_eq_right, exists_and_left, exists_and_right, exists_eq']
    refine ⟨_, .inl B.il.seq, ?_⟩
    rw [List.length_map]
    refine ite2 (fun q2 => ?_) (fun q2 => ?_)
    · have q2' : ¬ st.2 = [] := by
        intro e
        rw [e] at q2
        simp at q2
      refine ⟨tyL B.ll.1, _, B.ll.1, by rw [List.length_map, B.ll.2.1]; omega, ?_⟩
      refine k _ W (B.same.put B.nW) B.nW ⟨as ++ [wd], ?_⟩
      rw [ew, if_neg q2']
      exact B.ll.snoc B.il B.nj B.ne
    · have q2' : st.2 = [] := by
        cases e : st.2 with
        | nil => rfl
        | cons x r =>
          rw [e] at q2
          simp at q2
      refine k _ W B.same B.nW ⟨as, ?_⟩
      rw [ew, if_pos q2']
      exact B.ll
end
end Pd
namespace Pd
open PySem PySem.Spec PyProof.Rows L2
section
variable {P : Program} {w : World} {K : PySem.W.Frag} {mg : Str → Option Value} {base : Heap}
/-- a def of a list of ints that gives a bool -/
def spBL (f : List Int → Bool) : Sp := fun vs H Q _ => ∃ (a : Addr) (xs : List Int), vs = [.ref a] ∧ IL H a xs ∧ xs.length ≤ 5000 ∧ ∀ H', Same H H' → Q (.bl (f xs)) H'
theorem len1L {f : List Int → Bool} {x : Str} : ∀ vs H Q E, spBL f vs H Q E → vs.length = ([x] : List Str).length := fun vs H Q E h => by
  obtain ⟨a, xs, rfl, _⟩ := h
  rfl
theorem getD_at {l : List Int} {i : Nat} (h : i < l.length) : l[i]? = some (l.getD i 0) := by
  rw [List.getD_eq_getElem?_getD, List.getElem?_eq_getElem h]
  rfl
theorem atI_ints {l : List Int} {i : Nat} {z : Int} (e : z = (i : Int)) (h : i < l.length) : atI (l.map V.int) z = some (.int (l.getD i 0)) := at_of e (at_map (getD_at h))
theorem sc_two : FnScope ["word", "k"] ["word"] (defScope (top 40)) := ⟨rfl, rfl, rfl, by decide +kernel, rfl, by decide +kernel, by decide +kernel⟩
theorem ok_two (G : Gs mg) (D : Df K mg "has_two_digits_in_a_row" (top 40) ["word"]) (C : COk P w K mg base 1 "is_digit" ["byte"] (spB isDig)) : COk P w K mg base 2 "has_two_digits_in_a_row" ["word"] (spBL twoDig) := by
  refine D.ok sc_two len1L (fun f cdv A outer s H vs Q E hr h => ?_)
  obtain ⟨a, xs, rfl, ha, hlen, k⟩ := h
  refine ⟨_, pss_cons (ps_for PassesOwn.never rfl (pi_range2 rfl G.range (pa_cons pe_int (pa_cons (plen G.len (pv 0)) pa_nil))) (pg_name (i := 1) sc_two.nd rfl (Or.inl rfl))
    (pss_one (ps_if (pw_and (pt_val (pcall C hr (pa_cons (pe_ix ix_list (pv 0) (pe_sub (pv 1) pe_int) (fun _ _ => rfl)) pa_nil))) (pw_and1 (pt_val (pcall C hr (pa_cons (pe_ix ix_list (pv 0) (pv 1) (fun _ _ => rfl)) pa_nil))))).pt (pss_one (ps_ret pe_bl)) pss_nil)))
    (pss_one (ps_ret pe_bl)), ?_⟩
  simp only [and_assoc, rIxL, rIxT, tSl, tPart, tNoPart, gSub, rSetL, rSum, rAll, rCat, rRep, List.length_map, cxK, wipe, tYes,  tLst, tTup, tBM, rAppend, tChain, tTest, tRet, tRetN, tDrop, tSeq, tNext, tIfS, tOrV, tAndV, tNotV, tOp, tUn, tVar, tC, t2I, tCmp, tB, tAnd, tOr, tNot, tIf, tAsg, gName, tCall, tCons, tNil, rI0, rI, rU, tAdd, tSub, tMul, tCB, tAug, ipI, L2.start, List.map_cons, List.map_nil, List.cons_append, List.nil_append, List.append_nil, List.length_cons, List.length_nil, Nat.reduceSub, Nat.reduceAdd, List.replicate_succ, List.replicate_zero, List.replicate, List.set_cons_zero, List.set_cons_succ, List.getElem?_cons_zero, List.getElem?_cons_succ, Option.some.injEq, V.int.injEq, V.bl.injEq, V.ref.injEq, List.cons.injEq, and_true, true_and, exists_eq_left', exists_eq_left, exists_eq_right, exists_and_left, exists_and_right, exists_eq']
  refine tfor_range (lo := 1) (n := (((xs.map V.int).length : Int) - 1).toNat) (fun i σ H' => ∃ v : Option V, σ = [some (.ref a), v] ∧ H' = H ∧ ∀ j, j < i → ¬ (isDig (xs.getD j 0) = true ∧ isDig (xs.getD (j + 1) 0) = true)) H
    (fun R r => by
      simp only [and_assoc, rIxL, rIxT, tSl, tPart, tNoPart, gSub, rSetL, rSum, rAll, rCat, rRep, List.length_map, cxK, wipe, tYes,  tLst, tTup, tBM, rAppend, tChain, tTest, tRet, tRetN, tDrop, tSeq, tNext, tIfS, tOrV, tAndV, tNotV, tOp, tUn, tVar, tC, t2I, tCmp, tB, tAnd, tOr, tNot, tIf, tAsg, gName, tCall, tCons, tNil, rI0, rI, rU, tAdd, tSub, tMul, tCB, tAug, ipI, L2.start, List.map_cons, List.map_nil, List.cons_append, List.nil_append, List.append_nil, List.length_cons, List.length_nil, Nat.reduceSub, Nat.reduceAdd, List.replicate_succ, List.replicate_zero, List.replicate, List.set_cons_zero, List.set_cons_succ, List.getElem?_cons_zero, List.getElem?_cons_succ, Option.some.injEq, V.int.injEq, V.bl.injEq, V.ref.injEq, List.cons.injEq, and_true, true_and, exists_eq_left', exists_eq_left, exists_eq_right, exists_and_left, exists_and_right, exists_eq', iRng2]
      exact ⟨_, .inl ha.seq, by decide, by decide, by omega, by rw [List.length_map]; omega, r⟩)
    ⟨none, rfl, rfl, fun j hj => absurd hj (Nat.not_lt_zero _)⟩ ?_ ?_
  · rintro i σ H' hi ⟨v, rfl, rfl, hno⟩
    rw [List.length_map] at hi
    have h1 : i < xs.length := by omega
    have h2 : i + 1 < xs.length := by omega
    simp only [and_assoc, rIxL, rIxT, tSl, tPart, tNoPart, gSub, rSetL, rSum, rAll, rCat, rRep, List.length_map, cxK, wipe, tYes,  tLst, tTup, tBM, rAppend, tChain, tTest, tRet, tRetN, tDrop, tSeq, tNext, tIfS, tOrV, tAndV, tNotV, tOp, tUn, tVar, tC, t2I, tCmp, tB, tAnd, tOr, tNot, tIf, tAsg, gName, tCall, tCons, tNil, rI0, rI, rU, tAdd, tSub, tMul, tCB, tAug, ipI, L2.start, List.map_cons, List.map_nil, List.cons_append, List.nil_append, List.append_nil, List.length_cons, List.length_nil, Nat.reduceSub, Nat.reduceAdd, List.replicate_succ, List.replicate_zero, List.replicate, List.set_cons_zero, List.set_cons_succ, List.getElem?_cons_zero, List.getElem?_cons_succ, Option.some.injEq, V.int.injEq, V.bl.injEq, V.ref.injEq, List.cons.injEq, and_true, true_and, exists_eq_left', exists_eq_left, exists_eq_right, exists_and_left, exists_and_right, exists_eq', spB]
    refine ⟨_, ha.seq, _, atI_ints (i := i) (by omega) h1, _, rfl, ?_⟩
    refine ite2 (fun q1 => ?_) (fun q1 => ?_)
    · refine ⟨_, ha.seq, _, atI_ints (i := i + 1) (by omega) h2, _, rfl, ?_⟩
      refine ite2 (fun q2 => ?_) (fun q2 => ?_)
      · have e : twoDig xs = true := (twoDig_iff xs).mpr ⟨i, h2, q1, q2⟩
        have k2 := k _ (Same.refl _)
        rw [e] at k2
        exact k2
      · refine fun j hj => ?_
        by_cases hji : j = i
        · subst hji
          exact fun z => q2 z.2
        · exact hno j (by omega)
    · refine iteF fun j hj => ?_
      by_cases hji : j = i
      · subst hji
        exact fun z => q1 z.1
      · exact hno j (by omega)
  · rintro σ H' ⟨v, rfl, rfl, hno⟩
    rw [List.length_map] at hno
    simp only [and_assoc, rIxL, rIxT, tSl, tPart, tNoPart, gSub, rSetL, rSum, rAll, rCat, rRep, List.length_map, cxK, wipe, tYes,  tLst, tTup, tBM, rAppend, tChain, tTest, tRet, tRetN, tDrop, tSeq, tNext, tIfS, tOrV, tAndV, tNotV, tOp, tUn, tVar, tC, t2I, tCmp, tB, tAnd, tOr, tNot, tIf, tAsg, gName, tCall, tCons, tNil, rI0, rI, rU, tAdd, tSub, tMul, tCB, tAug, ipI, L2.start, List.map_cons, List.map_nil, List.cons_append, List.nil_append, List.append_nil, List.length_cons, List.length_nil, Nat.reduceSub, Nat.reduceAdd, List.replicate_succ, List.replicate_zero, List.replicate, List.set_cons_zero, List.set_cons_succ, List.getElem?_cons_zero, List.getElem?_cons_succ, Option.some.injEq, V.int.injEq, V.bl.injEq, V.ref.injEq, List.cons.injEq, and_true, true_and, exists_eq_left', exists_eq_left, exists_eq_right, exists_and_left, exists_and_right, exists_eq']
    have e : twoDig xs = false := by
      cases q : twoDig xs with
      | false => rfl
      | true =>
        obtain ⟨j, h1, h2, h3⟩ := (twoDig_iff xs).mp q
        exact absurd ⟨h2, h3⟩ (hno j (by omega))
    have k2 := k _ (Same.refl _)
    rw [e] at k2
    exact k2
/-- a def of a list of ints that gives a new list of ints -/
def spLL (f : List Int → List Int) : Sp := fun vs H Q _ => ∃ (a : Addr) (xs : List Int), vs = [.ref a] ∧ IL H a xs ∧ xs.length ≤ 5000 ∧ ∀ (H' : Hp) (p : Addr), Same H H' → H p = none → IL H' p (f xs) → Q (.ref p) H'
theorem sc_digits : FnScope ["word", "digits", "byte"] ["word"] (defScope (top 41)) := ⟨rfl, rfl, rfl, by decide +kernel, rfl, by decide +kernel, by decide +kernel⟩
theorem ixN_ok {n : Nat} {z : Int} {j : Nat} (e : z = (j : Int)) (h : j < n) : ixN n z = some j := by
  unfold ixN
  rw [if_pos (by omega), if_pos (by omega), e]
  rfl
theorem map_set_int (l : List Int) (j : Nat) (z : Int) : (l.map V.int).set j (.int z) = (l.set j z).map V.int := by
  rw [List.map_set]
theorem ok_digits (G : Gs mg) (D : Df K mg "digits_of" (top 41) ["word"]) (C : COk P w K mg base 1 "is_digit" ["byte"] (spB isDig)) : COk P w K mg base 2 "digits_of" ["word"] (spLL digitsI) := by
  refine D.ok sc_digits (fun vs H Q E h => ?_) (fun f cdv A outer s H vs Q E hr h => ?_)
  · obtain ⟨a, xs, rfl, _⟩ := h
    rfl
  obtain ⟨a, xs, rfl, ha, hlen, k⟩ := h
  refine ⟨_, pss_cons (ps_set (i := 1) sc_digits.nd rfl (Or.inl rfl) (pe_lst (pa_cons pe_int pa_nil)))
    (pss_cons (ps_for PassesOwn.never rfl (pi_list (pv 0)) (pg_name (i := 2) sc_digits.nd rfl (Or.inl rfl))
      (pss_one (ps_if (pt_val (pcall C hr (pa_cons (pv 2) pa_nil))) (pss_one (ps_asg (pe_sub (pv 2) (pgi G.ZERO)) (pg_sub (pv 1) (pe_sub (plen G.len (pv 1)) pe_int) set_list)))
        (pss_one (ps_expr (papp (pv 1) pe_int))))))
    (pss_one (ps_ret (pv 1)))), ?_⟩
  simp only [and_assoc, rIxL, rIxT, tSl, tPart, tNoPart, gSub, rSetL, rSum, rAll, rCat, rRep, List.length_map, cxK, wipe, tYes,  tLst, tTup, tBM, rAppend, tChain, tTest, tRet, tRetN, tDrop, tSeq, tNext, tIfS, tOrV, tAndV, tNotV, tOp, tUn, tVar, tC, t2I, tCmp, tB, tAnd, tOr, tNot, tIf, tAsg, gName, tCall, tCons, tNil, rI0, rI, rU, tAdd, tSub, tMul, tCB, tAug, ipI, L2.start, List.map_cons, List.map_nil, List.cons_append, List.nil_append, List.append_nil, List.length_cons, List.length_nil, Nat.reduceSub, Nat.reduceAdd, List.replicate_succ, List.replicate_zero, List.replicate, List.set_cons_zero, List.set_cons_succ, List.getElem?_cons_zero, List.getElem?_cons_succ, Option.some.injEq, V.int.injEq, V.bl.injEq, V.ref.injEq, List.cons.injEq, and_true, true_and, exists_eq_left', exists_eq_left, exists_eq_right, exists_and_left, exists_and_right, exists_eq']
  refine ⟨by decide, fun d hd => ?_⟩
  refine tfor_list (K := K) (a := a) (xs := xs.map V.int) (fun i σ H' => ∃ (v : Option V), σ = [some (.ref a), some (.ref d), v] ∧ Same H H' ∧ IL H' d ((xs.take i).foldl dStep [0])) _
    (fun R r => ⟨_, rfl, a, rfl, ⟨_, (ha.same (Same.new hd)).seq⟩, r⟩) ⟨none, rfl, Same.new hd, by show upd _ d _ d = _; rw [upd_same]; rfl⟩ (fun i σ H' _ ⟨v, _, s1, _⟩ => (ha.same s1).seq) ?_ ?_
  · rintro i y σ H' hi ⟨v, rfl, s1, hd'⟩
    obtain ⟨z, hz, rfl⟩ := map_at hi
    have ef : (xs.take (i + 1)).foldl dStep [0] = dStep ((xs.take i).foldl dStep [0]) z := by rw [take_snoc hz, List.foldl_append]; rfl
    have hl := dfold_len (xs.take i) [0]
    have hl2 : (signsI (xs.take i)).length ≤ 5000 := by
      have h1 := signsI_len (xs.take i)
      rw [List.length_take] at h1
      omega
    have hsz : sizeLine = 16777216 := by decide
    generalize hst : (xs.take i).foldl dStep [0] = st at hd' ef hl
    simp only [List.length_cons, List.length_nil] at hl
    simp only [and_assoc, rIxL, rIxT, tSl, tPart, tNoPart, gSub, rSetL, rSum, rAll, rCat, rRep, List.length_map, cxK, wipe, tYes,  tLst, tTup, tBM, rAppend, tChain, tTest, tRet, tRetN, tDrop, tSeq, tNext, tIfS, tOrV, tAndV, tNotV, tOp, tUn, tVar, tC, t2I, tCmp, tB, tAnd, tOr, tNot, tIf, tAsg, gName, tCall, tCons, tNil, rI0, rI, rU, tAdd, tSub, tMul, tCB, tAug, ipI, L2.start, List.map_cons, List.map_nil, List.cons_append, List.nil_append, List.append_nil, List.length_cons, List.length_nil, Nat.reduceSub, Nat.reduceAdd, List.replicate_succ, List.replicate_zero, List.replicate, List.set_cons_zero, List.set_cons_succ, List.getElem?_cons_zero, List.getElem?_cons_succ, Option.some.injEq, V.int.injEq, V.bl.injEq, V.ref.injEq, List.cons.injEq, and_true, true_and, exists_eq_left', exists_eq_left, exists_eq_right, exists_and_left, exists_and_right, exists_eq', spB]
    refine ite2 (fun q => ?_) (fun q => ?_)
    · refine ⟨_, .inl hd'.seq, ?_⟩
      refine ⟨_, hd', st.length - 1, ixN_ok (by rw [List.length_map]; omega) (by rw [List.length_map]; omega), s1.put hd, ?_⟩
      show upd _ d _ d = _
      rw [upd_same, map_set_int, ef]
      unfold dStep
      rw [if_pos q]
    · refine ⟨tyL hd', _, hd', by rw [List.length_map]; omega, s1.put hd, ?_⟩
      show upd _ d _ d = _
      rw [upd_same, ef, map_snoc]
      unfold dStep
      rw [if_neg q]
  · rintro σ H' ⟨v, rfl, s1, hd'⟩
    rw [List.length_map, List.take_length] at hd'
    simp only [and_assoc, rIxL, rIxT, tSl, tPart, tNoPart, gSub, rSetL, rSum, rAll, rCat, rRep, List.length_map, cxK, wipe, tYes,  tLst, tTup, tBM, rAppend, tChain, tTest, tRet, tRetN, tDrop, tSeq, tNext, tIfS, tOrV, tAndV, tNotV, tOp, tUn, tVar, tC, t2I, tCmp, tB, tAnd, tOr, tNot, tIf, tAsg, gName, tCall, tCons, tNil, rI0, rI, rU, tAdd, tSub, tMul, tCB, tAug, ipI, L2.start, List.map_cons, List.map_nil, List.cons_append, List.nil_append, List.append_nil, List.length_cons, List.length_nil, Nat.reduceSub, Nat.reduceAdd, List.replicate_succ, List.replicate_zero, List.replicate, List.set_cons_zero, List.set_cons_succ, List.getElem?_cons_zero, List.getElem?_cons_succ, Option.some.injEq, V.int.injEq, V.bl.injEq, V.ref.injEq, List.cons.injEq, and_true, true_and, exists_eq_left', exists_eq_left, exists_eq_right, exists_and_left, exists_and_right, exists_eq']
    exact k H' d s1 hd hd'
end
end Pd
namespace Pd
open PySem PySem.Spec PyProof.Rows L2
section
variable {P : Program} {w : World} {K : PySem.W.Frag} {mg : Str → Option Value} {base : Heap}
theorem sIx_nat {n d f : Nat} (z : Int) (e : z = (f : Int)) (h : f ≤ n) : HT.sIx n d (some z) = f := by
  subst e
  rw [HT.sIx_nat]
  omega
theorem cutV_nat (xs : List V) (y z : Int) {f e : Nat} (hy : y = (f : Int)) (hz : z = (e : Int)) (h1 : f ≤ xs.length) (h2 : e ≤ xs.length) : cutV xs (some y) (some z) = (xs.drop f).take (e - f) := by
  unfold cutV
  rw [sIx_nat y hy h1, sIx_nat z hz h2]
theorem map_cut (xs : List Int) (f n : Nat) : ((xs.map V.int).drop f).take n = ((xs.drop f).take n).map V.int := by
  rw [List.map_take, List.map_drop]
/-- t[f:e] of a tuple of ints -/
theorem slTA_ints {H : Hp} {a : Addr} {xs : List Int} {Q : VK} {y z : Int} {f e : Nat} (ha : IT H a xs) (hy : y = (f : Int)) (hz : z = (e : Int)) (h1 : f ≤ xs.length) (h2 : e ≤ xs.length)
    (k : ∀ (H' : Hp) (p : Addr), Same H H' → IT H' p ((xs.drop f).take (e - f)) → Q (.ref p) H') : rSlTA K (.ref a) (some y) (some z) H Q := by
  have hl : (xs.map V.int).length = xs.length := List.length_map ..
  refine ⟨a, _, rfl, ha.seq, fun q => ?_, fun q p hp => ?_⟩
  · rw [sIx_nat y hy (by omega), sIx_nat z hz (by omega)] at q
    refine k H a (Same.refl _) ?_
    have e1 : f = 0 := q.1
    have e2 : e = xs.length := by rw [← hl]; exact q.2
    subst e1 e2
    rw [List.drop_zero, Nat.sub_zero, List.take_length]
    exact ha
  · refine k _ p (Same.new hp) ?_
    show upd _ p _ p = _
    rw [upd_same, cutV_nat _ y z hy hz (by omega) (by omega), map_cut]
/-- a def of a tuple of ints that gives a tuple of ints -/
def spTT (f : List Int → List Int) : Sp := fun vs H Q _ => ∃ (a : Addr) (xs : List Int), vs = [.ref a] ∧ IT H a xs ∧ xs.length ≤ 5000 ∧ ∀ (H' : Hp) (p : Addr), Same H H' → IT H' p (f xs) → Q (.ref p) H'
theorem sc_dots : FnScope ["signs", "first", "end"] ["signs"] (defScope (top 42)) := ⟨rfl, rfl, rfl, by decide +kernel, rfl, by decide +kernel, by decide +kernel⟩
theorem ok_dots (G : Gs mg) (D : Df K mg "without_end_dots" (top 42) ["signs"]) : COk P w K mg base 1 "without_end_dots" ["signs"] (spTT innerI) := by
  refine D.ok sc_dots (fun vs H Q E h => ?_) (fun f cdv A outer s H vs Q E hr h => ?_)
  · obtain ⟨a, xs, rfl, _⟩ := h
    rfl
  obtain ⟨a, xs, rfl, ha, hlen, k⟩ := h
  refine ⟨_, pss_cons (ps_set (i := 1) sc_dots.nd rfl (Or.inl rfl) pe_int) (pss_cons (ps_set (i := 2) sc_dots.nd rfl (Or.inl rfl) (plen G.len (pv 0)))
    (pss_cons (ps_if (pw_and (pt_cmp (pc_lt (pv 1) (pv 2))) (pw_and1 (pt_cmp (pc_eqI (pe_ix ix_tup (pv 0) (pv 1) (fun _ _ => rfl)) (pgi G.DOT))))).pt (pss_one (ps_aug (i := 1) sc_dots.nd rfl (Or.inl rfl) pe_int ip_add)) pss_nil)
    (pss_cons (ps_if (pw_and (pt_cmp (pc_lt (pv 1) (pv 2))) (pw_and1 (pt_cmp (pc_eqI (pe_ix ix_tup (pv 0) (pe_sub (pv 2) pe_int) (fun _ _ => rfl)) (pgi G.DOT))))).pt (pss_one (ps_aug (i := 2) sc_dots.nd rfl (Or.inl rfl) pe_int ip_sub)) pss_nil)
    (pss_one (ps_ret (pe_slice sl_tupA (pv 0) (po_some (pv 1)) (po_some (pv 2)))))))), ?_⟩
  have step2 : ∀ (f : Nat) (y : Int), y = (f : Int) → f ≤ xs.length → f = (if 0 < xs.length ∧ xs.getD 0 0 = 46 then 1 else 0) →
      (if decide (y < (xs.length : Int)) = true then ∃ x, SqT K H a x ∧ ∃ v, atI x ((xs.length : Int) - 1) = some v ∧ ∃ z, v = V.int z ∧ if decide (z = 46) = true then rSlTA K (.ref a) (some y) (some ((xs.length : Int) - 1)) H Q else rSlTA K (.ref a) (some y) (some (xs.length : Int)) H Q
        else rSlTA K (.ref a) (some y) (some (xs.length : Int)) H Q) := fun f y hy hf ef => by
    have kk : ∀ e : Nat, e = (if f < xs.length ∧ xs.getD (xs.length - 1) 0 = 46 then xs.length - 1 else xs.length) → ∀ (H' : Hp) (p : Addr), Same H H' → IT H' p ((xs.drop f).take (e - f)) → Q (.ref p) H' := fun e he H' p s1 h1 => by
      refine k H' p s1 ?_
      unfold innerI
      simp only
      rw [← ef, ← he]
      exact h1
    refine ite2 (fun q => ?_) (fun q => ?_)
    · have q : y < (xs.length : Int) := of_decide_eq_true q
      refine ⟨_, ha.seq, _, atI_ints (i := xs.length - 1) (by omega) (by omega), _, rfl, ?_⟩
      refine ite2 (fun q2 => ?_) (fun q2 => ?_)
      · have q2 := of_decide_eq_true q2
        exact slTA_ints ha hy (e := xs.length - 1) (by omega) hf (by omega) (kk _ (by rw [if_pos ⟨by omega, q2⟩]))
      · have q2 : ¬ xs.getD (xs.length - 1) 0 = 46 := fun z => q2 (decide_eq_true z)
        exact slTA_ints ha hy (e := xs.length) rfl hf (Nat.le_refl _) (kk _ (by rw [if_neg fun z => q2 z.2]))
    · have q : ¬ y < (xs.length : Int) := fun z => q (decide_eq_true z)
      exact slTA_ints ha hy (e := xs.length) rfl hf (Nat.le_refl _) (kk _ (by rw [if_neg fun z => q (by omega)]))
  simp only [and_assoc, rIxL, rIxT, tSl, tPart, tNoPart, gSub, rSetL, rSum, rAll, rCat, rRep, List.length_map, cxK, wipe, tYes,  tLst, tTup, tBM, rAppend, tChain, tTest, tRet, tRetN, tDrop, tSeq, tNext, tIfS, tOrV, tAndV, tNotV, tOp, tUn, tVar, tC, t2I, tCmp, tB, tAnd, tOr, tNot, tIf, tAsg, gName, tCall, tCons, tNil, rI0, rI, rU, tAdd, tSub, tMul, tCB, tAug, ipI, L2.start, List.map_cons, List.map_nil, List.cons_append, List.nil_append, List.append_nil, List.length_cons, List.length_nil, Nat.reduceSub, Nat.reduceAdd, List.replicate_succ, List.replicate_zero, List.replicate, List.set_cons_zero, List.set_cons_succ, List.getElem?_cons_zero, List.getElem?_cons_succ, Option.some.injEq, V.int.injEq, V.bl.injEq, V.ref.injEq, List.cons.injEq, and_true, true_and, exists_eq_left', exists_eq_left, exists_eq_right, exists_and_left, exists_and_right, exists_eq']
  refine ⟨_, .inr ha.seq, ?_⟩
  rw [List.length_map]
  refine ite2 (fun q => ?_) (fun q => ?_)
  · have q : (0 : Int) < (xs.length : Int) := of_decide_eq_true q
    refine ⟨_, ha.seq, _, atI_ints (i := 0) rfl (by omega), _, rfl, ?_⟩
    refine ite2 (fun q2 => ?_) (fun q2 => ?_)
    · have q2 := of_decide_eq_true q2
      exact step2 1 _ rfl (by omega) (by rw [if_pos ⟨by omega, q2⟩])
    · have q2 : ¬ xs.getD 0 0 = 46 := fun z => q2 (decide_eq_true z)
      exact step2 0 _ rfl (by omega) (by rw [if_neg fun z => q2 z.2])
  · have q : ¬ (0 : Int) < (xs.length : Int) := fun z => q (decide_eq_true z)
    exact iteF (step2 0 _ rfl (by omega) (by rw [if_neg fun z => q (by omega)]))
end
end Pd
namespace Pd
open PySem PySem.Spec PyProof.Rows L2
theorem bAll : bootBuiltins "all" = some (.builtin "all") := by decide +kernel
theorem iteTr {A B : Prop} (h : A) : if True then A else B := by
  rw [if_pos trivial]
  exact h
/-- [e for x in a list], e by the item's place; the heap may grow -/
theorem tlc_grow {K : PySem.W.Frag} {wi : TI} {g : TG} {te : TE} {vs : List Nat} {σ : L2.St} {H : Hp} {Q : VK} {a : Addr} {xs : List V} (H1 : Hp) (fe : Nat → V) (hw : ∀ R : It → Hp → Prop, R (Itl K a) H1 → wi σ H R) (ha : SqL K H1 a xs) (hlen : xs.length < sizeLine)
    (hs : ∀ i x H' (Rt : V → Hp → Prop), xs[i]? = some x → Same H1 H' → (∀ H'', Same H' H'' → Rt (fe i) H'') → g x (wipe σ vs) H' fun σ2 H2 => wipe σ2 vs = wipe σ vs ∧ te σ2 H2 Rt)
    (hd : ∀ D H', H1 D = none → Same H1 H' → H' D = some (.lst ((List.range xs.length).map fe)) → Q (.ref D) H') (hg : ∀ x σ H Q Q', (∀ σ2 H2, Q σ2 H2 → Q' σ2 H2) → g x σ H Q → g x σ H Q') : tLc wi g tYes te vs σ H Q := by
  refine hw _ fun D hD => lc_list (xs := xs) (fun i H' => Same H1 H' ∧ H' D = some (.lst ((List.range i).map fe)) ∧ i ≤ xs.length) ⟨Same.new hD, upd_same, Nat.zero_le _⟩ (fun i H' _ e => e.1.seq ha) (fun i x H' hi e => ?_) (fun H' e => hd D H' hD e.1 e.2.1)
  have hlt : i < xs.length := (List.getElem?_eq_some_iff.mp hi).1
  have h := hs i x H' (fun y H4 => ∃ acc, H4 D = some (.lst acc) ∧ acc.length < sizeLine ∧ Same H1 (upd H4 D (.lst (acc ++ [y]))) ∧ upd H4 D (.lst (acc ++ [y])) D = some (.lst ((List.range (i + 1)).map fe)) ∧ i + 1 ≤ xs.length) hi e.1 fun H'' s1 => by
    refine ⟨_, s1 _ _ e.2.1, by rw [List.length_map, List.length_range]; omega, (e.1.trans s1).put hD, ?_, hlt⟩
    rw [upd_same, List.range_succ, List.map_append]
    rfl
  refine hg _ _ _ _ _ (fun σ2 H2 q => ⟨q.1, ?_⟩) h
  unfold tYes
  exact (if_pos rfl : (if true = true then _ else _) = _).mpr q.2
section
variable {P : Program} {w : World} {K : PySem.W.Frag} {mg : Str → Option Value} {base : Heap}
theorem sc_pat : FnScope ["word", "signs", "inner", "sign"] ["word"] (defScope (top 43)) := ⟨rfl, rfl, rfl, by decide +kernel, rfl, by decide +kernel, by decide +kernel⟩
theorem ok_pat (G : Gs mg) (D : Df K mg "is_pattern" (top 43) ["word"]) (C1 : COk P w K mg base 2 "signs_of" ["word"] spSigns) (C2 : COk P w K mg base 2 "has_two_digits_in_a_row" ["word"] (spBL twoDig))
    (C3 : COk P w K mg base 1 "without_end_dots" ["signs"] (spTT innerI)) (C4 : COk P w K mg base 1 "is_small" ["byte"] (spB isSmall)) : COk P w K mg base 3 "is_pattern" ["word"] (spBL patI) := by
  refine D.ok sc_pat len1L (fun f cdv A outer s H vs Q E hr h => ?_)
  have hr1 : Room 1 _ := hr.mono (by decide)
  obtain ⟨a, xs, rfl, ha, hlen, k⟩ := h
  refine ⟨_, pss_cons (ps_set (i := 1) sc_pat.nd rfl (Or.inl rfl) (pcall C1 hr (pa_cons (pv 0) pa_nil)))
    (pss_cons (ps_if (pw_or (pt_cmp (pc_gt (plen G.len (pv 1)) (pgi G.MOST_SIGNS))) (pw_or1 (pt_val (pcall C2 hr (pa_cons (pv 0) pa_nil))))).pt (pss_one (ps_ret pe_bl)) pss_nil)
    (pss_cons (ps_set (i := 2) sc_pat.nd rfl (Or.inl rfl) (pcall C3 hr1 (pa_cons (pv 1) pa_nil)))
    (pss_one (ps_ret (pe_and (pe_cmp (pc_gt (plen G.len (pv 2)) pe_int)) (pe_one (pe_callB (cr_all rfl) rfl G.all bAll (pa_cons (pe_lc (own := [("sign", 3)]) rfl sc_pat.nd (pi_tup (pv 2)) (blkOk_by (show blkC ["word", "signs", "inner", "sign"] (defScope (top 43)) _ _ = true by decide +kernel))
      (fun s H C cl fp => pg_name (i := 3) sc_pat.nd rfl (Or.inl rfl)) (fun s H C cl fp => pts_nil) (fun s H C cl fp => pcall C4 hr1 (pa_cons (pv 3) pa_nil))) pa_nil)))))))), ?_⟩
  simp only [and_assoc, rIxL, rIxT, tSl, tPart, tNoPart, gSub, rSetL, rSum, rAll, rCat, rRep, List.length_map, cxK, wipe, tYes,  tLst, tTup, tBM, rAppend, tChain, tTest, tRet, tRetN, tDrop, tSeq, tNext, tIfS, tOrV, tAndV, tNotV, tOp, tUn, tVar, tC, t2I, tCmp, tB, tAnd, tOr, tNot, tIf, tAsg, gName, tCall, tCons, tNil, rI0, rI, rU, tAdd, tSub, tMul, tCB, tAug, ipI, L2.start, List.map_cons, List.map_nil, List.cons_append, List.nil_append, List.append_nil, List.length_cons, List.length_nil, Nat.reduceSub, Nat.reduceAdd, List.replicate_succ, List.replicate_zero, List.replicate, List.set_cons_zero, List.set_cons_succ, List.getElem?_cons_zero, List.getElem?_cons_succ, Option.some.injEq, V.int.injEq, V.bl.injEq, V.ref.injEq, List.cons.injEq, and_true, true_and, exists_eq_left', exists_eq_left, exists_eq_right, exists_and_left, exists_and_right, exists_eq']
  refine ⟨a, xs, rfl, ha, hlen, fun H1 p1 s1 n1 h1 => ?_⟩
  refine ⟨p1, rfl, _, .inr h1.seq, ?_⟩
  rw [List.length_map]
  have hsl := signsI_len xs
  have hil := innerI_len (signsI xs)
  unfold patI at k
  refine ite2 (fun q => ?_) (fun q => ?_)
  · have k2 := k H1 s1
    have q : 32 < (signsI xs).length := by have := of_decide_eq_true q; omega
    rw [decide_eq_true q] at k2
    exact iteTr k2
  · have q : ¬ 32 < (signsI xs).length := fun z => q (decide_eq_true (by omega))
    rw [decide_eq_false q] at k
    refine ⟨a, xs, rfl, ha.same s1, hlen, fun H2 s2 => ⟨_, rfl, ?_⟩⟩
    refine ite2 (fun q2 => ?_) (fun q2 => ?_)
    · rw [q2] at k
      exact k H2 (s1.trans s2)
    · rw [Bool.eq_false_iff.mpr q2] at k
      refine ⟨p1, signsI xs, rfl, h1.same s2, by omega, fun H3 p3 s3 h3 => ?_⟩
      refine ⟨p3, rfl, _, .inr h3.seq, ?_⟩
      rw [List.length_map]
      have hd0 : decide ((0 : Int) < ((innerI (signsI xs)).length : Int)) = decide (0 < (innerI (signsI xs)).length) := by
        rw [decide_eq_decide]
        omega
      rw [hd0]
      have k3 : ∀ H', Same H3 H' → Q (.bl (decide (0 < (innerI (signsI xs)).length) && (innerI (signsI xs)).all isSmall)) H' := fun H' s' => k H' ((s1.trans s2).trans (s3.trans s'))
      refine ite2 (fun q3 => ?_) (fun q3 => ?_)
      · rw [q3] at k3
        refine tlc_pureT (K := K) (a := p3) (xs := (innerI (signsI xs)).map V.int) H3 (fun _ => true) (fun v => .bl (isSmall (vInt v))) (fun R r => ⟨_, rfl, p3, rfl, ⟨_, h3.seq⟩, r⟩) h3.seq (by rw [List.length_map]; exact Nat.lt_of_le_of_lt (show _ ≤ 5000 by omega) (by decide)) (fun x H' Rf Rt hx s' ht hf => ?_) (fun D hD => ?_)
        · obtain ⟨z, hz, rfl⟩ := List.mem_map.mp hx
          simp only [and_assoc, rIxL, rIxT, tSl, tPart, tNoPart, gSub, rSetL, rSum, rAll, rCat, rRep, List.length_map, cxK, wipe, tYes,  tLst, tTup, tBM, rAppend, tChain, tTest, tRet, tRetN, tDrop, tSeq, tNext, tIfS, tOrV, tAndV, tNotV, tOp, tUn, tVar, tC, t2I, tCmp, tB, tAnd, tOr, tNot, tIf, tAsg, gName, tCall, tCons, tNil, rI0, rI, rU, tAdd, tSub, tMul, tCB, tAug, ipI, L2.start, List.map_cons, List.map_nil, List.cons_append, List.nil_append, List.append_nil, List.length_cons, List.length_nil, Nat.reduceSub, Nat.reduceAdd, List.replicate_succ, List.replicate_zero, List.replicate, List.set_cons_zero, List.set_cons_succ, List.getElem?_cons_zero, List.getElem?_cons_succ, Option.some.injEq, V.int.injEq, V.bl.injEq, V.ref.injEq, List.cons.injEq, and_true, true_and, exists_eq_left', exists_eq_left, exists_eq_right, exists_and_left, exists_and_right, exists_eq', spB]
          exact iteTr (ht rfl)
        · refine ⟨D, rfl, (innerI (signsI xs)).map isSmall, SqL.of ?_, ?_⟩
          · rw [upd_same, filter_ints _ (fun z => true) _ (fun z => .bl (isSmall z)) (fun z => rfl) (fun z => rfl), List.filter_eq_self.mpr (fun _ _ => rfl), List.map_map]
            rfl
          · rw [List.all_map]
            exact k3 _ (Same.new hD)
      · rw [Bool.eq_false_iff.mpr q3] at k3
        exact k3 H3 (Same.refl _)
theorem sc_text : FnScope ["text", "words", "word"] ["text"] (defScope (top 44)) := ⟨rfl, rfl, rfl, by decide +kernel, rfl, by decide +kernel, by decide +kernel⟩
theorem range_all {α : Type} (l : List α) (f : α → Bool) (fe : Nat → Bool) (h : ∀ i x, l[i]? = some x → fe i = f x) : ((List.range l.length).map fe).all id = l.all f := by
  rw [List.all_map, Bool.eq_iff_iff, List.all_eq_true, List.all_eq_true]
  constructor
  · intro q x hx
    obtain ⟨i, hi⟩ := List.getElem?_of_mem hx
    have hlt : i < l.length := (List.getElem?_eq_some_iff.mp hi).1
    have := q i (List.mem_range.mpr hlt)
    rw [← h i x hi]
    exact this
  · intro q i hi
    have hlt := List.mem_range.mp hi
    have e := List.getElem?_eq_getElem hlt
    show fe i = true
    rw [h i _ e]
    exact q _ (List.getElem_mem hlt)
theorem ok_text (G : Gs mg) (D : Df K mg "is_text_of_patterns" (top 44) ["text"]) (C1 : COk P w K mg base 2 "words_of" ["text"] spWords) (C2 : COk P w K mg base 3 "is_pattern" ["word"] (spBL patI)) : COk P w K mg base 4 "is_text_of_patterns" ["text"] (spBL textI) := by
  refine D.ok sc_text len1L (fun f cdv A outer s H vs Q E hr h => ?_)
  have hr2 : Room 2 _ := hr.mono (by decide)
  obtain ⟨a, xs, rfl, ha, hlen, k⟩ := h
  refine ⟨_, pss_cons (ps_if (pt_cmp (pc_gt (plen G.len (pv 0)) (pgi G.MOST_BYTES))) (pss_one (ps_ret pe_bl)) pss_nil)
    (pss_cons (ps_set (i := 1) sc_text.nd rfl (Or.inl rfl) (pcall C1 hr2 (pa_cons (pv 0) pa_nil)))
    (pss_one (ps_ret (pe_and (pe_cmp (pc_le (plen G.len (pv 1)) (pgi G.MOST_WORDS))) (pe_one (pe_callB (cr_all rfl) rfl G.all bAll (pa_cons (pe_lc (own := [("word", 2)]) rfl sc_text.nd (pi_list (pv 1)) (blkOk_by (show blkC ["text", "words", "word"] (defScope (top 44)) _ _ = true by decide +kernel))
      (fun s H C cl fp => pg_name (i := 2) sc_text.nd rfl (Or.inl rfl)) (fun s H C cl fp => pts_nil) (fun s H C cl fp => pcall C2 hr (pa_cons (pv 2) pa_nil))) pa_nil))))))), ?_⟩
  simp only [and_assoc, rIxL, rIxT, tSl, tPart, tNoPart, gSub, rSetL, rSum, rAll, rCat, rRep, List.length_map, cxK, wipe, tYes,  tLst, tTup, tBM, rAppend, tChain, tTest, tRet, tRetN, tDrop, tSeq, tNext, tIfS, tOrV, tAndV, tNotV, tOp, tUn, tVar, tC, t2I, tCmp, tB, tAnd, tOr, tNot, tIf, tAsg, gName, tCall, tCons, tNil, rI0, rI, rU, tAdd, tSub, tMul, tCB, tAug, ipI, L2.start, List.map_cons, List.map_nil, List.cons_append, List.nil_append, List.append_nil, List.length_cons, List.length_nil, Nat.reduceSub, Nat.reduceAdd, List.replicate_succ, List.replicate_zero, List.replicate, List.set_cons_zero, List.set_cons_succ, List.getElem?_cons_zero, List.getElem?_cons_succ, Option.some.injEq, V.int.injEq, V.bl.injEq, V.ref.injEq, List.cons.injEq, and_true, true_and, exists_eq_left', exists_eq_left, exists_eq_right, exists_and_left, exists_and_right, exists_eq']
  refine ⟨_, .inl ha.seq, ?_⟩
  rw [List.length_map]
  unfold textI at k
  rw [decide_eq_true (show xs.length ≤ 262144 by omega)] at k
  refine ite2 (fun q => ?_) (fun q => ?_)
  · have := of_decide_eq_true q
    omega
  · refine ⟨a, xs, rfl, ha, hlen, fun H1 p1 s1 n1 h1 => ?_⟩
    obtain ⟨as, h1, hl1, h1i⟩ := h1
    refine ⟨p1, rfl, _, .inl (SqL.of h1), ?_⟩
    rw [List.length_map, hl1]
    have hd0 : decide (((wordsI xs).length : Int) ≤ 4096) = decide ((wordsI xs).length ≤ 4096) := by
      rw [decide_eq_decide]
      omega
    rw [hd0]
    have hwl := wordsI_len xs
    refine ite2 (fun q2 => ?_) (fun q2 => ?_)
    · rw [q2] at k
      refine tlc_grow (K := K) (a := p1) (xs := as.map V.ref) H1 (fun i => .bl (patI ((wordsI xs).getD i []))) (fun R r => ⟨_, rfl, p1, rfl, ⟨_, SqL.of h1⟩, r⟩) (SqL.of h1) (by rw [List.length_map, hl1]; exact Nat.lt_of_le_of_lt (show _ ≤ 5001 by omega) (by decide))
        (fun i x H' Rt hi s' ht => ?_) (fun D H' hD s' hD' => ?_) (fun x σ H Q Q' h q => h _ _ q)
      · obtain ⟨b, hb, rfl⟩ := map_at hi
        obtain ⟨ws, e1, e2⟩ := h1i i b hb
        simp only [and_assoc, rIxL, rIxT, tSl, tPart, tNoPart, gSub, rSetL, rSum, rAll, rCat, rRep, List.length_map, cxK, wipe, tYes,  tLst, tTup, tBM, rAppend, tChain, tTest, tRet, tRetN, tDrop, tSeq, tNext, tIfS, tOrV, tAndV, tNotV, tOp, tUn, tVar, tC, t2I, tCmp, tB, tAnd, tOr, tNot, tIf, tAsg, gName, tCall, tCons, tNil, rI0, rI, rU, tAdd, tSub, tMul, tCB, tAug, ipI, L2.start, List.map_cons, List.map_nil, List.cons_append, List.nil_append, List.append_nil, List.length_cons, List.length_nil, Nat.reduceSub, Nat.reduceAdd, List.replicate_succ, List.replicate_zero, List.replicate, List.set_cons_zero, List.set_cons_succ, List.getElem?_cons_zero, List.getElem?_cons_succ, Option.some.injEq, V.int.injEq, V.bl.injEq, V.ref.injEq, List.cons.injEq, and_true, true_and, exists_eq_left', exists_eq_left, exists_eq_right, exists_and_left, exists_and_right, exists_eq']
        have hm := wordsI_mem xs ws (List.mem_of_getElem? e1)
        refine ⟨b, ws, rfl, e2.same s', by omega, fun H'' s'' => ?_⟩
        have e3 : (wordsI xs).getD i [] = ws := by rw [List.getD_eq_getElem?_getD, e1]; rfl
        have := ht H'' s''
        rw [e3] at this
        exact this
      · refine ⟨D, rfl, (List.range (wordsI xs).length).map fun i => patI ((wordsI xs).getD i []), SqL.of ?_, ?_⟩
        · rw [hD', List.length_map, hl1, List.map_map]
          rfl
        · rw [range_all (wordsI xs) patI _ (fun i x hi => by rw [List.getD_eq_getElem?_getD, hi]; rfl)]
          exact k _ (s1.trans s')
    · rw [Bool.eq_false_iff.mpr q2] at k
      exact k H1 s1
end
end Pd
namespace Pd
open PySem PySem.Spec PyProof.Rows L2
/-- for (k, x) in enumerate(a list) -/
theorem tfor_enum {K : PySem.W.Frag} {wi : TI} {g : TG} {tb : TS} {D : Ends} {σ : L2.St} {H : Hp} {a : Addr} {xs : List V} (Pv : Nat → L2.St → Hp → Prop) (H1 : Hp) (hw : ∀ R : It → Hp → Prop, R (Ite K a) H1 → wi σ H R) (h0 : Pv 0 σ H1) (hl : ∀ i σ H, i ≤ xs.length → Pv i σ H → SqL K H a xs)
    (hs : ∀ i x σ H T, xs[i]? = some x → Pv i σ H → H T = none → g (.ref T) σ (upd H T (.tup [.int (i : Nat), x])) fun σ2 H2 => tb { D with nx := Pv (i + 1), ct := Pv (i + 1), bk := D.nx } σ2 H2) (hd : ∀ σ H, Pv xs.length σ H → D.nx σ H) :
    tFor wi g tb D σ H := by
  refine hw _ ⟨fun i m σ H => m = xs.length - i ∧ i ≤ xs.length ∧ Pv i σ H, ⟨xs.length, by simp, Nat.zero_le _, h0⟩, ?_⟩
  rintro i m σ H ⟨rfl, hi, p⟩
  have q := hl i σ H hi p
  by_cases hlt : i < xs.length
  · refine .inr ⟨⟨xs, xs[i], q, by simp [hlt]⟩, Pv (i + 1), fun σ' H' p' => ⟨xs.length - (i + 1), by omega, rfl, hlt, p'⟩, fun x H' y => ?_⟩
    obtain ⟨T, x', e1, hT, e2, y⟩ := y
    subst e1 e2
    exact hs i x' σ _ T (y xs q) p hT
  · have e : i = xs.length := by omega
    subst e
    exact .inl ⟨⟨xs, q, Nat.le_refl _⟩, hd σ H p⟩
/-- for x, y in zip(a list, a list as long) -/
theorem for_zip {K : PySem.W.Frag} {g : TG} {tb : TS} {D : Ends} {σ : L2.St} {H1 : Hp} {a b : Addr} {xs ys : List V} (hlen : ys.length = xs.length) (Pv : Nat → L2.St → Hp → Prop) (h0 : Pv 0 σ H1)
    (hl : ∀ i σ H, i ≤ xs.length → Pv i σ H → SqL K H a xs ∧ SqL K H b ys)
    (hs : ∀ i x y σ H T, xs[i]? = some x → ys[i]? = some y → Pv i σ H → H T = none → g (.ref T) σ (upd H T (.tup [x, y])) fun σ2 H2 => tb { D with nx := Pv (i + 1), ct := Pv (i + 1), bk := D.nx } σ2 H2) (hd : ∀ σ H, Pv xs.length σ H → D.nx σ H) :
    ∃ W : Nat → Nat → L2.St → Hp → Prop, (∃ m, W 0 m σ H1) ∧ ∀ i m σ H, W i m σ H →
      ((Itz K a b).stop i H ∧ D.nx σ H) ∨ ((Itz K a b).go i H ∧ ∃ N : L2.St → Hp → Prop, (∀ σ' H', N σ' H' → ∃ m', m' < m ∧ W (i + 1) m' σ' H') ∧ ∀ x H', (Itz K a b).yld i H x H' → g x σ H' fun σ2 H2 => tb { D with nx := N, ct := N, bk := D.nx } σ2 H2) := by
  refine ⟨fun i m σ H => m = xs.length - i ∧ i ≤ xs.length ∧ Pv i σ H, ⟨xs.length, by simp, Nat.zero_le _, h0⟩, ?_⟩
  rintro i m σ H ⟨rfl, hi, p⟩
  obtain ⟨q, q'⟩ := hl i σ H hi p
  by_cases hlt : i < xs.length
  · have hlt' : i < ys.length := by omega
    refine .inr ⟨⟨xs, ys, xs[i], ys[i], q, q', by simp [hlt], by simp [hlt']⟩, Pv (i + 1), fun σ' H' p' => ⟨xs.length - (i + 1), by omega, rfl, hlt, p'⟩, fun x H' y => ?_⟩
    obtain ⟨T, x', y', e1, hT, e2, y1, y2⟩ := y
    subst e1 e2
    exact hs i x' y' σ _ T (y1 xs q) (y2 ys q') p hT
  · have e : i = xs.length := by omega
    subst e
    exact .inl ⟨⟨xs, ys, q, q', .inl (Nat.le_refl _)⟩, hd σ H p⟩
section
variable {P : Program} {w : World} {K : PySem.W.Frag} {mg : Str → Option Value} {base : Heap}
/-- raise_digits(greatest, start, digits): greatest is raised in its place -/
def spRaise : Sp := fun vs H Q _ => ∃ (a b : Addr) (st : Nat) (gr ds : List Int), vs = [.ref a, .int (st : Int), .ref b] ∧ IL H a gr ∧ IL H b ds ∧ a ≠ b ∧ st + ds.length ≤ gr.length ∧ gr.length ≤ 10000 ∧
  ∀ H' : Hp, (∀ c o, H c = some o → c ≠ a → H' c = some o) → IL H' a (raiseAt gr st ds) → Q .non H'
theorem sc_raise : FnScope ["greatest", "start", "digits", "k", "digit"] ["greatest", "start", "digits"] (defScope (top 45)) := ⟨rfl, rfl, rfl, by decide +kernel, rfl, by decide +kernel, by decide +kernel⟩
theorem ok_raise (G : Gs mg) (D : Df K mg "raise_digits" (top 45) ["greatest", "start", "digits"]) : COk P w K mg base 1 "raise_digits" ["greatest", "start", "digits"] spRaise := by
  refine D.ok sc_raise (fun vs H Q E h => ?_) (fun f cdv A outer s H vs Q E hr h => ?_)
  · obtain ⟨a, b, st, gr, ds, rfl, _⟩ := h
    rfl
  obtain ⟨a, b, st, gr, ds, rfl, ha, hb, hab, hst, hlen, k⟩ := h
  refine ⟨_, pss_one (ps_for PassesOwn.never rfl (pi_enum rfl G.enumerate (pa_cons (pv 2) pa_nil)) (pg_tup rfl (pgs_cons (pg_name (i := 3) sc_raise.nd rfl (Or.inl rfl)) (pgs_cons (pg_name (i := 4) sc_raise.nd rfl (Or.inl rfl)) pgs_nil)))
    (pss_one (ps_asg (pe_callB (call_max2 rfl) rfl G.max PyProof.Rows.boot_max (pa_cons (pe_ix ix_list (pv 0) (pe_add (pv 1) (pv 3)) (fun _ _ => rfl)) (pa_cons (pv 4) pa_nil))) (pg_sub (pv 0) (pe_add (pv 1) (pv 3)) set_list)))), ?_⟩
  simp only [and_assoc, rIxL, rIxT, tSl, tPart, tNoPart, gSub, rSetL, rSum, rAll, rCat, rRep, List.length_map, cxK, wipe, tYes,  tLst, tTup, tBM, rAppend, tChain, tTest, tRet, tRetN, tDrop, tSeq, tNext, tIfS, tOrV, tAndV, tNotV, tOp, tUn, tVar, tC, t2I, tCmp, tB, tAnd, tOr, tNot, tIf, tAsg, gName, tCall, tCons, tNil, rI0, rI, rU, tAdd, tSub, tMul, tCB, tAug, ipI, L2.start, List.map_cons, List.map_nil, List.cons_append, List.nil_append, List.append_nil, List.length_cons, List.length_nil, Nat.reduceSub, Nat.reduceAdd, List.replicate_succ, List.replicate_zero, List.replicate, List.set_cons_zero, List.set_cons_succ, List.getElem?_cons_zero, List.getElem?_cons_succ, Option.some.injEq, V.int.injEq, V.bl.injEq, V.ref.injEq, List.cons.injEq, and_true, true_and, exists_eq_left', exists_eq_left, exists_eq_right, exists_and_left, exists_and_right, exists_eq']
  refine tfor_enum (K := K) (a := b) (xs := ds.map V.int) (fun i σ H' => ∃ (v w : Option V), σ = [some (.ref a), some (.int (st : Int)), some (.ref b), v, w] ∧ (∀ c o, H c = some o → c ≠ a → H' c = some o) ∧ IL H' a (raiseAt gr st (ds.take i))) H
    (fun R r => by
      simp only [and_assoc, rIxL, rIxT, tSl, tPart, tNoPart, gSub, rSetL, rSum, rAll, rCat, rRep, List.length_map, cxK, wipe, tYes,  tLst, tTup, tBM, rAppend, tChain, tTest, tRet, tRetN, tDrop, tSeq, tNext, tIfS, tOrV, tAndV, tNotV, tOp, tUn, tVar, tC, t2I, tCmp, tB, tAnd, tOr, tNot, tIf, tAsg, gName, tCall, tCons, tNil, rI0, rI, rU, tAdd, tSub, tMul, tCB, tAug, ipI, L2.start, List.map_cons, List.map_nil, List.cons_append, List.nil_append, List.append_nil, List.length_cons, List.length_nil, Nat.reduceSub, Nat.reduceAdd, List.replicate_succ, List.replicate_zero, List.replicate, List.set_cons_zero, List.set_cons_succ, List.getElem?_cons_zero, List.getElem?_cons_succ, Option.some.injEq, V.int.injEq, V.bl.injEq, V.ref.injEq, List.cons.injEq, and_true, true_and, exists_eq_left', exists_eq_left, exists_eq_right, exists_and_left, exists_and_right, exists_eq', iEnum]
      exact ⟨⟨_, hb.seq⟩, r⟩) ⟨none, none, rfl, fun c o h _ => h, ha⟩ (fun i σ H' _ ⟨v, w, _, s1, _⟩ => SqL.of (s1 b _ hb (Ne.symm hab))) ?_ ?_
  · rintro i y σ H' T hi ⟨v, w, rfl, s1, hg⟩ hT
    obtain ⟨z, hz, rfl⟩ := map_at hi
    have hlt : i < ds.length := (List.getElem?_eq_some_iff.mp hz).1
    have hgl := raiseAt_len gr st (ds.take i)
    have hTa : a ≠ T := ne_of_none hg hT
    have hg' : IL (upd H' T (.tup [.int (i : Nat), .int z])) a (raiseAt gr st (ds.take i)) := by
      show upd _ T _ a = _
      rw [upd_ne hTa]
      exact hg
    simp only [and_assoc, rIxL, rIxT, tSl, tPart, tNoPart, gSub, rSetL, rSum, rAll, rCat, rRep, List.length_map, cxK, wipe, tYes,  tLst, tTup, tBM, rAppend, tChain, tTest, tRet, tRetN, tDrop, tSeq, tNext, tIfS, tOrV, tAndV, tNotV, tOp, tUn, tVar, tC, t2I, tCmp, tB, tAnd, tOr, tNot, tIf, tAsg, gName, tCall, tCons, tNil, rI0, rI, rU, tAdd, tSub, tMul, tCB, tAug, ipI, L2.start, List.map_cons, List.map_nil, List.cons_append, List.nil_append, List.append_nil, List.length_cons, List.length_nil, Nat.reduceSub, Nat.reduceAdd, List.replicate_succ, List.replicate_zero, List.replicate, List.set_cons_zero, List.set_cons_succ, List.getElem?_cons_zero, List.getElem?_cons_succ, Option.some.injEq, V.int.injEq, V.bl.injEq, V.ref.injEq, List.cons.injEq, and_true, true_and, exists_eq_left', exists_eq_left, exists_eq_right, exists_and_left, exists_and_right, exists_eq', gTup, gCons, gNil]
    refine ⟨_, SqT.of upd_same, rfl, ?_⟩
    refine ⟨_, _, rfl, _, _, rfl, rfl, _, rfl, _, hg'.seq, _, atI_ints (i := st + i) (by omega) (by omega), _, rfl, _, rfl, _, rfl, _, hg', st + i, ixN_ok (by omega) (by rw [List.length_map]; omega), fun c o hc hca => ?_, ?_⟩
    · rw [upd_ne hca, upd_ne (ne_of_none (s1 c o hc hca) hT)]
      exact s1 c o hc hca
    · show upd _ a _ a = _
      rw [upd_same, map_set_int, take_snoc hz, raiseAt_snoc, List.length_take, Nat.min_eq_left (by omega)]
      have e : (if z > (raiseAt gr st (List.take i ds)).getD (st + i) 0 then z else (raiseAt gr st (List.take i ds)).getD (st + i) 0) = max ((raiseAt gr st (List.take i ds)).getD (st + i) 0) z := by
        split <;> omega
      rw [e]
  · rintro σ H' ⟨v, w, rfl, s1, hg⟩
    rw [List.length_map, List.take_length] at hg
    exact k H' s1 hg
end
end Pd
namespace Pd
open PySem PySem.Spec PyProof.Rows L2
/-! ### a cut between two statements -/
def tMid (t : TS) : TS := fun D σ H => ∃ Mid : L2.St → Hp → Prop, t { D with nx := Mid } σ H ∧ ∀ σ' H', Mid σ' H' → D.nx σ' H'
theorem ps_mid {X : Cx} {st : Stmt} {t : TS} (h : PS X st t) : PS X st (tMid t) := by
  intro pins s σ H D I hw
  obtain ⟨Mid, h1, h2⟩ := hw
  refine thn (h pins s σ H _ I h1) fun f s1 q => ?_
  cases f with
  | next =>
    obtain ⟨σ', H', I', q⟩ := q
    exact ⟨σ', H', I', h2 σ' H' q⟩
  | ret v => exact q
  | brk => exact q
  | cont => exact q
/-! ### the dict of the patterns -/
abbrev ky (s : List Int) : List Key := s.map Sum.inl
theorem ky_inj {s s' : List Int} (h : ky s = ky s') : s = s' := by
  induction s generalizing s' with
  | nil =>
    cases s' with
    | nil => rfl
    | cons a r => simp [ky] at h
  | cons a r ih =>
    cases s' with
    | nil => simp [ky] at h
    | cons b r' =>
      simp [ky] at h
      rw [h.1, ih (by simpa [ky] using h.2)]
theorem ky_kV (s : List Int) : (ky s).map kV = s.map V.int := by
  rw [List.map_map]
  rfl
structure DictAt (H : Hp) (d : Addr) (kvs : List (List Key × V)) (dv : List Int → Option (List Int)) : Prop where
  dt : H d = some (.dT kvs)
  no : ∀ s, dv s = none → valV kvs (ky s) = none
  yes : ∀ s v, dv s = some v → ∃ a, valV kvs (ky s) = some (.ref a) ∧ IL H a v
  inj : ∀ s s' a, valV kvs (ky s) = some (.ref a) → valV kvs (ky s') = some (.ref a) → s = s'
theorem DictAt.same {H H' : Hp} {d : Addr} {kvs : List (List Key × V)} {dv : List Int → Option (List Int)} (h : DictAt H d kvs dv) (s : Same H H') : DictAt H' d kvs dv :=
  ⟨s _ _ h.dt, h.no, fun k v e => let ⟨a, h1, h2⟩ := h.yes k v e; ⟨a, h1, h2.same s⟩, h.inj⟩
theorem DictAt.get {H : Hp} {d b : Addr} {kvs : List (List Key × V)} {dv : List Int → Option (List Int)} {s : List Int} (h : DictAt H d kvs dv) (hb : IT H b s) : DGet H d (.ref b) (valV kvs (ky s)) :=
  DGet.t h.dt (by rw [ky_kV]; exact hb)
/-- one value's list is rewritten -/
theorem DictAt.raised {H H' : Hp} {d a : Addr} {kvs : List (List Key × V)} {dv : List Int → Option (List Int)} {s gr : List Int} (h : DictAt H d kvs dv) (ha : valV kvs (ky s) = some (.ref a)) (hs : ∀ c o, H c = some o → c ≠ a → H' c = some o) (hg : IL H' a gr) (hd : d ≠ a) :
    DictAt H' d kvs (fun k => if k = s then some gr else dv k) := by
  refine ⟨hs d _ h.dt hd, fun k e => ?_, fun k v e => ?_, h.inj⟩
  · by_cases q : k = s
    · simp only [if_pos q] at e
      cases e
    · simp only [if_neg q] at e
      exact h.no k e
  · by_cases q : k = s
    · simp only [if_pos q] at e
      have e := Option.some.inj e
      subst e q
      exact ⟨a, ha, hg⟩
    · simp only [if_neg q] at e
      obtain ⟨c, h1, h2⟩ := h.yes k v e
      refine ⟨c, h1, hs c _ h2 fun z => q ?_⟩
      rw [z] at h1
      exact h.inj k s a h1 ha
/-- a new key -/
theorem DictAt.put {H : Hp} {d n : Addr} {kvs : List (List Key × V)} {dv : List Int → Option (List Int)} {s v : List Int} (h : DictAt H d kvs dv) (hn : IL H n v) (hf : ∀ k : List Int, valV kvs (ky k) ≠ some (.ref n)) (hd : d ≠ n) :
    DictAt (upd H d (.dT (putK kvs (ky s) (.ref n)))) d (putK kvs (ky s) (.ref n)) (fun k => if k = s then some v else dv k) := by
  have hva : ∀ a u, IL H a u → IL (upd H d (.dT (putK kvs (ky s) (.ref n)))) a u := fun a u q => by
    show upd _ d _ a = _
    rw [upd_ne (ne_of q h.dt (fun z => nomatch z))]
    exact q
  refine ⟨upd_same, fun k e => ?_, fun k u e => ?_, fun k k' a e e' => ?_⟩
  · by_cases q : k = s
    · simp only [if_pos q] at e
      cases e
    · simp only [if_neg q] at e
      rw [valV_put, if_neg (fun z => q (ky_inj z))]
      exact h.no k e
  · by_cases q : k = s
    · simp only [if_pos q] at e
      have e := Option.some.inj e
      subst e q
      exact ⟨n, by rw [valV_put, if_pos rfl], hva _ _ hn⟩
    · simp only [if_neg q] at e
      obtain ⟨c, h1, h2⟩ := h.yes k u e
      exact ⟨c, by rw [valV_put, if_neg (fun z => q (ky_inj z))]; exact h1, hva _ _ h2⟩
  · rw [valV_put] at e e'
    by_cases q : k = s
    · by_cases q' : k' = s
      · rw [q, q']
      · rw [if_pos (by rw [q])] at e
        rw [if_neg (fun z => q' (ky_inj z))] at e'
        have e := Option.some.inj e
        cases e
        exact absurd e' (hf _)
    · rw [if_neg (fun z => q (ky_inj z))] at e
      by_cases q' : k' = s
      · rw [if_pos (by rw [q'])] at e'
        have e' := Option.some.inj e'
        cases e'
        exact absurd e (hf _)
      · rw [if_neg (fun z => q' (ky_inj z))] at e'
        exact h.inj k k' a e e'
theorem flatten_zeros : ∀ k : Nat, (List.replicate k [V.int 0]).flatten = (zeros k).map V.int
  | 0 => rfl
  | k + 1 => by
    rw [List.replicate_succ, List.flatten_cons, flatten_zeros k]
    rfl
section
variable {P : Program} {w : World} {K : PySem.W.Frag} {mg : Str → Option Value} {base : Heap}
/-- patterns_of(words) -/
def spPats : Sp := fun vs H Q _ => ∃ (a : Addr) (ws : List (List Int)), vs = [.ref a] ∧ LL H a ws ∧ ws.length ≤ 5001 ∧ (∀ w ∈ ws, w.length ≤ 5000) ∧ ∀ (H' : Hp) (p : Addr) (kvs : List (List Key × V)), Same H H' → H p = none → DictAt H' p kvs (dvOf ws) → (∀ k a, valV kvs k = some (.ref a) → H a = none) → Q (.ref p) H'
theorem sc_pats : FnScope ["words", "patterns", "word", "signs"] ["words"] (defScope (top 46)) := ⟨rfl, rfl, rfl, by decide +kernel, rfl, by decide +kernel, by decide +kernel⟩
theorem ok_pats (G : Gs mg) (D : Df K mg "patterns_of" (top 46) ["words"]) (C1 : COk P w K mg base 2 "signs_of" ["word"] spSigns) (C2 : COk P w K mg base 2 "digits_of" ["word"] (spLL digitsI)) (C3 : COk P w K mg base 1 "raise_digits" ["greatest", "start", "digits"] spRaise) :
    COk P w K mg base 3 "patterns_of" ["words"] spPats := by
  refine D.ok sc_pats (fun vs H Q E h => ?_) (fun f cdv A outer s H vs Q E hr h => ?_)
  · obtain ⟨a, ws, rfl, _⟩ := h
    rfl
  have hr1 : Room 1 _ := hr.mono (by decide)
  have hu := hu_of hr
  obtain ⟨a, ws, rfl, ⟨as, ha, hal, hai⟩, hlen, hws, k⟩ := h
  refine ⟨_, pss_cons (ps_set (i := 1) sc_pats.nd rfl (Or.inl rfl) pe_dnewT)
    (pss_cons (ps_for PassesOwn.never rfl (pi_list (pv 0)) (pg_name (i := 2) sc_pats.nd rfl (Or.inl rfl))
      (pss_cons (ps_set (i := 3) sc_pats.nd rfl (Or.inl rfl) (pcall C1 hr (pa_cons (pv 2) pa_nil)))
      (pss_cons (ps_mid (ps_if (pt_cmp (pc_dnotin hu (pv 3) (pv 1)) (by with_unfolding_all rfl)) (pss_one (ps_dput hu (pv 1) (pv 3) (pe_op op_rep (pe_lst (pa_cons pe_int pa_nil)) (pe_add (plen G.len (pv 3)) pe_int)) rfl)) pss_nil))
      (pss_one (ps_expr (pcall C3 hr1 (pa_cons (pe_dget hu (pv 1) (pv 3) (fun _ _ => rfl)) (pa_cons pe_int (pa_cons (pcall C2 hr (pa_cons (pv 2) pa_nil)) pa_nil)))))))))
    (pss_one (ps_ret (pv 1)))), ?_⟩
  simp only [and_assoc, rIxL, rIxT, tSl, tPart, tNoPart, gSub, rSetL, rSum, rAll, rCat, rRep, List.length_map, cxK, wipe, tYes,  tLst, tTup, tBM, rAppend, tChain, tTest, tRet, tRetN, tDrop, tSeq, tNext, tIfS, tOrV, tAndV, tNotV, tOp, tUn, tVar, tC, t2I, tCmp, tB, tAnd, tOr, tNot, tIf, tAsg, gName, tCall, tCons, tNil, rI0, rI, rU, tAdd, tSub, tMul, tCB, tAug, ipI, L2.start, List.map_cons, List.map_nil, List.cons_append, List.nil_append, List.append_nil, List.length_cons, List.length_nil, Nat.reduceSub, Nat.reduceAdd, List.replicate_succ, List.replicate_zero, List.replicate, List.set_cons_zero, List.set_cons_succ, List.getElem?_cons_zero, List.getElem?_cons_succ, Option.some.injEq, V.int.injEq, V.bl.injEq, V.ref.injEq, List.cons.injEq, and_true, true_and, exists_eq_left', exists_eq_left, exists_eq_right, exists_and_left, exists_and_right, exists_eq', tDNewT]
  refine fun d hd => ?_
  refine tfor_list (K := K) (a := a) (xs := as.map V.ref) (fun i σ H' => ∃ (v2 v3 : Option V) (kvs : List (List Key × V)), σ = [some (.ref a), some (.ref d), v2, v3] ∧ Same H H' ∧ DictAt H' d kvs (dvOf (ws.take i)) ∧ kvs.length ≤ i ∧ ∀ k a, valV kvs k = some (.ref a) → H a = none) _
    (fun R r => ⟨_, rfl, a, rfl, ⟨_, SqL.of (Same.new hd _ _ ha)⟩, r⟩) ⟨none, none, [], rfl, Same.new hd, ⟨upd_same, fun s _ => rfl, fun s v e => (by cases e), fun s s' a e => (by cases e)⟩, Nat.le_refl _, fun k a e => (by cases e)⟩ (fun i σ H' _ ⟨_, _, _, _, s1, _⟩ => SqL.of (s1 _ _ ha)) ?_ ?_
  · rintro i y σ H' hi ⟨v2, v3, kvs, rfl, s1, hD, hkl, hkf⟩
    obtain ⟨b, hb, rfl⟩ := map_at hi
    obtain ⟨ww, e1, e2⟩ := hai i b hb
    have hwl := hws ww (List.mem_of_getElem? e1)
    have hil : i < ws.length := (List.getElem?_eq_some_iff.mp e1).1
    simp only [and_assoc, rIxL, rIxT, tSl, tPart, tNoPart, gSub, rSetL, rSum, rAll, rCat, rRep, List.length_map, cxK, wipe, tYes,  tLst, tTup, tBM, rAppend, tChain, tTest, tRet, tRetN, tDrop, tSeq, tNext, tIfS, tOrV, tAndV, tNotV, tOp, tUn, tVar, tC, t2I, tCmp, tB, tAnd, tOr, tNot, tIf, tAsg, gName, tCall, tCons, tNil, rI0, rI, rU, tAdd, tSub, tMul, tCB, tAug, ipI, L2.start, List.map_cons, List.map_nil, List.cons_append, List.nil_append, List.append_nil, List.length_cons, List.length_nil, Nat.reduceSub, Nat.reduceAdd, List.replicate_succ, List.replicate_zero, List.replicate, List.set_cons_zero, List.set_cons_succ, List.getElem?_cons_zero, List.getElem?_cons_succ, Option.some.injEq, V.int.injEq, V.bl.injEq, V.ref.injEq, List.cons.injEq, and_true, true_and, exists_eq_left', exists_eq_left, exists_eq_right, exists_and_left, exists_and_right, exists_eq']
    refine ⟨b, ww, rfl, e2.same s1, hwl, fun H2 p2 s2 n2 h2 => ?_⟩
    have hD2 := hD.same s2
    have hsl := signsI_len ww
    refine ⟨fun σ' H4 => ∃ kvs4 aa, σ' = [some (.ref a), some (.ref d), some (.ref b), some (.ref p2)] ∧ Same H H4 ∧ IT H4 p2 (signsI ww) ∧ DictAt H4 d kvs4 (fun k => if k = signsI ww then some ((dvOf (ws.take i) (signsI ww)).getD (zeros ((signsI ww).length + 1))) else dvOf (ws.take i) k) ∧ kvs4.length ≤ i + 1 ∧ (∀ k a, valV kvs4 k = some (.ref a) → H a = none) ∧ valV kvs4 (ky (signsI ww)) = some (.ref aa), ?_, ?_⟩
    · simp only [and_assoc, rIxL, rIxT, tSl, tPart, tNoPart, gSub, rSetL, rSum, rAll, rCat, rRep, List.length_map, cxK, wipe, tYes,  tLst, tTup, tBM, rAppend, tChain, tTest, tRet, tRetN, tDrop, tSeq, tNext, tIfS, tOrV, tAndV, tNotV, tOp, tUn, tVar, tC, t2I, tCmp, tB, tAnd, tOr, tNot, tIf, tAsg, gName, tCall, tCons, tNil, rI0, rI, rU, tAdd, tSub, tMul, tCB, tAug, ipI, L2.start, List.map_cons, List.map_nil, List.cons_append, List.nil_append, List.append_nil, List.length_cons, List.length_nil, Nat.reduceSub, Nat.reduceAdd, List.replicate_succ, List.replicate_zero, List.replicate, List.set_cons_zero, List.set_cons_succ, List.getElem?_cons_zero, List.getElem?_cons_succ, Option.some.injEq, V.int.injEq, V.bl.injEq, V.ref.injEq, List.cons.injEq, and_true, true_and, exists_eq_left', exists_eq_left, exists_eq_right, exists_and_left, exists_and_right, exists_eq', tDNotIn, sDPut]
      refine ⟨_, hD2.get h2, ?_⟩
      refine ite2 (fun q => ?_) (fun q => ?_)
      · have q0 : valV kvs (ky (signsI ww)) = none := by
          cases e : valV kvs (ky (signsI ww)) with
          | none => rfl
          | some v =>
            rw [e] at q
            simp at q
        have q1 : dvOf (ws.take i) (signsI ww) = none := by
          cases e : dvOf (ws.take i) (signsI ww) with
          | none => rfl
          | some v =>
            obtain ⟨c, h1, _⟩ := hD.yes _ _ e
            rw [q0] at h1
            cases h1
        refine ⟨by decide, fun z hz => ⟨_, .inr ((h2.same (Same.new hz)).seq), _, upd_same, by omega, by rw [List.length_map]; omega, by rw [List.length_map, sizeLine_eq, List.length_singleton]; omega, fun n hn => ?_⟩⟩
        obtain ⟨n1, n3⟩ := upd_none hn
        have s5 : Same H2 (upd (upd H2 z (.lst [.int 0])) n (.lst (List.replicate (((List.map V.int (signsI ww)).length : Int) + 1).toNat [V.int 0]).flatten)) := (Same.new hz).puts hn
        have hD5 := hD2.same s5
        have hn5 : IL (upd (upd H2 z (.lst [.int 0])) n (.lst (List.replicate (((List.map V.int (signsI ww)).length : Int) + 1).toNat [V.int 0]).flatten)) n (zeros ((signsI ww).length + 1)) := by
          show upd _ n _ n = _
          rw [upd_same, List.length_map, show (((signsI ww).length : Int) + 1).toNat = (signsI ww).length + 1 by omega, flatten_zeros]
        have hf5 : ∀ k : List Int, valV kvs (ky k) ≠ some (.ref n) := fun k e => by
          cases r : dvOf (ws.take i) k with
          | none =>
            rw [hD.no k r] at e
            cases e
          | some u =>
            obtain ⟨c, h1, h3⟩ := hD2.yes k u r
            rw [e] at h1
            cases h1
            exact ne_of_none h3 n3 rfl
        have hdn : d ≠ n := ne_of_none hD2.dt n3
        have hP := hD5.put (s := signsI ww) hn5 hf5 hdn
        have hlk := length_putK kvs (ky (signsI ww)) (.ref n)
        refine ⟨_, DPut.t hD5.dt (by rw [ky_kV]; exact h2.same s5) (by rw [sizeLine_eq]; omega), ((s1.trans s2).trans s5).put hd, ?_, putK kvs (ky (signsI ww)) (.ref n), ?_, by omega, fun k c e => ?_, n, by rw [valV_put, if_pos rfl]⟩
        · show upd _ d _ p2 = _
          rw [upd_ne (ne_of h2 hD2.dt (fun z => nomatch z))]
          exact h2.same s5
        · rw [q1]
          exact hP
        · rw [valV_put] at e
          by_cases qk : k = ky (signsI ww)
          · rw [if_pos qk] at e
            cases e
            exact (s1.trans s2).free n3
          · rw [if_neg qk] at e
            exact hkf k c e
      · cases r : dvOf (ws.take i) (signsI ww) with
        | none =>
          rw [hD.no _ r] at q
          simp at q
        | some u =>
          obtain ⟨c, h1, h3⟩ := hD.yes _ _ r
          refine ⟨s1.trans s2, h2, kvs, ?_, by omega, hkf, c, h1⟩
          have ee : (fun k => if k = signsI ww then some ((some u).getD (zeros ((signsI ww).length + 1))) else dvOf (ws.take i) k) = dvOf (ws.take i) := funext fun k => by
            by_cases qk : k = signsI ww
            · rw [if_pos qk, qk, r]
              rfl
            · rw [if_neg qk]
          rw [ee]
          exact hD2
    · rintro σ' H4 ⟨kvs4, aa, rfl, s4, s42, hD4, hl4, hf4, hv4⟩
      simp only [and_assoc, rIxL, rIxT, tSl, tPart, tNoPart, gSub, rSetL, rSum, rAll, rCat, rRep, List.length_map, cxK, wipe, tYes,  tLst, tTup, tBM, rAppend, tChain, tTest, tRet, tRetN, tDrop, tSeq, tNext, tIfS, tOrV, tAndV, tNotV, tOp, tUn, tVar, tC, t2I, tCmp, tB, tAnd, tOr, tNot, tIf, tAsg, gName, tCall, tCons, tNil, rI0, rI, rU, tAdd, tSub, tMul, tCB, tAug, ipI, L2.start, List.map_cons, List.map_nil, List.cons_append, List.nil_append, List.append_nil, List.length_cons, List.length_nil, Nat.reduceSub, Nat.reduceAdd, List.replicate_succ, List.replicate_zero, List.replicate, List.set_cons_zero, List.set_cons_succ, List.getElem?_cons_zero, List.getElem?_cons_succ, Option.some.injEq, V.int.injEq, V.bl.injEq, V.ref.injEq, List.cons.injEq, and_true, true_and, exists_eq_left', exists_eq_left, exists_eq_right, exists_and_left, exists_and_right, exists_eq', tDGet]
      obtain ⟨c, h1, h3⟩ := hD4.yes (signsI ww) _ (if_pos rfl)
      rw [hv4] at h1
      cases h1
      refine ⟨.ref aa, (by have q := hD4.get s42; rw [hv4] at q; exact q), b, ww, rfl, e2.same s4, hwl, fun H5 p5 s5 n5 h5 => ?_⟩
      have hgl : ((dvOf (ws.take i) (signsI ww)).getD (zeros ((signsI ww).length + 1))).length = (signsI ww).length + 1 := by
        cases r : dvOf (ws.take i) (signsI ww) with
        | none => exact zeros_len _
        | some u => exact dvOf_len _ _ _ r
      refine ⟨aa, p5, 0, _, digitsI ww, rfl, h3.same s5, h5, ne_of_none h3 n5, by rw [digitsI_len, hgl]; omega, by rw [hgl]; omega, fun H6 s6 h6 => ⟨fun c o e => ?_, kvs4, ?_, hl4, hf4⟩⟩
      · exact s6 c o (s5 _ _ (s4 _ _ e)) (ne_of_none e (hf4 _ _ hv4))
      · have hR := (hD4.same s5).raised hv4 s6 h6 (ne_of hD4.dt h3 (fun z => nomatch z))
        rw [take_snoc e1, dvOf_snoc]
        have ee : pStep (dvOf (ws.take i)) ww = fun k => if k = signsI ww then some (raiseAt ((dvOf (ws.take i) (signsI ww)).getD (zeros ((signsI ww).length + 1))) 0 (digitsI ww)) else (if k = signsI ww then some ((dvOf (ws.take i) (signsI ww)).getD (zeros ((signsI ww).length + 1))) else dvOf (ws.take i) k) := funext fun k => by
          unfold pStep
          by_cases qk : k = signsI ww
          · rw [if_pos qk, if_pos qk]
          · rw [if_neg qk, if_neg qk, if_neg qk]
        rw [ee]
        exact hR
  · rintro σ H' ⟨v2, v3, kvs, rfl, s1, hD, _, hkf⟩
    rw [List.length_map, hal, List.take_length] at hD
    simp only [and_assoc, rIxL, rIxT, tSl, tPart, tNoPart, gSub, rSetL, rSum, rAll, rCat, rRep, List.length_map, cxK, wipe, tYes,  tLst, tTup, tBM, rAppend, tChain, tTest, tRet, tRetN, tDrop, tSeq, tNext, tIfS, tOrV, tAndV, tNotV, tOp, tUn, tVar, tC, t2I, tCmp, tB, tAnd, tOr, tNot, tIf, tAsg, gName, tCall, tCons, tNil, rI0, rI, rU, tAdd, tSub, tMul, tCB, tAug, ipI, L2.start, List.map_cons, List.map_nil, List.cons_append, List.nil_append, List.append_nil, List.length_cons, List.length_nil, Nat.reduceSub, Nat.reduceAdd, List.replicate_succ, List.replicate_zero, List.replicate, List.set_cons_zero, List.set_cons_succ, List.getElem?_cons_zero, List.getElem?_cons_succ, Option.some.injEq, V.int.injEq, V.bl.injEq, V.ref.injEq, List.cons.injEq, and_true, true_and, exists_eq_left', exists_eq_left, exists_eq_right, exists_and_left, exists_and_right, exists_eq']
    exact k H' d kvs s1 hd hD hkf
end
end Pd
namespace Pd
open PySem PySem.Spec PyProof.Rows L2
section
variable {P : Program} {w : World} {K : PySem.W.Frag} {mg : Str → Option Value} {base : Heap}
theorem sc_count : FnScope ["number"] ["number"] (defScope (top 49)) := ⟨rfl, rfl, rfl, by decide +kernel, rfl, by decide +kernel, by decide +kernel⟩
theorem ok_count (G : Gs mg) (D : Df K mg "is_count" (top 49) ["number"]) : COk P w K mg base 1 "is_count" ["number"] (spB isCount) := by
  refine D.ok sc_count len1B (fun f cdv A outer s H vs Q E hr h => ?_)
  obtain ⟨z, rfl, k⟩ := h
  refine ⟨_, pss_one (ps_ret (pe_chain op_le op_le pe_int (pv 0) (pgi G.MOST_LETTERS))), ?_⟩
  simp only [and_assoc, rIxL, rIxT, tSl, tPart, tNoPart, gSub, rSetL, rSum, rAll, rCat, rRep, List.length_map, cxK, wipe, tYes,  tLst, tTup, tBM, rAppend, tChain, tTest, tRet, tRetN, tDrop, tSeq, tNext, tIfS, tOrV, tAndV, tNotV, tOp, tUn, tVar, tC, t2I, tCmp, tB, tAnd, tOr, tNot, tIf, tAsg, gName, tCall, tCons, tNil, rI0, rI, rU, tAdd, tSub, tMul, tCB, tAug, ipI, L2.start, List.map_cons, List.map_nil, List.cons_append, List.nil_append, List.append_nil, List.length_cons, List.length_nil, Nat.reduceSub, Nat.reduceAdd, List.replicate_succ, List.replicate_zero, List.replicate, List.set_cons_zero, List.set_cons_succ, List.getElem?_cons_zero, List.getElem?_cons_succ, Option.some.injEq, V.int.injEq, V.bl.injEq, V.ref.injEq, List.cons.injEq, and_true, true_and, exists_eq_left', exists_eq_left, exists_eq_right, exists_and_left, exists_and_right, exists_eq']
  exact and_ite k
def spAsk : Sp := fun vs H Q _ => ∃ (l r : Int) (a : Addr) (ws : List Int), vs = [.int l, .int r, .ref a] ∧ IL H a ws ∧ ws.length ≤ 5000 ∧ ∀ H', Same H H' → Q (.bl (askI l r ws)) H'
theorem sc_ask : FnScope ["left", "right", "word", "byte"] ["left", "right", "word"] (defScope (top 50)) := ⟨rfl, rfl, rfl, by decide +kernel, rfl, by decide +kernel, by decide +kernel⟩
theorem ok_ask (G : Gs mg) (D : Df K mg "can_be_asked" (top 50) ["left", "right", "word"]) (C1 : COk P w K mg base 1 "is_count" ["number"] (spB isCount)) (C2 : COk P w K mg base 2 "is_letter" ["byte"] (spB isLet)) :
    COk P w K mg base 3 "can_be_asked" ["left", "right", "word"] spAsk := by
  refine D.ok sc_ask (fun vs H Q E h => ?_) (fun f cdv A outer s H vs Q E hr h => ?_)
  · obtain ⟨l, r, a, ws, rfl, _⟩ := h
    rfl
  have hr1 : Room 1 _ := hr.mono (by decide)
  obtain ⟨l, r, a, ws, rfl, ha, hlen, k⟩ := h
  refine ⟨_, pss_cons (ps_if (pt_not (pw_and (pt_val (pcall C1 hr1 (pa_cons (plen G.len (pv 2)) pa_nil))) (pw_and (pt_val (pcall C1 hr1 (pa_cons (pv 0) pa_nil))) (pw_and1 (pt_val (pcall C1 hr1 (pa_cons (pv 1) pa_nil)))))).pt) (pss_one (ps_ret pe_bl)) pss_nil)
    (pss_one (ps_ret (pe_callB (cr_all rfl) rfl G.all bAll (pa_cons (pe_lc (own := [("byte", 3)]) rfl sc_ask.nd (pi_list (pv 2)) (blkOk_by (show blkC ["left", "right", "word", "byte"] (defScope (top 50)) _ _ = true by decide +kernel))
      (fun s H C cl fp => pg_name (i := 3) sc_ask.nd rfl (Or.inl rfl)) (fun s H C cl fp => pts_nil) (fun s H C cl fp => pcall C2 hr (pa_cons (pv 3) pa_nil))) pa_nil)))), ?_⟩
  simp only [and_assoc, rIxL, rIxT, tSl, tPart, tNoPart, gSub, rSetL, rSum, rAll, rCat, rRep, List.length_map, cxK, wipe, tYes,  tLst, tTup, tBM, rAppend, tChain, tTest, tRet, tRetN, tDrop, tSeq, tNext, tIfS, tOrV, tAndV, tNotV, tOp, tUn, tVar, tC, t2I, tCmp, tB, tAnd, tOr, tNot, tIf, tAsg, gName, tCall, tCons, tNil, rI0, rI, rU, tAdd, tSub, tMul, tCB, tAug, ipI, L2.start, List.map_cons, List.map_nil, List.cons_append, List.nil_append, List.append_nil, List.length_cons, List.length_nil, Nat.reduceSub, Nat.reduceAdd, List.replicate_succ, List.replicate_zero, List.replicate, List.set_cons_zero, List.set_cons_succ, List.getElem?_cons_zero, List.getElem?_cons_succ, Option.some.injEq, V.int.injEq, V.bl.injEq, V.ref.injEq, List.cons.injEq, and_true, true_and, exists_eq_left', exists_eq_left, exists_eq_right, exists_and_left, exists_and_right, exists_eq', spB]
  refine ⟨_, .inl ha.seq, ?_⟩
  rw [List.length_map]
  unfold askI at k
  refine ite2 (fun q1 => ?_) (fun q1 => ?_)
  · rw [q1] at k
    refine ite2 (fun q2 => ?_) (fun q2 => ?_)
    · rw [q2] at k
      refine ite2 (fun q3 => ?_) (fun q3 => ?_)
      · have q3 : isCount r = false := by simpa using q3
        rw [q3] at k
        exact k H (Same.refl _)
      · have q3 : isCount r = true := by simpa using q3
        rw [q3] at k
        refine tlc_pure (K := K) (a := a) (xs := ws.map V.int) H (fun _ => true) (fun v => .bl (isLet (vInt v))) (fun R r => ⟨_, rfl, a, rfl, ⟨_, ha.seq⟩, r⟩) ha.seq (by rw [List.length_map]; exact Nat.lt_of_le_of_lt hlen (by decide)) (fun x H' Rf Rt hx s' ht hf => ?_) (fun D hD => ?_)
        · obtain ⟨z, hz, rfl⟩ := List.mem_map.mp hx
          simp only [and_assoc, rIxL, rIxT, tSl, tPart, tNoPart, gSub, rSetL, rSum, rAll, rCat, rRep, List.length_map, cxK, wipe, tYes,  tLst, tTup, tBM, rAppend, tChain, tTest, tRet, tRetN, tDrop, tSeq, tNext, tIfS, tOrV, tAndV, tNotV, tOp, tUn, tVar, tC, t2I, tCmp, tB, tAnd, tOr, tNot, tIf, tAsg, gName, tCall, tCons, tNil, rI0, rI, rU, tAdd, tSub, tMul, tCB, tAug, ipI, L2.start, List.map_cons, List.map_nil, List.cons_append, List.nil_append, List.append_nil, List.length_cons, List.length_nil, Nat.reduceSub, Nat.reduceAdd, List.replicate_succ, List.replicate_zero, List.replicate, List.set_cons_zero, List.set_cons_succ, List.getElem?_cons_zero, List.getElem?_cons_succ, Option.some.injEq, V.int.injEq, V.bl.injEq, V.ref.injEq, List.cons.injEq, and_true, true_and, exists_eq_left', exists_eq_left, exists_eq_right, exists_and_left, exists_and_right, exists_eq', spB]
          exact iteTr (ht rfl)
        · refine ⟨D, rfl, ws.map isLet, SqL.of ?_, ?_⟩
          · rw [upd_same, filter_ints _ (fun z => true) _ (fun z => .bl (isLet z)) (fun z => rfl) (fun z => rfl), List.filter_eq_self.mpr (fun _ _ => rfl), List.map_map]
            rfl
          · rw [List.all_map]
            exact k _ (Same.new hD)
    · rw [Bool.eq_false_iff.mpr q2] at k
      exact iteT (k H (Same.refl _))
  · rw [Bool.eq_false_iff.mpr q1] at k
    exact iteT (k H (Same.refl _))
def spDot : Sp := fun vs H Q _ => ∃ (a : Addr) (ws : List Int), vs = [.ref a] ∧ IL H a ws ∧ ws.length ≤ 5000 ∧ ∀ (H' : Hp) (p : Addr), Same H H' → H p = none → IT H' p (dotI ws) → Q (.ref p) H'
theorem sc_dot : FnScope ["word", "byte"] ["word"] (defScope (top 51)) := ⟨rfl, rfl, rfl, by decide +kernel, rfl, by decide +kernel, by decide +kernel⟩
theorem ok_dot (G : Gs mg) (D : Df K mg "dotted" (top 51) ["word"]) (C : COk P w K mg base 2 "made_small" ["byte"] (spI mkSmall)) : COk P w K mg base 3 "dotted" ["word"] spDot := by
  refine D.ok sc_dot (fun vs H Q E h => ?_) (fun f cdv A outer s H vs Q E hr h => ?_)
  · obtain ⟨a, ws, rfl, _⟩ := h
    rfl
  obtain ⟨a, ws, rfl, ha, hlen, k⟩ := h
  refine ⟨_, pss_one (ps_ret (pe_callTy call_tuple_of rfl G.tuple PyProof.Rows.boot_tuple (pa_cons (pe_op op_cat (pe_op op_cat (pe_lst (pa_cons (pgi G.DOT) pa_nil))
    (pe_lc (own := [("byte", 1)]) rfl sc_dot.nd (pi_list (pv 0)) (blkOk_by (show blkC ["word", "byte"] (defScope (top 51)) _ _ = true by decide +kernel))
      (fun s H C cl fp => pg_name (i := 1) sc_dot.nd rfl (Or.inl rfl)) (fun s H C cl fp => pts_nil) (fun s H C' cl fp => pcall C hr (pa_cons (pv 1) pa_nil)))) (pe_lst (pa_cons (pgi G.DOT) pa_nil))) pa_nil))), ?_⟩
  simp only [and_assoc, rIxL, rIxT, tSl, tPart, tNoPart, gSub, rSetL, rSum, rAll, rCat, rRep, List.length_map, cxK, wipe, tYes,  tLst, tTup, tBM, rAppend, tChain, tTest, tRet, tRetN, tDrop, tSeq, tNext, tIfS, tOrV, tAndV, tNotV, tOp, tUn, tVar, tC, t2I, tCmp, tB, tAnd, tOr, tNot, tIf, tAsg, gName, tCall, tCons, tNil, rI0, rI, rU, tAdd, tSub, tMul, tCB, tAug, ipI, L2.start, List.map_cons, List.map_nil, List.cons_append, List.nil_append, List.append_nil, List.length_cons, List.length_nil, Nat.reduceSub, Nat.reduceAdd, List.replicate_succ, List.replicate_zero, List.replicate, List.set_cons_zero, List.set_cons_succ, List.getElem?_cons_zero, List.getElem?_cons_succ, Option.some.injEq, V.int.injEq, V.bl.injEq, V.ref.injEq, List.cons.injEq, and_true, true_and, exists_eq_left', exists_eq_left, exists_eq_right, exists_and_left, exists_and_right, exists_eq']
  have hsz : sizeLine = 16777216 := by decide
  refine ⟨by decide, fun d1 hd1 => ?_⟩
  have s1 : Same H (upd H d1 (.lst [.int 46])) := Same.new hd1
  refine tlc_pure (K := K) (a := a) (xs := ws.map V.int) _ (fun _ => true) (fun v => .int (mkSmall (vInt v))) (fun R r => ⟨_, rfl, a, rfl, ⟨_, (ha.same s1).seq⟩, r⟩) (ha.same s1).seq (by rw [List.length_map]; omega) (fun x H' Rf Rt hx s' ht hf => ?_) (fun d2 hd2 => ?_)
  · obtain ⟨z, hz, rfl⟩ := List.mem_map.mp hx
    simp only [and_assoc, rIxL, rIxT, tSl, tPart, tNoPart, gSub, rSetL, rSum, rAll, rCat, rRep, List.length_map, cxK, wipe, tYes,  tLst, tTup, tBM, rAppend, tChain, tTest, tRet, tRetN, tDrop, tSeq, tNext, tIfS, tOrV, tAndV, tNotV, tOp, tUn, tVar, tC, t2I, tCmp, tB, tAnd, tOr, tNot, tIf, tAsg, gName, tCall, tCons, tNil, rI0, rI, rU, tAdd, tSub, tMul, tCB, tAug, ipI, L2.start, List.map_cons, List.map_nil, List.cons_append, List.nil_append, List.append_nil, List.length_cons, List.length_nil, Nat.reduceSub, Nat.reduceAdd, List.replicate_succ, List.replicate_zero, List.replicate, List.set_cons_zero, List.set_cons_succ, List.getElem?_cons_zero, List.getElem?_cons_succ, Option.some.injEq, V.int.injEq, V.bl.injEq, V.ref.injEq, List.cons.injEq, and_true, true_and, exists_eq_left', exists_eq_left, exists_eq_right, exists_and_left, exists_and_right, exists_eq', spI]
    exact iteTr (ht rfl)
  · rw [filter_ints _ (fun z => true) _ (fun z => .int (mkSmall z)) (fun z => rfl) (fun z => rfl), List.filter_eq_self.mpr (fun _ _ => rfl)]
    obtain ⟨n1, n2⟩ := upd_none hd2
    have s2 := s1.puts hd2 (o := .lst (List.map (fun z => V.int (mkSmall z)) ws))
    refine ⟨d2, rfl, [.int 46], by rw [upd_ne (Ne.symm n1), upd_same], _, upd_same, by rw [List.length_map, List.length_singleton]; omega, fun d3 hd3 => ⟨by decide, fun d4 hd4 => ?_⟩⟩
    obtain ⟨n3, n4⟩ := upd_none hd4
    have s3 := s2.puts hd3 (o := .lst ([V.int 46] ++ List.map (fun z => V.int (mkSmall z)) ws))
    have s4 := s3.puts hd4 (o := .lst [V.int 46])
    refine ⟨_, by rw [upd_ne (Ne.symm n3), upd_same], _, upd_same, by simp only [List.length_append, List.length_map, List.length_singleton]; omega, fun d5 hd5 => ?_⟩
    have s5 := s4.puts hd5 (o := .lst ([V.int 46] ++ List.map (fun z => V.int (mkSmall z)) ws ++ [V.int 46]))
    refine ⟨_, .inl ⟨SqL.of upd_same, fun d6 hd6 => ?_⟩⟩
    refine k _ d6 (s5.puts hd6) (s5.free hd6) ?_
    show upd _ d6 _ d6 = _
    rw [upd_same]
    unfold dotI
    simp
/-- gap_digits(patterns, signs) -/
def spGap : Sp := fun vs H Q _ => ∃ (d b : Addr) (kvs : List (List Key × V)) (dv : List Int → Option (List Int)) (ss : List Int), vs = [.ref d, .ref b] ∧ DictAt H d kvs dv ∧ (∀ s v, dv s = some v → v.length = s.length + 1) ∧ IT H b ss ∧ ss.length ≤ 1000 ∧
  ∀ (H' : Hp) (p : Addr), Same H H' → H p = none → IL H' p (gapI dv ss) → Q (.ref p) H'
theorem sc_gap : FnScope ["patterns", "signs", "greatest", "start", "last_end", "end"] ["patterns", "signs"] (defScope (top 52)) := ⟨rfl, rfl, rfl, by decide +kernel, rfl, by decide +kernel, by decide +kernel⟩
theorem ok_gap (G : Gs mg) (D : Df K mg "gap_digits" (top 52) ["patterns", "signs"]) (C : COk P w K mg base 1 "raise_digits" ["greatest", "start", "digits"] spRaise) : COk P w K mg base 2 "gap_digits" ["patterns", "signs"] spGap := by
  refine D.ok sc_gap (fun vs H Q E h => ?_) (fun f cdv A outer s H vs Q E hr h => ?_)
  · obtain ⟨d, b, kvs, dv, ss, rfl, _⟩ := h
    rfl
  have hu := hu_of hr
  obtain ⟨d, b, kvs, dv, ss, rfl, hD, hdl, hb, hlen, k⟩ := h
  refine ⟨_, pss_cons (ps_set (i := 2) sc_gap.nd rfl (Or.inl rfl) (pe_op op_rep (pe_lst (pa_cons pe_int pa_nil)) (pe_add (plen G.len (pv 1)) pe_int)))
    (pss_cons (ps_for PassesOwn.never rfl (pi_range1 rfl G.range (pa_cons (plen G.len (pv 1)) pa_nil)) (pg_name (i := 3) sc_gap.nd rfl (Or.inl rfl))
      (pss_cons (ps_set (i := 4) sc_gap.nd rfl (Or.inl rfl) (pe_callB (call_min2 rfl) rfl G.min PyProof.Rows.boot_min (pa_cons (plen G.len (pv 1)) (pa_cons (pe_add (pv 3) (pgi G.MOST_SIGNS)) pa_nil))))
      (pss_one (ps_for PassesOwn.never rfl (pi_range2 rfl G.range (pa_cons (pe_add (pv 3) pe_int) (pa_cons (pe_add (pv 4) pe_int) pa_nil))) (pg_name (i := 5) sc_gap.nd rfl (Or.inl rfl))
        (pss_one (ps_expr (pcall C hr (pa_cons (pv 2) (pa_cons (pv 3) (pa_cons (pe_dget2 hu (pv 0) (pe_slice sl_tupA (pv 1) (po_some (pv 3)) (po_some (pv 5))) (pe_lst pa_nil) ⟨rfl, rfl, rfl, rfl⟩) pa_nil))))))))))
    (pss_one (ps_ret (pv 2)))), ?_⟩
  simp only [and_assoc, rIxL, rIxT, tSl, tPart, tNoPart, gSub, rSetL, rSum, rAll, rCat, rRep, List.length_map, cxK, wipe, tYes,  tLst, tTup, tBM, rAppend, tChain, tTest, tRet, tRetN, tDrop, tSeq, tNext, tIfS, tOrV, tAndV, tNotV, tOp, tUn, tVar, tC, t2I, tCmp, tB, tAnd, tOr, tNot, tIf, tAsg, gName, tCall, tCons, tNil, rI0, rI, rU, tAdd, tSub, tMul, tCB, tAug, ipI, L2.start, List.map_cons, List.map_nil, List.cons_append, List.nil_append, List.append_nil, List.length_cons, List.length_nil, Nat.reduceSub, Nat.reduceAdd, List.replicate_succ, List.replicate_zero, List.replicate, List.set_cons_zero, List.set_cons_succ, List.getElem?_cons_zero, List.getElem?_cons_succ, Option.some.injEq, V.int.injEq, V.bl.injEq, V.ref.injEq, List.cons.injEq, and_true, true_and, exists_eq_left', exists_eq_left, exists_eq_right, exists_and_left, exists_and_right, exists_eq']
  have hsz : sizeLine = 16777216 := by decide
  refine ⟨by decide, fun d1 hd1 => ⟨_, .inr ((hb.same (Same.new hd1)).seq), _, upd_same, by omega, by rw [List.length_map]; omega, by rw [List.length_map, hsz, List.length_singleton]; omega, fun g hg => ?_⟩⟩
  have s1 : Same H (upd (upd H d1 (.lst [.int 0])) g (.lst (List.replicate (((List.map V.int ss).length : Int) + 1).toNat [V.int 0]).flatten)) := (Same.new hd1).puts hg
  have hg0 : H g = none := (upd_none hg).2
  have hg1 : IL (upd (upd H d1 (.lst [.int 0])) g (.lst (List.replicate (((List.map V.int ss).length : Int) + 1).toNat [V.int 0]).flatten)) g (zeros (ss.length + 1)) := by
    show upd _ g _ g = _
    rw [upd_same, List.length_map, show ((ss.length : Int) + 1).toNat = ss.length + 1 by omega, flatten_zeros]
  generalize upd (upd H d1 (.lst [.int 0])) g (.lst (List.replicate (((List.map V.int ss).length : Int) + 1).toNat [V.int 0]).flatten) = H1 at s1 hg1
  refine tfor_range (lo := 0) (n := ((List.map V.int ss).length : Int).toNat) (fun i σ H' => ∃ v3 v4 v5 : Option V, σ = [some (.ref d), some (.ref b), some (.ref g), v3, v4, v5] ∧ Same H H' ∧ IL H' g (gapOut dv ss i)) _
    (fun R r => by
      simp only [and_assoc, rIxL, rIxT, tSl, tPart, tNoPart, gSub, rSetL, rSum, rAll, rCat, rRep, List.length_map, cxK, wipe, tYes,  tLst, tTup, tBM, rAppend, tChain, tTest, tRet, tRetN, tDrop, tSeq, tNext, tIfS, tOrV, tAndV, tNotV, tOp, tUn, tVar, tC, t2I, tCmp, tB, tAnd, tOr, tNot, tIf, tAsg, gName, tCall, tCons, tNil, rI0, rI, rU, tAdd, tSub, tMul, tCB, tAug, ipI, L2.start, List.map_cons, List.map_nil, List.cons_append, List.nil_append, List.append_nil, List.length_cons, List.length_nil, Nat.reduceSub, Nat.reduceAdd, List.replicate_succ, List.replicate_zero, List.replicate, List.set_cons_zero, List.set_cons_succ, List.getElem?_cons_zero, List.getElem?_cons_succ, Option.some.injEq, V.int.injEq, V.bl.injEq, V.ref.injEq, List.cons.injEq, and_true, true_and, exists_eq_left', exists_eq_left, exists_eq_right, exists_and_left, exists_and_right, exists_eq', iRng1]
      exact ⟨ss.map V.int, .inr (hb.same s1).seq, by omega, by rw [List.length_map]; omega, r⟩)
    ⟨none, none, none, rfl, s1, hg1⟩ ?_ ?_
  · rintro i σ H' hi ⟨v3, v4, v5, rfl, s2, hg2⟩
    rw [List.length_map] at hi
    simp only [and_assoc, rIxL, rIxT, tSl, tPart, tNoPart, gSub, rSetL, rSum, rAll, rCat, rRep, List.length_map, cxK, wipe, tYes,  tLst, tTup, tBM, rAppend, tChain, tTest, tRet, tRetN, tDrop, tSeq, tNext, tIfS, tOrV, tAndV, tNotV, tOp, tUn, tVar, tC, t2I, tCmp, tB, tAnd, tOr, tNot, tIf, tAsg, gName, tCall, tCons, tNil, rI0, rI, rU, tAdd, tSub, tMul, tCB, tAug, ipI, L2.start, List.map_cons, List.map_nil, List.cons_append, List.nil_append, List.append_nil, List.length_cons, List.length_nil, Nat.reduceSub, Nat.reduceAdd, List.replicate_succ, List.replicate_zero, List.replicate, List.set_cons_zero, List.set_cons_succ, List.getElem?_cons_zero, List.getElem?_cons_succ, Option.some.injEq, V.int.injEq, V.bl.injEq, V.ref.injEq, List.cons.injEq, and_true, true_and, exists_eq_left', exists_eq_left, exists_eq_right, exists_and_left, exists_and_right, exists_eq']
    refine ⟨_, .inr (hb.same s2).seq, ?_⟩
    have hil : i < ss.length := by omega
    have hmin : (if (0 : Int) + (i : Int) + 32 < ((List.map V.int ss).length : Int) then (0 : Int) + (i : Int) + 32 else ((List.map V.int ss).length : Int)) = ((min ss.length (i + 32) : Nat) : Int) := by
      rw [List.length_map]
      split <;> omega
    rw [hmin]
    have hgl := gapOut_len dv ss i
    refine tfor_range (lo := 0 + (i : Int) + 1) (n := (((min ss.length (i + 32) : Nat) : Int) + 1 - (0 + (i : Int) + 1)).toNat) (fun j σ H'' => ∃ v5 : Option V, σ = [some (.ref d), some (.ref b), some (.ref g), some (.int (0 + (i : Int))), some (.int ((min ss.length (i + 32) : Nat) : Int)), v5] ∧ Same H H'' ∧ IL H'' g (gapIn dv ss i (gapOut dv ss i) j)) H'
      (fun R r => by
        simp only [and_assoc, rIxL, rIxT, tSl, tPart, tNoPart, gSub, rSetL, rSum, rAll, rCat, rRep, List.length_map, cxK, wipe, tYes,  tLst, tTup, tBM, rAppend, tChain, tTest, tRet, tRetN, tDrop, tSeq, tNext, tIfS, tOrV, tAndV, tNotV, tOp, tUn, tVar, tC, t2I, tCmp, tB, tAnd, tOr, tNot, tIf, tAsg, gName, tCall, tCons, tNil, rI0, rI, rU, tAdd, tSub, tMul, tCB, tAug, ipI, L2.start, List.map_cons, List.map_nil, List.cons_append, List.nil_append, List.append_nil, List.length_cons, List.length_nil, Nat.reduceSub, Nat.reduceAdd, List.replicate_succ, List.replicate_zero, List.replicate, List.set_cons_zero, List.set_cons_succ, List.getElem?_cons_zero, List.getElem?_cons_succ, Option.some.injEq, V.int.injEq, V.bl.injEq, V.ref.injEq, List.cons.injEq, and_true, true_and, exists_eq_left', exists_eq_left, exists_eq_right, exists_and_left, exists_and_right, exists_eq', iRng2]
        exact ⟨by omega, by omega, by omega, by omega, r⟩) ⟨v5, rfl, s2, hg2⟩ ?_ ?_
    · rintro j σ H'' hj ⟨v6, rfl, s3, hg3⟩
      have hgl2 := gapIn_len dv ss i (gapOut dv ss i) j
      simp only [and_assoc, rIxL, rIxT, tSl, tPart, tNoPart, gSub, rSetL, rSum, rAll, rCat, rRep, List.length_map, cxK, wipe, tYes,  tLst, tTup, tBM, rAppend, tChain, tTest, tRet, tRetN, tDrop, tSeq, tNext, tIfS, tOrV, tAndV, tNotV, tOp, tUn, tVar, tC, t2I, tCmp, tB, tAnd, tOr, tNot, tIf, tAsg, gName, tCall, tCons, tNil, rI0, rI, rU, tAdd, tSub, tMul, tCB, tAug, ipI, L2.start, List.map_cons, List.map_nil, List.cons_append, List.nil_append, List.append_nil, List.length_cons, List.length_nil, Nat.reduceSub, Nat.reduceAdd, List.replicate_succ, List.replicate_zero, List.replicate, List.set_cons_zero, List.set_cons_succ, List.getElem?_cons_zero, List.getElem?_cons_succ, Option.some.injEq, V.int.injEq, V.bl.injEq, V.ref.injEq, List.cons.injEq, and_true, true_and, exists_eq_left', exists_eq_left, exists_eq_right, exists_and_left, exists_and_right, exists_eq', tDGet2]
      have hD3 := hD.same s3
      refine ⟨.inr ⟨kvs, .inl hD3.dt⟩, slTA_ints (f := i) (e := i + 1 + j) (hb.same s3) (by omega) (by omega) (by omega) (by omega) fun H4 p4 s4 h4 => ⟨Nat.zero_le _, fun n hn => ?_⟩⟩
      rw [show i + 1 + j - i = j + 1 by omega] at h4
      have s5 : Same H'' (upd H4 n (.lst [])) := s4.puts hn
      have hD5 := hD3.same s5
      refine ⟨_, hD5.get (h4.same (Same.new hn)), ?_⟩
      have hng : g ≠ n := ne_of_none (hg3.same s4) hn
      have fin : ∀ (x : Addr) (v : List Int), IL (upd H4 n (.lst [])) x v → g ≠ x → v = (dv ((ss.drop i).take (j + 1))).getD [] → v.length ≤ j + 2 → spRaise [.ref g, .int (0 + (i : Int)), .ref x] (upd H4 n (.lst []))
          (fun x H1 => Same H H1 ∧ IL H1 g (gapIn dv ss i (gapOut dv ss i) (j + 1))) E0 := fun x v hx hgx ev hvl => by
        refine ⟨g, x, i, _, v, by rw [Int.zero_add], hg3.same s5, hx, hgx, by rw [hgl2, hgl]; omega, by rw [hgl2, hgl]; omega, fun H6 s6 h6 => ⟨fun c o e => s6 c o (s5 _ _ (s3 _ _ e)) (ne_of_none e hg0), ?_⟩⟩
        rw [gapIn_succ, ← ev]
        exact h6
      cases r : dv ((ss.drop i).take (j + 1)) with
      | none =>
        rw [hD.no _ r]
        refine fin n [] (by show upd _ n _ n = _; rw [upd_same]; rfl) hng (by rw [r]; rfl) (Nat.zero_le _)
      | some v =>
        obtain ⟨c, h1, h2⟩ := hD.yes _ _ r
        rw [h1]
        have hvl := hdl _ _ r
        rw [List.length_take] at hvl
        refine fin c v (h2.same (s3.trans s5)) (fun z => by rw [← z] at h2; exact ne_of_none h2 hg0 rfl) (by rw [r]; rfl) (by omega)
    · rintro σ H'' ⟨v6, rfl, s3, hg3⟩
      rw [show (((min ss.length (i + 32) : Nat) : Int) + 1 - (0 + (i : Int) + 1)).toNat = min ss.length (i + 32) - i by omega] at hg3
      simp only [and_assoc, rIxL, rIxT, tSl, tPart, tNoPart, gSub, rSetL, rSum, rAll, rCat, rRep, List.length_map, cxK, wipe, tYes,  tLst, tTup, tBM, rAppend, tChain, tTest, tRet, tRetN, tDrop, tSeq, tNext, tIfS, tOrV, tAndV, tNotV, tOp, tUn, tVar, tC, t2I, tCmp, tB, tAnd, tOr, tNot, tIf, tAsg, gName, tCall, tCons, tNil, rI0, rI, rU, tAdd, tSub, tMul, tCB, tAug, ipI, L2.start, List.map_cons, List.map_nil, List.cons_append, List.nil_append, List.append_nil, List.length_cons, List.length_nil, Nat.reduceSub, Nat.reduceAdd, List.replicate_succ, List.replicate_zero, List.replicate, List.set_cons_zero, List.set_cons_succ, List.getElem?_cons_zero, List.getElem?_cons_succ, Option.some.injEq, V.int.injEq, V.bl.injEq, V.ref.injEq, List.cons.injEq, and_true, true_and, exists_eq_left', exists_eq_left, exists_eq_right, exists_and_left, exists_and_right, exists_eq']
      refine ⟨s3, ?_⟩
      rw [gapOut_succ]
      exact hg3
  · rintro σ H' ⟨v3, v4, v5, rfl, s2, hg2⟩
    rw [List.length_map, Int.toNat_natCast] at hg2
    simp only [and_assoc, rIxL, rIxT, tSl, tPart, tNoPart, gSub, rSetL, rSum, rAll, rCat, rRep, List.length_map, cxK, wipe, tYes,  tLst, tTup, tBM, rAppend, tChain, tTest, tRet, tRetN, tDrop, tSeq, tNext, tIfS, tOrV, tAndV, tNotV, tOp, tUn, tVar, tC, t2I, tCmp, tB, tAnd, tOr, tNot, tIf, tAsg, gName, tCall, tCons, tNil, rI0, rI, rU, tAdd, tSub, tMul, tCB, tAug, ipI, L2.start, List.map_cons, List.map_nil, List.cons_append, List.nil_append, List.append_nil, List.length_cons, List.length_nil, Nat.reduceSub, Nat.reduceAdd, List.replicate_succ, List.replicate_zero, List.replicate, List.set_cons_zero, List.set_cons_succ, List.getElem?_cons_zero, List.getElem?_cons_succ, Option.some.injEq, V.int.injEq, V.bl.injEq, V.ref.injEq, List.cons.injEq, and_true, true_and, exists_eq_left', exists_eq_left, exists_eq_right, exists_and_left, exists_and_right, exists_eq']
    exact k H' g s2 hg0 hg2
end
end Pd
namespace Pd
open PySem PySem.Spec PyProof.Rows L2
section
variable {P : Program} {w : World} {K : PySem.W.Frag} {mg : Str → Option Value} {base : Heap}
def spMarks : Sp := fun vs H Q _ => ∃ (d a : Addr) (kvs : List (List Key × V)) (dv : List Int → Option (List Int)) (l r : Int) (ws : List Int), vs = [.ref d, .int l, .int r, .ref a] ∧ DictAt H d kvs dv ∧ (∀ s v, dv s = some v → v.length = s.length + 1) ∧ IL H a ws ∧ ws.length ≤ 64 ∧
  ∀ (H' : Hp) (p : Addr), Same H H' → H p = none → IL H' p (marksI dv l r ws) → Q (.ref p) H'
theorem sc_marks : FnScope ["patterns", "left", "right", "word", "greatest", "marks", "before", "behind", "odd"] ["patterns", "left", "right", "word"] (defScope (top 53)) := ⟨rfl, rfl, rfl, by decide +kernel, rfl, by decide +kernel, by decide +kernel⟩
theorem ok_marks (G : Gs mg) (D : Df K mg "partings" (top 53) ["patterns", "left", "right", "word"]) (C1 : COk P w K mg base 2 "gap_digits" ["patterns", "signs"] spGap) (C2 : COk P w K mg base 3 "dotted" ["word"] spDot) :
    COk P w K mg base 4 "partings" ["patterns", "left", "right", "word"] spMarks := by
  refine D.ok sc_marks (fun vs H Q E h => ?_) (fun f cdv A outer s H vs Q E hr h => ?_)
  · obtain ⟨d, a, kvs, dv, l, r, ws, rfl, _⟩ := h
    rfl
  have hr2 : Room 2 _ := hr.mono (by decide)
  obtain ⟨d, a, kvs, dv, l, r, ws, rfl, hD, hdl, ha, hlen, k⟩ := h
  refine ⟨_, pss_cons (ps_set (i := 4) sc_marks.nd rfl (Or.inl rfl) (pcall C1 hr2 (pa_cons (pv 0) (pa_cons (pcall C2 hr (pa_cons (pv 3) pa_nil)) pa_nil))))
    (pss_cons (ps_set (i := 5) sc_marks.nd rfl (Or.inl rfl) (pe_lst pa_nil))
    (pss_cons (ps_for PassesOwn.never rfl (pi_range2 rfl G.range (pa_cons pe_int (pa_cons (pe_add (plen G.len (pv 3)) pe_int) pa_nil))) (pg_name (i := 6) sc_marks.nd rfl (Or.inl rfl))
      (pss_cons (ps_set (i := 7) sc_marks.nd rfl (Or.inl rfl) (pe_sub (plen G.len (pv 3)) (pv 6)))
      (pss_cons (ps_set (i := 8) sc_marks.nd rfl (Or.inl rfl) (pe_cmp (pc_eqI (pe_op op_mod (pe_ix ix_list (pv 4) (pe_add (pv 6) pe_int) (fun _ _ => rfl)) pe_int) pe_int)))
      (pss_one (ps_expr (papp (pv 5) (pe_ifExp (pw_and (pt_val (pv 8)) (pw_and (pt_cmp (pc_ge (pv 6) (pv 1))) (pw_and1 (pt_cmp (pc_ge (pv 7) (pv 2)))))).pt pe_int pe_int)))))))
    (pss_one (ps_ret (pv 5))))), ?_⟩
  simp only [and_assoc, rIxL, rIxT, tSl, tPart, tNoPart, gSub, rSetL, rSum, rAll, rCat, rRep, List.length_map, cxK, wipe, tYes,  tLst, tTup, tBM, rAppend, tChain, tTest, tRet, tRetN, tDrop, tSeq, tNext, tIfS, tOrV, tAndV, tNotV, tOp, tUn, tVar, tC, t2I, tCmp, tB, tAnd, tOr, tNot, tIf, tAsg, gName, tCall, tCons, tNil, rI0, rI, rU, tAdd, tSub, tMul, tCB, tAug, ipI, L2.start, List.map_cons, List.map_nil, List.cons_append, List.nil_append, List.append_nil, List.length_cons, List.length_nil, Nat.reduceSub, Nat.reduceAdd, List.replicate_succ, List.replicate_zero, List.replicate, List.set_cons_zero, List.set_cons_succ, List.getElem?_cons_zero, List.getElem?_cons_succ, Option.some.injEq, V.int.injEq, V.bl.injEq, V.ref.injEq, List.cons.injEq, and_true, true_and, exists_eq_left', exists_eq_left, exists_eq_right, exists_and_left, exists_and_right, exists_eq']
  have hsz : sizeLine = 16777216 := by decide
  refine ⟨a, ws, rfl, ha, by omega, fun H1 p1 s1 n1 h1 => ⟨d, p1, kvs, dv, dotI ws, rfl, hD.same s1, hdl, h1, by simp [dotI]; omega, fun H2 p2 s2 n2 h2 => ⟨Nat.zero_le _, fun m hm => ?_⟩⟩⟩
  have s3 : Same H (upd H2 m (.lst [])) := (s1.trans s2).puts hm
  have h3 : IL (upd H2 m (.lst [])) p2 (gapI dv (dotI ws)) := h2.same (Same.new hm)
  have hpm : p2 ≠ m := ne_of_none h2 hm
  have hm0 : H m = none := (s1.trans s2).free hm
  have hm1 : IL (upd H2 m (.lst [])) m [] := by
    show upd _ m _ m = _
    rw [upd_same]
    rfl
  generalize upd H2 m (.lst []) = H3 at s3 h3 hm1
  have hgl : (gapI dv (dotI ws)).length = ws.length + 3 := by
    unfold gapI
    rw [gapOut_len]
    simp [dotI]
  refine tfor_range (lo := 1) (n := (((List.map V.int ws).length : Int) + 1 - 1).toNat) (fun i σ H' => ∃ v6 v7 v8 : Option V, σ = [some (.ref d), some (.int l), some (.int r), some (.ref a), some (.ref p2), some (.ref m), v6, v7, v8] ∧ Same H H' ∧ IL H' p2 (gapI dv (dotI ws)) ∧ IL H' m ((List.range i).map (markI dv l r ws))) H3
    (fun R r => by
      simp only [and_assoc, rIxL, rIxT, tSl, tPart, tNoPart, gSub, rSetL, rSum, rAll, rCat, rRep, List.length_map, cxK, wipe, tYes,  tLst, tTup, tBM, rAppend, tChain, tTest, tRet, tRetN, tDrop, tSeq, tNext, tIfS, tOrV, tAndV, tNotV, tOp, tUn, tVar, tC, t2I, tCmp, tB, tAnd, tOr, tNot, tIf, tAsg, gName, tCall, tCons, tNil, rI0, rI, rU, tAdd, tSub, tMul, tCB, tAug, ipI, L2.start, List.map_cons, List.map_nil, List.cons_append, List.nil_append, List.append_nil, List.length_cons, List.length_nil, Nat.reduceSub, Nat.reduceAdd, List.replicate_succ, List.replicate_zero, List.replicate, List.set_cons_zero, List.set_cons_succ, List.getElem?_cons_zero, List.getElem?_cons_succ, Option.some.injEq, V.int.injEq, V.bl.injEq, V.ref.injEq, List.cons.injEq, and_true, true_and, exists_eq_left', exists_eq_left, exists_eq_right, exists_and_left, exists_and_right, exists_eq', iRng2]
      exact ⟨ws.map V.int, .inl (ha.same s3).seq, by decide, by decide, by omega, by rw [List.length_map]; omega, r⟩)
    ⟨none, none, none, rfl, s3, h3, hm1⟩ ?_ ?_
  · rintro i σ H' hi ⟨v6, v7, v8, rfl, s4, h4, hm4⟩
    rw [List.length_map] at hi
    simp only [and_assoc, rIxL, rIxT, tSl, tPart, tNoPart, gSub, rSetL, rSum, rAll, rCat, rRep, List.length_map, cxK, wipe, tYes,  tLst, tTup, tBM, rAppend, tChain, tTest, tRet, tRetN, tDrop, tSeq, tNext, tIfS, tOrV, tAndV, tNotV, tOp, tUn, tVar, tC, t2I, tCmp, tB, tAnd, tOr, tNot, tIf, tAsg, gName, tCall, tCons, tNil, rI0, rI, rU, tAdd, tSub, tMul, tCB, tAug, ipI, L2.start, List.map_cons, List.map_nil, List.cons_append, List.nil_append, List.append_nil, List.length_cons, List.length_nil, Nat.reduceSub, Nat.reduceAdd, List.replicate_succ, List.replicate_zero, List.replicate, List.set_cons_zero, List.set_cons_succ, List.getElem?_cons_zero, List.getElem?_cons_succ, Option.some.injEq, V.int.injEq, V.bl.injEq, V.ref.injEq, List.cons.injEq, and_true, true_and, exists_eq_left', exists_eq_left, exists_eq_right, exists_and_left, exists_and_right, exists_eq']
    refine ⟨ws.map V.int, .inl (ha.same s4).seq, ?_⟩
    rw [List.length_map]
    refine ⟨_, h4.seq, _, atI_ints (i := i + 2) (by omega) (by omega), _, rfl, by decide, tyL hm4, ?_⟩
    have fin : ∀ z : Int, z = markI dv l r ws i → ∃ x, H' m = some (.lst x) ∧ x.length < sizeLine ∧ Same H (upd H' m (.lst (x ++ [.int z]))) ∧ IL (upd H' m (.lst (x ++ [.int z]))) p2 (gapI dv (dotI ws)) ∧ IL (upd H' m (.lst (x ++ [.int z]))) m ((List.range (i + 1)).map (markI dv l r ws)) := fun z ez => by
      refine ⟨_, hm4, by rw [List.length_map, List.length_map, List.length_range]; omega, s4.put hm0, ?_, ?_⟩
      · show upd _ m _ p2 = _
        rw [upd_ne hpm]
        exact h4
      · show upd _ m _ m = _
        rw [upd_same, ez, List.range_succ]
        simp only [List.map_append, List.map_cons, List.map_nil]
    refine ite2 (fun q1 => ?_) (fun q1 => ?_)
    · have q1 := of_decide_eq_true q1
      refine ite2 (fun q2 => ?_) (fun q2 => ?_)
      · have q2 := of_decide_eq_true q2
        refine ite2 (fun q3 => ?_) (fun q3 => ?_)
        · have q3 := of_decide_eq_true q3
          exact fin 1 (by unfold markI; rw [if_pos ⟨q1, by omega, by omega⟩])
        · have q3 : ¬ r ≤ (ws.length : Int) - (1 + (i : Int)) := fun z => q3 (decide_eq_true z)
          exact fin 0 (by unfold markI; rw [if_neg fun z => q3 (by omega)])
      · have q2 : ¬ l ≤ 1 + (i : Int) := fun z => q2 (decide_eq_true z)
        exact iteF (fin 0 (by unfold markI; rw [if_neg fun z => q2 (by omega)]))
    · have q1 : ¬ (gapI dv (dotI ws)).getD (i + 2) 0 % 2 = 1 := fun z => q1 (decide_eq_true z)
      exact iteF (fin 0 (by unfold markI; rw [if_neg fun z => q1 z.1]))
  · rintro σ H' ⟨v6, v7, v8, rfl, s4, h4, hm4⟩
    rw [List.length_map, show ((ws.length : Int) + 1 - 1).toNat = ws.length by omega] at hm4
    simp only [and_assoc, rIxL, rIxT, tSl, tPart, tNoPart, gSub, rSetL, rSum, rAll, rCat, rRep, List.length_map, cxK, wipe, tYes,  tLst, tTup, tBM, rAppend, tChain, tTest, tRet, tRetN, tDrop, tSeq, tNext, tIfS, tOrV, tAndV, tNotV, tOp, tUn, tVar, tC, t2I, tCmp, tB, tAnd, tOr, tNot, tIf, tAsg, gName, tCall, tCons, tNil, rI0, rI, rU, tAdd, tSub, tMul, tCB, tAug, ipI, L2.start, List.map_cons, List.map_nil, List.cons_append, List.nil_append, List.append_nil, List.length_cons, List.length_nil, Nat.reduceSub, Nat.reduceAdd, List.replicate_succ, List.replicate_zero, List.replicate, List.set_cons_zero, List.set_cons_succ, List.getElem?_cons_zero, List.getElem?_cons_succ, Option.some.injEq, V.int.injEq, V.bl.injEq, V.ref.injEq, List.cons.injEq, and_true, true_and, exists_eq_left', exists_eq_left, exists_eq_right, exists_and_left, exists_and_right, exists_eq']
    exact k H' m s4 hm0 hm4
end
end Pd
namespace Pd
open PySem PySem.Spec PyProof.Rows L2
/-- [e for x in a list if t] by the items' places, nothing else made -/
theorem tlc_pureN {K : PySem.W.Frag} {wi : TI} {g : TG} {tt : TT} {te : TE} {vs : List Nat} {σ : L2.St} {H : Hp} {Q : VK} {a : Addr} {xs : List V} (H1 : Hp) (p : Nat → Bool) (fe : Nat → V) (hw : ∀ R : It → Hp → Prop, R (Itl K a) H1 → wi σ H R) (ha : SqL K H1 a xs) (hlen : xs.length < sizeLine)
    (hs : ∀ i x H' (Rf : Hp → Prop) (Rt : V → Hp → Prop), xs[i]? = some x → Same H1 H' → (p i = true → Rt (fe i) H') → (p i = false → Rf H') → g x (wipe σ vs) H' fun σ2 H2 => wipe σ2 vs = wipe σ vs ∧ tt σ2 H2 fun b H3 => if b = true then te σ2 H3 Rt else Rf H3)
    (hd : ∀ D, H1 D = none → Q (.ref D) (upd H1 D (.lst (((List.range xs.length).filter p).map fe)))) : tLc wi g tt te vs σ H Q := by
  refine hw _ fun D hD => lc_list (xs := xs) (fun i H' => H' = upd H1 D (.lst (((List.range i).filter p).map fe)) ∧ i ≤ xs.length) ⟨rfl, Nat.zero_le _⟩ (fun i H' _ e => ?_) (fun i x H' hi e => ?_) (fun H' e => ?_)
  · rw [e.1]
    exact (Same.new hD).seq ha
  · have hlt : i < xs.length := (List.getElem?_eq_some_iff.mp hi).1
    have e3 : ((List.range (i + 1)).filter p).map fe = if p i = true then ((List.range i).filter p).map fe ++ [fe i] else ((List.range i).filter p).map fe := by
      rw [List.range_succ, filter_snoc]
      split
      · rw [List.map_append]; rfl
      · rfl
    have hfl : (((List.range i).filter p).map fe).length < sizeLine := by
      rw [List.length_map]
      have h1 := List.length_filter_le p (List.range i)
      rw [List.length_range] at h1
      omega
    refine hs i x H' _ _ hi (by rw [e.1]; exact Same.new hD) (fun q => ?_) (fun q => ?_)
    · refine ⟨_, by rw [e.1, upd_same], hfl, ?_, hlt⟩
      rw [e.1, upd_upd, e3, if_pos q]
    · refine ⟨?_, hlt⟩
      rw [e.1, e3, if_neg (by rw [q]; decide)]
  · rw [e.1]
    exact hd D hD
/-- [e for k in range(lo, .., c)], the heap may grow -/
theorem tlc_rangeC {wi : TI} {g : TG} {te : TE} {vs : List Nat} {σ : L2.St} {H : Hp} {Q : VK} {lo c : Int} {n : Nat} (H1 : Hp) (Pv : Addr → Nat → Hp → Prop) (hw : ∀ R : It → Hp → Prop, R (Itc lo c n) H1 → wi σ H R) (h0 : ∀ D, H1 D = none → Pv D 0 (upd H1 D (.lst [])))
    (hs : ∀ D i H', H1 D = none → i < n → Pv D i H' → g (.int (lo + (i : Nat) * c)) (wipe σ vs) H' fun σ2 H2 => wipe σ2 vs = wipe σ vs ∧ (if true = true then te σ2 H2 fun y H4 => ∃ acc, H4 D = some (.lst acc) ∧ acc.length < sizeLine ∧ Pv D (i + 1) (upd H4 D (.lst (acc ++ [y]))) else Pv D (i + 1) H2))
    (hd : ∀ D H', H1 D = none → Pv D n H' → Q (.ref D) H') : tLc wi g tYes te vs σ H Q := by
  refine hw _ fun D hD => ⟨fun i m H => m = n - i ∧ i ≤ n ∧ Pv D i H, ⟨n, by simp, Nat.zero_le _, h0 D hD⟩, ?_⟩
  rintro i m H ⟨rfl, hi, p⟩
  by_cases hlt : i < n
  · refine .inr ⟨hlt, Pv D (i + 1), fun H' p' => ⟨n - (i + 1), by omega, rfl, hlt, p'⟩, fun x H' y => ?_⟩
    obtain ⟨e, y⟩ := y
    subst e y
    exact hs D i _ hD hlt p
  · have e : i = n := by omega
    subst e
    exact .inl ⟨Nat.le_refl _, hd D H hD p⟩
section
variable {P : Program} {w : World} {K : PySem.W.Frag} {mg : Str → Option Value} {base : Heap}
/-- things_of(numbers) -/
def spThings : Sp := fun vs H Q _ => ∃ (a : Addr) (ns : List Int), vs = [.ref a] ∧ IL H a ns ∧ ns.length ≤ 2000 ∧ ns.length % 4 = 0 ∧ ∀ (H' : Hp) (p : Addr), Same H H' → H p = none → LL H' p (quads ns) → Q (.ref p) H'
theorem sc_things : FnScope ["numbers", "k"] ["numbers"] (defScope (top 9)) := ⟨rfl, rfl, rfl, by decide +kernel, rfl, by decide +kernel, by decide +kernel⟩
theorem rgc4 (n : Nat) (h : n ≤ 2000) (h4 : n % 4 = 0) : RgC 0 (n : Int) 4 (n / 4) := by
  refine ⟨by decide, by decide, ?_, ?_⟩
  · unfold Builtin.Range.small
    have e : Builtin.Range.rangeSize 0 (n : Int) 4 = ((n / 4 : Nat) : Int) := by
      unfold Builtin.Range.rangeSize
      rw [if_pos (by decide)]
      split <;> omega
    have f : ∀ z : Int, 0 ≤ z → z ≤ 3000 → Builtin.Range.rangeFitsLong z = true := fun z h1 h2 => by
      unfold Builtin.Range.rangeFitsLong
      have h3 : (2 : Int) ^ 63 = 9223372036854775808 := by decide
      rw [h3]
      simp
      omega
    rw [e, f 0 (by omega) (by omega), f n (by omega) (by omega), f 4 (by omega) (by omega), f _ (by omega) (by omega), if_pos (by decide), f _ (by omega) (by omega)]
    simp
  · unfold Builtin.Range.rangeSize
    rw [if_pos (by decide)]
    split <;> omega
theorem ok_things (G : Gs mg) (D : Df K mg "things_of" (top 9) ["numbers"]) : COk P w K mg base 1 "things_of" ["numbers"] spThings := by
  refine D.ok sc_things (fun vs H Q E h => ?_) (fun f cdv A outer s H vs Q E hr h => ?_)
  · obtain ⟨a, ns, rfl, _⟩ := h
    rfl
  obtain ⟨a, ns, rfl, ha, hlen, h4, k⟩ := h
  refine ⟨_, pss_one (ps_ret (pe_lc (own := [("k", 1)]) rfl sc_things.nd (pi_range3 rfl G.range (pa_cons pe_int (pa_cons (plen G.len (pv 0)) (pa_cons (pgi G.FOUR) pa_nil)))) (blkOk_by (show blkC ["numbers", "k"] (defScope (top 9)) _ _ = true by decide +kernel))
    (fun s H C cl fp => pg_name (i := 1) sc_things.nd rfl (Or.inl rfl)) (fun s H C cl fp => pts_nil) (fun s H C cl fp => pe_slice (show SlR _ (rSlL K) from sl_list) (pv 0) (po_some (pv 1)) (po_some (pe_add (pv 1) (pgi G.FOUR)))))), ?_⟩
  simp only [and_assoc, rIxL, rIxT, tSl, tPart, tNoPart, gSub, rSetL, rSum, rAll, rCat, rRep, List.length_map, cxK, wipe, tYes,  tLst, tTup, tBM, rAppend, tChain, tTest, tRet, tRetN, tDrop, tSeq, tNext, tIfS, tOrV, tAndV, tNotV, tOp, tUn, tVar, tC, t2I, tCmp, tB, tAnd, tOr, tNot, tIf, tAsg, gName, tCall, tCons, tNil, rI0, rI, rU, tAdd, tSub, tMul, tCB, tAug, ipI, L2.start, List.map_cons, List.map_nil, List.cons_append, List.nil_append, List.append_nil, List.length_cons, List.length_nil, Nat.reduceSub, Nat.reduceAdd, List.replicate_succ, List.replicate_zero, List.replicate, List.set_cons_zero, List.set_cons_succ, List.getElem?_cons_zero, List.getElem?_cons_succ, Option.some.injEq, V.int.injEq, V.bl.injEq, V.ref.injEq, List.cons.injEq, and_true, true_and, exists_eq_left', exists_eq_left, exists_eq_right, exists_and_left, exists_and_right, exists_eq']
  have hsz : sizeLine = 16777216 := by decide
  have hql := quads_len ns
  refine tlc_rangeC (lo := 0) (c := 4) (n := ns.length / 4) H (fun D i H' => Same H H' ∧ ∃ as, LLa H' D as ((quads ns).take i) ∧ D ∉ as) (fun R r => by
    simp only [and_assoc, rIxL, rIxT, tSl, tPart, tNoPart, gSub, rSetL, rSum, rAll, rCat, rRep, List.length_map, cxK, wipe, tYes,  tLst, tTup, tBM, rAppend, tChain, tTest, tRet, tRetN, tDrop, tSeq, tNext, tIfS, tOrV, tAndV, tNotV, tOp, tUn, tVar, tC, t2I, tCmp, tB, tAnd, tOr, tNot, tIf, tAsg, gName, tCall, tCons, tNil, rI0, rI, rU, tAdd, tSub, tMul, tCB, tAug, ipI, L2.start, List.map_cons, List.map_nil, List.cons_append, List.nil_append, List.append_nil, List.length_cons, List.length_nil, Nat.reduceSub, Nat.reduceAdd, List.replicate_succ, List.replicate_zero, List.replicate, List.set_cons_zero, List.set_cons_succ, List.getElem?_cons_zero, List.getElem?_cons_succ, Option.some.injEq, V.int.injEq, V.bl.injEq, V.ref.injEq, List.cons.injEq, and_true, true_and, exists_eq_left', exists_eq_left, exists_eq_right, exists_and_left, exists_and_right, exists_eq', iRng3]
    exact ⟨ns.map V.int, .inl ha.seq, _, by rw [List.length_map]; exact rgc4 _ hlen h4, r⟩) (fun D hD => ⟨Same.new hD, [], ⟨upd_same, rfl, fun i b e => by simp at e⟩, by simp⟩) ?_ ?_
  · rintro D i H' hD hi ⟨s1, as, hL, hn⟩
    simp only [and_assoc, rIxL, rIxT, tSl, tPart, tNoPart, gSub, rSetL, rSum, rAll, rCat, rRep, List.length_map, cxK, wipe, tYes,  tLst, tTup, tBM, rAppend, tChain, tTest, tRet, tRetN, tDrop, tSeq, tNext, tIfS, tOrV, tAndV, tNotV, tOp, tUn, tVar, tC, t2I, tCmp, tB, tAnd, tOr, tNot, tIf, tAsg, gName, tCall, tCons, tNil, rI0, rI, rU, tAdd, tSub, tMul, tCB, tAug, ipI, L2.start, List.map_cons, List.map_nil, List.cons_append, List.nil_append, List.append_nil, List.length_cons, List.length_nil, Nat.reduceSub, Nat.reduceAdd, List.replicate_succ, List.replicate_zero, List.replicate, List.set_cons_zero, List.set_cons_succ, List.getElem?_cons_zero, List.getElem?_cons_succ, Option.some.injEq, V.int.injEq, V.bl.injEq, V.ref.injEq, List.cons.injEq, and_true, true_and, exists_eq_left', exists_eq_left, exists_eq_right, exists_and_left, exists_and_right, exists_eq', rSlL]
    refine iteTr ⟨_, (ha.same s1).seq, fun p hp => ?_⟩
    have s2 : Same H' (upd H' p (.lst (cutV (ns.map V.int) (some (0 + (i : Int) * 4)) (some (0 + (i : Int) * 4 + 4))))) := Same.new hp
    have ecut : cutV (ns.map V.int) (some (0 + (i : Int) * 4)) (some (0 + (i : Int) * 4 + 4)) = ((ns.drop (4 * i)).take 4).map V.int := by
      rw [cutV_nat _ _ _ (f := 4 * i) (e := 4 * i + 4) (by omega) (by omega) (by rw [List.length_map]; omega) (by rw [List.length_map]; omega), map_cut, show 4 * i + 4 - 4 * i = 4 by omega]
    rw [ecut] at s2 ⊢
    have hDp : D ≠ p := ne_of_none hL.1 hp
    have hL2 := hL.same s2
    have hp2 : IL (upd H' p (.lst (((ns.drop (4 * i)).take 4).map V.int))) p ((ns.drop (4 * i)).take 4) := upd_same
    refine ⟨_, hL2.1, by rw [List.length_map, hL.2.1, List.length_take]; omega, (s1.trans s2).put hD, as ++ [p], ?_, by simp [hn, hDp]⟩
    rw [take_snoc (quads_at ns i hi)]
    exact hL2.snoc hp2 hn (Ne.symm hDp)
  · rintro D H' hD ⟨s1, as, hL, hn⟩
    rw [← hql, List.take_length] at hL
    exact k H' D s1 hD ⟨as, hL⟩
end
end Pd
namespace Pd
open PySem PySem.Spec PyProof.Rows L2
theorem LLa.at_ {K : PySem.W.Frag} {H : Hp} {a : Addr} {as : List Addr} {xss : List (List Int)} (h : LLa H a as xss) {i : Nat} {z : Int} (e : z = (i : Int)) (hi : i < xss.length) : ∃ b, atI (as.map V.ref) z = some (.ref b) ∧ IL H b (xss.getD i []) ∧ as[i]? = some b := by
  have hi' : i < as.length := by rw [h.2.1]; exact hi
  have e1 := List.getElem?_eq_getElem hi'
  obtain ⟨xs, h1, h2⟩ := h.2.2 i _ e1
  refine ⟨as[i], at_of e (at_map e1), ?_, e1⟩
  have e3 : xss.getD i [] = xs := by rw [List.getD_eq_getElem?_getD, h1]; rfl
  rw [e3]
  exact h2
theorem LLa.cut {H H' : Hp} {a p : Addr} {as : List Addr} {xss : List (List Int)} (h : LLa H a as xss) (s : Same H H') (f n : Nat) (hp : H' p = some (.lst (((as.drop f).take n).map V.ref))) : LLa H' p ((as.drop f).take n) ((xss.drop f).take n) := by
  refine ⟨hp, by rw [List.length_take, List.length_drop, List.length_take, List.length_drop, h.2.1], fun i b e => ?_⟩
  have hin : i < n := by
    have := (List.getElem?_eq_some_iff.mp e).1
    rw [List.length_take] at this
    omega
  rw [List.getElem?_take_of_lt hin, List.getElem?_drop] at e
  obtain ⟨xs, h1, h2⟩ := h.2.2 _ b e
  exact ⟨xs, by rw [List.getElem?_take_of_lt hin, List.getElem?_drop]; exact h1, h2.same s⟩
section
variable {P : Program} {w : World} {K : PySem.W.Frag} {mg : Str → Option Value} {base : Heap}
/-- line_of(things, i, j) -/
def spLine : Sp := fun vs H Q _ => ∃ (T : Addr) (as : List Addr) (qs : List (List Int)) (i j : Int), vs = [.ref T, .int i, .int j] ∧ LLa H T as qs ∧ -1 ≤ i ∧ i < j ∧ j ≤ (qs.length : Int) ∧ qs.length ≤ 500 ∧ (∀ q ∈ qs, q.length = 4) ∧
  ∀ (H' : Hp) (p : Addr) (as' : List Addr), Same H H' → H p = none → LLa H' p as' (lineI qs (i + 1).toNat j.toNat) → Q (.ref p) H'
theorem sc_line : FnScope ["things", "i", "j", "k"] ["things", "i", "j"] (defScope (top 10)) := ⟨rfl, rfl, rfl, by decide +kernel, rfl, by decide +kernel, by decide +kernel⟩
theorem ok_line (G : Gs mg) (D : Df K mg "line_of" (top 10) ["things", "i", "j"]) : COk P w K mg base 1 "line_of" ["things", "i", "j"] spLine := by
  refine D.ok sc_line (fun vs H Q E h => ?_) (fun f cdv A outer s H vs Q E hr h => ?_)
  · obtain ⟨T, as, qs, i, j, rfl, _⟩ := h
    rfl
  obtain ⟨T, as, qs, i, j, rfl, hT, hi1, hij, hjl, hlen, hq4, k⟩ := h
  refine ⟨_, pss_cons (ps_for PassesOwn.never rfl (pi_range2 rfl G.range (pa_cons (pe_add (pv 1) pe_int) (pa_cons (pv 2) pa_nil))) (pg_name (i := 3) sc_line.nd rfl (Or.inl rfl))
    (pss_one (ps_if (pt_cmp (pc_eqI (pe_ix ix_list (pe_ix ix_list (pv 0) (pv 3) (fun _ _ => rfl)) (pgi G.KIND) (fun _ _ => rfl)) (pgi G.PRINTED))) (pss_one (ps_ret (pe_slice sl_list (pv 0) (po_some (pv 3)) (po_some (pv 2))))) pss_nil)))
    (pss_one (ps_ret (pe_lst pa_nil))), ?_⟩
  simp only [and_assoc, rIxL, rIxT, tSl, tPart, tNoPart, gSub, rSetL, rSum, rAll, rCat, rRep, List.length_map, cxK, wipe, tYes,  tLst, tTup, tBM, rAppend, tChain, tTest, tRet, tRetN, tDrop, tSeq, tNext, tIfS, tOrV, tAndV, tNotV, tOp, tUn, tVar, tC, t2I, tCmp, tB, tAnd, tOr, tNot, tIf, tAsg, gName, tCall, tCons, tNil, rI0, rI, rU, tAdd, tSub, tMul, tCB, tAug, ipI, L2.start, List.map_cons, List.map_nil, List.cons_append, List.nil_append, List.append_nil, List.length_cons, List.length_nil, Nat.reduceSub, Nat.reduceAdd, List.replicate_succ, List.replicate_zero, List.replicate, List.set_cons_zero, List.set_cons_succ, List.getElem?_cons_zero, List.getElem?_cons_succ, Option.some.injEq, V.int.injEq, V.bl.injEq, V.ref.injEq, List.cons.injEq, and_true, true_and, exists_eq_left', exists_eq_left, exists_eq_right, exists_and_left, exists_and_right, exists_eq']
  have hsz : sizeLine = 16777216 := by decide
  refine tfor_range (lo := i + 1) (n := (j - (i + 1)).toNat) (fun n σ H' => ∃ v : Option V, σ = [some (.ref T), some (.int i), some (.int j), v] ∧ H' = H ∧ ∀ m, (i + 1).toNat ≤ m → m < (i + 1).toNat + n → ¬ at4 (qs.getD m []) 0 = 0) H
    (fun R r => by
      simp only [and_assoc, rIxL, rIxT, tSl, tPart, tNoPart, gSub, rSetL, rSum, rAll, rCat, rRep, List.length_map, cxK, wipe, tYes,  tLst, tTup, tBM, rAppend, tChain, tTest, tRet, tRetN, tDrop, tSeq, tNext, tIfS, tOrV, tAndV, tNotV, tOp, tUn, tVar, tC, t2I, tCmp, tB, tAnd, tOr, tNot, tIf, tAsg, gName, tCall, tCons, tNil, rI0, rI, rU, tAdd, tSub, tMul, tCB, tAug, ipI, L2.start, List.map_cons, List.map_nil, List.cons_append, List.nil_append, List.append_nil, List.length_cons, List.length_nil, Nat.reduceSub, Nat.reduceAdd, List.replicate_succ, List.replicate_zero, List.replicate, List.set_cons_zero, List.set_cons_succ, List.getElem?_cons_zero, List.getElem?_cons_succ, Option.some.injEq, V.int.injEq, V.bl.injEq, V.ref.injEq, List.cons.injEq, and_true, true_and, exists_eq_left', exists_eq_left, exists_eq_right, exists_and_left, exists_and_right, exists_eq', iRng2]
      exact ⟨by omega, by omega, by omega, by omega, r⟩) ⟨none, rfl, rfl, fun m h1 h2 => by omega⟩ ?_ ?_
  · rintro n σ H' hn ⟨v, rfl, rfl, hno⟩
    simp only [and_assoc, rIxL, rIxT, tSl, tPart, tNoPart, gSub, rSetL, rSum, rAll, rCat, rRep, List.length_map, cxK, wipe, tYes,  tLst, tTup, tBM, rAppend, tChain, tTest, tRet, tRetN, tDrop, tSeq, tNext, tIfS, tOrV, tAndV, tNotV, tOp, tUn, tVar, tC, t2I, tCmp, tB, tAnd, tOr, tNot, tIf, tAsg, gName, tCall, tCons, tNil, rI0, rI, rU, tAdd, tSub, tMul, tCB, tAug, ipI, L2.start, List.map_cons, List.map_nil, List.cons_append, List.nil_append, List.append_nil, List.length_cons, List.length_nil, Nat.reduceSub, Nat.reduceAdd, List.replicate_succ, List.replicate_zero, List.replicate, List.set_cons_zero, List.set_cons_succ, List.getElem?_cons_zero, List.getElem?_cons_succ, Option.some.injEq, V.int.injEq, V.bl.injEq, V.ref.injEq, List.cons.injEq, and_true, true_and, exists_eq_left', exists_eq_left, exists_eq_right, exists_and_left, exists_and_right, exists_eq', rSlL]
    obtain ⟨b, hb1, hb2, hb3⟩ := hT.at_ (K := K) (i := (i + 1).toNat + n) (z := i + 1 + (n : Int)) (by omega) (by omega)
    have hmem : qs.getD ((i + 1).toNat + n) [] ∈ qs := by
      rw [List.getD_eq_getElem?_getD, List.getElem?_eq_getElem (by omega)]
      exact List.getElem_mem _
    have hq := hq4 _ hmem
    refine ⟨_, SqL.of hT.1, _, hb1, _, rfl, _, hb2.seq, _, atI_ints (i := 0) rfl (by omega), _, rfl, ?_⟩
    refine ite2 (fun q => ?_) (fun q => ?_)
    · have q := of_decide_eq_true q
      refine ⟨_, SqL.of hT.1, fun p hp => ?_⟩
      refine k _ p ((as.drop ((i + 1).toNat + n)).take (j.toNat - ((i + 1).toNat + n))) (Same.new hp) hp ?_
      rw [lineI_found (k := (i + 1).toNat + n) (by omega) (by omega) (by omega) hno q]
      refine hT.cut (Same.new hp) _ _ ?_
      rw [upd_same, cutV_nat _ _ _ (f := (i + 1).toNat + n) (e := j.toNat) (by omega) (by omega) (by rw [List.length_map, hT.2.1]; omega) (by rw [List.length_map, hT.2.1]; omega), List.map_take, List.map_drop]
    · have q : ¬ at4 (qs.getD ((i + 1).toNat + n) []) 0 = 0 := fun z => q (decide_eq_true z)
      intro m h1 h2
      by_cases e : m = (i + 1).toNat + n
      · rw [e]
        exact q
      · exact hno m h1 (by omega)
  · rintro σ H' ⟨v, rfl, rfl, hno⟩
    simp only [and_assoc, rIxL, rIxT, tSl, tPart, tNoPart, gSub, rSetL, rSum, rAll, rCat, rRep, List.length_map, cxK, wipe, tYes,  tLst, tTup, tBM, rAppend, tChain, tTest, tRet, tRetN, tDrop, tSeq, tNext, tIfS, tOrV, tAndV, tNotV, tOp, tUn, tVar, tC, t2I, tCmp, tB, tAnd, tOr, tNot, tIf, tAsg, gName, tCall, tCons, tNil, rI0, rI, rU, tAdd, tSub, tMul, tCB, tAug, ipI, L2.start, List.map_cons, List.map_nil, List.cons_append, List.nil_append, List.append_nil, List.length_cons, List.length_nil, Nat.reduceSub, Nat.reduceAdd, List.replicate_succ, List.replicate_zero, List.replicate, List.set_cons_zero, List.set_cons_succ, List.getElem?_cons_zero, List.getElem?_cons_succ, Option.some.injEq, V.int.injEq, V.bl.injEq, V.ref.injEq, List.cons.injEq, and_true, true_and, exists_eq_left', exists_eq_left, exists_eq_right, exists_and_left, exists_and_right, exists_eq']
    refine ⟨Nat.zero_le _, fun p hp => ?_⟩
    refine k _ p [] (Same.new hp) hp ?_
    rw [lineI_none (by omega) fun m h1 h2 => hno m h1 (by omega)]
    exact ⟨upd_same, rfl, fun i b e => by simp at e⟩
/-- end_width(things, j) -/
def spEnd : Sp := fun vs H Q _ => ∃ (T : Addr) (as : List Addr) (qs : List (List Int)) (j : Int), vs = [.ref T, .int j] ∧ LLa H T as qs ∧ 0 ≤ j ∧ (∀ q ∈ qs, q.length = 4) ∧ Q (.int (endW qs j.toNat)) H
theorem sc_end : FnScope ["things", "j"] ["things", "j"] (defScope (top 11)) := ⟨rfl, rfl, rfl, by decide +kernel, rfl, by decide +kernel, by decide +kernel⟩
theorem ok_end (G : Gs mg) (D : Df K mg "end_width" (top 11) ["things", "j"]) : COk P w K mg base 1 "end_width" ["things", "j"] spEnd := by
  refine D.ok sc_end (fun vs H Q E h => ?_) (fun f cdv A outer s H vs Q E hr h => ?_)
  · obtain ⟨T, as, qs, j, rfl, _⟩ := h
    rfl
  obtain ⟨T, as, qs, j, rfl, hT, hj, hq4, k⟩ := h
  refine ⟨_, pss_cons (ps_if (pw_and (pt_cmp (pc_lt (pv 1) (plen G.len (pv 0)))) (pw_and1 (pt_cmp (pc_eqI (pe_ix ix_list (pe_ix ix_list (pv 0) (pv 1) (fun _ _ => rfl)) (pgi G.KIND) (fun _ _ => rfl)) (pgi G.PLACE))))).pt
      (pss_one (ps_ret (pe_ix ix_list (pe_ix ix_list (pv 0) (pv 1) (fun _ _ => rfl)) (pgi G.WIDTH) (fun _ _ => rfl)))) pss_nil)
    (pss_one (ps_ret pe_int)), ?_⟩
  simp only [and_assoc, rIxL, rIxT, tSl, tPart, tNoPart, gSub, rSetL, rSum, rAll, rCat, rRep, List.length_map, cxK, wipe, tYes,  tLst, tTup, tBM, rAppend, tChain, tTest, tRet, tRetN, tDrop, tSeq, tNext, tIfS, tOrV, tAndV, tNotV, tOp, tUn, tVar, tC, t2I, tCmp, tB, tAnd, tOr, tNot, tIf, tAsg, gName, tCall, tCons, tNil, rI0, rI, rU, tAdd, tSub, tMul, tCB, tAug, ipI, L2.start, List.map_cons, List.map_nil, List.cons_append, List.nil_append, List.append_nil, List.length_cons, List.length_nil, Nat.reduceSub, Nat.reduceAdd, List.replicate_succ, List.replicate_zero, List.replicate, List.set_cons_zero, List.set_cons_succ, List.getElem?_cons_zero, List.getElem?_cons_succ, Option.some.injEq, V.int.injEq, V.bl.injEq, V.ref.injEq, List.cons.injEq, and_true, true_and, exists_eq_left', exists_eq_left, exists_eq_right, exists_and_left, exists_and_right, exists_eq']
  refine ⟨_, .inl (SqL.of hT.1), ?_⟩
  rw [List.length_map, hT.2.1]
  unfold endW at k
  refine ite2 (fun q => ?_) (fun q => ?_)
  · have q := of_decide_eq_true q
    obtain ⟨b, hb1, hb2, hb3⟩ := hT.at_ (K := K) (i := j.toNat) (z := j) (by omega) (by omega)
    have e := List.getElem?_eq_getElem (show j.toNat < qs.length by omega)
    have eg : qs.getD j.toNat [] = qs[j.toNat] := by rw [List.getD_eq_getElem?_getD, e]; rfl
    have hq := hq4 _ (List.getElem_mem (show j.toNat < qs.length by omega))
    rw [eg] at hb2
    rw [e] at k
    simp only at k
    refine ⟨_, SqL.of hT.1, _, hb1, _, rfl, _, hb2.seq, _, atI_ints (i := 0) rfl (by omega), _, rfl, ?_⟩
    refine ite2 (fun q2 => ?_) (fun q2 => ?_)
    · rw [if_pos (of_decide_eq_true q2)] at k
      exact ⟨_, SqL.of hT.1, _, hb1, _, rfl, _, hb2.seq, _, atI_ints (i := 1) rfl (by omega), k⟩
    · rw [if_neg (fun z => q2 (decide_eq_true z))] at k
      exact k
  · have q : ¬ j < (qs.length : Int) := fun z => q (decide_eq_true z)
    rw [List.getElem?_eq_none (by omega)] at k
    exact iteF k
end
end Pd
namespace Pd
open PySem PySem.Spec PyProof.Rows L2
theorem getD_of {α : Type} {l : List α} {i : Nat} {x d : α} (h : l[i]? = some x) : l.getD i d = x := by
  rw [List.getD_eq_getElem?_getD, h]
  rfl
section
variable {P : Program} {w : World} {K : PySem.W.Frag} {mg : Str → Option Value} {base : Heap}
/-- length_of(things, line, j) -/
def spLen : Sp := fun vs H Q _ => ∃ (T L : Addr) (as as' : List Addr) (qs line : List (List Int)) (j : Int), vs = [.ref T, .ref L, .int j] ∧ LLa H T as qs ∧ LLa H L as' line ∧ 0 ≤ j ∧ (∀ q ∈ qs, q.length = 4) ∧ (∀ q ∈ line, q.length = 4) ∧ line.length ≤ 500 ∧
  ∀ H', Same H H' → Q (.int (natW line + endW qs j.toNat)) H'
theorem sc_len : FnScope ["things", "line", "j", "thing"] ["things", "line", "j"] (defScope (top 12)) := ⟨rfl, rfl, rfl, by decide +kernel, rfl, by decide +kernel, by decide +kernel⟩
theorem ok_len (G : Gs mg) (D : Df K mg "length_of" (top 12) ["things", "line", "j"]) (C : COk P w K mg base 1 "end_width" ["things", "j"] spEnd) : COk P w K mg base 2 "length_of" ["things", "line", "j"] spLen := by
  refine D.ok sc_len (fun vs H Q E h => ?_) (fun f cdv A outer s H vs Q E hr h => ?_)
  · obtain ⟨T, L, as, as', qs, line, j, rfl, _⟩ := h
    rfl
  obtain ⟨T, L, as, as', qs, line, j, rfl, hT, hL, hj, hq4, hl4, hlen, k⟩ := h
  refine ⟨_, pss_one (ps_ret (pe_add (pe_callB (cr_sum rfl) rfl G.sum PyProof.Rows.boot_sum (pa_cons (pe_lc (own := [("thing", 3)]) rfl sc_len.nd (pi_list (pv 1)) (blkOk_by (show blkC ["things", "line", "j", "thing"] (defScope (top 12)) _ _ = true by decide +kernel))
    (fun s H C cl fp => pg_name (i := 3) sc_len.nd rfl (Or.inl rfl)) (fun s H C cl fp => pts_one (pt_cmp (pc_neI (pe_ix (show IxR _ (rIxL K) from ix_list) (pv 3) (pgi G.KIND) (fun _ _ => rfl)) (pgi G.PLACE))))
    (fun s H C cl fp => pe_ix (show IxR _ (rIxL K) from ix_list) (pv 3) (pgi G.WIDTH) (fun _ _ => rfl))) pa_nil)) (pcall C hr (pa_cons (pv 0) (pa_cons (pv 2) pa_nil))))), ?_⟩
  simp only [and_assoc, rIxL, rIxT, tSl, tPart, tNoPart, gSub, rSetL, rSum, rAll, rCat, rRep, List.length_map, cxK, wipe, tYes,  tLst, tTup, tBM, rAppend, tChain, tTest, tRet, tRetN, tDrop, tSeq, tNext, tIfS, tOrV, tAndV, tNotV, tOp, tUn, tVar, tC, t2I, tCmp, tB, tAnd, tOr, tNot, tIf, tAsg, gName, tCall, tCons, tNil, rI0, rI, rU, tAdd, tSub, tMul, tCB, tAug, ipI, L2.start, List.map_cons, List.map_nil, List.cons_append, List.nil_append, List.append_nil, List.length_cons, List.length_nil, Nat.reduceSub, Nat.reduceAdd, List.replicate_succ, List.replicate_zero, List.replicate, List.set_cons_zero, List.set_cons_succ, List.getElem?_cons_zero, List.getElem?_cons_succ, Option.some.injEq, V.int.injEq, V.bl.injEq, V.ref.injEq, List.cons.injEq, and_true, true_and, exists_eq_left', exists_eq_left, exists_eq_right, exists_and_left, exists_and_right, exists_eq']
  have hsz : sizeLine = 16777216 := by decide
  have hal : (as'.map V.ref).length = line.length := by rw [List.length_map, hL.2.1]
  refine tlc_pureN (K := K) (a := L) (xs := as'.map V.ref) H (fun i => !decide (at4 (line.getD i []) 0 = 2)) (fun i => .int (at4 (line.getD i []) 1)) (fun R r => ⟨_, rfl, L, rfl, ⟨_, SqL.of hL.1⟩, r⟩) (SqL.of hL.1) (by omega) (fun i x H' Rf Rt hi s' ht hf => ?_) (fun D hD => ?_)
  · obtain ⟨b, hb, rfl⟩ := map_at hi
    obtain ⟨q, h1, h2⟩ := hL.2.2 i b hb
    rw [getD_of h1] at ht hf
    have hq := hl4 q (List.mem_of_getElem? h1)
    simp only [and_assoc, rIxL, rIxT, tSl, tPart, tNoPart, gSub, rSetL, rSum, rAll, rCat, rRep, List.length_map, cxK, wipe, tYes,  tLst, tTup, tBM, rAppend, tChain, tTest, tRet, tRetN, tDrop, tSeq, tNext, tIfS, tOrV, tAndV, tNotV, tOp, tUn, tVar, tC, t2I, tCmp, tB, tAnd, tOr, tNot, tIf, tAsg, gName, tCall, tCons, tNil, rI0, rI, rU, tAdd, tSub, tMul, tCB, tAug, ipI, L2.start, List.map_cons, List.map_nil, List.cons_append, List.nil_append, List.append_nil, List.length_cons, List.length_nil, Nat.reduceSub, Nat.reduceAdd, List.replicate_succ, List.replicate_zero, List.replicate, List.set_cons_zero, List.set_cons_succ, List.getElem?_cons_zero, List.getElem?_cons_succ, Option.some.injEq, V.int.injEq, V.bl.injEq, V.ref.injEq, List.cons.injEq, and_true, true_and, exists_eq_left', exists_eq_left, exists_eq_right, exists_and_left, exists_and_right, exists_eq']
    refine ⟨_, (h2.same s').seq, _, atI_ints (i := 0) rfl (by omega), _, rfl, ?_⟩
    refine ite2 (fun c => ?_) (fun c => ?_)
    · exact ⟨_, (h2.same s').seq, _, atI_ints (i := 1) rfl (by omega), ht c⟩
    · exact hf (by simpa using c)
  · rw [hal, range_filter (fun q => !decide (at4 q 0 = 2)) (fun q => V.int (at4 q 1)) []]
    have s1 : Same H (upd H D (.lst ((line.filter fun q => !decide (at4 q 0 = 2)).map fun q => V.int (at4 q 1)))) := Same.new hD
    refine ⟨D, rfl, (line.filter fun q => !decide (at4 q 0 = 2)).map fun q => at4 q 1, SqL.of (by rw [upd_same, List.map_map]; rfl), ?_⟩
    exact ⟨T, as, qs, j, rfl, hT.same s1, hj, hq4, _, rfl, k _ s1⟩
/-- can_give(line, give) -/
def spCan : Sp := fun vs H Q _ => ∃ (L : Addr) (as' : List Addr) (line : List (List Int)) (g : Nat), vs = [.ref L, .int (g : Int)] ∧ LLa H L as' line ∧ g < 4 ∧ (∀ q ∈ line, q.length = 4) ∧ line.length ≤ 500 ∧ ∀ H', Same H H' → Q (.int (canI line g)) H'
theorem sc_can : FnScope ["line", "give", "thing"] ["line", "give"] (defScope (top 13)) := ⟨rfl, rfl, rfl, by decide +kernel, rfl, by decide +kernel, by decide +kernel⟩
theorem ok_can (G : Gs mg) (D : Df K mg "can_give" (top 13) ["line", "give"]) : COk P w K mg base 1 "can_give" ["line", "give"] spCan := by
  refine D.ok sc_can (fun vs H Q E h => ?_) (fun f cdv A outer s H vs Q E hr h => ?_)
  · obtain ⟨L, as', line, g, rfl, _⟩ := h
    rfl
  obtain ⟨L, as', line, g, rfl, hL, hg, hl4, hlen, k⟩ := h
  refine ⟨_, pss_one (ps_ret (pe_callB (cr_sum rfl) rfl G.sum PyProof.Rows.boot_sum (pa_cons (pe_lc (own := [("thing", 2)]) rfl sc_can.nd (pi_list (pv 0)) (blkOk_by (show blkC ["line", "give", "thing"] (defScope (top 13)) _ _ = true by decide +kernel))
    (fun s H C cl fp => pg_name (i := 2) sc_can.nd rfl (Or.inl rfl)) (fun s H C cl fp => pts_one (pt_cmp (pc_eqI (pe_ix (show IxR _ (rIxL K) from ix_list) (pv 2) (pgi G.KIND) (fun _ _ => rfl)) (pgi G.BLANK_lines))))
    (fun s H C cl fp => pe_ix (show IxR _ (rIxL K) from ix_list) (pv 2) (pv 1) (fun _ _ => rfl))) pa_nil))), ?_⟩
  simp only [and_assoc, rIxL, rIxT, tSl, tPart, tNoPart, gSub, rSetL, rSum, rAll, rCat, rRep, List.length_map, cxK, wipe, tYes,  tLst, tTup, tBM, rAppend, tChain, tTest, tRet, tRetN, tDrop, tSeq, tNext, tIfS, tOrV, tAndV, tNotV, tOp, tUn, tVar, tC, t2I, tCmp, tB, tAnd, tOr, tNot, tIf, tAsg, gName, tCall, tCons, tNil, rI0, rI, rU, tAdd, tSub, tMul, tCB, tAug, ipI, L2.start, List.map_cons, List.map_nil, List.cons_append, List.nil_append, List.append_nil, List.length_cons, List.length_nil, Nat.reduceSub, Nat.reduceAdd, List.replicate_succ, List.replicate_zero, List.replicate, List.set_cons_zero, List.set_cons_succ, List.getElem?_cons_zero, List.getElem?_cons_succ, Option.some.injEq, V.int.injEq, V.bl.injEq, V.ref.injEq, List.cons.injEq, and_true, true_and, exists_eq_left', exists_eq_left, exists_eq_right, exists_and_left, exists_and_right, exists_eq']
  have hsz : sizeLine = 16777216 := by decide
  have hal : (as'.map V.ref).length = line.length := by rw [List.length_map, hL.2.1]
  refine tlc_pureN (K := K) (a := L) (xs := as'.map V.ref) H (fun i => decide (at4 (line.getD i []) 0 = 1)) (fun i => .int (at4 (line.getD i []) g)) (fun R r => ⟨_, rfl, L, rfl, ⟨_, SqL.of hL.1⟩, r⟩) (SqL.of hL.1) (by omega) (fun i x H' Rf Rt hi s' ht hf => ?_) (fun D hD => ?_)
  · obtain ⟨b, hb, rfl⟩ := map_at hi
    obtain ⟨q, h1, h2⟩ := hL.2.2 i b hb
    rw [getD_of h1] at ht hf
    have hq := hl4 q (List.mem_of_getElem? h1)
    simp only [and_assoc, rIxL, rIxT, tSl, tPart, tNoPart, gSub, rSetL, rSum, rAll, rCat, rRep, List.length_map, cxK, wipe, tYes,  tLst, tTup, tBM, rAppend, tChain, tTest, tRet, tRetN, tDrop, tSeq, tNext, tIfS, tOrV, tAndV, tNotV, tOp, tUn, tVar, tC, t2I, tCmp, tB, tAnd, tOr, tNot, tIf, tAsg, gName, tCall, tCons, tNil, rI0, rI, rU, tAdd, tSub, tMul, tCB, tAug, ipI, L2.start, List.map_cons, List.map_nil, List.cons_append, List.nil_append, List.append_nil, List.length_cons, List.length_nil, Nat.reduceSub, Nat.reduceAdd, List.replicate_succ, List.replicate_zero, List.replicate, List.set_cons_zero, List.set_cons_succ, List.getElem?_cons_zero, List.getElem?_cons_succ, Option.some.injEq, V.int.injEq, V.bl.injEq, V.ref.injEq, List.cons.injEq, and_true, true_and, exists_eq_left', exists_eq_left, exists_eq_right, exists_and_left, exists_and_right, exists_eq']
    refine ⟨_, (h2.same s').seq, _, atI_ints (i := 0) rfl (by omega), _, rfl, ?_⟩
    refine ite2 (fun c => ?_) (fun c => ?_)
    · exact ⟨_, (h2.same s').seq, _, atI_ints (i := g) rfl (by omega), ht c⟩
    · exact hf (by simpa using c)
  · rw [hal, range_filter (fun q => decide (at4 q 0 = 1)) (fun q => V.int (at4 q g)) []]
    have s1 : Same H (upd H D (.lst ((line.filter fun q => decide (at4 q 0 = 1)).map fun q => V.int (at4 q g)))) := Same.new hD
    exact ⟨D, rfl, (line.filter fun q => decide (at4 q 0 = 1)).map fun q => at4 q g, SqL.of (by rw [upd_same, List.map_map]; rfl), k _ s1⟩
/-- part_of(t, given, s) -/
def spPartOf : Sp := fun vs H Q _ => ∃ t d s : Int, vs = [.int t, .int d, .int s] ∧ 0 ≤ t ∧ t ≤ 1000000000000 ∧ 0 ≤ s ∧ s < 1073741824 ∧ Q (.int (partI t d s)) H
theorem sc_part : FnScope ["t", "given", "s"] ["t", "given", "s"] (defScope (top 14)) := ⟨rfl, rfl, rfl, by decide +kernel, rfl, by decide +kernel, by decide +kernel⟩
theorem ok_part (G : Gs mg) (D : Df K mg "part_of" (top 14) ["t", "given", "s"]) : COk P w K mg base 1 "part_of" ["t", "given", "s"] spPartOf := by
  refine D.ok sc_part (fun vs H Q E h => ?_) (fun f cdv A outer s H vs Q E hr h => ?_)
  · obtain ⟨t, d, s, rfl, _⟩ := h
    rfl
  obtain ⟨t, d, z, rfl, h1, h2, h3, h4, k⟩ := h
  refine ⟨_, pss_cons (ps_if (pt_cmp (pc_eqI (pv 2) pe_int)) (pss_one (ps_ret pe_int)) pss_nil) (pss_one (ps_ret (pe_op op_fdiv (pe_op op_mul (pv 0) (pv 1)) (pv 2)))), ?_⟩
  simp only [and_assoc, rIxL, rIxT, tSl, tPart, tNoPart, gSub, rSetL, rSum, rAll, rCat, rRep, List.length_map, cxK, wipe, tYes,  tLst, tTup, tBM, rAppend, tChain, tTest, tRet, tRetN, tDrop, tSeq, tNext, tIfS, tOrV, tAndV, tNotV, tOp, tUn, tVar, tC, t2I, tCmp, tB, tAnd, tOr, tNot, tIf, tAsg, gName, tCall, tCons, tNil, rI0, rI, rU, tAdd, tSub, tMul, tCB, tAug, ipI, L2.start, List.map_cons, List.map_nil, List.cons_append, List.nil_append, List.append_nil, List.length_cons, List.length_nil, Nat.reduceSub, Nat.reduceAdd, List.replicate_succ, List.replicate_zero, List.replicate, List.set_cons_zero, List.set_cons_succ, List.getElem?_cons_zero, List.getElem?_cons_succ, Option.some.injEq, V.int.injEq, V.bl.injEq, V.ref.injEq, List.cons.injEq, and_true, true_and, exists_eq_left', exists_eq_left, exists_eq_right, exists_and_left, exists_and_right, exists_eq']
  unfold partI at k
  refine ite2 (fun q => ?_) (fun q => ?_)
  · rw [if_pos (of_decide_eq_true q)] at k
    exact k
  · have q : ¬ z = 0 := fun e => q (decide_eq_true e)
    rw [if_neg q] at k
    exact ⟨.inl ⟨by omega, by omega⟩, ⟨by omega, by omega⟩, k⟩
end
end Pd
namespace Pd
open PySem PySem.Spec PyProof.Rows L2
section
variable {P : Program} {w : World} {K : PySem.W.Frag} {mg : Str → Option Value} {base : Heap}
/-- blank_parts(line, give, t) -/
def spParts : Sp := fun vs H Q _ => ∃ (L : Addr) (as' : List Addr) (line : List (List Int)) (g : Nat) (t : Int), vs = [.ref L, .int (g : Int), .int t] ∧ LLa H L as' line ∧ (g = 2 ∨ g = 3) ∧ (∀ q ∈ line, okQ q) ∧ line.length ≤ 500 ∧ 0 ≤ t ∧ t ≤ 1000000000000 ∧
  ∀ (H' : Hp) (p : Addr), Same H H' → H p = none → IL H' p (partsI line g t) → Q (.ref p) H'
theorem sc_bp : FnScope ["line", "give", "t", "s", "parts", "given", "thing", "before"] ["line", "give", "t"] (defScope (top 15)) := ⟨rfl, rfl, rfl, by decide +kernel, rfl, by decide +kernel, by decide +kernel⟩
theorem ok_bp (G : Gs mg) (D : Df K mg "blank_parts" (top 15) ["line", "give", "t"]) (C1 : COk P w K mg base 1 "can_give" ["line", "give"] spCan) (C2 : COk P w K mg base 1 "part_of" ["t", "given", "s"] spPartOf) :
    COk P w K mg base 2 "blank_parts" ["line", "give", "t"] spParts := by
  refine D.ok sc_bp (fun vs H Q E h => ?_) (fun f cdv A outer s H vs Q E hr h => ?_)
  · obtain ⟨L, as', line, g, t, rfl, _⟩ := h
    rfl
  obtain ⟨L, as', line, g, t, rfl, hL, hg, hok, hlen, ht0, ht1, k⟩ := h
  have hl4 : ∀ q ∈ line, q.length = 4 := fun q hq => (hok q hq).1
  have hc := canI_le line g hg hok
  refine ⟨_, pss_cons (ps_set (i := 3) sc_bp.nd rfl (Or.inl rfl) (pcall C1 hr (pa_cons (pv 0) (pa_cons (pv 1) pa_nil))))
    (pss_cons (ps_set (i := 4) sc_bp.nd rfl (Or.inl rfl) (pe_lst pa_nil))
    (pss_cons (ps_set (i := 5) sc_bp.nd rfl (Or.inl rfl) pe_int)
    (pss_cons (ps_for PassesOwn.never rfl (pi_list (pv 0)) (pg_name (i := 6) sc_bp.nd rfl (Or.inl rfl))
      (pss_cons (ps_set (i := 7) sc_bp.nd rfl (Or.inl rfl) (pv 5))
      (pss_cons (ps_mid (ps_if (pt_cmp (pc_eqI (pe_ix ix_list (pv 6) (pgi G.KIND) (fun _ _ => rfl)) (pgi G.BLANK_lines))) (pss_one (ps_aug (i := 5) sc_bp.nd rfl (Or.inl rfl) (pe_ix ix_list (pv 6) (pv 1) (fun _ _ => rfl)) ip_add)) pss_nil))
      (pss_one (ps_expr (papp (pv 4) (pe_sub (pcall C2 hr (pa_cons (pv 2) (pa_cons (pv 5) (pa_cons (pv 3) pa_nil)))) (pcall C2 hr (pa_cons (pv 2) (pa_cons (pv 7) (pa_cons (pv 3) pa_nil)))))))))))
    (pss_one (ps_ret (pv 4)))))), ?_⟩
  simp only [and_assoc, rIxL, rIxT, tSl, tPart, tNoPart, gSub, rSetL, rSum, rAll, rCat, rRep, List.length_map, cxK, wipe, tYes,  tLst, tTup, tBM, rAppend, tChain, tTest, tRet, tRetN, tDrop, tSeq, tNext, tIfS, tOrV, tAndV, tNotV, tOp, tUn, tVar, tC, t2I, tCmp, tB, tAnd, tOr, tNot, tIf, tAsg, gName, tCall, tCons, tNil, rI0, rI, rU, tAdd, tSub, tMul, tCB, tAug, ipI, L2.start, List.map_cons, List.map_nil, List.cons_append, List.nil_append, List.append_nil, List.length_cons, List.length_nil, Nat.reduceSub, Nat.reduceAdd, List.replicate_succ, List.replicate_zero, List.replicate, List.set_cons_zero, List.set_cons_succ, List.getElem?_cons_zero, List.getElem?_cons_succ, Option.some.injEq, V.int.injEq, V.bl.injEq, V.ref.injEq, List.cons.injEq, and_true, true_and, exists_eq_left', exists_eq_left, exists_eq_right, exists_and_left, exists_and_right, exists_eq']
  have hsz : sizeLine = 16777216 := by decide
  refine ⟨L, as', line, g, rfl, hL, by omega, hl4, hlen, fun H1 s1 => ⟨Nat.zero_le _, fun p hp => ?_⟩⟩
  have hp0 := s1.free hp
  have s2 : Same H (upd H1 p (.lst [])) := s1.puts hp
  refine tfor_list (K := K) (a := L) (xs := as'.map V.ref) (fun i σ H' => ∃ v6 v7 : Option V, σ = [some (.ref L), some (.int (g : Int)), some (.int t), some (.int (canI line g)), some (.ref p), some (.int ((line.take i).foldl (bpStep g t (canI line g)) ([], 0)).2), v6, v7] ∧ Same H H' ∧ IL H' p ((line.take i).foldl (bpStep g t (canI line g)) ([], 0)).1) _
    (fun R r => ⟨_, rfl, L, rfl, ⟨_, SqL.of (s2 _ _ hL.1)⟩, r⟩) ⟨none, none, rfl, s2, by show upd _ p _ p = _; rw [upd_same]; rfl⟩ (fun i σ H' _ ⟨_, _, _, s3, _⟩ => SqL.of (s3 _ _ hL.1)) ?_ ?_
  · rintro i y σ H' hi ⟨v6, v7, rfl, s3, hp3⟩
    obtain ⟨b, hb, rfl⟩ := map_at hi
    obtain ⟨q, h1, h2⟩ := hL.2.2 i b hb
    have hq := hl4 q (List.mem_of_getElem? h1)
    have hil : i < line.length := (List.getElem?_eq_some_iff.mp h1).1
    have ef : (line.take (i + 1)).foldl (bpStep g t (canI line g)) ([], 0) = bpStep g t (canI line g) ((line.take i).foldl (bpStep g t (canI line g)) ([], 0)) q := by rw [take_snoc h1, List.foldl_append]; rfl
    have hfl := bpStep_len g t (canI line g) (line.take i) ([], 0)
    generalize (line.take i).foldl (bpStep g t (canI line g)) ([], 0) = st at hp3 ef hfl
    rw [List.length_take] at hfl
    simp only [List.length_nil] at hfl
    simp only [and_assoc, rIxL, rIxT, tSl, tPart, tNoPart, gSub, rSetL, rSum, rAll, rCat, rRep, List.length_map, cxK, wipe, tYes,  tLst, tTup, tBM, rAppend, tChain, tTest, tRet, tRetN, tDrop, tSeq, tNext, tIfS, tOrV, tAndV, tNotV, tOp, tUn, tVar, tC, t2I, tCmp, tB, tAnd, tOr, tNot, tIf, tAsg, gName, tCall, tCons, tNil, rI0, rI, rU, tAdd, tSub, tMul, tCB, tAug, ipI, L2.start, List.map_cons, List.map_nil, List.cons_append, List.nil_append, List.append_nil, List.length_cons, List.length_nil, Nat.reduceSub, Nat.reduceAdd, List.replicate_succ, List.replicate_zero, List.replicate, List.set_cons_zero, List.set_cons_succ, List.getElem?_cons_zero, List.getElem?_cons_succ, Option.some.injEq, V.int.injEq, V.bl.injEq, V.ref.injEq, List.cons.injEq, and_true, true_and, exists_eq_left', exists_eq_left, exists_eq_right, exists_and_left, exists_and_right, exists_eq']
    refine ⟨fun σ' H4 => σ' = [some (.ref L), some (.int (g : Int)), some (.int t), some (.int (canI line g)), some (.ref p), some (.int (bpStep g t (canI line g) st q).2), some (.ref b), some (.int st.2)] ∧ H4 = H', ?_, ?_⟩
    · simp only [and_assoc, rIxL, rIxT, tSl, tPart, tNoPart, gSub, rSetL, rSum, rAll, rCat, rRep, List.length_map, cxK, wipe, tYes,  tLst, tTup, tBM, rAppend, tChain, tTest, tRet, tRetN, tDrop, tSeq, tNext, tIfS, tOrV, tAndV, tNotV, tOp, tUn, tVar, tC, t2I, tCmp, tB, tAnd, tOr, tNot, tIf, tAsg, gName, tCall, tCons, tNil, rI0, rI, rU, tAdd, tSub, tMul, tCB, tAug, ipI, L2.start, List.map_cons, List.map_nil, List.cons_append, List.nil_append, List.append_nil, List.length_cons, List.length_nil, Nat.reduceSub, Nat.reduceAdd, List.replicate_succ, List.replicate_zero, List.replicate, List.set_cons_zero, List.set_cons_succ, List.getElem?_cons_zero, List.getElem?_cons_succ, Option.some.injEq, V.int.injEq, V.bl.injEq, V.ref.injEq, List.cons.injEq, and_true, true_and, exists_eq_left', exists_eq_left, exists_eq_right, exists_and_left, exists_and_right, exists_eq']
      refine ⟨_, (h2.same s3).seq, _, atI_ints (i := 0) rfl (by omega), _, rfl, ?_⟩
      unfold bpStep
      refine ite2 (fun c => ?_) (fun c => ?_)
      · refine ⟨_, (h2.same s3).seq, _, atI_ints (i := g) rfl (by omega), _, rfl, ?_⟩
        simp only [if_pos (of_decide_eq_true c)]
      · simp only [if_neg (fun z => c (decide_eq_true z))]
    · rintro σ' H4 ⟨rfl, rfl⟩
      simp only [and_assoc, rIxL, rIxT, tSl, tPart, tNoPart, gSub, rSetL, rSum, rAll, rCat, rRep, List.length_map, cxK, wipe, tYes,  tLst, tTup, tBM, rAppend, tChain, tTest, tRet, tRetN, tDrop, tSeq, tNext, tIfS, tOrV, tAndV, tNotV, tOp, tUn, tVar, tC, t2I, tCmp, tB, tAnd, tOr, tNot, tIf, tAsg, gName, tCall, tCons, tNil, rI0, rI, rU, tAdd, tSub, tMul, tCB, tAug, ipI, L2.start, List.map_cons, List.map_nil, List.cons_append, List.nil_append, List.append_nil, List.length_cons, List.length_nil, Nat.reduceSub, Nat.reduceAdd, List.replicate_succ, List.replicate_zero, List.replicate, List.set_cons_zero, List.set_cons_succ, List.getElem?_cons_zero, List.getElem?_cons_succ, Option.some.injEq, V.int.injEq, V.bl.injEq, V.ref.injEq, List.cons.injEq, and_true, true_and, exists_eq_left', exists_eq_left, exists_eq_right, exists_and_left, exists_and_right, exists_eq']
      refine ⟨tyL hp3, ?_⟩
      refine ⟨t, _, _, rfl, ht0, ht1, hc.1, by omega, t, _, _, rfl, ht0, ht1, hc.1, by omega, ?_⟩
      refine ⟨_, rfl, _, rfl, _, hp3, by rw [List.length_map]; omega, ?_⟩
      rw [ef]
      refine ⟨rfl, s3.put hp0, ?_⟩
      show upd _ p _ p = _
      rw [upd_same, map_snoc]
      rfl
  · rintro σ H' ⟨v6, v7, rfl, s3, hp3⟩
    rw [List.length_map, hL.2.1, List.take_length] at hp3
    simp only [and_assoc, rIxL, rIxT, tSl, tPart, tNoPart, gSub, rSetL, rSum, rAll, rCat, rRep, List.length_map, cxK, wipe, tYes,  tLst, tTup, tBM, rAppend, tChain, tTest, tRet, tRetN, tDrop, tSeq, tNext, tIfS, tOrV, tAndV, tNotV, tOp, tUn, tVar, tC, t2I, tCmp, tB, tAnd, tOr, tNot, tIf, tAsg, gName, tCall, tCons, tNil, rI0, rI, rU, tAdd, tSub, tMul, tCB, tAug, ipI, L2.start, List.map_cons, List.map_nil, List.cons_append, List.nil_append, List.append_nil, List.length_cons, List.length_nil, Nat.reduceSub, Nat.reduceAdd, List.replicate_succ, List.replicate_zero, List.replicate, List.set_cons_zero, List.set_cons_succ, List.getElem?_cons_zero, List.getElem?_cons_succ, Option.some.injEq, V.int.injEq, V.bl.injEq, V.ref.injEq, List.cons.injEq, and_true, true_and, exists_eq_left', exists_eq_left, exists_eq_right, exists_and_left, exists_and_right, exists_eq']
    exact k H' p s3 hp0 hp3
/-- begins(line, give, t) -/
theorem sc_beg : FnScope ["line", "give", "t", "sign", "found", "at", "thing", "part"] ["line", "give", "t"] (defScope (top 16)) := ⟨rfl, rfl, rfl, by decide +kernel, rfl, by decide +kernel, by decide +kernel⟩
def spBeg : Sp := fun vs H Q _ => ∃ (L : Addr) (as' : List Addr) (line : List (List Int)) (g : Nat) (t : Int), vs = [.ref L, .int (g : Int), .int t] ∧ LLa H L as' line ∧ (g = 2 ∨ g = 3) ∧ (∀ q ∈ line, okQ q) ∧ line.length ≤ 500 ∧ 0 ≤ t ∧ t ≤ 1000000000000 ∧
  ∀ (H' : Hp) (p : Addr), Same H H' → H p = none → IL H' p (begI line g t) → Q (.ref p) H'
theorem begStep_len (sign : Int) : ∀ (l : List (List Int × Int)) (st : List Int × Int), (l.foldl (begStep sign) st).1.length = st.1.length + l.length
  | [], st => rfl
  | q :: r, st => by
    show (r.foldl (begStep sign) (begStep sign st q)).1.length = _
    rw [begStep_len sign r]
    simp [begStep]
    omega
theorem ok_beg (G : Gs mg) (D : Df K mg "begins" (top 16) ["line", "give", "t"]) (C : COk P w K mg base 2 "blank_parts" ["line", "give", "t"] spParts) : COk P w K mg base 3 "begins" ["line", "give", "t"] spBeg := by
  refine D.ok sc_beg (fun vs H Q E h => ?_) (fun f cdv A outer s H vs Q E hr h => ?_)
  · obtain ⟨L, as', line, g, t, rfl, _⟩ := h
    rfl
  obtain ⟨L, as', line, g, t, rfl, hL, hg, hok, hlen, ht0, ht1, k⟩ := h
  have hl4 : ∀ q ∈ line, q.length = 4 := fun q hq => (hok q hq).1
  refine ⟨_, pss_cons (ps_mid (ps_set (i := 3) sc_beg.nd rfl (Or.inl rfl) (pe_ifExp (pt_cmp (pc_eqI (pv 1) (pgi G.WIDER))) pe_int (pe_un un_neg pe_int))))
    (pss_cons (ps_set (i := 4) sc_beg.nd rfl (Or.inl rfl) (pe_lst pa_nil))
    (pss_cons (ps_set (i := 5) sc_beg.nd rfl (Or.inl rfl) pe_int)
    (pss_cons (ps_for PassesOwn.never rfl (pi_zip rfl G.zip (pa_cons (pv 0) (pa_cons (pcall C hr (pa_cons (pv 0) (pa_cons (pv 1) (pa_cons (pv 2) pa_nil)))) pa_nil))) (pg_tup rfl (pgs_cons (pg_name (i := 6) sc_beg.nd rfl (Or.inl rfl)) (pgs_cons (pg_name (i := 7) sc_beg.nd rfl (Or.inl rfl)) pgs_nil)))
      (pss_cons (ps_expr (papp (pv 4) (pv 5)))
      (pss_one (ps_if (pt_cmp (pc_neI (pe_ix ix_list (pv 6) (pgi G.KIND) (fun _ _ => rfl)) (pgi G.PLACE))) (pss_one (ps_aug (i := 5) sc_beg.nd rfl (Or.inl rfl) (pe_add (pe_ix ix_list (pv 6) (pgi G.WIDTH) (fun _ _ => rfl)) (pe_op op_mul (pv 3) (pv 7))) ip_add)) pss_nil))))
    (pss_one (ps_ret (pv 4)))))), ?_⟩
  have hsz : sizeLine = 16777216 := by decide
  refine ⟨fun σ' H4 => σ' = [some (.ref L), some (.int (g : Int)), some (.int t), some (.int (if g = 2 then 1 else -1)), none, none, none, none] ∧ H4 = H, ?_, ?_⟩
  · simp only [and_assoc, rIxL, rIxT, tSl, tPart, tNoPart, gSub, rSetL, rSum, rAll, rCat, rRep, List.length_map, cxK, wipe, tYes,  tLst, tTup, tBM, rAppend, tChain, tTest, tRet, tRetN, tDrop, tSeq, tNext, tIfS, tOrV, tAndV, tNotV, tOp, tUn, tVar, tC, t2I, tCmp, tB, tAnd, tOr, tNot, tIf, tAsg, gName, tCall, tCons, tNil, rI0, rI, rU, tAdd, tSub, tMul, tCB, tAug, ipI, L2.start, List.map_cons, List.map_nil, List.cons_append, List.nil_append, List.append_nil, List.length_cons, List.length_nil, Nat.reduceSub, Nat.reduceAdd, List.replicate_succ, List.replicate_zero, List.replicate, List.set_cons_zero, List.set_cons_succ, List.getElem?_cons_zero, List.getElem?_cons_succ, Option.some.injEq, V.int.injEq, V.bl.injEq, V.ref.injEq, List.cons.injEq, and_true, true_and, exists_eq_left', exists_eq_left, exists_eq_right, exists_and_left, exists_and_right, exists_eq']
    refine ite2 (fun c => ?_) (fun c => ?_)
    · have c : g = 2 := by have := of_decide_eq_true c; omega
      simp [c]
    · have c : ¬ g = 2 := fun e => c (decide_eq_true (by omega))
      simp [c]
  rintro σ' H4 ⟨rfl, rfl⟩
  generalize hsg : (if g = 2 then (1 : Int) else -1) = sg
  have hsg1 : -1 ≤ sg ∧ sg ≤ 1 := by rw [← hsg]; split <;> omega
  simp only [and_assoc, rIxL, rIxT, tSl, tPart, tNoPart, gSub, rSetL, rSum, rAll, rCat, rRep, List.length_map, cxK, wipe, tYes,  tLst, tTup, tBM, rAppend, tChain, tTest, tRet, tRetN, tDrop, tSeq, tNext, tIfS, tOrV, tAndV, tNotV, tOp, tUn, tVar, tC, t2I, tCmp, tB, tAnd, tOr, tNot, tIf, tAsg, gName, tCall, tCons, tNil, rI0, rI, rU, tAdd, tSub, tMul, tCB, tAug, ipI, L2.start, List.map_cons, List.map_nil, List.cons_append, List.nil_append, List.append_nil, List.length_cons, List.length_nil, Nat.reduceSub, Nat.reduceAdd, List.replicate_succ, List.replicate_zero, List.replicate, List.set_cons_zero, List.set_cons_succ, List.getElem?_cons_zero, List.getElem?_cons_succ, Option.some.injEq, V.int.injEq, V.bl.injEq, V.ref.injEq, List.cons.injEq, and_true, true_and, exists_eq_left', exists_eq_left, exists_eq_right, exists_and_left, exists_and_right, exists_eq']
  refine ⟨Nat.zero_le _, fun p hp => ?_⟩
  have s1 : Same H4 (upd H4 p (.lst [])) := Same.new hp
  have hpl := partsI_len line g t
  refine ⟨_, rfl, _, rfl, _, rfl, _, rfl, L, as', line, g, t, rfl, hL.same s1, hg, hok, hlen, ht0, ht1, fun H1 pb s2 nb hb => ⟨L, pb, as'.map V.ref, (partsI line g t).map V.int, rfl, SqL.of (s2 _ _ (s1 _ _ hL.1)), hb.seq,
    for_zip (K := K) (by rw [List.length_map, List.length_map, hpl, hL.2.1]) (fun i σ H' => ∃ v6 v7 : Option V, σ = [some (.ref L), some (.int (g : Int)), some (.int t), some (.int sg), some (.ref p), some (.int (((line.zip (partsI line g t)).take i).foldl (begStep sg) ([], 0)).2), v6, v7] ∧ Same H4 H' ∧ IL H' p (((line.zip (partsI line g t)).take i).foldl (begStep sg) ([], 0)).1 ∧ IL H' pb (partsI line g t))
      ⟨none, none, rfl, s1.trans s2, s2 _ _ (by rw [upd_same]; rfl), hb⟩ (fun i σ H' _ ⟨_, _, _, s3, _, h3⟩ => ⟨SqL.of (s3 _ _ hL.1), h3.seq⟩) ?_ ?_⟩⟩
  · rintro i x y σ H' T hx hy ⟨v6, v7, rfl, s3, hp3, hb3⟩ hT
    obtain ⟨b, hbb, rfl⟩ := map_at hx
    obtain ⟨z, hz, rfl⟩ := map_at hy
    obtain ⟨q, h1, h2⟩ := hL.2.2 i b hbb
    have hq := hl4 q (List.mem_of_getElem? h1)
    have hil : i < line.length := (List.getElem?_eq_some_iff.mp h1).1
    have hzip : (line.zip (partsI line g t))[i]? = some (q, z) := by
      rw [List.getElem?_zip_eq_some]
      exact ⟨h1, hz⟩
    have ef : ((line.zip (partsI line g t)).take (i + 1)).foldl (begStep sg) ([], 0) = begStep sg (((line.zip (partsI line g t)).take i).foldl (begStep sg) ([], 0)) (q, z) := by rw [take_snoc hzip, List.foldl_append]; rfl
    have hfl := begStep_len sg ((line.zip (partsI line g t)).take i) ([], 0)
    generalize ((line.zip (partsI line g t)).take i).foldl (begStep sg) ([], 0) = st at hp3 ef hfl
    rw [List.length_take, List.length_zip] at hfl
    simp only [List.length_nil] at hfl
    have s4 : Same H' (upd H' T (.tup [.ref b, .int z])) := Same.new hT
    have hp4 := hp3.same s4
    have hb4 := hb3.same s4
    have s5 := s3.trans s4
    have h6 := (h2.same s5)
    refine ⟨T, _, rfl, SqT.of upd_same, rfl, ?_⟩
    generalize upd H' T (.tup [.ref b, .int z]) = H5 at s4 hp4 hb4 s5 h6
    have hpb : b ≠ p := ne_of_none h2 hp
    have hpbb : pb ≠ p := (upd_none nb).1
    have h7 : IL (upd H5 p (.lst (st.1.map V.int ++ [.int st.2]))) b q := by
      show upd _ p _ b = _
      rw [upd_ne hpb]
      exact h6
    have h8 : IL (upd H5 p (.lst (st.1.map V.int ++ [.int st.2]))) pb (partsI line g t) := by
      show upd _ p _ pb = _
      rw [upd_ne hpbb]
      exact hb4
    have h9 : IL (upd H5 p (.lst (st.1.map V.int ++ [.int st.2]))) p (st.1 ++ [st.2]) := by
      show upd _ p _ p = _
      rw [upd_same, map_snoc]
    have s9 : Same H4 (upd H5 p (.lst (st.1.map V.int ++ [.int st.2]))) := s5.put hp
    simp only [and_assoc, rIxL, rIxT, tSl, tPart, tNoPart, gSub, rSetL, rSum, rAll, rCat, rRep, List.length_map, cxK, wipe, tYes,  tLst, tTup, tBM, rAppend, tChain, tTest, tRet, tRetN, tDrop, tSeq, tNext, tIfS, tOrV, tAndV, tNotV, tOp, tUn, tVar, tC, t2I, tCmp, tB, tAnd, tOr, tNot, tIf, tAsg, gName, tCall, tCons, tNil, rI0, rI, rU, tAdd, tSub, tMul, tCB, tAug, ipI, L2.start, List.map_cons, List.map_nil, List.cons_append, List.nil_append, List.append_nil, List.length_cons, List.length_nil, Nat.reduceSub, Nat.reduceAdd, List.replicate_succ, List.replicate_zero, List.replicate, List.set_cons_zero, List.set_cons_succ, List.getElem?_cons_zero, List.getElem?_cons_succ, Option.some.injEq, V.int.injEq, V.bl.injEq, V.ref.injEq, List.cons.injEq, and_true, true_and, exists_eq_left', exists_eq_left, exists_eq_right, exists_and_left, exists_and_right, exists_eq', gCons, gNil]
    refine ⟨tyL hp4, _, hp4, by rw [List.length_map]; omega, _, h7.seq, _, atI_ints (i := 0) rfl (by omega), _, rfl, ?_⟩
    rw [ef]
    unfold begStep
    refine ite2 (fun c => ?_) (fun c => ?_)
    · have c : ¬ at4 q 0 = 2 := by simpa using c
      refine ⟨_, h7.seq, _, atI_ints (i := 1) rfl (by omega), .inl ⟨by omega, by omega⟩, _, rfl, ?_, s9, h9, h8⟩
      rw [if_neg c]
    · have c : at4 q 0 = 2 := by simpa using c
      refine ⟨?_, s9, h9, h8⟩
      rw [if_pos c]
  · rintro σ H' ⟨v6, v7, rfl, s3, hp3, hb3⟩
    rw [List.length_map, hL.2.1, List.take_of_length_le (by rw [List.length_zip, hpl]; omega)] at hp3
    simp only [and_assoc, rIxL, rIxT, tSl, tPart, tNoPart, gSub, rSetL, rSum, rAll, rCat, rRep, List.length_map, cxK, wipe, tYes,  tLst, tTup, tBM, rAppend, tChain, tTest, tRet, tRetN, tDrop, tSeq, tNext, tIfS, tOrV, tAndV, tNotV, tOp, tUn, tVar, tC, t2I, tCmp, tB, tAnd, tOr, tNot, tIf, tAsg, gName, tCall, tCons, tNil, rI0, rI, rU, tAdd, tSub, tMul, tCB, tAug, ipI, L2.start, List.map_cons, List.map_nil, List.cons_append, List.nil_append, List.append_nil, List.length_cons, List.length_nil, Nat.reduceSub, Nat.reduceAdd, List.replicate_succ, List.replicate_zero, List.replicate, List.set_cons_zero, List.set_cons_succ, List.getElem?_cons_zero, List.getElem?_cons_succ, Option.some.injEq, V.int.injEq, V.bl.injEq, V.ref.injEq, List.cons.injEq, and_true, true_and, exists_eq_left', exists_eq_left, exists_eq_right, exists_and_left, exists_and_right, exists_eq']
    refine k H' p s3 hp ?_
    unfold begI
    rw [hsg]
    exact hp3
/-- begins_in_width(things, i, j, width) -/
def spWidth : Sp := fun vs H Q _ => ∃ (T : Addr) (as : List Addr) (qs : List (List Int)) (i j wd : Int), vs = [.ref T, .int i, .int j, .int wd] ∧ LLa H T as qs ∧ -1 ≤ i ∧ i < j ∧ j ≤ (qs.length : Int) ∧ qs.length ≤ 500 ∧ (∀ q ∈ qs, okQ q) ∧ 0 ≤ wd ∧ wd ≤ 1000000000 ∧
  (widthI qs i j wd = none → ∀ H', Same H H' → Q .non H') ∧ ∀ l, widthI qs i j wd = some l → ∀ (H' : Hp) (p : Addr), Same H H' → H p = none → IL H' p l → Q (.ref p) H'
theorem sc_width : FnScope ["things", "i", "j", "width", "line", "missing"] ["things", "i", "j", "width"] (defScope (top 17)) := ⟨rfl, rfl, rfl, by decide +kernel, rfl, by decide +kernel, by decide +kernel⟩
theorem ok_width (G : Gs mg) (D : Df K mg "begins_in_width" (top 17) ["things", "i", "j", "width"]) (C1 : COk P w K mg base 1 "line_of" ["things", "i", "j"] spLine) (C2 : COk P w K mg base 2 "length_of" ["things", "line", "j"] spLen)
    (C3 : COk P w K mg base 3 "begins" ["line", "give", "t"] spBeg) (C4 : COk P w K mg base 1 "can_give" ["line", "give"] spCan) : COk P w K mg base 4 "begins_in_width" ["things", "i", "j", "width"] spWidth := by
  refine D.ok sc_width (fun vs H Q E h => ?_) (fun f cdv A outer s H vs Q E hr h => ?_)
  · obtain ⟨T, as, qs, i, j, wd, rfl, _⟩ := h
    rfl
  have hr1 : Room 1 _ := hr.mono (by decide)
  have hr2 : Room 2 _ := hr.mono (by decide)
  obtain ⟨T, as, qs, i, j, wd, rfl, hT, hi1, hij, hjl, hlen, hok, hw0, hw1, k1, k2⟩ := h
  refine ⟨_, pss_cons (ps_set (i := 4) sc_width.nd rfl (Or.inl rfl) (pcall C1 hr1 (pa_cons (pv 0) (pa_cons (pv 1) (pa_cons (pv 2) pa_nil)))))
    (pss_cons (ps_set (i := 5) sc_width.nd rfl (Or.inl rfl) (pe_sub (pv 3) (pcall C2 hr2 (pa_cons (pv 0) (pa_cons (pv 4) (pa_cons (pv 2) pa_nil))))))
    (pss_cons (ps_if (pt_cmp (pc_ge (pv 5) pe_int)) (pss_one (ps_ret (pcall C3 hr (pa_cons (pv 4) (pa_cons (pgi G.WIDER) (pa_cons (pv 5) pa_nil)))))) pss_nil)
    (pss_cons (ps_if (pt_cmp (pc_lt (pcall C4 hr1 (pa_cons (pv 4) (pa_cons (pgi G.NARROWER) pa_nil))) (pe_un un_neg (pv 5)))) (pss_one (ps_ret pe_non)) pss_nil)
    (pss_one (ps_ret (pcall C3 hr (pa_cons (pv 4) (pa_cons (pgi G.NARROWER) (pa_cons (pe_un un_neg (pv 5)) pa_nil))))))))), ?_⟩
  simp only [and_assoc, rIxL, rIxT, tSl, tPart, tNoPart, gSub, rSetL, rSum, rAll, rCat, rRep, List.length_map, cxK, wipe, tYes,  tLst, tTup, tBM, rAppend, tChain, tTest, tRet, tRetN, tDrop, tSeq, tNext, tIfS, tOrV, tAndV, tNotV, tOp, tUn, tVar, tC, t2I, tCmp, tB, tAnd, tOr, tNot, tIf, tAsg, gName, tCall, tCons, tNil, rI0, rI, rU, tAdd, tSub, tMul, tCB, tAug, ipI, L2.start, List.map_cons, List.map_nil, List.cons_append, List.nil_append, List.append_nil, List.length_cons, List.length_nil, Nat.reduceSub, Nat.reduceAdd, List.replicate_succ, List.replicate_zero, List.replicate, List.set_cons_zero, List.set_cons_succ, List.getElem?_cons_zero, List.getElem?_cons_succ, Option.some.injEq, V.int.injEq, V.bl.injEq, V.ref.injEq, List.cons.injEq, and_true, true_and, exists_eq_left', exists_eq_left, exists_eq_right, exists_and_left, exists_and_right, exists_eq']
  refine ⟨T, as, qs, i, j, rfl, hT, hi1, hij, hjl, hlen, fun q hq => (hok q hq).1, fun H1 L as' s1 n1 hL => ?_⟩
  have hline : ∀ q ∈ lineI qs (i + 1).toNat j.toNat, okQ q := fun q hq => hok q (lineI_mem qs _ _ q hq)
  have hll := lineI_len qs (i + 1).toNat j.toNat
  have hn0 := natW_pos _ hline
  have he0 := endW_pos qs j.toNat hok
  have hc3 := canI_le _ 3 (.inr rfl) hline
  unfold widthI at k1 k2
  simp only at k1 k2
  generalize lineI qs (i + 1).toNat j.toNat = line at hL hline hll hn0 hc3 k1 k2
  refine ⟨T, L, as, as', qs, line, j, rfl, hT.same s1, hL, by omega, fun q hq => (hok q hq).1, fun q hq => (hline q hq).1, by omega, fun H2 s2 => ?_⟩
  generalize hm : wd - (natW line + endW qs j.toNat) = ms at k1 k2
  refine ⟨_, rfl, ?_⟩
  rw [hm]
  refine ite2 (fun c => ?_) (fun c => ?_)
  · have c : 0 ≤ ms := of_decide_eq_true c
    rw [if_pos c] at k2
    exact ⟨L, as', line, 2, ms, rfl, hL.same s2, .inl rfl, hline, by omega, c, by omega, fun H3 p s3 n3 h3 => k2 _ rfl H3 p ((s1.trans s2).trans s3) ((s1.trans s2).free n3) h3⟩
  · have c : ¬ 0 ≤ ms := fun z => c (decide_eq_true z)
    rw [if_neg c] at k1 k2
    refine ⟨L, as', line, 3, rfl, hL.same s2, by omega, fun q hq => (hline q hq).1, by omega, fun H3 s3 => ⟨_, rfl, ?_⟩⟩
    refine ite2 (fun c2 => ?_) (fun c2 => ?_)
    · rw [if_pos (of_decide_eq_true c2)] at k1
      exact k1 rfl H3 ((s1.trans s2).trans s3)
    · have c2 : ¬ canI line 3 < -ms := fun z => c2 (decide_eq_true z)
      rw [if_neg c2] at k2
      exact ⟨L, as', line, 3, -ms, rfl, (hL.same s2).same s3, .inr rfl, hline, by omega, by omega, by omega, fun H4 p s4 n4 h4 => k2 _ rfl H4 p (((s1.trans s2).trans s3).trans s4) (((s1.trans s2).trans s3).free n4) h4⟩
end
end Pd
namespace Pd
open PySem PySem.Spec PyProof.Rows L2
abbrev sInit : Stmt := inClass (top 61) 0
abbrev sBegin : Stmt := inClass (top 61) 1
abbrev sTake : Stmt := inClass (top 61) 2
abbrev sParted : Stmt := inClass (top 61) 3
/-- the attributes of a Desk -/
def df (d : Addr) : List (Str × V) := putF "patterns" (.ref d) []
theorem df_p (d : Addr) : (df d).lookup ("patterns" : Str) = some (.ref d) := by
  unfold df
  rw [lookup_putF, if_pos rfl]
theorem df_no (d : Addr) {m : Str} (h : ¬ m = "patterns") : (df d).lookup m = none := by
  unfold df
  rw [lookup_putF, if_neg h]
  all_goals rfl
theorem df_put (d e : Addr) : putF "patterns" (.ref e) (df d) = df e := by
  show (if ("patterns" : Str) = "patterns" then [(("patterns" : Str), V.ref e)] else _) = ([("patterns", V.ref e)] : List (Str × V))
  rw [if_pos rfl]
/-- a Desk at p, whose patterns are the words ws; the dict's lists stand where N lets them -/
def DeskAt (N : Addr → Prop) (C : Addr) (H : Hp) (p : Addr) (ws : List (List Int)) : Prop := ∃ (dx d : Addr) (kvs : List (List Key × V)), H p = some (.ins C dx (df d)) ∧ DictAt H d kvs (dvOf ws) ∧ ∀ k a, valV kvs k = some (.ref a) → N a
theorem DeskAt.same {N : Addr → Prop} {C : Addr} {H H' : Hp} {p : Addr} {ws : List (List Int)} (h : DeskAt N C H p ws) (s : Same H H') : DeskAt N C H' p ws :=
  let ⟨dx, d, kvs, h1, h2, h3⟩ := h
  ⟨dx, d, kvs, s _ _ h1, h2.same s, h3⟩
/-- all but p stays -/
def But (p : Addr) (H H' : Hp) : Prop := ∀ b o, H b = some o → b ≠ p → H' b = some o
theorem But.of {p : Addr} {H H' : Hp} (s : Same H H') : But p H H' := fun b o e _ => s b o e
theorem But.trans {p : Addr} {H H1 H2 : Hp} (a : But p H H1) (b : But p H1 H2) : But p H H2 := fun c o e n => b c o (a c o e n) n
structure Tx (K : PySem.W.Frag) (C : Addr) : Prop where
  cl : Cls K C
  nP : NoAttr K C "patterns"
section
variable {P : Program} {w : World} {K : PySem.W.Frag} {mg : Str → Option Value} {base : Heap}
def spInit (N : Addr → Prop) (C : Addr) : Sp := fun vs H Q _ => ∃ (p dx : Addr), vs = [.ref p] ∧ H p = some (.ins C dx []) ∧ ∀ H' : Hp, DeskAt N C H' p [] → But p H H' → Q .non H'
theorem sc_init : FnScope ["self"] ["self"] (defScope sInit) := ⟨rfl, rfl, rfl, by decide +kernel, rfl, by decide +kernel, by decide +kernel⟩
theorem empty_dict {H : Hp} {d : Addr} (h : H d = some (.dT [])) : DictAt H d [] (dvOf []) := ⟨h, fun s _ => rfl, fun s v e => (by cases e), fun s s' a e => (by cases e)⟩
theorem ok_init {N : Addr → Prop} {f C : Addr} {fd : FuncData} (F : Fun K "__init__" "Desk.__init__" sInit f fd) (T : Tx K C) : FnOk P w K mg base CX0 1 f fd ["self"] (spInit N C) := by
  refine F.ok sc_init (fun vs H Q E h => ?_) (fun cdv A outer s H vs Q E hr h => ?_)
  · obtain ⟨p, dx, rfl, _⟩ := h
    rfl
  obtain ⟨p, dx, rfl, hp, k⟩ := h
  refine ⟨_, pss_one (ps_fld (pv 0) pe_dnewT rfl), ?_⟩
  refine fun d hd => ⟨_, rfl, p, C, dx, [], rfl, ?_, T.cl, T.nP, (by show 0 < 1000; decide), ?_⟩
  · exact Same.new hd _ _ hp
  · have hdp : d ≠ p := (ne_of_none hp hd).symm
    refine k _ ⟨dx, d, [], upd_same, empty_dict (by rw [upd_ne hdp, upd_same]), fun k a e => (by cases e)⟩ fun b o e hb => ?_
    rw [upd_ne hb]
    exact Same.new hd _ _ e
def spBegin (C : Addr) : Sp := fun vs H Q _ => ∃ (N : Addr → Prop) (p : Addr) (ws : List (List Int)), vs = [.ref p] ∧ DeskAt N C H p ws ∧ ∀ (H' : Hp) (r : Addr), DeskAt N C H' p [] → But p H H' → H r = none → IL H' r [0] → Q (.ref r) H'
theorem sc_begin : FnScope ["self"] ["self"] (defScope sBegin) := ⟨rfl, rfl, rfl, by decide +kernel, rfl, by decide +kernel, by decide +kernel⟩
theorem ok_begin {f C : Addr} {fd : FuncData} (F : Fun K "begin" "Desk.begin" sBegin f fd) (T : Tx K C) : FnOk P w K mg base CX0 1 f fd ["self"] (spBegin C) := by
  refine F.ok sc_begin (fun vs H Q E h => ?_) (fun cdv A outer s H vs Q E hr h => ?_)
  · obtain ⟨N, p, ws, rfl, _⟩ := h
    rfl
  obtain ⟨N, p, ws, rfl, ⟨dx, d0, kvs, hp, _⟩, k⟩ := h
  refine ⟨_, pss_cons (ps_fld (pv 0) pe_dnewT rfl) (pss_one (ps_ret (pe_lst (pa_cons pe_int pa_nil)))), ?_⟩
  refine fun d hd => ⟨_, rfl, p, C, dx, _, rfl, Same.new hd _ _ hp, T.cl, T.nP, (by show 1 < 1000; decide), ?_⟩
  have hdp : d ≠ p := (ne_of_none hp hd).symm
  rw [df_put]
  have hD : DeskAt N C (upd (upd H d (.dT [])) p (.ins C dx (df d))) p [] := ⟨dx, d, [], upd_same, empty_dict (by rw [upd_ne hdp, upd_same]), fun k a e => (by cases e)⟩
  have hB : But p H (upd (upd H d (.dT [])) p (.ins C dx (df d))) := fun b o e hb => by
    rw [upd_ne hb]
    exact Same.new hd _ _ e
  refine ⟨by decide, fun r hr' => ?_⟩
  have hrH : H r = none := (upd_none (upd_none hr').2).2
  exact k _ r (hD.same (Same.new hr')) (hB.trans (But.of (Same.new hr'))) hrH upd_same
def spTake (C : Addr) : Sp := fun vs H Q _ => ∃ (N : Addr → Prop) (p a : Addr) (ws : List (List Int)) (xs : List Int), vs = [.ref p, .ref a] ∧ DeskAt N C H p ws ∧ (∀ a, H a = none → N a) ∧ IL H a xs ∧ xs.length ≤ 5000 ∧
  ∀ (H' : Hp) (r : Addr), DeskAt N C H' p (takeW ws xs) → But p H H' → H r = none → IL H' r (takeA xs) → Q (.ref r) H'
theorem sc_take : FnScope ["self", "text", "words"] ["self", "text"] (defScope sTake) := ⟨rfl, rfl, rfl, by decide +kernel, rfl, by decide +kernel, by decide +kernel⟩
theorem ok_take {f C : Addr} {fd : FuncData} (G : Gs mg) (F : Fun K "take_patterns" "Desk.take_patterns" sTake f fd) (T : Tx K C) (C1 : COk P w K mg base 4 "is_text_of_patterns" ["text"] (spBL textI)) (C2 : COk P w K mg base 2 "words_of" ["text"] spWords)
    (C3 : COk P w K mg base 3 "patterns_of" ["words"] spPats) : FnOk P w K mg base CX0 5 f fd ["self", "text"] (spTake C) := by
  refine F.ok sc_take (fun vs H Q E h => ?_) (fun cdv A outer s H vs Q E hr h => ?_)
  · obtain ⟨N, p, a, ws, xs, rfl, _⟩ := h
    rfl
  have hr2 : Room 2 _ := hr.mono (by decide)
  have hr3 : Room 3 _ := hr.mono (by decide)
  obtain ⟨N, p, a, ws, xs, rfl, hDk, hN, ha, hlen, k⟩ := h
  refine ⟨_, pss_cons (ps_if (pt_not (pt_val (pcall C1 hr (pa_cons (pv 1) pa_nil)))) (pss_one (ps_ret (pe_lst (pa_cons (pgi G.REFUSED) pa_nil)))) pss_nil)
    (pss_cons (ps_set (i := 2) sc_take.nd rfl (Or.inl rfl) (pcall C2 hr2 (pa_cons (pv 1) pa_nil)))
    (pss_cons (ps_fld (pv 0) (pcall C3 hr3 (pa_cons (pv 2) pa_nil)) rfl)
    (pss_one (ps_ret (pe_lst (pa_cons (plen G.len (pv 2)) pa_nil)))))), ?_⟩
  simp only [and_assoc, rIxL, rIxT, tSl, tPart, tNoPart, gSub, rSetL, rSum, rAll, rCat, rRep, List.length_map, cxK, wipe, tYes,  tLst, tTup, tBM, rAppend, tChain, tTest, tRet, tRetN, tDrop, tSeq, tNext, tIfS, tOrV, tAndV, tNotV, tOp, tUn, tVar, tC, t2I, tCmp, tB, tAnd, tOr, tNot, tIf, tAsg, gName, tCall, tCons, tNil, rI0, rI, rU, tAdd, tSub, tMul, tCB, tAug, ipI, L2.start, List.map_cons, List.map_nil, List.cons_append, List.nil_append, List.append_nil, List.length_cons, List.length_nil, Nat.reduceSub, Nat.reduceAdd, List.replicate_succ, List.replicate_zero, List.replicate, List.set_cons_zero, List.set_cons_succ, List.getElem?_cons_zero, List.getElem?_cons_succ, Option.some.injEq, V.int.injEq, V.bl.injEq, V.ref.injEq, List.cons.injEq, and_true, true_and, exists_eq_left', exists_eq_left, exists_eq_right, exists_and_left, exists_and_right, exists_eq', sFld]
  unfold takeW takeA at k
  refine ⟨a, xs, rfl, ha, hlen, fun H1 s1 => ⟨_, rfl, ?_⟩⟩
  refine ite2 (fun q => ?_) (fun q => ?_)
  · have q : ¬ textI xs = true := by simpa using q
    rw [if_neg q, if_neg q] at k
    refine ⟨by decide, fun r hr' => ?_⟩
    exact k _ r (hDk.same (s1.puts hr')) (But.of (s1.puts hr')) (s1.free hr') upd_same
  · have q : textI xs = true := by simpa using q
    rw [if_pos q, if_pos q] at k
    refine ⟨a, xs, rfl, ha.same s1, hlen, fun H2 pw s2 n2 h2 => ?_⟩
    have hwl := wordsI_len xs
    refine ⟨pw, wordsI xs, rfl, h2, by omega, fun ww hw => Nat.le_trans (wordsI_mem xs ww hw) hlen, fun H3 d kvs s3 n3 h3 hf3 => ?_⟩
    have s13 := (s1.trans s2).trans s3
    obtain ⟨dx, d0, kvs0, hp, _, _⟩ := hDk.same s13
    refine ⟨C, dx, df d0, hp, T.cl, T.nP, (by show 1 < 1000; decide), ?_⟩
    have hdp : d ≠ p := fun e => by
      rw [e] at n3
      obtain ⟨dx', d0', kvs0', hp', _⟩ := hDk.same (s1.trans s2)
      exact ne_of_none hp' n3 rfl
    obtain ⟨as, h2a⟩ := h2
    have hpw : pw ≠ p := fun e => by
      rw [e] at n2
      obtain ⟨dx', d0', kvs0', hp', _⟩ := hDk.same s1
      exact ne_of_none hp' n2 rfl
    rw [df_put]
    have hD : DeskAt N C (upd H3 p (.ins C dx (df d))) p (wordsI xs) := by
      refine ⟨dx, d, kvs, upd_same, ⟨by rw [upd_ne hdp]; exact h3.dt, h3.no, fun k v e => ?_, h3.inj⟩, fun k a e => hN a ((s1.trans s2).free (hf3 k a e))⟩
      obtain ⟨c, e1, e2⟩ := h3.yes k v e
      refine ⟨c, e1, ?_⟩
      show upd _ p _ c = _
      rw [upd_ne (ne_of e2 hp (fun z => nomatch z))]
      exact e2
    have hB : But p H (upd H3 p (.ins C dx (df d))) := fun b o e hb => by
      rw [upd_ne hb]
      exact s13 _ _ e
    refine ⟨pw, rfl, _, .inl (SqL.of (by rw [upd_ne hpw]; exact (h2a.same s3).1)), by decide, fun r hr' => ?_⟩
    have hrH : H r = none := s13.free (upd_none hr').2
    refine k _ r (hD.same (Same.new hr')) (hB.trans (But.of (Same.new hr'))) hrH ?_
    show upd _ r _ r = _
    rw [upd_same, List.length_map, h2a.2.1]
    rfl
def spParted (C : Addr) : Sp := fun vs H Q _ => ∃ (N : Addr → Prop) (p a : Addr) (ws : List (List Int)) (l r : Int) (xs : List Int), vs = [.ref p, .int l, .int r, .ref a] ∧ DeskAt N C H p ws ∧ IL H a xs ∧ xs.length ≤ 64 ∧
  ∀ (H' : Hp) (q : Addr), Same H H' → H q = none → IL H' q (partA ws l r xs) → Q (.ref q) H'
theorem sc_parted : FnScope ["self", "left", "right", "word", "marks"] ["self", "left", "right", "word"] (defScope sParted) := ⟨rfl, rfl, rfl, by decide +kernel, rfl, by decide +kernel, by decide +kernel⟩
theorem ok_parted {f C : Addr} {fd : FuncData} (G : Gs mg) (F : Fun K "parted" "Desk.parted" sParted f fd) (T : Tx K C) (C1 : COk P w K mg base 3 "can_be_asked" ["left", "right", "word"] spAsk) (C2 : COk P w K mg base 4 "partings" ["patterns", "left", "right", "word"] spMarks) :
    FnOk P w K mg base CX0 5 f fd ["self", "left", "right", "word"] (spParted C) := by
  refine F.ok sc_parted (fun vs H Q E h => ?_) (fun cdv A outer s H vs Q E hr h => ?_)
  · obtain ⟨N, p, a, ws, l, r, xs, rfl, _⟩ := h
    rfl
  have hr3 : Room 3 _ := hr.mono (by decide)
  obtain ⟨N, p, a, ws, l, r, xs, rfl, hDk, ha, hlen, k⟩ := h
  refine ⟨_, pss_cons (ps_if (pt_not (pt_val (pcall C1 hr3 (pa_cons (pv 1) (pa_cons (pv 2) (pa_cons (pv 3) pa_nil)))))) (pss_one (ps_ret (pe_lst (pa_cons (pgi G.REFUSED) pa_nil)))) pss_nil)
    (pss_cons (ps_set (i := 4) sc_parted.nd rfl (Or.inl rfl) (pcall C2 hr (pa_cons (pe_fld (pv 0) rfl) (pa_cons (pv 1) (pa_cons (pv 2) (pa_cons (pv 3) pa_nil))))))
    (pss_one (ps_ret (pe_op op_cat (pe_lst (pa_cons (pe_callB (cr_sum rfl) rfl G.sum PyProof.Rows.boot_sum (pa_cons (pv 4) pa_nil)) pa_nil)) (pv 4))))), ?_⟩
  simp only [and_assoc, rIxL, rIxT, tSl, tPart, tNoPart, gSub, rSetL, rSum, rAll, rCat, rRep, List.length_map, cxK, wipe, tYes,  tLst, tTup, tBM, rAppend, tChain, tTest, tRet, tRetN, tDrop, tSeq, tNext, tIfS, tOrV, tAndV, tNotV, tOp, tUn, tVar, tC, t2I, tCmp, tB, tAnd, tOr, tNot, tIf, tAsg, gName, tCall, tCons, tNil, rI0, rI, rU, tAdd, tSub, tMul, tCB, tAug, ipI, L2.start, List.map_cons, List.map_nil, List.cons_append, List.nil_append, List.append_nil, List.length_cons, List.length_nil, Nat.reduceSub, Nat.reduceAdd, List.replicate_succ, List.replicate_zero, List.replicate, List.set_cons_zero, List.set_cons_succ, List.getElem?_cons_zero, List.getElem?_cons_succ, Option.some.injEq, V.int.injEq, V.bl.injEq, V.ref.injEq, List.cons.injEq, and_true, true_and, exists_eq_left', exists_eq_left, exists_eq_right, exists_and_left, exists_and_right, exists_eq', tFld]
  have hsz : sizeLine = 16777216 := by decide
  unfold partA at k
  refine ⟨l, r, a, xs, rfl, ha, by omega, fun H1 s1 => ⟨_, rfl, ?_⟩⟩
  refine ite2 (fun q => ?_) (fun q => ?_)
  · have q : ¬ askI l r xs = true := by simpa using q
    rw [if_neg q] at k
    refine ⟨by decide, fun n hn => ?_⟩
    exact k _ n (s1.puts hn) (s1.free hn) upd_same
  · have q : askI l r xs = true := by simpa using q
    rw [if_pos q] at k
    obtain ⟨dx, d, kvs, hp, hD, _⟩ := hDk.same s1
    refine ⟨C, dx, df d, hp, T.cl, T.nP, _, df_p d, ?_⟩
    refine ⟨d, a, kvs, dvOf ws, l, r, xs, rfl, hD, dvOf_len ws, ha.same s1, hlen, fun H2 m s2 n2 h2 => ?_⟩
    refine ⟨m, rfl, _, h2.seq, by decide, fun u hu => ?_⟩
    have hml : (marksI (dvOf ws) l r xs).length = xs.length := by unfold marksI; rw [List.length_map, List.length_range]
    have s3 : Same H2 (upd H2 u (.lst [.int (marksI (dvOf ws) l r xs).sum])) := Same.new hu
    refine ⟨m, rfl, _, upd_same, _, h2.same s3, by rw [List.length_map, hml, List.length_singleton]; omega, fun v hv => ?_⟩
    have s4 := ((s1.trans s2).trans s3).puts hv (o := .lst ([V.int (marksI (dvOf ws) l r xs).sum] ++ (marksI (dvOf ws) l r xs).map V.int))
    exact k _ v s4 (((s1.trans s2).trans s3).free hv) upd_same
/-- places(width, i, j, numbers) -/
def spPlaces : Sp := fun vs H Q _ => ∃ (a : Addr) (wd i j : Int) (ns : List Int), vs = [.int wd, .int i, .int j, .ref a] ∧ IL H a ns ∧ ns.length ≤ 2000 ∧ ns.length % 4 = 0 ∧ -1 ≤ i ∧ i < j ∧ 4 * j ≤ (ns.length : Int) ∧ 0 ≤ wd ∧ wd ≤ 1000000000 ∧ (∀ q ∈ quads ns, okQ q) ∧
  ∀ (H' : Hp) (q : Addr), Same H H' → H q = none → IL H' q (placeA wd i j ns) → Q (.ref q) H'
theorem sc_places : FnScope ["width", "i", "j", "numbers", "found"] ["width", "i", "j", "numbers"] (defScope (top 62)) := ⟨rfl, rfl, rfl, by decide +kernel, rfl, by decide +kernel, by decide +kernel⟩
theorem begI_len (line : List (List Int)) (g : Nat) (t : Int) : (begI line g t).length = line.length := by
  unfold begI
  rw [begStep_len, List.length_zip, partsI_len]
  simp
theorem widthI_len {qs : List (List Int)} {i j wd : Int} {l : List Int} (h : widthI qs i j wd = some l) : l.length ≤ qs.length := by
  unfold widthI at h
  simp only at h
  have hl := lineI_len qs (i + 1).toNat j.toNat
  split at h
  · have e := Option.some.inj h
    rw [← e, begI_len]
    exact hl
  · split at h
    · cases h
    · have e := Option.some.inj h
      rw [← e, begI_len]
      exact hl
theorem ok_places (G : Gs mg) (D : Df K mg "places" (top 62) ["width", "i", "j", "numbers"]) (C1 : COk P w K mg base 1 "things_of" ["numbers"] spThings) (C2 : COk P w K mg base 4 "begins_in_width" ["things", "i", "j", "width"] spWidth) :
    COk P w K mg base 5 "places" ["width", "i", "j", "numbers"] spPlaces := by
  refine D.ok sc_places (fun vs H Q E h => ?_) (fun f cdv A outer s H vs Q E hr h => ?_)
  · obtain ⟨a, wd, i, j, ns, rfl, _⟩ := h
    rfl
  have hr1 : Room 1 _ := hr.mono (by decide)
  obtain ⟨a, wd, i, j, ns, rfl, ha, hlen, h4, hi1, hij, hjl, hw0, hw1, hok, k⟩ := h
  refine ⟨_, pss_cons (ps_set (i := 4) sc_places.nd rfl (Or.inl rfl) (pcall C2 hr (pa_cons (pcall C1 hr1 (pa_cons (pv 3) pa_nil)) (pa_cons (pv 1) (pa_cons (pv 2) (pa_cons (pv 0) pa_nil))))))
    (pss_cons (ps_if (pt_cmp (pc_isN (pv 4))) (pss_one (ps_ret (pe_lst (pa_cons (pgi G.REFUSED) pa_nil)))) pss_nil)
    (pss_one (ps_ret (pe_op op_cat (pe_lst (pa_cons (plen G.len (pv 4)) pa_nil)) (pv 4))))), ?_⟩
  simp only [and_assoc, rIxL, rIxT, tSl, tPart, tNoPart, gSub, rSetL, rSum, rAll, rCat, rRep, List.length_map, cxK, wipe, tYes,  tLst, tTup, tBM, rAppend, tChain, tTest, tRet, tRetN, tDrop, tSeq, tNext, tIfS, tOrV, tAndV, tNotV, tOp, tUn, tVar, tC, t2I, tCmp, tB, tAnd, tOr, tNot, tIf, tAsg, gName, tCall, tCons, tNil, rI0, rI, rU, tAdd, tSub, tMul, tCB, tAug, ipI, L2.start, List.map_cons, List.map_nil, List.cons_append, List.nil_append, List.append_nil, List.length_cons, List.length_nil, Nat.reduceSub, Nat.reduceAdd, List.replicate_succ, List.replicate_zero, List.replicate, List.set_cons_zero, List.set_cons_succ, List.getElem?_cons_zero, List.getElem?_cons_succ, Option.some.injEq, V.int.injEq, V.bl.injEq, V.ref.injEq, List.cons.injEq, and_true, true_and, exists_eq_left', exists_eq_left, exists_eq_right, exists_and_left, exists_and_right, exists_eq', tIsN]
  have hsz : sizeLine = 16777216 := by decide
  have hql := quads_len ns
  refine ⟨a, ns, rfl, ha, hlen, h4, fun H1 T s1 n1 ⟨as, h1⟩ => ?_⟩
  refine ⟨T, as, quads ns, i, j, wd, rfl, h1, hi1, hij, by omega, by omega, hok, hw0, hw1, fun e H2 s2 => ?_, fun l e H2 p s2 n2 h2 => ?_⟩
  · unfold placeA at k
    rw [e] at k
    rw [if_pos (by decide)]
    refine ⟨by decide, fun r hr' => ?_⟩
    exact k _ r ((s1.trans s2).puts hr') ((s1.trans s2).free hr') upd_same
  · unfold placeA at k
    rw [e] at k
    have hll := widthI_len e
    rw [if_neg (by rw [decide_eq_false (fun z => nomatch z)]; decide)]
    refine ⟨p, rfl, _, .inl h2.seq, by decide, fun u hu => ?_⟩
    have s3 : Same H2 (upd H2 u (.lst [.int ((l.map V.int).length : Int)])) := Same.new hu
    refine ⟨p, rfl, _, upd_same, _, h2.same s3, by rw [List.length_map, List.length_singleton]; omega, fun v hv => ?_⟩
    have s4 := ((s1.trans s2).trans s3).puts hv (o := .lst ([V.int ((l.map V.int).length : Int)] ++ l.map V.int))
    refine k _ v s4 (((s1.trans s2).trans s3).free hv) ?_
    show upd _ v _ v = _
    rw [upd_same, List.length_map]
    rfl
end
end Pd
namespace Pd
open PySem PySem.Spec PyProof.Rows L2
/-- the module's dict {1: 0, 2: 2, 4: 3} -/
def Ahead (K : PySem.W.Frag) (mg : Str → Option Value) : Prop := ∃ (d : Addr) (t1 u1 t2 u2 t3 u3 : Tok) (n : Nat), mg "NUMBERS_AHEAD" = some (.ref d) ∧
  K.lookup d = some { cls := .type "dict", data := .dict #[{ hash := 1, key := .int 1 t1, val := .int 0 u1 }, { hash := 2, key := .int 2 t2, val := .int 2 u2 }, { hash := 4, key := .int 4 t3, val := .int 3 u3 }] n }
def tAhead (ty : TE) : TE := fun σ H Q => ty σ H fun y H1 => ∃ z k : Int, y = .int z ∧ ((z = 1 ∧ k = 0) ∨ (z = 2 ∧ k = 2) ∨ (z = 4 ∧ k = 3)) ∧ Q (.int k) H1
theorem pe_ahead {X : Cx} {i : Expr} {ty : TE} {p pos : Pos} (h : Ahead X.K X.mg) (hi : PE X i ty) (hs : NoSl i) (hg : Gl X "NUMBERS_AHEAD" := by rfl) : PE X (.Subscript (.Name "NUMBERS_AHEAD" p) i pos) (tAhead ty) := by
  obtain ⟨d, t1, u1, t2, u2, t3, u3, n, hm, hl⟩ := h
  intro pins s σ H Q I hq
  refine subD_of PySem.F.slot_dict_getitem.lookup hs (ld_glob I hg hm ?_)
  refine thn (hi pins s σ H _ I hq) fun iv s2 ⟨y, H2, I2, ry, z, k, ey, hz, q⟩ => ?_
  subst ey
  have hk := I2.kIn d _ hl
  have dd : s2.heap.DictOf (mixKind X.prog X.w) d [((Sum.inl 1 : Key), .int 0 u1), (Sum.inl 2, .int 2 u2), (Sum.inl 4, .int 3 u3)] := by
    refine ⟨_, _, n, hk, ⟨rfl, rfl, rfl⟩, rfl, ?_, ?_, ?_⟩
    · intro e he
      have he : e = { hash := 1, key := .int 1 t1, val := .int 0 u1 } ∨ e = { hash := 2, key := .int 2 t2, val := .int 2 u2 } ∨ e = { hash := 4, key := .int 4 t3, val := .int 3 u3 } := by simpa using he
      rcases he with rfl | rfl | rfl
      · exact ⟨Sum.inl 1, mixKind_int X.prog X.w 1 t1, (by show (1 : Int) = hashInt 1; decide +kernel)⟩
      · exact ⟨Sum.inl 2, mixKind_int X.prog X.w 2 t2, (by show (2 : Int) = hashInt 2; decide +kernel)⟩
      · exact ⟨Sum.inl 4, mixKind_int X.prog X.w 4 t3, (by show (4 : Int) = hashInt 4; decide +kernel)⟩
    · exact .cons (mixKind_int X.prog X.w 1 t1) rfl (.cons (mixKind_int X.prog X.w 2 t2) rfl (.cons (mixKind_int X.prog X.w 4 t3) rfl .nil))
    · show ([Sum.inl 1, Sum.inl 2, Sum.inl 4] : List Key).Nodup
      decide
  refine ⟨dd.typeIs, ?_⟩
  rcases hz with ⟨e1, e2⟩ | ⟨e1, e2⟩ | ⟨e1, e2⟩
  · subst e1 e2
    exact wpAny_getItem_of (kV_is (k := Sum.inl 1) ry) dd.mapOf (v := .int 0 u1) rfl ⟨.int 0, H2, I2.tok _, ⟨u1, rfl⟩, q⟩
  · subst e1 e2
    exact wpAny_getItem_of (kV_is (k := Sum.inl 2) ry) dd.mapOf (v := .int 2 u2) rfl ⟨.int 2, H2, I2.tok _, ⟨u2, rfl⟩, q⟩
  · subst e1 e2
    exact wpAny_getItem_of (kV_is (k := Sum.inl 4) ry) dd.mapOf (v := .int 3 u3) rfl ⟨.int 3, H2, I2.tok _, ⟨u3, rfl⟩, q⟩
end Pd
namespace Pd
open PySem PySem.Spec PyProof.Rows L2
/-- the tuple at t is the call c; its lists are not the one at p, and new over H0 -/
def ClAt (H0 H : Hp) (p t : Addr) (c : Cl) : Prop := ∃ n r : Addr, H t = some (.tup [.int c.1, .ref n, .ref r]) ∧ IL H n c.2.1 ∧ IL H r c.2.2 ∧ n ≠ p ∧ r ≠ p ∧ H0 n = none ∧ H0 r = none
theorem ClAt.same {H0 H H' : Hp} {p t : Addr} {c : Cl} (h : ClAt H0 H p t c) (s : Same H H') : ClAt H0 H' p t c := let ⟨n, r, h1, h2, h3, h4⟩ := h; ⟨n, r, s _ _ h1, h2.same s, h3.same s, h4⟩
/-- the list at a holds the calls cs, whose tuples stand at ts -/
def ClsAt (H0 H : Hp) (a : Addr) (ts : List Addr) (cs : List Cl) : Prop := H a = some (.lst (ts.map V.ref)) ∧ ts.length = cs.length ∧ ∀ (i : Nat) (t : Addr), ts[i]? = some t → ∃ c, cs[i]? = some c ∧ ClAt H0 H a t c
theorem ClsAt.same {H0 H H' : Hp} {a : Addr} {ts : List Addr} {cs : List Cl} (h : ClsAt H0 H a ts cs) (s : Same H H') : ClsAt H0 H' a ts cs :=
  ⟨s _ _ h.1, h.2.1, fun i t e => let ⟨c, h1, h2⟩ := h.2.2 i t e; ⟨c, h1, h2.same s⟩⟩
theorem ClAt.put {H0 H : Hp} {p t : Addr} {c : Cl} {xs : List V} {o : HO} (h : ClAt H0 H p t c) (hp : H p = some (.lst xs)) : ClAt H0 (upd H p o) p t c := by
  obtain ⟨n, r, h1, h2, h3, h4, h5⟩ := h
  refine ⟨n, r, by rw [upd_ne (ne_of h1 hp (fun z => nomatch z))]; exact h1, ?_, ?_, h4, h5⟩
  · show upd _ p _ n = _
    rw [upd_ne h4]
    exact h2
  · show upd _ p _ r = _
    rw [upd_ne h5.1]
    exact h3
/-- one more call: the list at a alone is changed -/
theorem ClsAt.snoc {H0 H : Hp} {a t : Addr} {ts : List Addr} {cs : List Cl} {c : Cl} (h : ClsAt H0 H a ts cs) (hc : ClAt H0 H a t c) : ClsAt H0 (upd H a (.lst (ts.map V.ref ++ [.ref t]))) a (ts ++ [t]) (cs ++ [c]) := by
  refine ⟨by rw [upd_same, List.map_append]; rfl, by simp [h.2.1], fun i x e => ?_⟩
  by_cases hi : i < ts.length
  · rw [List.getElem?_append_left hi] at e
    obtain ⟨d, e1, e2⟩ := h.2.2 i x e
    exact ⟨d, by rw [List.getElem?_append_left (by rw [← h.2.1]; exact hi)]; exact e1, e2.put h.1⟩
  · rw [List.getElem?_append_right (by omega)] at e
    have hi0 : i - ts.length = 0 := by
      by_cases q : i - ts.length = 0
      · exact q
      · rw [List.getElem?_eq_none (by simp; omega)] at e
        cases e
    rw [hi0] at e
    have e : t = x := Option.some.inj e
    subst e
    refine ⟨c, ?_, hc.put h.1⟩
    rw [List.getElem?_append_right (by rw [← h.2.1]; omega), ← h.2.1, hi0]
    rfl
theorem drop_at {l A : List Int} {n : Nat} (h : l.drop n = A) (i : Nat) : l[n + i]? = A[i]? := by
  rw [← h, List.getElem?_drop]
theorem drop_cut {l A B C : List Int} {n : Nat} (h : l.drop n = A ++ (B ++ C)) : (l.drop (n + A.length)).take B.length = B := by
  have e : l.drop (n + A.length) = B ++ C := by
    rw [← List.drop_drop, h, List.drop_append_of_le_length (Nat.le_refl _), List.drop_length]
    rfl
  rw [e, List.take_append_of_le_length (Nat.le_refl _), List.take_length]
/-- the calls split so far: those before at' -/
def SInv (H : Hp) (a p : Addr) (ns : List Int) (cs : List Cl) (m : Nat) (σ : L2.St) (H' : Hp) : Prop :=
  ∃ (at' : Nat) (v3 v4 v5 : Option V) (ts : List Addr) (done rest : List Cl), σ = [some (.ref a), some (.ref p), some (.int (at' : Int)), v3, v4, v5] ∧ Same H H' ∧ ClsAt H H' p ts done ∧ done ++ rest = cs ∧ Parses (ns.drop at') rest ∧ m = ns.length - at' ∧ at' ≤ ns.length ∧ done.length ≤ at'
section
variable {P : Program} {w : World} {K : PySem.W.Frag} {mg : Str → Option Value} {base : Heap}
/-- split_calls(calls) -/
def spSplit (K : PySem.W.Frag) : Sp := fun vs H Q _ => ∃ (a : Addr) (ns : List Int) (cs : List Cl), vs = [.ref a] ∧ SqL K H a (ns.map V.int) ∧ ns.length ≤ 30000 ∧ Parses ns cs ∧
  ∀ (H' : Hp) (p : Addr) (ts : List Addr), Same H H' → H p = none → ClsAt H H' p ts cs → Q (.ref p) H'
theorem sc_split : FnScope ["calls", "parts", "at", "call", "count_at", "end"] ["calls"] (defScope (top 63)) := ⟨rfl, rfl, rfl, by decide +kernel, rfl, by decide +kernel, by decide +kernel⟩
theorem ok_split (G : Gs mg) (A0 : Ahead K mg) (D : Df K mg "split_calls" (top 63) ["calls"]) : COk P w K mg base 1 "split_calls" ["calls"] (spSplit K) := by
  refine D.ok sc_split (fun vs H Q E h => ?_) (fun f cdv A outer s H vs Q E hr h => ?_)
  · obtain ⟨a, ns, cs, rfl, _⟩ := h
    rfl
  obtain ⟨a, ns, cs, rfl, ha, hlen, hP, k⟩ := h
  refine ⟨_, pss_cons (ps_set (i := 1) sc_split.nd rfl (Or.inl rfl) (pe_lst pa_nil)) (pss_cons (ps_set (i := 2) sc_split.nd rfl (Or.inl rfl) pe_int)
    (pss_cons (ps_while PassesOwn.never (pt_cmp (pc_lt (pv 2) (plen G.len (pv 0))))
      (pss_cons (ps_set (i := 3) sc_split.nd rfl (Or.inl rfl) (pe_ix ix_list (pv 0) (pv 2) (fun _ _ => rfl)))
      (pss_one (ps_if (pt_cmp (pc_eqI (pv 3) (pgi G.BEGIN)))
        (pss_cons (ps_expr (papp (pv 1) (pe_tup (pa_cons (pv 3) (pa_cons (pe_lst pa_nil) (pa_cons (pe_lst pa_nil) pa_nil)))))) (pss_one (ps_aug (i := 2) sc_split.nd rfl (Or.inl rfl) pe_int ip_add)))
        (pss_cons (ps_set (i := 4) sc_split.nd rfl (Or.inl rfl) (pe_add (pe_add (pv 2) pe_int) (pe_ahead A0 (pv 3) (fun _ _ => rfl))))
        (pss_cons (ps_set (i := 5) sc_split.nd rfl (Or.inl rfl) (pe_add (pe_add (pv 4) pe_int) (pe_ix ix_list (pv 0) (pv 4) (fun _ _ => rfl))))
        (pss_cons (ps_expr (papp (pv 1) (pe_tup (pa_cons (pv 3) (pa_cons (pe_slice sl_list (pv 0) (po_some (pe_add (pv 2) pe_int)) (po_some (pv 4))) (pa_cons (pe_slice sl_list (pv 0) (po_some (pe_add (pv 4) pe_int)) (po_some (pv 5))) pa_nil))))))
        (pss_one (ps_set (i := 2) sc_split.nd rfl (Or.inl rfl) (pv 5))))))))))
    (pss_one (ps_ret (pv 1))))), ?_⟩
  simp only [and_assoc, rIxL, rIxT, tSl, tPart, tNoPart, gSub, rSetL, rSum, rAll, rCat, rRep, List.length_map, cxK, wipe, tYes,  tLst, tTup, tBM, rAppend, tChain, tTest, tRet, tRetN, tDrop, tSeq, tNext, tIfS, tOrV, tAndV, tNotV, tOp, tUn, tVar, tC, t2I, tCmp, tB, tAnd, tOr, tNot, tIf, tAsg, gName, tCall, tCons, tNil, rI0, rI, rU, tAdd, tSub, tMul, tCB, tAug, ipI, L2.start, List.map_cons, List.map_nil, List.cons_append, List.nil_append, List.append_nil, List.length_cons, List.length_nil, Nat.reduceSub, Nat.reduceAdd, List.replicate_succ, List.replicate_zero, List.replicate, List.set_cons_zero, List.set_cons_succ, List.getElem?_cons_zero, List.getElem?_cons_succ, Option.some.injEq, V.int.injEq, V.bl.injEq, V.ref.injEq, List.cons.injEq, and_true, true_and, exists_eq_left', exists_eq_left, exists_eq_right, exists_and_left, exists_and_right, exists_eq']
  have hsz : sizeLine = 16777216 := by decide
  refine ⟨Nat.zero_le _, fun p hp => ?_⟩
  refine ⟨SInv H a p ns cs,
    ⟨_, 0, none, none, none, [], [], cs, rfl, Same.new hp, ⟨upd_same, rfl, fun i t e => by simp at e⟩, rfl, hP, rfl, Nat.zero_le _, Nat.le_refl _⟩, ?_⟩
  rintro m σ H' ⟨at', v3, v4, v5, ts, done, rest, rfl, s1, hC, hdr, hP', rfl, hat, hdl⟩
  simp only [and_assoc, rIxL, rIxT, tSl, tPart, tNoPart, gSub, rSetL, rSum, rAll, rCat, rRep, List.length_map, cxK, wipe, tYes,  tLst, tTup, tBM, rAppend, tChain, tTest, tRet, tRetN, tDrop, tSeq, tNext, tIfS, tOrV, tAndV, tNotV, tOp, tUn, tVar, tC, t2I, tCmp, tB, tAnd, tOr, tNot, tIf, tAsg, gName, tCall, tCons, tNil, rI0, rI, rU, tAdd, tSub, tMul, tCB, tAug, ipI, L2.start, List.map_cons, List.map_nil, List.cons_append, List.nil_append, List.append_nil, List.length_cons, List.length_nil, Nat.reduceSub, Nat.reduceAdd, List.replicate_succ, List.replicate_zero, List.replicate, List.set_cons_zero, List.set_cons_succ, List.getElem?_cons_zero, List.getElem?_cons_succ, Option.some.injEq, V.int.injEq, V.bl.injEq, V.ref.injEq, List.cons.injEq, and_true, true_and, exists_eq_left', exists_eq_left, exists_eq_right, exists_and_left, exists_and_right, exists_eq']
  refine ⟨_, .inl (s1.seq ha), ?_⟩
  rw [List.length_map]
  refine ite2 (fun c => ?_) (fun c => ?_)
  · have c : (at' : Int) < (ns.length : Int) := of_decide_eq_true c
    refine ⟨fun σ' H2 => ∃ m', m' < ns.length - at' ∧ SInv H a p ns cs m' σ' H2, fun σ' H2 q => q, ?_⟩
    generalize hA : ns.drop at' = A at hP'
    cases hP' with
    | nil =>
      have := congrArg List.length hA
      rw [List.length_drop] at this
      simp at this
      omega
    | @beg r cs' hr' =>
      have e0 : ns[at']? = some 0 := by have := drop_at hA 0; simpa using this
      refine ⟨_, s1.seq ha, _, at_of rfl (at_map e0), _, rfl, ?_⟩
      refine ite2 (fun c0 => ?_) (fun c0 => absurd (decide_eq_true rfl) c0)
      refine ⟨tyL hC.1, Nat.zero_le _, fun p1 n1 => ⟨Nat.zero_le _, fun p2 n2 => ⟨by decide, fun p3 n3 => ?_⟩⟩⟩
      have s2 : Same H' (upd H' p1 (.lst [])) := Same.new n1
      have s3 := s2.puts n2 (o := .lst [])
      have s4 := s3.puts n3 (o := .tup [.int 0, .ref p1, .ref p2])
      have hC4 := hC.same s4
      have hp2 : p2 ≠ p1 := (upd_none n2).1
      have h1 : IL (upd (upd (upd H' p1 (.lst [])) p2 (.lst [])) p3 (.tup [.int 0, .ref p1, .ref p2])) p1 [] := by
        have : IL (upd H' p1 (.lst [])) p1 [] := upd_same
        exact (this.same (Same.new n2)).same (Same.new n3)
      have h2 : IL (upd (upd (upd H' p1 (.lst [])) p2 (.lst [])) p3 (.tup [.int 0, .ref p1, .ref p2])) p2 [] := by
        have : IL (upd (upd H' p1 (.lst [])) p2 (.lst [])) p2 [] := upd_same
        exact this.same (Same.new n3)
      have np1 : p1 ≠ p := (ne_of_none hC.1 n1).symm
      have np2 : p2 ≠ p := (ne_of_none hC.1 (upd_none n2).2).symm
      have hc : ClAt H (upd (upd (upd H' p1 (.lst [])) p2 (.lst [])) p3 (.tup [.int 0, .ref p1, .ref p2])) p p3 (0, [], []) := ⟨p1, p2, upd_same, h1, h2, np1, np2, s1.free n1, s1.free (upd_none n2).2⟩
      refine ⟨_, hC4.1, by rw [List.length_map, hC.2.1]; omega, _, ?_, at' + 1, _, _, _, ts ++ [p3], done ++ [(0, [], [])], cs', rfl, (s1.trans s4).put hp, hC4.snoc hc, by rw [← hdr]; simp, ?_, rfl, by omega, by rw [List.length_append]; simp; omega⟩
      · omega
      · rw [← List.drop_drop, hA]
        exact hr'
    | @call p' nums row t cs' hp' ht =>
      have e0 : ns[at']? = some p' := by have := drop_at hA 0; simpa using this
      have hne : ¬ p' = 0 := by rcases hp' with q | q | q <;> omega
      have hAl := congrArg List.length hA
      rw [List.length_drop] at hAl
      simp only [List.length_cons, List.length_append] at hAl
      refine ⟨_, s1.seq ha, _, at_of rfl (at_map e0), _, rfl, ?_⟩
      rw [if_neg (fun z => hne (of_decide_eq_true z))]
      refine ⟨_, rfl, p', (nums.length : Int), rfl, by rcases hp' with q | q | q <;> omega, _, rfl, _, s1.seq ha, _, at_of (j := at' + (1 + nums.length)) (by omega) (at_map ?_), (row.length : Int), rfl, tyL hC.1, ?_⟩
      · rw [drop_at hA, Nat.add_comm 1, List.getElem?_cons_succ, List.getElem?_append_right (Nat.le_refl _), Nat.sub_self]
        rfl
      have ec1 : cutV (ns.map V.int) (some ((at' : Int) + 1)) (some ((at' : Int) + 1 + (nums.length : Int))) = nums.map V.int := by
        rw [cutV_nat _ _ _ (f := at' + 1) (e := at' + 1 + nums.length) (by omega) (by omega) (by rw [List.length_map]; omega) (by rw [List.length_map]; omega), map_cut, show at' + 1 + nums.length - (at' + 1) = nums.length by omega]
        have e4 := drop_cut (A := [p']) (B := nums) (C := (row.length : Int) :: (row ++ t)) hA
        rw [show ([p'] : List Int).length = 1 from rfl] at e4
        rw [e4]
      have ec2 : cutV (ns.map V.int) (some ((at' : Int) + 1 + (nums.length : Int) + 1)) (some ((at' : Int) + 1 + (nums.length : Int) + 1 + (row.length : Int))) = row.map V.int := by
        rw [cutV_nat _ _ _ (f := at' + (nums.length + 2)) (e := at' + (nums.length + 2) + row.length) (by omega) (by omega) (by rw [List.length_map]; omega) (by rw [List.length_map]; omega), map_cut, show at' + (nums.length + 2) + row.length - (at' + (nums.length + 2)) = row.length by omega]
        have e3 : ns.drop at' = (p' :: (nums ++ [(row.length : Int)])) ++ (row ++ t) := by rw [hA]; simp
        have e4 := drop_cut e3
        rw [show (p' :: (nums ++ [(row.length : Int)])).length = nums.length + 2 by simp] at e4
        rw [e4]
      refine ⟨a, _, rfl, s1.seq ha, fun p1 n1 => ?_⟩
      rw [ec1]
      have s2 : Same H' (upd H' p1 (.lst (nums.map V.int))) := Same.new n1
      refine ⟨a, _, rfl, (s1.trans s2).seq ha, fun p2 n2 => ⟨by decide, fun p3 n3 => ?_⟩⟩
      rw [ec2] at n3 ⊢
      have s3 := s2.puts n2 (o := .lst (row.map V.int))
      have s4 := s3.puts n3 (o := .tup [.int p', .ref p1, .ref p2])
      have hC4 := hC.same s4
      have h1 : IL (upd (upd (upd H' p1 (.lst (nums.map V.int))) p2 (.lst (row.map V.int))) p3 (.tup [.int p', .ref p1, .ref p2])) p1 nums := by
        have : IL (upd H' p1 (.lst (nums.map V.int))) p1 nums := upd_same
        exact (this.same (Same.new n2)).same (Same.new n3)
      have h2 : IL (upd (upd (upd H' p1 (.lst (nums.map V.int))) p2 (.lst (row.map V.int))) p3 (.tup [.int p', .ref p1, .ref p2])) p2 row := by
        have : IL (upd (upd H' p1 (.lst (nums.map V.int))) p2 (.lst (row.map V.int))) p2 row := upd_same
        exact this.same (Same.new n3)
      have np1 : p1 ≠ p := (ne_of_none hC.1 n1).symm
      have np2 : p2 ≠ p := (ne_of_none hC.1 (upd_none n2).2).symm
      have hc : ClAt H (upd (upd (upd H' p1 (.lst (nums.map V.int))) p2 (.lst (row.map V.int))) p3 (.tup [.int p', .ref p1, .ref p2])) p p3 (p', nums, row) := ⟨p1, p2, upd_same, h1, h2, np1, np2, s1.free n1, s1.free (upd_none n2).2⟩
      refine ⟨_, hC4.1, by rw [List.length_map, hC.2.1]; omega, _, ?_, at' + (nums.length + 2 + row.length), some (.int p'), some (.int ((at' : Int) + 1 + (nums.length : Int))), some (.int ((at' : Int) + 1 + (nums.length : Int) + 1 + (row.length : Int))), ts ++ [p3], done ++ [(p', nums, row)], cs', ?_, (s1.trans s4).put hp, hC4.snoc hc, by rw [← hdr]; simp, ?_, rfl, by omega, by rw [List.length_append]; simp; omega⟩
      · omega
      · have e5 : ((at' + (nums.length + 2 + row.length) : Nat) : Int) = (at' : Int) + 1 + (nums.length : Int) + 1 + (row.length : Int) := by omega
        rw [e5]
      · rw [← List.drop_drop, hA]
        have e6 : (p' :: (nums ++ (row.length : Int) :: (row ++ t))) = (p' :: (nums ++ (row.length : Int) :: row)) ++ t := by simp
        rw [e6, List.drop_append_of_le_length (by simp; omega), List.drop_of_length_le (by simp; omega)]
        exact ht
  · have c : ¬ (at' : Int) < (ns.length : Int) := fun z => c (decide_eq_true z)
    have e : at' = ns.length := by omega
    subst e
    rw [List.drop_length] at hP'
    cases hP'
    rw [List.append_nil] at hdr
    subst hdr
    exact k H' p ts s1 hp hC
end
end Pd
namespace Pd
open PySem PySem.Spec PyProof.Rows L2
theorem stepA_len (ws : List (List Int)) (c : Cl) (h : OkCl c) : (stepA ws c).length ≤ 600 := by
  unfold stepA
  split
  · unfold takeA
    split <;> simp
  · split
    · rename_i h1 h2
      unfold partA
      split
      · unfold marksI
        rw [List.length_cons, List.length_map, List.length_range]
        rcases h with q | q | q | q <;> omega
      · simp
    · split
      · rename_i h1 h2 h3
        unfold placeA
        have hq := quads_len c.2.2
        cases e : widthI (quads c.2.2) (c.2.1.getD 1 0) (c.2.1.getD 2 0) (c.2.1.getD 0 0) with
        | none => simp
        | some l =>
          have hl := widthI_len e
          show (_ :: l).length ≤ 600
          rw [List.length_cons]
          rcases h with q | q | q | q <;> omega
      · simp
section
variable {P : Program} {w : World} {K : PySem.W.Frag} {mg : Str → Option Value} {base : Heap}
/-- answer(desk, call, numbers, row) -/
def spAnswer (C : Addr) : Sp := fun vs H Q _ => ∃ (N : Addr → Prop) (p n r : Addr) (ws : List (List Int)) (c : Cl), vs = [.ref p, .int c.1, .ref n, .ref r] ∧ DeskAt N C H p ws ∧ (∀ a, H a = none → N a) ∧ IL H n c.2.1 ∧ IL H r c.2.2 ∧ OkCl c ∧
  ∀ (H' : Hp) (q : Addr), DeskAt N C H' p (stepW ws c) → But p H H' → H q = none → IL H' q (stepA ws c) → Q (.ref q) H'
theorem sc_answer : FnScope ["desk", "call", "numbers", "row"] ["desk", "call", "numbers", "row"] (defScope (top 64)) := ⟨rfl, rfl, rfl, by decide +kernel, rfl, by decide +kernel, by decide +kernel⟩
theorem ok_answer {C fB fT fP : Addr} {fdB fdT fdP : FuncData} (G : Gs mg) (D : Df K mg "answer" (top 64) ["desk", "call", "numbers", "row"]) (T : Tx K C)
    (GB : FnOk P w K mg base CX0 1 fB fdB ["self"] (spBegin C)) (bB : Binds K fdB ["self"] []) (mB : Meth K C "begin" fB)
    (GT : FnOk P w K mg base CX0 5 fT fdT ["self", "text"] (spTake C)) (bT : Binds K fdT ["self", "text"] []) (mT : Meth K C "take_patterns" fT)
    (GP : FnOk P w K mg base CX0 5 fP fdP ["self", "left", "right", "word"] (spParted C)) (bP : Binds K fdP ["self", "left", "right", "word"] []) (mP : Meth K C "parted" fP)
    (C1 : COk P w K mg base 5 "places" ["width", "i", "j", "numbers"] spPlaces) : COk P w K mg base 6 "answer" ["desk", "call", "numbers", "row"] (spAnswer C) := by
  refine D.ok sc_answer (fun vs H Q E h => ?_) (fun f cdv A outer s H vs Q E hr h => ?_)
  · obtain ⟨N, p, n, r, ws, c, rfl, _⟩ := h
    rfl
  have hr1 : Room 1 _ := hr.mono (by decide)
  obtain ⟨N, p, n, r, ws, ⟨c, nums, row⟩, rfl, hDk, hN, hn, hrw, hok, k⟩ := h
  have hix := fun (i : Nat) (h : i < nums.length) => atI_ints (z := (i : Int)) rfl h
  refine ⟨_, pss_cons (ps_if (pt_cmp (pc_eqI (pv 1) (pgi G.PATTERNS))) (pss_one (ps_ret (pe_meth (pv 0) T.cl mT GT hr bT .nil pass0 (pa_cons (pv 3) pa_nil)))) pss_nil)
    (pss_cons (ps_if (pt_cmp (pc_eqI (pv 1) (pgi G.PARTED))) (pss_one (ps_ret (pe_meth (pv 0) T.cl mP GP hr bP .nil pass0 (pa_cons (pe_ix ix_list (pv 2) pe_int (fun _ _ => rfl)) (pa_cons (pe_ix ix_list (pv 2) pe_int (fun _ _ => rfl)) (pa_cons (pv 3) pa_nil)))))) pss_nil)
    (pss_cons (ps_if (pt_cmp (pc_eqI (pv 1) (pgi G.PLACES))) (pss_one (ps_ret (pcall C1 hr (pa_cons (pe_ix ix_list (pv 2) pe_int (fun _ _ => rfl)) (pa_cons (pe_ix ix_list (pv 2) pe_int (fun _ _ => rfl)) (pa_cons (pe_ix ix_list (pv 2) pe_int (fun _ _ => rfl)) (pa_cons (pv 3) pa_nil))))))) pss_nil)
    (pss_one (ps_ret (pe_meth0 (pv 0) T.cl mB GB hr1 bB .nil pass0))))), ?_⟩
  simp only [and_assoc, rIxL, rIxT, tSl, tPart, tNoPart, gSub, rSetL, rSum, rAll, rCat, rRep, List.length_map, cxK, wipe, tYes,  tLst, tTup, tBM, rAppend, tChain, tTest, tRet, tRetN, tDrop, tSeq, tNext, tIfS, tOrV, tAndV, tNotV, tOp, tUn, tVar, tC, t2I, tCmp, tB, tAnd, tOr, tNot, tIf, tAsg, gName, tCall, tCons, tNil, rI0, rI, rU, tAdd, tSub, tMul, tCB, tAug, ipI, L2.start, List.map_cons, List.map_nil, List.cons_append, List.nil_append, List.append_nil, List.length_cons, List.length_nil, Nat.reduceSub, Nat.reduceAdd, List.replicate_succ, List.replicate_zero, List.replicate, List.set_cons_zero, List.set_cons_succ, List.getElem?_cons_zero, List.getElem?_cons_succ, Option.some.injEq, V.int.injEq, V.bl.injEq, V.ref.injEq, List.cons.injEq, and_true, true_and, exists_eq_left', exists_eq_left, exists_eq_right, exists_and_left, exists_and_right, exists_eq', tMeth]
  have hDk0 := hDk
  obtain ⟨dx, d, kvs, hp, _, _⟩ := hDk0
  unfold stepW stepA at k
  unfold OkCl at hok
  simp only at k hok hn hrw
  refine ite2 (fun q => ?_) (fun q => ?_)
  · have q := of_decide_eq_true q
    rw [if_pos q, if_pos q] at k
    exact ⟨dx, _, hp, df_no _ (by decide +kernel), N, p, r, ws, row, rfl, hDk, hN, hrw, by rcases hok with z | z | z | z <;> omega, k⟩
  · have q : ¬ c = 1 := fun z => q (decide_eq_true z)
    rw [if_neg q, if_neg q] at k
    refine ite2 (fun q2 => ?_) (fun q2 => ?_)
    · have q2 := of_decide_eq_true q2
      rw [if_pos q2, if_pos q2] at k
      have hnl : nums.length = 2 := by rcases hok with z | z | z | z <;> omega
      refine ⟨dx, _, hp, df_no _ (by decide +kernel), _, hn.seq, _, hix 0 (by omega), _, hn.seq, _, hix 1 (by omega), ?_⟩
      exact ⟨N, p, r, ws, _, _, row, rfl, hDk, hrw, by rcases hok with z | z | z | z <;> omega, fun H' x s1 n1 h1 => k H' x (hDk.same s1) (But.of s1) n1 h1⟩
    · have q2 : ¬ c = 2 := fun z => q2 (decide_eq_true z)
      rw [if_neg q2, if_neg q2] at k
      refine ite2 (fun q3 => ?_) (fun q3 => ?_)
      · have q3 := of_decide_eq_true q3
        rw [if_pos q3, if_pos q3] at k
        rcases hok with z | z | z | z
        · omega
        · omega
        · omega
        · obtain ⟨_, hnl, h1, h2, h3, h4, h5, h6, h7, h8⟩ := z
          refine ⟨_, hn.seq, _, hix 0 (by omega), _, hn.seq, _, hix 1 (by omega), _, hn.seq, _, hix 2 (by omega), ?_⟩
          exact ⟨r, _, _, _, row, rfl, hrw, h1, h2, h3, h4, h5, h6, h7, h8, fun H' x s1 n1 h1 => k H' x (hDk.same s1) (But.of s1) n1 h1⟩
      · have q3 : ¬ c = 4 := fun z => q3 (decide_eq_true z)
        rw [if_neg q3, if_neg q3] at k
        exact ⟨dx, _, hp, df_no _ (by decide +kernel), N, p, ws, rfl, hDk, k⟩
end
end Pd
namespace Pd
open PySem PySem.Spec PyProof.Rows L2
section
variable {X : Cx}
/-- o.extend(e) -/
theorem pext {o e : Expr} {to te : TE} {apos cpos : Pos} (ho : PE X o to) (he : PE X e te)
    (hbase : attributeBase o "extend" X.env (eval o X.env) = eval o X.env := by rfl)
    (hfew : ((backTo cpos (starEach [e] X.env)).all (fun x => !x.1) && (backToKw cpos (keywordEach [] X.env)).all (fun x => x.1.isSome)
      && decide (([e] : List Expr).length + ([] : List Keyword).length + (if ([] : List Keyword).isEmpty then 0 else 1) < 30)) = true := by rfl)
    (hline : (apos.endLine == cpos.line) = true := by rfl) (hs : starEach [e] X.env = (false, eval e X.env) :: starEach [] X.env := by rfl) (hplain : (backTo cpos (starEach [] X.env)).any (·.1) = false := by rfl) :
    PE X (.Call (.Attribute o "extend" apos) [e] [] cpos) (tBM X.K "list" rExtend to (tCons te tNil)) :=
  pe_bm PySem.F.plainAttrs_list PySem.F.slot_list_extend PySem.F.type_list_extend mt_extend ho (pa_cons he pa_nil hs) hbase hfew hline hs hplain
end
/-- the list at g is another one: the Desk stays -/
theorem DeskAt.put {C : Addr} {H : Hp} {p g : Addr} {ws : List (List Int)} {xs : List V} {o : HO} (h : DeskAt (fun a => a ≠ g) C H p ws) (hg : H g = some (.lst xs)) : DeskAt (fun a => a ≠ g) C (upd H g o) p ws := by
  obtain ⟨dx, d, kvs, h1, h2, h3⟩ := h
  refine ⟨dx, d, kvs, by rw [upd_ne (ne_of h1 hg (fun z => nomatch z))]; exact h1, ⟨by rw [upd_ne (ne_of h2.dt hg (fun z => nomatch z))]; exact h2.dt, h2.no, fun k v e => ?_, h2.inj⟩, h3⟩
  obtain ⟨c, e1, e2⟩ := h2.yes k v e
  refine ⟨c, e1, ?_⟩
  show upd _ g _ c = _
  rw [upd_ne (h3 _ _ e1)]
  exact e2
theorem afold_len : ∀ (cs : List Cl) (st : List (List Int) × List Int), (∀ c ∈ cs, OkCl c) → (cs.foldl aStep st).2.length ≤ st.2.length + 601 * cs.length
  | [], st, _ => Nat.le_refl _
  | c :: r, st, h => by
    have ih := afold_len r (aStep st c) fun x hx => h x (List.mem_cons_of_mem _ hx)
    have hc := stepA_len st.1 c (h c (List.mem_cons_self ..))
    show (r.foldl aStep (aStep st c)).2.length ≤ _
    have e : (aStep st c).2.length = st.2.length + ((stepA st.1 c).length + 1) := by
      unfold aStep
      simp
    rw [e] at ih
    rw [List.length_cons]
    omega
section
variable {P : Program} {w : World} {K : PySem.W.Frag} {mg : Str → Option Value} {base : Heap}
/-- answers(calls) -/
def spAns (K : PySem.W.Frag) : Sp := fun vs H Q _ => ∃ (a : Addr) (ns : List Int) (cs : List Cl), vs = [.ref a] ∧ SqL K H a (ns.map V.int) ∧ ns.length ≤ 30000 ∧ Parses ns cs ∧ (∀ c ∈ cs, OkCl c) ∧ cs.length ≤ 100 ∧
  ∀ (H' : Hp) (p : Addr), IL H' p (cs.foldl aStep ([], [])).2 → Q (.ref p) H'
theorem sc_ans : FnScope ["calls", "desk", "given", "call", "numbers", "row", "answered"] ["calls"] (defScope (top 65)) := ⟨rfl, rfl, rfl, by decide +kernel, rfl, by decide +kernel, by decide +kernel⟩
theorem ok_ans {f C fI : Addr} {fd fdI : FuncData} (F : Fun K "answers" "answers" (top 65) f fd) (G : Gs mg) (mgC : mg "Desk" = some (.ref C)) (M : Mk K C fI) (GI' : ∀ N, FnOk P w K mg base CX0 1 fI fdI ["self"] (spInit N C)) (bI : Binds K fdI ["self"] [])
    (C1 : COk P w K mg base 1 "split_calls" ["calls"] (spSplit K)) (C2 : COk P w K mg base 6 "answer" ["desk", "call", "numbers", "row"] (spAnswer C)) : FnOk P w K mg base CX0 7 f fd ["calls"] (spAns K) := by
  refine F.ok sc_ans (fun vs H Q E h => ?_) (fun cdv A outer s H vs Q E hr h => ?_)
  · obtain ⟨a, ns, cs, rfl, _⟩ := h
    rfl
  have hr1 : Room 1 _ := hr.mono (by decide)
  have hr2 : Room 2 _ := hr.mono (by decide)
  obtain ⟨a, ns, cs, rfl, ha, hlen, hP, hok, hcl, k⟩ := h
  -- the promise of __init__ for lists that are not at an address still to come
  have GI0 : FnOk P w K mg base CX0 1 fI fdI ["self"] (fun vs H Q E => ∃ (p dx : Addr), vs = [.ref p] ∧ H p = some (.ins C dx []) ∧ ∀ H' : Hp, (∀ g : Addr, DeskAt (fun a => a ≠ g) C H' p []) → But p H H' → Q .non H') := by
    refine (GI' fun _ => False).imp fun vs H Q E h => ?_
    obtain ⟨p, dx, e, hp, k⟩ := h
    refine ⟨p, dx, e, hp, fun H' hD hB => k H' (fun g => ?_) hB⟩
    obtain ⟨dx', d, kvs, h1, h2, h3⟩ := hD
    exact ⟨dx', d, kvs, h1, h2, fun k a e => (h3 k a e).elim⟩
  refine ⟨_, pss_cons (ps_set (i := 1) sc_ans.nd rfl (Or.inl rfl) (pe_make0 M GI0 hr2 rfl mgC bI .nil pass0))
    (pss_cons (ps_set (i := 2) sc_ans.nd rfl (Or.inl rfl) (pe_lst pa_nil))
    (pss_cons (ps_for PassesOwn.never rfl (pi_list (pcall C1 hr1 (pa_cons (pv 0) pa_nil))) (pg_tup rfl (pgs_cons (pg_name (i := 3) sc_ans.nd rfl (Or.inl rfl)) (pgs_cons (pg_name (i := 4) sc_ans.nd rfl (Or.inl rfl)) (pgs_cons (pg_name (i := 5) sc_ans.nd rfl (Or.inl rfl)) pgs_nil))))
      (pss_cons (ps_set (i := 6) sc_ans.nd rfl (Or.inl rfl) (pcall C2 hr (pa_cons (pv 1) (pa_cons (pv 3) (pa_cons (pv 4) (pa_cons (pv 5) pa_nil))))))
      (pss_cons (ps_expr (papp (pv 2) (plen G.len (pv 6)))) (pss_one (ps_expr (pext (pv 2) (pv 6)))))))
    (pss_one (ps_ret (pv 2))))), ?_⟩
  have hsz : sizeLine = 16777216 := by decide
  simp only [and_assoc, rIxL, rIxT, tSl, tPart, tNoPart, gSub, rSetL, rSum, rAll, rCat, rRep, List.length_map, cxK, wipe, tYes,  tLst, tTup, tBM, rAppend, tChain, tTest, tRet, tRetN, tDrop, tSeq, tNext, tIfS, tOrV, tAndV, tNotV, tOp, tUn, tVar, tC, t2I, tCmp, tB, tAnd, tOr, tNot, tIf, tAsg, gName, tCall, tCons, tNil, rI0, rI, rU, tAdd, tSub, tMul, tCB, tAug, ipI, L2.start, List.map_cons, List.map_nil, List.cons_append, List.nil_append, List.append_nil, List.length_cons, List.length_nil, Nat.reduceSub, Nat.reduceAdd, List.replicate_succ, List.replicate_zero, List.replicate, List.set_cons_zero, List.set_cons_succ, List.getElem?_cons_zero, List.getElem?_cons_succ, Option.some.injEq, V.int.injEq, V.bl.injEq, V.ref.injEq, List.cons.injEq, and_true, true_and, exists_eq_left', exists_eq_left, exists_eq_right, exists_and_left, exists_and_right, exists_eq', tMake]
  intro p dx np ndx ndxp
  refine ⟨⟨dx, upd_same⟩, fun H1 hD1 hB1 => ⟨Nat.zero_le _, fun g hg => ?_⟩⟩
  have s1 : Same H H1 := Same.made np ndx hB1
  have s2 : Same H1 (upd H1 g (.lst [])) := Same.new hg
  have hDg := (hD1 g).same s2
  have hgl : IL (upd H1 g (.lst [])) g [] := upd_same
  generalize upd H1 g (.lst []) = H2 at s2 hDg hgl
  have hpg : p ≠ g := by
    obtain ⟨_, _, _, h1, _⟩ := hDg
    exact ne_of h1 hgl (fun z => nomatch z)
  refine ⟨_, rfl, a, ns, cs, rfl, (s1.trans s2).seq ha, hlen, hP, fun H3 pl ts s3 n3 hC => ⟨pl, rfl, ⟨_, SqL.of hC.1⟩,
    for_list (K := K) (a := pl) (xs := ts.map V.ref) (fun i σ H' => ∃ v3 v4 v5 v6 : Option V, σ = [some (.ref a), some (.ref p), some (.ref g), v3, v4, v5, v6] ∧ (∀ b o, H3 b = some o → b ≠ p → b ≠ g → H' b = some o) ∧
        DeskAt (fun a => a ≠ g) C H' p ((cs.take i).foldl aStep ([], [])).1 ∧ IL H' g ((cs.take i).foldl aStep ([], [])).2)
      ⟨none, none, none, none, rfl, fun b o e _ _ => e, hDg.same s3, hgl.same s3⟩ (fun i σ H' _ ⟨_, _, _, _, _, fr, _, _⟩ => SqL.of (fr _ _ hC.1 ?_ ?_)) ?_ ?_⟩⟩
  · obtain ⟨_, _, _, h1, _⟩ := hDg
    exact (ne_of_none h1 n3).symm
  · exact (ne_of_none hgl n3).symm
  · rintro i y σ H' hi ⟨v3, v4, v5, v6, rfl, fr, hDk, hgi⟩
    obtain ⟨t, ht, rfl⟩ := map_at hi
    obtain ⟨c, hc, n, r, h1, h2, h3, h4, h5, h6, h7⟩ := hC.2.2 i t ht
    have hcm := hok c (List.mem_of_getElem? hc)
    have hil : i < cs.length := (List.getElem?_eq_some_iff.mp hc).1
    have ef : (cs.take (i + 1)).foldl aStep ([], []) = aStep ((cs.take i).foldl aStep ([], [])) c := by rw [take_snoc hc, List.foldl_append]; rfl
    have hfl := afold_len (cs.take i) ([], []) fun x hx => hok x (List.mem_of_mem_take hx)
    rw [List.length_take] at hfl
    generalize (cs.take i).foldl aStep ([], []) = st at hDk hgi ef hfl
    simp only [List.length_nil] at hfl
    have hDg3 := hDg.same s3
    have hp3 : ∃ dx' fs', H3 p = some (.ins C dx' fs') := by
      obtain ⟨dx', d', _, e, _⟩ := hDg3
      exact ⟨dx', _, e⟩
    obtain ⟨dx', fs', hp3⟩ := hp3
    have hp2 : ∃ o, H2 p = some o := by
      obtain ⟨dx', d', _, e, _⟩ := hDg
      exact ⟨_, e⟩
    obtain ⟨o2, hp2⟩ := hp2
    have hg3 := hgl.same s3
    have ht' : H' t = some (.tup [.int c.1, .ref n, .ref r]) := fr _ _ h1 (ne_of h1 hp3 (fun z => nomatch z)) (ne_of h1 hg3 (fun z => nomatch z))
    have hn' : IL H' n c.2.1 := fr _ _ h2 (fun z => by rw [z] at h6; exact ne_of_none hp2 h6 rfl) (fun z => by rw [z] at h6; exact ne_of_none hgl h6 rfl)
    have hr' : IL H' r c.2.2 := fr _ _ h3 (fun z => by rw [z] at h7; exact ne_of_none hp2 h7 rfl) (fun z => by rw [z] at h7; exact ne_of_none hgl h7 rfl)
    refine ⟨t, _, rfl, SqT.of ht', rfl, ?_⟩
    simp only [and_assoc, rIxL, rIxT, tSl, tPart, tNoPart, gSub, rSetL, rSum, rAll, rCat, rRep, List.length_map, cxK, wipe, tYes,  tLst, tTup, tBM, rAppend, tChain, tTest, tRet, tRetN, tDrop, tSeq, tNext, tIfS, tOrV, tAndV, tNotV, tOp, tUn, tVar, tC, t2I, tCmp, tB, tAnd, tOr, tNot, tIf, tAsg, gName, tCall, tCons, tNil, rI0, rI, rU, tAdd, tSub, tMul, tCB, tAug, ipI, L2.start, List.map_cons, List.map_nil, List.cons_append, List.nil_append, List.append_nil, List.length_cons, List.length_nil, Nat.reduceSub, Nat.reduceAdd, List.replicate_succ, List.replicate_zero, List.replicate, List.set_cons_zero, List.set_cons_succ, List.getElem?_cons_zero, List.getElem?_cons_succ, Option.some.injEq, V.int.injEq, V.bl.injEq, V.ref.injEq, List.cons.injEq, and_true, true_and, exists_eq_left', exists_eq_left, exists_eq_right, exists_and_left, exists_and_right, exists_eq', gCons, gNil, rExtend]
    refine ⟨fun a => a ≠ g, p, n, r, st.1, c, rfl, hDk, fun b hb => (ne_of_none hgi hb).symm, hn', hr', hcm, fun H4 q hD4 hB4 nq hq => ?_⟩
    have hg4 : IL H4 g st.2 := hB4 _ _ hgi hpg.symm
    have hqg : q ≠ g := (ne_of_none hgi nq).symm
    have hal := stepA_len st.1 c hcm
    refine ⟨tyL hg4, q, rfl, _, .inl hq.seq, _, hg4, by rw [List.length_map]; omega, tyL upd_same, q, rfl, _, upd_same, _, (by rw [upd_ne hqg]; exact hq), by simp only [List.length_append, List.length_map, List.length_singleton]; omega, fun b o hb n1 n2 => ?_, ?_, ?_⟩
    · rw [upd_ne n2, upd_ne n2]
      exact hB4 _ _ (fr b o hb n1 n2) n1
    · rw [ef]
      exact (hD4.put hg4).put upd_same
    · rw [ef]
      show upd _ g _ g = _
      rw [upd_same, List.length_map]
      unfold aStep
      simp
  · rintro σ H' ⟨v3, v4, v5, v6, rfl, fr, hDk, hgi⟩
    rw [List.length_map, hC.2.1, List.take_length] at hgi
    simp only [and_assoc, rIxL, rIxT, tSl, tPart, tNoPart, gSub, rSetL, rSum, rAll, rCat, rRep, List.length_map, cxK, wipe, tYes,  tLst, tTup, tBM, rAppend, tChain, tTest, tRet, tRetN, tDrop, tSeq, tNext, tIfS, tOrV, tAndV, tNotV, tOp, tUn, tVar, tC, t2I, tCmp, tB, tAnd, tOr, tNot, tIf, tAsg, gName, tCall, tCons, tNil, rI0, rI, rU, tAdd, tSub, tMul, tCB, tAug, ipI, L2.start, List.map_cons, List.map_nil, List.cons_append, List.nil_append, List.append_nil, List.length_cons, List.length_nil, Nat.reduceSub, Nat.reduceAdd, List.replicate_succ, List.replicate_zero, List.replicate, List.set_cons_zero, List.set_cons_succ, List.getElem?_cons_zero, List.getElem?_cons_succ, Option.some.injEq, V.int.injEq, V.bl.injEq, V.ref.injEq, List.cons.injEq, and_true, true_and, exists_eq_left', exists_eq_left, exists_eq_right, exists_and_left, exists_and_right, exists_eq']
    exact k H' g hgi
end
end Pd
namespace Pd
open PySem PySem.Spec PyProof.Rows L2
/-- the defs of the text -/
structure Ds (K : PySem.W.Frag) (mg : Str → Option Value) : Prop where
  d_things_of : Df K mg "things_of" (top 9) ["numbers"]
  d_line_of : Df K mg "line_of" (top 10) ["things", "i", "j"]
  d_end_width : Df K mg "end_width" (top 11) ["things", "j"]
  d_length_of : Df K mg "length_of" (top 12) ["things", "line", "j"]
  d_can_give : Df K mg "can_give" (top 13) ["line", "give"]
  d_part_of : Df K mg "part_of" (top 14) ["t", "given", "s"]
  d_blank_parts : Df K mg "blank_parts" (top 15) ["line", "give", "t"]
  d_begins : Df K mg "begins" (top 16) ["line", "give", "t"]
  d_begins_in_width : Df K mg "begins_in_width" (top 17) ["things", "i", "j", "width"]
  d_is_parting : Df K mg "is_parting" (top 28) ["byte"]
  d_is_digit : Df K mg "is_digit" (top 29) ["byte"]
  d_is_small : Df K mg "is_small" (top 30) ["byte"]
  d_is_capital : Df K mg "is_capital" (top 31) ["byte"]
  d_is_letter : Df K mg "is_letter" (top 32) ["byte"]
  d_made_small : Df K mg "made_small" (top 33) ["byte"]
  d_words_of : Df K mg "words_of" (top 38) ["text"]
  d_signs_of : Df K mg "signs_of" (top 39) ["word"]
  d_has_two_digits_in_a_row : Df K mg "has_two_digits_in_a_row" (top 40) ["word"]
  d_digits_of : Df K mg "digits_of" (top 41) ["word"]
  d_without_end_dots : Df K mg "without_end_dots" (top 42) ["signs"]
  d_is_pattern : Df K mg "is_pattern" (top 43) ["word"]
  d_is_text_of_patterns : Df K mg "is_text_of_patterns" (top 44) ["text"]
  d_raise_digits : Df K mg "raise_digits" (top 45) ["greatest", "start", "digits"]
  d_patterns_of : Df K mg "patterns_of" (top 46) ["words"]
  d_is_count : Df K mg "is_count" (top 49) ["number"]
  d_can_be_asked : Df K mg "can_be_asked" (top 50) ["left", "right", "word"]
  d_dotted : Df K mg "dotted" (top 51) ["word"]
  d_gap_digits : Df K mg "gap_digits" (top 52) ["patterns", "signs"]
  d_partings : Df K mg "partings" (top 53) ["patterns", "left", "right", "word"]
  d_places : Df K mg "places" (top 62) ["width", "i", "j", "numbers"]
  d_split_calls : Df K mg "split_calls" (top 63) ["calls"]
  d_answer : Df K mg "answer" (top 64) ["desk", "call", "numbers", "row"]
/-- the class: its methods -/
structure Ms (K : PySem.W.Frag) (C fI fB fT fP : Addr) (dI dB dT dP : FuncData) : Prop where
  tx : Tx K C
  made : Mk K C fI
  uI : Fun K "__init__" "Desk.__init__" sInit fI dI
  uB : Fun K "begin" "Desk.begin" sBegin fB dB
  uT : Fun K "take_patterns" "Desk.take_patterns" sTake fT dT
  uP : Fun K "parted" "Desk.parted" sParted fP dP
  bI : Binds K dI ["self"] []
  bB : Binds K dB ["self"] []
  bT : Binds K dT ["self", "text"] []
  bP : Binds K dP ["self", "left", "right", "word"] []
  mB : Meth K C "begin" fB
  mT : Meth K C "take_patterns" fT
  mP : Meth K C "parted" fP
section
variable {P : Program} {w : World} {K : PySem.W.Frag} {mg : Str → Option Value} {base : Heap}
theorem all_ok {f C fI fB fT fP : Addr} {fd dI dB dT dP : FuncData} (F : Fun K "answers" "answers" (top 65) f fd) (G : Gs mg) (A0 : Ahead K mg) (mgC : mg "Desk" = some (.ref C)) (M : Ms K C fI fB fT fP dI dB dT dP) (D : Ds K mg) : FnOk P w K mg base CX0 7 f fd ["calls"] (spAns K) := by
  have c_parting := ok_parting (P := P) (w := w) (base := base) G D.d_is_parting
  have c_digit := ok_digit (P := P) (w := w) (base := base) G D.d_is_digit
  have c_small := ok_small (P := P) (w := w) (base := base) G D.d_is_small
  have c_capital := ok_capital (P := P) (w := w) (base := base) G D.d_is_capital
  have c_letter := ok_letter D.d_is_letter c_small c_capital
  have c_mk := ok_mk G D.d_made_small c_capital
  have c_words := ok_words G D.d_words_of c_parting
  have c_signs := ok_signs G D.d_signs_of c_digit
  have c_two := ok_two G D.d_has_two_digits_in_a_row c_digit
  have c_digits := ok_digits G D.d_digits_of c_digit
  have c_dots := ok_dots (P := P) (w := w) (base := base) G D.d_without_end_dots
  have c_pat := ok_pat G D.d_is_pattern c_signs c_two c_dots c_small
  have c_text := ok_text G D.d_is_text_of_patterns c_words c_pat
  have c_raise := ok_raise (P := P) (w := w) (base := base) G D.d_raise_digits
  have c_pats := ok_pats G D.d_patterns_of c_signs c_digits c_raise
  have c_count := ok_count (P := P) (w := w) (base := base) G D.d_is_count
  have c_ask := ok_ask G D.d_can_be_asked c_count c_letter
  have c_dot := ok_dot G D.d_dotted c_mk
  have c_gap := ok_gap G D.d_gap_digits c_raise
  have c_marks := ok_marks G D.d_partings c_gap c_dot
  have c_things := ok_things (P := P) (w := w) (base := base) G D.d_things_of
  have c_line := ok_line (P := P) (w := w) (base := base) G D.d_line_of
  have c_end := ok_end (P := P) (w := w) (base := base) G D.d_end_width
  have c_len := ok_len G D.d_length_of c_end
  have c_can := ok_can (P := P) (w := w) (base := base) G D.d_can_give
  have c_part := ok_part (P := P) (w := w) (base := base) G D.d_part_of
  have c_bp := ok_bp G D.d_blank_parts c_can c_part
  have c_beg := ok_beg G D.d_begins c_bp
  have c_width := ok_width G D.d_begins_in_width c_line c_len c_beg c_can
  have c_places := ok_places G D.d_places c_things c_width
  have c_split := ok_split (P := P) (w := w) (base := base) G A0 D.d_split_calls
  have c_answer := ok_answer G D.d_answer M.tx (ok_begin M.uB M.tx) M.bB M.mB (ok_take G M.uT M.tx c_text c_words c_pats) M.bT M.mT (ok_parted G M.uP M.tx c_ask c_marks) M.bP M.mP c_places
  exact ok_ans F G mgC M.made (fun N => ok_init M.uI M.tx) M.bI c_split c_answer
end
/-! ### what the top has written -/
section
variable {K : PySem.W.Frag} {h : Heap} {mg : Str → Option Value}
theorem df_mk {x : Str} {st : Stmt} {ps : List Str} {f : Addr} {oc : Value} {od an : Option Addr} {osl : Array (Option Value)} {kV doc pm cdv ct : Value} (X : K.In h) (G : h.Ns mainGlobals mg)
    (a : PySem.W.nsIn K mainGlobals x = some (some (.ref f))) (l : K.lookup f = some ⟨oc, od, .func (PySem.W.fnOf x x (defArgs st) (defBody st) (defScope st) .none kV doc pm an cdv ct), osl⟩)
    (c : PySem.W.codeIn K cdv x = true) (k : PySem.W.keepIn K (.ref f) = true)
    (b : ∀ (kV doc pm : Value) (an : Option Addr) (cdv ct : Value) (us : List Value), us.length = ps.length → bindArgs (PySem.W.fnOf x x (defArgs st) (defBody st) (defScope st) .none kV doc pm an cdv ct) ⟨us, []⟩ = pure (ps.zip us)) : Df K mg x st ps :=
  ⟨f, _, PySem.W.mg_of X G a, fun_mk l c k, (fun_mk l c k).binds b⟩
theorem gi_mk {x : Str} {n : Int} {t : Tok} (X : K.In h) (G : h.Ns mainGlobals mg) (a : PySem.W.nsIn K mainGlobals x = some (some (.int n t))) : GI mg x n := ⟨t, PySem.W.mg_of X G a⟩
theorem ahead_mk {d : Addr} {t1 u1 t2 u2 t3 u3 : Tok} {n : Nat} (X : K.In h) (G : h.Ns mainGlobals mg) (a : PySem.W.nsIn K mainGlobals "NUMBERS_AHEAD" = some (some (.ref d)))
    (l : K.lookup d = some { cls := .type "dict", data := .dict #[{ hash := 1, key := .int 1 t1, val := .int 0 u1 }, { hash := 2, key := .int 2 t2, val := .int 2 u2 }, { hash := 4, key := .int 4 t3, val := .int 3 u3 }] n }) : Ahead K mg := ⟨d, t1, u1, t2, u2, t3, u3, n, PySem.W.mg_of X G a, l⟩
end
theorem ms_mk {C fI fB fT fP : Addr} {od1 an1 od2 an2 od3 an3 od4 an4 : Option Addr} {sl1 sl2 sl3 sl4 : Array (Option Value)} {oc1 kV1 dc1 pm1 cd1 ct1 oc2 kV2 dc2 pm2 cd2 ct2 oc3 kV3 dc3 pm3 cd3 ct3 oc4 kV4 dc4 pm4 cd4 ct4 : Value} {K : PySem.W.Frag} {h : Heap} {mg : Str → Option Value} (X : K.In h) (G : h.Ns mainGlobals mg)
    (aC : PySem.W.nsIn K mainGlobals "Desk" = some (some (.ref C)))
    (a1 : PySem.W.findIn K (.ref C) "__init__" = some (some (.ref fI))) (i1 : PySem.W.isFn K (.ref fI) = true) (l1 : K.lookup fI = some ⟨oc1, od1, .func (PySem.W.fnOf "__init__" "Desk.__init__" (defArgs sInit) (defBody sInit) (defScope sInit) .none kV1 dc1 pm1 an1 cd1 ct1), sl1⟩) (c1 : PySem.W.codeIn K cd1 "Desk.__init__" = true) (k1 : PySem.W.keepIn K (.ref fI) = true)
    (a2 : PySem.W.findIn K (.ref C) "begin" = some (some (.ref fB))) (i2 : PySem.W.isFn K (.ref fB) = true) (l2 : K.lookup fB = some ⟨oc2, od2, .func (PySem.W.fnOf "begin" "Desk.begin" (defArgs sBegin) (defBody sBegin) (defScope sBegin) .none kV2 dc2 pm2 an2 cd2 ct2), sl2⟩) (c2 : PySem.W.codeIn K cd2 "Desk.begin" = true) (k2 : PySem.W.keepIn K (.ref fB) = true)
    (a3 : PySem.W.findIn K (.ref C) "take_patterns" = some (some (.ref fT))) (i3 : PySem.W.isFn K (.ref fT) = true) (l3 : K.lookup fT = some ⟨oc3, od3, .func (PySem.W.fnOf "take_patterns" "Desk.take_patterns" (defArgs sTake) (defBody sTake) (defScope sTake) .none kV3 dc3 pm3 an3 cd3 ct3), sl3⟩) (c3 : PySem.W.codeIn K cd3 "Desk.take_patterns" = true) (k3 : PySem.W.keepIn K (.ref fT) = true)
    (a4 : PySem.W.findIn K (.ref C) "parted" = some (some (.ref fP))) (i4 : PySem.W.isFn K (.ref fP) = true) (l4 : K.lookup fP = some ⟨oc4, od4, .func (PySem.W.fnOf "parted" "Desk.parted" (defArgs sParted) (defBody sParted) (defScope sParted) .none kV4 dc4 pm4 an4 cd4 ct4), sl4⟩) (c4 : PySem.W.codeIn K cd4 "Desk.parted" = true) (k4 : PySem.W.keepIn K (.ref fP) = true)
    (pg : PySem.W.plainGet K C Str.empty = true) (hd : PySem.W.hasDictIn K C = true) (po : PySem.W.plainOver K C = true) (sa : PySem.W.findIn K (.ref C) "__setattr__" = some (some (.builtin "object.__setattr__"))) (mk : PySem.W.makesIn K C = true) (kc : PySem.W.keepIn K (.ref C) = true)
    (nH : PySem.W.findIn K (.ref C) "patterns" = some none) : ∃ (C fI fB fT fP : Addr) (dI dB dT dP : FuncData), mg "Desk" = some (.ref C) ∧ Ms K C fI fB fT fP dI dB dT dP :=
  ⟨C, fI, fB, fT, fP, _, _, _, _, PySem.W.mg_of X G aC, ⟨⟨⟨pg, hd, po, sa⟩, nH⟩, ⟨mk, a1, i1, kc⟩, fun_mk (st := sInit) l1 c1 k1, fun_mk (st := sBegin) l2 c2 k2, fun_mk (st := sTake) l3 c3 k3, fun_mk (st := sParted) l4 c4 k4,
    (fun_mk (st := sInit) l1 c1 k1).binds fun _ _ _ _ _ _ us hl => match us, hl with | [_], _ => rfl,
    (fun_mk (st := sBegin) l2 c2 k2).binds fun _ _ _ _ _ _ us hl => match us, hl with | [_], _ => rfl,
    (fun_mk (st := sTake) l3 c3 k3).binds fun _ _ _ _ _ _ us hl => match us, hl with | [_, _], _ => rfl,
    (fun_mk (st := sParted) l4 c4 k4).binds fun _ _ _ _ _ _ us hl => match us, hl with | [_, _, _, _], _ => rfl,
    ⟨a2, i2, k2⟩, ⟨a3, i3, k3⟩, ⟨a4, i4, k4⟩⟩⟩
theorem top_mk {P : Program} {w : World} {K : PySem.W.Frag} {h : Heap} {mg : Str → Option Value} {fa : Addr} (X : K.In h) (Gn : h.Ns mainGlobals mg) (hfa : mg "answers" = some (.ref fa)) (G : Gs mg) (A0 : Ahead K mg) (M : ∃ (C fI fB fT fP : Addr) (dI dB dT dP : FuncData), mg "Desk" = some (.ref C) ∧ Ms K C fI fB fT fP dI dB dT dP) (D : Ds K mg) (Da : Df K mg "answers" (top 65) ["calls"]) :
    ∃ fd : FuncData, (∀ (s : Shared) (us : List Value), us.length = (["calls"] : List Str).length → BindsTo s fd ⟨us, []⟩ ((["calls"] : List Str).zip us)) ∧ ∀ base : Heap, K.In base → base.Ns mainGlobals mg → FnOk P w K mg base CX0 7 fa fd ["calls"] (spAns K) := by
  obtain ⟨f, fd, e, F, _⟩ := Da.ex
  have e := hfa.symm.trans e
  cases e
  obtain ⟨C, fI, fB, fT, fP, dI, dB, dT, dP, mgC, M⟩ := M
  refine ⟨fd, ?_, fun base _ _ => all_ok F G A0 mgC M D⟩
  obtain ⟨oc, od, kV, doc, pm, an, cdv, ct, osl, rfl, lk, hcd⟩ := F.ex
  exact fun s us hu => match us, hu with | [_], _ => .of_eq rfl
end Pd
set_option Elab.async false
set_option linter.all false
set_option maxRecDepth 100000
set_option maxHeartbeats 2000000
open PySem PySem.W PyProof.Rows
set_option maxRecDepth 100000 in
set_option maxHeartbeats 0 in
theorem PySem.Challenge.cw_partlinedesk_s01_answers_holds : PySem.Challenge.rw_partlinedesk_s01_answers.Holds := by
  w_on; k_headS; (case hw => exact ⟨[.list [.int 0]], by decide +kernel, by decide +kernel⟩)
  k_fillS
  refine L2.walk_specK (r := PySem.Challenge.rw_partlinedesk_s01_answers) (k := 7) (CX := L2.CX0) (ps := ["calls"]) (sp := Pd.spAns) (by decide +kernel) rfl rfl ⟨rfl, by decide, by decide⟩ (fun w h Y => PySem.W.kIn_of Y) ?F ?S (fun _ _ _ _ z => z)
  case F =>
    intro w mg fa h Y KX G hmg
    refine' Pd.top_mk KX G hmg ?pG ?pA ?pM ?pD ?pF
    case pG =>
      refine' Pd.Gs.mk ?pdg0 ?pdg1 ?pdg2 ?pdg3 ?pdg4 ?pdg5 ?pdg6 ?pdg7 ?pdg8 ?pdg9 ?pdg10 ?pdg11 ?pdg12 ?pdg13 ?pdg14 ?pdg15 ?pdg16 ?pdg17 ?pdg18 ?pdg19 ?pdg20 ?pdg21 ?pdg22 ?pdg23 ?pdg24 ?pdg25 ?pdg26 ?pdg27 ?pdg28 ?pdg29 ?pdg30 ?pdg31 ?pdg32 ?pdg33 ?pdg34
      (case pdg0 => refine' Pd.gi_mk KX G ?a; (case a => k_is))
      (case pdg1 => refine' Pd.gi_mk KX G ?a; (case a => k_is))
      (case pdg2 => refine' Pd.gi_mk KX G ?a; (case a => k_is))
      (case pdg3 => refine' Pd.gi_mk KX G ?a; (case a => k_is))
      (case pdg4 => refine' Pd.gi_mk KX G ?a; (case a => k_is))
      (case pdg5 => refine' Pd.gi_mk KX G ?a; (case a => k_is))
      (case pdg6 => refine' Pd.gi_mk KX G ?a; (case a => k_is))
      (case pdg7 => refine' Pd.gi_mk KX G ?a; (case a => k_is))
      (case pdg8 => refine' Pd.gi_mk KX G ?a; (case a => k_is))
      (case pdg9 => refine' Pd.gi_mk KX G ?a; (case a => k_is))
      (case pdg10 => refine' Pd.gi_mk KX G ?a; (case a => k_is))
      (case pdg11 => refine' Pd.gi_mk KX G ?a; (case a => k_is))
      (case pdg12 => refine' Pd.gi_mk KX G ?a; (case a => k_is))
      (case pdg13 => refine' Pd.gi_mk KX G ?a; (case a => k_is))
      (case pdg14 => refine' Pd.gi_mk KX G ?a; (case a => k_is))
      (case pdg15 => refine' Pd.gi_mk KX G ?a; (case a => k_is))
      (case pdg16 => refine' Pd.gi_mk KX G ?a; (case a => k_is))
      (case pdg17 => refine' Pd.gi_mk KX G ?a; (case a => k_is))
      (case pdg18 => refine' Pd.gi_mk KX G ?a; (case a => k_is))
      (case pdg19 => refine' Pd.gi_mk KX G ?a; (case a => k_is))
      (case pdg20 => refine' Pd.gi_mk KX G ?a; (case a => k_is))
      (case pdg21 => refine' Pd.gi_mk KX G ?a; (case a => k_is))
      (case pdg22 => refine' Pd.gi_mk KX G ?a; (case a => k_is))
      (case pdg23 => refine' Pd.gi_mk KX G ?a; (case a => k_is))
      (case pdg24 => refine' Pd.gi_mk KX G ?a; (case a => k_is))
      (case pdg25 => refine' Pd.gi_mk KX G ?a; (case a => k_is))
      (case pdg26 => refine' PySem.W.mg_none_of KX G ?a; (case a => k_is))
      (case pdg27 => refine' PySem.W.mg_none_of KX G ?a; (case a => k_is))
      (case pdg28 => refine' PySem.W.mg_none_of KX G ?a; (case a => k_is))
      (case pdg29 => refine' PySem.W.mg_none_of KX G ?a; (case a => k_is))
      (case pdg30 => refine' PySem.W.mg_none_of KX G ?a; (case a => k_is))
      (case pdg31 => refine' PySem.W.mg_none_of KX G ?a; (case a => k_is))
      (case pdg32 => refine' PySem.W.mg_none_of KX G ?a; (case a => k_is))
      (case pdg33 => refine' PySem.W.mg_none_of KX G ?a; (case a => k_is))
      (case pdg34 => refine' PySem.W.mg_none_of KX G ?a; (case a => k_is))
    case pA =>
      refine' Pd.ahead_mk KX G ?a ?l
      (case a => k_is); (case l => k_is)
    case pM =>
      refine' Pd.ms_mk KX G ?aC ?a1 ?i1 ?l1 ?c1 ?k1 ?a2 ?i2 ?l2 ?c2 ?k2 ?a3 ?i3 ?l3 ?c3 ?k3 ?a4 ?i4 ?l4 ?c4 ?k4 ?pg ?hd ?po ?sa ?mk ?kc ?nH
      (case aC => k_is)
      (case a1 => k_is); (case i1 => k_is); (case l1 => k_is); (case c1 => k_is); (case k1 => k_is)
      (case a2 => k_is); (case i2 => k_is); (case l2 => k_is); (case c2 => k_is); (case k2 => k_is)
      (case a3 => k_is); (case i3 => k_is); (case l3 => k_is); (case c3 => k_is); (case k3 => k_is)
      (case a4 => k_is); (case i4 => k_is); (case l4 => k_is); (case c4 => k_is); (case k4 => k_is)
      (case pg => k_is); (case hd => k_is); (case po => k_is); (case sa => k_is); (case mk => k_is); (case kc => k_is); (case nH => k_is)
    case pD =>
      refine' Pd.Ds.mk ?pdd0 ?pdd1 ?pdd2 ?pdd3 ?pdd4 ?pdd5 ?pdd6 ?pdd7 ?pdd8 ?pdd9 ?pdd10 ?pdd11 ?pdd12 ?pdd13 ?pdd14 ?pdd15 ?pdd16 ?pdd17 ?pdd18 ?pdd19 ?pdd20 ?pdd21 ?pdd22 ?pdd23 ?pdd24 ?pdd25 ?pdd26 ?pdd27 ?pdd28 ?pdd29 ?pdd30 ?pdd31
      case pdd0 =>
        refine' Pd.df_mk KX G ?a ?l ?c ?k ?b
        (case a => k_is); (case l => k_is); (case c => k_is); (case k => k_is)
        case b => exact fun _ _ _ _ _ _ us hl => match us, hl with | [_], _ => rfl
      case pdd1 =>
        refine' Pd.df_mk KX G ?a ?l ?c ?k ?b
        (case a => k_is); (case l => k_is); (case c => k_is); (case k => k_is)
        case b => exact fun _ _ _ _ _ _ us hl => match us, hl with | [_, _, _], _ => rfl
      case pdd2 =>
        refine' Pd.df_mk KX G ?a ?l ?c ?k ?b
        (case a => k_is); (case l => k_is); (case c => k_is); (case k => k_is)
        case b => exact fun _ _ _ _ _ _ us hl => match us, hl with | [_, _], _ => rfl
      case pdd3 =>
        refine' Pd.df_mk KX G ?a ?l ?c ?k ?b
        (case a => k_is); (case l => k_is); (case c => k_is); (case k => k_is)
        case b => exact fun _ _ _ _ _ _ us hl => match us, hl with | [_, _, _], _ => rfl
      case pdd4 =>
        refine' Pd.df_mk KX G ?a ?l ?c ?k ?b
        (case a => k_is); (case l => k_is); (case c => k_is); (case k => k_is)
        case b => exact fun _ _ _ _ _ _ us hl => match us, hl with | [_, _], _ => rfl
      case pdd5 =>
        refine' Pd.df_mk KX G ?a ?l ?c ?k ?b
        (case a => k_is); (case l => k_is); (case c => k_is); (case k => k_is)
        case b => exact fun _ _ _ _ _ _ us hl => match us, hl with | [_, _, _], _ => rfl
      case pdd6 =>
        refine' Pd.df_mk KX G ?a ?l ?c ?k ?b
        (case a => k_is); (case l => k_is); (case c => k_is); (case k => k_is)
        case b => exact fun _ _ _ _ _ _ us hl => match us, hl with | [_, _, _], _ => rfl
      case pdd7 =>
        refine' Pd.df_mk KX G ?a ?l ?c ?k ?b
        (case a => k_is); (case l => k_is); (case c => k_is); (case k => k_is)
        case b => exact fun _ _ _ _ _ _ us hl => match us, hl with | [_, _, _], _ => rfl
      case pdd8 =>
        refine' Pd.df_mk KX G ?a ?l ?c ?k ?b
        (case a => k_is); (case l => k_is); (case c => k_is); (case k => k_is)
        case b => exact fun _ _ _ _ _ _ us hl => match us, hl with | [_, _, _, _], _ => rfl
      case pdd9 =>
        refine' Pd.df_mk KX G ?a ?l ?c ?k ?b
        (case a => k_is); (case l => k_is); (case c => k_is); (case k => k_is)
        case b => exact fun _ _ _ _ _ _ us hl => match us, hl with | [_], _ => rfl
      case pdd10 =>
        refine' Pd.df_mk KX G ?a ?l ?c ?k ?b
        (case a => k_is); (case l => k_is); (case c => k_is); (case k => k_is)
        case b => exact fun _ _ _ _ _ _ us hl => match us, hl with | [_], _ => rfl
      case pdd11 =>
        refine' Pd.df_mk KX G ?a ?l ?c ?k ?b
        (case a => k_is); (case l => k_is); (case c => k_is); (case k => k_is)
        case b => exact fun _ _ _ _ _ _ us hl => match us, hl with | [_], _ => rfl
      case pdd12 =>
        refine' Pd.df_mk KX G ?a ?l ?c ?k ?b
        (case a => k_is); (case l => k_is); (case c => k_is); (case k => k_is)
        case b => exact fun _ _ _ _ _ _ us hl => match us, hl with | [_], _ => rfl
      case pdd13 =>
        refine' Pd.df_mk KX G ?a ?l ?c ?k ?b
        (case a => k_is); (case l => k_is); (case c => k_is); (case k => k_is)
        case b => exact fun _ _ _ _ _ _ us hl => match us, hl with | [_], _ => rfl
      case pdd14 =>
        refine' Pd.df_mk KX G ?a ?l ?c ?k ?b
        (case a => k_is); (case l => k_is); (case c => k_is); (case k => k_is)
        case b => exact fun _ _ _ _ _ _ us hl => match us, hl with | [_], _ => rfl
      case pdd15 =>
        refine' Pd.df_mk KX G ?a ?l ?c ?k ?b
        (case a => k_is); (case l => k_is); (case c => k_is); (case k => k_is)
        case b => exact fun _ _ _ _ _ _ us hl => match us, hl with | [_], _ => rfl
      case pdd16 =>
        refine' Pd.df_mk KX G ?a ?l ?c ?k ?b
        (case a => k_is); (case l => k_is); (case c => k_is); (case k => k_is)
        case b => exact fun _ _ _ _ _ _ us hl => match us, hl with | [_], _ => rfl
      case pdd17 =>
        refine' Pd.df_mk KX G ?a ?l ?c ?k ?b
        (case a => k_is); (case l => k_is); (case c => k_is); (case k => k_is)
        case b => exact fun _ _ _ _ _ _ us hl => match us, hl with | [_], _ => rfl
      case pdd18 =>
        refine' Pd.df_mk KX G ?a ?l ?c ?k ?b
        (case a => k_is); (case l => k_is); (case c => k_is); (case k => k_is)
        case b => exact fun _ _ _ _ _ _ us hl => match us, hl with | [_], _ => rfl
      case pdd19 =>
        refine' Pd.df_mk KX G ?a ?l ?c ?k ?b
        (case a => k_is); (case l => k_is); (case c => k_is); (case k => k_is)
        case b => exact fun _ _ _ _ _ _ us hl => match us, hl with | [_], _ => rfl
      case pdd20 =>
        refine' Pd.df_mk KX G ?a ?l ?c ?k ?b
        (case a => k_is); (case l => k_is); (case c => k_is); (case k => k_is)
        case b => exact fun _ _ _ _ _ _ us hl => match us, hl with | [_], _ => rfl
      case pdd21 =>
        refine' Pd.df_mk KX G ?a ?l ?c ?k ?b
        (case a => k_is); (case l => k_is); (case c => k_is); (case k => k_is)
        case b => exact fun _ _ _ _ _ _ us hl => match us, hl with | [_], _ => rfl
      case pdd22 =>
        refine' Pd.df_mk KX G ?a ?l ?c ?k ?b
        (case a => k_is); (case l => k_is); (case c => k_is); (case k => k_is)
        case b => exact fun _ _ _ _ _ _ us hl => match us, hl with | [_, _, _], _ => rfl
      case pdd23 =>
        refine' Pd.df_mk KX G ?a ?l ?c ?k ?b
        (case a => k_is); (case l => k_is); (case c => k_is); (case k => k_is)
        case b => exact fun _ _ _ _ _ _ us hl => match us, hl with | [_], _ => rfl
      case pdd24 =>
        refine' Pd.df_mk KX G ?a ?l ?c ?k ?b
        (case a => k_is); (case l => k_is); (case c => k_is); (case k => k_is)
        case b => exact fun _ _ _ _ _ _ us hl => match us, hl with | [_], _ => rfl
      case pdd25 =>
        refine' Pd.df_mk KX G ?a ?l ?c ?k ?b
        (case a => k_is); (case l => k_is); (case c => k_is); (case k => k_is)
        case b => exact fun _ _ _ _ _ _ us hl => match us, hl with | [_, _, _], _ => rfl
      case pdd26 =>
        refine' Pd.df_mk KX G ?a ?l ?c ?k ?b
        (case a => k_is); (case l => k_is); (case c => k_is); (case k => k_is)
        case b => exact fun _ _ _ _ _ _ us hl => match us, hl with | [_], _ => rfl
      case pdd27 =>
        refine' Pd.df_mk KX G ?a ?l ?c ?k ?b
        (case a => k_is); (case l => k_is); (case c => k_is); (case k => k_is)
        case b => exact fun _ _ _ _ _ _ us hl => match us, hl with | [_, _], _ => rfl
      case pdd28 =>
        refine' Pd.df_mk KX G ?a ?l ?c ?k ?b
        (case a => k_is); (case l => k_is); (case c => k_is); (case k => k_is)
        case b => exact fun _ _ _ _ _ _ us hl => match us, hl with | [_, _, _, _], _ => rfl
      case pdd29 =>
        refine' Pd.df_mk KX G ?a ?l ?c ?k ?b
        (case a => k_is); (case l => k_is); (case c => k_is); (case k => k_is)
        case b => exact fun _ _ _ _ _ _ us hl => match us, hl with | [_, _, _, _], _ => rfl
      case pdd30 =>
        refine' Pd.df_mk KX G ?a ?l ?c ?k ?b
        (case a => k_is); (case l => k_is); (case c => k_is); (case k => k_is)
        case b => exact fun _ _ _ _ _ _ us hl => match us, hl with | [_], _ => rfl
      case pdd31 =>
        refine' Pd.df_mk KX G ?a ?l ?c ?k ?b
        (case a => k_is); (case l => k_is); (case c => k_is); (case k => k_is)
        case b => exact fun _ _ _ _ _ _ us hl => match us, hl with | [_, _, _, _], _ => rfl
    case pF =>
      refine' Pd.df_mk KX G ?a ?l ?c ?k ?b
      (case a => k_is); (case l => k_is); (case c => k_is); (case k => k_is)
      case b => exact fun _ _ _ _ _ _ us hl => match us, hl with | [_], _ => rfl
  case S =>
    intro K H xs a hO hwi hask hx
    cases hx with
    | cons h1 h2 =>
      cases h2
      cases h1 with
      | lst hs ha =>
        have e := L2.ints_dw a.1 _ ha
        subst e
        have q : ((Codec.inLen 0 30000 a.1 && a.1.all (Codec.inInt (-2147483648) 2147483647)) && true) = true := hwi
        rw [Bool.and_eq_true, Bool.and_eq_true] at q
        obtain ⟨cs, h1, h2, h3, h4⟩ := Pd.asked_all a.1 hask
        refine ⟨_, a.1, cs, rfl, hs, (Codec.inNat_iff.mp q.1.1).2, h1, h2, h3, fun H' p hp => ?_⟩
        rw [← h4] at hp
        exact .lst (L2.SqL.of hp) (L2.dw_ints _)
#print axioms PySem.Challenge.cw_partlinedesk_s01_answers_holds

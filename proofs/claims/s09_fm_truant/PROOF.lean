import PyProof.Rows.All
import Wide.All
import OpenK.AllK
import Wide.FinOn
import PyProof.EqAt
import PyProof.EqKinds
import PyProof.TupleCall
import KE.BitLaws
import Open.SpecLaws
import KE.OsHead
import KE.OsGo
import PySem.Challenge.RW_formkeepdesk_s09_fm_truant
set_option Elab.async false
set_option linter.all false
set_option maxRecDepth 100000
/-! THE HAND LAYER, for ints, bools, texts, own classes, lists, tuples, dicts, comprehensions, walks over dicts, enumerate, zip, reversed, texts, calls, loops. Paste it whole ahead of your own text; what your proof does not reach may be deleted. -/
namespace L2
open PySem PySem.Spec PyProof.Rows
/-- a key: an int or a str -/
abbrev Key := Sum Int Str
def keyIs : Key → Value → Bool
  | .inl k, v => Value.isInt k v
  | .inr x, v => Value.isStrOf x v
def keyH (w : World) : Key → Int
  | .inl k => hashInt k
  | .inr x => hashStr w x
theorem keyIs_shape : ∀ {k : Key} {v : Value}, keyIs k v = true → (∃ i t, k = Sum.inl i ∧ v = Value.int i t) ∨ (∃ x t, k = Sum.inr x ∧ v = Value.str x t)
  | .inl i, v, h => by
    obtain ⟨t, e⟩ := Value.isInt_shape (k := i) (v := v) h
    exact .inl ⟨i, t, rfl, e⟩
  | .inr x, v, h => by
    obtain ⟨t, e⟩ := Value.isStrOf_shape (x := x) (v := v) h
    exact .inr ⟨x, t, rfl, e⟩
theorem keyIs_int (i : Int) (t : Tok) : keyIs (.inl i) (.int i t) = true := by simp [keyIs, Value.isInt]
theorem keyIs_str (x : Str) (t : Tok) : keyIs (.inr x) (.str x t) = true := by simp [keyIs, Value.isStrOf]
theorem key_ll (a b : Int) : decide ((Sum.inl a : Key) = Sum.inl b) = (a == b) := by
  by_cases e : a = b
  · subst e; simp
  · have h : ¬ (Sum.inl a : Key) = Sum.inl b := fun q => e (Sum.inl.inj q)
    rw [decide_eq_false h]
    exact (beq_eq_false_iff_ne.mpr e).symm
theorem key_rr (a b : Str) : decide ((Sum.inr a : Key) = Sum.inr b) = decide (a = b) := by
  by_cases e : a = b
  · subst e; simp
  · have h : ¬ (Sum.inr a : Key) = Sum.inr b := fun q => e (Sum.inr.inj q)
    rw [decide_eq_false h, decide_eq_false e]
theorem key_lr (a : Int) (b : Str) : decide ((Sum.inl a : Key) = Sum.inr b) = false := decide_eq_false (fun q => nomatch q)
theorem key_rl (a : Str) (b : Int) : decide ((Sum.inr a : Key) = Sum.inl b) = false := decide_eq_false (fun q => nomatch q)
def mixKind (prog : Program) (w : World) : PySem.KeyKind prog w Key where
  is := keyIs
  hash := keyH w
  inj := fun v a b ha hb => by
    rcases keyIs_shape ha with ⟨i, t, rfl, rfl⟩ | ⟨x, t, rfl, rfl⟩
    · rcases keyIs_shape hb with ⟨j, u, rfl, e⟩ | ⟨y, u, rfl, e⟩
      · injection e with e1 _; rw [e1]
      · exact nomatch e
    · rcases keyIs_shape hb with ⟨j, u, rfl, e⟩ | ⟨y, u, rfl, e⟩
      · exact nomatch e
      · injection e with e1 _; rw [e1]
  byValue := fun k v h => by
    rcases keyIs_shape h with ⟨i, t, rfl, rfl⟩ | ⟨x, t, rfl, rfl⟩ <;> rfl
  pyHash := fun hv h => by
    rcases keyIs_shape hv with ⟨i, t, rfl, rfl⟩ | ⟨x, t, rfl, rfl⟩
    · exact wpAny_pyHash_int h
    · exact wpAny_pyHash_str h
  eqBool := fun hu hv h => by
    rcases keyIs_shape hu with ⟨i, t, rfl, rfl⟩ | ⟨x, t, rfl, rfl⟩
    · rcases keyIs_shape hv with ⟨j, u, rfl, rfl⟩ | ⟨y, u, rfl, rfl⟩
      · rw [key_ll] at h; exact wpAny_eqBool_int h
      · rw [key_lr] at h; exact SeqAt.EqAt.int_str i t y u _ _ _ _ h
    · rcases keyIs_shape hv with ⟨j, u, rfl, rfl⟩ | ⟨y, u, rfl, rfl⟩
      · rw [key_rl] at h; exact SeqAt.EqAt.str_int x t j u _ _ _ _ h
      · rw [key_rr] at h; exact wpAny_eqBool_str h
  «strs» := fun k x t v h => by
    rcases keyIs_shape h with ⟨i, u, rfl, e⟩ | ⟨y, u, rfl, e⟩
    · exact nomatch e
    · injection e with e1 _
      subst e1
      cases v <;> rfl
theorem mixKind_int (prog : Program) (w : World) (i : Int) (t : Tok) : (mixKind prog w).is (.inl i) (.int i t) = true := keyIs_int i t
theorem mixKind_str (prog : Program) (w : World) (x : Str) (t : Tok) : (mixKind prog w).is (.inr x) (.str x t) = true := keyIs_str x t
end L2
namespace L2
open PySem PySem.Spec PyProof.Rows
/-- a value, without the heap -/
inductive V where
  | non | bl (b : Bool) | int (i : Int) | str (x : Str) | byt (b : Array UInt8) | flt (b : UInt64) | ref (a : Addr) | ty (n : String)
  deriving DecidableEq
def RelV : V → Value → Prop
  | .non, u => u = Value.none
  | .bl b, u => u = Value.bool b
  | .int i, u => ∃ t, u = Value.int i t
  | .str x, u => ∃ t, u = Value.str x t
  | .byt b, u => ∃ t, u = Value.bytes b t
  | .flt b, u => ∃ t, u = Value.float b t
  | .ref a, u => u = Value.ref a
  | .ty n, u => u = Value.type n
abbrev Vals : List V → List Value → Prop := Paired RelV
theorem Vals.length {xs : List V} {us : List Value} (r : Vals xs us) : xs.length = us.length := Paired.length r
theorem Vals.get : ∀ {xs : List V} {us : List Value} {i : Nat} {x : V}, Vals xs us → xs[i]? = some x → ∃ u, us[i]? = some u ∧ RelV x u
  | _, _, _, _, .nil, e => by simp at e
  | _, _, 0, _, .cons r _, e => by simp at e; subst e; exact ⟨_, rfl, r⟩
  | _, _, i + 1, x, .cons _ t, e => by
    obtain ⟨u, h1, h2⟩ := Vals.get (i := i) (x := x) t (by simpa using e)
    exact ⟨u, by simpa using h1, h2⟩
theorem Vals.set {x : V} {u : Value} (r : RelV x u) : ∀ {xs : List V} {us : List Value} (i : Nat), Vals xs us → Vals (xs.set i x) (us.set i u)
  | _, _, _, .nil => .nil
  | _, _, 0, .cons _ t => .cons r t
  | _, _, i + 1, .cons q t => .cons q (Vals.set r i t)
theorem Vals.append : ∀ {xs ys : List V} {us ws : List Value}, Vals xs us → Vals ys ws → Vals (xs ++ ys) (us ++ ws)
  | _, _, _, _, .nil, s => s
  | _, _, _, _, .cons r t, s => .cons r (Vals.append t s)
theorem Vals.take : ∀ {xs : List V} {us : List Value} (n : Nat), Vals xs us → Vals (xs.take n) (us.take n)
  | _, _, 0, _ => .nil
  | _, _, _ + 1, .nil => .nil
  | _, _, n + 1, .cons r t => .cons r (Vals.take n t)
theorem Vals.drop : ∀ {xs : List V} {us : List Value} (n : Nat), Vals xs us → Vals (xs.drop n) (us.drop n)
  | _, _, 0, r => r
  | _, _, _ + 1, .nil => .nil
  | _, _, n + 1, .cons _ t => Vals.drop n t
def RelO : Option V → Option Value → Prop
  | some v, some u => RelV v u
  | none, none => True
  | _, _ => False
def KV {κ : Type} : List (κ × V) → List (κ × Value) → Prop := Paired fun (p : κ × V) (q : κ × Value) => p.1 = q.1 ∧ RelV p.2 q.2
/-- a key of a dict (00_mix): an int or a text -/
def kV : Key → V
  | .inl i => .int i
  | .inr x => .str x
/-- what stands at a tracked address -/
inductive HO where
  /-- a list -/
  | lst (xs : List V)
  /-- a tuple (never changes) -/
  | tup (xs : List V)
  /-- a dict whose keys are ints and texts; one whose keys are tuples of ints and texts (the empty one is both) -/
  | dK (kvs : List (Key × V)) | dT (kvs : List (List Key × V))
  /-- a set of ints: its members, its size -/
  | set (S : Int → Bool) (n : Nat)
  /-- an instance of the class at C, its dict at dx, its attributes -/
  | ins (C dx : Addr) (fs : List (Str × V))
  /-- the dict of the instance at x -/
  | own (x : Addr)
  /-- the dict of an exception -/
  | xd (fs : List (Str × V))
  /-- a bound method, f of x -/
  | met (f x : Addr)
  /-- a range object lo, lo + 1, .. below hi -/
  | rng (lo hi : Int)
  /-- a thing that is known to the object (the script; a dict while a loop walks it): read, never written while it is so -/
  | frz (o : Obj) (u : HO)
  /-- a code object's table -/
  | tbl (ps : Array Value)
  /-- any other thing, by what is true of its one object (a def of one's own: SetO a S n := HO.ext fun h => ..) -/
  | ext (φ : Heap → Prop)
abbrev Hp := Addr → Option HO
def upd (H : Hp) (a : Addr) (o : HO) : Hp := fun b => if b = a then some o else H b
theorem upd_same {H : Hp} {a : Addr} {o : HO} : upd H a o a = some o := by unfold upd; rw [if_pos rfl]
theorem upd_ne {H : Hp} {a b : Addr} {o : HO} (h : b ≠ a) : upd H a o b = H b := by unfold upd; rw [if_neg h]
/-- two objects of different content stand apart -/
theorem ne_of {H : Hp} {a b : Addr} {o u : HO} (h : H a = some o) (h' : H b = some u) (d : o ≠ u) : a ≠ b := by
  intro e; subst e; rw [h] at h'; exact d (Option.some.inj h')
theorem ne_of_none {H : Hp} {a b : Addr} {o : HO} (h : H a = some o) (h' : H b = none) : a ≠ b := by
  intro e; subst e; rw [h] at h'; cases h'
section
variable (P : Program) (w : World)
def ObjOk (H : Hp) (h : Heap) (a : Addr) : HO → Prop
  | .lst xs => xs.length ≤ sizeLine ∧ ∃ (its : List Value) (n : Nat), Vals xs its ∧ h.get? a = some { cls := .type "list", data := .seq its.toArray n }
  | .tup xs => xs.length ≤ sizeLine ∧ ∃ its : List Value, Vals xs its ∧ IsTup h a its.toArray
  | .dK kvs => kvs.length ≤ sizeLine ∧ (a == sysModules) = false ∧ ∃ vs, KV kvs vs ∧ h.DictOf (mixKind P w) a vs
  | .dT kvs => kvs.length ≤ sizeLine ∧ (a == sysModules) = false ∧ ∃ xs : List (List Key × Addr × Value),
      Paired (fun (p : List Key × V) (q : List Key × Addr × Value) => p.1 = q.1 ∧ H q.2.1 = some (.tup (p.1.map kV)) ∧ RelV p.2 q.2.2) kvs xs ∧
      ∃ o es ep, h.get? a = some o ∧ o.ExactDict ∧ o.data = .dict es ep ∧ es.toList = xs.map (entryOfKey (tupleKind (mixKind P w))) ∧ (xs.map (·.1)).Nodup
  | .set S n => h.SetOf (intKind P w) a S n
  | .ins C dx fs => H dx = some (.own a) ∧ fs.length ≤ 1000 ∧ dx ≠ a ∧ h.get? a = some (PySem.W.instObj C dx) ∧
      ∃ mA, h.Ns1 dx mA ∧ (∀ f, RelO (fs.lookup f) (mA f)) ∧ PySem.Within mA (fs.map (·.1))
  | .own _ => ∃ o, h.get? a = some o
  | .xd fs => ∃ mA, h.Ns1 a mA ∧ ∀ f, RelO (fs.lookup f) (mA f)
  | .rng lo hi => ∃ t u v, h.get? a = some { cls := .type "range", data := .fields #[.int lo t, .int hi u, .int 1 v] }
  | .frz o u => h.get? a = some o ∧ ObjOk H h a u
  | .tbl ps => h.get? a = some { cls := .none, data := .fields ps }
  | .met f x => h.get? a = some (PySem.W.methodObj (.ref f) (.ref x))
  | .ext φ => φ h ∧ (∃ o, h.get? a = some o) ∧ ∀ h1 h2 : Heap, φ h1 → (∀ o, h1.get? a = some o → h2.get? a = some o) → φ h2
/-- the abstract heap is held -/
def HOk (H : Hp) (h : Heap) : Prop := ∀ a o, H a = some o → ObjOk P w H h a o
end
section
variable {P : Program} {w : World} {H H' : Hp} {h h' : Heap} {a : Addr} {o : HO}
theorem ObjOk.lt (x : ObjOk P w H h a o) : a < h.objs.size := by
  cases o with
  | lst xs => obtain ⟨_, _, _, _, e⟩ := x; exact Heap.lt_size e
  | tup xs => obtain ⟨_, _, _, p⟩ := x; exact p.lt
  | dK kvs => obtain ⟨_, _, _, _, o, _, _, e, _⟩ := x; exact Heap.lt_size e
  | dT kvs => obtain ⟨_, _, _, _, o, _, _, e, _⟩ := x; exact Heap.lt_size e
  | set S n => obtain ⟨o, _, _, _, e, _⟩ := x; exact Heap.lt_size e
  | ins C dx fs => obtain ⟨_, _, _, e, _⟩ := x; exact Heap.lt_size e
  | own y => obtain ⟨_, e⟩ := x; exact Heap.lt_size e
  | xd fs => obtain ⟨_, ⟨_, _, _, e, _⟩, _⟩ := x; exact Heap.lt_size e
  | rng lo hi => obtain ⟨_, _, _, e⟩ := x; exact Heap.lt_size e
  | frz ob u => obtain ⟨e, _⟩ := x; exact Heap.lt_size e
  | tbl ps => exact Heap.lt_size (show h.get? a = some _ from x)
  | met f y => exact Heap.lt_size (show h.get? a = some _ from x)
  | ext φ => obtain ⟨_, ⟨_, e⟩, _⟩ := x; exact Heap.lt_size e
theorem Paired.mapP {α β : Type} {F G : α → β → Prop} : ∀ {l₁ : List α} {l₂ : List β}, Paired F l₁ l₂ → (∀ a b, F a b → G a b) → Paired G l₁ l₂
  | _, _, .nil, _ => .nil
  | _, _, .cons r t, f => .cons (f _ _ r) (Paired.mapP t f)
/-- what an object's description leans on: its own object, its own dict, the tuples -/
theorem ObjOk.stay (x : ObjOk P w H h a o) (k : ∀ b u, (b = a ∨ H b = some (.own a)) → h.get? b = some u → h'.get? b = some u)
    (ho : ∀ b, H b = some (.own a) → H' b = some (.own a)) (ht : ∀ b xs, H b = some (.tup xs) → H' b = some (.tup xs)) : ObjOk P w H' h' a o := by
  induction o with
  | lst xs => obtain ⟨z, its, n, r, e⟩ := x; exact ⟨z, its, n, r, k _ _ (.inl rfl) e⟩
  | tup xs => obtain ⟨z, its, r, ob, e, c⟩ := x; exact ⟨z, its, r, ob, k _ _ (.inl rfl) e, c⟩
  | dK kvs => obtain ⟨z, y, vs, r, ob, es, ep, e, c⟩ := x; exact ⟨z, y, vs, r, ob, es, ep, k _ _ (.inl rfl) e, c⟩
  | dT kvs =>
    obtain ⟨z, y, xs, r, ob, es, ep, e, c⟩ := x
    exact ⟨z, y, xs, Paired.mapP r fun p q z => ⟨z.1, ht _ _ z.2.1, z.2.2⟩, ob, es, ep, k _ _ (.inl rfl) e, c⟩
  | set S n => obtain ⟨ob, es, ep, t, e, c⟩ := x; exact ⟨ob, es, ep, t, k _ _ (.inl rfl) e, c⟩
  | ins C dx fs =>
    obtain ⟨d, z, ne, e, mA, ⟨od, es, ep, e2, c⟩, r⟩ := x
    exact ⟨ho _ d, z, ne, k _ _ (.inl rfl) e, mA, ⟨od, es, ep, k _ _ (.inr d) e2, c⟩, r⟩
  | own y => obtain ⟨ob, e⟩ := x; exact ⟨ob, k _ _ (.inl rfl) e⟩
  | xd fs => obtain ⟨mA, ⟨od, es, ep, e, c⟩, r⟩ := x; exact ⟨mA, ⟨od, es, ep, k _ _ (.inl rfl) e, c⟩, r⟩
  | rng lo hi => obtain ⟨t, u, v, e⟩ := x; exact ⟨t, u, v, k _ _ (.inl rfl) e⟩
  | frz ob u ih => obtain ⟨e, q⟩ := x; exact ⟨k _ _ (.inl rfl) e, ih q⟩
  | tbl ps =>
    have e : h.get? a = some { cls := .none, data := .fields ps } := x
    show h'.get? a = some { cls := .none, data := .fields ps }
    exact k a _ (.inl rfl) e
  | met f y =>
    have e : h.get? a = some (PySem.W.methodObj (.ref f) (.ref y)) := x
    show h'.get? a = some (PySem.W.methodObj (.ref f) (.ref y))
    exact k a _ (.inl rfl) e
  | ext φ => obtain ⟨p, ⟨o, e⟩, st⟩ := x; exact ⟨st _ _ p fun o q => k _ _ (.inl rfl) q, ⟨o, k _ _ (.inl rfl) e⟩, st⟩
theorem HOk.lt (x : HOk P w H h) (e : H a = some o) : a < h.objs.size := (x a o e).lt
theorem HOk.fresh (x : HOk P w H h) (e : h.objs.size ≤ a) : H a = none := by
  cases q : H a with
  | none => rfl
  | some u => exact absurd (Nat.lt_of_lt_of_le (x.lt q) e) (Nat.lt_irrefl _)
/-- every object of the heap is kept -/
theorem HOk.kept (x : HOk P w H h) (k : ∀ b u, h.get? b = some u → h'.get? b = some u) : HOk P w H h' := fun a o e =>
  (x a o e).stay (fun b u _ q => k b u q) (fun _ q => q) fun _ _ q => q
/-- a new object is laid and tracked -/
theorem HOk.laid (x : HOk P w H h) (k : ∀ b u, h.get? b = some u → h'.get? b = some u) (hp : h.objs.size ≤ a) (new : ObjOk P w (upd H a o) h' a o) : HOk P w (upd H a o) h' := fun b u e => by
  have hn := x.fresh hp
  by_cases hb : b = a
  · subst hb; rw [upd_same] at e; cases e; exact new
  · rw [upd_ne hb] at e
    exact (x b u e).stay (fun c v _ q => k c v q) (fun c q => by rw [upd_ne (ne_of_none q hn)]; exact q) fun c xs q => by rw [upd_ne (ne_of_none q hn)]; exact q
end
/-- what may be read as u: it is u, or a known u -/
def Rd (H : Hp) (a : Addr) (u : HO) : Prop := H a = some u ∨ ∃ o, H a = some (.frz o u)
theorem Rd.ok {P : Program} {w : World} {H : Hp} {h : Heap} {a : Addr} {u : HO} (r : Rd H a u) (x : HOk P w H h) : ObjOk P w H h a u := by
  rcases r with r | ⟨o, r⟩
  · exact x a u r
  · obtain ⟨_, q⟩ := x a _ r
    exact q
/-- what may be written -/
def Mut : Option HO → Prop
  | some (.lst _) => True
  | some (.dK _) => True
  | some (.dT _) => True
  | some (.set _ _) => True
  | some (.ins _ _ _) => True
  | some (.ext _) => True
  | _ => False
section
variable {P : Program} {w : World} {H : Hp} {h h' : Heap} {x e : Addr} {o' : HO}
/-- the object at e is changed: x itself, or the dict of the instance x -/
theorem HOk.write (ok : HOk P w H h) (mu : Mut (H x)) (he : e = x ∨ H e = some (.own x)) (k : ∀ b u, b ≠ e → h.get? b = some u → h'.get? b = some u) (heo : ∃ u, h'.get? e = some u)
    (new : ObjOk P w (upd H x o') h' x o') : HOk P w (upd H x o') h' := fun b u q => by
  have nown : ∀ c y, H c = some (.own y) → c ≠ x := fun c y r z => by subst z; rw [r] at mu; exact mu
  have ntup : ∀ c xs, H c = some (.tup xs) → c ≠ x := fun c xs r z => by subst z; rw [r] at mu; exact mu
  by_cases hb : b = x
  · subst hb; rw [upd_same] at q; cases q; exact new
  · rw [upd_ne hb] at q
    by_cases hbe : b = e
    · have q' : H b = some (.own x) := by
        rcases he with z | z
        · exact absurd (hbe.trans z) hb
        · rw [hbe]; exact z
      rw [q] at q'; cases q'
      obtain ⟨v, hv⟩ := heo
      exact ⟨v, by rw [hbe]; exact hv⟩
    · refine (ok b u q).stay (fun c v hc r => k c v ?_ r) (fun c r => by rw [upd_ne (nown c b r)]; exact r) fun c xs r => by rw [upd_ne (ntup c xs r)]; exact r
      rcases hc with rfl | hc
      · exact hbe
      · rintro rfl
        rcases he with z | z
        · exact nown c b hc z
        · rw [hc] at z; cases z; exact hb rfl
end
structure Un (fs ex : List Addr) (H H' : Hp) (h h' : Heap) : Prop where
  keep : ∀ b o, h.get? b = some o → H b = none → b ∉ fs → b ∉ ex → h'.get? b = some o
  slot : ∀ b o, h.get? b = some o → H b = none → b ∈ fs → b ∉ ex → ∃ sl, h'.get? b = some { o with slots := sl }
  free : ∀ b o, h.get? b = some o → H b = none → b ∉ ex → H' b = none
  there : ∀ b o, h.get? b = some o → b ∉ ex → ∃ o', h'.get? b = some o'
  tups : ∀ b xs, H b = some (.tup xs) → H' b = some (.tup xs)
  frzs : ∀ b o u, H b = some (.frz o u) → H' b = some (.frz o u)
  tbls : ∀ b ps, H b = some (.tbl ps) → ∃ more, H' b = some (.tbl (ps ++ more))
section
variable {fs fs' ex ex' : List Addr} {H H1 H2 : Hp} {h h1 h2 h' : Heap} {a x e : Addr} {o : HO}
theorem Un.any (u : Un fs ex H H1 h h1) {b : Addr} {ob : Obj} (q : h.get? b = some ob) (n : H b = none) (hx : b ∉ ex) : ∃ sl, h1.get? b = some { ob with slots := sl } := by
  by_cases hb : b ∈ fs
  · exact u.slot b ob q n hb hx
  · exact ⟨ob.slots, u.keep b ob q n hb hx⟩
theorem Un.kept (k : ∀ b u, h.get? b = some u → h'.get? b = some u) : Un fs ex H H h h' :=
  ⟨fun b ob q _ _ _ => k b ob q, fun b ob q _ _ _ => ⟨ob.slots, k b ob q⟩, fun _ _ _ n _ => n, fun b ob q _ => ⟨ob, k b ob q⟩, fun _ _ q => q, fun _ _ _ q => q, fun _ ps q => ⟨#[], by rw [q]; simp⟩⟩
theorem Un.refl : Un fs ex H H h h := Un.kept fun _ _ q => q
theorem Un.laid (k : ∀ b u, h.get? b = some u → h'.get? b = some u) (hp : h.objs.size ≤ a) (hn : H a = none) : Un fs ex H (upd H a o) h h' where
  keep := fun b u q _ _ _ => k b u q
  slot := fun b u q _ _ _ => ⟨u.slots, k b u q⟩
  free := fun b u q n _ => by rw [upd_ne (Nat.ne_of_lt (Nat.lt_of_lt_of_le (Heap.lt_size q) hp))]; exact n
  there := fun b u q _ => ⟨u, k b u q⟩
  tups := fun b xs q => by rw [upd_ne (ne_of_none q hn)]; exact q
  frzs := fun b u xs q => by rw [upd_ne (ne_of_none q hn)]; exact q
  tbls := fun b ps q => ⟨#[], by rw [upd_ne (ne_of_none q hn), q]; simp⟩
theorem Un.write (mu : Mut (H x)) (he : e = x ∨ H e = some (.own x)) (k : ∀ b u, b ≠ e → h.get? b = some u → h'.get? b = some u) (heo : ∃ u, h'.get? e = some u) : Un fs ex H (upd H x o) h h' := by
  have hx : ∀ b, H b = none → b ≠ x := fun b n z => by subst z; rw [n] at mu; exact mu
  have hb : ∀ b, H b = none → b ≠ e := fun b n z => by
    subst z
    rcases he with r | r
    · exact hx b n r
    · rw [n] at r; cases r
  have hm : ∀ b u, H b = some u → ¬ Mut (some u) → b ≠ x := fun b u q nm z => by subst z; rw [q] at mu; exact nm mu
  refine ⟨fun b u q n _ _ => k b u (hb b n) q, fun b u q n _ _ => ⟨u.slots, k b u (hb b n) q⟩, fun b u q n _ => by rw [upd_ne (hx b n)]; exact n, fun b u q _ => ?_,
    fun b xs q => by rw [upd_ne (hm b _ q fun z => z)]; exact q, fun b u xs q => by rw [upd_ne (hm b _ q fun z => z)]; exact q, fun b ps q => ⟨#[], by rw [upd_ne (hm b _ q fun z => z), q]; simp⟩⟩
  by_cases hbe : b = e
  · subst hbe; exact heo
  · exact ⟨u, k b u hbe q⟩
end
def trk (h : Heap) (H : Hp) : List Addr := (List.range h.objs.size).filter fun a => (H a).isSome
def hidT (h : Heap) (H : Hp) : Heap := PySem.W.hideAll h (trk h H)
theorem hidT_size (h : Heap) (H : Hp) : (hidT h H).objs.size = h.objs.size := PySem.W.hideAll_size _ _
theorem hidT_get {h : Heap} {H : Hp} {b : Addr} {o : Obj} (e : h.get? b = some o) (n : H b = none) : (hidT h H).get? b = some o :=
  PySem.W.hideAll_get _ e fun hm => by
    have q : (H b).isSome = true := (List.mem_filter.mp hm).2
    rw [n] at q; simp at q
theorem of_hidT {h : Heap} {H : Hp} {b : Addr} {o : Obj} (e : (hidT h H).get? b = some o) : h.get? b = some o ∧ H b = none := by
  have e' : h.get? b = some o := PySem.W.of_hideAll (trk h H) e
  refine ⟨e', ?_⟩
  cases q : H b with
  | none => rfl
  | some x =>
    have hm : b ∈ trk h H := List.mem_filter.mpr ⟨List.mem_range.mpr (Heap.lt_size e'), by simp [q]⟩
    have z : (hidT h H).get? b = none := PySem.W.hideAll_none (trk h H) hm
    rw [z] at e; cases e
end L2
namespace L2
open PySem PySem.Spec PyProof.Rows
/-- the module's facts, over the base: the heap at the law's entry without what is tracked there -/
structure Mod (K : PySem.W.Frag) (mg : Str → Option Value) (base : Heap) : Prop where
  kin : K.In base
  glob : base.Ns mainGlobals mg
  blt : ∃ mb, base.Ns builtinsNs mb ∧ ∀ x : Str, x ≠ "__name__" → mb x = bootBuiltins x
  nolimit : base.NoLimit
/-- the context: a def's body (or a comprehension's block) running. base: fixed through the whole law; s₀, H₀: the entry; outer: the frames whose slots others may change (a def's callers); stack: all frames that run;
   ex: iterators that were made ahead of the entry and are walked here (a comprehension's); fn: the names whose cells were made at the entry (a def: all; a comprehension's block: its own); calm: not within an except suite; pn: pins that every state bears; xe: what is wanted of an exception that leaves the code -/
structure Cx where
  prog : Program
  w : World
  K : PySem.W.Frag
  mg : Str → Option Value
  base : Heap
  A : Around
  N : List Str
  s_0 : Shared
  H_0 : Hp
  env : Env
  outer : List Env
  stack : List Env
  ex : List Addr
  fn : Str → Bool
  calm : Bool
  pn : List (Addr × Obj)
  xe : Value → Shared → Prop
/-- the callers' frames -/
def frs (l : List Env) : List Addr := l.filterMap (·.frame)
abbrev Cx.fs (X : Cx) : List Addr := frs X.outer
def Vis (sc : Scope) (x : Str) : Prop := sc.names.lookup x = some .local ∨ sc.names.lookup x = some .cell ∨ sc.names.lookup x = some .free
def Loc (sc : Scope) (x : Str) : Prop := sc.names.lookup x = some .local ∨ sc.names.lookup x = some .cell
def Look (env : Env) (h : Heap) (m : Str → Option Value) (x : Str) (u : Value) : Prop :=
  (env.kindOf x = some .local ∧ m x = some u) ∨ ((env.kindOf x = some .cell ∨ env.kindOf x = some .free) ∧ ∃ c, env.cells.lookup x = some c ∧ h.IsCell c (some u))
structure Cx.Ok (X : Cx) : Prop where
  mod : Mod X.K X.mg X.base
  kind : X.env.scope.kind = .function
  glob : X.env.globals = mainGlobals
  blt : X.env.builtins = builtinsNs
  above : X.s_0.heap.objs.size ≤ X.env.locals
  inj : ∀ x y c, X.env.cells.lookup x = some c → X.env.cells.lookup y = some c → x = y
  has : ∀ x, (X.env.kindOf x = some .cell ∨ X.env.kindOf x = some .free) → ∃ c, X.env.cells.lookup x = some c
  cab : ∀ x c, X.fn x = true → X.env.cells.lookup x = some c → X.s_0.heap.objs.size ≤ c
  hd : X.calm = true → X.A.handled = none
  frames : X.A.frames = some X.stack
  stk : X.stack = X.outer ∨ (X.stack = X.env :: X.outer ∧ X.env.frame = some X.env.locals)
  exf : ∀ b ∈ X.ex, b ≠ X.env.locals ∧ ∀ x c, X.env.cells.lookup x = some c → c ≠ b
  bs : ∀ b o, X.base.get? b = some o → X.s_0.heap.get? b = some o ∧ X.H_0 b = none
  bsz : X.base.objs.size ≤ X.s_0.heap.objs.size
  noex : ∀ b o, X.base.get? b = some o → b ∉ X.ex
  exfs : ∀ b ∈ X.ex, b ∉ X.fs
  funs : X.s_0.heap.FunFrames X.base X.outer
  frf : ∀ b ∈ X.fs, X.H_0 b = none
structure Inv (X : Cx) (pins : List (Addr × Obj)) (σ : List (Option V)) (H : Hp) (s : Shared) : Prop where
  ok : X.Ok
  os : s.os = X.s_0.os
  bare : AllBare s.gens
  base : Un X.fs X.ex X.H_0 H X.s_0.heap s.heap
  loc : ∃ m, s.heap.Ns X.env.locals m ∧ ∀ (i : Nat) (x : Str) (v : V), X.N[i]? = some x → σ[i]? = some (some v) → Vis X.env.scope x → ∃ u, RelV v u ∧ Look X.env s.heap m x u
  cell : ∀ x c, X.env.cells.lookup x = some c → ∃ v, s.heap.IsCell c v
  free : H X.env.locals = none
  freeC : ∀ x c, X.env.cells.lookup x = some c → H c = none
  pin : ∀ p ∈ X.pn ++ pins, s.heap.get? p.1 = some p.2 ∧ H p.1 = none ∧ p.1 ≠ X.env.locals ∧ p.1 ∉ X.fs ∧ ∀ v, p.2.data ≠ .cell v
  hok : HOk X.prog X.w H s.heap
  len : σ.length = X.N.length
section
variable {X : Cx} {pins : List (Addr × Obj)} {σ : List (Option V)} {H H' : Hp} {s : Shared} {h' : Heap}
theorem Cx.Ok.nofr (ok : X.Ok) {b : Addr} {o : Obj} (e : X.base.get? b = some o) : b ∉ X.fs := fun hb => by
  have := (ok.funs.mem hb).1
  rw [e] at this; cases this
theorem Inv.bs (I : Inv X pins σ H s) : ∀ b o, X.base.get? b = some o → s.heap.get? b = some o ∧ H b = none := fun b o e =>
  ⟨I.base.keep b o (I.ok.bs b o e).1 (I.ok.bs b o e).2 (I.ok.nofr e) (I.ok.noex b o e), I.base.free b o (I.ok.bs b o e).1 (I.ok.bs b o e).2 (I.ok.noex b o e)⟩
theorem Inv.bk (I : Inv X pins σ H s) : ∀ b o, X.base.get? b = some o → s.heap.get? b = some o := fun b o e => (I.bs b o e).1
theorem Inv.mod (I : Inv X pins σ H s) : Mod X.K X.mg X.base := I.ok.mod
theorem Inv.kIn (I : Inv X pins σ H s) : X.K.In s.heap := I.ok.mod.kin.keeps I.bk
/-- the frame over the base: for OpenK's rules (K.In X.base is I.mod.kin) -/
theorem Inv.fr (I : Inv X pins σ H s) : ∃ m, Fr X.base X.env.locals s.heap m :=
  let ⟨m, hn, _⟩ := I.loc
  ⟨m, hn, I.bk, Nat.le_trans I.ok.bsz I.ok.above⟩
theorem Inv.lt (I : Inv X pins σ H s) : X.env.locals < s.heap.objs.size := let ⟨_, hn, _⟩ := I.loc; hn.lt
theorem Inv.sz (I : Inv X pins σ H s) : X.s_0.heap.objs.size ≤ s.heap.objs.size := Nat.le_trans I.ok.above (Nat.le_of_lt I.lt)
theorem Inv.nofs (I : Inv X pins σ H s) {a : Addr} (h : s.heap.objs.size ≤ a) : a ∉ X.fs := fun hb => by
  obtain ⟨_, o, ho, _⟩ := I.ok.funs.mem hb
  exact absurd (Nat.lt_of_lt_of_le (Heap.lt_size ho) (Nat.le_trans I.sz h)) (Nat.lt_irrefl _)
theorem Inv.cne (I : Inv X pins σ H s) : ∀ x c, X.env.cells.lookup x = some c → c ≠ X.env.locals := fun x c e z => by
  obtain ⟨v, o, ho, hd⟩ := I.cell x c e
  obtain ⟨m, ⟨o', es, ep, ho', hd', _⟩, _⟩ := I.loc
  rw [z, ho'] at ho; cases ho; rw [hd'] at hd; cases hd
theorem Inv.funs (I : Inv X pins σ H s) : s.heap.FunFrames X.base X.outer := by
  have all : ∀ (l : List Env), (∀ b ∈ frs l, b ∈ X.fs) → X.s_0.heap.FunFrames X.base l → s.heap.FunFrames X.base l := by
    intro l
    induction l with
    | nil => intro _ _; trivial
    | cons env r ih =>
      intro hs hl
      obtain ⟨hk, ⟨L, o, hf, hn, ho, hd⟩, hr⟩ := hl
      have hL : L ∈ X.fs := hs L (by unfold frs; rw [List.filterMap_cons, hf]; exact List.mem_cons_self)
      obtain ⟨sl, e⟩ := I.base.slot L o ho (I.ok.frf L hL) hL fun z => I.ok.exfs L z hL
      exact ⟨hk, ⟨L, _, hf, hn, e, hd⟩, ih (fun b hb => hs b (by unfold frs; rw [List.filterMap_cons, hf]; exact List.mem_cons_of_mem _ hb)) hr⟩
  exact all X.outer (fun _ hb => hb) I.ok.funs
/-- the frames that run, for a call -/
theorem Inv.stack (I : Inv X pins σ H s) : s.heap.FunFrames X.base X.stack := by
  rcases I.ok.stk with e | ⟨e, hf⟩
  · rw [e]; exact I.funs
  · rw [e]
    obtain ⟨m, hn, _⟩ := I.loc
    refine .cons (by rw [I.ok.kind]; decide) hf hn ?_ I.funs
    exact Heap.get?_none_of_le (Nat.le_trans I.ok.bsz I.ok.above)
theorem Inv.stkSub (I : Inv X pins σ H s) : ∀ b ∈ frs X.stack, b ∈ X.env.locals :: X.fs := fun b hb => by
  rcases I.ok.stk with e | ⟨e, hf⟩
  · rw [e] at hb; exact List.mem_cons_of_mem _ hb
  · rw [e] at hb
    unfold frs at hb
    rw [List.filterMap_cons, hf] at hb
    exact hb
theorem Inv.stkFree (I : Inv X pins σ H s) : ∀ b ∈ frs X.stack, H b = none := fun b hb => by
  rcases List.mem_cons.mp (I.stkSub b hb) with e | hb
  · rw [e]; exact I.free
  · obtain ⟨_, o, ho, _⟩ := I.ok.funs.mem hb
    exact I.base.free b o ho (I.ok.frf b hb) fun z => I.ok.exfs b z hb
/-- THE STEP: the untracked objects but the frame and the records at ch are kept (the callers' frames up to slots), the frame's map is kept, the new abstract heap is held -/
theorem Inv.step {g' : Array GenState} {t' : Nat} {d' : Drawn} {ch : List Addr} (I : Inv X pins σ H s)
    (hch : ∀ b ∈ ch, (b ∈ X.ex ∨ X.s_0.heap.objs.size ≤ b) ∧ b ≠ X.env.locals ∧ (∀ x c, X.env.cells.lookup x = some c → c ≠ b) ∧ ∀ p ∈ X.pn ++ pins, p.1 ≠ b)
    (keep : ∀ b o, b ≠ X.env.locals → b ∉ X.fs → b ∉ ch → s.heap.get? b = some o → H b = none → h'.get? b = some o)
    (slot : ∀ b o, b ≠ X.env.locals → b ∈ X.fs → b ∉ ch → s.heap.get? b = some o → H b = none → ∃ sl, h'.get? b = some { o with slots := sl }) (free : ∀ b o, b ∉ ch → s.heap.get? b = some o → H b = none → H' b = none)
    (there : ∀ b o, b ∉ ch → s.heap.get? b = some o → ∃ o', h'.get? b = some o')
    (tups : ∀ b xs, H b = some (.tup xs) → H' b = some (.tup xs)) (frzs : ∀ b o u, H b = some (.frz o u) → H' b = some (.frz o u)) (tbls : ∀ b ps, H b = some (.tbl ps) → ∃ more, H' b = some (.tbl (ps ++ more)))
    (ns : ∀ m, s.heap.Ns X.env.locals m → h'.Ns X.env.locals m) (hok : HOk X.prog X.w H' h') (hg : AllBare g') :
    Inv X pins σ H' { s with heap := h', gens := g', drawn := d', toks := t' } := by
  have neL : ∀ b o, X.s_0.heap.get? b = some o → b ≠ X.env.locals := fun b o e => Nat.ne_of_lt (Nat.lt_of_lt_of_le (Heap.lt_size e) I.ok.above)
  have neC : ∀ b o, X.s_0.heap.get? b = some o → b ∉ X.ex → b ∉ ch := fun b o e hx hb => by
    rcases (hch b hb).1 with z | z
    · exact hx z
    · exact absurd (Nat.lt_of_lt_of_le (Heap.lt_size e) z) (Nat.lt_irrefl _)
  have cellK : ∀ x c, X.env.cells.lookup x = some c → ∀ v, s.heap.IsCell c v → h'.IsCell c v := fun x c e v ⟨o, ho, hd⟩ => by
    have nch : c ∉ ch := fun z => (hch c z).2.2.1 x c e rfl
    by_cases hc : c ∈ X.fs
    · obtain ⟨sl, q⟩ := slot c o (I.cne x c e) hc nch ho (I.freeC x c e)
      exact ⟨_, q, hd⟩
    · exact ⟨o, keep c o (I.cne x c e) hc nch ho (I.freeC x c e), hd⟩
  refine ⟨I.ok, I.os, hg, ⟨fun b o e n hb hx => ?_, fun b o e n hb hx => ?_, fun b o e n hx => ?_, fun b o e hx => ?_, fun b xs e => tups b xs (I.base.tups b xs e), fun b o xs e => frzs b o xs (I.base.frzs b o xs e), fun b ps e => ?_⟩, ?_, fun x c e => ?_, ?_, fun x c e => ?_, fun p hp => ?_, hok, I.len⟩
  · exact keep b o (neL b o e) hb (neC b o e hx) (I.base.keep b o e n hb hx) (I.base.free b o e n hx)
  · obtain ⟨sl, e1⟩ := I.base.slot b o e n hb hx
    obtain ⟨sl', e2⟩ := slot b _ (neL b o e) hb (neC b o e hx) e1 (I.base.free b o e n hx)
    exact ⟨sl', e2⟩
  · obtain ⟨o', e1⟩ := I.base.there b o e hx
    exact free b o' (neC b o e hx) e1 (I.base.free b o e n hx)
  · obtain ⟨o', e1⟩ := I.base.there b o e hx
    exact there b o' (neC b o e hx) e1
  · obtain ⟨m1, e1⟩ := I.base.tbls b ps e
    obtain ⟨m2, e2⟩ := tbls b _ e1
    exact ⟨m1 ++ m2, by rw [e2, Array.append_assoc]⟩
  · obtain ⟨m, hn, hl⟩ := I.loc
    refine ⟨m, ns m hn, fun i x v e1 e2 e3 => ?_⟩
    obtain ⟨u, r, l⟩ := hl i x v e1 e2 e3
    refine ⟨u, r, ?_⟩
    rcases l with l | ⟨k, c, e, z⟩
    · exact .inl l
    · exact .inr ⟨k, c, e, cellK x c e _ z⟩
  · obtain ⟨v, z⟩ := I.cell x c e
    exact ⟨v, cellK x c e v z⟩
  · obtain ⟨m, ⟨o, _, _, ho, _⟩, _⟩ := I.loc
    exact free _ o (fun z => (hch _ z).2.1 rfl) ho I.free
  · obtain ⟨v, o, ho, hd⟩ := I.cell x c e
    exact free c o (fun z => (hch c z).2.2.1 x c e rfl) ho (I.freeC x c e)
  · obtain ⟨e, n, ne, nf, d⟩ := I.pin p hp
    have nch : p.1 ∉ ch := fun z => (hch p.1 z).2.2.2 p hp rfl
    exact ⟨keep p.1 p.2 ne nf nch e n, free p.1 p.2 nch e n, ne, nf, d⟩
/-- .. where the frame's own object is kept too -/
theorem Inv.un {t' : Nat} (I : Inv X pins σ H s) (u : Un X.fs [] H H' s.heap h') (hok : HOk X.prog X.w H' h') : Inv X pins σ H' { s with heap := h', toks := t' } := by
  obtain ⟨m, ⟨o, es, ep, ho, r⟩, _⟩ := id I.loc
  obtain ⟨sl, hL⟩ := u.any ho I.free (by simp)
  exact I.step (g' := s.gens) (d' := s.drawn) (ch := []) (fun _ z => nomatch z) (fun b o _ hb _ e n => u.keep b o e n hb (by simp)) (fun b o _ hb _ e n => u.slot b o e n hb (by simp)) (fun b o _ e n => u.free b o e n (by simp)) (fun b o _ e => u.there b o e (by simp)) u.tups u.frzs u.tbls (fun m' hm => by
    obtain ⟨o', es', ep', ho', r'⟩ := hm
    rw [ho] at ho'; cases ho'
    exact ⟨_, es', ep', hL, r'⟩) hok I.bare
/-- behind a call (or a comprehension's block): the slots of this frame may have changed too, the records at ch may have turned -/
theorem Inv.call {g' : Array GenState} {t' : Nat} {d' : Drawn} {ch : List Addr} (I : Inv X pins σ H s) (u : Un (frs X.stack) ch H H' s.heap h') (hok : HOk X.prog X.w H' h') (hg : AllBare g')
    (hch : ∀ b ∈ ch, (b ∈ X.ex ∨ X.s_0.heap.objs.size ≤ b) ∧ b ≠ X.env.locals ∧ (∀ x c, X.env.cells.lookup x = some c → c ≠ b) ∧ ∀ p ∈ X.pn ++ pins, p.1 ≠ b) :
    Inv X pins σ H' { s with heap := h', gens := g', drawn := d', toks := t' } := by
  obtain ⟨m, ⟨o, es, ep, ho, r⟩, _⟩ := id I.loc
  obtain ⟨sl, hL⟩ := u.any ho I.free fun z => (hch _ z).2.1 rfl
  exact I.step (ch := ch) hch (fun b o hL hb hc e n => u.keep b o e n (fun z => (List.mem_cons.mp (I.stkSub b z)).elim hL hb) hc) (fun b o _ _ hc e n => u.any e n hc) (fun b o hc e n => u.free b o e n hc) (fun b o hc e => u.there b o e hc) u.tups u.frzs u.tbls (fun m' hm => by
    obtain ⟨o', es', ep', ho', r'⟩ := hm
    rw [ho] at ho'; cases ho'
    exact ⟨_, es', ep', hL, r'⟩) hok hg
/-- an untracked record of ours (an iterator) has turned -/
theorem Inv.turned {t' : Nat} {it : Addr} (I : Inv X pins σ H s) (k : ∀ b o, b ≠ it → s.heap.get? b = some o → h'.get? b = some o) (hn : H it = none) (hL : it ≠ X.env.locals)
    (h1 : it ∈ X.ex ∨ X.s_0.heap.objs.size ≤ it) (h2 : ∀ x c, X.env.cells.lookup x = some c → c ≠ it) (h3 : ∀ p ∈ X.pn ++ pins, p.1 ≠ it) : Inv X pins σ H { s with heap := h', toks := t' } := by
  have nit : ∀ b u, H b = some u → b ≠ it := fun b u e z => by rw [z, hn] at e; cases e
  refine I.step (g' := s.gens) (d' := s.drawn) (ch := [it]) (fun b hb => ?_) (fun b o _ _ hc e _ => k b o (fun z => hc (by simp [z])) e) (fun b o _ _ hc e _ => ⟨o.slots, k b o (fun z => hc (by simp [z])) e⟩) (fun _ _ _ _ n => n)
    (fun b o hc e => ⟨o, k b o (fun z => hc (by simp [z])) e⟩) (fun _ _ e => e) (fun _ _ _ e => e) (fun b ps e => ⟨#[], by rw [e]; simp⟩) (fun m hm => ?_) (fun b u e => ?_) I.bare
  · have e : b = it := by simpa using hb
    subst e
    exact ⟨h1, hL, h2, h3⟩
  · obtain ⟨o, es, ep, ho, r⟩ := hm
    exact ⟨o, es, ep, k _ o (Ne.symm hL) ho, r⟩
  · refine (I.hok b u e).stay (fun c v hc q => k c v ?_ q) (fun _ q => q) fun _ _ q => q
    rcases hc with z | z
    · rw [z]; exact nit b u e
    · exact nit c _ z
theorem Inv.tok (I : Inv X pins σ H s) (t : Nat) : Inv X pins σ H { s with toks := t } := I.un (h' := s.heap) (t' := t) Un.refl I.hok
/-- all objects kept -/
theorem Inv.kept {t' : Nat} (I : Inv X pins σ H s) (k : ∀ b u, s.heap.get? b = some u → h'.get? b = some u) : Inv X pins σ H { s with heap := h', toks := t' } := I.un (Un.kept k) (I.hok.kept k)
/-- a new object laid and tracked -/
theorem Inv.laid {a : Addr} {o : HO} {t' : Nat} (I : Inv X pins σ H s) (k : ∀ b u, s.heap.get? b = some u → h'.get? b = some u) (hp : s.heap.objs.size ≤ a) (new : ObjOk X.prog X.w (upd H a o) h' a o) :
    Inv X pins σ (upd H a o) { s with heap := h', toks := t' } := I.un (Un.laid k hp (I.hok.fresh hp)) (I.hok.laid k hp new)
/-- an object written -/
theorem Inv.write {x e : Addr} {o : HO} {t' : Nat} (I : Inv X pins σ H s) (mu : Mut (H x)) (he : e = x ∨ H e = some (.own x)) (k : ∀ b u, b ≠ e → s.heap.get? b = some u → h'.get? b = some u) (heo : ∃ u, h'.get? e = some u)
    (new : ObjOk X.prog X.w (upd H x o) h' x o) : Inv X pins σ (upd H x o) { s with heap := h', toks := t' } := I.un (Un.write mu he k heo) (I.hok.write mu he k heo new)
/-- forgetting slots, pins -/
theorem Inv.weak {σ' : List (Option V)} (I : Inv X pins σ H s) (hl : σ'.length = σ.length) (w : ∀ (i : Nat) v, σ'[i]? = some (some v) → σ[i]? = some (some v)) : Inv X pins σ' H s :=
  ⟨I.ok, I.os, I.bare, I.base, let ⟨m, hn, hl'⟩ := I.loc; ⟨m, hn, fun i x v e1 e2 e3 => hl' i x v e1 (w i v e2) e3⟩, I.cell, I.free, I.freeC, I.pin, I.hok, hl.trans I.len⟩
theorem Inv.pins_of {pins' : List (Addr × Obj)} (I : Inv X pins σ H s) (h : ∀ p ∈ pins', s.heap.get? p.1 = some p.2 ∧ H p.1 = none ∧ p.1 ≠ X.env.locals ∧ p.1 ∉ X.fs ∧ ∀ v, p.2.data ≠ .cell v) : Inv X pins' σ H s :=
  ⟨I.ok, I.os, I.bare, I.base, I.loc, I.cell, I.free, I.freeC, fun p hp => (List.mem_append.mp hp).elim (fun z => I.pin p (List.mem_append_left _ z)) (h p), I.hok, I.len⟩
theorem nodup_ix {N : List Str} (hN : N.Nodup) {i j : Nat} {x : Str} (a : N[i]? = some x) (b : N[j]? = some x) : i = j := by
  obtain ⟨h1, e1⟩ := List.getElem?_eq_some_iff.mp a
  obtain ⟨h2, e2⟩ := List.getElem?_eq_some_iff.mp b
  exact (List.getElem_inj hN).mp (e1.trans e2.symm)
/-- a name is stored; what changed -/
theorem store_ok2 {M : Model} {A : Around} {E : Value → Shared → Prop} {i : Nat} {x : Str} {v : V} {u : Value} {Q : Unit → Shared → Prop} (I : Inv X pins σ H s) (hN : X.N.Nodup) (hi : X.N[i]? = some x) (hx : Loc X.env.scope x) (r : RelV v u)
    (h : ∀ s', Inv X pins (σ.set i (some v)) H s' → (∃ a, Heap.SameBut a s.heap s'.heap ∧ (a = X.env.locals ∨ X.env.cells.lookup x = some a)) → Q () s') (hf : X.fn x = true ∨ X.env.scope.names.lookup x = some .local := by first | exact .inl rfl | exact .inr rfl | assumption) : wpAny M A (storeName X.env x u) Q E s := by
  obtain ⟨m, hn, hl⟩ := id I.loc
  have hcls : (X.env.scope.kind == .class || (X.env.scope.kind == .module && X.env.locals != X.env.globals)) = false := by rw [I.ok.kind]; rfl
  have hiσ : i < σ.length := by rw [I.len]; exact (List.getElem?_eq_some_iff.mp hi).1
  have cne := I.cne
  have tracked : ∀ {a : Addr} {h' : Heap}, (∃ o, s.heap.get? a = some o ∧ H a = none) → Heap.SameBut a s.heap h' → HOk X.prog X.w H h' := fun {a h'} ha hs b ob e => by
    obtain ⟨_, _, hfree⟩ := ha
    refine (I.hok b ob e).stay (fun c w' hc q => (hs.2 c ?_).trans q) (fun _ q => q) fun _ _ q => q
    rintro rfl
    rcases hc with rfl | hc
    · rw [hfree] at e; cases e
    · rw [hfree] at hc; cases hc
  rcases hx with hk | hk
  · refine wpAny_storeName_local hk hn (fun h' hn' hs => ?_) hcls
    obtain ⟨oL, _, _, hoL, _⟩ := id hn
    refine h _ ⟨I.ok, I.os, I.bare, ⟨fun b o e n hb hx => ?_, fun b o e n hb hx => ?_, I.base.free, fun b o e hx => ?_, I.base.tups, I.base.frzs, I.base.tbls⟩, ⟨_, hn', fun j y v' e1 e2 e3 => ?_⟩, fun y c e => ?_, I.free, I.freeC, fun p hp => ?_, tracked ⟨oL, hoL, I.free⟩ hs, by simpa using I.len⟩ ⟨_, hs, .inl rfl⟩
    · exact (hs.2 b (Nat.ne_of_lt (Nat.lt_of_lt_of_le (Heap.lt_size e) I.ok.above))).trans (I.base.keep b o e n hb hx)
    · obtain ⟨sl, e1⟩ := I.base.slot b o e n hb hx
      exact ⟨sl, (hs.2 b (Nat.ne_of_lt (Nat.lt_of_lt_of_le (Heap.lt_size e) I.ok.above))).trans e1⟩
    · obtain ⟨o', e1⟩ := I.base.there b o e hx
      exact ⟨o', (hs.2 b (Nat.ne_of_lt (Nat.lt_of_lt_of_le (Heap.lt_size e) I.ok.above))).trans e1⟩
    · by_cases hj : j = i
      · subst hj
        rw [hi] at e1; cases e1
        rw [List.getElem?_set_self hiσ] at e2
        cases e2
        exact ⟨u, r, .inl ⟨hk, by simp⟩⟩
      · rw [List.getElem?_set_ne (Ne.symm hj)] at e2
        obtain ⟨u', r', q⟩ := hl j y v' e1 e2 e3
        refine ⟨u', r', ?_⟩
        rcases q with ⟨k, e⟩ | ⟨k, c, e, z⟩
        · refine .inl ⟨k, ?_⟩
          have : y ≠ x := fun e => hj (nodup_ix hN e1 (e ▸ hi))
          simp [this, e]
        · exact .inr ⟨k, c, e, z.sameBut hs (cne y c e)⟩
    · obtain ⟨w', z⟩ := I.cell y c e
      exact ⟨w', z.sameBut hs (cne y c e)⟩
    · obtain ⟨e, n, ne, nf, d⟩ := I.pin p hp
      exact ⟨(hs.2 p.1 ne).trans e, n, ne, nf, d⟩
  · have hfn : X.fn x = true := by
      rcases hf with z | z
      · exact z
      · rw [z] at hk; cases hk
    obtain ⟨c, hc⟩ := I.ok.has x (.inl hk)
    obtain ⟨w', z⟩ := I.cell x c hc
    refine wpAny_storeName_cell I.ok.kind hk hc z (fun h' hc' hs => ?_)
    obtain ⟨oc, hoc, hocd⟩ := id z
    refine h { s with heap := h' } ⟨I.ok, I.os, I.bare, ⟨fun b o e n hb hx => ?_, fun b o e n hb hx => ?_, I.base.free, fun b o e hx => ?_, I.base.tups, I.base.frzs, I.base.tbls⟩, ⟨m, hn.sameBut hs (Ne.symm (cne x c hc)), fun j y v' e1 e2 e3 => ?_⟩, fun y c' e => ?_, I.free, I.freeC, fun p hp => ?_, tracked ⟨oc, hoc, I.freeC x c hc⟩ hs, by simpa using I.len⟩ ⟨c, hs, .inr hc⟩
    · exact (hs.2 b (Nat.ne_of_lt (Nat.lt_of_lt_of_le (Heap.lt_size e) (I.ok.cab x c hfn hc)))).trans (I.base.keep b o e n hb hx)
    · obtain ⟨sl, e1⟩ := I.base.slot b o e n hb hx
      exact ⟨sl, (hs.2 b (Nat.ne_of_lt (Nat.lt_of_lt_of_le (Heap.lt_size e) (I.ok.cab x c hfn hc)))).trans e1⟩
    · obtain ⟨o', e1⟩ := I.base.there b o e hx
      exact ⟨o', (hs.2 b (Nat.ne_of_lt (Nat.lt_of_lt_of_le (Heap.lt_size e) (I.ok.cab x c hfn hc)))).trans e1⟩
    · by_cases hj : j = i
      · subst hj
        rw [hi] at e1; cases e1
        rw [List.getElem?_set_self hiσ] at e2
        cases e2
        exact ⟨u, r, .inr ⟨.inl hk, c, hc, hc'⟩⟩
      · rw [List.getElem?_set_ne (Ne.symm hj)] at e2
        obtain ⟨u', r', q⟩ := hl j y v' e1 e2 e3
        refine ⟨u', r', ?_⟩
        rcases q with q | ⟨k, c', e, z'⟩
        · exact .inl q
        · refine .inr ⟨k, c', e, z'.sameBut hs ?_⟩
          rintro rfl
          exact hj (nodup_ix hN e1 (I.ok.inj _ _ _ e hc ▸ hi))
    · by_cases hcc : c' = c
      · subst hcc; exact ⟨_, hc'⟩
      · obtain ⟨w2, z2⟩ := I.cell y c' e
        exact ⟨w2, z2.sameBut hs hcc⟩
    · obtain ⟨e, n, ne, nf, d⟩ := I.pin p hp
      refine ⟨(hs.2 p.1 ?_).trans e, n, ne, nf, d⟩
      intro q
      rw [q, hoc] at e
      have q' : oc = p.2 := Option.some.inj e
      exact d w' (by rw [← q']; exact hocd)
theorem store_ok {M : Model} {A : Around} {E : Value → Shared → Prop} {i : Nat} {x : Str} {v : V} {u : Value} {Q : Unit → Shared → Prop} (I : Inv X pins σ H s) (hN : X.N.Nodup) (hi : X.N[i]? = some x) (hx : Loc X.env.scope x) (r : RelV v u)
    (h : ∀ s', Inv X pins (σ.set i (some v)) H s' → Q () s') (hf : X.fn x = true ∨ X.env.scope.names.lookup x = some .local := by first | exact .inl rfl | exact .inr rfl | assumption) : wpAny M A (storeName X.env x u) Q E s :=
  store_ok2 I hN hi hx r (fun s' I' _ => h s' I') hf
/-- behind a call or a block, the state as it is -/
theorem Inv.call' {s' : Shared} {ch : List Addr} (I : Inv X pins σ H s) (ho : s'.os = s.os) (u : Un (frs X.stack) ch H H' s.heap s'.heap) (hok : HOk X.prog X.w H' s'.heap) (hg : AllBare s'.gens)
    (hch : ∀ b ∈ ch, (b ∈ X.ex ∨ X.s_0.heap.objs.size ≤ b) ∧ b ≠ X.env.locals ∧ (∀ x c, X.env.cells.lookup x = some c → c ≠ b) ∧ ∀ p ∈ X.pn ++ pins, p.1 ≠ b) : Inv X pins σ H' s' := by
  obtain ⟨h', g', d', t', o'⟩ := s'
  have e : o' = s.os := ho
  subst e
  exact I.call (g' := g') (t' := t') (d' := d') u hok hg hch
end
/-- an exception: its class, its own dict's address (where it has one), the abstract heap behind it -/
abbrev XK := Value → Option Addr → Hp → Prop
abbrev St := List (Option V)
abbrev VK := V → Hp → Prop
/-- an expression's reading; a test's; an argument list's -/
abbrev TE := St → Hp → VK → Prop
abbrev TT := St → Hp → (Bool → Hp → Prop) → Prop
abbrev TA := St → Hp → (List V → Hp → Prop) → Prop
/-- what is wanted behind a statement -/
structure Ends where
  nx : St → Hp → Prop
  rt : VK
  bk : St → Hp → Prop := fun _ _ => False
  ct : St → Hp → Prop := fun _ _ => False
abbrev TS := Ends → St → Hp → Prop
def EP (X : Cx) (pins : List (Addr × Obj)) (σ : St) (Q : VK) (u : Value) (s' : Shared) : Prop := ∃ v H', Inv X pins σ H' s' ∧ RelV v u ∧ Q v H'
def TP (X : Cx) (pins : List (Addr × Obj)) (σ : St) (Q : Bool → Hp → Prop) (b : Bool) (s' : Shared) : Prop := ∃ H', Inv X pins σ H' s' ∧ Q b H'
def AP (X : Cx) (pins : List (Addr × Obj)) (σ : St) (Q : List V → Hp → Prop) (us : List Value) (s' : Shared) : Prop := ∃ vs H', Inv X pins σ H' s' ∧ Vals vs us ∧ Q vs H'
def SP (X : Cx) (pins : List (Addr × Obj)) (D : Ends) (f : Flow) (s' : Shared) : Prop :=
  match f with
  | .next => ∃ σ' H', Inv X pins σ' H' s' ∧ D.nx σ' H'
  | .brk => ∃ σ' H', Inv X pins σ' H' s' ∧ D.bk σ' H'
  | .cont => ∃ σ' H', Inv X pins σ' H' s' ∧ D.ct σ' H'
  | .ret u => ∃ v σ' H', Inv X pins σ' H' s' ∧ RelV v u ∧ D.rt v H'
def PE (X : Cx) (e : Expr) (t : TE) : Prop :=
  ∀ (pins : List (Addr × Obj)) (s : Shared) (σ : St) (H : Hp) (Q : VK), Inv X pins σ H s → t σ H Q → wpAny (model X.prog X.w) X.A (eval e X.env) (EP X pins σ Q) X.xe s
def PT (X : Cx) (e : Expr) (t : TT) : Prop :=
  ∀ (pins : List (Addr × Obj)) (s : Shared) (σ : St) (H : Hp) (Q : Bool → Hp → Prop), Inv X pins σ H s → t σ H Q → wpAny (model X.prog X.w) X.A (isTrue e X.env (eval e X.env)) (TP X pins σ Q) X.xe s
/-- a test whatever its 'whole' is (and, or) -/
def PW (X : Cx) (e : Expr) (t : TT) : Prop :=
  ∀ (whole : Sem Value) (pins : List (Addr × Obj)) (s : Shared) (σ : St) (H : Hp) (Q : Bool → Hp → Prop), Inv X pins σ H s → t σ H Q → wpAny (model X.prog X.w) X.A (isTrue e X.env whole) (TP X pins σ Q) X.xe s
theorem PW.pt {X : Cx} {e : Expr} {t : TT} (h : PW X e t) : PT X e t := h _
/-- an argument list (no star), from the left -/
def PA (X : Cx) (es : List Expr) (t : TA) : Prop :=
  ∀ (pos : Pos) (pins : List (Addr × Obj)) (s : Shared) (σ : St) (H : Hp) (Q : List V → Hp → Prop), Inv X pins σ H s → t σ H Q → wpAny (model X.prog X.w) X.A (spliced (backTo pos (starEach es X.env))) (AP X pins σ Q) X.xe s
def PS (X : Cx) (st : Stmt) (t : TS) : Prop :=
  ∀ (pins : List (Addr × Obj)) (s : Shared) (σ : St) (H : Hp) (D : Ends), Inv X pins σ H s → t D σ H → wpAny (model X.prog X.w) X.A (exec st X.env) (SP X pins D) X.xe s
def PSs (X : Cx) (st : List Stmt) (t : TS) : Prop :=
  ∀ (pins : List (Addr × Obj)) (s : Shared) (σ : St) (H : Hp) (D : Ends), Inv X pins σ H s → t D σ H → wpAny (model X.prog X.w) X.A (execs st X.env) (SP X pins D) X.xe s
/-- weaken the end -/
theorem thn {α : Type} {t : Sem α} {Q Q' : α → Shared → Prop} {M : Model} {A : Around} {E : Value → Shared → Prop} {s : Shared} (h : wpAny M A t Q E s) (hQ : ∀ a s, Q a s → Q' a s) : wpAny M A t Q' E s := wpAny_mono h hQ fun _ _ x => x
end L2
namespace L2
open PySem PySem.Spec PyProof.Rows
section
variable {X : Cx}
/-- two expressions in a row -/
theorem bin {a b : Expr} {ta tb : TE} (ha : PE X a ta) (hb : PE X b tb) {pins : List (Addr × Obj)} {s : Shared} {σ : St} {H : Hp} {R : V → V → Hp → Prop} (I : Inv X pins σ H s) (h : ta σ H fun x H1 => tb σ H1 fun y H2 => R x y H2)
    {α : Type} {Q : α → Shared → Prop} {f : Value → Value → Sem α}
    (hf : ∀ v u s2 x y H2, Inv X pins σ H2 s2 → RelV x v → RelV y u → R x y H2 → wpAny (model X.prog X.w) X.A (f v u) Q X.xe s2) :
    wpAny (model X.prog X.w) X.A (eval a X.env) (fun v s₁ => wpAny (model X.prog X.w) X.A (eval b X.env) (fun u s₂ => wpAny (model X.prog X.w) X.A (f v u) Q X.xe s₂) X.xe s₁) X.xe s := by
  refine thn (ha pins s σ H _ I h) fun v s1 ⟨x, H1, I1, r1, q1⟩ => ?_
  refine thn (hb pins s1 σ H1 _ I1 q1) fun u s2 ⟨y, H2, I2, r2, q2⟩ => ?_
  exact hf v u s2 x y H2 I2 r1 r2 q2
def tVar (i : Nat) : TE := fun σ H Q => ∃ v, σ[i]? = some (some v) ∧ Q v H
def tC (v : V) : TE := fun _ H Q => Q v H
theorem pe_var {i : Nat} {x : Str} {pos : Pos} (hN : X.N[i]? = some x) (hv : Vis X.env.scope x) (hd : (x == ("__debug__" : Str)) = false := by decide) (hcd : (x == ("__classdict__" : Str)) = false := by decide) : PE X (.Name x pos) (tVar i) := by
  intro pins s σ H Q I h
  obtain ⟨v, e, h⟩ := h
  obtain ⟨m, hn, hl⟩ := I.loc
  obtain ⟨u, r, l⟩ := hl i x v hN e hv
  have fin : EP X pins σ Q u s := ⟨v, H, I, r, h⟩
  rcases l with ⟨hk, hm⟩ | ⟨hk, c, hc, hcell⟩
  · exact wpAny_Name (wpAny_loadName_local I.ok.kind hk hn hm fin) hd
  · rcases hk with hk | hk
    · exact wpAny_Name (wpAny_loadName_cell I.ok.kind hk hc hcell fin) hd
    · exact wpAny_Name (wpAny_loadName_free I.ok.kind hk hc hcell fin hcd) hd
theorem pe_int {i j pos} : PE X (.Constant (.int i) j pos) (tC (.int i)) := fun _ _ _ H _ I h => wpAny_Constant_int ⟨.int i, H, I.tok _, ⟨_, rfl⟩, h⟩
theorem pe_bl {b j pos} : PE X (.Constant (.bool b) j pos) (tC (.bl b)) := fun _ _ _ H _ I h => Constant_bool ⟨.bl b, H, I, rfl, h⟩
theorem pe_non {j pos} : PE X (.Constant .none j pos) (tC .non) := fun _ _ _ H _ I h => Constant_none ⟨.non, H, I, rfl, h⟩
/-- a global name of the def -/
def Gl (X : Cx) (x : Str) : Prop := X.env.kindOf x = some .globalImplicit
theorem ld_glob {E : Value → Shared → Prop} {pins : List (Addr × Obj)} {s : Shared} {σ : St} {H : Hp} {x : Str} {u : Value} {pos : Pos} {Q : Value → Shared → Prop} (I : Inv X pins σ H s) (hg : Gl X x) (hm : X.mg x = some u) (h : Q u s)
    (hd : (x == ("__debug__" : Str)) = false := by decide) : wpAny (model X.prog X.w) X.A (eval (.Name x pos) X.env) Q E s :=
  Calls.Name_function_global I.ok.kind hg (Calls.loadGlobal_global (by rw [I.ok.glob]; exact I.mod.glob.keeps I.bk) hm h) hd
theorem ld_blt {E : Value → Shared → Prop} {pins : List (Addr × Obj)} {s : Shared} {σ : St} {H : Hp} {x : Str} {u : Value} {pos : Pos} {Q : Value → Shared → Prop} (I : Inv X pins σ H s) (hg : Gl X x) (hm : X.mg x = none) (hv : bootBuiltins x = some u) (h : Q u s)
    (hn : x ≠ "__name__" := by decide) (hd : (x == ("__debug__" : Str)) = false := by decide) : wpAny (model X.prog X.w) X.A (eval (.Name x pos) X.env) Q E s := by
  obtain ⟨mb, h1, h2⟩ := I.mod.blt
  exact Calls.Name_function_global I.ok.kind hg (Calls.loadGlobal_builtin (by rw [I.ok.glob]; exact I.mod.glob.keeps I.bk) hm (by rw [I.ok.blt]; exact h1.keeps I.bk) ((h2 x hn).trans hv) h) hd
/-- a module's constant, a class, a function, as a value -/
theorem pe_glob {x : Str} {v : V} {u : Value} {pos : Pos} (hg : Gl X x) (hm : X.mg x = some u) (r : RelV v u) (hd : (x == ("__debug__" : Str)) = false := by decide) : PE X (.Name x pos) (tC v) :=
  fun _ _ _ H _ I h => ld_glob I hg hm ⟨v, H, I, r, h⟩ hd
variable {a b : Expr} {ta tb : TE} {pos : Pos}
def PC (X : Cx) (op : CmpOp) (a b : Expr) (t : TE) : Prop :=
  ∀ (pins : List (Addr × Obj)) (s : Shared) (σ : St) (H : Hp) (Q : VK), Inv X pins σ H s → t σ H Q →
    wpAny (model X.prog X.w) X.A (eval a X.env) (fun v s₁ => wpAny (model X.prog X.w) X.A (eval b X.env) (fun u s₂ => wpAny (model X.prog X.w) X.A (compareOp op v u) (EP X pins σ Q) X.xe s₂) X.xe s₁) X.xe s
theorem nobehind (b : Expr) {op : CmpOp} (h : op ≠ .In) (h2 : op ≠ .NotIn) : behindInMarks op b = false := by
  have e1 : (op == CmpOp.In) = false := by cases op <;> first | rfl | exact absurd rfl h
  have e2 : (op == CmpOp.NotIn) = false := by cases op <;> first | rfl | exact absurd rfl h2
  cases b <;> simp [behindInMarks, e1, e2]
/-- is None -/
def tIsN (ta : TE) : TE := fun σ H Q => ta σ H fun x H1 => Q (.bl (decide (x = .non))) H1
theorem RelV.none_iff {x : V} {v : Value} (r : RelV x v) : (v == Value.none) = decide (x = .non) := by
  cases x with
  | non => cases r; rfl
  | bl _ => cases r; rfl
  | int _ => obtain ⟨t, rfl⟩ := r; rfl
  | str _ => obtain ⟨t, rfl⟩ := r; rfl
  | byt _ => obtain ⟨t, rfl⟩ := r; rfl
  | flt _ => obtain ⟨t, rfl⟩ := r; rfl
  | ref _ => cases r; rfl
  | ty _ => cases r; rfl
theorem pc_isN {j pos'} (ha : PE X a ta) : PC X .Is a (.Constant .none j pos') (tIsN ta) := by
  intro pins s σ H Q I h
  refine thn (ha pins s σ H _ I h) fun v s1 ⟨x, H1, I1, r1, q1⟩ => ?_
  exact Constant_none (is_none_gen ⟨.bl _, H1, I1, by rw [r1.none_iff]; rfl, q1⟩)
/-- a comparison as a value, as a test -/
def tB (t : TE) : TT := fun σ H Q => t σ H fun x H1 => ∃ c, x = .bl c ∧ Q c H1
theorem pt_cmp {op : CmpOp} {t : TE} (h : PC X op a b t) (h1 : behindInMarks op b = false := by first | exact nobehind _ (by decide) (by decide) | rfl) : PT X (.Compare a [op] [b] pos) (tB t) := by
  intro pins s σ H Q I hw
  refine wpAny_isTrue_Compare1 (thn (h pins s σ H _ I hw) fun v s1 h1 => thn h1 fun u s2 h2 => thn h2 fun c s3 ⟨x, H1, I1, r1, q1⟩ => ?_) h1
  obtain ⟨d, rfl, q⟩ := q1
  cases r1
  exact wpAny_truthy_bool ⟨H1, I1, q⟩
/-- an expression whose value is a bool, as a test -/
theorem pt_val {e : Expr} {t : TE} (h : PE X e t) (he : ∀ whole, isTrue e X.env whole = (do let v ← whole; standAt e.pos; holding [v] (truthy v)) := by intro _; rfl) : PT X e (tB t) := by
  intro pins s σ H Q I hw
  refine isTrue_plain (thn (h pins s σ H _ I hw) fun v s1 ⟨x, H1, I1, r1, q1⟩ => ?_) (he _)
  obtain ⟨d, rfl, q⟩ := q1
  cases r1
  exact wpAny_truthy_bool ⟨H1, I1, q⟩
variable {tA tB' : TT} {rest : List Expr}
def tOr (t u : TT) : TT := fun σ H Q => t σ H fun c H1 => if c = true then Q true H1 else u σ H1 Q
def tNot (t : TT) : TT := fun σ H Q => t σ H fun c H1 => Q (!c) H1
theorem pw_or1 (ha : PT X a tA) : PW X (.BoolOp .Or [a] pos) tA := by
  intro wh pins s σ H Q I h
  refine isTrue_or (thn (ha pins s σ H Q I h) fun c s1 e => ?_)
  cases c with
  | false => exact isTrue_or_nil e
  | true => exact e
theorem pw_or (ha : PT X a tA) (hb : PW X (.BoolOp .Or (b :: rest) pos) tB') : PW X (.BoolOp .Or (a :: b :: rest) pos) (tOr tA tB') := by
  intro wh pins s σ H Q I h
  refine isTrue_or (thn (ha pins s σ H _ I h) fun c s1 ⟨H1, I1, q1⟩ => ?_)
  cases c with
  | true => exact ⟨H1, I1, q1⟩
  | false => exact hb wh pins s1 σ H1 Q I1 q1
theorem pt_not (ha : PT X a tA) : PT X (.UnaryOp .Not a pos) (tNot tA) := by
  intro pins s σ H Q I h
  exact isTrue_not (ha pins s σ H (fun c H1 => Q (!c) H1) I h)
/-- .. as values (bools) -/
def tAndV (ta tb : TE) : TE := fun σ H Q => ta σ H fun x H1 => ∃ c, x = .bl c ∧ if c = true then tb σ H1 Q else Q (.bl false) H1
theorem pe_one {op} {t : TE} (h : PE X a t) : PE X (.BoolOp op [a] pos) t := fun pins s σ H Q I hw => BoolOp_one (h pins s σ H Q I hw)
theorem pe_and (ha : PE X a ta) (hb : PE X (.BoolOp .And (b :: rest) pos) tb) : PE X (.BoolOp .And (a :: b :: rest) pos) (tAndV ta tb) := by
  intro pins s σ H Q I h
  refine BoolOp_and (thn (ha pins s σ H _ I h) fun v s1 ⟨x, H1, I1, r1, q1⟩ => ?_)
  obtain ⟨c, rfl, q1⟩ := q1
  cases r1
  refine wpAny_truthy_bool ?_
  cases c with
  | true => exact hb pins s1 σ H1 Q I1 q1
  | false => exact ⟨.bl false, H1, I1, rfl, q1⟩
/-- a if t else b -/
def tIf (t : TT) (ta tb : TE) : TE := fun σ H Q => t σ H fun c H1 => if c = true then ta σ H1 Q else tb σ H1 Q
theorem pe_ifExp {c : Expr} (hc : PT X c tA) (ha : PE X a ta) (hb : PE X b tb) : PE X (.IfExp c a b pos) (tIf tA ta tb) := by
  intro pins s σ H Q I h
  refine wpAny_IfExp (thn (hc pins s σ H _ I h) fun d s1 ⟨H1, I1, q1⟩ => ?_)
  cases d with
  | true => exact ha pins s1 σ H1 Q I1 q1
  | false => exact hb pins s1 σ H1 Q I1 q1
end
end L2
namespace L2
open PySem PySem.Spec PyProof.Rows
def SqL (K : PySem.W.Frag) (H : Hp) (a : Addr) (xs : List V) : Prop :=
  Rd H a (.lst xs) ∨
    ∃ (o : Obj) (its : Array Value) (n : Nat), K.lookup a = some o ∧ o.cls = .type "list" ∧ o.dict = none ∧ o.data = .seq its n ∧ its.size ≤ sizeLine ∧ Vals xs its.toList
def SqT (K : PySem.W.Frag) (H : Hp) (a : Addr) (xs : List V) : Prop :=
  Rd H a (.tup xs) ∨
    ∃ (o : Obj) (its : Array Value) (n : Nat), K.lookup a = some o ∧ o.cls = .type "tuple" ∧ o.data = .seq its n ∧ its.size ≤ sizeLine ∧ Vals xs its.toList
def absV : Value → Option V
  | .none => some .non
  | .bool b => some (.bl b)
  | .int i _ => some (.int i)
  | .str x _ => some (.str x)
  | .bytes b _ => some (.byt b)
  | .float b _ => some (.flt b)
  | .ref a => some (.ref a)
  | .type n => some (.ty n)
  | _ => none
theorem RelV.abs {x : V} {u : Value} (r : RelV x u) : absV u = some x := by
  cases x with
  | non => cases r; rfl
  | bl _ => cases r; rfl
  | int _ => obtain ⟨t, rfl⟩ := r; rfl
  | str _ => obtain ⟨t, rfl⟩ := r; rfl
  | byt _ => obtain ⟨t, rfl⟩ := r; rfl
  | flt _ => obtain ⟨t, rfl⟩ := r; rfl
  | ref _ => cases r; rfl
  | ty _ => cases r; rfl
theorem RelV.inj {x y : V} {u : Value} (r : RelV x u) (q : RelV y u) : x = y := Option.some.inj (r.abs.symm.trans q.abs)
theorem Vals.inj : ∀ {xs ys : List V} {us : List Value}, Vals xs us → Vals ys us → xs = ys
  | _, _, _, .nil, .nil => rfl
  | _, _, _, .cons r t, .cons r' t' => by rw [r.inj r', Vals.inj t t']
section
variable {X : Cx} {pins : List (Addr × Obj)} {σ : St} {H : Hp} {s : Shared} {a : Addr} {xs ys : List V}
theorem SqL.of {K : PySem.W.Frag} (h : H a = some (.lst xs)) : SqL K H a xs := .inl (.inl h)
theorem SqT.of {K : PySem.W.Frag} (h : H a = some (.tup xs)) : SqT K H a xs := .inl (.inl h)
theorem Inv.list (I : Inv X pins σ H s) (h : SqL X.K H a xs) : ∃ its : List Value, Vals xs its ∧ PlainL s.heap a its.toArray ∧ xs.length ≤ sizeLine := by
  rcases h with h | ⟨o, its, n, hk, hc, hd, hs, hz, r⟩
  · obtain ⟨z, its, n, r, e⟩ := h.ok I.hok
    exact ⟨its, r, ⟨_, n, e, rfl, rfl, rfl⟩, z⟩
  · refine ⟨its.toList, r, ⟨o, n, I.kIn a o hk, hc, hd, by simpa using hs⟩, ?_⟩
    have e := r.length
    simp only [Array.length_toList] at e
    omega
theorem Inv.tuple (I : Inv X pins σ H s) (h : SqT X.K H a xs) : ∃ its : List Value, Vals xs its ∧ IsTup s.heap a its.toArray ∧ xs.length ≤ sizeLine := by
  rcases h with h | ⟨o, its, n, hk, hc, hs, hz, r⟩
  · obtain ⟨z, its, r, p⟩ := h.ok I.hok
    exact ⟨its, r, p, z⟩
  · refine ⟨its.toList, r, ⟨o, I.kIn a o hk, hc, n, by simpa using hs⟩, ?_⟩
    have e := r.length
    simp only [Array.length_toList] at e
    omega
theorem Inv.list_inj (I : Inv X pins σ H s) (h : SqL X.K H a xs) (h' : SqL X.K H a ys) : xs = ys := by
  obtain ⟨its, r, ⟨o, n, e, _, _, d⟩, _⟩ := I.list h
  obtain ⟨its', r', ⟨o', n', e', _, _, d'⟩, _⟩ := I.list h'
  rw [e] at e'; cases e'
  rw [d] at d'
  injection d' with d1 _
  have : its = its' := by simpa using congrArg Array.toList d1
  subst this
  exact r.inj r'
end
abbrev Cx.wish (X : Cx) (E : Value → Shared → Prop) : Cx := { X with xe := E }
/-- no exception leaves -/
abbrev Cx.nox (X : Cx) : Cx := X.wish fun _ _ => False
theorem Cx.Ok.wish {X : Cx} (ok : X.Ok) (E : Value → Shared → Prop) : (X.wish E).Ok :=
  ⟨ok.mod, ok.kind, ok.glob, ok.blt, ok.above, ok.inj, ok.has, ok.cab, ok.hd, ok.frames, ok.stk, ok.exf, ok.bs, ok.bsz, ok.noex, ok.exfs, ok.funs, ok.frf⟩
theorem Cx.Ok.unwish {X : Cx} {E : Value → Shared → Prop} (ok : (X.wish E).Ok) : X.Ok :=
  ⟨ok.mod, ok.kind, ok.glob, ok.blt, ok.above, ok.inj, ok.has, ok.cab, ok.hd, ok.frames, ok.stk, ok.exf, ok.bs, ok.bsz, ok.noex, ok.exfs, ok.funs, ok.frf⟩
section
variable {X : Cx} {pins : List (Addr × Obj)} {σ : St} {H : Hp} {s : Shared} {E : Value → Shared → Prop}
theorem Inv.wish (I : Inv X pins σ H s) (E : Value → Shared → Prop) : Inv (X.wish E) pins σ H s := ⟨I.ok.wish E, I.os, I.bare, I.base, I.loc, I.cell, I.free, I.freeC, I.pin, I.hok, I.len⟩
theorem Inv.unwish (I : Inv (X.wish E) pins σ H s) : Inv X pins σ H s := ⟨I.ok.unwish, I.os, I.bare, I.base, I.loc, I.cell, I.free, I.freeC, I.pin, I.hok, I.len⟩
theorem SP.unwish {D : Ends} {f : Flow} {s' : Shared} (h : SP (X.wish E) pins D f s') : SP X pins D f s' := by
  cases f with
  | next => obtain ⟨σ', H', I, q⟩ := h; exact ⟨σ', H', I.unwish, q⟩
  | brk => obtain ⟨σ', H', I, q⟩ := h; exact ⟨σ', H', I.unwish, q⟩
  | cont => obtain ⟨σ', H', I, q⟩ := h; exact ⟨σ', H', I.unwish, q⟩
  | ret u => obtain ⟨v, σ', H', I, r, q⟩ := h; exact ⟨v, σ', H', I.unwish, r, q⟩
theorem PSs.nox {st : List Stmt} {t : TS} (h : PSs X.nox st t) : PSs X st t := fun pins s σ H D I hw =>
  wpAny_mono (h pins s σ H D (I.wish _) hw) (fun _ _ q => q.unwish) fun _ _ z => False.elim z
end
section
variable {X : Cx} {st : Stmt} {rest : List Stmt} {t u : TS} {e : Expr} {te : TE} {pos : Pos}
def tNext : TS := fun D σ H => D.nx σ H
def tSeq (t u : TS) : TS := fun D σ H => t { D with nx := u D } σ H
theorem pss_nil : PSs X [] tNext := fun _ _ σ H _ I h => wpAny_execs_nil ⟨σ, H, I, h⟩
theorem pss_cons (h1 : PS X st t) (h2 : PSs X rest u) : PSs X (st :: rest) (tSeq t u) := by
  intro pins s σ H D I h
  refine wpAny_execs_cons (thn (h1 pins s σ H { D with nx := u D } I h) fun f s1 q => ?_)
  cases f with
  | next =>
    obtain ⟨σ', H', I', q⟩ := q
    exact h2 pins s1 σ' H' D I' q
  | ret v => exact q
  | brk => exact q
  | cont => exact q
theorem pss_one (h1 : PS X st t) : PSs X [st] t := by
  intro pins s σ H D I h
  refine wpAny_execs_cons (thn (h1 pins s σ H D I h) fun f s1 q => ?_)
  cases f with
  | next => exact wpAny_execs_nil q
  | ret v => exact q
  | brk => exact q
  | cont => exact q
/-- in a def's body nothing is shown -/
theorem Inv.quiet {pins : List (Addr × Obj)} {σ : St} {H : Hp} {s : Shared} (I : Inv X pins σ H s) : interactive X.env = false := by simp [interactive, I.ok.kind]
/-- an expression whose value is dropped -/
def tDrop (te : TE) : TS := fun D σ H => te σ H fun _ H1 => D.nx σ H1
theorem ps_expr (he : PE X e te) (hs : swapsWith e none pos.line X.env = pure false := by rfl) : PS X (.Expr e pos) (tDrop te) := by
  intro pins s σ H D I h
  exact wpAny_Expr_any (thn (he pins s σ H _ I h) fun v s1 ⟨x, H1, I1, r1, q1⟩ => ⟨σ, H1, I1, q1⟩) I.quiet hs
def tRet (te : TE) : TS := fun D σ H => te σ H D.rt
theorem ps_ret (he : PE X e te) : PS X (.Return (some e) pos) (tRet te) := by
  intro pins s σ H D I h
  exact wpAny_Return_some (thn (he pins s σ H _ I h) fun v s1 ⟨x, H1, I1, r1, q1⟩ => ⟨x, σ, H1, I1, r1, q1⟩)
def tIfS (c : TT) (t u : TS) : TS := fun D σ H => c σ H fun b H1 => if b = true then t D σ H1 else u D σ H1
theorem ps_if {c : Expr} {a b : List Stmt} {tc : TT} (hc : PT X c tc) (ha : PSs X a t) (hb : PSs X b u) : PS X (.If c a b pos) (tIfS tc t u) := by
  intro pins s σ H D I h
  refine wpAny_If (thn (hc pins s σ H _ I h) fun d s1 ⟨H1, I1, q1⟩ => ?_)
  cases d with
  | true => exact ha pins s1 σ H1 D I1 q1
  | false => exact hb pins s1 σ H1 D I1 q1
end
abbrev TG := V → St → Hp → (St → Hp → Prop) → Prop
abbrev TGs := List V → St → Hp → (St → Hp → Prop) → Prop
def PG (X : Cx) (target : Expr) (t : TG) : Prop :=
  ∀ (pins : List (Addr × Obj)) (s : Shared) (σ : St) (H : Hp) (v : V) (u : Value) (Q : St → Hp → Prop), Inv X pins σ H s → RelV v u → t v σ H Q →
    wpAny (model X.prog X.w) X.A (assign target X.env u) (fun _ s' => ∃ σ' H', Inv X pins σ' H' s' ∧ Q σ' H') X.xe s
/-- several targets, one after another -/
def PGs (X : Cx) (ts : List Expr) (t : TGs) : Prop :=
  ∀ (pins : List (Addr × Obj)) (s : Shared) (σ : St) (H : Hp) (vs : List V) (us : List Value) (Q : St → Hp → Prop), Inv X pins σ H s → Vals vs us → t vs σ H Q →
    wpAny (model X.prog X.w) X.A (assignInOrder ((assignEach ts X.env).map (·.2)) us) (fun _ s' => ∃ σ' H', Inv X pins σ' H' s' ∧ Q σ' H') X.xe s
/-- o[i] = v, by values -/
abbrev TSet := V → V → V → Hp → (Hp → Prop) → Prop
def PSet (X : Cx) (t : TSet) : Prop :=
  ∀ (pins : List (Addr × Obj)) (s : Shared) (σ : St) (H : Hp) (o i v : V) (ov iv u : Value) (Q : Hp → Prop), Inv X pins σ H s → RelV o ov → RelV i iv → RelV v u → t o i v H Q →
    wpAny (model X.prog X.w) X.A (setItem ov iv u) (fun _ s' => ∃ H', Inv X pins σ H' s' ∧ Q H') X.xe s
/-- a op= b, by values -/
abbrev TIp := V → V → Hp → VK → Prop
def PIp (X : Cx) (op : Operator) (t : TIp) : Prop :=
  ∀ (pins : List (Addr × Obj)) (s : Shared) (σ : St) (H : Hp) (x y : V) (v u : Value) (Q : VK), Inv X pins σ H s → RelV x v → RelV y u → t x y H Q →
    wpAny (model X.prog X.w) X.A (inplaceOp op v u) (EP X pins σ Q) X.xe s
section
variable {X : Cx} {pos : Pos}
def gName (i : Nat) : TG := fun v σ H Q => Q (σ.set i (some v)) H
theorem pg_name {i : Nat} {x : Str} (hN : X.N.Nodup) (hi : X.N[i]? = some x) (hx : Loc X.env.scope x) (hf : X.fn x = true ∨ X.env.scope.names.lookup x = some .local := by first | exact .inl rfl | exact .inr rfl | assumption) : PG X (.Name x pos) (gName i) := by
  intro pins s σ H v u Q I r h
  exact wpAny_assign_Name (store_ok I hN hi hx r (fun s' I' => ⟨_, H, I', h⟩) hf)
def gNil : TGs := fun vs σ H Q => vs = [] ∧ Q σ H
def gCons (t : TG) (u : TGs) : TGs := fun vs σ H Q => ∃ v r, vs = v :: r ∧ t v σ H fun σ' H' => u r σ' H' Q
theorem pgs_nil : PGs X [] gNil := by
  intro pins s σ H vs us Q I r h
  obtain ⟨e, h⟩ := h
  subst e
  cases r
  exact assignInOrder_nil ⟨σ, H, I, h⟩
theorem pgs_cons {e : Expr} {es : List Expr} {t : TG} {u : TGs} (h1 : PG X e t) (h2 : PGs X es u)
    (hs : (assignEach (e :: es) X.env).map (·.2) = assign e X.env :: (assignEach es X.env).map (·.2) := by rfl) : PGs X (e :: es) (gCons t u) := by
  intro pins s σ H vs us Q I r h
  obtain ⟨v, vr, e1, h⟩ := h
  subst e1
  cases r with
  | cons r rr =>
    rw [hs]
    refine assignInOrder_cons (thn (h1 pins s σ H _ _ _ I r h) fun _ s1 ⟨σ1, H1, I1, q1⟩ => ?_)
    exact h2 pins s1 σ1 H1 _ _ Q I1 rr q1
/-- (a, b, ..) = a tuple of that length -/
def gTup (K : PySem.W.Frag) (n : Nat) (t : TGs) : TG := fun v σ H Q => ∃ a xs, v = .ref a ∧ SqT K H a xs ∧ xs.length = n ∧ t xs σ H Q
theorem pg_tup {es : List Expr} {k : Nat} {t : TGs} {n : Nat} (hc : X.calm = true) (h : PGs X es t)
    (hn : (assignEach es X.env).length = n := by rfl) (hst : (assignEach es X.env).findIdx? (·.1) = none := by rfl) : PG X (.Tuple es k pos) (gTup X.K n t) := by
  intro pins s σ H v u Q I r hw
  obtain ⟨a, xs, e1, hq, hl, hw⟩ := hw
  subst e1
  cases r
  obtain ⟨its, rv, ht, hz⟩ := I.tuple hq
  refine assign_Tuple_tuple (I.ok.hd hc) ht (by simp [hn, ← hl, rv.length]) hst fun h' hx => ?_
  have I1 : Inv X pins σ H { s with heap := h' } := I.kept (t' := s.toks) fun b o e => hx b o (Nat.ne_of_lt (Heap.lt_size e)) e
  exact h pins _ σ H xs _ Q I1 (by simpa using rv) hw
/-- o[i] = .. -/
def gSub (to ti : TE) (t : TSet) : TG := fun v σ H Q => to σ H fun o H1 => ti σ H1 fun i H2 => t o i v H2 fun H3 => Q σ H3
theorem pg_sub {o i : Expr} {to ti : TE} {t : TSet} (ho : PE X o to) (hi : PE X i ti) (hs : PSet X t)
    (ha : ∀ v, assign (.Subscript o i pos) X.env v = (do
      let ov ← holding [v] (eval o X.env)
      let iv ← holding [v, ov] (eval i X.env)
      standAt pos
      holding [v, ov, iv] (setItem ov iv v)
      release [v, ov, iv] []) := by intro _; rfl) : PG X (.Subscript o i pos) (gSub to ti t) := by
  intro pins s σ H v u Q I r h
  rw [ha]
  refine wpAny_bind (wpAny_holding (thn (ho pins s σ H _ I h) fun ov s1 ⟨x, H1, I1, r1, q1⟩ => ?_))
  refine wpAny_bind (wpAny_holding (thn (hi pins s1 σ H1 _ I1 q1) fun iv s2 ⟨y, H2, I2, r2, q2⟩ => ?_))
  refine wpAny_bind (wpAny_standAt (wpAny_bind (wpAny_holding (thn (hs pins s2 σ H2 x y v ov iv u _ I2 r1 r2 r q2) fun _ s3 ⟨H3, I3, q3⟩ => ?_))))
  exact wpAny_release ⟨σ, H3, I3, q3⟩
/-- target = value -/
def tAsg (te : TE) (g : TG) : TS := fun D σ H => te σ H fun x H1 => g x σ H1 D.nx
theorem ps_asg {tg e : Expr} {te : TE} {g : TG} (he : PE X e te) (hg : PG X tg g) (hs : swapsWithSole [tg] e pos.line X.env = pure false := by rfl) (hw : swappedStores [tg] e X.env = pure none := by rfl)
    (h1 : (assignEach [tg] X.env).map (·.2) = [assign tg X.env] := by rfl) : PS X (.Assign [tg] e pos) (tAsg te g) := by
  intro pins s σ H D I h
  refine wpAny_Assign_stores (thn (he pins s σ H _ I h) fun v s1 ⟨x, H1, I1, r1, q1⟩ => ?_) hs hw
  rw [h1]
  exact thn (hg pins s1 σ H1 x v _ I1 r1 q1) fun _ s2 q => q
/-- name = value -/
theorem ps_set {i : Nat} {x : Str} {e : Expr} {te : TE} {pos' : Pos} (hN : X.N.Nodup) (hi : X.N[i]? = some x) (hx : Loc X.env.scope x) (he : PE X e te) (hs : swapsWith e (some (.Name x pos')) pos.line X.env = pure false := by rfl) (hf : X.fn x = true ∨ X.env.scope.names.lookup x = some .local := by first | exact .inl rfl | exact .inr rfl | assumption) :
    PS X (.Assign [.Name x pos'] e pos) (tAsg te (gName i)) := by
  intro pins s σ H D I h
  refine wpAny_Assign_Name (thn (he pins s σ H _ I h) fun v s1 ⟨y, H1, I1, r1, q1⟩ => ?_) hs
  exact store_ok I1 hN hi hx r1 (fun s2 I2 => ⟨_, H1, I2, q1⟩) hf
/-- name op= e -/
def tAug (i : Nat) (te : TE) (ti : TIp) : TS := fun D σ H => ∃ x, σ[i]? = some (some x) ∧ te σ H fun y H1 => ti x y H1 fun z H2 => D.nx (σ.set i (some z)) H2
theorem ps_aug {i : Nat} {x : Str} {e : Expr} {te : TE} {op : Operator} {ti : TIp} {pos' : Pos} (hN : X.N.Nodup) (hi : X.N[i]? = some x) (hx : Loc X.env.scope x) (he : PE X e te) (ho : PIp X op ti) (hf : X.fn x = true ∨ X.env.scope.names.lookup x = some .local := by first | exact .inl rfl | exact .inr rfl | assumption) :
    PS X (.AugAssign (.Name x pos') op e pos) (tAug i te ti) := by
  intro pins s σ H D I h
  obtain ⟨v, e1, h⟩ := h
  obtain ⟨m, hn, hl⟩ := I.loc
  have vis : Vis X.env.scope x := by rcases hx with k | k; exact .inl k; exact .inr (.inl k)
  obtain ⟨u, r, l⟩ := hl i x v hi e1 vis
  refine wpAny_AugAssign_Name ?_
  have go : wpAny (model X.prog X.w) X.A (eval e X.env) (fun w s₂ => wpAny (model X.prog X.w) X.A (inplaceOp op u w) (fun r s₃ => wpAny (model X.prog X.w) X.A (storeName X.env x r) (fun _ => SP X pins D .next) X.xe s₃) X.xe s₂) X.xe s := by
    refine thn (he pins s σ H _ I h) fun w s1 ⟨y, H1, I1, r1, q1⟩ => ?_
    refine thn (ho pins s1 σ H1 v y u w _ I1 r r1 q1) fun z s2 ⟨zv, H2, I2, r2, q2⟩ => ?_
    exact store_ok I2 hN hi hx r2 (fun s3 I3 => ⟨_, H2, I3, q2⟩) hf
  rcases l with ⟨hk, hm⟩ | ⟨hk, c, hc, hcell⟩
  · exact wpAny_loadName_local I.ok.kind hk hn hm go
  · rcases hk with hk | hk
    · exact wpAny_loadName_cell I.ok.kind hk hc hcell go
    · rcases hx with k | k
      · have : X.env.scope.names.lookup x = some .free := hk
        rw [k] at this; cases this
      · have : X.env.scope.names.lookup x = some .free := hk
        rw [k] at this; cases this
/-- ints -/
def ipI (f : Int → Int → Int) : TIp := fun x y H Q => ∃ i j, x = .int i ∧ y = .int j ∧ Q (.int (f i j)) H
theorem ip_add : PIp X .Add (ipI fun i j => i + j) := by
  intro pins s σ H x y v u Q I r1 r2 h
  obtain ⟨i, j, e1, e2, q⟩ := h
  subst e1; subst e2
  obtain ⟨t, rfl⟩ := r1
  obtain ⟨t', rfl⟩ := r2
  exact iadd_int ⟨.int _, H, I.tok _, ⟨_, rfl⟩, q⟩
end
section
variable {X : Cx} {pos : Pos}
/-- the invariant W with its measure -/
def tWhile (c : TT) (tb : TS) : TS := fun D σ H => ∃ W : Nat → St → Hp → Prop, (∃ m, W m σ H) ∧ ∀ m σ H, W m σ H →
  c σ H fun b H1 => if b = true then ∃ N : St → Hp → Prop, (∀ σ' H', N σ' H' → ∃ m', m' < m ∧ W m' σ' H') ∧ tb { D with nx := N, ct := N, bk := D.nx } σ H1 else D.nx σ H1
theorem ps_while {c : Expr} {body : List Stmt} {tc : TT} {tb : TS} (hp : PassesOwn (model X.prog X.w) X.A X.env X.xe) (hc : PT X c tc) (hb : PSs X body tb) : PS X (.While c body [] pos) (tWhile tc tb) := by
  intro pins s σ H D I h
  obtain ⟨W, ⟨m0, w0⟩, turn⟩ := h
  refine wpAny_While (codeAny_whileLoop (fun n s' => ∃ σ' H', Inv X pins σ' H' s' ∧ W n σ' H') ?_ m0 ⟨σ, H, I, w0⟩)
  rintro n s1 ⟨σ1, H1, I1, w1⟩
  refine wpAny_passesOwn hp (thn (hc pins s1 σ1 H1 _ I1 (turn n σ1 H1 w1)) fun b s2 ⟨H2, I2, q2⟩ => ?_)
  cases b with
  | true =>
    obtain ⟨N, hN, q2⟩ := q2
    rw [if_pos rfl]
    refine wpAny_passesOwn hp (thn (hb pins s2 σ1 H2 _ I2 q2) fun f s3 q3 => ?_)
    cases f with
    | next =>
      obtain ⟨σ3, H3, I3, n3⟩ := q3
      obtain ⟨m', hm, w3⟩ := hN σ3 H3 n3
      exact ⟨m', hm, σ3, H3, I3, w3⟩
    | cont =>
      obtain ⟨σ3, H3, I3, n3⟩ := q3
      obtain ⟨m', hm, w3⟩ := hN σ3 H3 n3
      exact ⟨m', hm, σ3, H3, I3, w3⟩
    | brk => exact q3
    | ret v => exact q3
  | false =>
    rw [if_neg Bool.false_ne_true]
    exact wpAny_execs_nil ⟨σ1, H2, I2, q2⟩
end
/-- at turn i: it yields x (the heap may grow), or it stops -/
structure It where
  go : Nat → Hp → Prop
  yld : Nat → Hp → V → Hp → Prop
  stop : Nat → Hp → Prop
/-- the iterator's own objects may turn: they are not the frame's, not pinned, younger than the entry (or a comprehension's own) -/
def FpOk (X : Cx) (pins : List (Addr × Obj)) (H : Hp) (b : Addr) : Prop :=
  H b = none ∧ b ≠ X.env.locals ∧ b ∉ X.fs ∧ (b ∈ X.ex ∨ X.s_0.heap.objs.size ≤ b) ∧ (∀ x c, X.env.cells.lookup x = some c → c ≠ b) ∧ ∀ p ∈ X.pn ++ pins, p.1 ≠ b
theorem Inv.fpOk {X : Cx} {pins : List (Addr × Obj)} {σ : St} {H H' : Hp} {s : Shared} {b : Addr} (I : Inv X pins σ H s) (hb : s.heap.objs.size ≤ b) (hn : H' b = none) : FpOk X pins H' b := by
  refine ⟨hn, Nat.ne_of_gt (Nat.lt_of_lt_of_le I.lt hb), I.nofs hb, .inr (Nat.le_trans I.sz hb), fun x c e z => ?_, fun p hp z => ?_⟩
  · obtain ⟨v, q⟩ := I.cell x c e
    exact absurd (Nat.lt_of_lt_of_le q.lt (by rw [z]; exact hb)) (Nat.lt_irrefl _)
  · exact absurd (Nat.lt_of_lt_of_le (Heap.lt_size (I.pin p hp).1) (by rw [z]; exact hb)) (Nat.lt_irrefl _)
structure Turn (P : Program) (w : World) (K : PySem.W.Frag) (tg : Expr) (J : It) (fp : List Addr) (it : Addr) (tn : Nat → Heap → Prop) : Prop where
  mem : it ∈ fp
  obj : ∀ i h, tn i h → ∀ b ∈ fp, ∃ o, h.get? b = some o ∧ ∀ v, o.data ≠ .cell v
  keep : ∀ i h h', tn i h → (∀ b ∈ fp, ∀ o, h.get? b = some o → h'.get? b = some o) → tn i h'
  item : ∀ (X : Cx), X.prog = P → X.w = w → X.K = K → X.calm = true → ∀ (i : Nat) (pins : List (Addr × Obj)) (s : Shared) (σ : St) (H : Hp) (E : Value → Shared → Prop), Inv X pins σ H s → (∀ b ∈ fp, FpOk X pins H b) → tn i s.heap → J.go i H →
    wpAny (model P w) X.A (pyNext (.ref it)) (fun r s1 => ∃ u, r = some u ∧
      wpAny (model P w) X.A (letOwnedTupleGo tg (.ref it) u) (fun _ s2 => ∃ x H', Inv X pins σ H' s2 ∧ RelV x u ∧ J.yld i H x H' ∧ tn (i + 1) s2.heap ∧ ∀ b ∈ fp, H' b = none) E s1) E s
  done : ∀ (X : Cx), X.prog = P → X.w = w → X.K = K → X.calm = true → ∀ (i : Nat) (pins : List (Addr × Obj)) (s : Shared) (σ : St) (H : Hp) (E : Value → Shared → Prop), Inv X pins σ H s → (∀ b ∈ fp, FpOk X pins H b) → tn i s.heap → J.stop i H →
    wpAny (model P w) X.A (pyNext (.ref it)) (fun r s1 => r = none ∧ Inv X pins σ H s1) E s
  self : ∀ (A : Around) (i : Nat) (s : Shared) (Q : Value → Shared → Prop) (E : Value → Shared → Prop), tn i s.heap → Q (.ref it) s → wpAny (model P w) A (pyIter (.ref it)) Q E s
abbrev TI := St → Hp → (It → Hp → Prop) → Prop
/-- an iterator has come -/
def PIE (X : Cx) (pins : List (Addr × Obj)) (σ : St) (tg : Expr) (R : It → Hp → Prop) (itv : Value) (s2 : Shared) : Prop :=
  ∃ (it : Addr) (fp : List Addr) (tn : Nat → Heap → Prop) (J : It) (H' : Hp), itv = .ref it ∧ Inv X pins σ H' s2 ∧ Turn X.prog X.w X.K tg J fp it tn ∧ tn 0 s2.heap ∧ (∀ b ∈ fp, FpOk X pins H' b) ∧ R J H'
def PI (X : Cx) (tg iter : Expr) (wi : TI) : Prop :=
  ∀ (pins : List (Addr × Obj)) (s : Shared) (σ : St) (H : Hp) (R : It → Hp → Prop), Inv X pins σ H s → wi σ H R →
    wpAny (model X.prog X.w) X.A (eval iter X.env) (fun v s1 => wpAny (model X.prog X.w) X.A (pyIter v) (PIE X pins σ tg R) X.xe s1) X.xe s
/-- the step ahead of the store is nothing for an iterator that keeps no tuple -/
theorem go_of {M : Model} {A : Around} {E : Value → Shared → Prop} {s : Shared} {tg : Expr} {it : Addr} {u : Value} {o : Obj} {n : String} {vs : Array Value} {Q : Unit → Shared → Prop} (ho : s.heap.get? it = some o) (hc : o.cls = .type n) (hd : o.data = .fields vs)
    (hn : ["enumerate", "zip", "dict_itemiterator", "dict_reverseitemiterator", "odict_iterator", "itertools.zip_longest", "itertools.pairwise"].contains n = false) (hQ : Q () s) : wpAny M A (letOwnedTupleGo tg (.ref it) u) Q E s := by
  unfold letOwnedTupleGo
  cases tg <;> first
    | exact wpAny_pure hQ
    | (cases u <;> first
        | exact wpAny_pure hQ
        | (refine wpAny_bind (wpAny_load ho ?_)
           rw [hc, hd]
           show wpAny M A (if (["enumerate", "zip", "dict_itemiterator", "dict_reverseitemiterator", "odict_iterator", "itertools.zip_longest", "itertools.pairwise"].contains n && vs[0]? == some (rawInt _)) = true then _ else _) Q E s
           rw [if_neg (by intro h; rw [hn, Bool.false_and] at h; cases h)]
           exact wpAny_pure hQ))
/-- the list at a, as it stands at each turn (a loop may append to it) -/
def Itl (K : PySem.W.Frag) (a : Addr) : It :=
  ⟨fun i H => ∃ xs x, SqL K H a xs ∧ xs[i]? = some x, fun i H x H' => H' = H ∧ ∀ xs, SqL K H a xs → xs[i]? = some x, fun i H => ∃ xs, SqL K H a xs ∧ xs.length ≤ i⟩
/-- lo, lo + 1, .. (n of them) -/
def Itr (lo : Int) (n : Nat) : It := ⟨fun i _ => i < n, fun i H x H' => H' = H ∧ x = .int (lo + i), fun i _ => n ≤ i⟩
theorem turn_list {P : Program} {w : World} {K : PySem.W.Frag} {tg : Expr} (a it : Addr) : Turn P w K tg (Itl K a) [it] it (fun i h => h.IsListIter it a i) where
  mem := by simp
  obj := fun i h st b hb => by
    have e : b = it := by simpa using hb
    subst e
    obtain ⟨o, e, c, d⟩ := st
    exact ⟨o, e, fun v z => by rw [d] at z; cases z⟩
  keep := fun i h h' st k => st.at fun o e => k it (by simp) o e
  item := by
    intro X hP hw hK hc i pins s σ H E I hf st hg
    subst hP hw hK
    obtain ⟨xs, x, hq, hx⟩ := hg
    obtain ⟨its, rv, p, hz⟩ := I.list hq
    obtain ⟨u, hu, ru⟩ := rv.get hx
    obtain ⟨f0, f1, f2, f3, f4, f5⟩ := hf it (by simp)
    refine wpAny_pyNext_list_item st p.isList (x := u) (by simpa using hu) fun h' st' sb => ?_
    have I1 : Inv X pins σ H { s with heap := h' } := I.turned (t' := s.toks) (fun b o hb e => (sb.2 b hb).trans e) f0 f1 f3 f4 f5
    obtain ⟨o, e, c, d⟩ := id st'
    exact ⟨u, rfl, go_of (s := { s with heap := h' }) e c d (by decide) ⟨x, H, I1, ru, ⟨rfl, fun ys hy => by rw [I.list_inj hy hq]; exact hx⟩, st', fun b hb => (hf b hb).1⟩⟩
  done := by
    intro X hP hw hK hc i pins s σ H E I hf st hg
    subst hP hw hK
    obtain ⟨xs, hq, hx⟩ := hg
    obtain ⟨its, rv, p, hz⟩ := I.list hq
    obtain ⟨f0, f1, f2, f3, f4, f5⟩ := hf it (by simp)
    have hl := rv.length
    exact wpAny_pyNext_list_end (I.ok.hd hc) st p.isList (by simp; omega) fun h' eb => ⟨rfl, I.turned (t' := s.toks) (fun b o hb e => eb b o hb e) f0 f1 f3 f4 f5⟩
  self := fun _ _ _ _ _ st h => wpAny_pyIter_listiter st h
theorem turn_range {P : Program} {w : World} {K : PySem.W.Frag} {tg : Expr} (it : Addr) (lo : Int) (n : Nat) : Turn P w K tg (Itr lo n) [it] it (fun i h => IsRangeIter h it (lo + (i : Nat) * 1) ((n : Int) - (i : Nat)) 1) where
  mem := by simp
  obj := fun i h st b hb => by
    have e : b = it := by simpa using hb
    subst e
    exact ⟨_, st, fun v z => by
      have z' : Data.fields _ = Data.cell v := z
      cases z'⟩
  keep := fun i h h' st k => k it (by simp) _ st
  item := by
    intro X hP hw hK hc i pins s σ H E I hf st hg
    subst hP hw hK
    obtain ⟨f0, f1, f2, f3, f4, f5⟩ := hf it (by simp)
    have W := Walks.range (prog := X.prog) (w := X.w) (I.ok.hd hc) it lo 1 n
    refine W.item i s _ _ hg st fun v h' tk hv st' kk => ?_
    obtain ⟨t, rfl⟩ := hv
    have I1 : Inv X pins σ H { s with heap := h', toks := tk } := I.turned (fun b o hb e => kk b o (by simpa using hb) e) f0 f1 f3 f4 f5
    refine ⟨_, rfl, go_of (s := { s with heap := h', toks := tk }) (n := "range_iterator") st' rfl rfl (by decide) ⟨.int (lo + i), H, I1, ⟨t, ?_⟩, ⟨rfl, rfl⟩, st', fun b hb => (hf b hb).1⟩⟩
    rw [Int.mul_one]
  done := by
    intro X hP hw hK hc i pins s σ H E I hf st hg
    subst hP hw hK
    obtain ⟨f0, f1, f2, f3, f4, f5⟩ := hf it (by simp)
    exact wpAny_pyNext_range_end (I.ok.hd hc) st (by have : n ≤ i := hg; omega) fun h' eb => ⟨rfl, I.turned (t' := s.toks) (fun b o hb e => eb b o hb e) f0 f1 f3 f4 f5⟩
  self := fun _ _ _ _ _ st h => wpAny_pyIter_rangeiter st h
end L2
namespace L2
open PySem PySem.Spec PyProof.Rows
section
variable {X : Cx} {tg : Expr}
def iList (K : PySem.W.Frag) (tl : TE) : TI := fun σ H R => tl σ H fun x H1 => ∃ a, x = .ref a ∧ (∃ xs, SqL K H1 a xs) ∧ R (Itl K a) H1
theorem pi_list {l : Expr} {tl : TE} (hl : PE X l tl) : PI X tg l (iList X.K tl) := by
  intro pins s σ H R I h
  refine thn (hl pins s σ H _ I h) fun v s1 ⟨x, H1, I1, r1, q1⟩ => ?_
  obtain ⟨a, e, ⟨xs, hq⟩, q⟩ := q1
  subst e
  cases r1
  obtain ⟨its, rv, p, hz⟩ := I1.list hq
  refine wpAny_pyIter_list p.isList ?_
  refine ⟨s1.heap.objs.size, [s1.heap.objs.size], _, _, H1, rfl, I1.kept (t' := s1.toks) fun b o e => Heap.get?_push_of_some _ e, turn_list a _, ⟨_, Heap.get?_push_size _ rfl, rfl, rfl⟩, fun b hb => ?_, q⟩
  have e : b = s1.heap.objs.size := by simpa using hb
  subst e
  exact I1.fpOk (Nat.le_refl _) (I1.hok.fresh (Nat.le_refl _))
/-- a range object just made, walked -/
theorem range_it {pins : List (Addr × Obj)} {σ : St} {H : Hp} {s : Shared} {R : It → Hp → Prop} {E : Value → Shared → Prop} {lo hi : Int} {t u v : Tok} {tk : Nat} (I : Inv X pins σ H s) (h1 : -(2 ^ 62) ≤ lo) (h2 : lo < 2 ^ 62) (h3 : -(2 ^ 62) ≤ hi) (h4 : hi < 2 ^ 62)
    (q : R (Itr lo (hi - lo).toNat) H) : wpAny (model X.prog X.w) X.A (pyIter (.ref s.heap.objs.size)) (PIE X pins σ tg R) E { s with heap := s.heap.push { cls := .type "range", data := .fields #[.int lo t, .int hi u, .int 1 v] }, toks := tk } := by
  refine wpAny_pyIter_range (IsRange.new ..) (small_one h1 h2 h3 h4) ?_
  have I1 : Inv X pins σ H { s with heap := s.heap.push { cls := .type "range", data := .fields #[.int lo t, .int hi u, .int 1 v] }, toks := tk } := I.kept fun b o e => Heap.get?_push_of_some _ e
  refine ⟨(s.heap.push { cls := .type "range", data := .fields #[.int lo t, .int hi u, .int 1 v] }).objs.size, [(s.heap.push { cls := .type "range", data := .fields #[.int lo t, .int hi u, .int 1 v] }).objs.size], _, _, H, rfl,
    I1.kept (t' := tk) fun b o e => Heap.get?_push_of_some _ e, turn_range _ lo (hi - lo).toNat, ?_, fun b hb => ?_, q⟩
  · have e1 : lo + ((0 : Nat) : Int) * 1 = lo := by simp
    have e2 : (((hi - lo).toNat : Nat) : Int) - ((0 : Nat) : Int) = Builtin.Range.rangeSize lo hi 1 := by rw [rangeSize_one]; split <;> omega
    show IsRangeIter _ _ (lo + ((0 : Nat) : Int) * 1) ((((hi - lo).toNat : Nat) : Int) - ((0 : Nat) : Int)) 1
    rw [e1, e2]
    exact Heap.get?_push_size _ rfl
  · have e : b = (s.heap.push { cls := .type "range", data := .fields #[.int lo t, .int hi u, .int 1 v] }).objs.size := by simpa using hb
    subst e
    exact I1.fpOk (Nat.le_refl _) (I1.hok.fresh (Nat.le_refl _))
def iRng1 (ta : TA) : TI := fun σ H R => ta σ H fun vs H1 => ∃ j : Int, vs = [.int j] ∧ -(2 ^ 62) ≤ j ∧ j < 2 ^ 62 ∧ R (Itr 0 j.toNat) H1
def iRng2 (ta : TA) : TI := fun σ H R => ta σ H fun vs H1 => ∃ i j : Int, vs = [.int i, .int j] ∧ (-(2 ^ 62) ≤ i ∧ i < 2 ^ 62 ∧ -(2 ^ 62) ≤ j ∧ j < 2 ^ 62) ∧ R (Itr i (j - i).toNat) H1
theorem pi_range1 {a : Expr} {ta : TA} {p pos : Pos} (hg : Gl X "range") (hm : X.mg "range" = none) (ha : PA X [a] ta) (hs : starEach [a] X.env = [(false, eval a X.env)] := by rfl) : PI X tg (.Call (.Name "range" p) [a] [] pos) (iRng1 ta) := by
  intro pins s σ H R I h
  refine Call_ (ld_blt I hg hm boot_range (PyProof.Rows.callWith_type1 (thn (ha pos pins s σ H _ I h) fun us s1 ⟨vs, H1, I1, r1, q1⟩ => ?_) hs rfl))
  obtain ⟨j, e, q1, q2, q⟩ := q1
  subst e
  cases r1 with
  | cons r rr =>
    cases rr
    obtain ⟨t, rfl⟩ := r
    exact call_range_1 (range_it I1 (by omega) (by omega) q1 q2 (by simpa using q))
theorem pi_range2 {a b : Expr} {ta : TA} {p pos : Pos} (hg : Gl X "range") (hm : X.mg "range" = none) (ha : PA X [a, b] ta) (hs : starEach [a, b] X.env = [(false, eval a X.env), (false, eval b X.env)] := by rfl) (hs2 : starEach [b] X.env = [(false, eval b X.env)] := by rfl) :
    PI X tg (.Call (.Name "range" p) [a, b] [] pos) (iRng2 ta) := by
  intro pins s σ H R I h
  refine Call_ (ld_blt I hg hm boot_range (PyProof.Rows.callWith_type1 (thn (ha pos pins s σ H _ I h) fun us s1 ⟨vs, H1, I1, r1, q1⟩ => ?_) (by rw [hs, hs2]) (by rw [hs2]; rfl)))
  obtain ⟨i, j, e, ⟨q1, q2, q3, q4⟩, q⟩ := q1
  subst e
  cases r1 with
  | cons r rr =>
    cases rr with
    | cons r' rr =>
      cases rr
      obtain ⟨t, rfl⟩ := r
      obtain ⟨t', rfl⟩ := r'
      exact call_range_2 (range_it I1 q1 q2 q3 q4 q)
/-- W: the invariant by the turn and a measure; N: what the body is to reach -/
def tFor (wi : TI) (g : TG) (tb : TS) : TS := fun D σ H => wi σ H fun J H1 => ∃ W : Nat → Nat → St → Hp → Prop, (∃ m, W 0 m σ H1) ∧ ∀ i m σ H, W i m σ H →
  (J.stop i H ∧ D.nx σ H) ∨ (J.go i H ∧ ∃ N : St → Hp → Prop, (∀ σ' H', N σ' H' → ∃ m', m' < m ∧ W (i + 1) m' σ' H') ∧ ∀ x H', J.yld i H x H' → g x σ H' fun σ2 H2 => tb { D with nx := N, ct := N, bk := D.nx } σ2 H2)
/-- the records at fp as they stand -/
def pinsAt (fp : List Addr) (h : Heap) : List (Addr × Obj) := fp.filterMap fun b => (h.get? b).map fun o => (b, o)
theorem mem_pinsAt {fp : List Addr} {h : Heap} {b : Addr} {o : Obj} (hb : b ∈ fp) (e : h.get? b = some o) : (b, o) ∈ pinsAt fp h := List.mem_filterMap.mpr ⟨b, hb, by rw [e]; rfl⟩
theorem of_pinsAt {fp : List Addr} {h : Heap} {p : Addr × Obj} (hp : p ∈ pinsAt fp h) : p.1 ∈ fp ∧ h.get? p.1 = some p.2 := by
  obtain ⟨b, hb, e⟩ := List.mem_filterMap.mp hp
  cases q : h.get? b with
  | none => rw [q] at e; cases e
  | some o =>
    rw [q] at e
    have e' : (b, o) = p := Option.some.inj e
    subst e'
    exact ⟨hb, q⟩
theorem Inv.pinned {pins : List (Addr × Obj)} {σ : St} {H : Hp} {s : Shared} {fp : List Addr} (I : Inv X pins σ H s) (hf : ∀ b ∈ fp, FpOk X pins H b) (ho : ∀ b ∈ fp, ∃ o, s.heap.get? b = some o ∧ ∀ v, o.data ≠ .cell v) : Inv X (pins ++ pinsAt fp s.heap) σ H s :=
  I.pins_of fun p hp => (List.mem_append.mp hp).elim (fun z => I.pin p (List.mem_append_right _ z)) fun z => by
    obtain ⟨hb, e⟩ := of_pinsAt z
    obtain ⟨f0, f1, f2, _⟩ := hf p.1 hb
    obtain ⟨o, e', d⟩ := ho p.1 hb
    rw [e] at e'; cases e'
    exact ⟨e, f0, f1, f2, d⟩
theorem Inv.unpinned {pins pl : List (Addr × Obj)} {σ : St} {H : Hp} {s : Shared} (I : Inv X (pins ++ pl) σ H s) : Inv X pins σ H s := I.pins_of fun p hp => I.pin p (List.mem_append_right _ (List.mem_append_left _ hp))
theorem ps_for {iter : Expr} {body : List Stmt} {wi : TI} {g : TG} {tb : TS} {pos : Pos} (hp : PassesOwn (model X.prog X.w) X.A X.env X.xe) (hc : X.calm = true) (hi : PI X tg iter wi) (hg : PG X tg g) (hb : PSs X body tb)
    (hs : ∀ x, foldedSetIterable iter X.env x = pure x := by intro _; rfl) : PS X (.For tg iter body [] pos) (tFor wi g tb) := by
  intro pins s σ H D I h
  refine wpAny_For (thn (hi pins s σ H _ I h) fun v s1 h1 => thn h1 fun itv s2 h2 => ?_) hs
  obtain ⟨it, fp, tn, J, H2, e, I2, T, st2, f2, W, ⟨m0, w0⟩, turn⟩ := h2
  subst e
  -- what stays true of the iterator's objects through the loop
  have stat : ∀ {H' : Hp}, (∀ b ∈ fp, H' b = none) → ∀ b ∈ fp, FpOk X pins H' b := fun hn b hb => ⟨hn b hb, (f2 b hb).2⟩
  refine codeAny_forLoop_any (fun n s' => ∃ i σ' H', Inv X pins σ' H' s' ∧ tn i s'.heap ∧ (∀ b ∈ fp, H' b = none) ∧ W i n σ' H') ?_ m0 ⟨0, σ, H2, I2, st2, fun b hb => (f2 b hb).1, w0⟩
  rintro n s3 ⟨i, σ3, H3, I3, st3, fr3, w3⟩
  rcases turn i n σ3 H3 w3 with ⟨stop, qn⟩ | ⟨go, N, hN, step⟩
  · refine wpAny_passesOwn hp (thn (T.done X rfl rfl rfl hc i pins s3 σ3 H3 X.xe I3 (stat fr3) st3 stop) fun r s4 ⟨hr, I4⟩ => ?_)
    subst hr
    exact wpAny_execs_nil ⟨σ3, H3, I4, qn⟩
  · refine wpAny_passesOwn hp (thn (T.item X rfl rfl rfl hc i pins s3 σ3 H3 X.xe I3 (stat fr3) st3 go) fun r s4 ⟨u, hr, h4⟩ => ?_)
    subst hr
    refine wpAny_passesOwn hp (thn h4 fun _ s5 ⟨x, H5, I5, r5, y5, st5, fr5⟩ => ?_)
    have I5' := I5.pinned (stat fr5) (T.obj _ _ st5)
    refine wpAny_passesOwn hp (thn (hg _ s5 σ3 H5 x u _ I5' r5 (step x H5 y5)) fun _ s6 ⟨σ6, H6, I6, q6⟩ => ?_)
    refine wpAny_passesOwn hp (thn (hb _ s6 σ6 H6 _ I6 q6) fun f s7 q7 => ?_)
    have again : ∀ {σ7 : St} {H7 : Hp}, Inv X (pins ++ pinsAt fp s5.heap) σ7 H7 s7 → N σ7 H7 → ∃ m, m < n ∧ ∃ i σ' H', Inv X pins σ' H' s7 ∧ tn i s7.heap ∧ (∀ b ∈ fp, H' b = none) ∧ W i m σ' H' := fun {σ7 H7} I7 n7 => by
      obtain ⟨m', hm, w7⟩ := hN σ7 H7 n7
      refine ⟨m', hm, i + 1, σ7, H7, I7.unpinned, T.keep _ _ _ st5 fun b hb o e => (I7.pin (b, o) (List.mem_append_right _ (List.mem_append_right _ (mem_pinsAt hb e)))).1, fun b hb => ?_, w7⟩
      obtain ⟨o, e, d⟩ := T.obj _ _ st5 b hb
      exact (I7.pin (b, o) (List.mem_append_right _ (List.mem_append_right _ (mem_pinsAt hb e)))).2.1
    cases f with
    | next => obtain ⟨σ7, H7, I7, n7⟩ := q7; exact again I7 n7
    | cont => obtain ⟨σ7, H7, I7, n7⟩ := q7; exact again I7 n7
    | brk => obtain ⟨σ7, H7, I7, q7⟩ := q7; exact ⟨σ7, H7, I7.unpinned, q7⟩
    | ret v => obtain ⟨x7, σ7, H7, I7, r7, q7⟩ := q7; exact ⟨x7, σ7, H7, I7.unpinned, r7, q7⟩
end
/-- over a list that the body leaves as it is -/
theorem for_list {K : PySem.W.Frag} {a : Addr} {xs : List V} {g : TG} {tb : TS} {D : Ends} {σ : St} {H : Hp} (Pv : Nat → St → Hp → Prop) (h0 : Pv 0 σ H) (hl : ∀ i σ H, i ≤ xs.length → Pv i σ H → SqL K H a xs)
    (hs : ∀ i x σ H, xs[i]? = some x → Pv i σ H → g x σ H fun σ2 H2 => tb { D with nx := Pv (i + 1), ct := Pv (i + 1), bk := D.nx } σ2 H2) (hd : ∀ σ H, Pv xs.length σ H → D.nx σ H) :
    ∃ W : Nat → Nat → St → Hp → Prop, (∃ m, W 0 m σ H) ∧ ∀ i m σ H, W i m σ H →
      ((Itl K a).stop i H ∧ D.nx σ H) ∨ ((Itl K a).go i H ∧ ∃ N : St → Hp → Prop, (∀ σ' H', N σ' H' → ∃ m', m' < m ∧ W (i + 1) m' σ' H') ∧ ∀ x H', (Itl K a).yld i H x H' → g x σ H' fun σ2 H2 => tb { D with nx := N, ct := N, bk := D.nx } σ2 H2) := by
  refine ⟨fun i m σ H => m = xs.length - i ∧ i ≤ xs.length ∧ Pv i σ H, ⟨xs.length, by simp, Nat.zero_le _, h0⟩, ?_⟩
  rintro i m σ H ⟨rfl, hi, p⟩
  have q := hl i σ H hi p
  by_cases hlt : i < xs.length
  · refine .inr ⟨⟨xs, xs[i], q, by simp [hlt]⟩, Pv (i + 1), fun σ' H' p' => ⟨xs.length - (i + 1), by omega, rfl, hlt, p'⟩, fun x H' y => ?_⟩
    obtain ⟨e, y⟩ := y
    subst e
    exact hs i x σ _ (y xs q) p
  · have e : i = xs.length := by omega
    subst e
    exact .inl ⟨⟨xs, q, Nat.le_refl _⟩, hd σ H p⟩
theorem for_range {lo : Int} {n : Nat} {g : TG} {tb : TS} {D : Ends} {σ : St} {H : Hp} (Pv : Nat → St → Hp → Prop) (h0 : Pv 0 σ H)
    (hs : ∀ i σ H, i < n → Pv i σ H → g (.int (lo + i)) σ H fun σ2 H2 => tb { D with nx := Pv (i + 1), ct := Pv (i + 1), bk := D.nx } σ2 H2) (hd : ∀ σ H, Pv n σ H → D.nx σ H) :
    ∃ W : Nat → Nat → St → Hp → Prop, (∃ m, W 0 m σ H) ∧ ∀ i m σ H, W i m σ H →
      ((Itr lo n).stop i H ∧ D.nx σ H) ∨ ((Itr lo n).go i H ∧ ∃ N : St → Hp → Prop, (∀ σ' H', N σ' H' → ∃ m', m' < m ∧ W (i + 1) m' σ' H') ∧ ∀ x H', (Itr lo n).yld i H x H' → g x σ H' fun σ2 H2 => tb { D with nx := N, ct := N, bk := D.nx } σ2 H2) := by
  refine ⟨fun i m σ H => m = n - i ∧ i ≤ n ∧ Pv i σ H, ⟨n, by simp, Nat.zero_le _, h0⟩, ?_⟩
  rintro i m σ H ⟨rfl, hi, p⟩
  by_cases hlt : i < n
  · refine .inr ⟨hlt, Pv (i + 1), fun σ' H' p' => ⟨n - (i + 1), by omega, rfl, hlt, p'⟩, fun x H' y => ?_⟩
    obtain ⟨e, y⟩ := y
    subst e y
    exact hs i σ _ hlt p
  · have e : i = n := by omega
    subst e
    exact .inl ⟨Nat.le_refl _, hd σ H p⟩
end L2
namespace L2
open PySem PySem.Spec PyProof.Rows
abbrev R2 := V → V → Hp → VK → Prop
/-- a two-place operation on values: f is binaryOp op, inplaceOp op or compareOp op -/
def OpR (X : Cx) (f : Value → Value → Sem Value) (r : R2) : Prop :=
  ∀ (pins : List (Addr × Obj)) (s : Shared) (σ : St) (H : Hp) (x y : V) (v u : Value) (Q : VK), Inv X pins σ H s → RelV x v → RelV y u → r x y H Q →
    wpAny (model X.prog X.w) X.A (f v u) (EP X pins σ Q) X.xe s
/-- a one-place operation -/
def UnR (X : Cx) (f : Value → Sem Value) (r : V → Hp → VK → Prop) : Prop :=
  ∀ (pins : List (Addr × Obj)) (s : Shared) (σ : St) (H : Hp) (x : V) (v : Value) (Q : VK), Inv X pins σ H s → RelV x v → r x H Q →
    wpAny (model X.prog X.w) X.A (f v) (EP X pins σ Q) X.xe s
/-- a call of a value that is known (a builtin, a type) with values -/
def CallR (X : Cx) (f : Value) (r : List V → Hp → VK → Prop) : Prop :=
  ∀ (pins : List (Addr × Obj)) (s : Shared) (σ : St) (H : Hp) (xs : List V) (us : List Value) (Q : VK), Inv X pins σ H s → Vals xs us → r xs H Q →
    wpAny (model X.prog X.w) X.A (call f us) (EP X pins σ Q) X.xe s
/-- a value's truth -/
def TruR (X : Cx) (r : V → Hp → (Bool → Hp → Prop) → Prop) : Prop :=
  ∀ (pins : List (Addr × Obj)) (s : Shared) (σ : St) (H : Hp) (x : V) (v : Value) (Q : Bool → Hp → Prop), Inv X pins σ H s → RelV x v → r x H Q →
    wpAny (model X.prog X.w) X.A (truthy v) (TP X pins σ Q) X.xe s
def tOp (r : R2) (ta tb : TE) : TE := fun σ H Q => ta σ H fun x H1 => tb σ H1 fun y H2 => r x y H2 Q
def tUn (r : V → Hp → VK → Prop) (ta : TE) : TE := fun σ H Q => ta σ H fun x H1 => r x H1 Q
/-- ints in, under C, and a value out -/
def rI (C : Int → Int → Prop) (g : Int → Int → V) : R2 := fun x y H Q => ∃ i j, x = .int i ∧ y = .int j ∧ C i j ∧ Q (g i j) H
def rI0 (g : Int → Int → V) : R2 := fun x y H Q => ∃ i j, x = .int i ∧ y = .int j ∧ Q (g i j) H
def rU (g : Int → V) : V → Hp → VK → Prop := fun x H Q => ∃ i, x = .int i ∧ Q (g i) H
section
variable {X : Cx} {a b c : Expr} {ta tb tc : TE} {pos : Pos}
theorem binT (ha : PE X a ta) (hb : PE X b tb) {pins : List (Addr × Obj)} {s : Shared} {σ : St} {H : Hp} {R : V → V → Hp → Prop} (I : Inv X pins σ H s)
    (h : ta σ H fun x H1 => tb σ H1 fun y H2 => R x y H2) {Q : Value → Shared → Prop} {f : Value → Value → Sem Value}
    (hf : ∀ v u s2 x y H2, Inv X pins σ H2 s2 → RelV x v → RelV y u → R x y H2 → wpAny (model X.prog X.w) X.A (f v u) Q X.xe s2) :
    wpAny (model X.prog X.w) X.A (eval a X.env) (fun v s₁ => wpAny (model X.prog X.w) X.A (eval b X.env) (fun u s₂ => wpAny (model X.prog X.w) X.A (f v u) Q X.xe s₂) X.xe s₁) X.xe s := by
  refine thn (ha pins s σ H _ I h) fun v s1 ⟨x, H1, I1, r1, q1⟩ => ?_
  refine thn (hb pins s1 σ H1 _ I1 q1) fun u s2 ⟨y, H2, I2, r2, q2⟩ => ?_
  exact hf v u s2 x y H2 I2 r1 r2 q2
theorem pe_op {op : Operator} {r : R2} (ho : OpR X (binaryOp op) r) (ha : PE X a ta) (hb : PE X b tb) : PE X (.BinOp a op b pos) (tOp r ta tb) := by
  intro pins s σ H Q I h
  exact wpAny_BinOp (binT ha hb I h fun v u s2 x y H2 I2 rx ry q => ho pins s2 σ H2 x y v u Q I2 rx ry q)
theorem pe_un {op : UnaryOp} {r : V → Hp → VK → Prop} (ho : UnR X (unaryOp op) r) (ha : PE X a ta) : PE X (.UnaryOp op a pos) (tUn r ta) := by
  intro pins s σ H Q I h
  exact UnaryOp_ (thn (ha pins s σ H _ I h) fun v s1 ⟨x, H1, I1, r1, q1⟩ => ho pins s1 σ H1 x v Q I1 r1 q1)
theorem opI {f : Value → Value → Sem Value} {C : Int → Int → Prop} {g : Int → Int → Int}
    (rule : ∀ (i j : Int) (t u : Tok) (s : Shared) (Q : Value → Shared → Prop) (E : Value → Shared → Prop), C i j → Q (.int (g i j) s.toks) { s with toks := s.toks + 1 } → wpAny (model X.prog X.w) X.A (f (.int i t) (.int j u)) Q E s) :
    OpR X f (rI C fun i j => .int (g i j)) := by
  intro pins s σ H x y v u Q I rx ry h
  obtain ⟨i, j, rfl, rfl, hc, q⟩ := h
  obtain ⟨t, rfl⟩ := rx
  obtain ⟨t', rfl⟩ := ry
  exact rule i j t t' s _ _ hc ⟨.int (g i j), H, I.tok _, ⟨_, rfl⟩, q⟩
theorem opI0 {f : Value → Value → Sem Value} {g : Int → Int → Int}
    (rule : ∀ (i j : Int) (t u : Tok) (s : Shared) (Q : Value → Shared → Prop) (E : Value → Shared → Prop), Q (.int (g i j) s.toks) { s with toks := s.toks + 1 } → wpAny (model X.prog X.w) X.A (f (.int i t) (.int j u)) Q E s) :
    OpR X f (rI0 fun i j => .int (g i j)) := by
  intro pins s σ H x y v u Q I rx ry h
  obtain ⟨i, j, rfl, rfl, q⟩ := h
  obtain ⟨t, rfl⟩ := rx
  obtain ⟨t', rfl⟩ := ry
  exact rule i j t t' s _ _ ⟨.int (g i j), H, I.tok _, ⟨_, rfl⟩, q⟩
theorem opB0 {f : Value → Value → Sem Value} {g : Int → Int → Bool}
    (rule : ∀ (i j : Int) (t u : Tok) (s : Shared) (Q : Value → Shared → Prop) (E : Value → Shared → Prop), Q (.bool (g i j)) s → wpAny (model X.prog X.w) X.A (f (.int i t) (.int j u)) Q E s) :
    OpR X f (rI0 fun i j => .bl (g i j)) := by
  intro pins s σ H x y v u Q I rx ry h
  obtain ⟨i, j, rfl, rfl, q⟩ := h
  obtain ⟨t, rfl⟩ := rx
  obtain ⟨t', rfl⟩ := ry
  exact rule i j t t' s _ _ ⟨.bl (g i j), H, I, rfl, q⟩
def CPow (i j : Int) : Prop := 0 ≤ j ∧ j ≤ 1000000 ∧ i.natAbs < 2 ^ 64
def CMul (i j : Int) : Prop := (-(2 ^ 64) < i ∧ i < 2 ^ 64) ∨ (-(2 ^ 64) < j ∧ j < 2 ^ 64)
theorem CMul.ok {i j : Int} (h : CMul i j) : IntMulOk i j := by
  rcases h with ⟨h1, h2⟩ | ⟨h1, h2⟩
  · exact .of_left (intBits_le_64 h1 h2)
  · exact .of_right (intBits_le_64 h1 h2)
theorem op_add : OpR X (binaryOp .Add) (rI0 fun i j => .int (i + j)) := opI0 fun _ _ _ _ _ _ _ q => add_int q
theorem op_sub : OpR X (binaryOp .Sub) (rI0 fun i j => .int (i - j)) := opI0 fun _ _ _ _ _ _ _ q => sub_int q
theorem op_mul : OpR X (binaryOp .Mult) (rI CMul fun i j => .int (i * j)) := opI fun _ _ _ _ _ _ _ hc q => mul_int q hc.ok
theorem op_shl : OpR X (binaryOp .LShift) (rI CPow fun i j => .int (i * 2 ^ j.toNat)) := opI fun _ _ _ _ _ _ _ hc q => lshift_int_small hc.1 hc.2.1 hc.2.2 q
theorem unI {f : Value → Sem Value} {g : Int → Int}
    (rule : ∀ (i : Int) (t : Tok) (s : Shared) (Q : Value → Shared → Prop) (E : Value → Shared → Prop), Q (.int (g i) s.toks) { s with toks := s.toks + 1 } → wpAny (model X.prog X.w) X.A (f (.int i t)) Q E s) :
    UnR X f (rU fun i => .int (g i)) := by
  intro pins s σ H x v Q I rx h
  obtain ⟨i, rfl, q⟩ := h
  obtain ⟨t, rfl⟩ := rx
  exact rule i t s _ _ ⟨.int (g i), H, I.tok _, ⟨_, rfl⟩, q⟩
theorem un_neg : UnR X (unaryOp .USub) (rU fun i => .int (-i)) := unI fun _ _ _ _ _ q => neg_int q
end
/-- the scalars that == tells apart as data does -/
def scal : V → V → Bool
  | .non, .non => true | .non, .int _ => true | .int _, .non => true | .non, .bl _ => true | .bl _, .non => true | .non, .str _ => true | .str _, .non => true
  | .int _, .int _ => true | .bl _, .bl _ => true | .str _, .str _ => true | .byt _, .byt _ => true
  | .int _, .str _ => true | .str _, .int _ => true | .bl _, .str _ => true | .str _, .bl _ => true
  | _, _ => false
def rEq : R2 := fun x y H Q => scal x y = true ∧ Q (.bl (decide (x = y))) H
def rNe : R2 := fun x y H Q => scal x y = true ∧ Q (.bl (!decide (x = y))) H
theorem dec_int {i j : Int} : decide (V.int i = V.int j) = (i == j) := by
  rw [Bool.eq_iff_iff]
  simp
theorem dec_bl {i j : Bool} : decide (V.bl i = V.bl j) = (i == j) := by
  rw [Bool.eq_iff_iff]
  simp
theorem dec_str {i j : Str} : decide (V.str i = V.str j) = (i == j) := by
  rw [Bool.eq_iff_iff]
  simp
theorem dec_byt {i j : Array UInt8} : decide (V.byt i = V.byt j) = (i.toList == j.toList) := by
  rw [Bool.eq_iff_iff]
  cases i
  cases j
  simp
section
variable {X : Cx} {a b c : Expr} {ta tb tc : TE} {pos : Pos}
theorem fin_bl {pins : List (Addr × Obj)} {σ : St} {H : Hp} {s : Shared} {Q : VK} {k k' : Bool} (I : Inv X pins σ H s) (q : Q (.bl k) H) (e : k = k') : EP X pins σ Q (.bool k') s := by
  subst e
  exact ⟨.bl k, H, I, rfl, q⟩
theorem op_eq : OpR X (compareOp .Eq) rEq := by
  intro pins s σ H x y v u Q I rx ry h
  obtain ⟨hs, q⟩ := h
  cases x with
  | non =>
    cases rx
    cases y with
    | non => cases ry; exact PySem.EqNone.eq_none_none (fin_bl I q (by simp))
    | bl j => cases ry; exact PySem.EqNone.eq_none_bool (fin_bl I q (by simp))
    | int j => obtain ⟨t', rfl⟩ := ry; exact PySem.EqNone.eq_none_int (fin_bl I q (by simp))
    | str j => obtain ⟨t', rfl⟩ := ry; exact PySem.EqNone.eq_none_str (fin_bl I q (by simp))
    | _ => exact absurd (show false = true from hs) Bool.false_ne_true
  | bl i =>
    cases rx
    cases y with
    | non => cases ry; exact PySem.EqNone.eq_bool_none (fin_bl I q (by simp))
    | bl j => cases ry; exact eq_bool (fin_bl I q dec_bl)
    | str j => obtain ⟨t', rfl⟩ := ry; exact PySem.EqMixed.eq_bool_str (fin_bl I q (by simp))
    | _ => exact absurd (show false = true from hs) Bool.false_ne_true
  | int i =>
    obtain ⟨t, rfl⟩ := rx
    cases y with
    | non => cases ry; exact PySem.EqNone.eq_int_none (fin_bl I q (by simp))
    | int j => obtain ⟨t', rfl⟩ := ry; exact eq_int (fin_bl I q dec_int)
    | str j => obtain ⟨t', rfl⟩ := ry; exact PySem.EqMixed.eq_int_str (fin_bl I q (by simp))
    | _ => exact absurd (show false = true from hs) Bool.false_ne_true
  | str i =>
    obtain ⟨t, rfl⟩ := rx
    cases y with
    | non => cases ry; exact PySem.EqNone.eq_str_none (fin_bl I q (by simp))
    | bl j => cases ry; exact PySem.EqMixed.eq_str_bool (fin_bl I q (by simp))
    | int j => obtain ⟨t', rfl⟩ := ry; exact PySem.EqMixed.eq_str_int (fin_bl I q (by simp))
    | str j => obtain ⟨t', rfl⟩ := ry; exact eq_str (fin_bl I q dec_str)
    | _ => exact absurd (show false = true from hs) Bool.false_ne_true
  | byt i =>
    obtain ⟨t, rfl⟩ := rx
    cases y with
    | byt j => obtain ⟨t', rfl⟩ := ry; exact PySem.W.eq_bytes (fin_bl I q dec_byt)
    | _ => exact absurd (show false = true from hs) Bool.false_ne_true
  | _ => cases y <;> exact absurd (show false = true from hs) Bool.false_ne_true
theorem op_ne : OpR X (compareOp .NotEq) rNe := by
  intro pins s σ H x y v u Q I rx ry h
  obtain ⟨hs, q⟩ := h
  cases x with
  | non =>
    cases rx
    cases y with
    | non => cases ry; exact PySem.EqNone.ne_none_none (fin_bl I q (by simp))
    | bl j => cases ry; exact PySem.EqNone.ne_none_bool (fin_bl I q (by simp))
    | int j => obtain ⟨t', rfl⟩ := ry; exact PySem.EqNone.ne_none_int (fin_bl I q (by simp))
    | str j => obtain ⟨t', rfl⟩ := ry; exact PySem.EqNone.ne_none_str (fin_bl I q (by simp))
    | _ => exact absurd (show false = true from hs) Bool.false_ne_true
  | bl i =>
    cases rx
    cases y with
    | non => cases ry; exact PySem.EqNone.ne_bool_none (fin_bl I q (by simp))
    | bl j => cases ry; exact ne_bool (fin_bl I q (congrArg not dec_bl))
    | str j => obtain ⟨t', rfl⟩ := ry; exact PySem.EqMixed.ne_bool_str (fin_bl I q (by simp))
    | _ => exact absurd (show false = true from hs) Bool.false_ne_true
  | int i =>
    obtain ⟨t, rfl⟩ := rx
    cases y with
    | non => cases ry; exact PySem.EqNone.ne_int_none (fin_bl I q (by simp))
    | int j => obtain ⟨t', rfl⟩ := ry; exact ne_int (fin_bl I q (congrArg not dec_int))
    | str j => obtain ⟨t', rfl⟩ := ry; exact PySem.EqMixed.ne_int_str (fin_bl I q (by simp))
    | _ => exact absurd (show false = true from hs) Bool.false_ne_true
  | str i =>
    obtain ⟨t, rfl⟩ := rx
    cases y with
    | non => cases ry; exact PySem.EqNone.ne_str_none (fin_bl I q (by simp))
    | bl j => cases ry; exact PySem.EqMixed.ne_str_bool (fin_bl I q (by simp))
    | int j => obtain ⟨t', rfl⟩ := ry; exact PySem.EqMixed.ne_str_int (fin_bl I q (by simp))
    | str j => obtain ⟨t', rfl⟩ := ry; exact ne_str (fin_bl I q (congrArg not dec_str))
    | _ => exact absurd (show false = true from hs) Bool.false_ne_true
  | byt i =>
    obtain ⟨t, rfl⟩ := rx
    cases y with
    | byt j => obtain ⟨t', rfl⟩ := ry; exact PySem.W.ne_bytes (fin_bl I q (congrArg not dec_byt))
    | _ => exact absurd (show false = true from hs) Bool.false_ne_true
  | _ => cases y <;> exact absurd (show false = true from hs) Bool.false_ne_true
theorem op_lt : OpR X (compareOp .Lt) (rI0 fun i j => .bl (decide (i < j))) := opB0 fun _ _ _ _ _ _ _ q => lt_int q
theorem op_le : OpR X (compareOp .LtE) (rI0 fun i j => .bl (decide (i ≤ j))) := opB0 fun _ _ _ _ _ _ _ q => le_int q
theorem op_gt : OpR X (compareOp .Gt) (rI0 fun i j => .bl (decide (j < i))) := opB0 fun _ _ _ _ _ _ _ q => gt_int q
theorem op_ge : OpR X (compareOp .GtE) (rI0 fun i j => .bl (decide (j ≤ i))) := opB0 fun _ _ _ _ _ _ _ q => ge_int q
theorem nomark (b : Expr) {op : CmpOp} (h : op ≠ .In := by decide) (h2 : op ≠ .NotIn := by decide) : behindInMarks op b = false := by
  have e1 : (op == CmpOp.In) = false := by cases op <;> first | rfl | exact absurd rfl h
  have e2 : (op == CmpOp.NotIn) = false := by cases op <;> first | rfl | exact absurd rfl h2
  cases b <;> simp [behindInMarks, e1, e2]
/-- a comparison as a value; hm: nomark b, or (for in, not in) by with_unfolding_all rfl -/
theorem pe_cmpR {op : CmpOp} {r : R2} (ho : OpR X (compareOp op) r) (ha : PE X a ta) (hb : PE X b tb) (hm : behindInMarks op b = false) : PE X (.Compare a [op] [b] pos) (tOp r ta tb) := by
  intro pins s σ H Q I h
  exact wpAny_Compare1 (binT ha hb I h fun v u s2 x y H2 I2 rx ry q => ho pins s2 σ H2 x y v u Q I2 rx ry q) hm
/-- a reading of a value as a test -/
def tTest (t : TE) : TT := fun σ H Q => t σ H fun x H' => ∃ k, x = .bl k ∧ Q k H'
theorem pt_cmpR {op : CmpOp} {r : R2} (ho : OpR X (compareOp op) r) (ha : PE X a ta) (hb : PE X b tb) (hm : behindInMarks op b = false) : PT X (.Compare a [op] [b] pos) (tTest (tOp r ta tb)) := by
  intro pins s σ H Q I h
  refine wpAny_isTrue_Compare1 (thn (ha pins s σ H _ I h) fun v s1 ⟨x, H1, I1, r1, q1⟩ => thn (hb pins s1 σ H1 _ I1 q1) fun u s2 ⟨y, H2, I2, r2, q2⟩ =>
    thn (ho pins s2 σ H2 x y v u _ I2 r1 r2 q2) fun c s3 ⟨z, H3, I3, r3, k, e, q3⟩ => ?_) hm
  subst e
  cases r3
  exact wpAny_truthy_bool ⟨H3, I3, q3⟩
/-- a op1 b op2 c -/
def tChain (r r' : R2) (ta tb tc : TE) : TE := fun σ H Q => ta σ H fun x H1 => tb σ H1 fun y H2 => r x y H2 fun z H3 => ∃ k, z = .bl k ∧
  (if k = true then tc σ H3 fun w' H4 => r' y w' H4 Q else Q (.bl false) H3)
theorem pe_chain {op op' : CmpOp} {r r' : R2} (ho : OpR X (compareOp op) r) (ho' : OpR X (compareOp op') r') (ha : PE X a ta) (hb : PE X b tb) (hc : PE X c tc)
    (hm : lastMarks [op, op'] [b, c] = false := by with_unfolding_all rfl) : PE X (.Compare a [op, op'] [b, c] pos) (tChain r r' ta tb tc) := by
  intro pins s σ H Q I h
  refine Compare_chain (thn (ha pins s σ H _ I h) fun v s1 ⟨x, H1, I1, r1, q1⟩ => chain_link (thn (hb pins s1 σ H1 _ I1 q1) fun u s2 ⟨y, H2, I2, r2, q2⟩ =>
    thn (ho pins s2 σ H2 x y v u _ I2 r1 r2 q2) fun d s3 ⟨z, H3, I3, r3, k, e, q3⟩ => ?_)) hm
  subst e
  cases r3
  refine wpAny_truthy_bool ?_
  cases k with
  | false => exact ite_ff ⟨.bl false, H3, I3, rfl, q3⟩
  | true => exact ite_tt (chain_last (thn (hc pins s3 σ H3 _ I3 q3) fun w' s4 ⟨z', H4, I4, r4, q4⟩ => ho' pins s4 σ H4 y z' u w' Q I4 r2 r4 q4))
/-- a value's truth by the abstract heap -/
def TruV (K : PySem.W.Frag) (x : V) (H : Hp) (k : Bool) : Prop :=
  match x with
  | .non => k = false
  | .bl b => k = b
  | .int i => k = (i != 0)
  | .str y => y.length ≤ sizeLine ∧ k = ((y.length : Int) != 0)
  | .byt y => y.size ≤ sizeLine ∧ k = ((y.size : Int) != 0)
  | .ref p => (∃ xs, SqL K H p xs ∧ k = !xs.isEmpty) ∨ (∃ xs, SqT K H p xs ∧ k = !xs.isEmpty) ∨ ∃ kvs, H p = some (.dK kvs) ∧ k = !kvs.isEmpty
  | _ => False
theorem isEmpty_kv {κ : Type} {kvs : List (κ × V)} {vs : List (κ × Value)} (r : KV kvs vs) : (!vs.isEmpty) = !kvs.isEmpty := by
  cases r <;> rfl
theorem isEmpty_of {xs : List V} {its : List Value} (r : Vals xs its) : (!its.toArray.isEmpty) = !xs.isEmpty := by
  cases r <;> simp
theorem line63 : (sizeLine : Nat) < 2 ^ 63 := by rw [sizeLine_eq]; decide
theorem tru_ok : TruR X (fun x H Q => ∃ k, TruV X.K x H k ∧ Q k H) := by
  intro pins s σ H x v Q I rx h
  obtain ⟨k, e, q⟩ := h
  have hl := line63
  have hs : sizeLine = 16777216 := sizeLine_eq
  cases x with
  | non =>
    cases rx
    have e' : k = false := e
    subst e'
    exact truthy_none ⟨H, I, q⟩
  | bl b =>
    cases rx
    have e' : k = b := e
    subst e'
    exact wpAny_truthy_bool ⟨H, I, q⟩
  | int i =>
    obtain ⟨t, rfl⟩ := rx
    have e' : k = (i != 0) := e
    subst e'
    exact PySem.P.truthy_int ⟨H, I, q⟩
  | str y =>
    obtain ⟨t, rfl⟩ := rx
    obtain ⟨hy, e'⟩ : y.length ≤ sizeLine ∧ k = ((y.length : Int) != 0) := e
    subst e'
    exact PySem.P.truthy_str (by omega) ⟨H, I.tok _, q⟩
  | byt y =>
    obtain ⟨t, rfl⟩ := rx
    obtain ⟨hy, e'⟩ : y.size ≤ sizeLine ∧ k = ((y.size : Int) != 0) := e
    subst e'
    exact PySem.W.truthy_bytes (by omega) ⟨H, I.tok _, q⟩
  | ref p =>
    cases rx
    have e' : (∃ xs, SqL X.K H p xs ∧ k = !xs.isEmpty) ∨ (∃ xs, SqT X.K H p xs ∧ k = !xs.isEmpty) ∨ ∃ kvs, H p = some (.dK kvs) ∧ k = !kvs.isEmpty := e
    rcases e' with ⟨xs, hx, e'⟩ | ⟨xs, hx, e'⟩ | ⟨kvs, hx, e'⟩
    · subst e'
      obtain ⟨its, r, pl, hz⟩ := I.list hx
      have hlen := r.length
      exact wpAny_truthy_list pl.isList (by simp only [List.size_toArray]; omega) ⟨H, I.tok _, by rw [isEmpty_of r]; exact q⟩
    · subst e'
      obtain ⟨its, r, pl, hz⟩ := I.tuple hx
      have hlen := r.length
      exact truthy_tuple pl (by simp only [List.size_toArray]; omega) ⟨H, I.tok _, by rw [isEmpty_of r]; exact q⟩
    · subst e'
      obtain ⟨hz, hS, vs, r, m⟩ : kvs.length ≤ sizeLine ∧ (p == sysModules) = false ∧ ∃ vs, KV kvs vs ∧ s.heap.DictOf (mixKind X.prog X.w) p vs := I.hok p _ hx
      have hlen : kvs.length = vs.length := Paired.length r
      exact wpAny_truthy_dict hS m (by omega) ⟨H, I.tok _, by rw [isEmpty_kv r]; exact q⟩
  | _ => exact (show False from e).elim
/-- any expression whose test is its value's truth (a name, a call, a subscript, a field ..: he by fun _ => rfl) -/
theorem pt_truth (ha : PE X a ta) (he : ∀ whole, isTrue a X.env whole = (do let v ← whole; standAt a.pos; holding [v] (truthy v))) :
    PT X a (fun σ H Q => ta σ H fun x H' => ∃ k, TruV X.K x H' k ∧ Q k H') := by
  intro pins s σ H Q I h
  exact isTrue_plain (thn (ha pins s σ H _ I h) fun v s1 ⟨x, H1, I1, r1, q1⟩ => tru_ok pins s1 σ H1 x v Q I1 r1 q1) (he _)
theorem vals1 {x : V} {us : List Value} (r : Vals [x] us) : ∃ u, us = [u] ∧ RelV x u := by
  cases r with
  | cons r1 r2 => cases r2; exact ⟨_, rfl, r1⟩
theorem vals2 {x y : V} {us : List Value} (r : Vals [x, y] us) : ∃ u w', us = [u, w'] ∧ RelV x u ∧ RelV y w' := by
  cases r with
  | cons r1 r2 =>
    cases r2 with
    | cons r3 r4 => cases r4; exact ⟨_, _, rfl, r1, r3⟩
theorem call_max2 (hc : X.calm = true) : CallR X (.builtin "max") (fun xs H Q => ∃ i j, xs = [.int i, .int j] ∧ Q (.int (if j > i then j else i)) H) := by
  intro pins s σ H xs us Q I r h
  obtain ⟨i, j, rfl, q⟩ := h
  obtain ⟨u, w', rfl, ⟨t, rfl⟩, ⟨t', rfl⟩⟩ := vals2 r
  refine max_two_ints (I.ok.hd hc) fun h' tk k => ⟨_, H, I.kept k, ?_, q⟩
  by_cases hj : j > i
  · rw [if_pos hj, if_pos hj]; exact ⟨_, rfl⟩
  · rw [if_neg hj, if_neg hj]; exact ⟨_, rfl⟩
end
end L2
namespace L2
open PySem PySem.Spec PyProof.Rows
theorem RelO.some_of {v : V} {o : Option Value} (r : RelO (some v) o) : ∃ u, o = some u ∧ RelV v u := by
  cases o with
  | none => exact (show False from r).elim
  | some u => exact ⟨u, rfl, r⟩
end L2
namespace L2
open PySem PySem.Spec PyProof.Rows
structure Room (k : Nat) (A : Around) : Prop where
  hd : A.handled = none
  dp : A.depth + 3 * k + 5 < recursionLimit
  un : A.units + 16 * k + 200 < cLine
theorem Room.mono {j k : Nat} {A : Around} (r : Room k A) (h : j ≤ k) : Room j A := ⟨r.hd, by have := r.dp; omega, by have := r.un; omega⟩
theorem Room.deeper {k : Nat} {A : Around} (r : Room (k + 1) A) (env : Env) : Room k (A.deeper env) :=
  ⟨r.hd, by have := r.dp; show A.depth + 1 + 3 * k + 5 < _; omega, by have := r.un; show A.units + 3 + 16 * k + 200 < _; omega⟩
theorem Room.depth {k : Nat} {A : Around} (r : Room k A) : A.depth < recursionLimit := by have := r.dp; omega
theorem Room.units {k : Nat} {A : Around} (r : Room k A) : A.units + 64 < cLine := by have := r.un; omega
theorem Room.units0 {k : Nat} {A : Around} (r : Room k A) : A.units < cLine := by have := r.un; omega
def tNil : TA := fun _ H Q => Q [] H
def tCons (ta : TE) (tr : TA) : TA := fun σ H Q => ta σ H fun x H1 => tr σ H1 fun xs H2 => Q (x :: xs) H2
section
variable {X : Cx} {e : Expr} {es : List Expr} {te : TE} {t : TA} {pos : Pos}
theorem pa_nil : PA X [] tNil := fun _ _ _ _ H Q I h => Calls.spliced_nil ⟨[], H, I, .nil, h⟩
theorem pa_cons (ha : PE X e te) (hr : PA X es t) (hs : starEach (e :: es) X.env = (false, eval e X.env) :: starEach es X.env := by rfl) : PA X (e :: es) (tCons te t) := by
  intro pos pins s σ H Q I h
  rw [hs]
  show wpAny _ _ (spliced ((false, eval e X.env) :: backTo pos (starEach es X.env))) _ _ s
  refine Calls.spliced_cons (thn (ha pins s σ H _ I h) fun u s1 ⟨x, H1, I1, r1, q1⟩ => ?_)
  exact thn (hr pos pins s1 σ H1 _ I1 q1) fun us s2 ⟨xs, H2, I2, r2, q2⟩ => ⟨x :: xs, H2, I2, .cons r1 r2, q2⟩
/-- a tuple, a list of written items -/
def tTup (t : TA) : TE := fun σ H Q => t σ H fun xs H1 => xs.length ≤ sizeLine ∧ ∀ p, H1 p = none → Q (.ref p) (upd H1 p (.tup xs))
def tLst (t : TA) : TE := fun σ H Q => t σ H fun xs H1 => xs.length ≤ sizeLine ∧ ∀ p, H1 p = none → Q (.ref p) (upd H1 p (.lst xs))
theorem pe_tup {x1} (h : PA X es t) : PE X (.Tuple es x1 pos) (tTup t) := by
  intro pins s σ H Q I hq
  refine wpAny_Tuple_spliced (thn (h pos pins s σ H _ I hq) fun us s1 ⟨xs, H1, I1, r, z, q⟩ => ⟨by rw [← r.length]; exact z, ?_⟩)
  have hf : H1 s1.heap.objs.size = none := I1.hok.fresh (Nat.le_refl _)
  refine ⟨.ref s1.heap.objs.size, upd H1 s1.heap.objs.size (.tup xs), I1.laid (t' := s1.toks) (fun b u e => Heap.get?_push_of_some _ e) (Nat.le_refl _) ?_, rfl, q _ hf⟩
  exact ⟨z, us, r, ⟨_, Heap.get?_push_size _ rfl, rfl, _, rfl⟩⟩
theorem pe_lst (h : PA X es t) : PE X (.List es pos) (tLst t) := by
  intro pins s σ H Q I hq
  refine wpAny_List_spliced (thn (h pos pins s σ H _ I hq) fun us s1 ⟨xs, H1, I1, r, z, q⟩ => ⟨by rw [← r.length]; exact z, ?_⟩)
  have hf : H1 s1.heap.objs.size = none := I1.hok.fresh (Nat.le_refl _)
  refine ⟨.ref s1.heap.objs.size, upd H1 s1.heap.objs.size (.lst xs), I1.laid (t' := s1.toks) (fun b u e => Heap.get?_push_of_some _ e) (Nat.le_refl _) ?_, rfl, q _ hf⟩
  exact ⟨z, us, 0, r, Heap.get?_push_size _ rfl⟩
end
/-- a def's promise: the bound arguments in the parameters' order, the heap, the wanted end, the wanted exception -/
abbrev Sp := List V → Hp → VK → XK → Prop
/-- how an exception lies behind a call (file 08 gives it): the callers' frames, abstract heap and state ahead of the call, the wish, the exception, the state -/
abbrev CXT := List Env → Hp → Shared → XK → Value → Shared → Prop
/-- the state at a call -/
structure Env0 (P : Program) (w : World) (K : PySem.W.Frag) (mg : Str → Option Value) (base : Heap) (A : Around) (outer : List Env) (s : Shared) (H : Hp) : Prop where
  frames : A.frames = some outer
  mod : Mod K mg base
  bs : ∀ b o, base.get? b = some o → s.heap.get? b = some o ∧ H b = none
  bsz : base.objs.size ≤ s.heap.objs.size
  funs : s.heap.FunFrames base outer
  frf : ∀ b ∈ frs outer, H b = none
  hok : HOk P w H s.heap
  bare : AllBare s.gens
/-- a call's end -/
def CE (outer : List Env) (P : Program) (w : World) (H : Hp) (s : Shared) (Q : VK) (u : Value) (s' : Shared) : Prop :=
  ∃ v H', s'.os = s.os ∧ AllBare s'.gens ∧ Un (frs outer) [] H H' s.heap s'.heap ∧ HOk P w H' s'.heap ∧ RelV v u ∧ Q v H'
def CR (CX : CXT) (outer : List Env) (P : Program) (w : World) (H : Hp) (s : Shared) (Q : VK) (E : XK) (r : Result) (s' : Shared) : Prop :=
  match r with
  | .ok (.ret u) => CE outer P w H s Q u s'
  | .ok _ => False
  | .error e => CX outer H s E e s'
structure FnOk (P : Program) (w : World) (K : PySem.W.Frag) (mg : Str → Option Value) (base : Heap) (CX : CXT) (k : Nat) (f : Addr) (fd : FuncData) (ps : List Str) (sp : Sp) : Prop where
  len : ∀ vs H Q E, sp vs H Q E → vs.length = ps.length
  run : ∀ (A : Around) (outer : List Env) (s : Shared) (H : Hp) (args : Args) (us : List Value) (vs : List V) (Q : VK) (E : XK), Room k A → Env0 P w K mg base A outer s H → BindsTo s fd args (ps.zip us) → Vals vs us → sp vs H Q E →
    codeAny (model P w) A (.call (.ref f) args) (CR CX outer P w H s Q E) s
section
variable {X : Cx} {pins : List (Addr × Obj)} {σ : St} {H : Hp} {s s' : Shared}
/-- from a body: what a callee wants -/
theorem Inv.env0 (I : Inv X pins σ H s) : Env0 X.prog X.w X.K X.mg X.base X.A X.stack s H :=
  ⟨I.ok.frames, I.ok.mod, I.bs, Nat.le_trans I.ok.bsz I.sz, I.stack, I.stkFree, I.hok, I.bare⟩
/-- behind a call -/
theorem Inv.after {Q : VK} {u : Value} (I : Inv X pins σ H s) (h : CE X.stack X.prog X.w H s Q u s') : EP X pins σ Q u s' := by
  obtain ⟨v, H', os, bare, un, hok, r, q⟩ := h
  obtain ⟨hh, g, d, t, os'⟩ := s'
  obtain rfl : os' = s.os := os
  exact ⟨v, H', I.call (h' := hh) (g' := g) (d' := d) (t' := t) (ch := []) un hok bare (fun b z => absurd z (by simp)), r, q⟩
end
/-- f(..): the written arguments, then the defaults dvs; E: what is wanted of an exception -/
def tCall (sp : Sp) (dvs : List V) (E : XK) (t : TA) : TE := fun σ H Q => t σ H fun vs H1 => sp (vs ++ dvs) H1 Q E
/-- how the parameters are bound: us the positional arguments, kw the keywords' values by name, ds the defaults that fill up -/
def Binds (K : PySem.W.Frag) (fd : FuncData) (ps : List Str) (ds : List Value) : Prop :=
  ∀ (s : Shared) (us : List Value), K.In s.heap → (us ++ ds).length = ps.length → BindsTo s fd ⟨us, []⟩ (ps.zip (us ++ ds))
/-- every parameter is given -/
theorem Binds.all {K : PySem.W.Frag} {fd : FuncData} {ps : List Str} (h : ∀ us : List Value, us.length = ps.length → bindArgs fd ⟨us, []⟩ = pure (ps.zip us)) : Binds K fd ps [] := fun s us _ hl => by
  rw [List.append_nil] at hl ⊢
  exact .of_eq (h us hl)
/-- an exception of a callee reaches what this body wants of exceptions -/
def Passes (CX : CXT) (X : Cx) (E : XK) : Prop := ∀ (pins : List (Addr × Obj)) (σ : St) (H : Hp) (s : Shared) (e : Value) (s' : Shared), Inv X pins σ H s → CX X.stack H s E e s' → X.xe e s'
section
variable {X : Cx} {CX : CXT} {k : Nat} {f C : Addr} {fd : FuncData} {ps : List Str} {sp : Sp} {dvs : List V} {ds : List Value} {E : XK} {x m : Str} {p pos apos : Pos} {e o : Expr} {es : List Expr} {ta : TE} {t : TA}
/-- the callee runs -/
theorem run_fn {pins : List (Addr × Obj)} {σ : St} {H : Hp} {s : Shared} {Q : VK} {us : List Value} {vs : List V} (F : FnOk X.prog X.w X.K X.mg X.base CX k f fd ps sp) (hr : Room k X.A) (hb : Binds X.K fd ps ds) (hd : Vals dvs ds) (hx : Passes CX X E)
    (I : Inv X pins σ H s) (r : Vals vs us) (h : sp (vs ++ dvs) H Q E) : wpAny (model X.prog X.w) X.A (call (.ref f) us) (EP X pins σ Q) X.xe s := by
  have r2 : Vals (vs ++ dvs) (us ++ ds) := r.append hd
  have hl : (us ++ ds).length = ps.length := by rw [← r2.length]; exact F.len _ _ _ _ h
  refine wpAny_call (codeAny_mono (F.run X.A X.stack s H ⟨us, []⟩ (us ++ ds) (vs ++ dvs) Q E hr I.env0 (hb s us I.kIn hl) r2 h) fun r s' hq => ?_)
  cases r with
  | error e => exact hx pins σ H s e s' I hq
  | ok fl =>
    cases fl with
    | ret u => exact I.after hq
    | next => exact False.elim hq
    | brk => exact False.elim hq
    | cont => exact False.elim hq
theorem pe_call (F : FnOk X.prog X.w X.K X.mg X.base CX k f fd ps sp) (hr : Room k X.A) (hg : Gl X x) (hm : X.mg x = some (.ref f)) (hk : PySem.W.keepIn X.K (.ref f) = true) (hb : Binds X.K fd ps ds) (hd : Vals dvs ds) (hx : Passes CX X E)
    (ha : PA X (e :: es) t) (hdb : (x == ("__debug__" : Str)) = false := by decide) (he : starEach (e :: es) X.env = (false, eval e X.env) :: starEach es X.env := by rfl) (hpl : (backTo pos (starEach es X.env)).any (·.1) = false := by rfl) :
    PE X (.Call (.Name x p) (e :: es) [] pos) (tCall sp dvs E t) := by
  intro pins s σ H Q I h
  refine wpAny_Call_Name_kw (ld_glob I hg hm ?_ hdb)
  refine PySem.W.callWith_K (h₀ := X.base) I.ok.mod.kin hk (thn (ha pos pins s σ H _ I h) fun us s1 ⟨vs, H1, I1, r, q⟩ => ⟨I1.kIn, ?_⟩) he hpl
  exact run_fn F hr hb hd hx I1 r q
end
/-- names: the parameters first -/
structure FnScope (N P : List Str) (sc : Scope) : Prop where
  kind : sc.kind = .function
  co : sc.isCoroutine = false
  gen : sc.isGenerator = false
  nd : N.Nodup
  pre : N.take P.length = P
  par : ∀ x ∈ P, sc.names.lookup x = some .local ∨ sc.names.lookup x = some .cell
  nofree : ∀ y ∈ sc.names, y.2 ≠ .free
theorem bindL_out {kindOf : Str → Option NameKind} {x : Str} : ∀ {binds : List (Str × Value)} {m : Str → Option Value}, (∀ v, (x, v) ∉ binds) → bindL kindOf binds m x = m x
  | [], _, _ => rfl
  | (n, v) :: r, m, h => by
    unfold bindL
    rw [bindL_out fun w hw => h w (List.mem_cons_of_mem _ hw)]
    split
    · have : x ≠ n := by rintro rfl; exact h v List.mem_cons_self
      simp [this]
    · rfl
theorem bindC_out {kindOf : Str → Option NameKind} {x : Str} : ∀ {binds : List (Str × Value)} {m : Str → Option Value}, (∀ v, (x, v) ∉ binds) → bindC kindOf binds m x = m x
  | [], _, _ => rfl
  | (n, v) :: r, m, h => by
    unfold bindC
    rw [bindC_out fun w hw => h w (List.mem_cons_of_mem _ hw)]
    split
    · rfl
    · have : x ≠ n := by rintro rfl; exact h v List.mem_cons_self
      simp [this]
theorem bindL_get {kindOf : Str → Option NameKind} {x : Str} {v : Value} : ∀ {P : List Str} {vs : List Value} {i : Nat} {m : Str → Option Value}, P.Nodup → P[i]? = some x → vs[i]? = some v → kindOf x = some .local →
    bindL kindOf (P.zip vs) m x = some v
  | [], _, _, _, _, h, _, _ => by simp at h
  | _ :: _, [], _, _, _, _, h, _ => by simp at h
  | p :: P, w :: vs, 0, m, nd, h1, h2, hk => by
    simp at h1 h2; subst h1; subst h2
    show bindL kindOf ((p, w) :: P.zip vs) m p = _
    unfold bindL
    rw [bindL_out fun v hv => (List.nodup_cons.mp nd).1 (List.of_mem_zip hv).1, if_pos hk]
    simp
  | p :: P, w :: vs, i + 1, m, nd, h1, h2, hk => by
    show bindL kindOf ((p, w) :: P.zip vs) m x = _
    unfold bindL
    exact bindL_get (i := i) (List.nodup_cons.mp nd).2 (by simpa using h1) (by simpa using h2) hk
theorem bindC_get {kindOf : Str → Option NameKind} {x : Str} {v : Value} : ∀ {P : List Str} {vs : List Value} {i : Nat} {m : Str → Option Value}, P.Nodup → P[i]? = some x → vs[i]? = some v → kindOf x ≠ some .local →
    bindC kindOf (P.zip vs) m x = some v
  | [], _, _, _, _, h, _, _ => by simp at h
  | _ :: _, [], _, _, _, _, h, _ => by simp at h
  | p :: P, w :: vs, 0, m, nd, h1, h2, hk => by
    simp at h1 h2; subst h1; subst h2
    show bindC kindOf ((p, w) :: P.zip vs) m p = _
    unfold bindC
    rw [bindC_out fun v hv => (List.nodup_cons.mp nd).1 (List.of_mem_zip hv).1, if_neg hk]
    simp
  | p :: P, w :: vs, i + 1, m, nd, h1, h2, hk => by
    show bindC kindOf ((p, w) :: P.zip vs) m x = _
    unfold bindC
    exact bindC_get (i := i) (List.nodup_cons.mp nd).2 (by simpa using h1) (by simpa using h2) hk
/-- the names' values at the entry -/
def start (N : List Str) (vs : List V) : St := vs.map some ++ List.replicate (N.length - vs.length) none
/-- the context of a def's body, at its entry; an exception leaves the frame, then lies as CX says -/
def cxOf (CX : CXT) (P : Program) (w : World) (K : PySem.W.Frag) (mg : Str → Option Value) (base : Heap) (N : List Str) (qual : Str) (scope : Scope) (f : Addr) (cd : Value) (A : Around) (outer : List Env) (s : Shared) (H : Hp) (E : XK) : Cx where
  prog := P
  w := w
  K := K
  mg := mg
  base := base
  A := A.deeper (envOfC qual scope s.heap.objs.size f cd)
  N := N
  s_0 := s
  H_0 := H
  env := envOfC qual scope s.heap.objs.size f cd
  outer := outer
  stack := envOfC qual scope s.heap.objs.size f cd :: outer
  ex := []
  calm := true
  fn := fun _ => true
  pn := []
  xe := fun e s' => wpAny (model P w) (A.deeper (envOfC qual scope s.heap.objs.size f cd)) (leaving (envOfC qual scope s.heap.objs.size f cd) e) (fun _ s'' => CX outer H s E e s'') (fun e' s'' => CX outer H s E e' s'') s'
theorem cell_has {sc : Scope} {n : Nat} {x : Str} (h : sc.names.lookup x = some .cell) : ∃ c, (cellsFrom n sc.names []).lookup x = some c := by
  have q := PySem.W.cellsFrom_some sc.names n [] (.inl h)
  exact Option.isSome_iff_exists.mp q
theorem inv_start {CX : CXT} {P : Program} {w : World} {K : PySem.W.Frag} {mg : Str → Option Value} {base : Heap} {N ps : List Str} {qual : Str} {scope : Scope} {f : Addr} {cd : Value} {A : Around} {outer : List Env} {s s1 : Shared} {H : Hp} {E : XK} {us : List Value} {vs : List V}
    (S : FnScope N ps scope) (hd : A.handled = none) (e0 : Env0 P w K mg base A outer s H) (hl : vs.length = ps.length) (r : Vals vs us)
    (x : InCallC s s.heap.objs.size (bindL (envOfC qual scope s.heap.objs.size f cd).kindOf (ps.zip us) fun _ => none) (cellsFrom (s.heap.objs.size + 1) scope.names []) (bindC (envOfC qual scope s.heap.objs.size f cd).kindOf (ps.zip us) fun _ => none) s1) :
    Inv (cxOf CX P w K mg base N qual scope f cd A outer s H E) [] (start N vs) H s1 := by
  have hpl : ps.length ≤ N.length := by have := congrArg List.length S.pre; rw [List.length_take] at this; omega
  obtain ⟨h1, tk, rfl, hk⟩ := x.done
  have noA : ∀ b : Addr, b ∉ (cxOf CX P w K mg base N qual scope f cd A outer s H E).ex := fun b z => absurd (show b ∈ ([] : List Addr) from z) (by simp)
  refine ⟨⟨e0.mod, S.kind, rfl, rfl, Nat.le_refl _, fun y z c h1 h2 => ?_, fun y hy => ?_, fun y c _ h => ?_, fun _ => hd, Around.frames_deeper e0.frames, .inr ⟨rfl, rfl⟩, fun b z => absurd z (noA b), e0.bs, e0.bsz, fun b _ _ => noA b, fun b z => absurd z (noA b), e0.funs, e0.frf⟩,
    rfl, e0.bare, Un.kept hk, ⟨_, x.toInCall.ns, fun i y v h1 h2 h3 => ?_⟩, fun y c h => ⟨_, x.cell y c h⟩, e0.hok.fresh (Nat.le_refl _), fun y c h => ?_, fun p hp => absurd (show p ∈ ([] : List (Addr × Obj)) from hp) (by simp), e0.hok.kept hk, ?_⟩
  · exact name_of_addr x.apart (PySem.mem_of_lookup h1) (PySem.mem_of_lookup h2)
  · have hy : scope.names.lookup y = some .cell ∨ scope.names.lookup y = some .free := hy
    rcases hy with hy | hy
    · exact cell_has hy
    · exact absurd rfl (S.nofree _ (PySem.mem_of_lookup hy))
  · exact Nat.le_of_lt (x.above y c (PySem.mem_of_lookup h))
  · have hi : i < vs.length := by
      unfold start at h2
      by_cases hi : i < vs.length
      · exact hi
      · rw [List.getElem?_append_right (by simpa using hi)] at h2
        rw [List.getElem?_replicate] at h2
        split at h2 <;> cases h2
    have ha : vs[i]? = some v := by
      unfold start at h2
      rw [List.getElem?_append_left (by simpa using hi), List.getElem?_map] at h2
      cases e : vs[i]? with
      | none => rw [e] at h2; cases h2
      | some a => rw [e] at h2; cases h2; rfl
    obtain ⟨u, hu, rv⟩ := r.get ha
    have hp : ps[i]? = some y := by
      rw [← S.pre, List.getElem?_take_of_lt (by omega)]; exact h1
    have ndP : ps.Nodup := by rw [← S.pre]; exact S.nd.sublist (List.take_sublist _ _)
    refine ⟨u, rv, ?_⟩
    rcases S.par y (List.mem_of_getElem? hp) with k | k
    · exact .inl ⟨k, bindL_get ndP hp hu k⟩
    · obtain ⟨c, e⟩ := cell_has (n := s.heap.objs.size + 1) k
      refine .inr ⟨.inl k, c, e, ?_⟩
      have q := x.cell y c e
      rw [bindC_get ndP hp hu (by show scope.names.lookup y ≠ _; rw [k]; decide)] at q
      exact q
  · exact e0.hok.fresh (Nat.le_of_lt (x.above y c (PySem.mem_of_lookup h)))
  · unfold start
    show _ = N.length
    rw [List.length_append, List.length_map, List.length_replicate]
    omega
/-- THE RULE: a def (or a method) of the text, by its body. The body's reading t is chosen for each entry; it is run at the parameters' values -/
theorem fn_of {CX : CXT} {P : Program} {w : World} {K : PySem.W.Frag} {mg : Str → Option Value} {base : Heap} {k : Nat} {f : Addr} {name qual : Str} {params : Arguments} {body : List Stmt} {scope : Scope} {dV kV doc pm cdv ct oc : Value} {an od : Option Addr}
    {osl : Array (Option Value)} {N ps : List Str} {sp : Sp} (lk : K.lookup f = some ⟨oc, od, .func (PySem.W.fnOf name qual params body scope dV kV doc pm an cdv ct), osl⟩) (hcd : PySem.W.codeIn K cdv qual = true) (S : FnScope N ps scope)
    (len : ∀ vs H Q E, sp vs H Q E → vs.length = ps.length)
    (hbody : ∀ (A : Around) (outer : List Env) (s : Shared) (H : Hp) (vs : List V) (Q : VK) (E : XK), Room k (A.deeper (envOfC qual scope s.heap.objs.size f cdv)) → sp vs H Q E →
      ∃ t, PSs (cxOf CX P w K mg base N qual scope f cdv A outer s H E) body t ∧ t { nx := fun _ H' => Q .non H', rt := Q } (start N vs) H) :
    FnOk P w K mg base CX (k + 1) f (PySem.W.fnOf name qual params body scope dV kV doc pm an cdv ct) ps sp := by
  refine ⟨len, fun A outer s H args us vs Q E hr e0 hb r hsp => ?_⟩
  have hl := len _ _ _ _ hsp
  have KX : K.In s.heap := e0.mod.kin.keeps fun b o e => (e0.bs b o e).1
  have lim : s.heap.NoLimit := e0.mod.nolimit.keeps fun b o e => (e0.bs b o e).1
  have hkind : ∀ y ∈ ps.zip us, scope.names.lookup y.1 = some .local ∨ (scope.names.lookup y.1 = some .cell ∧ ((cellsFrom (s.heap.objs.size + 1) scope.names []).lookup y.1).isSome = true) := fun ⟨n, v⟩ hy => by
    rcases S.par n (List.of_mem_zip hy).1 with q | q
    · exact .inl q
    · exact .inr ⟨q, PySem.W.cellsFrom_some _ _ _ (.inl q)⟩
  refine codeAny_call_function hr.depth (KX _ _ lk) rfl S.co S.gen rfl (PySem.W.codeRec_of KX hcd) (hb _ _ _ _ ?_)
  refine wpAny_newFunctionEnv_cells S.kind hkind fun env he s1 x => ?_
  subst he
  refine ⟨lim.keeps x.toInCall.keep, codeAny_func ?_⟩
  obtain ⟨t, ht, hq⟩ := hbody A outer s H vs Q E (hr.deeper _) hsp
  have I : Inv (cxOf CX P w K mg base N qual scope f cdv A outer s H E) [] (start N vs) H s1 := inv_start S hr.hd e0 hl r x
  refine wpAny_mono (ht [] s1 (start N vs) H _ I hq) (fun fl s' hs => ?_) fun e s' hs => hs
  have fin : ∀ {σ' : St} {H' : Hp} {v : V} {u : Value}, Inv (cxOf CX P w K mg base N qual scope f cdv A outer s H E) [] σ' H' s' → RelV v u → Q v H' → CE outer P w H s Q u s' :=
    fun {σ' H' v u} J rv q => ⟨v, H', J.os, J.bare, J.base, J.hok, rv, q⟩
  cases fl with
  | ret u =>
    obtain ⟨v, σ', H', J, rv, q⟩ := hs
    exact fin J rv q
  | next =>
    obtain ⟨σ', H', J, q⟩ := hs
    exact fin (v := V.non) (u := Value.none) J rfl q
  | brk =>
    obtain ⟨_, _, _, q⟩ := hs
    exact False.elim q
  | cont =>
    obtain ⟨_, _, _, q⟩ := hs
    exact False.elim q
end L2
namespace L2
open PySem PySem.Spec PyProof.Rows
section
variable {X : Cx} {x : Str} {p pos : Pos} {e : Expr} {es : List Expr} {t : TA} {id T : String} {r : List V → Hp → VK → Prop}
def tCB (r : List V → Hp → VK → Prop) (t : TA) : TE := fun σ H Q => t σ H fun vs H1 => r vs H1 Q
/-- f(e, ..), f a built-in function -/
theorem pe_callB (hc : CallR X (.builtin id) r) (hg : Gl X x) (hm : X.mg x = none) (hv : bootBuiltins x = some (.builtin id)) (ha : PA X (e :: es) t) (hn : x ≠ "__name__" := by decide) (hdb : (x == ("__debug__" : Str)) = false := by decide)
    (he : starEach (e :: es) X.env = (false, eval e X.env) :: starEach es X.env := by rfl) (hpl : (backTo pos (starEach es X.env)).any (·.1) = false := by rfl) : PE X (.Call (.Name x p) (e :: es) [] pos) (tCB r t) := by
  intro pins s σ H Q I h
  refine wpAny_Call_Name_kw (ld_blt I hg hm hv ?_ hn hdb)
  exact PyProof.Rows.callWith_builtin1 (thn (ha pos pins s σ H _ I h) fun us s1 ⟨vs, H1, I1, r1, q1⟩ => hc pins s1 σ H1 vs us Q I1 r1 q1) he hpl
/-- T(e, ..), T a built-in type -/
theorem pe_callTy (hc : CallR X (.type T) r) (hg : Gl X x) (hm : X.mg x = none) (hv : bootBuiltins x = some (.type T)) (ha : PA X (e :: es) t) (hn : x ≠ "__name__" := by decide) (hdb : (x == ("__debug__" : Str)) = false := by decide)
    (he : starEach (e :: es) X.env = (false, eval e X.env) :: starEach es X.env := by rfl) (hpl : (backTo pos (starEach es X.env)).any (·.1) = false := by rfl) : PE X (.Call (.Name x p) (e :: es) [] pos) (tCB r t) := by
  intro pins s σ H Q I h
  refine wpAny_Call_Name_kw (ld_blt I hg hm hv ?_ hn hdb)
  exact PyProof.Rows.callWith_type1 (thn (ha pos pins s σ H _ I h) fun us s1 ⟨vs, H1, I1, r1, q1⟩ => hc pins s1 σ H1 vs us Q I1 r1 q1) he hpl
end
end L2
namespace HT
open PySem PyProof.Rows
/-- t < u of tuples of ints -/
def lexLt : List Int → List Int → Bool
  | [], [] => false
  | [], _ :: _ => true
  | _ :: _, [] => false
  | x :: xs, y :: ys => if x = y then lexLt xs ys else decide (x < y)
theorem lexLt_cons (x y : Int) (xs ys : List Int) : lexLt (x :: xs) (y :: ys) = if x = y then lexLt xs ys else decide (x < y) := rfl
theorem lexLt_nil_nil : lexLt [] [] = false := rfl
theorem eqAt_int (A : Around) (s : Shared) (a : Int) (t : Tok) (c : Int) (u : Tok) : ∃ e, SeqAt.EqAt A s (.int a t) (.int c u) e ∧ (e = true ↔ a = c) :=
  ⟨(a == c), SeqAt.EqAt.int_int a t c u, by simp⟩
theorem rcLt_int (A : Around) (s : Shared) (a : Int) (t : Tok) (c : Int) (u : Tok) (prog : Program) (w : World) (E : Value → Shared → Prop) (Q : Value → Shared → Prop) (h : Q (.bool (decide (a < c))) s) :
    wpAny (model prog w) A (richCompare .Lt (.int a t) (.int c u)) Q E s :=
  (PyProof.Rows.lt_int h : wpAny (model prog w) A (compareOp .Lt (.int a t) (.int c u)) Q E s)
section
variable {prog : Program} {w : World} {A : Around} {E : Value → Shared → Prop} {s : Shared}
/-- a slice's bound as a place among n (d where it is left out) -/
def sIx (n d : Nat) : Option Int → Nat
  | none => d
  | some v => if v < 0 then (v + (n : Int)).toNat else min v.toNat n
theorem sIx_none (n d : Nat) : sIx n d none = d := rfl
theorem sIx_nat (n d k : Nat) : sIx n d (some (k : Int)) = min k n := by
  show (if (k : Int) < 0 then ((k : Int) + (n : Int)).toNat else min (k : Int).toNat n) = min k n
  rw [if_neg (by omega), Int.toNat_natCast]
end
end HT
namespace L2
open PySem PySem.Spec PyProof.Rows
abbrev TO := St → Hp → (Option Int → Hp → Prop) → Prop
/-- a slice's part (left out, or an int) -/
def PO (X : Cx) (e : Option Expr) (t : TO) : Prop :=
  ∀ (pins : List (Addr × Obj)) (s : Shared) (σ : St) (H : Hp) (Q : Option Int → Hp → Prop), Inv X pins σ H s → t σ H Q →
    wpAny (model X.prog X.w) X.A (evalPart e X.env) (fun u s' => ∃ o H', Inv X pins σ H' s' ∧ IsPart u o ∧ Q o H') X.xe s
def tNoPart : TO := fun _ H Q => Q none H
def tPart (t : TE) : TO := fun σ H Q => t σ H fun x H1 => ∃ i, x = .int i ∧ Q (some i) H1
theorem intsAre_of {ns : List Int} : ∀ {us : List Value}, Vals (ns.map V.int) us → IntsAre us ns := by
  induction ns with
  | nil => intro us r; rw [List.map_nil] at r; cases r; exact .nil
  | cons n ns ih =>
    intro us r
    rw [List.map_cons] at r
    cases r with
    | cons r1 r2 =>
      obtain ⟨t, e⟩ := r1
      subst e
      exact .cons n t (ih r2)
section
variable {X : Cx} {e : Expr} {te : TE} {lo hi : Option Expr} {tl th : TO} {pos p2 : Pos}
theorem po_none : PO X none tNoPart := by
  intro pins s σ H Q I h
  rw [evalPart_none]
  exact wpAny_pure ⟨none, H, I, .none, h⟩
theorem po_some (h : PE X e te) : PO X (some e) (tPart te) := by
  intro pins s σ H Q I hw
  rw [evalPart_some]
  refine thn (h pins s σ H _ I hw) fun u s1 ⟨x, H1, I1, r1, q1⟩ => ?_
  obtain ⟨i, rfl, q⟩ := q1
  obtain ⟨t, rfl⟩ := r1
  exact ⟨some i, H1, I1, .int i t, q⟩
/-- what a slice of a value is, by values: the slice object stands at sl -/
def SlR (X : Cx) (r : V → Option Int → Option Int → Hp → VK → Prop) : Prop :=
  ∀ (pins : List (Addr × Obj)) (s : Shared) (σ : St) (H : Hp) (x : V) (v vl vu : Value) (lo hi : Option Int) (sl : Addr) (Q : VK), Inv X pins σ H s → RelV x v → s.heap.IsSliceOf sl vl vu .none → IsPart vl lo → IsPart vu hi → r x lo hi H Q →
    ∃ T id, typeLookup (.type T) "__getitem__" = pure (some (.builtin id)) ∧ s.TypeIs v T ∧ wpAny (model X.prog X.w) X.A (getItem v (.ref sl)) (EP X pins σ Q) X.xe s
def tSl (r : V → Option Int → Option Int → Hp → VK → Prop) (te : TE) (tl th : TO) : TE := fun σ H Q => te σ H fun x H1 => tl σ H1 fun l H2 => th σ H2 fun u H3 => r x l u H3 Q
/-- a[lo:hi], any a -/
theorem pe_slice {r : V → Option Int → Option Int → Hp → VK → Prop} (hr : SlR X r) (he : PE X e te) (hl : PO X lo tl) (hu : PO X hi th) : PE X (.Subscript e (.Slice lo hi none p2) pos) (tSl r te tl th) := by
  intro pins s σ H Q I h
  refine Subscript_ (thn (he pins s σ H _ I h) fun v s1 ⟨x, H1, I1, r1, q1⟩ => ?_)
  refine wpAny_Slice (thn (hl pins s1 σ H1 _ I1 q1) fun vl s2 ⟨l, H2, I2, pl, q2⟩ => thn (hu pins s2 σ H2 _ I2 q2) fun vu s3 ⟨u, H3, I3, pu, q3⟩ => ?_)
  rw [evalPart_none]
  refine wpAny_pure ?_
  have I4 : Inv X pins σ H3 { s3 with heap := s3.heap.push { cls := .type "slice", data := .fields #[vl, vu, .none] } } := I3.kept (t' := s3.toks) fun b ob q => Heap.get?_push_of_some _ q
  obtain ⟨T, id, hT, ht, hg⟩ := hr pins { s3 with heap := s3.heap.push { cls := .type "slice", data := .fields #[vl, vu, .none] } } σ H3 x v vl vu l u s3.heap.objs.size Q I4 r1 (Heap.IsSliceOf.new ..) pl pu q3
  show wpAny (model X.prog X.w) X.A (subscriptTail e (.Slice lo hi none p2) v (.ref s3.heap.objs.size)) (EP X pins σ Q) X.xe { s3 with heap := s3.heap.push { cls := .type "slice", data := .fields #[vl, vu, .none] } }
  exact tail_any (ops := [.ref s3.heap.objs.size, v]) ht hT hg (by with_unfolding_all rfl)
/-- the items of xs[lo:hi] -/
def cutV (xs : List V) (lo hi : Option Int) : List V := (xs.drop (HT.sIx xs.length 0 lo)).take (HT.sIx xs.length xs.length hi - HT.sIx xs.length 0 lo)
theorem cutV_length (xs : List V) (lo hi : Option Int) : (cutV xs lo hi).length ≤ xs.length := by
  unfold cutV
  rw [List.length_take, List.length_drop]
  omega
end
end L2
namespace L2
open PySem PySem.Spec PyProof.Rows
/-- the place that an index of any sign means -/
def ixN (n : Nat) (i : Int) : Option Nat := if 0 ≤ i then (if i < n then some i.toNat else none) else if -(n : Int) ≤ i then some (i + n).toNat else none
def atI {α : Type} (xs : List α) (i : Int) : Option α := (ixN xs.length i).bind fun j => xs[j]?
theorem ixN_seq {n : Nat} {i : Int} {j : Nat} (h : ixN n i = some j) : seqIndex? i n = some j ∧ j < n ∧ -(n : Int) ≤ i ∧ i < n := by
  unfold ixN at h
  by_cases h0 : 0 ≤ i
  · rw [if_pos h0] at h
    by_cases h1 : i < n
    · rw [if_pos h1] at h
      have e : i.toNat = j := Option.some.inj h
      exact ⟨by rw [seqIndex_of h0 h1, e], by omega, by omega, h1⟩
    · rw [if_neg h1] at h; cases h
  · rw [if_neg h0] at h
    by_cases h1 : -(n : Int) ≤ i
    · rw [if_pos h1] at h
      have e : (i + n).toNat = j := Option.some.inj h
      exact ⟨by rw [seqIndex_neg (by omega) h1, e], by omega, h1, by omega⟩
    · rw [if_neg h1] at h; cases h
theorem atI_get {α : Type} {xs : List α} {i : Int} {v : α} (h : atI xs i = some v) : ∃ j, seqIndex? i xs.length = some j ∧ xs[j]? = some v ∧ j < xs.length ∧ -(xs.length : Int) ≤ i ∧ i < xs.length := by
  unfold atI at h
  cases e : ixN xs.length i with
  | none => rw [e] at h; cases h
  | some j =>
    rw [e] at h
    obtain ⟨h1, h2, h3, h4⟩ := ixN_seq e
    exact ⟨j, h1, h, h2, h3, h4⟩
theorem atI_nat {α : Type} {xs : List α} {j : Nat} {v : α} (h : xs[j]? = some v) : atI xs (j : Int) = some v := by
  have hj : j < xs.length := (List.getElem?_eq_some_iff.mp h).1
  have e : ixN xs.length (j : Int) = some j := by
    unfold ixN
    rw [if_pos (by omega), if_pos (by omega)]; simp
  unfold atI; rw [e]; exact h
/-- what stands as an index of a plain subscript -/
def PlainIx (b : Expr) : Prop := ∀ o i, subscripted b false o i = operate [o, i] (getItem o i)
/-- a subscript by values -/
def IxR (X : Cx) (r : R2) : Prop :=
  ∀ (value slice : Expr) (pins : List (Addr × Obj)) (s : Shared) (σ : St) (H : Hp) (x y : V) (v u : Value) (Q : VK), Inv X pins σ H s → RelV x v → RelV y u → r x y H Q →
    subscripted slice false v u = operate [v, u] (getItem v u) → wpAny (model X.prog X.w) X.A (subscriptTail value slice v u) (EP X pins σ Q) X.xe s
/-- a call of a builtin's method by values: the receiver, the arguments -/
def MtR (X : Cx) (id : String) (r : V → List V → Hp → VK → Prop) : Prop :=
  ∀ (pins : List (Addr × Obj)) (s : Shared) (σ : St) (H : Hp) (x : V) (xs : List V) (v : Value) (us : List Value) (Q : VK), Inv X pins σ H s → RelV x v → Vals xs us → r x xs H Q →
    wpAny (model X.prog X.w) X.A (call (.builtin id) (v :: us)) (EP X pins σ Q) X.xe s
section
variable {X : Cx} {a b : Expr} {ta tb : TE} {pos : Pos}
/-- a[b] -/
theorem pe_ix {r : R2} (hr : IxR X r) (ha : PE X a ta) (hb : PE X b tb) (hs : PlainIx b) : PE X (.Subscript a b pos) (tOp r ta tb) := by
  intro pins s σ H Q I h
  exact Subscript_ (binT ha hb I h fun v u s2 x y H2 I2 rx ry q => hr a b pins s2 σ H2 x y v u Q I2 rx ry q (hs _ _))
def rIxL (K : PySem.W.Frag) : R2 := fun x y H Q => ∃ p xs i v, x = .ref p ∧ y = .int i ∧ SqL K H p xs ∧ atI xs i = some v ∧ Q v H
def rIxT (K : PySem.W.Frag) : R2 := fun x y H Q => ∃ p xs i v, x = .ref p ∧ y = .int i ∧ SqT K H p xs ∧ atI xs i = some v ∧ Q v H
theorem ix_list : IxR X (rIxL X.K) := by
  intro value slice pins s σ H x y v u Q I rx ry h hs
  obtain ⟨p, xs, i, z, rfl, rfl, hq, he, q⟩ := h
  cases rx
  obtain ⟨t, rfl⟩ := ry
  obtain ⟨its, r, pl, hz⟩ := I.list hq
  obtain ⟨j, h1, h2, h3, h4, h5⟩ := atI_get he
  obtain ⟨w, ew, rw'⟩ := r.get h2
  have hl := r.length
  have hn := line63
  have fin : EP X pins σ Q w s := ⟨z, H, I, rw', q⟩
  by_cases h0 : 0 ≤ i
  · have hj : i.toNat = j := by
      rw [seqIndex_of h0 h5] at h1
      exact Option.some.inj h1
    exact item_listR pl.isList h0 (by omega) (by rw [hj]; simpa using ew) fin hs
  · have hj : (i + (its.toArray.size : Int)).toNat = j := by
      rw [seqIndex_neg (by omega) h4] at h1
      rw [List.size_toArray, ← hl]
      exact Option.some.inj h1
    exact subscriptTail_builtinR (x := w) pl.isList.typeIs slot_list_getitem.lookup
      (wpAny_getItem_list_neg (Q := fun r s' => r = w ∧ EP X pins σ Q r s') pl.isList (by omega) (by rw [List.size_toArray] <;> omega) (by omega) (by rw [hj]; simpa using ew) ⟨rfl, fin⟩) hs
theorem ix_tup : IxR X (rIxT X.K) := by
  intro value slice pins s σ H x y v u Q I rx ry h hs
  obtain ⟨p, xs, i, z, rfl, rfl, hq, he, q⟩ := h
  cases rx
  obtain ⟨t, rfl⟩ := ry
  obtain ⟨its, r, pl, hz⟩ := I.tuple hq
  obtain ⟨j, h1, h2, h3, h4, h5⟩ := atI_get he
  obtain ⟨w, ew, rw'⟩ := r.get h2
  have hl := r.length
  have hn := line63
  have fin : EP X pins σ Q w s := ⟨z, H, I, rw', q⟩
  exact subscriptTail_builtinR (x := w) pl.typeIs slot_tuple_getitem.lookup
    (getItem_tuple (j := j) (Q := fun r s' => r = w ∧ EP X pins σ Q r s') pl (by omega) (by omega) (by rw [List.size_toArray, ← hl]; exact h1) (by simpa using ew) ⟨rfl, fin⟩) hs
/-- the list's object behind a store -/
theorem mapSeq_set (its : List Value) (n j : Nat) (u : Value) : Obj.mapSeq (·.setIfInBounds j u) { cls := .type "list", data := .seq its.toArray n } = { cls := .type "list", data := .seq (its.set j u).toArray n } := by
  simp [Obj.mapSeq]
theorem Inv.lst {pins : List (Addr × Obj)} {σ : St} {H : Hp} {s : Shared} {p : Addr} {xs : List V} (I : Inv X pins σ H s) (h : H p = some (.lst xs)) :
    ∃ (its : List Value) (n : Nat), Vals xs its ∧ s.heap.get? p = some { cls := .type "list", data := .seq its.toArray n } ∧ xs.length ≤ sizeLine := by
  obtain ⟨z, its, n, r, e⟩ := I.hok p _ h
  exact ⟨its, n, r, e, z⟩
/-- the list at p is written by an update of its object -/
theorem Inv.lstUpd {pins : List (Addr × Obj)} {σ : St} {H : Hp} {s : Shared} {p : Addr} {xs ys : List V} {its its' : List Value} {n n' : Nat} {f : Obj → Obj} (I : Inv X pins σ H s) (h : H p = some (.lst xs))
    (ho : s.heap.get? p = some { cls := .type "list", data := .seq its.toArray n }) (hf : f { cls := .type "list", data := .seq its.toArray n } = { cls := .type "list", data := .seq its'.toArray n' }) (r : Vals ys its') (hz : ys.length ≤ sizeLine) (t : Nat) :
    Inv X pins σ (upd H p (.lst ys)) { s with heap := s.heap.update p f, toks := t } := by
  have e : (s.heap.update p f).get? p = some { cls := .type "list", data := .seq its'.toArray n' } := by
    rw [Heap.get?_update_self f ho (by rw [hf] <;> rfl), hf]
  refine I.write (x := p) (e := p) (by rw [h]; trivial) (.inl rfl) (fun b u hb q => (Heap.get?_update_other _ _ (Ne.symm hb)).trans q) ⟨_, e⟩ ?_
  exact ⟨hz, its', n', r, e⟩
def rSetL : V → V → V → Hp → (Hp → Prop) → Prop := fun o i v H Q => ∃ p xs k j, o = .ref p ∧ i = .int k ∧ H p = some (.lst xs) ∧ ixN xs.length k = some j ∧ Q (upd H p (.lst (xs.set j v)))
theorem set_list : PSet X rSetL := by
  intro pins s σ H o i v ov iv u Q I ro ri rv h
  obtain ⟨p, xs, k, j, rfl, rfl, hp, hj, q⟩ := h
  cases ro
  obtain ⟨t, rfl⟩ := ri
  obtain ⟨its, n, r, ho, hz⟩ := I.lst hp
  obtain ⟨h1, h2, h3, h4⟩ := ixN_seq hj
  have hl := r.length
  have hn := line63
  have I' : Inv X pins σ (upd H p (.lst (xs.set j v))) { s with heap := s.heap.update p (Obj.mapSeq (·.setIfInBounds j u)) } :=
    I.lstUpd hp ho (mapSeq_set its n j u) (r.set rv j) (by rw [List.length_set]; exact hz) s.toks
  by_cases h0 : 0 ≤ k
  · have hk : k.toNat = j := by
      rw [seqIndex_of h0 h4] at h1
      exact Option.some.inj h1
    exact PySem.W.ki_setAt ho h0 (by omega) (by rw [List.size_toArray, ← hl]; exact h4) (by rw [hk]; exact ⟨_, I', q⟩)
  · have hk : (k + (its.toArray.size : Int)).toNat = j := by
      rw [seqIndex_neg (by omega) h3] at h1
      rw [List.size_toArray, ← hl]
      exact Option.some.inj h1
    exact PySem.W.ki_setBack ho (by omega) (by rw [List.size_toArray, ← hl]; exact h3) (by omega) (by rw [hk]; exact ⟨_, I', q⟩)
theorem slice_bounds (lo hi : Option Int) (n : Nat) : (sliceBounds lo hi none n).1 = ((HT.sIx n 0 lo : Nat) : Int) ∧ (sliceBounds lo hi none n).2.1 = ((HT.sIx n n hi : Nat) : Int) ∧ (sliceBounds lo hi none n).2.2 = 1 := by
  refine ⟨?_, ?_, rfl⟩
  · cases lo with
    | none => simp [sliceBounds, HT.sIx]
    | some i =>
      simp only [sliceBounds, HT.sIx, Option.getD_none, show (1 : Int) > 0 by decide, if_true]
      by_cases h : i < 0
      · simp only [h, if_true] <;> omega
      · simp only [h, if_false] <;> omega
  · cases hi with
    | none => simp [sliceBounds, HT.sIx]
    | some i =>
      simp only [sliceBounds, HT.sIx, Option.getD_none, show (1 : Int) > 0 by decide, if_true]
      by_cases h : i < 0
      · simp only [h, if_true] <;> omega
      · simp only [h, if_false] <;> omega
theorem slicePick_cut (its : List Value) (lo hi : Option Int) : slicePick its.toArray lo hi none = ((its.drop (HT.sIx its.length 0 lo)).take (HT.sIx its.length its.length hi - HT.sIx its.length 0 lo)).toArray := by
  obtain ⟨h1, h2, h3⟩ := slice_bounds lo hi its.toArray.size
  unfold slicePick
  rw [h1, h2, h3]
  simp only [sliceRange_one, pick_run, List.size_toArray] <;> rfl
/-- xs[lo:hi] of a list: a new list -/
def rSlL (K : PySem.W.Frag) : V → Option Int → Option Int → Hp → VK → Prop := fun x lo hi H Q => ∃ a xs, x = .ref a ∧ SqL K H a xs ∧ ∀ p, H p = none → Q (.ref p) (upd H p (.lst (cutV xs lo hi)))
theorem sl_list : SlR X (rSlL X.K) := by
  intro pins s σ H x v vl vu lo hi sl Q I rx hs pl pu h
  obtain ⟨a, xs, rfl, hx, q⟩ := h
  cases rx
  obtain ⟨its, r, ht, hz⟩ := I.list hx
  have hlen := r.length
  refine ⟨"list", _, slot_list_getitem.lookup, ht.isList.typeIs, ?_⟩
  refine wpAny_getItem_list_slice ht.isList hs pl pu .none (by simp) ?_ (by rw [List.size_toArray] <;> omega)
  rw [slicePick_cut, ← hlen]
  refine ⟨.ref s.heap.objs.size, _, I.laid (t' := s.toks) (o := .lst (cutV xs lo hi)) (fun b ob q => Heap.get?_push_of_some _ q) (Nat.le_refl _) ?_, rfl, q _ (I.hok.fresh (Nat.le_refl _))⟩
  exact ⟨Nat.le_trans (cutV_length xs lo hi) hz, _, 0, (r.drop (HT.sIx xs.length 0 lo)).take (HT.sIx xs.length xs.length hi - HT.sIx xs.length 0 lo), Heap.get?_push_size _ rfl⟩
theorem call_len_seq : CallR X (.builtin "len") (fun xs H Q => ∃ p ys, xs = [.ref p] ∧ (SqL X.K H p ys ∨ SqT X.K H p ys) ∧ Q (.int ys.length) H) := by
  intro pins s σ H xs us Q I r h
  obtain ⟨p, ys, rfl, hq, q⟩ := h
  obtain ⟨u, rfl, rx⟩ := vals1 r
  cases rx
  have hn := line63
  rcases hq with hq | hq
  · obtain ⟨its, r', pl, hz⟩ := I.list hq
    have hlen := r'.length
    exact Calls.call_len_list pl.isList (by simp only [List.size_toArray] <;> omega) ⟨.int ys.length, H, I.tok _, ⟨s.toks + 1, by rw [List.size_toArray, hlen]⟩, q⟩
  · obtain ⟨its, r', pl, hz⟩ := I.tuple hq
    have hlen := r'.length
    exact len_tuple pl (by simp only [List.size_toArray] <;> omega) ⟨.int ys.length, H, I.tok _, ⟨s.toks + 1, by rw [List.size_toArray, hlen]⟩, q⟩
theorem call_list_of : CallR X (.type "list") (fun xs H Q => ∃ p ys, xs = [.ref p] ∧ (SqL X.K H p ys ∨ SqT X.K H p ys) ∧ ∀ l, H l = none → Q (.ref l) (upd H l (.lst ys))) := by
  intro pins s σ H xs us Q I r h
  obtain ⟨p, ys, rfl, hq, q⟩ := h
  obtain ⟨u, rfl, rx⟩ := vals1 r
  cases rx
  have fin : ∀ (its : List Value), Vals ys its → ys.length ≤ sizeLine → ∀ (h' : Heap) (c' : Nat), (∀ b o', s.heap.get? b = some o' → h'.get? b = some o') →
      h'.get? s.heap.objs.size = some { cls := .type "list", dict := none, data := .seq its.toArray c', slots := #[] } → EP X pins σ Q (.ref s.heap.objs.size) { s with heap := h' } := fun its r' hz h' c' kp e =>
    ⟨.ref s.heap.objs.size, _, I.laid (t' := s.toks) kp (Nat.le_refl _) (show ObjOk X.prog X.w _ h' _ (.lst ys) from ⟨hz, its, c', r', e⟩), rfl, q _ (I.hok.fresh (Nat.le_refl _))⟩
  rcases hq with hq | hq
  · obtain ⟨its, r', pl, hz⟩ := I.list hq
    have hlen := r'.length
    obtain ⟨o, ho, hc, n, hd⟩ := pl.isList
    exact call_list_seq p (.inl rfl) ho hc hd (fun h' c' kp e => fin its r' hz h' c' kp e) (by simp only [List.size_toArray] <;> omega)
  · obtain ⟨its, r', pl, hz⟩ := I.tuple hq
    have hlen := r'.length
    obtain ⟨o, ho, hc, n, hd⟩ := pl
    exact call_list_seq p (.inr rfl) ho hc hd (fun h' c' kp e => fin its r' hz h' c' kp e) (by simp only [List.size_toArray] <;> omega)
theorem call_tuple_of : CallR X (.type "tuple") (fun xs H Q => ∃ p ys, xs = [.ref p] ∧ ((SqL X.K H p ys ∧ ∀ l, H l = none → Q (.ref l) (upd H l (.tup ys))) ∨ (SqT X.K H p ys ∧ Q (.ref p) H))) := by
  intro pins s σ H xs us Q I r h
  obtain ⟨p, ys, rfl, h⟩ := h
  obtain ⟨u, rfl, rx⟩ := vals1 r
  cases rx
  rcases h with ⟨hq, q⟩ | ⟨hq, q⟩
  · obtain ⟨its, r', pl, hz⟩ := I.list hq
    have hlen := r'.length
    refine call_tuple_list pl.isList (fun h' kp => ?_) (by simp only [List.size_toArray] <;> omega)
    have I1 : Inv X pins σ H { s with heap := h' } := I.kept (t' := s.toks) kp
    have I2 : Inv X pins σ (upd H h'.objs.size (.tup ys)) { s with heap := h'.push { cls := .type "tuple", data := .seq its.toArray } } :=
      I1.laid (t' := s.toks) (fun b o e => Heap.get?_push_of_some _ e) (Nat.le_refl _) (show ObjOk X.prog X.w _ _ _ (.tup ys) from ⟨hz, its, r', IsTup.new _ _⟩)
    exact ⟨.ref h'.objs.size, _, I2, rfl, q _ (I1.hok.fresh (Nat.le_refl _))⟩
  · obtain ⟨its, r', pl, hz⟩ := I.tuple hq
    exact call_tuple_same pl ⟨.ref p, H, I, rfl, q⟩
/-- the value is of that builtin type -/
def tyV (K : PySem.W.Frag) (T : String) (x : V) (H : Hp) : Prop := match x with
  | .str _ => T = "str"
  | .int _ => T = "int"
  | .ref p => (T = "list" ∧ ∃ xs, SqL K H p xs) ∨ (T = "tuple" ∧ ∃ o, K.lookup p = some o ∧ o.cls = .type "tuple" ∧ o.dict = none) ∨
      (T = "dict" ∧ ((∃ kvs, H p = some (.dK kvs)) ∨ ∃ kvs, H p = some (.dT kvs))) ∨ (T = "set" ∧ ∃ S n, H p = some (.set S n))
  | _ => False
theorem tyV_is {pins : List (Addr × Obj)} {σ : St} {H : Hp} {s : Shared} {T : String} {x : V} {v : Value} (I : Inv X pins σ H s) (r : RelV x v) (ty : tyV X.K T x H) :
    s.TypeIs v T ∧ ∀ a, v = .ref a → ∃ ob, s.heap.get? a = some ob ∧ ob.dict = none := by
  cases x with
  | str z =>
    obtain ⟨t, rfl⟩ := r
    cases (show T = "str" from ty)
    exact ⟨typeIs_str s z t, fun _ e => nomatch e⟩
  | int i =>
    obtain ⟨t, rfl⟩ := r
    cases (show T = "int" from ty)
    exact ⟨typeIs_int s i t, fun _ e => nomatch e⟩
  | ref p =>
    cases r
    rcases ty with ⟨rfl, xs, hq⟩ | ⟨rfl, o, hk, hc, hd⟩ | ⟨rfl, hk⟩ | ⟨rfl, S, n, hk⟩
    · obtain ⟨its, _, pl, _⟩ := I.list hq
      refine ⟨pl.isList.typeIs, fun a e => ?_⟩
      cases e
      obtain ⟨o, n, e, c, hd, _⟩ := pl
      exact ⟨o, e, hd⟩
    · refine ⟨⟨o, I.kIn p o hk, hc⟩, fun a e => ?_⟩
      cases e
      exact ⟨o, I.kIn _ o hk, hd⟩
    · have z : ∃ o, s.heap.get? p = some o ∧ o.ExactDict := by
        rcases hk with ⟨kvs, hk⟩ | ⟨kvs, hk⟩
        · obtain ⟨_, _, _, _, o, _, _, e, ex, _⟩ := I.hok p _ hk
          exact ⟨o, e, ex⟩
        · obtain ⟨_, _, _, _, o, _, _, e, ex, _⟩ := I.hok p _ hk
          exact ⟨o, e, ex⟩
      obtain ⟨o, e, ex⟩ := z
      refine ⟨⟨o, e, ex.1⟩, fun a e2 => ?_⟩
      cases e2
      exact ⟨o, e, ex.2.1⟩
    · obtain ⟨o, _, _, _, e, ex, _⟩ := I.hok p _ hk
      refine ⟨⟨o, e, ex.1⟩, fun a e2 => ?_⟩
      cases e2
      exact ⟨o, e, ex.2.1⟩
  | _ => exact False.elim ty
def tBM0 (K : PySem.W.Frag) (T : String) (r : V → List V → Hp → VK → Prop) (to : TE) : TE := fun σ H Q => to σ H fun x H1 => tyV K T x H1 ∧ r x [] H1 Q
def tBM (K : PySem.W.Frag) (T : String) (r : V → List V → Hp → VK → Prop) (to : TE) (t : TA) : TE := fun σ H Q => to σ H fun x H1 => tyV K T x H1 ∧ t σ H1 fun xs H2 => r x xs H2 Q
variable {o e : Expr} {es : List Expr} {to : TE} {t : TA} {name : Str} {apos cpos : Pos} {T id : String} {r : V → List V → Hp → VK → Prop}
theorem pe_bm0 (pa : PlainAttrs T) (slot : Slot T name id) (hty : typeOf (.builtin id) = pure (.type "method_descriptor")) (hm : MtR X id r) (ho : PE X o to)
    (hbase : attributeBase o name X.env (eval o X.env) = eval o X.env := by rfl) (hline : (apos.endLine == cpos.line) = true := by rfl) : PE X (.Call (.Attribute o name apos) [] [] cpos) (tBM0 X.K T r to) := by
  intro pins s σ H Q I h
  refine wpAny_Call_method0_late hbase hline (thn (ho pins s σ H _ I h) fun v s1 ⟨x, H1, I1, r1, ty, q1⟩ => ?_)
  obtain ⟨h1, h2⟩ := tyV_is I1 r1 ty
  exact ⟨T, id, pa, slot, hty, h1, h2, Calls.callWith_builtin rfl (PySem.evalArgs_none (hm pins s1 σ H1 x [] v [] Q I1 r1 .nil q1))⟩
theorem pe_bm (pa : PlainAttrs T) (slot : Slot T name id) (hty : typeOf (.builtin id) = pure (.type "method_descriptor")) (hm : MtR X id r) (ho : PE X o to) (ha : PA X (e :: es) t)
    (hbase : attributeBase o name X.env (eval o X.env) = eval o X.env := by rfl)
    (hfew : ((backTo cpos (starEach (e :: es) X.env)).all (fun x => !x.1) && (backToKw cpos (keywordEach [] X.env)).all (fun x => x.1.isSome)
      && decide ((e :: es).length + ([] : List Keyword).length + (if ([] : List Keyword).isEmpty then 0 else 1) < 30)) = true := by rfl)
    (hline : (apos.endLine == cpos.line) = true := by rfl) (hs : starEach (e :: es) X.env = (false, eval e X.env) :: starEach es X.env := by rfl) (hplain : (backTo cpos (starEach es X.env)).any (·.1) = false := by rfl) :
    PE X (.Call (.Attribute o name apos) (e :: es) [] cpos) (tBM X.K T r to t) := by
  intro pins s σ H Q I h
  refine wpAny_Call_method_late hbase hfew hline rfl (thn (ho pins s σ H _ I h) fun v s1 ⟨x, H1, I1, r1, ty, q1⟩ => ?_)
  obtain ⟨h1, h2⟩ := tyV_is I1 r1 ty
  refine ⟨T, id, pa, slot, hty, h1, h2, ?_⟩
  have hA := ha cpos pins s1 σ H1 _ I1 q1
  rw [hs] at hA ⊢
  refine Calls.callWith_builtin (by show (false || (backTo cpos (starEach es X.env)).any (·.1)) = false; rw [hplain] <;> rfl) (Calls.evalArgs_plain ?_)
  exact thn hA fun us s2 ⟨vs, H2, I2, r2, q2⟩ => hm pins s2 σ H2 x vs v us Q I2 r1 r2 q2
/- xs.append(e), list.index on a module's tuple .. are MtR facts of 06m -/
end
end L2
namespace L2
open PySem PySem.Spec PyProof.Rows
def MtM (X : Cx) (id : String) (r : V → List V → Hp → VK → Prop) : Prop :=
  ∀ (pins : List (Addr × Obj)) (s : Shared) (σ : St) (H : Hp) (x : V) (xs : List V) (v : Value) (us : List Value) (Q : VK), Inv X pins σ H s → RelV x v → Vals xs us → r x xs H Q →
    wpAny (model X.prog X.w) X.A (call (.builtin id) (v :: us)) (EP X pins σ Q) X.xe s
theorem Vals.one : ∀ {x : V} {us : List Value}, Vals [x] us → ∃ u, us = [u] ∧ RelV x u
  | _, _, .cons r .nil => ⟨_, rfl, r⟩
theorem Vals.rep {xs : List V} {us : List Value} (h : Vals xs us) : ∀ k : Nat, Vals (List.replicate k xs).flatten (List.replicate k us).flatten
  | 0 => .nil
  | k + 1 => by
    rw [List.replicate_succ, List.replicate_succ, List.flatten_cons, List.flatten_cons]
    exact Vals.append h (Vals.rep h k)
theorem foldl_rep (its : List Value) : ∀ (k : Nat) (acc : List Value),
    List.foldl (fun x1 x2 => x1 ++ x2) acc.toArray (List.replicate k its.toArray) = (acc ++ (List.replicate k its).flatten).toArray
  | 0, acc => by simp
  | k + 1, acc => by
    have e : acc.toArray ++ its.toArray = (acc ++ its).toArray := by simp
    have e2 : (acc ++ its) ++ (List.replicate k its).flatten = acc ++ (List.replicate (k + 1) its).flatten := by
      rw [List.replicate_succ, List.flatten_cons, List.append_assoc]
    rw [← e2, ← foldl_rep its k (acc ++ its), ← e, List.replicate_succ, List.foldl_cons]
section
variable {X : Cx} {pins : List (Addr × Obj)} {σ : St} {H : Hp} {s : Shared} {l b : Addr} {xs ys zs : List V}
theorem Inv.lset {its its' : List Value} {n : Nat} {f : Array Value → Array Value} {t' : Nat} (I : Inv X pins σ H s) (hH : H l = some (.lst xs))
    (e : s.heap.get? l = some { cls := .type "list", data := .seq its.toArray n }) (hf : f its.toArray = its'.toArray) (hv : Vals ys its') (hz : ys.length ≤ sizeLine) :
    Inv X pins σ (upd H l (.lst ys)) { s with heap := s.heap.update l (Obj.mapSeq f), toks := t' } := by
  have q := PySem.IsL.update e f
  rw [hf] at q
  refine I.write (x := l) (e := l) (by rw [hH]; exact trivial) (.inl rfl) (fun b' u hb hu => (Heap.get?_update_other s.heap (Obj.mapSeq f) (Ne.symm hb)).trans hu) ⟨_, q⟩ ?_
  exact ⟨hz, its', _, hv, q⟩
theorem Inv.lnew {its : List Value} {t' : Nat} (I : Inv X pins σ H s) (hv : Vals ys its) (hz : ys.length ≤ sizeLine) :
    Inv X pins σ (upd H s.heap.objs.size (.lst ys)) { s with heap := s.heap.push { cls := .type "list", data := .seq its.toArray }, toks := t' } :=
  I.laid (fun _ _ q => Heap.get?_push_of_some _ q) (Nat.le_refl _) ⟨hz, its, 0, hv, Heap.get?_push_size _ rfl⟩
theorem Inv.fresh (I : Inv X pins σ H s) : H s.heap.objs.size = none := I.hok.fresh (Nat.le_refl _)
theorem Inv.lstM (I : Inv X pins σ H s) (hH : H l = some (.lst xs)) : xs.length ≤ sizeLine ∧ ∃ (its : List Value) (n : Nat), Vals xs its ∧ xs.length = its.length ∧ s.heap.get? l = some { cls := .type "list", data := .seq its.toArray n } := by
  obtain ⟨z, its, n, r, e⟩ := I.hok l _ hH
  exact ⟨z, its, n, r, r.length, e⟩
theorem notLongL {n : Nat} (h : n ≤ sizeLine) : Builtin.List.listTooLong n = false := by
  unfold Builtin.List.listTooLong
  exact decide_eq_false (by omega)
end
section
variable {X : Cx}
def rAppend : V → List V → Hp → VK → Prop := fun x vs H Q => ∃ l xs y, x = .ref l ∧ vs = [y] ∧ H l = some (.lst xs) ∧ xs.length < sizeLine ∧ Q .non (upd H l (.lst (xs ++ [y])))
theorem mt_append : MtM X "list.append" rAppend := by
  intro pins s σ H x vs v us Q I rx rv h
  obtain ⟨l, xs, y, rfl, rfl, hH, hz, q⟩ := h
  cases rx
  obtain ⟨u, rfl, ru⟩ := rv.one
  obtain ⟨z, its, n, r, hl, e⟩ := I.lstM hH
  refine call_meets F.slot_list_append ⟨_, e, rfl⟩ F.entry_list_append (F.args_list_append_2 _ _) (PySem.list_append l its.toArray n u (by rw [List.size_toArray]; omega)) ⟨e, ?_⟩
  refine ⟨.non, _, I.lset (its' := its ++ [u]) hH e (by simp) (r.append (.cons ru .nil)) ?_, rfl, q⟩
  rw [List.length_append, List.length_singleton]
  omega
def rExtend : V → List V → Hp → VK → Prop := fun x vs H Q => ∃ l b xs zs, x = .ref l ∧ vs = [.ref b] ∧ H l = some (.lst xs) ∧ H b = some (.lst zs) ∧ xs.length + zs.length ≤ sizeLine ∧ Q .non (upd H l (.lst (xs ++ zs)))
theorem mt_extend : MtM X "list.extend" rExtend := by
  intro pins s σ H x vs v us Q I rx rv h
  obtain ⟨l, b, xs, zs, rfl, rfl, hH, hB, hz, q⟩ := h
  cases rx
  obtain ⟨u, rfl, ru⟩ := rv.one
  cases ru
  obtain ⟨z, its, n, r, hl, e⟩ := I.lstM hH
  obtain ⟨z2, its2, n2, r2, hl2, e2⟩ := I.lstM hB
  have hsz : its.toArray.size + its2.toArray.size ≤ sizeLine := by rw [List.size_toArray, List.size_toArray]; omega
  have hlong : ¬ (!its.toArray.isEmpty && Builtin.List.listTooLong (its.toArray.size + its2.toArray.size)) = true := by
    rw [notLongL hsz, Bool.and_false]
    exact Bool.false_ne_true
  refine call_meets F.slot_list_extend ⟨_, e, rfl⟩ F.entry_list_extend (F.args_list_extend_2 _ _)
    (AutoSeq1.list_extend_list_list_0 l its.toArray n b its2.toArray n2 hlong (by rw [List.size_toArray]; omega) (by omega)) ⟨e, e2, ?_⟩
  refine ⟨.non, _, I.lset (its' := its ++ its2) hH e (by simp) (r.append r2) ?_, rfl, q⟩
  rw [List.length_append]
  omega
def rCat : R2 := fun x y H Q => ∃ l b xs zs, x = .ref l ∧ y = .ref b ∧ H l = some (.lst xs) ∧ H b = some (.lst zs) ∧ xs.length + zs.length ≤ sizeLine ∧ ∀ p, H p = none → Q (.ref p) (upd H p (.lst (xs ++ zs)))
theorem op_cat : OpR X (binaryOp .Add) rCat := by
  intro pins s σ H x y v u Q I rx ry h
  obtain ⟨l, b, xs, zs, rfl, rfl, hH, hB, hz, q⟩ := h
  cases rx
  cases ry
  obtain ⟨z, its, n, r, hl, e⟩ := I.lstM hH
  obtain ⟨z2, its2, n2, r2, hl2, e2⟩ := I.lstM hB
  refine PySem.P.add_list e e2 ?_ (by rw [List.size_toArray, List.size_toArray]; omega)
  have ea : its.toArray ++ its2.toArray = (its ++ its2).toArray := by simp
  rw [ea]
  exact ⟨.ref _, _, I.lnew (t' := s.toks) (r.append r2) (by rw [List.length_append]; omega), rfl, q _ I.fresh⟩
/-- a list times an int (a negative one is nothing) -/
def rRep : R2 := fun x y H Q => ∃ l k xs, x = .ref l ∧ y = .int k ∧ H l = some (.lst xs) ∧ -(2 ^ 63) ≤ k ∧ k < 2 ^ 63 ∧ xs.length * k.toNat ≤ sizeLine ∧
  ∀ p, H p = none → Q (.ref p) (upd H p (.lst (List.replicate k.toNat xs).flatten))
theorem len_rep {α : Type} (xs : List α) (k : Nat) : (List.replicate k xs).flatten.length = k * xs.length := by
  induction k with
  | zero => simp
  | succ k ih => rw [List.replicate_succ, List.flatten_cons, List.length_append, ih, Nat.succ_mul, Nat.add_comm]
theorem op_rep : OpR X (binaryOp .Mult) rRep := by
  intro pins s σ H x y v u Q I rx ry h
  obtain ⟨l, k, xs, rfl, rfl, hH, h1, h2, hz, q⟩ := h
  cases rx
  obtain ⟨t, rfl⟩ := ry
  obtain ⟨z, its, n, r, hl, e⟩ := I.lstM hH
  have hlen : its.toArray.size * k.toNat ≤ sizeLine := by rw [List.size_toArray, ← hl]; exact hz
  have hcap : ¬ its.toArray.size * k.toNat > (2 ^ 63 - 1) / 8 := by
    have : (sizeLine : Nat) ≤ (2 ^ 63 - 1) / 8 := by decide
    omega
  have hfit : ¬ (!Builtin.List.listFitsIndex k) = true := by
    rw [fitsIndex_both h1 h2]
    exact Bool.false_ne_true
  have hlong : ¬ Builtin.List.listTooLong (its.toArray.size * k.toNat) = true := by
    rw [notLongL hlen]
    exact Bool.false_ne_true
  have hnew : List.foldl (fun x1 x2 => x1 ++ x2) #[] (List.replicate (if its.toArray.isEmpty = true then 0 else k.toNat) its.toArray) = (List.replicate k.toNat its).flatten.toArray := by
    have f0 : ∀ m : Nat, List.foldl (fun x1 x2 => x1 ++ x2) #[] (List.replicate m its.toArray) = (List.replicate m its).flatten.toArray := fun m => by
      have := foldl_rep its m []
      rw [List.nil_append] at this
      exact this
    rw [f0]
    cases its with
    | nil => simp
    | cons a r' => rw [if_neg (by simp)]
  refine wpAny_binaryOp_repeat_ref (T := "list") (U := "int") (by decide) ⟨_, e, rfl⟩ (fun s' => typeIs_int s' k t) noFill_list_mul F.fills_int_mul F.slot_int_rmul repeat_list F.slot_int_index.lookup
    (call_meets F.slot_int_rmul (typeIs_int s k t) F.entry_int_rmul (F.args_int_rmul_2 _ _) (int___rmul___int_list k t l its.toArray n)
      ⟨e, rfl, ⟨_, e, rfl⟩, call_meets F.slot_list_mul ⟨_, e, rfl⟩ F.entry_list_mul (F.args_list_mul_2 _ _) (AutoListH.list___mul___list_int_3 l its.toArray n k t hfit hcap hlong) ⟨e, ?_⟩⟩)
  rw [hnew]
  exact ⟨.ref _, _, I.lnew (t' := s.toks) (r.rep k.toNat) (by rw [len_rep, Nat.mul_comm]; exact hz), rfl, q _ I.fresh⟩
end
end L2
namespace L2
open PySem PySem.Spec PyProof.Rows
theorem Vals.ints : ∀ {ns : List Int} {us : List Value}, Vals (ns.map V.int) us → IntsAre us ns
  | [], us, h => by
    rw [List.map_nil] at h
    cases h
    exact IntsAre.nil
  | n :: ns, us, h => by
    rw [List.map_cons] at h
    cases h with
    | cons r t =>
      obtain ⟨k, rfl⟩ := r
      exact IntsAre.cons n k (Vals.ints t)
theorem vals_of_ints : ∀ {us : List Value} {ns : List Int}, IntsAre us ns → Vals (ns.map V.int) us
  | _, _, .nil => by rw [List.map_nil]; exact Paired.nil
  | _, _, .cons n t h => by rw [List.map_cons]; exact Paired.cons (show RelV (V.int n) (Value.int n t) from ⟨t, rfl⟩) (vals_of_ints h)
theorem Vals.ref1 {a : Addr} {us : List Value} (r : Vals [V.ref a] us) : us = [Value.ref a] := by
  cases r with
  | cons r t =>
    cases t
    cases r
    rfl
section
variable {prog : Program} {w : World} {A : Around} {E : Value → Shared → Prop} {s : Shared} {l : Addr} {its : List Value} {ns : List Int} {Q : Value → Shared → Prop}
theorem sum_raw (hh : A.handled = none) (hl : s.heap.IsList l its.toArray) (hi : IntsAre its ns)
    (h : ∀ h' tk t', (∀ b o, s.heap.get? b = some o → h'.get? b = some o) → Q (.int ns.sum t') { s with heap := h', toks := tk }) : wpAny (model prog w) A (call (.builtin "sum") [.ref l]) Q E s := by
  obtain ⟨xs, e⟩ := hi.allInts.items
  have hn : numsOf (intItems xs).toList = ns := by rw [← e]; exact hi.numsOf
  rw [nums_intItems] at hn
  rw [e] at hl
  refine PySem.sum_intListG hh hl fun h' tk t' hk => ?_
  have := h h' tk t' hk
  rw [preSum_eq, List.take_of_length_le (by simp), hn]; exact this
theorem max_raw (hh : A.handled = none) (hl : s.heap.IsList l its.toArray) (hi : IntsAre its ns) (hne : 0 < ns.length)
    (h : ∀ h' tk M t', (∀ b o, s.heap.get? b = some o → h'.get? b = some o) → M ∈ ns → (∀ a, a ∈ ns → a ≤ M) → Q (.int M t') { s with heap := h', toks := tk }) : wpAny (model prog w) A (call (.builtin "max") [.ref l]) Q E s := by
  obtain ⟨xs, e⟩ := hi.allInts.items
  have hn : numsOf (intItems xs).toList = ns := by rw [← e]; exact hi.numsOf
  rw [nums_intItems] at hn
  subst hn
  rw [e] at hl
  have hsz : 0 < xs.size := by simpa using hne
  refine PySem.max_intList hh hl hsz fun v h' tk hv hk => ?_
  obtain ⟨t, rfl⟩ := intItems_at hv
  obtain ⟨h1, h2⟩ := argBest_gt (numAt xs) (xs.size - 1)
  refine h h' tk _ t hk ?_ fun a ha => ?_
  · rw [numAt_eq]; exact PySem.getD_mem (by rw [List.length_map, Array.length_toList]; omega)
  · obtain ⟨j, hj, rfl⟩ := mem_getD ha
    rw [List.length_map, Array.length_toList] at hj
    rw [← numAt_eq]; exact h2 j (by omega)
theorem min_raw (hh : A.handled = none) (hl : s.heap.IsList l its.toArray) (hi : IntsAre its ns) (hne : 0 < ns.length)
    (h : ∀ h' tk M t', (∀ b o, s.heap.get? b = some o → h'.get? b = some o) → M ∈ ns → (∀ a, a ∈ ns → M ≤ a) → Q (.int M t') { s with heap := h', toks := tk }) : wpAny (model prog w) A (call (.builtin "min") [.ref l]) Q E s := by
  obtain ⟨xs, e⟩ := hi.allInts.items
  have hn : numsOf (intItems xs).toList = ns := by rw [← e]; exact hi.numsOf
  rw [nums_intItems] at hn
  subst hn
  rw [e] at hl
  have hsz : 0 < xs.size := by simpa using hne
  refine PySem.min_intList hh hl hsz fun v h' tk hv hk => ?_
  obtain ⟨t, rfl⟩ := intItems_at hv
  obtain ⟨h1, h2⟩ := argBest_lt (numAt xs) (xs.size - 1)
  refine h h' tk _ t hk ?_ fun a ha => ?_
  · rw [numAt_eq]; exact PySem.getD_mem (by rw [List.length_map, Array.length_toList]; omega)
  · obtain ⟨j, hj, rfl⟩ := mem_getD ha
    rw [List.length_map, Array.length_toList] at hj
    rw [← numAt_eq]; exact h2 j (by omega)
end
section
variable {X : Cx}
/-- sum(xs) of a list of ints -/
def rSum (K : PySem.W.Frag) : List V → Hp → VK → Prop := fun vs H Q => ∃ (a : Addr) (ns : List Int), vs = [V.ref a] ∧ SqL K H a (ns.map V.int) ∧ Q (.int ns.sum) H
/-- max(xs), min(xs) of a list of ints -/
def rMax (K : PySem.W.Frag) : List V → Hp → VK → Prop := fun vs H Q => ∃ (a : Addr) (ns : List Int), vs = [V.ref a] ∧ SqL K H a (ns.map V.int) ∧ 0 < ns.length ∧ ∀ m, m ∈ ns → (∀ y, y ∈ ns → y ≤ m) → Q (.int m) H
def rMin (K : PySem.W.Frag) : List V → Hp → VK → Prop := fun vs H Q => ∃ (a : Addr) (ns : List Int), vs = [V.ref a] ∧ SqL K H a (ns.map V.int) ∧ 0 < ns.length ∧ ∀ m, m ∈ ns → (∀ y, y ∈ ns → m ≤ y) → Q (.int m) H
theorem cr_sum (hc : X.calm = true) : CallR X (.builtin "sum") (rSum X.K) := by
  intro pins s σ H vs us Q I r h
  obtain ⟨a, ns, rfl, hs, q⟩ := h
  obtain ⟨its, rv, hl, _⟩ := I.list hs
  rw [Vals.ref1 r]
  exact sum_raw (I.ok.hd hc) hl.isList rv.ints fun h' tk t' hk => ⟨.int _, H, I.kept hk, ⟨_, rfl⟩, q⟩
theorem cr_max (hc : X.calm = true) : CallR X (.builtin "max") (rMax X.K) := by
  intro pins s σ H vs us Q I r h
  obtain ⟨a, ns, rfl, hs, hne, q⟩ := h
  obtain ⟨its, rv, hl, _⟩ := I.list hs
  rw [Vals.ref1 r]
  exact max_raw (I.ok.hd hc) hl.isList rv.ints hne fun h' tk m t' hk h1 h2 => ⟨.int _, H, I.kept hk, ⟨_, rfl⟩, q m h1 h2⟩
theorem cr_min (hc : X.calm = true) : CallR X (.builtin "min") (rMin X.K) := by
  intro pins s σ H vs us Q I r h
  obtain ⟨a, ns, rfl, hs, hne, q⟩ := h
  obtain ⟨its, rv, hl, _⟩ := I.list hs
  rw [Vals.ref1 r]
  exact min_raw (I.ok.hd hc) hl.isList rv.ints hne fun h' tk m t' hk h1 h2 => ⟨.int _, H, I.kept hk, ⟨_, rfl⟩, q m h1 h2⟩
end
section
variable {X : Cx}
end
end L2
namespace L2
open PySem PySem.Spec PyProof.Rows
abbrev CellAt (h : Heap) (c : Addr) (v : Option Value) : Prop := h.IsCell c v
def relS (scope sc : Scope) : Scope :=
  { scope with names := scope.names.map fun (n, k) => if (k == .free && sc.kind == .function && sc.names.lookup n == some .cell) then (n, .cell) else (n, k) }
def cloFrom (cells : List (Str × Addr)) : List (Str × NameKind) → List (Str × Addr) → List (Str × Addr)
  | [], acc => acc
  | (n, k) :: r, acc => if k == .free then cloFrom cells r ((n, (cells.lookup n).getD 0) :: acc) else cloFrom cells r acc
theorem closure_loop (env : Env) (f : Str × NameKind → List (Str × Addr) → Sem (ForInStep (List (Str × Addr))))
    (hf : ∀ n k c, f (n, k) c = if k == .free then (do let a ← cellOf env n; pure (.yield ((n, a) :: c))) else pure (.yield c)) :
    ∀ (names : List (Str × NameKind)) (acc : List (Str × Addr)), (∀ y ∈ names, y.2 = .free → ∃ c, env.cells.lookup y.1 = some c) → forIn names acc f = pure (cloFrom env.cells names acc)
  | [], acc, _ => by rw [List.forIn_nil]; rfl
  | (n, k) :: r, acc, h => by
    rw [List.forIn_cons, hf]
    have ih := fun acc => closure_loop env f hf r acc fun y hy => h y (List.mem_cons_of_mem _ hy)
    unfold cloFrom
    by_cases hk : (k == NameKind.free) = true
    · rw [if_pos hk, if_pos hk]
      obtain ⟨c, hc⟩ := h (n, k) List.mem_cons_self (by simpa using hk)
      have e : cellOf env n = pure c := by unfold cellOf; rw [hc]
      rw [e]
      have e2 : (env.cells.lookup n).getD 0 = c := by rw [hc]; rfl
      rw [e2]
      exact ih _
    · rw [if_neg hk, if_neg hk]
      exact ih _
theorem closure_ok {scope : Scope} {env : Env} (h : ∀ y ∈ scope.names, y.2 = .free → ∃ c, env.cells.lookup y.1 = some c) : closureFor scope env = pure (cloFrom env.cells scope.names []) := by
  simp only [closureFor]
  rw [closure_loop env _ (fun n k c => rfl) scope.names [] h]
  rfl
theorem mem_lookup {α : Type} : ∀ {l : List (Str × α)} {n : Str} {c : α}, (n, c) ∈ l → ∃ c', l.lookup n = some c'
  | (k, v) :: r, n, c, h => by
    rw [List.lookup_cons]
    cases hb : n == k with
    | true => exact ⟨_, rfl⟩
    | false =>
      rcases List.mem_cons.mp h with e | h
      · cases e; simp at hb
      · exact mem_lookup h
theorem cloFrom_mem {cells : List (Str × Addr)} : ∀ {names : List (Str × NameKind)} {acc : List (Str × Addr)} {n : Str} {c : Addr}, (n, c) ∈ cloFrom cells names acc → (n, c) ∈ acc ∨ ((n, .free) ∈ names ∧ c = (cells.lookup n).getD 0)
  | [], _, _, _, h => .inl h
  | (m, k) :: r, acc, n, c, h => by
    unfold cloFrom at h
    split at h
    · rename_i hk
      have hk : k = .free := by simpa using hk
      rcases cloFrom_mem h with h | ⟨h1, h2⟩
      · rcases List.mem_cons.mp h with e | h
        · cases e; exact .inr ⟨hk ▸ List.mem_cons_self, rfl⟩
        · exact .inl h
      · exact .inr ⟨List.mem_cons_of_mem _ h1, h2⟩
    · rcases cloFrom_mem h with h | ⟨h1, h2⟩
      · exact .inl h
      · exact .inr ⟨List.mem_cons_of_mem _ h1, h2⟩
theorem cloFrom_acc {cells : List (Str × Addr)} : ∀ {names : List (Str × NameKind)} {acc : List (Str × Addr)} {p : Str × Addr}, p ∈ acc → p ∈ cloFrom cells names acc
  | [], _, _, h => h
  | (m, k) :: r, acc, p, h => by
    unfold cloFrom
    split
    · exact cloFrom_acc (List.mem_cons_of_mem _ h)
    · exact cloFrom_acc h
theorem cloFrom_has {cells : List (Str × Addr)} : ∀ {names : List (Str × NameKind)} {acc : List (Str × Addr)} {n : Str}, (n, .free) ∈ names → (n, (cells.lookup n).getD 0) ∈ cloFrom cells names acc
  | (m, k) :: r, acc, n, h => by
    unfold cloFrom
    rcases List.mem_cons.mp h with e | h
    · cases e
      exact cloFrom_acc List.mem_cons_self
    · split
      · exact cloFrom_has h
      · exact cloFrom_has h
theorem cells_mem : ∀ {names : List (Str × NameKind)} {h : Heap} {acc : List (Str × Addr)} {x : Str} {c : Addr}, (x, c) ∈ cellsFrom h.objs.size names acc →
    (x, c) ∈ acc ∨ ((x, .cell) ∈ names ∧ h.objs.size ≤ c ∧ CellAt (pushCells h names) c none)
  | [], _, _, _, _, h => .inl h
  | (n, k) :: r, h, acc, x, c, hm => by
    unfold cellsFrom at hm
    unfold pushCells
    split at hm
    · rename_i hk
      rw [if_pos hk]
      have hk : k = .cell := by simpa using hk
      rw [← Heap.size_push h { cls := .type "cell", data := .cell none }] at hm
      rcases cells_mem hm with hm | ⟨h1, h2, h3⟩
      · rcases List.mem_cons.mp hm with e | hm
        · cases e
          exact .inr ⟨hk ▸ List.mem_cons_self, Nat.le_refl _, _, pushCells_keeps r _ _ _ (Heap.get?_push_size _ rfl), rfl⟩
        · exact .inl hm
      · rw [Heap.size_push] at h2
        exact .inr ⟨List.mem_cons_of_mem _ h1, Nat.le_of_succ_le h2, h3⟩
    · rename_i hk
      rw [if_neg hk]
      rcases cells_mem hm with hm | ⟨h1, h2, h3⟩
      · exact .inl hm
      · exact .inr ⟨List.mem_cons_of_mem _ h1, h2, h3⟩
theorem cells_acc : ∀ {names : List (Str × NameKind)} {n : Nat} {acc : List (Str × Addr)} {p : Str × Addr}, p ∈ acc → p ∈ cellsFrom n names acc
  | [], _, _, _, h => h
  | (m, k) :: r, n, acc, p, h => by
    unfold cellsFrom
    split
    · exact cells_acc (List.mem_cons_of_mem _ h)
    · exact cells_acc h
theorem cells_has : ∀ {names : List (Str × NameKind)} {n : Nat} {acc : List (Str × Addr)} {x : Str}, (x, .cell) ∈ names → ∃ c, (x, c) ∈ cellsFrom n names acc
  | (m, k) :: r, n, acc, x, h => by
    unfold cellsFrom
    rcases List.mem_cons.mp h with e | h
    · cases e
      exact ⟨n, cells_acc List.mem_cons_self⟩
    · split
      · exact cells_has h
      · exact cells_has h
theorem cells_inj : ∀ {names : List (Str × NameKind)} {h : Heap} {acc : List (Str × Addr)} {x y : Str} {c : Addr}, (∀ p ∈ acc, p.2 < h.objs.size) → (∀ x y c, (x, c) ∈ acc → (y, c) ∈ acc → x = y) →
    (x, c) ∈ cellsFrom h.objs.size names acc → (y, c) ∈ cellsFrom h.objs.size names acc → x = y
  | [], _, _, _, _, _, _, hi, h1, h2 => hi _ _ _ h1 h2
  | (n, k) :: r, h, acc, x, y, c, hl, hi, h1, h2 => by
    unfold cellsFrom at h1 h2
    split at h1
    · rename_i hk
      rw [if_pos hk] at h2
      rw [← Heap.size_push h { cls := .type "cell", data := .cell none }] at h1 h2
      refine cells_inj (h := h.push _) (fun p hp => ?_) (fun x y c a b => ?_) h1 h2
      · rw [Heap.size_push]
        rcases List.mem_cons.mp hp with rfl | hp
        · exact Nat.lt_succ_self _
        · exact Nat.lt_succ_of_lt (hl p hp)
      · rcases List.mem_cons.mp a with e | a <;> rcases List.mem_cons.mp b with e' | b
        · cases e; cases e'; rfl
        · cases e; exact absurd (hl _ b) (Nat.lt_irrefl _)
        · cases e'; exact absurd (hl _ a) (Nat.lt_irrefl _)
        · exact hi _ _ _ a b
    · rename_i hk
      rw [if_neg hk] at h2
      exact cells_inj hl hi h1 h2
theorem newEnv_comp {M : Model} {A : Around} {E : Value → Shared → Prop} {s : Shared} {scope : Scope} {globals : Addr} {closure : List (Str × Addr)} {qual : Str} {func : Option Addr} {code : Value} {around : Env} {builtins : Addr} {Q : Env → Shared → Prop}
    (h : Q (newEnv scope s.heap.objs.size globals (cellsFrom (s.heap.objs.size + 1) scope.names closure) qual func code (some around) builtins)
      { s with heap := pushCells (s.heap.push { cls := .type "dict", data := .dict #[] }) scope.names }) :
    wpAny M A (newFunctionEnv scope globals closure [] qual func code (some around) builtins) Q E s := by
  simp only [newFunctionEnv, Option.isSome_some, if_true]
  refine wpAny_bind (wpAny_alloc ?_)
  refine wpAny_bind (wpAny_layCells _ (fun n k c => rfl) scope.names closure _ _ ?_)
  rw [show ({ s with heap := s.heap.push { cls := .type "dict", data := .dict #[] } } : Shared).heap.objs.size = s.heap.objs.size + 1 from Heap.size_push ..]
  rw [List.forIn_nil]
  exact wpAny_bind (wpAny_pure (wpAny_pure h))
/-- every name of the written scope, in the scope that runs -/
theorem lookup_relS {sc : Scope} : ∀ {names : List (Str × NameKind)} {x : Str} {k : NameKind},
    (names.map fun (n, k) => if (k == NameKind.free && sc.kind == .function && sc.names.lookup n == some .cell) then (n, NameKind.cell) else (n, k)).lookup x = some k →
    ∃ k', names.lookup x = some k' ∧ (k = k' ∨ (k' = .free ∧ k = .cell))
  | [], _, _, h => by simp at h
  | (n, k₀) :: r, x, k, h => by
    have ih := @lookup_relS sc r x k
    have h' : List.lookup x ((if (k₀ == NameKind.free && sc.kind == .function && sc.names.lookup n == some .cell) = true then (n, NameKind.cell) else (n, k₀)) :: (r.map _)) = some k := h
    cases hx : x == n with
    | true =>
      simp only [List.lookup_cons, hx]
      by_cases hc : (k₀ == NameKind.free && sc.kind == .function && sc.names.lookup n == some .cell) = true
      · rw [if_pos hc] at h'
        simp only [List.lookup_cons, hx] at h'
        cases h'
        simp only [Bool.and_eq_true, beq_iff_eq] at hc
        exact ⟨k₀, rfl, .inr ⟨hc.1.1, rfl⟩⟩
      · rw [if_neg hc] at h'
        simp only [List.lookup_cons, hx] at h'
        cases h'
        exact ⟨_, rfl, .inl rfl⟩
    | false =>
      simp only [List.lookup_cons, hx]
      by_cases hc : (k₀ == NameKind.free && sc.kind == .function && sc.names.lookup n == some .cell) = true
      · rw [if_pos hc] at h'
        simp only [List.lookup_cons, hx] at h'
        exact ih h'
      · rw [if_neg hc] at h'
        simp only [List.lookup_cons, hx] at h'
        exact ih h'
/-- the names of a comprehension's block: its own (with their places in N), or captured -/
structure BlkOk (N : List Str) (sc scope : Scope) (own : List (Str × Nat)) : Prop where
  kind : scope.kind = .function
  uniq : ∀ y ∈ scope.names, scope.names.lookup y.1 = some y.2
  ix : ∀ p ∈ own, N[p.2]? = some p.1
  free : ∀ y ∈ scope.names, y.2 = .free → sc.names.lookup y.1 = some .cell ∨ sc.names.lookup y.1 = some .free
  own : ∀ y ∈ scope.names, y.2 = .local ∨ y.2 = .cell → y.1 ∈ own.map (·.1) ∨ y.1 ∉ N
/-- the slots of the block's own names forgotten -/
def wipe (σ : St) : List Nat → St
  | [] => σ
  | v :: vs => (wipe σ vs).set v none
theorem wipe_length (σ : St) : ∀ vs : List Nat, (wipe σ vs).length = σ.length
  | [] => rfl
  | v :: vs => by unfold wipe; rw [List.length_set, wipe_length σ vs]
theorem wipe_some {σ : St} {i : Nat} {x : V} : ∀ {vs : List Nat}, (wipe σ vs)[i]? = some (some x) → σ[i]? = some (some x) ∧ i ∉ vs
  | [], h => ⟨h, by simp⟩
  | v :: vs, h => by
    unfold wipe at h
    by_cases hi : v = i
    · subst hi
      by_cases hv : v < (wipe σ vs).length
      · rw [List.getElem?_set_self hv] at h; cases h
      · rw [List.getElem?_eq_none (by simpa using hv)] at h; cases h
    · rw [List.getElem?_set_ne hi] at h
      obtain ⟨h1, h2⟩ := wipe_some h
      exact ⟨h1, by simp only [List.mem_cons, not_or]; exact ⟨fun e => hi e.symm, h2⟩⟩
/-- the context of a block that starts at s, its iterator's objects at fp -/
abbrev Cx.blk (X : Cx) (s : Shared) (H : Hp) (scope : Scope) (cenv : Env) (fp : List Addr) : Cx := { X with s_0 := s, H_0 := H, env := cenv, outer := X.stack, ex := fp, fn := fun x => scope.names.lookup x == some .cell, pn := [], xe := fun _ _ => False }
section
variable {X : Cx} {pins : List (Addr × Obj)} {σ : St} {H : Hp} {s : Shared}
theorem block_start {scope : Scope} {own : List (Str × Nat)} {fp : List Addr} (I : Inv X pins σ H s) (ok : BlkOk X.N X.env.scope scope own) (hN : X.N.Nodup) (hfp : ∀ b ∈ fp, FpOk X pins H b ∧ b < s.heap.objs.size) :
    Inv (X.blk s H scope (compEnvC scope (cellsFrom (s.heap.objs.size + 1) scope.names (cloFrom X.env.cells scope.names [])) s.heap.objs.size X.env) fp) [] (wipe σ (own.map (·.2))) H { s with heap := pushCells (s.heap.push { cls := .type "dict", data := .dict #[] }) scope.names } := by
  have hfree : ∀ y ∈ scope.names, y.2 = .free → ∃ c, X.env.cells.lookup y.1 = some c := fun y hy e => by
    rcases ok.free y hy e with k | k
    · exact I.ok.has _ (.inl k)
    · exact I.ok.has _ (.inr k)
  generalize hcenv : compEnvC scope (cellsFrom (s.heap.objs.size + 1) scope.names (cloFrom X.env.cells scope.names [])) s.heap.objs.size X.env = cenv
  have kp : ∀ b o, s.heap.get? b = some o → (pushCells (s.heap.push { cls := .type "dict", data := .dict #[] }) scope.names).get? b = some o := fun b o e => pushCells_keeps _ _ _ _ (Heap.get?_push_of_some _ e)
  have hL : cenv.locals = s.heap.objs.size := by rw [← hcenv]; rfl
  have hcl : cenv.cells = cellsFrom (s.heap.objs.size + 1) scope.names (cloFrom X.env.cells scope.names []) := by rw [← hcenv]; rfl
  have hsc : cenv.scope = relS scope X.env.scope := by rw [← hcenv]; rfl
  rw [← Heap.size_push s.heap { cls := .type "dict", data := .dict #[] }] at hcl
  have cm : ∀ {y c}, (y, c) ∈ cloFrom X.env.cells scope.names [] → X.env.cells.lookup y = some c ∧ c < s.heap.objs.size := fun {y c} hm => by
    rcases cloFrom_mem hm with hm | ⟨h1, rfl⟩
    · cases hm
    · obtain ⟨c, hc⟩ := hfree _ h1 rfl
      rw [hc]
      obtain ⟨w, z⟩ := I.cell _ _ hc
      exact ⟨rfl, z.lt⟩
  have mem : ∀ {y c}, cenv.cells.lookup y = some c → (X.env.cells.lookup y = some c ∧ c < s.heap.objs.size) ∨ (s.heap.objs.size + 1 ≤ c ∧ CellAt (pushCells (s.heap.push { cls := .type "dict", data := .dict #[] }) scope.names) c none) := fun {y c} e => by
    rw [hcl] at e
    rcases cells_mem (PySem.mem_of_lookup e) with hm | ⟨_, h2, h3⟩
    · exact .inl (cm hm)
    · rw [Heap.size_push] at h2; exact .inr ⟨h2, h3⟩
  have look : ∀ {y}, scope.names.lookup y = some .free → ∃ c, cenv.cells.lookup y = some c ∧ X.env.cells.lookup y = some c := fun {y} hl => by
    have hy : (y, NameKind.free) ∈ scope.names := PySem.mem_of_lookup hl
    obtain ⟨c', e'⟩ := mem_lookup (cells_acc (names := scope.names) (n := (s.heap.push { cls := .type "dict", data := .dict #[] }).objs.size) (cloFrom_has (cells := X.env.cells) (acc := []) hy))
    rw [← hcl] at e'
    refine ⟨c', e', ?_⟩
    rw [hcl] at e'
    rcases cells_mem (PySem.mem_of_lookup e') with hm | ⟨h1, _, _⟩
    · exact (cm hm).1
    · have := ok.uniq _ h1
      rw [hl] at this; cases this
  have okB : (X.blk s H scope cenv fp).Ok := by
    refine ⟨I.ok.mod, by show cenv.scope.kind = _; rw [hsc]; exact ok.kind, by show cenv.globals = _; rw [← hcenv]; exact I.ok.glob, by show cenv.builtins = _; rw [← hcenv]; exact I.ok.blt, by show s.heap.objs.size ≤ cenv.locals; rw [hL]; exact Nat.le_refl _,
      fun y z c e1 e2 => ?_, fun y hy => ?_, fun y c z e => ?_, I.ok.hd, I.ok.frames, .inl rfl, fun b hb => ⟨?_, fun y c e z => ?_⟩, I.bs, Nat.le_trans I.ok.bsz I.sz, fun b o e hb => ?_, fun b hb z => ?_, I.stack, I.stkFree⟩
    · have e1 : cenv.cells.lookup y = some c := e1
      have e2 : cenv.cells.lookup z = some c := e2
      rw [hcl] at e1 e2
      refine cells_inj (fun p hp => ?_) (fun y z c a b => I.ok.inj y z c (cm a).1 (cm b).1) (PySem.mem_of_lookup e1) (PySem.mem_of_lookup e2)
      rw [Heap.size_push]
      exact Nat.lt_succ_of_lt (cm (y := p.1) (c := p.2) hp).2
    · show ∃ c, cenv.cells.lookup y = some c
      have key : ∀ k, cenv.kindOf y = some k → (k = .cell ∨ k = .free) → ∃ c, cenv.cells.lookup y = some c := fun k hk hk' => by
        unfold Env.kindOf at hk
        rw [hsc] at hk
        obtain ⟨k', e, r⟩ := lookup_relS hk
        have : k' = .cell ∨ k' = .free := by
          rcases r with rfl | ⟨rfl, _⟩
          · exact hk'
          · exact .inr rfl
        rcases this with rfl | rfl
        · obtain ⟨c, hm⟩ := cells_has (n := (s.heap.push { cls := .type "dict", data := .dict #[] }).objs.size) (acc := cloFrom X.env.cells scope.names []) (PySem.mem_of_lookup e)
          obtain ⟨c', e'⟩ := mem_lookup hm
          exact ⟨c', by rw [hcl]; exact e'⟩
        · obtain ⟨c, h1, _⟩ := look e
          exact ⟨c, h1⟩
      rcases hy with hy | hy
      · exact key _ hy (.inl rfl)
      · exact key _ hy (.inr rfl)
    · have z : (scope.names.lookup y == some NameKind.cell) = true := z
      have z : scope.names.lookup y = some .cell := by simpa using z
      have e : cenv.cells.lookup y = some c := e
      rw [hcl] at e
      rcases cells_mem (PySem.mem_of_lookup e) with hm | ⟨_, h2, _⟩
      · rcases cloFrom_mem hm with hm | ⟨h1, _⟩
        · cases hm
        · have q := ok.uniq _ h1
          rw [z] at q; cases q
      · rw [Heap.size_push] at h2
        exact Nat.le_of_succ_le h2
    · show b ≠ cenv.locals
      rw [hL]; exact Nat.ne_of_lt (hfp b hb).2
    · have e : cenv.cells.lookup y = some c := e
      rcases mem e with ⟨h1, _⟩ | ⟨h1, _⟩
      · exact (hfp b hb).1.2.2.2.2.1 y c h1 z
      · have h2 : s.heap.objs.size + 1 ≤ b := by rw [← z]; exact h1
        exact absurd (Nat.lt_of_lt_of_le (hfp b hb).2 (Nat.le_of_succ_le h2)) (Nat.lt_irrefl _)
    · rcases (hfp b hb).1.2.2.2.1 with z | z
      · exact I.ok.noex b o e z
      · exact absurd (Nat.lt_of_lt_of_le (Heap.lt_size e) (Nat.le_trans I.ok.bsz z)) (Nat.lt_irrefl _)
    · rcases List.mem_cons.mp (I.stkSub b z) with z | z
      · exact (hfp b hb).1.2.1 z
      · exact (hfp b hb).1.2.2.1 z
  refine ⟨okB, rfl, I.bare, Un.kept kp, ⟨fun _ => none, ?_, fun i y av e1 e2 e3 => ?_⟩, fun y c e => ?_, ?_, fun y c e => ?_, fun p hp => ?_, I.hok.kept kp, by rw [wipe_length]; exact I.len⟩
  · show Heap.Ns _ cenv.locals _
    rw [hL]
    exact Heap.Ns.keeps (Heap.Ns.new ..) fun b o e => pushCells_keeps _ _ _ _ e
  · obtain ⟨e2, hne⟩ := wipe_some e2
    have hfr : scope.names.lookup y = some .free ∧ (cenv.kindOf y = some .cell ∨ cenv.kindOf y = some .free) := by
      have key : ∀ k, cenv.scope.names.lookup y = some k → k = .local ∨ k = .cell ∨ k = .free → scope.names.lookup y = some .free ∧ (cenv.kindOf y = some .cell ∨ cenv.kindOf y = some .free) := fun k hk hk' => by
        have hk0 := hk
        rw [hsc] at hk
        obtain ⟨k', e, r⟩ := lookup_relS hk
        have no : ¬ (k' = .local ∨ k' = .cell) := fun hh => by
          rcases ok.own _ (PySem.mem_of_lookup e) hh with e' | e'
          · obtain ⟨p, hp, hpy⟩ := List.mem_map.mp e'
            have e3 := ok.ix p hp
            have : p.1 = y := hpy
            rw [this] at e3
            exact hne (List.mem_map.mpr ⟨p, hp, nodup_ix hN e3 e1⟩)
          · exact e' (List.mem_of_getElem? e1)
        rcases r with rfl | ⟨rfl, rfl⟩
        · rcases hk' with rfl | rfl | rfl
          · exact absurd (.inl rfl) no
          · exact absurd (.inr rfl) no
          · exact ⟨e, .inr hk0⟩
        · exact ⟨e, .inl hk0⟩
      have e3 : Vis cenv.scope y := e3
      rcases e3 with e3 | e3 | e3
      · exact key _ e3 (.inl rfl)
      · exact key _ e3 (.inr (.inl rfl))
      · exact key _ e3 (.inr (.inr rfl))
    obtain ⟨m, hn, hl⟩ := I.loc
    have hvis : Vis X.env.scope y := (ok.free _ (PySem.mem_of_lookup hfr.1) rfl).elim (fun k => .inr (.inl k)) (fun k => .inr (.inr k))
    obtain ⟨w, r, q⟩ := hl i y av e1 e2 hvis
    refine ⟨w, r, .inr ⟨hfr.2, ?_⟩⟩
    obtain ⟨c, h1, h2⟩ := look hfr.1
    rcases q with ⟨k, _⟩ | ⟨_, c', e', z⟩
    · have k : X.env.scope.names.lookup y = some .local := k
      rcases ok.free _ (PySem.mem_of_lookup hfr.1) rfl with k' | k' <;> rw [show X.env.scope.names.lookup y = _ from k'] at k <;> cases k
    · rw [h2] at e'; cases e'
      exact ⟨c, h1, z.keeps kp⟩
  · have e : cenv.cells.lookup y = some c := e
    rcases mem e with ⟨h1, _⟩ | ⟨_, z⟩
    · obtain ⟨w, z⟩ := I.cell y c h1
      exact ⟨w, z.keeps kp⟩
    · exact ⟨_, z⟩
  · show H cenv.locals = none
    rw [hL]; exact I.hok.fresh (Nat.le_refl _)
  · have e : cenv.cells.lookup y = some c := e
    rcases mem e with ⟨h1, _⟩ | ⟨h1, _⟩
    · exact I.freeC y c h1
    · exact I.hok.fresh (Nat.le_of_succ_le h1)
  · exact absurd (show p ∈ ([] : List (Addr × Obj)) ++ [] from hp) (by simp)
/-- an item appended to a tracked list -/
theorem app_ok {E : Value → Shared → Prop} {D : Addr} {xs : List V} {y : V} {v : Value} {Q : Value → Shared → Prop} (I : Inv X pins σ H s) (hD : H D = some (.lst xs)) (hz : xs.length < sizeLine) (r : RelV y v)
    (h : ∀ s', Inv X pins σ (upd H D (.lst (xs ++ [y]))) s' → Q .none s') : wpAny (model X.prog X.w) X.A (call (.builtin "list.append") [.ref D, v]) Q E s := by
  obtain ⟨hz', its, n, ri, e⟩ := I.hok D _ hD
  have hl := ri.length
  refine append_at (hsz := by rw [List.size_toArray]; omega) e fun h' sb ho' => ?_
  refine h { s with heap := h' } (I.write (t' := s.toks) (by rw [hD]; trivial) (.inl rfl) (fun b u hb q => (sb.2 b hb).trans q) ⟨_, ho'⟩ ⟨by rw [List.length_append]; exact hz, its ++ [v], n + 1, ri.append (.cons r .nil), ?_⟩)
  rw [ho']
  simp
/-- a clause's tests -/
def PTs (X : Cx) (ifs : List Expr) (t : TT) : Prop :=
  ∀ (pins : List (Addr × Obj)) (s : Shared) (σ : St) (H : Hp) (Q : Bool → Hp → Prop), Inv X pins σ H s → t σ H Q →
    wpAny (model X.prog X.w) X.A (forIn ifs true fun c r => if r = true then do let ok ← isTrue c X.env (eval c X.env); pure (ForInStep.yield ok) else pure (ForInStep.yield r)) (TP X pins σ Q) X.xe s
def tYes : TT := fun _ H Q => Q true H
theorem pts_nil : PTs X [] tYes := fun _ _ _ H _ I h => wpAny_tests_nil ⟨H, I, h⟩
end
theorem thnF {α : Type} {t : Sem α} {Q Q' : α → Shared → Prop} {M : Model} {A : Around} {E : Value → Shared → Prop} {s : Shared} (h : wpAny M A t Q (fun _ _ => False) s) (hQ : ∀ a s, Q a s → Q' a s) : wpAny M A t Q' E s := wpAny_mono h hQ fun _ _ z => False.elim z
/-- the loop of a list comprehension's block, the target of any form (codeAny_compLoop_tests asks a target that no tuple goes to; statement and proof follow it, PyProof/CompMap.lean:41-61, with the step letOwnedTupleGo kept) -/
theorem compLoop_any {prog : Program} {w : World} {A : Around} {R : Result → Shared → Prop} {s : Shared} {elt target iter : Expr} {ifs : List Expr} {scope : Scope} {pos : Pos} {it acc : Value} {env : Env} (I : Nat → Shared → Prop)
    (turn : ∀ n s, I n s → wpAny (model prog w) A (pyNext it) (fun r s₁ => match r with
      | none => R (.ok .next) s₁
      | some v => wpAny (model prog w) A (letOwnedTupleGo target it v) (fun _ s₁' => wpAny (model prog w) A (assign target env v) (fun _ s₂ =>
          wpAny (model prog w) A (forIn ifs true fun c r => if r = true then do let ok ← isTrue c env (eval c env); pure (ForInStep.yield ok) else pure (ForInStep.yield r)) (fun ok s₃ =>
            if ok = true then wpAny (model prog w) A (eval elt env) (fun x s₄ =>
              wpAny (model prog w) A (call (.builtin "list.append") [acc, x]) (fun _ s₅ => ∃ m, m < n ∧ I m s₅) (notedBy (model prog w) A env fun e s' => R (.error e) s') s₄) (notedBy (model prog w) A env fun e s' => R (.error e) s') s₃
            else ∃ m, m < n ∧ I m s₃) (notedBy (model prog w) A env fun e s' => R (.error e) s') s₂) (notedBy (model prog w) A env fun e s' => R (.error e) s') s₁') (notedBy (model prog w) A env fun e s' => R (.error e) s') s₁) (notedBy (model prog w) A env fun e s' => R (.error e) s') s)
    (n : Nat) (h : I n s) :
    codeAny (model prog w) A (.compLoop (.ListComp elt [⟨target, iter, ifs, 0⟩] scope pos) 0 it acc env) R s := by
  refine codeAny_loop rfl I (fun n s hI => ?_) n h
  show wpAny _ A ((compTurn (.ListComp elt [⟨target, iter, ifs, 0⟩] scope pos) 0 it acc env).onRaise (fun x => do noteFrame x env; theTreesLotGoes x)) _ _ s
  refine wpAny_noted ?_
  rw [compTurn_list]
  refine wpAny_bind (wpAny_standAt (wpAny_bind (wpAny_mono (turn n s hI) (fun r s₁ h₁ => ?_) fun _ _ h' => h')))
  cases r with
  | none => exact wpAny_pure h₁
  | some v =>
    refine wpAny_bind (wpAny_mono h₁ (fun _ s₁' h₁' => ?_) fun _ _ h' => h')
    refine wpAny_bind (wpAny_mono h₁' (fun _ s₂ h₂ => wpAny_bind (wpAny_mono h₂ (fun ok s₃ h₃ => ?_) fun _ _ h' => h')) fun _ _ h' => h')
    cases ok with
    | false => exact wpAny_pure ⟨rfl, h₃⟩
    | true =>
      exact wpAny_bind (wpAny_bind (wpAny_mono h₃ (fun x s₄ h₄ => wpAny_bind (wpAny_mono h₄ (fun _ s₅ h₅ => wpAny_pure (wpAny_pure ⟨rfl, h₅⟩)) fun _ _ h' => h')) fun _ _ h' => h'))
section
variable {X : Cx}
/-- [elt for target in iter if ..]: D the new list; W by the turn and a measure, Nx what a turn is to reach -/
def tLc (wi : TI) (g : TG) (tt : TT) (te : TE) (vs : List Nat) : TE := fun σ H Q => wi σ H fun J H1 => ∀ D, H1 D = none → ∃ W : Nat → Nat → Hp → Prop, (∃ m, W 0 m (upd H1 D (.lst []))) ∧ ∀ i m H, W i m H →
  (J.stop i H ∧ Q (.ref D) H) ∨ (J.go i H ∧ ∃ Nx : Hp → Prop, (∀ H', Nx H' → ∃ m', m' < m ∧ W (i + 1) m' H') ∧ ∀ x H', J.yld i H x H' → g x (wipe σ vs) H' fun σ2 H2 => wipe σ2 vs = wipe σ vs ∧ tt σ2 H2 fun b H3 =>
    if b = true then te σ2 H3 fun y H4 => ∃ acc, H4 D = some (.lst acc) ∧ acc.length < sizeLine ∧ Nx (upd H4 D (.lst (acc ++ [y]))) else Nx H3)
theorem lc_core {pins : List (Addr × Obj)} {s : Shared} {σ : St} {H : Hp} {Q : VK} {elt tg iter : Expr} {ifs : List Expr} {scope : Scope} {own : List (Str × Nat)} {pos pos' : Pos} {wi : TI} {g : TG} {tt : TT} {te : TE} {use : Option (Value → Sem Unit)} {Qf : Value → Shared → Prop}
    (hc : X.calm = true) (hN : X.N.Nodup) (I : Inv X pins σ H s) (hi : PI X tg iter wi) (ok : BlkOk X.N X.env.scope scope own)
    (hg : ∀ (s : Shared) (H : Hp) (C : Addr) (cl : List (Str × Addr)) (fp : List Addr), PG (X.blk s H scope (compEnvC scope cl C X.env) fp) tg g) (ht : ∀ (s : Shared) (H : Hp) (C : Addr) (cl : List (Str × Addr)) (fp : List Addr), PTs (X.blk s H scope (compEnvC scope cl C X.env) fp) ifs tt)
    (he : ∀ (s : Shared) (H : Hp) (C : Addr) (cl : List (Str × Addr)) (fp : List Addr), PE (X.blk s H scope (compEnvC scope cl C X.env) fp) elt te) (hs : ∀ x, foldedSetIterable iter X.env x = pure x)
    (h : tLc wi g tt te (own.map (·.2)) σ H Q)
    (hRR : ∀ D C s' m H', Inv X pins σ H' s' → Q (.ref D) H' → s'.heap.Ns C m → FpOk X pins H' C → compPost (model X.prog X.w) X.A X.xe use Qf (.ref D) C (.ok .next) s') :
    wpAny (model X.prog X.w) X.A (comprehension (.ListComp elt [⟨tg, iter, ifs, 0⟩] scope pos) scope X.env pos' (newList []) false (eval iter X.env) use) Qf X.xe s := by
  have hfree : ∀ y ∈ scope.names, y.2 = .free → ∃ c, X.env.cells.lookup y.1 = some c := fun y hy e => by
    rcases ok.free y hy e with k | k
    · exact I.ok.has _ (.inl k)
    · exact I.ok.has _ (.inr k)
  refine wpAny_comprehension_free (use := use) rfl hs (closure_ok hfree) ok.kind (fun y hy e => by rw [ok.uniq y hy, e])
    (thn (hi pins s σ H _ I h) fun xv s1 hx => thn hx fun itv s2 h2 => ?_)
  obtain ⟨it, fp, tn, J, H2, e, I2, T, st2, f2, q⟩ := h2
  subst e
  refine wpAny_newObj_type (newEnv_comp ?_) (by show 0 ≤ sizeLine; decide)
  generalize hD : s2.heap.objs.size = D
  have hDn : H2 D = none := I2.hok.fresh (Nat.le_of_eq hD)
  obtain ⟨W, ⟨m0, w0⟩, turn⟩ := q D hDn
  -- the new list
  generalize hs3 : ({ s2 with heap := s2.heap.push { cls := .type "list", data := .seq ([] : List Value).toArray } } : Shared) = s3
  have I3 : Inv X pins σ (upd H2 D (.lst [])) s3 := by
    rw [← hs3]
    refine I2.laid (t' := s2.toks) (fun b o e => Heap.get?_push_of_some _ e) (Nat.le_of_eq hD) ⟨Nat.zero_le _, [], 0, .nil, ?_⟩
    rw [← hD]
    exact Heap.get?_push_size _ rfl
  have h3 : s3.heap = s2.heap.push { cls := .type "list", data := .seq ([] : List Value).toArray } := by rw [← hs3]
  have sz : ∀ b ∈ fp, b < s2.heap.objs.size := fun b hb => by
    obtain ⟨o, e, _⟩ := T.obj _ _ st2 b hb
    exact Heap.lt_size e
  have f3 : ∀ b ∈ fp, FpOk X pins (upd H2 D (.lst [])) b ∧ b < s3.heap.objs.size := fun b hb => by
    have hlt := sz b hb
    refine ⟨⟨?_, (f2 b hb).2⟩, by rw [h3, Heap.size_push]; exact Nat.lt_succ_of_lt hlt⟩
    rw [upd_ne (by rw [← hD]; exact Nat.ne_of_lt hlt)]
    exact (f2 b hb).1
  have st3 : tn 0 s3.heap := T.keep _ _ _ st2 fun b _ o e => by rw [h3]; exact Heap.get?_push_of_some _ e
  have I4 := block_start I3 ok hN f3
  have pg := hg s3 (upd H2 D (.lst [])) s3.heap.objs.size (cellsFrom (s3.heap.objs.size + 1) scope.names (cloFrom X.env.cells scope.names [])) fp
  have pt := ht s3 (upd H2 D (.lst [])) s3.heap.objs.size (cellsFrom (s3.heap.objs.size + 1) scope.names (cloFrom X.env.cells scope.names [])) fp
  have pe := he s3 (upd H2 D (.lst [])) s3.heap.objs.size (cellsFrom (s3.heap.objs.size + 1) scope.names (cloFrom X.env.cells scope.names [])) fp
  show codeAny _ _ (.compStart (.ListComp elt [⟨tg, iter, ifs, 0⟩] scope pos) 0 (.ref it) (.ref D) (compEnvC scope (cellsFrom (s3.heap.objs.size + 1) scope.names (cloFrom X.env.cells scope.names [])) s3.heap.objs.size X.env)) (compPost (model X.prog X.w) X.A X.xe use Qf (.ref D) s3.heap.objs.size) { s3 with heap := pushCells (s3.heap.push { cls := .type "dict", data := .dict #[] }) scope.names }
  have nfp : ∀ b ∈ fp, (upd H2 D (.lst [])) b = none := fun b hb => (f3 b hb).1.1
  generalize hce : compEnvC scope (cellsFrom (s3.heap.objs.size + 1) scope.names (cloFrom X.env.cells scope.names [])) s3.heap.objs.size X.env = ce at I4 pg pt pe ⊢
  have cL : ce.locals = s3.heap.objs.size := by subst hce; rfl
  generalize hH3 : upd H2 D (.lst []) = H3 at I3 I4 pg pt pe w0 nfp f3
  generalize hs4 : ({ s3 with heap := pushCells (s3.heap.push { cls := .type "dict", data := .dict #[] }) scope.names } : Shared) = s4 at I4 ⊢
  have st4 : tn 0 s4.heap := T.keep _ _ _ st3 fun b _ o e => by rw [← hs4]; exact pushCells_keeps _ _ _ _ (Heap.get?_push_of_some _ e)
  have stat : ∀ {σ' : St} {H' : Hp} {s' : Shared}, Inv (X.blk s3 H3 scope ce fp) [] σ' H' s' → (∀ b ∈ fp, H' b = none) → ∀ b ∈ fp, FpOk (X.blk s3 H3 scope ce fp) [] H' b := fun {σ' H' s'} I' hn b hb =>
    ⟨hn b hb, (I'.ok.exf b hb).1, I'.ok.exfs b hb, .inl hb, fun x c e => (I'.ok.exf b hb).2 x c e, fun p hp => absurd (show p ∈ ([] : List (Addr × Obj)) ++ [] from hp) (by simp)⟩
  have loop : codeAny (model X.prog X.w) X.A (.compLoop (.ListComp elt [⟨tg, iter, ifs, 0⟩] scope pos) 0 (.ref it) (.ref D) ce) (compPost (model X.prog X.w) X.A X.xe use Qf (.ref D) s3.heap.objs.size) s4 := by
    refine compLoop_any (fun n s' => ∃ i H', Inv (X.blk s3 H3 scope ce fp) [] (wipe σ (own.map (·.2))) H' s' ∧ tn i s'.heap ∧ (∀ b ∈ fp, H' b = none) ∧ W i n H') ?_ m0 ⟨0, H3, I4, st4, nfp, w0⟩
    rintro n s5 ⟨i, H5, I5, st5, n5, w5⟩
    rcases turn i n H5 w5 with ⟨stop, qq⟩ | ⟨go, Nx, hNx, step⟩
    · have td := T.done (X.blk s3 H3 scope ce fp) rfl rfl rfl hc i [] s5 _ H5 (fun _ _ => False) I5 (stat I5 n5) st5 stop
      refine thnF td fun r s6 ⟨hr, I6⟩ => ?_
      subst hr
      -- back in the def's context
      have I7 : Inv X pins σ H5 s6 := I3.call' (ch := fp) I6.os I6.base I6.hok I6.bare fun b hb => ⟨(f3 b hb).1.2.2.2.1, (f3 b hb).1.2.1, (f3 b hb).1.2.2.2.2.1, (f3 b hb).1.2.2.2.2.2⟩
      have nC : H5 s3.heap.objs.size = none := by
        have z : H5 ce.locals = none := I6.free
        rw [cL] at z
        exact z
      obtain ⟨m, hn, _⟩ := I6.loc
      have hn : s6.heap.Ns ce.locals m := hn
      rw [cL] at hn
      exact hRR D s3.heap.objs.size s6 m H5 I7 qq hn (I3.fpOk (Nat.le_refl _) nC)
    · have ti := T.item (X.blk s3 H3 scope ce fp) rfl rfl rfl hc i [] s5 _ H5 (fun _ _ => False) I5 (stat I5 n5) st5 go
      refine thnF ti fun r s6 ⟨u, hr, h6⟩ => ?_
      subst hr
      refine thnF h6 fun _ s7 ⟨x, H7, I7, r7, y7, st7, n7⟩ => ?_
      have I7' := I7.pinned (stat I7 n7) (T.obj _ _ st7)
      refine thnF (pg _ s7 _ H7 x u _ I7' r7 (step x H7 y7)) fun _ s8 ⟨σ8, H8, I8, hw8, q8⟩ => ?_
      refine thnF (pt _ s8 σ8 H8 _ I8 q8) fun b s9 ⟨H9, I9, q9⟩ => ?_
      -- the turn's end
      have fin : ∀ {s' : Shared} {H' : Hp}, Inv (X.blk s3 H3 scope ce fp) ([] ++ pinsAt fp s7.heap) σ8 H' s' → Nx H' → ∃ m, m < n ∧ ∃ i H', Inv (X.blk s3 H3 scope ce fp) [] (wipe σ (own.map (·.2))) H' s' ∧ tn i s'.heap ∧ (∀ b ∈ fp, H' b = none) ∧ W i m H' := fun {s' H'} I' nx => by
        obtain ⟨m', hm, w'⟩ := hNx H' nx
        have pin' : ∀ b ∈ fp, ∀ o, s7.heap.get? b = some o → s'.heap.get? b = some o ∧ H' b = none := fun b hb o e =>
          let z := I'.pin (b, o) (List.mem_append_right _ (List.mem_append_right _ (mem_pinsAt hb e)))
          ⟨z.1, z.2.1⟩
        have hl : (wipe σ (own.map (·.2))).length = σ8.length := by rw [← hw8, wipe_length]
        refine ⟨m', hm, i + 1, H', (I'.unpinned (pins := [])).weak hl (fun j v e => ?_), T.keep _ _ _ st7 fun b hb o e => (pin' b hb o e).1, fun b hb => ?_, w'⟩
        · rw [← hw8] at e
          exact (wipe_some e).1
        · obtain ⟨o, e, _⟩ := T.obj _ _ st7 b hb
          exact (pin' b hb o e).2
      cases b with
      | false =>
        simp only [Bool.false_eq_true, if_false] at q9 ⊢
        exact fin I9 q9
      | true =>
        simp only [if_true] at q9 ⊢
        refine thnF (pe _ s9 σ8 H9 _ I9 q9) fun z s10 ⟨yv, H10, I10, r10, acc, hD10, hz10, nx⟩ => ?_
        exact app_ok (X := X.blk s3 H3 scope ce fp) I10 hD10 hz10 r10 fun s11 I11 => fin I11 nx
  exact codeAny_compStart_list loop (T.self X.A 0 _ _ _ st4 loop)
/-- as a value -/
theorem pe_lc {elt tg iter : Expr} {ifs : List Expr} {scope : Scope} {own : List (Str × Nat)} {pos : Pos} {wi : TI} {g : TG} {tt : TT} {te : TE} (hc : X.calm = true) (hN : X.N.Nodup) (hi : PI X tg iter wi) (ok : BlkOk X.N X.env.scope scope own)
    (hg : ∀ (s : Shared) (H : Hp) (C : Addr) (cl : List (Str × Addr)) (fp : List Addr), PG (X.blk s H scope (compEnvC scope cl C X.env) fp) tg g) (ht : ∀ (s : Shared) (H : Hp) (C : Addr) (cl : List (Str × Addr)) (fp : List Addr), PTs (X.blk s H scope (compEnvC scope cl C X.env) fp) ifs tt)
    (he : ∀ (s : Shared) (H : Hp) (C : Addr) (cl : List (Str × Addr)) (fp : List Addr), PE (X.blk s H scope (compEnvC scope cl C X.env) fp) elt te) (hs : ∀ x, foldedSetIterable iter X.env x = pure x := by intro _; rfl) :
    PE X (.ListComp elt [⟨tg, iter, ifs, 0⟩] scope pos) (tLc wi g tt te (own.map (·.2))) := by
  intro pins s σ H Q I h
  rw [eval_ListComp]
  refine lc_core hc hN I hi ok hg ht he hs h fun D C s' m H' I' q hn f => ⟨m, hn, fun h'' sb => ?_⟩
  obtain ⟨f0, f1, f2, f3, f4, f5⟩ := f
  exact ⟨.ref D, H', I'.turned (t' := s'.toks) (fun b o hb e => (sb.2 b hb).trans e) f0 f1 f3 f4 f5, rfl, q⟩
/-- name = [..] on one line, the name a local -/
theorem ps_setLc {i : Nat} {y : Str} {py : Pos} {elt tg iter : Expr} {ifs : List Expr} {scope : Scope} {own : List (Str × Nat)} {pos spos : Pos} {wi : TI} {g : TG} {tt : TT} {te : TE} (hc : X.calm = true) (hN : X.N.Nodup) (hy : X.N[i]? = some y) (hyl : X.env.scope.names.lookup y = some .local)
    (hsw : swapsWith (.ListComp elt [⟨tg, iter, ifs, 0⟩] scope pos) (some (.Name y py)) spos.line X.env = pure true) (hi : PI X tg iter wi) (ok : BlkOk X.N X.env.scope scope own)
    (hg : ∀ (s : Shared) (H : Hp) (C : Addr) (cl : List (Str × Addr)) (fp : List Addr), PG (X.blk s H scope (compEnvC scope cl C X.env) fp) tg g) (ht : ∀ (s : Shared) (H : Hp) (C : Addr) (cl : List (Str × Addr)) (fp : List Addr), PTs (X.blk s H scope (compEnvC scope cl C X.env) fp) ifs tt)
    (he : ∀ (s : Shared) (H : Hp) (C : Addr) (cl : List (Str × Addr)) (fp : List Addr), PE (X.blk s H scope (compEnvC scope cl C X.env) fp) elt te) (hs : ∀ x, foldedSetIterable iter X.env x = pure x := by intro _; rfl) :
    PS X (.Assign [.Name y py] (.ListComp elt [⟨tg, iter, ifs, 0⟩] scope pos) spos) (tAsg (tLc wi g tt te (own.map (·.2))) (gName i)) := by
  intro pins s σ H D I h
  rw [exec_Assign_Name_used _ _ _ _ hsw]
  refine wpAny_bind (wpAny_standAt (wpAny_bind ?_))
  show wpAny _ X.A (do let _ ← comprehension (.ListComp elt [⟨tg, iter, ifs, 0⟩] scope pos) scope X.env (firstIterPos [⟨tg, iter, ifs, 0⟩] pos) (newList []) false (eval iter X.env) (some (assign (.Name y py) X.env))) _ _ s
  have h : tLc wi g tt te (own.map (·.2)) σ H (fun x H1 => gName i x σ H1 D.nx) := h
  refine wpAny_bind (thn (lc_core (Qf := fun _ s' => SP X pins D .next s') hc hN I hi ok hg ht he hs h fun L C s' m H' I' q hn f => ?_) fun _ s' hq => wpAny_pure (wpAny_pure hq))
  show wpAny _ _ (assign (.Name y py) X.env (.ref L)) _ _ _
  refine wpAny_assign_Name (store_ok2 (v := V.ref L) I' hN hy (.inl hyl) rfl (fun s2 I2 ⟨a, sb, ha⟩ => ?_) (.inr hyl))
  obtain ⟨f0, f1, f2, f3, f4, f5⟩ := f
  have haC : C ≠ a := by
    rcases ha with z | z
    · rw [z]; exact f1
    · exact fun e => f4 y a z e.symm
  refine ⟨m, hn.sameBut sb haC, fun h3 sb3 => ?_⟩
  exact ⟨_, H', I2.turned (t' := s2.toks) (fun b o hb e => (sb3.2 b hb).trans e) f0 f1 f3 f4 f5, q⟩
theorem sw_true {elt : Expr} {gs : List Comprehension} {scope : Scope} {pos py : Pos} {y : Str} {l : Nat} {env : Env} (hk : env.scope.kind = .function) (hy : env.scope.names.lookup y = some .local) (hl : (py.line == pos.line) = true)
    (ha : (scope.names.any fun (n, k) => n == y && (k == .local || k == .cell)) = false) : swapsWith (.ListComp elt gs scope pos) (some (.Name y py)) l env = pure true := by
  have ky : env.kindOf y = some .local := hy
  have hb : env.blockKind = .function := by unfold Env.blockKind; rw [hk]; rfl
  unfold swapsWith
  simp only [hb, ky, ha, Expr.pos, hl]
  rfl
end
/-- over a range: Pv by the turn and the heap (the new list at D within) -/
theorem lc_range {lo : Int} {n : Nat} {g : TG} {tt : TT} {te : TE} {vs : List Nat} {σ : St} {H1 : Hp} {D : Addr} {Qd : Hp → Prop} (Pv : Nat → Hp → Prop) (h0 : Pv 0 (upd H1 D (.lst [])))
    (hs : ∀ i H, i < n → Pv i H → g (.int (lo + i)) (wipe σ vs) H fun σ2 H2 => wipe σ2 vs = wipe σ vs ∧ tt σ2 H2 fun b H3 =>
      if b = true then te σ2 H3 fun y H4 => ∃ acc, H4 D = some (.lst acc) ∧ acc.length < sizeLine ∧ Pv (i + 1) (upd H4 D (.lst (acc ++ [y]))) else Pv (i + 1) H3) (hd : ∀ H, Pv n H → Qd H) :
    ∃ W : Nat → Nat → Hp → Prop, (∃ m, W 0 m (upd H1 D (.lst []))) ∧ ∀ i m H, W i m H →
      ((Itr lo n).stop i H ∧ Qd H) ∨ ((Itr lo n).go i H ∧ ∃ Nx : Hp → Prop, (∀ H', Nx H' → ∃ m', m' < m ∧ W (i + 1) m' H') ∧ ∀ x H', (Itr lo n).yld i H x H' → g x (wipe σ vs) H' fun σ2 H2 => wipe σ2 vs = wipe σ vs ∧ tt σ2 H2 fun b H3 =>
        if b = true then te σ2 H3 fun y H4 => ∃ acc, H4 D = some (.lst acc) ∧ acc.length < sizeLine ∧ Nx (upd H4 D (.lst (acc ++ [y]))) else Nx H3) := by
  refine ⟨fun i m H => m = n - i ∧ i ≤ n ∧ Pv i H, ⟨n, by simp, Nat.zero_le _, h0⟩, ?_⟩
  rintro i m H ⟨rfl, hi, p⟩
  by_cases hlt : i < n
  · refine .inr ⟨hlt, Pv (i + 1), fun H' p' => ⟨n - (i + 1), by omega, rfl, hlt, p'⟩, fun x H' y => ?_⟩
    obtain ⟨e, y⟩ := y
    subst e y
    exact hs i _ hlt p
  · have e : i = n := by omega
    subst e
    exact .inl ⟨Nat.le_refl _, hd H p⟩
/-- over a list that the block leaves as it is -/
theorem lc_list {K : PySem.W.Frag} {a : Addr} {xs : List V} {g : TG} {tt : TT} {te : TE} {vs : List Nat} {σ : St} {H1 : Hp} {D : Addr} {Qd : Hp → Prop} (Pv : Nat → Hp → Prop) (h0 : Pv 0 (upd H1 D (.lst []))) (hl : ∀ i H, i ≤ xs.length → Pv i H → SqL K H a xs)
    (hs : ∀ i x H, xs[i]? = some x → Pv i H → g x (wipe σ vs) H fun σ2 H2 => wipe σ2 vs = wipe σ vs ∧ tt σ2 H2 fun b H3 =>
      if b = true then te σ2 H3 fun y H4 => ∃ acc, H4 D = some (.lst acc) ∧ acc.length < sizeLine ∧ Pv (i + 1) (upd H4 D (.lst (acc ++ [y]))) else Pv (i + 1) H3) (hd : ∀ H, Pv xs.length H → Qd H) :
    ∃ W : Nat → Nat → Hp → Prop, (∃ m, W 0 m (upd H1 D (.lst []))) ∧ ∀ i m H, W i m H →
      ((Itl K a).stop i H ∧ Qd H) ∨ ((Itl K a).go i H ∧ ∃ Nx : Hp → Prop, (∀ H', Nx H' → ∃ m', m' < m ∧ W (i + 1) m' H') ∧ ∀ x H', (Itl K a).yld i H x H' → g x (wipe σ vs) H' fun σ2 H2 => wipe σ2 vs = wipe σ vs ∧ tt σ2 H2 fun b H3 =>
        if b = true then te σ2 H3 fun y H4 => ∃ acc, H4 D = some (.lst acc) ∧ acc.length < sizeLine ∧ Nx (upd H4 D (.lst (acc ++ [y]))) else Nx H3) := by
  refine ⟨fun i m H => m = xs.length - i ∧ i ≤ xs.length ∧ Pv i H, ⟨xs.length, by simp, Nat.zero_le _, h0⟩, ?_⟩
  rintro i m H ⟨rfl, hi, p⟩
  have q := hl i H hi p
  by_cases hlt : i < xs.length
  · refine .inr ⟨⟨xs, xs[i], q, by simp [hlt]⟩, Pv (i + 1), fun H' p' => ⟨xs.length - (i + 1), by omega, rfl, hlt, p'⟩, fun x H' y => ?_⟩
    obtain ⟨e, y⟩ := y
    subst e
    exact hs i x _ (y xs q) p
  · have e : i = xs.length := by omega
    subst e
    exact .inl ⟨⟨xs, q, Nat.le_refl _⟩, hd H p⟩
def blkC (N : List Str) (sc scope : Scope) (own : List (Str × Nat)) : Bool :=
  (match scope.kind with | .function => true | _ => false) && (scope.names.all fun y => decide (scope.names.lookup y.1 = some y.2)) && (own.all fun p => decide (N[p.2]? = some p.1)) &&
    (scope.names.all fun y => match y.2 with
      | .free => (match sc.names.lookup y.1 with | some .cell => true | some .free => true | _ => false)
      | .local => decide (y.1 ∈ own.map (·.1)) || decide (y.1 ∉ N)
      | .cell => decide (y.1 ∈ own.map (·.1)) || decide (y.1 ∉ N)
      | _ => true)
theorem blkOk_by {N : List Str} {sc scope : Scope} {own : List (Str × Nat)} (h : blkC N sc scope own = true) : BlkOk N sc scope own := by
  unfold blkC at h
  simp only [Bool.and_eq_true, List.all_eq_true, decide_eq_true_eq] at h
  obtain ⟨⟨⟨h1, h2⟩, h3⟩, h4⟩ := h
  refine ⟨?_, h2, h3, fun y hy e => ?_, fun y hy e => ?_⟩
  · split at h1
    · assumption
    · cases h1
  · have q := h4 y hy
    simp only [e] at q
    split at q <;> first | exact .inl (by assumption) | exact .inr (by assumption) | cases q
  · have q := h4 y hy
    rcases e with e | e <;> (simp only [e, Bool.or_eq_true, decide_eq_true_eq] at q; exact q)
end L2
namespace L2
open PySem PySem.Spec PyProof.Rows
end L2
namespace L2
open PySem PySem.Spec PyProof.Rows
section
variable {κ : Type} [DecidableEq κ]
def valV (kvs : List (κ × V)) (k : κ) : Option V := (kvs.find? fun kv => decide (kv.1 = k)).map (·.2)
/-- in its place, or at the end -/
def putK (kvs : List (κ × V)) (k : κ) (v : V) : List (κ × V) :=
  if (kvs.any fun kv => decide (kv.1 = k)) = true then kvs.map (fun kv => if kv.1 = k then (kv.1, v) else kv) else kvs ++ [(k, v)]
theorem valV_pos {p : κ × V} {r : List (κ × V)} {k : κ} (e : p.1 = k) : valV (p :: r) k = some p.2 := by simp [valV, List.find?_cons, e]
theorem valV_neg {p : κ × V} {r : List (κ × V)} {k : κ} (e : ¬ p.1 = k) : valV (p :: r) k = valV r k := by simp [valV, List.find?_cons, e]
theorem valV_any (k : κ) : ∀ kvs : List (κ × V), (kvs.any fun kv => decide (kv.1 = k)) = (valV kvs k).isSome
  | [] => rfl
  | p :: r => by
    rw [List.any_cons]
    by_cases e : p.1 = k
    · simp only [valV_pos e, decide_eq_true e, Bool.true_or, Option.isSome_some]
    · rw [valV_neg e, decide_eq_false e, Bool.false_or]; exact valV_any k r
theorem valV_map (k j : κ) (y : V) : ∀ kvs : List (κ × V), valV (kvs.map fun kv => if kv.1 = k then (kv.1, y) else kv) j = (valV kvs j).map fun x => if j = k then y else x
  | [] => rfl
  | p :: r => by
    have ih := valV_map k j y r
    rw [List.map_cons]
    by_cases h : p.1 = k
    · rw [if_pos h]
      by_cases e : p.1 = j
      · rw [valV_pos (p := (p.1, y)) e, valV_pos e, Option.map_some, if_pos (e.symm.trans h)]
      · rw [valV_neg (p := (p.1, y)) e, valV_neg e, ih]
    · rw [if_neg h]
      by_cases e : p.1 = j
      · rw [valV_pos (p := p) e, valV_pos e, Option.map_some, if_neg (fun z => h (e.trans z))]
      · rw [valV_neg (p := p) e, valV_neg e, ih]
theorem valV_snoc (k j : κ) (y : V) : ∀ kvs : List (κ × V), valV kvs k = none → valV (kvs ++ [(k, y)]) j = if j = k then some y else valV kvs j
  | [], _ => by
    by_cases e : k = j
    · rw [if_pos e.symm]; exact valV_pos (p := (k, y)) e
    · rw [if_neg (fun z => e z.symm)]; exact valV_neg (p := (k, y)) e
  | p :: r, hn => by
    rw [List.cons_append]
    have hk : ¬ p.1 = k := fun z => by rw [valV_pos z] at hn; cases hn
    rw [valV_neg hk] at hn
    have ih := valV_snoc k j y r hn
    by_cases e : p.1 = j
    · rw [valV_pos e, valV_pos e, if_neg (fun z => hk (e.trans z))]
    · rw [valV_neg e, valV_neg e, ih]
theorem valV_put (kvs : List (κ × V)) (k j : κ) (y : V) : valV (putK kvs k y) j = if j = k then some y else valV kvs j := by
  unfold putK
  by_cases a : (kvs.any fun kv => decide (kv.1 = k)) = true
  · rw [if_pos a, valV_map]
    rw [valV_any] at a
    by_cases e : j = k
    · obtain ⟨x, hx⟩ := Option.isSome_iff_exists.mp a
      rw [if_pos e, e, hx, Option.map_some, if_pos rfl]
    · rw [if_neg e]
      cases valV kvs j with
      | none => rfl
      | some x => rw [Option.map_some, if_neg e]
  · rw [if_neg a]
    refine valV_snoc k j y kvs ?_
    rw [valV_any] at a
    cases q : valV kvs k with
    | none => rfl
    | some x => rw [q] at a; exact (a rfl).elim
theorem length_putK (kvs : List (κ × V)) (k : κ) (v : V) : (putK kvs k v).length ≤ kvs.length + 1 := by
  unfold putK
  split
  · rw [List.length_map]; omega
  · rw [List.length_append, List.length_cons, List.length_nil]; omega
theorem RelO.isSome_eq {o : Option V} {u : Option Value} (r : RelO o u) : o.isSome = u.isSome := by
  cases o with
  | none => cases u with
    | none => rfl
    | some _ => exact (show False from r).elim
  | some _ => cases u with
    | none => exact (show False from r).elim
    | some _ => rfl
theorem RelO.getD {o : Option V} {u : Option Value} {d : V} {d' : Value} (r : RelO o u) (rd : RelV d d') : RelV (o.getD d) (u.getD d') := by
  cases o with
  | none => cases u with
    | none => exact rd
    | some _ => exact (show False from r).elim
  | some _ => cases u with
    | none => exact (show False from r).elim
    | some _ => exact r
/-- raw tables of the same keys -/
theorem KV.val {kvs : List (κ × V)} {vs : List (κ × Value)} (r : KV kvs vs) (k : κ) : RelO (valV kvs k) (valueAt vs k) := by
  unfold KV at r
  induction r with
  | nil => exact True.intro
  | @cons p q ps qs h t ih =>
    obtain ⟨h1, h2⟩ := h
    by_cases e : p.1 = k
    · have e' : q.1 = k := h1.symm.trans e
      have b : valueAt (q :: qs) k = some q.2 := by simp [valueAt, List.find?_cons, e']
      rw [valV_pos e, b]; exact h2
    · have e' : ¬ q.1 = k := fun z => e (h1.trans z)
      have b : valueAt (q :: qs) k = valueAt qs k := by simp [valueAt, List.find?_cons, e']
      rw [valV_neg e, b]; exact ih
theorem KV.any {kvs : List (κ × V)} {vs : List (κ × Value)} (r : KV kvs vs) (k : κ) : (kvs.any fun kv => decide (kv.1 = k)) = vs.any fun kv => decide (kv.1 = k) := by
  unfold KV at r
  induction r with
  | nil => rfl
  | cons h t ih => rw [List.any_cons, List.any_cons, ih, h.1]
theorem KV.repl {kvs : List (κ × V)} {vs : List (κ × Value)} (r : KV kvs vs) (k : κ) {y : V} {u : Value} (ry : RelV y u) :
    KV (kvs.map fun kv => if kv.1 = k then (kv.1, y) else kv) (vs.map fun kv => if kv.1 = k then (kv.1, u) else kv) := by
  unfold KV at r ⊢
  induction r with
  | nil => exact .nil
  | @cons p q ps qs h t ih =>
    rw [List.map_cons, List.map_cons]
    refine .cons ?_ ih
    obtain ⟨h1, h2⟩ := h
    by_cases e : p.1 = k
    · rw [if_pos e, if_pos (h1.symm.trans e)]; exact ⟨h1, ry⟩
    · rw [if_neg e, if_neg (fun z => e (h1.trans z))]; exact ⟨h1, h2⟩
theorem KV.put {kvs : List (κ × V)} {vs : List (κ × Value)} (r : KV kvs vs) (k : κ) {y : V} {u : Value} (ry : RelV y u) : KV (putK kvs k y) (stored vs k u) := by
  unfold putK stored
  rw [r.any k]
  by_cases e : (vs.any fun kv => decide (kv.1 = k)) = true
  · rw [if_pos e, if_pos e]; exact r.repl k ry
  · rw [if_neg e, if_neg e]; exact Paired.snoc r ⟨rfl, ry⟩
theorem KV.length {kvs : List (κ × V)} {vs : List (κ × Value)} (r : KV kvs vs) : kvs.length = vs.length := Paired.length r
end
theorem kV_is {P : Program} {w : World} {k : Key} {u : Value} (r : RelV (kV k) u) : (mixKind P w).is k u = true := by
  cases k with
  | inl i => obtain ⟨t, e⟩ := (show ∃ t, u = Value.int i t from r); subst e; exact mixKind_int P w i t
  | inr x => obtain ⟨t, e⟩ := (show ∃ t, u = Value.str x t from r); subst e; exact mixKind_str P w x t
theorem items_are {P : Program} {w : World} : ∀ {ks : List Key} {us : List Value}, Vals (ks.map kV) us → ItemsAre (mixKind P w) ks us
  | [], _, r => by rw [List.map_nil] at r; cases r; exact .nil
  | k :: ks, _, r => by
    rw [List.map_cons] at r
    cases r with
    | cons h t => exact .cons (kV_is h) (items_are t)
/-- raw entries of a dict with tuple keys -/
abbrev KT (H : Hp) : List (List Key × V) → List (List Key × Addr × Value) → Prop := Paired fun p q => p.1 = q.1 ∧ H q.2.1 = some (.tup (p.1.map kV)) ∧ RelV p.2 q.2.2
theorem KT.val {H : Hp} {kvs : List (List Key × V)} {xs : List (List Key × Addr × Value)} (r : KT H kvs xs) (k : List Key) : RelO (valV kvs k) ((atKey xs k).map (·.2)) := by
  induction r with
  | nil => exact True.intro
  | @cons p q ps qs h t ih =>
    obtain ⟨h1, _, h2⟩ := h
    by_cases e : p.1 = k
    · have e' : q.1 = k := h1.symm.trans e
      have b : atKey (q :: qs) k = some q.2 := by simp [atKey, List.find?_cons, e']
      rw [valV_pos e, b]; exact h2
    · have e' : ¬ q.1 = k := fun z => e (h1.trans z)
      have b : atKey (q :: qs) k = atKey qs k := by simp [atKey, List.find?_cons, e']
      rw [valV_neg e, b]; exact ih
theorem KT.repl {H : Hp} {kvs : List (List Key × V)} {xs : List (List Key × Addr × Value)} (r : KT H kvs xs) (k : List Key) {y : V} {u : Value} (ry : RelV y u) :
    KT H (kvs.map fun kv => if kv.1 = k then (kv.1, y) else kv) (xs.map (putAt k u)) := by
  induction r with
  | nil => exact .nil
  | @cons p q ps qs h t ih =>
    rw [List.map_cons, List.map_cons]
    refine .cons ?_ ih
    obtain ⟨h1, h2, h3⟩ := h
    unfold putAt
    by_cases e : p.1 = k
    · rw [if_pos e, if_pos (h1.symm.trans e)]; exact ⟨h1, h2, ry⟩
    · rw [if_neg e, if_neg (fun z => e (h1.trans z))]; exact ⟨h1, h2, h3⟩
theorem KT.put {H : Hp} {kvs : List (List Key × V)} {xs : List (List Key × Addr × Value)} (r : KT H kvs xs) (k : List Key) {b : Addr} {y : V} {u : Value} (hb : H b = some (.tup (k.map kV))) (ry : RelV y u) :
    KT H (putK kvs k y) (storedH xs k b u) := by
  have e : (kvs.any fun kv => decide (kv.1 = k)) = (atKey xs k).isSome := by
    rw [valV_any, (r.val k).isSome_eq, Option.isSome_map]
  unfold putK storedH
  rw [e]
  by_cases q : (atKey xs k).isSome = true
  · rw [if_pos q, if_pos q]; exact r.repl k ry
  · rw [if_neg q, if_neg q]; exact Paired.snoc r ⟨rfl, hb, ry⟩
theorem KT.keeps {H H' : Hp} {kvs : List (List Key × V)} {xs : List (List Key × Addr × Value)} (r : KT H kvs xs) (ht : ∀ b ys, H b = some (.tup ys) → H' b = some (.tup ys)) : KT H' kvs xs :=
  Paired.mapP r fun _ _ z => ⟨z.1, ht _ _ z.2.1, z.2.2⟩
section
variable {P : Program} {w : World} {H : Hp} {h : Heap} {a : Addr}
theorem rd_of {u : HO} (ok : HOk P w H h) (e : Rd H a u) : ObjOk P w H h a u := e.ok ok
theorem dk_rd {kvs : List (Key × V)} (ok : HOk P w H h) (e : Rd H a (.dK kvs)) : kvs.length ≤ sizeLine ∧ (a == sysModules) = false ∧ ∃ vs, KV kvs vs ∧ h.DictOf (mixKind P w) a vs :=
  show ObjOk P w H h a (.dK kvs) from rd_of ok e
theorem dk_of {kvs : List (Key × V)} (ok : HOk P w H h) (e : H a = some (.dK kvs)) : kvs.length ≤ sizeLine ∧ (a == sysModules) = false ∧ ∃ vs, KV kvs vs ∧ h.DictOf (mixKind P w) a vs := dk_rd ok (.inl e)
/-- a tracked tuple of ints and texts is a key -/
theorem key_of {ks : List Key} (ok : HOk P w H h) (e : H a = some (.tup (ks.map kV))) : (tupleKind (mixKind P w)).is h ks a := by
  obtain ⟨_, its, r, o, h1, h2, n, h3⟩ := (show ObjOk P w H h a (.tup (ks.map kV)) from ok a _ e)
  exact ⟨o, its.toArray, n, h1, h2, h3, by simpa using items_are r⟩
theorem dt_rd {kvs : List (List Key × V)} (ok : HOk P w H h) (e : Rd H a (.dT kvs)) : kvs.length ≤ sizeLine ∧ (a == sysModules) = false ∧
    ∃ xs, KT H kvs xs ∧ h.DictOfH (tupleKind (mixKind P w)) a xs := by
  obtain ⟨z, y, xs, r, o, es, ep, h1, h2, h3, h4, h5⟩ := (show ObjOk P w H h a (.dT kvs) from rd_of ok e)
  refine ⟨z, y, xs, r, o, es, ep, h1, h2, h3, h4, fun x hx => ?_, h5⟩
  have all : ∀ {l : List (List Key × V)} {m : List (List Key × Addr × Value)}, KT H l m → ∀ x ∈ m, (tupleKind (mixKind P w)).is h x.1 x.2.1 := by
    intro l m q
    induction q with
    | nil => intro x hx; exact nomatch hx
    | @cons p q ps qs hq t ih =>
      intro x hx
      rcases List.mem_cons.mp hx with e | hx
      · subst e
        exact key_of ok (by rw [← hq.1]; exact hq.2.1)
      · exact ih x hx
  exact all r x hx
theorem dt_of {kvs : List (List Key × V)} (ok : HOk P w H h) (e : H a = some (.dT kvs)) : kvs.length ≤ sizeLine ∧ (a == sysModules) = false ∧
    ∃ xs, KT H kvs xs ∧ h.DictOfH (tupleKind (mixKind P w)) a xs := dt_rd ok (.inl e)
end
/-- what the dict at a holds at the key y -/
def DGet (H : Hp) (a : Addr) (y : V) (r : Option V) : Prop :=
  (∃ kvs k, Rd H a (.dK kvs) ∧ y = kV k ∧ r = valV kvs k) ∨ ∃ kvs k b, Rd H a (.dT kvs) ∧ y = .ref b ∧ H b = some (.tup (k.map kV)) ∧ r = valV kvs k
/-- the heap behind a[y] = v -/
def DPut (H : Hp) (a : Addr) (y v : V) (H' : Hp) : Prop :=
  (∃ kvs k, H a = some (.dK kvs) ∧ y = kV k ∧ kvs.length < sizeLine ∧ H' = upd H a (.dK (putK kvs k v))) ∨
  ∃ kvs k b, H a = some (.dT kvs) ∧ y = .ref b ∧ H b = some (.tup (k.map kV)) ∧ kvs.length < sizeLine ∧ H' = upd H a (.dT (putK kvs k v))
theorem DGet.k {H : Hp} {a : Addr} {kvs : List (Key × V)} {k : Key} (e : H a = some (.dK kvs)) : DGet H a (kV k) (valV kvs k) := .inl ⟨kvs, k, .inl e, rfl, rfl⟩
theorem DPut.k {H : Hp} {a : Addr} {kvs : List (Key × V)} {k : Key} {v : V} (e : H a = some (.dK kvs)) (hl : kvs.length < sizeLine) : DPut H a (kV k) v (upd H a (.dK (putK kvs k v))) := .inl ⟨kvs, k, e, rfl, hl, rfl⟩
section
variable {X : Cx} {pins : List (Addr × Obj)} {σ : St} {H : Hp} {s : Shared} {a : Addr} {y v : V} {u r : Value} {o : Option V} {A : Around} {E : Value → Shared → Prop}
theorem Inv.big (I : Inv X pins σ H s) : sysModules < s.heap.objs.size := by
  have h : mainGlobals < s.heap.objs.size := (I.mod.glob.keeps I.bk).lt
  exact Nat.lt_trans (by decide) h
/-- d[y], there -/
theorem d_getItem {Q : Value → Shared → Prop} (hu : A.units + 1 < cLine) (I : Inv X pins σ H s) (g : DGet H a y (some v)) (ry : RelV y u) (h : ∀ w' s', Inv X pins σ H s' → RelV v w' → Q w' s') :
    wpAny (model X.prog X.w) A (getItem (.ref a) u) Q E s := by
  rcases g with ⟨kvs, k, e, ey, l⟩ | ⟨kvs, k, b, e, ey, eb, l⟩
  · subst ey
    obtain ⟨z, hd, vs, rel, dd⟩ := dk_rd I.hok e
    obtain ⟨w', hw, rw'⟩ := RelO.some_of (v := v) (o := valueAt vs k) (by rw [l]; exact rel.val k)
    exact wpAny_getItem_of (kV_is ry) dd.mapOf hw (h w' _ (I.tok _) rw')
  · subst ey
    cases (show u = Value.ref b from ry)
    obtain ⟨z, hd, xs, rel, dd⟩ := dt_rd I.hok e
    obtain ⟨w', hw, rw'⟩ := RelO.some_of (v := v) (o := (atKey xs k).map (·.2)) (by rw [l]; exact rel.val k)
    obtain ⟨p, hp, hp2⟩ := Option.map_eq_some_iff.mp hw
    refine wpAny_getItem_heap (tupleKind_room_in1 hu) (key_of I.hok eb) dd hp ?_
    rw [hp2]
    exact h w' _ (I.tok _) rw'
/-- y in d -/
theorem d_in {Q : Value → Shared → Prop} (hu : A.units + 1 < cLine) (I : Inv X pins σ H s) (g : DGet H a y o) (ry : RelV y u) (h : ∀ s', Inv X pins σ H s' → Q (.bool o.isSome) s') :
    wpAny (model X.prog X.w) A (compareOp .In u (.ref a)) Q E s := by
  rcases g with ⟨kvs, k, e, ey, l⟩ | ⟨kvs, k, b, e, ey, eb, l⟩
  · subst ey
    obtain ⟨z, hd, vs, rel, dd⟩ := dk_rd I.hok e
    refine wpAny_in_of (kV_is ry) hd dd.mapOf ?_
    rw [← (rel.val k).isSome_eq, ← l]
    exact h _ (I.tok _)
  · subst ey
    cases (show u = Value.ref b from ry)
    obtain ⟨z, hd, xs, rel, dd⟩ := dt_rd I.hok e
    refine wpAny_in_heap (tupleKind_room_in1 hu) (key_of I.hok eb) hd dd ?_
    have q := (rel.val k).isSome_eq
    rw [Option.isSome_map] at q
    rw [← q, ← l]
    exact h _ (I.tok _)
/-- a dict's object is replaced -/
theorem d_write {h' : Heap} {t' : Nat} {ob : HO} (I : Inv X pins σ H s) (mu : Mut (H a)) (hs : Heap.SameBut a s.heap h') (he : ∃ q, h'.get? a = some q) (new : ObjOk X.prog X.w (upd H a ob) h' a ob) :
    Inv X pins σ (upd H a ob) { s with heap := h', toks := t' } :=
  I.write (x := a) (e := a) mu (.inl rfl) (fun b q hb z => (hs.2 b hb).trans z) he new
theorem dk_new {P : Program} {w : World} {H' : Hp} {h' : Heap} {kvs : List (Key × V)} {vs : List (Key × Value)} (z : kvs.length ≤ sizeLine) (hd : (a == sysModules) = false) (rel : KV kvs vs) (dd : h'.DictOf (mixKind P w) a vs) :
    ObjOk P w H' h' a (.dK kvs) := ⟨z, hd, vs, rel, dd⟩
/-- d[y] = v -/
theorem d_setItem {H' : Hp} {Q : Unit → Shared → Prop} (hu : A.units + 1 < cLine) (I : Inv X pins σ H s) (g : DPut H a y v H') (ry : RelV y u) (rv : RelV v r) (h : ∀ s', Inv X pins σ H' s' → Q () s') :
    wpAny (model X.prog X.w) A (setItem (.ref a) u r) Q E s := by
  rcases g with ⟨kvs, k, e, ey, l, eH⟩ | ⟨kvs, k, b, e, ey, eb, l, eH⟩
  · subst ey eH
    obtain ⟨z, hd, vs, rel, dd⟩ := dk_of I.hok e
    have hz : vs.length ≤ sizeLine := by rw [← rel.length]; exact z
    have hl : (putK kvs k v).length ≤ sizeLine := by have := length_putK kvs k v; omega
    refine wpAny_setItem_pairs (hsz := hz) (kV_is ry) dd fun h' dd' hs => h _ ?_
    have he : ∃ q, h'.get? a = some q := let ⟨q, _, _, hq, _⟩ := dd'; ⟨q, hq⟩
    exact d_write I (by rw [e]; exact True.intro) hs he (dk_new hl hd (rel.put k rv) dd')
  · subst ey eH
    cases (show u = Value.ref b from ry)
    obtain ⟨z, hd, xs, rel, dd⟩ := dt_of I.hok e
    have hz : xs.length ≤ sizeLine := by rw [← Paired.length rel]; exact z
    have hl : (putK kvs k v).length ≤ sizeLine := by have := length_putK kvs k v; omega
    refine wpAny_setItem_heap (hsz := hz) (tupleKind_room_in1 hu) (key_of I.hok eb) dd fun h' dd' hs => h _ ?_
    obtain ⟨q, es, ep, hq, h2, h3, h4, _, h5⟩ := dd'
    refine d_write I (by rw [e]; exact True.intro) hs ⟨q, hq⟩ ⟨hl, hd, _, (rel.put k eb rv).keeps fun c ys ec => ?_, q, es, ep, hq, h2, h3, h4, h5⟩
    rw [upd_ne (ne_of ec e (fun z => nomatch z))]
    exact ec
end
/-- the element of a subscription, not a slice -/
def NoSl (i : Expr) : Prop := ∀ ov iv, subscripted i false ov iv = operate [ov, iv] (getItem ov iv)
theorem subD_of {prog : Program} {w : World} {A : Around} {E : Value → Shared → Prop} {s : Shared} {env : Env} {value slice : Expr} {pos : Pos} {T id : String} {Q : Value → Shared → Prop}
    (hl : typeLookup (.type T) "__getitem__" = pure (some (.builtin id))) (hs : NoSl slice)
    (h : wpAny (model prog w) A (eval value env) (fun o s₁ => wpAny (model prog w) A (eval slice env) (fun i s₂ => s₂.TypeIs o T ∧ wpAny (model prog w) A (getItem o i) Q E s₂) E s₁) E s) :
    wpAny (model prog w) A (eval (.Subscript value slice pos) env) Q E s := by
  refine Subscript_ (wpAny_mono h (fun o s₁ h₁ => wpAny_mono h₁ (fun i s₂ h₂ => ?_) fun _ _ x => x) fun _ _ x => x)
  obtain ⟨hT, h₂⟩ := h₂
  unfold subscriptTail
  refine wpAny_bind ?_
  rw [getitemInPython_of_ne hT.not_modules]
  refine wpAny_bind (wpAny_specialOf hT hl ?_)
  have fin : wpAny (model prog w) A (subscripted slice false o i) (fun r s₃ => wpAny (model prog w) A (letTemporaryGo value o r >>= fun _ => pure r) Q E s₃) E s₂ := by
    rw [hs o i]
    exact wpAny_operating (wpAny_mono h₂ (fun r s₃ h₃ => wpAny_bind (wpAny_letTemporaryGo (wpAny_pure h₃))) fun _ _ x => x)
  first
    | exact wpAny_pure (wpAny_bind fin)
    | exact wpAny_bind (wpAny_pure (wpAny_bind fin))
    | exact wpAny_bind fin
theorem dict_typeIs {X : Cx} {pins : List (Addr × Obj)} {σ : St} {H : Hp} {s : Shared} {a : Addr} {y : V} {o : Option V} (I : Inv X pins σ H s) (g : DGet H a y o) : s.TypeIs (.ref a) "dict" := by
  rcases g with ⟨kvs, k, e, _, _⟩ | ⟨kvs, k, b, e, _, _, _⟩
  · obtain ⟨_, _, vs, _, dd⟩ := dk_rd I.hok e
    exact dd.typeIs
  · obtain ⟨_, _, xs, _, dd⟩ := dt_rd I.hok e
    exact dd.typeIs
/-- d[y] -/
def tDGet (td ty : TE) : TE := fun σ H Q => td σ H fun x H1 => ty σ H1 fun y H2 => ∃ a v, x = .ref a ∧ DGet H2 a y (some v) ∧ Q v H2
/-- y in d, y not in d -/
def tDIn (ty td : TE) : TE := fun σ H Q => ty σ H fun y H1 => td σ H1 fun x H2 => ∃ a o, x = .ref a ∧ DGet H2 a y o ∧ Q (.bl o.isSome) H2
/-- d[y] = v -/
def sDPut (td ty tv : TE) : TS := fun D σ H => tv σ H fun v H1 => td σ H1 fun x H2 => ty σ H2 fun y H3 => ∃ a H4, x = .ref a ∧ DPut H3 a y v H4 ∧ D.nx σ H4
section
variable {X : Cx} {o i e value : Expr} {pos pos' tpos : Pos} {td ty tv : TE}
theorem pe_dget (hu : X.A.units + 1 < cLine) (ho : PE X o td) (hi : PE X i ty) (hs : NoSl i) : PE X (.Subscript o i pos) (tDGet td ty) := by
  intro pins s σ H Q I h
  refine subD_of PySem.F.slot_dict_getitem.lookup hs (thn (ho pins s σ H _ I h) fun u s1 ⟨x, H1, I1, rx, q1⟩ => thn (hi pins s1 σ H1 _ I1 q1) fun iv s2 ⟨y, H2, I2, ry, a, v, ex, g, q2⟩ => ?_)
  subst ex
  obtain rfl : u = Value.ref a := rx
  exact ⟨dict_typeIs I2 g, d_getItem hu I2 g ry fun w' s3 I3 rw' => ⟨v, H2, I3, rw', q2⟩⟩
theorem pc_din (hu : X.A.units + 1 < cLine) (hi : PE X i ty) (ho : PE X o td) : PC X .In i o (tDIn ty td) := by
  intro pins s σ H Q I h
  refine thn (hi pins s σ H _ I h) fun iv s1 ⟨y, H1, I1, ry, q1⟩ => thn (ho pins s1 σ H1 _ I1 q1) fun u s2 ⟨x, H2, I2, rx, a, ov, ex, g, q2⟩ => ?_
  subst ex
  obtain rfl : u = Value.ref a := rx
  exact d_in hu I2 g ry fun s3 I3 => ⟨.bl ov.isSome, H2, I3, rfl, q2⟩
theorem ps_dput (hu : X.A.units + 1 < cLine) (ho : PE X o td) (hi : PE X i ty) (hv : PE X value tv) (hs : swapsWith value (some (.Subscript o i pos')) pos.line X.env = pure false) :
    PS X (.Assign [.Subscript o i pos'] value pos) (sDPut td ty tv) := by
  intro pins s σ H D I h
  refine wpAny_Assign_Subscript (thn (hv pins s σ H _ I h) fun r s1 ⟨v, H1, I1, rv, q1⟩ => thn (ho pins s1 σ H1 _ I1 q1) fun u s2 ⟨x, H2, I2, rx, q2⟩ => thn (hi pins s2 σ H2 _ I2 q2) fun iv s3 ⟨y, H3, I3, ry, a, H4, ex, g, q3⟩ => ?_) hs
  subst ex
  obtain rfl : u = Value.ref a := rx
  exact d_setItem hu I3 g ry rv fun s4 I4 => ⟨σ, H4, I4, q3⟩
end
theorem dk_empty {P : Program} {w : World} {H : Hp} (h : Heap) (hb : sysModules < h.objs.size) : ObjOk P w H (h.push { cls := .type "dict", data := .dict #[] }) h.objs.size (.dK []) :=
  ⟨Nat.zero_le _, beq_eq_false_iff_ne.mpr (Ne.symm (Nat.ne_of_lt hb)), [], .nil, Heap.DictOf.new h⟩
theorem dt_empty {P : Program} {w : World} {H : Hp} (h : Heap) (hb : sysModules < h.objs.size) : ObjOk P w H (h.push { cls := .type "dict", data := .dict #[] }) h.objs.size (.dT []) :=
  ⟨Nat.zero_le _, beq_eq_false_iff_ne.mpr (Ne.symm (Nat.ne_of_lt hb)), [], .nil, _, #[], 0, Heap.get?_push_size _ rfl, ⟨rfl, rfl, rfl⟩, rfl, rfl, List.nodup_nil⟩
/-- {}, to be a dict of the kind that is wanted -/
def tDNewK : TE := fun _ H Q => ∀ p, H p = none → Q (.ref p) (upd H p (.dK []))
def tDNewT : TE := fun _ H Q => ∀ p, H p = none → Q (.ref p) (upd H p (.dT []))
section
variable {X : Cx} {pos : Pos}
theorem pe_dnewK : PE X (.Dict [] [] pos) tDNewK := fun pins s σ H Q I h =>
  wpAny_Dict_empty ⟨.ref s.heap.objs.size, _, I.laid (a := s.heap.objs.size) (o := .dK []) (t' := s.toks) (fun _ _ q => Heap.get?_push_of_some _ q) (Nat.le_refl _) (dk_empty s.heap I.big), rfl, h _ (I.hok.fresh (Nat.le_refl _))⟩
theorem pe_dnewT : PE X (.Dict [] [] pos) tDNewT := fun pins s σ H Q I h =>
  wpAny_Dict_empty ⟨.ref s.heap.objs.size, _, I.laid (a := s.heap.objs.size) (o := .dT []) (t' := s.toks) (fun _ _ q => Heap.get?_push_of_some _ q) (Nat.le_refl _) (dt_empty s.heap I.big), rfl, h _ (I.hok.fresh (Nat.le_refl _))⟩
end
structure M2 (X : Cx) (o : Expr) (m : Str) (apos : Pos) (e f : Expr) (cpos : Pos) : Prop where
  base : attributeBase o m X.env (eval o X.env) = eval o X.env
  few : ((backTo cpos (starEach [e, f] X.env)).all (fun x => !x.1) && (backToKw cpos (keywordEach [] X.env)).all (fun x => x.1.isSome)
    && decide (([e, f] : List Expr).length + ([] : List Keyword).length + (if ([] : List Keyword).isEmpty then 0 else 1) < 30)) = true
  line : (apos.endLine == cpos.line) = true
  trees : backTo cpos (starEach [e, f] X.env) = [(false, eval e X.env), (false, eval f X.env)]
/-- a is a dict, whatever its keys -/
def IsD (H : Hp) (a : Addr) : Prop := (∃ kvs, Rd H a (.dK kvs)) ∨ ∃ kvs, Rd H a (.dT kvs)
theorem isD_at {X : Cx} {pins : List (Addr × Obj)} {σ : St} {H : Hp} {s : Shared} {a : Addr} (I : Inv X pins σ H s) (d : IsD H a) :
    s.TypeIs (.ref a) "dict" ∧ (∀ b, Value.ref a = .ref b → ∃ ob, s.heap.get? b = some ob ∧ ob.dict = none) ∧ (a == sysModules) = false := by
  rcases d with ⟨kvs, e⟩ | ⟨kvs, e⟩
  · obtain ⟨_, hd, vs, _, dd⟩ := dk_rd I.hok e
    refine ⟨dd.typeIs, fun b q => ?_, hd⟩
    cases q
    obtain ⟨ob, _, _, h1, h2, _⟩ := dd
    exact ⟨ob, h1, h2.2.1⟩
  · obtain ⟨_, hd, xs, _, dd⟩ := dt_rd I.hok e
    refine ⟨dd.typeIs, fun b q => ?_, hd⟩
    cases q
    obtain ⟨ob, _, _, h1, h2, _⟩ := dd
    exact ⟨ob, h1, h2.2.1⟩
section
variable {X : Cx} {pins : List (Addr × Obj)} {σ : St} {H : Hp} {s : Shared} {a : Addr} {y d : V} {u r : Value} {o : Option V} {A : Around} {E : Value → Shared → Prop}
/-- d.get(y, x) -/
theorem d_get2 {Q : Value → Shared → Prop} (hu : A.units + 1 < cLine) (I : Inv X pins σ H s) (g : DGet H a y o) (ry : RelV y u) (rd : RelV d r) (h : ∀ w' s', Inv X pins σ H s' → RelV (o.getD d) w' → Q w' s') :
    wpAny (model X.prog X.w) A (call (.builtin "dict.get") [.ref a, u, r]) Q E s := by
  rcases g with ⟨kvs, k, e, ey, l⟩ | ⟨kvs, k, b, e, ey, eb, l⟩
  · subst ey
    obtain ⟨z, hd, vs, rel, dd⟩ := dk_rd I.hok e
    refine call_meetsIn PySem.F.slot_dict_get dd.typeIs PySem.F.entry_dict_get (PySem.F.args_dict_get_3 _ _ _) (meets_dict_get_default (mixKind X.prog X.w) a (kV_is ry) hd r) ⟨_, dd.mapOf, h _ _ (I.tok _) ?_⟩
    rw [l]
    exact (rel.val k).getD rd
  · subst ey
    cases (show u = Value.ref b from ry)
    obtain ⟨z, hd, xs, rel, dd⟩ := dt_rd I.hok e
    refine call_meetsIn PySem.F.slot_dict_get dd.typeIs PySem.F.entry_dict_get (PySem.F.args_dict_get_3 _ _ _) (meetsH_dict_get_default (tupleKind (mixKind X.prog X.w)) a b hd r) ⟨tupleKind_room_in1 hu, k, xs, key_of I.hok eb, dd, h _ _ (I.tok _) ?_⟩
    rw [l]
    exact (rel.val k).getD rd
end
def tDGet2 (td ty tx : TE) : TE := fun σ H Q => td σ H fun x H1 => ∃ a, x = .ref a ∧ IsD H1 a ∧ ty σ H1 fun y H2 => tx σ H2 fun z H3 => ∃ o, DGet H3 a y o ∧ Q (o.getD z) H3
section
variable {X : Cx} {o e f : Expr} {apos cpos : Pos} {td ty tx : TE}
theorem pe_dget2 (hu : X.A.units + 1 < cLine) (ho : PE X o td) (he : PE X e ty) (hf : PE X f tx) (m : M2 X o "get" apos e f cpos) : PE X (.Call (.Attribute o "get" apos) [e, f] [] cpos) (tDGet2 td ty tx) := by
  intro pins s σ H Q I h
  refine wpAny_Call_method m.base m.few m.line PySem.F.plainAttrs_dict PySem.F.slot_dict_get PySem.F.type_dict_get (thn (ho pins s σ H _ I h) fun u s1 ⟨x, H1, I1, rx, a, ex, d, q1⟩ => ?_)
  subst ex
  obtain rfl : u = Value.ref a := rx
  obtain ⟨t1, t2, _⟩ := isD_at I1 d
  refine ⟨t1, t2, ?_⟩
  rw [m.trees]
  refine Calls.callWith_builtin rfl (Calls.evalArgs_plain (Calls.spliced_cons (thn (he pins s1 σ H1 _ I1 q1) fun iv s2 ⟨y, H2, I2, ry, q2⟩ =>
    Calls.spliced_cons (thn (hf pins s2 σ H2 _ I2 q2) fun fv s3 ⟨z, H3, I3, rz, ov, g, q3⟩ => Calls.spliced_nil ?_))))
  exact d_get2 hu I3 g ry rz fun w' s4 I4 rw' => ⟨_, H3, I4, rw', q3⟩
end
end L2
namespace L2
open PySem PySem.Spec PyProof.Rows
end L2
namespace L2
open PySem PySem.Spec PyProof.Rows
theorem boot_reversed5 : bootBuiltins "reversed" = some (.type "reversed") := by decide +kernel
section
variable {X : Cx} {pins : List (Addr × Obj)} {σ : St} {H : Hp} {s : Shared} {h' : Heap}
/-- several records of ours have turned -/
theorem Inv.turnedL {t' : Nat} {ch : List Addr} (I : Inv X pins σ H s) (k : ∀ b o, b ∉ ch → s.heap.get? b = some o → h'.get? b = some o) (hf : ∀ b ∈ ch, FpOk X pins H b) : Inv X pins σ H { s with heap := h', toks := t' } := by
  have nit : ∀ b u, H b = some u → b ∉ ch := fun b u e z => by
    have q := (hf b z).1
    rw [q] at e; cases e
  refine I.step (g' := s.gens) (d' := s.drawn) (ch := ch) (fun b hb => ⟨(hf b hb).2.2.2.1, (hf b hb).2.1, (hf b hb).2.2.2.2.1, (hf b hb).2.2.2.2.2⟩) (fun b o _ _ hc e _ => k b o hc e) (fun b o _ _ hc e _ => ⟨o.slots, k b o hc e⟩)
    (fun _ _ _ _ n => n) (fun b o hc e => ⟨o, k b o hc e⟩) (fun _ _ e => e) (fun _ _ _ e => e) (fun b ps e => ⟨#[], by rw [e]; simp⟩) (fun m hm => ?_) (fun b u e => ?_) I.bare
  · obtain ⟨o, es, ep, ho, r⟩ := hm
    exact ⟨o, es, ep, k _ o (fun z => (hf _ z).2.1 rfl) ho, r⟩
  · refine (I.hok b u e).stay (fun c v hc q => k c v ?_ q) (fun _ q => q) fun _ _ q => q
    rcases hc with z | z
    · rw [z]; exact nit b u e
    · exact nit c _ z
/-- .. and one new object is laid -/
theorem Inv.turnedNew {t' : Nat} {ch : List Addr} {T : Addr} {ob : HO} (I : Inv X pins σ H s) (k : ∀ b o, b ∉ ch → s.heap.get? b = some o → h'.get? b = some o) (hf : ∀ b ∈ ch, FpOk X pins H b) (hT : s.heap.objs.size ≤ T)
    (new : ObjOk X.prog X.w (upd H T ob) h' T ob) : Inv X pins σ (upd H T ob) { s with heap := h', toks := t' } := by
  have hn : H T = none := I.hok.fresh hT
  have nit : ∀ b u, H b = some u → b ∉ ch := fun b u e z => by
    have q := (hf b z).1
    rw [q] at e; cases e
  refine I.step (g' := s.gens) (d' := s.drawn) (ch := ch) (fun b hb => ⟨(hf b hb).2.2.2.1, (hf b hb).2.1, (hf b hb).2.2.2.2.1, (hf b hb).2.2.2.2.2⟩) (fun b o _ _ hc e _ => k b o hc e) (fun b o _ _ hc e _ => ⟨o.slots, k b o hc e⟩)
    (fun b o _ e n => ?_) (fun b o hc e => ⟨o, k b o hc e⟩) (fun b xs e => ?_) (fun b o u e => ?_) (fun b ps e => ⟨#[], ?_⟩) (fun m hm => ?_) (fun b u e => ?_) I.bare
  · rw [upd_ne (Nat.ne_of_lt (Nat.lt_of_lt_of_le (Heap.lt_size e) hT))]; exact n
  · rw [upd_ne (ne_of_none e hn)]; exact e
  · rw [upd_ne (ne_of_none e hn)]; exact e
  · rw [upd_ne (ne_of_none e hn), e]; simp
  · obtain ⟨o, es, ep, ho, r⟩ := hm
    exact ⟨o, es, ep, k _ o (fun z => (hf _ z).2.1 rfl) ho, r⟩
  · by_cases hb : b = T
    · subst hb
      rw [upd_same] at e
      cases e
      exact new
    · rw [upd_ne hb] at e
      refine (I.hok b u e).stay (fun c v hc q => k c v ?_ q) (fun c q => by rw [upd_ne (ne_of_none q hn)]; exact q) fun c xs q => by rw [upd_ne (ne_of_none q hn)]; exact q
      rcases hc with z | z
      · rw [z]; exact nit b u e
      · exact nit c _ z
theorem Inv.lock {d : Addr} {u : HO} (I : Inv X pins σ H s) (h : H d = some u) (mu : Mut (some u)) : ∃ od, Inv X pins σ (upd H d (.frz od u)) s := by
  have x := I.hok d u h
  have ex : ∃ od, s.heap.get? d = some od := by
    cases u with
    | lst xs => obtain ⟨_, _, _, _, e⟩ := x; exact ⟨_, e⟩
    | dK kvs => obtain ⟨_, _, _, _, o, _, _, e, _⟩ := x; exact ⟨o, e⟩
    | dT kvs => obtain ⟨_, _, _, _, o, _, _, e, _⟩ := x; exact ⟨o, e⟩
    | set S n => obtain ⟨o, _, _, _, e, _⟩ := x; exact ⟨o, e⟩
    | ins C dx fs => obtain ⟨_, _, _, e, _⟩ := x; exact ⟨_, e⟩
    | ext φ => obtain ⟨_, ⟨_, e⟩, _⟩ := x; exact ⟨_, e⟩
    | _ => exact False.elim mu
  obtain ⟨od, e⟩ := ex
  have new : ObjOk X.prog X.w (upd H d (.frz od u)) s.heap d (.frz od u) := by
    refine ⟨e, x.stay (fun b v _ q => q) (fun b q => ?_) fun b xs q => ?_⟩
    · rw [upd_ne (fun z => by rw [z, h] at q; cases q; exact mu)]; exact q
    · rw [upd_ne (fun z => by rw [z, h] at q; cases q; exact mu)]; exact q
  exact ⟨od, I.write (x := d) (e := d) (t' := s.toks) (h' := s.heap) (by rw [h]; exact mu) (.inl rfl) (fun b v _ q => q) ⟨od, e⟩ new⟩
end
section
variable {X : Cx}
theorem pi_one {tg : Expr} {pins : List (Addr × Obj)} {σ : St} {H : Hp} {s : Shared} {R : It → Hp → Prop} {J : It} {tn : Nat → Heap → Prop} {tk : Nat} (I : Inv X pins σ H s) (o : Obj)
    (T : Turn X.prog X.w X.K tg J [s.heap.objs.size] s.heap.objs.size tn) (st : tn 0 (s.heap.push o)) (q : R J H) : PIE X pins σ tg R (.ref s.heap.objs.size) { s with heap := s.heap.push o, toks := tk } := by
  refine ⟨s.heap.objs.size, [s.heap.objs.size], tn, J, H, rfl, I.kept fun b ob e => Heap.get?_push_of_some _ e, T, st, fun b hb => ?_, q⟩
  have e : b = s.heap.objs.size := by simpa using hb
  subst e
  exact I.fpOk (Nat.le_refl _) (I.hok.fresh (Nat.le_refl _))
end
/-- lo, lo + c, .. (n of them) -/
def Itc (lo c : Int) (n : Nat) : It := ⟨fun i _ => i < n, fun i H x H' => H' = H ∧ x = .int (lo + (i : Nat) * c), fun i _ => n ≤ i⟩
theorem turn_rangeC {P : Program} {w : World} {K : PySem.W.Frag} {tg : Expr} (it : Addr) (lo c : Int) (n : Nat) : Turn P w K tg (Itc lo c n) [it] it (fun i h => IsRangeIter h it (lo + (i : Nat) * c) ((n : Int) - (i : Nat)) c) where
  mem := by simp
  obj := fun i h st b hb => by
    have e : b = it := by simpa using hb
    subst e
    exact ⟨_, st, fun v z => nomatch z⟩
  keep := fun i h h' st k => k it (by simp) _ st
  item := by
    intro X hP hw hK hc i pins s σ H E I hf st hg
    subst hP hw hK
    obtain ⟨f0, f1, f2, f3, f4, f5⟩ := hf it (by simp)
    have W := Walks.range (prog := X.prog) (w := X.w) (I.ok.hd hc) it lo c n
    refine W.item i s _ _ hg st fun v h' tk hv st' kk => ?_
    obtain ⟨t, rfl⟩ := hv
    have I1 : Inv X pins σ H { s with heap := h', toks := tk } := I.turned (fun b o hb e => kk b o (by simpa using hb) e) f0 f1 f3 f4 f5
    exact ⟨_, rfl, go_of (s := { s with heap := h', toks := tk }) (n := "range_iterator") st' rfl rfl (by decide) ⟨.int (lo + (i : Nat) * c), H, I1, ⟨t, rfl⟩, ⟨rfl, rfl⟩, st', fun b hb => (hf b hb).1⟩⟩
  done := by
    intro X hP hw hK hc i pins s σ H E I hf st hg
    subst hP hw hK
    obtain ⟨f0, f1, f2, f3, f4, f5⟩ := hf it (by simp)
    exact wpAny_pyNext_range_end (I.ok.hd hc) st (by have : n ≤ i := hg; omega) fun h' eb => ⟨rfl, I.turned (t' := s.toks) (fun b o hb e => eb b o hb e) f0 f1 f3 f4 f5⟩
  self := fun A i s Q E st h => wpAny_pyIter_rangeiter st h
/-- range(i, j, c): small bounds, n items -/
def RgC (i j c : Int) (n : Nat) : Prop := c ≠ 0 ∧ c.natAbs < 1073741824 ∧ Builtin.Range.small i j c = true ∧ Builtin.Range.rangeSize i j c = n
theorem RgC.neg {i j : Int} (ha : -(2 ^ 62) ≤ i) (ha' : i < 2 ^ 62) (hb : -(2 ^ 62) ≤ j) (hb' : j < 2 ^ 62) : RgC i j (-1) (i - j).toNat :=
  ⟨by decide, by decide, PySem.W.small_down ha ha' hb hb', PySem.W.rangeSize_downNat i j⟩
def iRng3 (ta : TA) : TI := fun σ H R => ta σ H fun vs H1 => ∃ (i j c : Int) (n : Nat), vs = [.int i, .int j, .int c] ∧ RgC i j c n ∧ R (Itc i c n) H1
section
variable {X : Cx} {tg : Expr}
theorem pi_range3 {a b c : Expr} {ta : TA} {p pos : Pos} (hg : Gl X "range") (hm : X.mg "range" = none) (ha : PA X [a, b, c] ta)
    (hs : starEach [a, b, c] X.env = (false, eval a X.env) :: starEach [b, c] X.env := by rfl) (hpl : (backTo pos (starEach [b, c] X.env)).any (·.1) = false := by rfl) :
    PI X tg (.Call (.Name "range" p) [a, b, c] [] pos) (iRng3 ta) := by
  intro pins s σ H R I h
  refine Call_ (ld_blt I hg hm boot_range (PyProof.Rows.callWith_type1 (thn (ha pos pins s σ H _ I h) fun us s1 ⟨vs, H1, I1, r1, q1⟩ => ?_) hs hpl))
  obtain ⟨i, j, k, n, e, ⟨c0, c1, c2, c3⟩, q⟩ := q1
  subst e
  cases r1 with
  | cons r rr =>
    cases rr with
    | cons r' rr =>
      cases rr with
      | cons r'' rr =>
        cases rr
        obtain ⟨t, rfl⟩ := r
        obtain ⟨t', rfl⟩ := r'
        obtain ⟨t'', rfl⟩ := r''
        refine call_range_3 c0 ?_ (.inl (PyProof.noPylong_small c1))
        refine wpAny_pyIter_range (IsRange.new ..) c2 ?_
        have I2 : Inv X pins σ H1 { s1 with heap := s1.heap.push { cls := .type "range", data := .fields #[.int i t, .int j t', .int k t''] } } := I1.kept (t' := s1.toks) fun b o e => Heap.get?_push_of_some _ e
        refine pi_one (tk := s1.toks) I2 _ (turn_rangeC _ i k n) ?_ q
        have e1 : i + ((0 : Nat) : Int) * k = i := by simp
        have e2 : (n : Int) - ((0 : Nat) : Int) = Builtin.Range.rangeSize i j k := by rw [c3]; simp
        show IsRangeIter _ _ (i + ((0 : Nat) : Int) * k) ((n : Int) - ((0 : Nat) : Int)) k
        rw [e1, e2]
        exact Heap.get?_push_size _ rfl
end
/-- the turns of a step range, for the for loop -/
theorem for_rangeC {lo c : Int} {n : Nat} {g : TG} {tb : TS} {D : Ends} {σ : St} {H : Hp} (Pv : Nat → St → Hp → Prop) (h0 : Pv 0 σ H)
    (hs : ∀ i σ H, i < n → Pv i σ H → g (.int (lo + (i : Nat) * c)) σ H fun σ2 H2 => tb { D with nx := Pv (i + 1), ct := Pv (i + 1), bk := D.nx } σ2 H2) (hd : ∀ σ H, Pv n σ H → D.nx σ H) :
    ∃ W : Nat → Nat → St → Hp → Prop, (∃ m, W 0 m σ H) ∧ ∀ i m σ H, W i m σ H →
      ((Itc lo c n).stop i H ∧ D.nx σ H) ∨ ((Itc lo c n).go i H ∧ ∃ N : St → Hp → Prop, (∀ σ' H', N σ' H' → ∃ m', m' < m ∧ W (i + 1) m' σ' H') ∧ ∀ x H', (Itc lo c n).yld i H x H' → g x σ H' fun σ2 H2 => tb { D with nx := N, ct := N, bk := D.nx } σ2 H2) := by
  refine ⟨fun i m σ H => m = n - i ∧ i ≤ n ∧ Pv i σ H, ⟨n, by simp, Nat.zero_le _, h0⟩, ?_⟩
  rintro i m σ H ⟨rfl, hi, p⟩
  by_cases hlt : i < n
  · refine .inr ⟨hlt, Pv (i + 1), fun σ' H' p' => ⟨n - (i + 1), by omega, rfl, hlt, p'⟩, fun x H' y => ?_⟩
    obtain ⟨e, y⟩ := y
    subst e y
    exact hs i σ _ hlt p
  · have e : i = n := by omega
    subst e
    exact .inl ⟨Nat.le_refl _, hd σ H p⟩
/-- the list at a (n items at the start, which the loop leaves there), from its end -/
def Itv (K : PySem.W.Frag) (a : Addr) (n : Nat) : It :=
  ⟨fun i H => i < n ∧ ∃ (xs : List V) (x : V), SqL K H a xs ∧ xs[n - 1 - i]? = some x, fun i H x H' => H' = H ∧ ∀ xs, SqL K H a xs → xs[n - 1 - i]? = some x, fun i _ => n ≤ i⟩
theorem turn_rev {P : Program} {w : World} {K : PySem.W.Frag} {tg : Expr} (a it : Addr) (n : Nat) : Turn P w K tg (Itv K a n) [it] it (fun i h => i ≤ n ∧ h.IsRevIter it a ((n : Int) - 1 - (i : Nat))) where
  mem := by simp
  obj := fun i h st b hb => by
    have e : b = it := by simpa using hb
    subst e
    obtain ⟨_, o, e, c, d⟩ := st
    exact ⟨o, e, fun v z => by rw [d] at z; cases z⟩
  keep := fun i h h' st k => ⟨st.1, st.2.at fun o e => k it (by simp) o e⟩
  item := by
    intro X hP hw hK hc i pins s σ H E I hf st hg
    subst hP hw hK
    obtain ⟨hin, xs, x, hq, hx⟩ := hg
    obtain ⟨its, rv, p, hz⟩ := I.list hq
    obtain ⟨u, hu, ru⟩ := rv.get hx
    obtain ⟨f0, f1, f2, f3, f4, f5⟩ := hf it (by simp)
    obtain ⟨_, hit⟩ := st
    have e1 : (n : Int) - 1 - ((i : Nat) : Int) = ((n - 1 - i : Nat) : Int) := by omega
    rw [e1] at hit
    refine wpAny_pyNext_rev_item hit p.isList (x := u) (by simpa using hu) fun h' st' sb => ?_
    have e2 : ((n - 1 - i : Nat) : Int) - 1 = (n : Int) - 1 - ((i + 1 : Nat) : Int) := by omega
    rw [e2] at st'
    have I1 : Inv X pins σ H { s with heap := h' } := I.turned (t' := s.toks) (fun b o hb e => (sb.2 b hb).trans e) f0 f1 f3 f4 f5
    obtain ⟨o, e, c, d⟩ := id st'
    exact ⟨u, rfl, go_of (s := { s with heap := h' }) e c d (by decide) ⟨x, H, I1, ru, ⟨rfl, fun ys hy => by rw [I.list_inj hy hq]; exact hx⟩, ⟨hin, st'⟩, fun b hb => (hf b hb).1⟩⟩
  done := by
    intro X hP hw hK hc i pins s σ H E I hf st hg
    subst hP hw hK
    obtain ⟨f0, f1, f2, f3, f4, f5⟩ := hf it (by simp)
    obtain ⟨hin, hit⟩ := st
    have hge : n ≤ i := hg
    have e1 : (n : Int) - 1 - ((i : Nat) : Int) = -1 := by omega
    rw [e1] at hit
    exact wpAny_pyNext_rev_end (I.ok.hd hc) hit fun h' eb => ⟨rfl, I.turned (t' := s.toks) (fun b o hb e => eb b o hb e) f0 f1 f3 f4 f5⟩
  self := fun A i s Q E st h => wpAny_pyIter_revIter st.2 h
def iRev (K : PySem.W.Frag) (ta : TA) : TI := fun σ H R => ta σ H fun vs H1 => ∃ (a : Addr) (xs : List V), vs = [.ref a] ∧ SqL K H1 a xs ∧ R (Itv K a xs.length) H1
section
variable {X : Cx} {tg : Expr}
theorem pi_reversed {e : Expr} {ta : TA} {p pos : Pos} (hg : Gl X "reversed") (hm : X.mg "reversed" = none) (ha : PA X [e] ta) (hs : starEach [e] X.env = [(false, eval e X.env)] := by rfl) : PI X tg (.Call (.Name "reversed" p) [e] [] pos) (iRev X.K ta) := by
  intro pins s σ H R I h
  refine Call_ (ld_blt I hg hm boot_reversed5 (PyProof.Rows.callWith_type1 (thn (ha pos pins s σ H _ I h) fun us s1 ⟨vs, H1, I1, r1, q1⟩ => ?_) hs rfl))
  obtain ⟨a, xs, e, hq, q⟩ := q1
  subst e
  cases r1 with
  | cons r rr =>
    cases rr
    cases r
    obtain ⟨its, rv, p', hz⟩ := I1.list hq
    have hl := rv.length
    have e1 : ((its.toArray.size : Nat) : Int) - 1 = (xs.length : Int) - 1 - ((0 : Nat) : Int) := by simp only [List.size_toArray]; omega
    refine call_reversed_list p'.isList (wpAny_pyIter_revIter (l := a) (i := ((its.toArray.size : Nat) : Int) - 1) ⟨_, Heap.get?_push_size _ rfl, rfl, rfl⟩ ?_)
    refine pi_one (tk := s1.toks) I1 _ (turn_rev a _ xs.length) ⟨Nat.zero_le _, ?_⟩ q
    rw [← e1]
    exact ⟨_, Heap.get?_push_size _ rfl, rfl, rfl⟩
end
theorem paired_get {α β : Type} {G : α → β → Prop} {l₁ : List α} {l₂ : List β} (h : Paired G l₁ l₂) : ∀ {i : Nat} {a : α}, l₁[i]? = some a → ∃ b, l₂[i]? = some b ∧ G a b := by
  induction h with
  | nil => intro i a e; simp at e
  | @cons a b l₁ l₂ r t ih =>
    intro i a' e
    cases i with
    | zero =>
      simp only [List.getElem?_cons_zero, Option.some.injEq] at e
      subst e
      exact ⟨b, rfl, r⟩
    | succ j =>
      simp only [List.getElem?_cons_succ] at e ⊢
      exact ih e
theorem dict_ep {o : Obj} {es es' : Array DictEntry} {ep ep' : Nat} (h : o.data = .dict es ep) (h' : o.data = .dict es' ep') : es' = es ∧ ep' = ep := by
  rw [h] at h'
  cases h'
  exact ⟨rfl, rfl⟩
theorem boot_zip5 : bootBuiltins "zip" = some (.type "zip") := by decide +kernel
/-- the lists at a and b as they stand at each turn, the items in new pairs -/
def Itz (K : PySem.W.Frag) (a b : Addr) : It :=
  ⟨fun i H => ∃ (xs ys : List V) (x y : V), SqL K H a xs ∧ SqL K H b ys ∧ xs[i]? = some x ∧ ys[i]? = some y,
    fun i H v H' => ∃ T x y, v = .ref T ∧ H T = none ∧ H' = upd H T (.tup [x, y]) ∧ (∀ xs, SqL K H a xs → xs[i]? = some x) ∧ ∀ ys, SqL K H b ys → ys[i]? = some y,
    fun i H => ∃ xs ys : List V, SqL K H a xs ∧ SqL K H b ys ∧ (xs.length ≤ i ∨ ys.length ≤ i)⟩
theorem turn_zip {P : Program} {w : World} {K : PySem.W.Frag} {elts : List Expr} {kk : Nat} {tpos : Pos} {a b z TI TO i1 i2 : Addr} (D : ZipApart z TI TO i1 i2 a b) :
    Turn P w K (.Tuple elts kk tpos) (Itz K a b) [z, TI, TO, i1, i2] z (fun i h => IsZip h z TI TO .none ∧ IsPair h TI (.ref i1) (.ref i2) ∧ (∃ x y, IsPair h TO x y) ∧ h.IsListIter i1 a i ∧ h.IsListIter i2 b i) where
  mem := by simp
  obj := fun i h st c hc => by
    obtain ⟨hz, hTI, ⟨x, y, hTO⟩, ⟨o1, e1, _, d1⟩, ⟨o2, e2, _, d2⟩⟩ := st
    have e' : c = z ∨ c = TI ∨ c = TO ∨ c = i1 ∨ c = i2 := by simpa using hc
    rcases e' with q | q | q | q | q
    · rw [q]; exact ⟨_, hz, fun v q => nomatch q⟩
    · rw [q]; exact ⟨_, hTI, fun v q => nomatch q⟩
    · rw [q]; exact ⟨_, hTO, fun v q => nomatch q⟩
    · rw [q]; exact ⟨o1, e1, fun v q => by rw [d1] at q; cases q⟩
    · rw [q]; exact ⟨o2, e2, fun v q => by rw [d2] at q; cases q⟩
  keep := fun i h h' st k => by
    obtain ⟨hz, hTI, ⟨x, y, hTO⟩, h1, h2⟩ := st
    exact ⟨k z (by simp) _ hz, k TI (by simp) _ hTI, ⟨x, y, k TO (by simp) _ hTO⟩, h1.at fun o q => k i1 (by simp) o q, h2.at fun o q => k i2 (by simp) o q⟩
  item := by
    intro X hP hw hK hc i pins s σ H E I hf st hg
    subst hP hw hK
    obtain ⟨hz, hTI, ⟨x0, y0, hTO⟩, h1, h2⟩ := st
    obtain ⟨xs, ys, x, y, hqx, hqy, hx, hy⟩ := hg
    obtain ⟨its, rv, p, _⟩ := I.list hqx
    obtain ⟨its2, rv2, p2, _⟩ := I.list hqy
    obtain ⟨u, hu, ru⟩ := rv.get hx
    obtain ⟨u2, hu2, ru2⟩ := rv2.get hy
    have hzl : z < s.heap.objs.size := Heap.lt_size hz
    refine wpAny_pyNext_zip_item D hz hTI hTO h1 h2 p.isList p2.isList (x := u) (y := u2) (by simpa using hu) (by simpa using hu2) fun h' z' TO' h1' h2' hT hsz hk => ?_
    refine ⟨_, rfl, wpAny_letOwnedTupleGo_zip (s := { s with heap := h' }) z' fun h'' z'' sb => ?_⟩
    have hT2 : h''.get? s.heap.objs.size = some { cls := .type "tuple", data := .seq #[u, u2] } := (sb.2 _ (Nat.ne_of_gt hzl)).trans hT
    have new : ObjOk X.prog X.w (upd H s.heap.objs.size (.tup [x, y])) h'' s.heap.objs.size (.tup [x, y]) :=
      ⟨by show 2 ≤ sizeLine; decide, [u, u2], .cons ru (.cons ru2 .nil), ⟨_, hT2, rfl, _, rfl⟩⟩
    have I1 : Inv X pins σ (upd H s.heap.objs.size (.tup [x, y])) { s with heap := h'' } :=
      I.turnedNew (t' := s.toks) (ch := [z, TI, TO, i1, i2]) (fun c o hb q => (sb.2 c (fun q' => hb (by simp [q']))).trans (hk c o (fun q' => hb (by simp [q'])) (fun q' => hb (by simp [q'])) (fun q' => hb (by simp [q'])) (fun q' => hb (by simp [q'])) q)) hf (Nat.le_refl _) new
    refine ⟨.ref s.heap.objs.size, _, I1, rfl, ⟨_, x, y, rfl, I.hok.fresh (Nat.le_refl _), rfl, fun l hl => by rw [I.list_inj hl hqx]; exact hx, fun l hl => by rw [I.list_inj hl hqy]; exact hy⟩, ⟨z'', ?_, ⟨u, u2, ?_⟩, ?_, ?_⟩, fun c hcm => ?_⟩
    · exact (sb.2 _ D.TIz).trans (hk _ _ D.TIz D.TITO D.TIi1 D.TIi2 hTI)
    · exact (sb.2 _ D.TOz).trans TO'
    · exact h1'.at fun o q => (sb.2 _ D.i1z).trans q
    · exact h2'.at fun o q => (sb.2 _ D.i2z).trans q
    · have hlt : c < s.heap.objs.size := by
        have e' : c = z ∨ c = TI ∨ c = TO ∨ c = i1 ∨ c = i2 := by simpa using hcm
        rcases e' with q | q | q | q | q
        · rw [q]; exact hzl
        · rw [q]; exact Heap.lt_size hTI
        · rw [q]; exact Heap.lt_size hTO
        · rw [q]; obtain ⟨_, e1, _⟩ := h1; exact Heap.lt_size e1
        · rw [q]; obtain ⟨_, e2, _⟩ := h2; exact Heap.lt_size e2
      rw [upd_ne (Nat.ne_of_lt hlt)]
      exact (hf c hcm).1
  done := by
    intro X hP hw hK hc i pins s σ H E I hf st hg
    subst hP hw hK
    obtain ⟨hz, hTI, ⟨x0, y0, hTO⟩, h1, h2⟩ := st
    obtain ⟨xs, ys, hqx, hqy, hend⟩ := hg
    obtain ⟨its, rv, p, _⟩ := I.list hqx
    obtain ⟨its2, rv2, p2, _⟩ := I.list hqy
    have l1 := rv.length
    have l2 := rv2.length
    have he : its.toArray[i]? = none ∨ its2.toArray[i]? = none := by
      rcases hend with q | q
      · exact .inl (by simp; omega)
      · exact .inr (by simp; omega)
    exact wpAny_pyNext_zip_end (I.ok.hd hc) D hz hTI hTO h1 h2 p.isList p2.isList he fun h' hk => ⟨rfl, I.turnedL (t' := s.toks) (ch := [z, TI, TO, i1, i2]) (fun c o hb q =>
      hk c o (fun q' => hb (by simp [q'])) (fun q' => hb (by simp [q'])) (fun q' => hb (by simp [q'])) (fun q' => hb (by simp [q'])) q) hf⟩
  self := fun A i s Q E st h => wpAny_pyIter_zip st.1 h
def iZip (K : PySem.W.Frag) (ta : TA) : TI := fun σ H R => ta σ H fun vs H1 => ∃ a b xs ys, vs = [.ref a, .ref b] ∧ SqL K H1 a xs ∧ SqL K H1 b ys ∧ R (Itz K a b) H1
theorem pi_zip {X : Cx} {e e2 : Expr} {ta : TA} {p pos tpos : Pos} {elts : List Expr} {kk : Nat} (hg : Gl X "zip") (hm : X.mg "zip" = none) (ha : PA X [e, e2] ta)
    (hs : starEach [e, e2] X.env = (false, eval e X.env) :: starEach [e2] X.env := by rfl) (hpl : (backTo pos (starEach [e2] X.env)).any (·.1) = false := by rfl) :
    PI X (.Tuple elts kk tpos) (.Call (.Name "zip" p) [e, e2] [] pos) (iZip X.K ta) := by
  intro pins s σ H R I h
  refine Call_ (ld_blt I hg hm boot_zip5 (PyProof.Rows.callWith_type1 (thn (ha pos pins s σ H _ I h) fun us s1 ⟨vs, H1, I1, r1, q1⟩ => ?_) hs hpl))
  obtain ⟨a, b, xs, ys, ex, hqx, hqy, q⟩ := q1
  subst ex
  cases r1 with
  | cons r rr =>
    cases rr with
    | cons r' rr =>
      cases rr
      cases r
      cases r'
      obtain ⟨its, rv, p1, _⟩ := I1.list hqx
      obtain ⟨its2, rv2, p2, _⟩ := I1.list hqy
      have la : a < s1.heap.objs.size := p1.lt
      have lb : b < s1.heap.objs.size := p2.lt
      refine call_zip_2 p1.isList p2.isList fun h' hz hTI hTO h1 h2 hsz hk => wpAny_pyIter_zip hz ?_
      have I2 : Inv X pins σ H1 { s1 with heap := h' } := I1.kept (t' := s1.toks) hk
      refine ⟨s1.heap.objs.size + 4, [s1.heap.objs.size + 4, s1.heap.objs.size + 2, s1.heap.objs.size + 3, s1.heap.objs.size, s1.heap.objs.size + 1], _, _, H1, rfl, I2, turn_zip (PySem.W.ktu_apart s1.heap.objs.size a b la lb), ⟨hz, hTI, ⟨_, _, hTO⟩, h1, h2⟩, fun c hcm => ?_, q⟩
      have e' : c = s1.heap.objs.size + 4 ∨ c = s1.heap.objs.size + 2 ∨ c = s1.heap.objs.size + 3 ∨ c = s1.heap.objs.size ∨ c = s1.heap.objs.size + 1 := by simpa using hcm
      have hle : s1.heap.objs.size ≤ c := by
        rcases e' with z | z | z | z | z
        · rw [z]; exact Nat.le_add_right _ _
        · rw [z]; exact Nat.le_add_right _ _
        · rw [z]; exact Nat.le_add_right _ _
        · rw [z]; exact Nat.le_refl _
        · rw [z]; exact Nat.le_add_right _ _
      exact I1.fpOk hle (I1.hok.fresh hle)
end L2
namespace Att
open PySem PySem.W PySem.Calls PyProof.Rows
end Att
namespace L2
open PySem PySem.Spec PyProof.Rows
theorem vals_ints : ∀ {vs : List Value} {ns : List Int}, IntsAre vs ns → Vals (ns.map V.int) vs
  | _, _, .nil => .nil
  | _, _, .cons n t h => .cons ⟨t, rfl⟩ (vals_ints h)
/-- nothing is tracked but the script, known to the object (or it is an object of the module) -/
def Only (H : Hp) : Prop := ∀ b, H b = none ∨ ∃ o xs, H b = some (.frz o (.lst xs))
/-- THE HEAD: the law's promise, at the heap behind the top. F, the promise of the law's def, may use that base is part of the heap (so K.In base, base.Ns mainGlobals mg stand in Mod) -/
theorem law_call {P : Program} {w : World} {K : PySem.W.Frag} {mg mb : Str → Option Value} {CX : CXT} {k : Nat} {fa a : Addr} {fd : FuncData} {x : Str} {sp : Sp} {s₁ : Shared} {vs : List Value} {ns : List Int}
    (KX : K.In s₁.heap) (hns : s₁.heap.Ns mainGlobals mg) (hb : s₁.heap.Ns builtinsNs mb) (hbb : ∀ x : Str, x ≠ "__name__" → mb x = bootBuiltins x) (hlim : s₁.heap.NoLimit) (hg : s₁.gens = #[])
    (ha : s₁.heap.get? a = some { cls := .type "list", data := .seq vs.toArray }) (hi : IntsAre vs ns) (hl : ns.length ≤ sizeLine) (hr : Room k callerA)
    (F : ∀ base : Heap, K.In base → base.Ns mainGlobals mg → FnOk P w K mg base CX k fa fd [x] sp) (hbind : ∀ (s : Shared) (u : Value), BindsTo s fd ⟨[u], []⟩ [(x, u)])
    (hsp : ∀ H : Hp, Only H → SqL K H a (ns.map V.int) → sp [.ref a] H (fun v _ => v = .bl true) fun _ _ _ => False)
    (hCX : ∀ H e s', CX [] H s₁ (fun _ _ _ => False) e s' → False) :
    codeAny (model P w) callerA (.call (.ref fa) ⟨[.ref a], []⟩) (fun r s' => r = .ok (.ret (.bool true)) ∧ OldK s₁.heap s'.heap ∧ s'.os = s₁.os ∧ AllBare s'.gens) s₁ := by
  have rv := vals_ints hi
  have lenV := hi.length
  -- from an abstract heap in which nothing but the script may be tracked
  have core : ∀ H : Hp, Only H → SqL K H a (ns.map V.int) → HOk P w H s₁.heap → (∀ b, H b ≠ none → b = a) → (H a ≠ none → K.lookup a = none) →
      codeAny (model P w) callerA (.call (.ref fa) ⟨[.ref a], []⟩) (fun r s' => r = .ok (.ret (.bool true)) ∧ OldK s₁.heap s'.heap ∧ s'.os = s₁.os ∧ AllBare s'.gens) s₁ := by
    intro H hO hS hok hA hK
    have base_of : ∀ {b : Addr} {o : Obj}, s₁.heap.get? b = some o → H b = none → (hidT s₁.heap H).get? b = some o := fun e n => hidT_get e n
    have noA : ∀ {b : Addr} {o : Obj} {es : Array DictEntry} {ep : Nat}, s₁.heap.get? b = some o → o.data = .dict es ep → H b = none := fun {b o es ep} e d => by
      cases q : H b with
      | none => rfl
      | some u =>
        have e' : b = a := hA b (by rw [q]; simp)
        subst e'
        rw [ha] at e; cases e
        have d' : Data.seq vs.toArray _ = Data.dict es ep := d
        cases d'
    have nsK : ∀ {b : Addr} {m : Str → Option Value}, s₁.heap.Ns b m → (hidT s₁.heap H).Ns b m := fun {b m} ⟨o, es, ep, e, d, r⟩ => ⟨o, es, ep, base_of e (noA e d), d, r⟩
    have hKb : K.In (hidT s₁.heap H) := fun b o e => base_of (KX b o e) (by
      cases q : H b with
      | none => rfl
      | some u =>
        have e' : b = a := hA b (by rw [q]; simp)
        subst e'
        rw [hK (by rw [q]; simp)] at e; cases e)
    have hM : Mod K mg (hidT s₁.heap H) := ⟨hKb, nsK hns, ⟨mb, nsK hb, hbb⟩, let ⟨mc, h1, h2⟩ := hlim; ⟨mc, nsK h1, h2⟩⟩
    have e0 : Env0 P w K mg (hidT s₁.heap H) callerA [] s₁ H := ⟨rfl, hM, fun b o e => of_hidT e, Nat.le_of_eq (hidT_size _ _), trivial, fun b hb => absurd (show b ∈ ([] : List Addr) from hb) (by simp), hok, .of_eq hg⟩
    refine codeAny_mono ((F _ hKb (nsK hns)).run callerA [] s₁ H ⟨[.ref a], []⟩ [.ref a] [.ref a] _ _ hr e0 (hbind s₁ (.ref a)) (.cons rfl .nil) (hsp H hO hS)) fun r s' h => ?_
    cases r with
    | error e => exact (hCX H e s' h).elim
    | ok fl =>
      cases fl with
      | next => exact False.elim h
      | brk => exact False.elim h
      | cont => exact False.elim h
      | ret u =>
        obtain ⟨v, H', os, bare, un, hok', r', q⟩ := h
        have q' : v = .bl true := q
        subst q'
        obtain rfl : u = Value.bool true := r'
        refine ⟨rfl, OldK.of_keep fun b o e => ?_, os, bare⟩
        cases q : H b with
        | none => exact un.keep b o e q (by intro z; exact absurd (show b ∈ ([] : List Addr) from z) (by simp)) (by simp)
        | some u =>
          rcases hO b with z | ⟨ob, xs, z⟩
          · rw [q] at z; cases z
          · have z2 := un.frzs b ob _ z
            obtain ⟨e1, _⟩ := hok b _ z
            obtain ⟨e2, _⟩ := hok' b _ z2
            rw [e] at e1; cases e1
            exact e2
  cases hk : K.lookup a with
  | some o =>
    -- the script is one of the module's own objects
    have e := KX a o hk
    rw [ha] at e
    cases e
    refine core (fun _ => none) (fun _ => .inl rfl) (.inr ⟨_, vs.toArray, _, hk, rfl, rfl, rfl, by rw [List.size_toArray, lenV]; exact hl, by simpa using rv⟩) (fun b u z => by have z' : (none : Option HO) = some u := z; cases z') (fun b z => absurd rfl z) fun z => absurd rfl z
  | none =>
    refine core (fun b => if b = a then some (.frz { cls := .type "list", data := .seq vs.toArray } (.lst (ns.map V.int))) else none) (fun b => ?_) (.inl (.inr ⟨{ cls := .type "list", data := .seq vs.toArray }, if_pos rfl⟩)) (fun b u z => ?_) (fun b z => ?_) fun _ => hk
    · by_cases hb : b = a
      · exact .inr ⟨_, _, if_pos hb⟩
      · exact .inl (if_neg hb)
    · by_cases hb : b = a
      · have z' := (if_pos hb).symm.trans z
        cases z'
        subst hb
        exact ⟨ha, by rw [List.length_map]; exact hl, vs, _, rv, ha⟩
      · have z' := (if_neg hb).symm.trans z
        cases z'
    · by_cases hb : b = a
      · exact hb
      · exact absurd (if_neg hb) z
end L2
namespace L2
open PySem PySem.Spec PyProof.Rows
end L2
/- THE LAST THEOREM (shape; LID, My.* are yours):
   My.Adr: a structure of the addresses that your layer names (classes, functions); My.Txt K t: a structure (Prop) of the equations over K;
   My.txt_mk : {K} {implicit addresses ..} (e1 : nsIn K mainGlobals "law" = some (some (.ref f))) (e2 : K.lookup f = some ⟨oc, od, .func (fnOf "law" "law" params body scope dV kV doc pm an cdv ct), sl⟩) (e3 : codeIn K cdv "law" = true) .. : ∃ t, My.Txt K t
set_option maxHeartbeats 0 in
theorem PySem.Challenge.cw_LID_holds : PySem.Challenge.rw_LID.Holds := by
  w_on; o_law; k_head; (case hw => w_witness2)
  k_fill
  refine L2.walk_of (l := PySem.Challenge.rw_LID) (n := 63) (k := 40) (x := "script") (CX := fun w => ..) (sp := fun _ => My.sp_law) rfl (by decide) rfl ⟨rfl, by decide, by decide⟩ (fun w h Y => PySem.W.kIn_of Y) ?F ?S ?C
  case F =>
    intro w mg fa h KX G hmg
    have T : ∃ t, My.Txt (L2.KOf KX) t := by
      dsimp only [L2.KOf]                          -- K must stand as «<heap const> w.params» for k_is
      refine' My.txt_mk ?e1 ?e2 ?e3 ..
      (case e1 => PySem.W.k_is)                    -- in the order: a name -> its address -> its object -> its parts
      (case e2 => PySem.W.k_is)
      ..
    obtain ⟨t, T⟩ := T
    have e0 := hmg.symm.trans (PySem.W.mg_of KX G T.law)
    cases e0                                       -- fa is the law's own address
    exact ⟨_, fun s u => .of_eq rfl, fun base kb nb => My.law_fn T kb nb⟩     -- if «.of_eq rfl» comes too early: refine' ⟨_, ?b, fun base kb nb => My.law_fn T kb nb⟩; exact fun s u => .of_eq rfl
  case S => exact fun w H a ns hl hO hS => ..
  case C => exact ..
(the tactic k_is has no namespace: write k_is) -/
namespace L2
open PySem PySem.Spec PyProof.Rows
def defArgs (s : Stmt) : Arguments := match s with
  | .FunctionDef _ a _ _ _ _ _ _ _ _ => a
  | _ => { posonlyargs := [], args := [], vararg := none, kwonlyargs := [], kw_defaults := [], kwarg := none, defaults := [] }
def defBody (s : Stmt) : List Stmt := match s with
  | .FunctionDef _ _ b _ _ _ _ _ _ _ => b
  | _ => []
def defScope (s : Stmt) : Scope := match s with
  | .FunctionDef _ _ _ _ _ _ sc _ _ _ => sc
  | _ => { kind := .function, names := [], isGenerator := false, isCoroutine := false }
abbrev CX0 : CXT := fun _ _ _ _ _ _ => False
abbrev E0 : XK := fun _ _ _ => False
theorem pass0 {X : Cx} : Passes CX0 X E0 := fun _ _ _ _ _ _ _ h => h.elim
structure Fun (K : PySem.W.Frag) (x qual : Str) (st : Stmt) (f : Addr) (fd : FuncData) : Prop where
  ex : ∃ (oc : Value) (od : Option Addr) (kV doc pm : Value) (an : Option Addr) (cdv ct : Value) (osl : Array (Option Value)),
    fd = PySem.W.fnOf x qual (defArgs st) (defBody st) (defScope st) .none kV doc pm an cdv ct ∧ K.lookup f = some ⟨oc, od, .func fd, osl⟩ ∧ PySem.W.codeIn K cdv qual = true
  kp : PySem.W.keepIn K (.ref f) = true
section
variable {P : Program} {w : World} {K : PySem.W.Frag} {mg : Str → Option Value} {base : Heap}
/-- THE RULE for a def: its body as a term of rules, and the reading of that term -/
theorem Fun.ok {x qual : Str} {st : Stmt} {f : Addr} {fd : FuncData} {N ps : List Str} {k : Nat} {sp : Sp} (F : Fun K x qual st f fd) (S : FnScope N ps (defScope st)) (len : ∀ vs H Q E, sp vs H Q E → vs.length = ps.length)
    (hbody : ∀ (cdv : Value) (A : Around) (outer : List Env) (s : Shared) (H : Hp) (vs : List V) (Q : VK) (E : XK), Room k (A.deeper (envOfC qual (defScope st) s.heap.objs.size f cdv)) → sp vs H Q E →
      ∃ t, PSs (cxOf CX0 P w K mg base N qual (defScope st) f cdv A outer s H E).nox (defBody st) t ∧ t { nx := fun _ H' => Q .non H', rt := Q } (start N vs) H) : FnOk P w K mg base CX0 (k + 1) f fd ps sp := by
  obtain ⟨oc, od, kV, doc, pm, an, cdv, ct, osl, rfl, lk, hcd⟩ := F.ex
  refine fn_of lk hcd S len fun A outer s H vs Q E hr hsp => ?_
  obtain ⟨t, h, q⟩ := hbody cdv A outer s H vs Q E hr hsp
  exact ⟨t, h.nox, q⟩
/-- how its arguments bind (no defaults): h is «fun _ _ _ _ _ _ us hl => match us, hl with | [_, _], _ => rfl», one _ a parameter -/
theorem Fun.binds {x qual : Str} {st : Stmt} {f : Addr} {fd : FuncData} {ps : List Str} (F : Fun K x qual st f fd)
    (h : ∀ (kV doc pm : Value) (an : Option Addr) (cdv ct : Value) (us : List Value), us.length = ps.length → bindArgs (PySem.W.fnOf x qual (defArgs st) (defBody st) (defScope st) .none kV doc pm an cdv ct) ⟨us, []⟩ = pure (ps.zip us)) : Binds K fd ps [] := by
  obtain ⟨oc, od, kV, doc, pm, an, cdv, ct, osl, rfl, lk, hcd⟩ := F.ex
  exact .all (h kV doc pm an cdv ct)
theorem fun_mk {x qual : Str} {st : Stmt} {f : Addr} {oc : Value} {od an : Option Addr} {osl : Array (Option Value)} {kV doc pm cdv ct : Value} (l : K.lookup f = some ⟨oc, od, .func (PySem.W.fnOf x qual (defArgs st) (defBody st) (defScope st) .none kV doc pm an cdv ct), osl⟩)
    (c : PySem.W.codeIn K cdv qual = true) (k : PySem.W.keepIn K (.ref f) = true) : Fun K x qual st f (PySem.W.fnOf x qual (defArgs st) (defBody st) (defScope st) .none kV doc pm an cdv ct) := ⟨⟨oc, od, kV, doc, pm, an, cdv, ct, osl, rfl, l, c⟩, k⟩
end
theorem hu_of {A : Around} {k : Nat} (hr : Room k A) : A.units + 1 < cLine := Nat.lt_of_le_of_lt (Nat.add_le_add_left (by decide : 1 ≤ 64) _) hr.units
theorem small1000 {n : Nat} (h : n ≤ 1000) : n < sizeLine := Nat.lt_of_le_of_lt h (by decide)
section
variable {X : Cx}
theorem pv (i : Nat) {x : Str} {pos : Pos} (hN : X.N[i]? = some x := by rfl) (hv : Vis X.env.scope x := by first | exact Or.inl rfl | exact Or.inr (Or.inl rfl) | exact Or.inr (Or.inr rfl)) (hd : (x == ("__debug__" : Str)) = false := by decide)
    (hcd : (x == ("__classdict__" : Str)) = false := by decide) : PE X (.Name x pos) (tVar i) := pe_var hN hv hd hcd
end
theorem iteF {A B : Prop} (h : B) : if false = true then A else B := by
  rw [if_neg Bool.false_ne_true]
  exact h
theorem iteT {A B : Prop} (h : A) : if true = true then A else B := by
  rw [if_pos rfl]
  exact h
theorem ite2 {c A B : Prop} [Decidable c] (h1 : c → A) (h2 : ¬ c → B) : if c then A else B := by
  by_cases h : c
  · rw [if_pos h]
    exact h1 h
  · rw [if_neg h]
    exact h2 h
/-- all that was tracked is as it was -/
def Same (H H' : Hp) : Prop := ∀ b o, H b = some o → H' b = some o
theorem Same.refl (H : Hp) : Same H H := fun _ _ h => h
theorem Same.trans {H H1 H2 : Hp} (a : Same H H1) (b : Same H1 H2) : Same H H2 := fun c o h => b c o (a c o h)
theorem Same.free {H H' : Hp} (e : Same H H') {l : Addr} (h : H' l = Option.none) : H l = Option.none := by
  cases q : H l with
  | none => rfl
  | some o =>
    rw [e l o q] at h
    cases h
theorem Same.seq {K : PySem.W.Frag} {H H' : Hp} {a : Addr} {xs : List V} (e : Same H H') (h : SqL K H a xs) : SqL K H' a xs := by
  rcases h with (h | ⟨o, h⟩) | h
  · exact .inl (.inl (e _ _ h))
  · exact .inl (.inr ⟨o, e _ _ h⟩)
  · exact .inr h
theorem at_of {xs : List V} {z : Int} {j : Nat} {v : V} (e : z = (j : Int)) (h : xs[j]? = some v) : atI xs z = some v := by
  rw [e]
  exact atI_nat h
end L2
section
set_option maxHeartbeats 2000000
namespace L2
open PySem PySem.Spec PyProof.Rows
open PySem.W (WData Codec OpenSpec Well WellAll ReadsW ReadsAllW)
mutual
/-- x stands for the datum d, lists and tuples all the way -/
inductive Dw (K : PySem.W.Frag) (H : Hp) : V → WData → Prop
  | non : Dw K H .non .none
  | bl (b : Bool) : Dw K H (.bl b) (.bool b)
  | int (i : Int) : Dw K H (.int i) (.int i)
  | str (x : Str) : Dw K H (.str x) (.str x)
  | byt (b : Array UInt8) : Dw K H (.byt b) (.bytes b.toList)
  | lst {a : Addr} {xs : List V} {ds : List WData} : SqL K H a xs → DwAll K H xs ds → Dw K H (.ref a) (.list ds)
  | tup {a : Addr} {xs : List V} {ds : List WData} : SqT K H a xs → DwAll K H xs ds → Dw K H (.ref a) (.tuple ds)
inductive DwAll (K : PySem.W.Frag) (H : Hp) : List V → List WData → Prop
  | nil : DwAll K H [] []
  | cons {v : V} {vs : List V} {d : WData} {ds : List WData} : Dw K H v d → DwAll K H vs ds → DwAll K H (v :: vs) (d :: ds)
end
theorem dw_ints {K : PySem.W.Frag} {H : Hp} : ∀ ns : List Int, DwAll K H (ns.map V.int) (ns.map WData.int)
  | [] => .nil
  | n :: r => .cons (.int n) (dw_ints r)
theorem ints_dw {K : PySem.W.Frag} {H : Hp} : ∀ (ns : List Int) (xs : List V), DwAll K H xs (ns.map WData.int) → xs = ns.map V.int
  | [], xs, h => by
    cases h
    rfl
  | n :: r, xs, h => by
    cases h with
    | cons h1 h2 =>
      cases h1
      rw [ints_dw r _ h2] <;> rfl
section
variable {P : Program} {w : World} {K : PySem.W.Frag} {H : Hp} {h : Heap} {R : PySem.W.WRecords} {cl : Str → Option Addr}
theorem sqL_at {a : Addr} {xs : List V} (hok : HOk P w H h) (KX : K.In h) (q : SqL K H a xs) : ∃ (its : List Value) (o : Obj) (n : Nat), Vals xs its ∧ h.get? a = some o ∧ o.cls = .type "list" ∧ o.data = .seq its.toArray n := by
  rcases q with q | ⟨o, its, n, e, hc, _, hd, _, hv⟩
  · obtain ⟨_, its, n, hv, e⟩ := (show ObjOk P w H h a (.lst xs) from q.ok hok)
    exact ⟨its, _, n, hv, e, rfl, rfl⟩
  · exact ⟨its.toList, o, n, hv, KX _ _ e, hc, by simp [hd]⟩
theorem sqT_at {a : Addr} {xs : List V} (hok : HOk P w H h) (KX : K.In h) (q : SqT K H a xs) : ∃ (its : List Value) (o : Obj) (n : Nat), Vals xs its ∧ h.get? a = some o ∧ o.cls = .type "tuple" ∧ o.data = .seq its.toArray n := by
  rcases q with q | ⟨o, its, n, e, hc, hd, _, hv⟩
  · obtain ⟨_, its, hv, o, e, hc, n, hd⟩ := (show ObjOk P w H h a (.tup xs) from q.ok hok)
    exact ⟨its, o, n, hv, e, hc, hd⟩
  · exact ⟨its.toList, o, n, hv, KX _ _ e, hc, by simp [hd]⟩
mutual
theorem Dw.reads (hok : HOk P w H h) (KX : K.In h) : ∀ (d : WData) (v : V) (u : Value), Dw K H v d → RelV v u → ∃ as, ReadsW R cl h u d as
  | .none, _, _, x, r => by
    cases x
    cases r
    exact ⟨_, ReadsW.none⟩
  | .bool b, _, _, x, r => by
    cases x
    cases r
    exact ⟨_, ReadsW.bool b⟩
  | .int i, _, _, x, r => by
    cases x
    obtain ⟨t, rfl⟩ := r
    exact ⟨_, ReadsW.int i t⟩
  | .str s, _, _, x, r => by
    cases x
    obtain ⟨t, rfl⟩ := r
    exact ⟨_, ReadsW.str s t⟩
  | .bytes b, _, _, x, r => by
    cases x
    obtain ⟨t, rfl⟩ := r
    exact ⟨_, ReadsW.bytes _ t⟩
  | .list ds, _, _, x, r => by
    cases x with
    | lst hs ha =>
      cases r
      obtain ⟨its, o, n, rv, ho, hc, hd⟩ := sqL_at hok KX hs
      obtain ⟨as, hr⟩ := Dw.readsAll hok KX ds _ its ha rv
      exact ⟨_, ReadsW.list ho hc hd hr⟩
  | .tuple ds, _, _, x, r => by
    cases x with
    | tup hs ha =>
      cases r
      obtain ⟨its, o, n, rv, ho, hc, hd⟩ := sqT_at hok KX hs
      obtain ⟨as, hr⟩ := Dw.readsAll hok KX ds _ its ha rv
      exact ⟨_, ReadsW.tuple ho hc hd hr⟩
  | .float _, _, _, x, _ => by cases x
  | .dict _, _, _, x, _ => by cases x
  | .bytearray _, _, _, x, _ => by cases x
  | .set _, _, _, x, _ => by cases x
  | .frozenset _, _, _, x, _ => by cases x
  | .obj _ _, _, _, x, _ => by cases x
theorem Dw.readsAll (hok : HOk P w H h) (KX : K.In h) : ∀ (ds : List WData) (vs : List V) (us : List Value), DwAll K H vs ds → Vals vs us → ∃ as, ReadsAllW R cl h us ds as
  | [], _, _, x, r => by
    cases x
    cases r
    exact ⟨_, ReadsAllW.nil⟩
  | d :: ds, _, _, x, r => by
    cases x with
    | cons h1 h2 =>
      cases r with
      | cons r1 r2 =>
        obtain ⟨as, q1⟩ := Dw.reads hok KX d _ _ h1 r1
        obtain ⟨bs, q2⟩ := Dw.readsAll hok KX ds _ _ h2 r2
        exact ⟨_, ReadsAllW.cons q1 q2⟩
end
end
mutual
/-- data that a codec tells -/
def plW : WData → Bool
  | .none => true
  | .bool _ => true
  | .int _ => true
  | .str _ => true
  | .bytes _ => true
  | .list xs => plWs xs
  | .tuple xs => plWs xs
  | _ => false
def plWs : List WData → Bool
  | [] => true
  | x :: r => plW x && plWs r
end
theorem plWs_map {α : Type} {f : α → WData} (h : ∀ a, plW (f a) = true) : ∀ l : List α, plWs (l.map f) = true
  | [] => rfl
  | x :: r => by
    show (plW (f x) && plWs (r.map f)) = true
    rw [h x, plWs_map h r] <;> rfl
theorem pl_enc : ∀ (c : Codec) (a : c.denote), plW (c.enc a) = true
  | .unit, _ => rfl
  | .bool, _ => rfl
  | .int _ _, _ => rfl
  | .nat _ _, _ => rfl
  | .u8, _ => rfl
  | .bytes _ _, _ => rfl
  | .text _ _ _ _, _ => rfl
  | .list _ _ c, a => plWs_map (fun x => pl_enc c x) a
  | .pair c d, a => by
    show (plW (c.enc a.1) && (plW (d.enc a.2) && true)) = true
    rw [pl_enc c a.1, pl_enc d a.2] <;> rfl
  | .triple c d e, a => by
    show (plW (c.enc a.1) && (plW (d.enc a.2.1) && (plW (e.enc a.2.2) && true))) = true
    rw [pl_enc c a.1, pl_enc d a.2.1, pl_enc e a.2.2] <;> rfl
  | .option c, none => rfl
  | .option c, some x => pl_enc c x
theorem pl_encAll : ∀ (cs : List Codec) (a : Codec.denoteAll cs), plWs (Codec.encAll cs a) = true
  | [], _ => rfl
  | c :: cs, a => by
    show (plW (c.enc a.1) && plWs (Codec.encAll cs a.2)) = true
    rw [pl_enc c a.1, pl_encAll cs a.2] <;> rfl
theorem weight_mem : ∀ {xs : List WData} {d : WData}, d ∈ xs → d.weight ≤ WData.weightAll xs
  | [], d, h => absurd h (by simp)
  | x :: r, d, h => by
    show d.weight ≤ x.weight + 1 + WData.weightAll r
    rcases List.mem_cons.mp h with e | m
    · rw [e]
      omega
    · have z := weight_mem m
      omega
def toV : Value → V
  | .none => .non
  | .bool b => .bl b
  | .int i _ => .int i
  | .str x _ => .str x
  | .bytes b _ => .byt b
  | .ref a => .ref a
  | _ => .non
/-- a value of the arguments, its objects among A -/
def OkU (A : List Addr) : Value → Prop
  | .none => True
  | .bool _ => True
  | .int _ _ => True
  | .str _ _ => True
  | .bytes _ _ => True
  | .ref a => a ∈ A
  | _ => False
theorem OkU.mono {A B : List Addr} (h : ∀ a ∈ A, a ∈ B) : ∀ {u : Value}, OkU A u → OkU B u := fun {u} x => by
  cases u with
  | ref a => exact h a x
  | none => trivial
  | bool b => trivial
  | int i t => trivial
  | str s t => trivial
  | bytes b t => trivial
  | _ => exact False.elim x
theorem relV_toV {A : List Addr} {u : Value} (x : OkU A u) : RelV (toV u) u := by
  cases u with
  | ref a => rfl
  | none => rfl
  | bool b => rfl
  | int i t => exact ⟨t, rfl⟩
  | str s t => exact ⟨t, rfl⟩
  | bytes b t => exact ⟨t, rfl⟩
  | _ => exact False.elim x
theorem vals_toV {A : List Addr} : ∀ {vs : List Value}, (∀ u ∈ vs, OkU A u) → Vals (vs.map toV) vs
  | [], _ => .nil
  | u :: r, h => .cons (relV_toV (h u (List.mem_cons_self ..))) (vals_toV fun x hx => h x (List.mem_cons_of_mem _ hx))
/-- an object of the arguments -/
def ArgOb (h : Heap) (A : List Addr) (a : Addr) : Prop := ∃ vs : List Value, vs.length ≤ sizeLine ∧ (∀ u ∈ vs, OkU A u) ∧
  (h.get? a = some { cls := .type "list", data := .seq vs.toArray } ∨ h.get? a = some { cls := .type "tuple", data := .seq vs.toArray })
theorem ArgOb.mono {h : Heap} {A B : List Addr} {a : Addr} (k : ∀ a ∈ A, a ∈ B) (x : ArgOb h A a) : ArgOb h B a := by
  obtain ⟨vs, h1, h2, h3⟩ := x
  exact ⟨vs, h1, fun u hu => (h2 u hu).mono k, h3⟩
theorem wellAll_len {P : Params} {h : Heap} : ∀ {vs : List Value} {ds : List WData}, WellAll P h vs ds → vs.length = ds.length
  | _, _, .nil => rfl
  | _, _, .cons _ b => by
    show _ + 1 = _ + 1
    rw [wellAll_len b]
theorem well_list {P : Params} {h : Heap} {v : Value} {ds : List WData} (x : Well P h v (.list ds)) : ∃ (a : Addr) (vs : List Value), v = .ref a ∧ h.get? a = some { cls := .type "list", data := .seq vs.toArray } ∧ WellAll P h vs ds := by
  cases x with
  | list ho hall => exact ⟨_, _, rfl, ho, hall⟩
theorem well_tuple {P : Params} {h : Heap} {v : Value} {ds : List WData} (x : Well P h v (.tuple ds)) : ∃ (a : Addr) (vs : List Value), v = .ref a ∧ h.get? a = some { cls := .type "tuple", data := .seq vs.toArray } ∧ WellAll P h vs ds := by
  cases x with
  | tuple ho hall => exact ⟨_, _, rfl, ho, hall⟩
theorem well_cons {P : Params} {h : Heap} {us : List Value} {d : WData} {ds : List WData} (x : WellAll P h us (d :: ds)) : ∃ (v : Value) (vs : List Value), us = v :: vs ∧ Well P h v d ∧ WellAll P h vs ds := by
  cases x with
  | cons a b => exact ⟨_, _, rfl, a, b⟩
theorem line_of {n : Nat} (h : n ≤ 1048576) : n ≤ sizeLine := Nat.le_trans h (by decide)
section
variable {P : Params} {h : Heap}
mutual
theorem area_one : ∀ (d : WData) (v : Value), Well P h v d → plW d = true → d.weight ≤ 1048576 → ∃ A : List Addr, OkU A v ∧ ∀ a ∈ A, ArgOb h A a
  | .none, _, x, _, _ => by
    cases x
    exact ⟨[], trivial, fun a m => absurd m (by simp)⟩
  | .bool b, _, x, _, _ => by
    cases x
    exact ⟨[], trivial, fun a m => absurd m (by simp)⟩
  | .int i, _, x, _, _ => by
    cases x
    exact ⟨[], trivial, fun a m => absurd m (by simp)⟩
  | .str s, _, x, _, _ => by
    cases x
    exact ⟨[], trivial, fun a m => absurd m (by simp)⟩
  | .bytes b, _, x, _, _ => by
    cases x
    exact ⟨[], trivial, fun a m => absurd m (by simp)⟩
  | .list ds, _, x, p, z => by
    obtain ⟨a, vs, rfl, ho, hall⟩ := well_list x
    have z2 : WData.weightAll ds ≤ 1048576 := z
    obtain ⟨A, h1, h2⟩ := area_all ds _ hall p fun d hd => Nat.le_trans (weight_mem hd) z2
    have k : ∀ b ∈ A, b ∈ a :: A := fun b hb => List.mem_cons_of_mem _ hb
    refine ⟨a :: A, List.mem_cons_self .., fun b hb => ?_⟩
    rcases List.mem_cons.mp hb with e | m
    · rw [e]
      exact ⟨vs, line_of (by rw [wellAll_len hall]; exact Nat.le_trans (PySem.W.length_le_weightAllW ds) z2), fun u hu => (h1 u hu).mono k, .inl ho⟩
    · exact (h2 b m).mono k
  | .tuple ds, _, x, p, z => by
    obtain ⟨a, vs, rfl, ho, hall⟩ := well_tuple x
    have z2 : WData.weightAll ds ≤ 1048576 := z
    obtain ⟨A, h1, h2⟩ := area_all ds _ hall p fun d hd => Nat.le_trans (weight_mem hd) z2
    have k : ∀ b ∈ A, b ∈ a :: A := fun b hb => List.mem_cons_of_mem _ hb
    refine ⟨a :: A, List.mem_cons_self .., fun b hb => ?_⟩
    rcases List.mem_cons.mp hb with e | m
    · rw [e]
      exact ⟨vs, line_of (by rw [wellAll_len hall]; exact Nat.le_trans (PySem.W.length_le_weightAllW ds) z2), fun u hu => (h1 u hu).mono k, .inr ho⟩
    · exact (h2 b m).mono k
  | .float _, _, _, p, _ => Bool.noConfusion (show false = true from p)
  | .dict _, _, _, p, _ => Bool.noConfusion (show false = true from p)
  | .bytearray _, _, _, p, _ => Bool.noConfusion (show false = true from p)
  | .set _, _, _, p, _ => Bool.noConfusion (show false = true from p)
  | .frozenset _, _, _, p, _ => Bool.noConfusion (show false = true from p)
  | .obj _ _, _, _, p, _ => Bool.noConfusion (show false = true from p)
theorem area_all : ∀ (ds : List WData) (vs : List Value), WellAll P h vs ds → plWs ds = true → (∀ d ∈ ds, d.weight ≤ 1048576) → ∃ A : List Addr, (∀ u ∈ vs, OkU A u) ∧ ∀ a ∈ A, ArgOb h A a
  | [], _, x, _, _ => by
    cases x
    exact ⟨[], fun u m => absurd m (by simp), fun a m => absurd m (by simp)⟩
  | d :: ds, _, x, p, z => by
    obtain ⟨v, vs, rfl, x1, x2⟩ := well_cons x
    have q : plW d = true ∧ plWs ds = true := Bool.and_eq_true_iff.mp p
    obtain ⟨A, a1, a2⟩ := area_one d v x1 q.1 (z d (List.mem_cons_self ..))
    obtain ⟨B, b1, b2⟩ := area_all ds vs x2 q.2 fun e he => z e (List.mem_cons_of_mem _ he)
    have kA : ∀ b ∈ A, b ∈ A ++ B := fun b hb => List.mem_append.mpr (.inl hb)
    have kB : ∀ b ∈ B, b ∈ A ++ B := fun b hb => List.mem_append.mpr (.inr hb)
    refine ⟨A ++ B, fun u hu => ?_, fun b hb => ?_⟩
    · rcases List.mem_cons.mp hu with e | m
      · rw [e]
        exact a1.mono kA
      · exact (b1 u m).mono kB
    · rcases List.mem_append.mp hb with m | m
      · exact (a2 b m).mono kA
      · exact (b2 b m).mono kB
end
end
/-- what is tracked of an argument's object -/
def hoOf (o : Obj) : Option HO := match o.data with
  | .seq vs _ => if (o.cls == Value.type "list") = true then some (.frz o (.lst (vs.toList.map toV))) else some (.frz o (.tup (vs.toList.map toV)))
  | _ => none
def argH (K : PySem.W.Frag) (h : Heap) (A : List Addr) : Hp := fun b => if b ∈ A then (if (K.lookup b).isNone = true then (h.get? b).bind hoOf else none) else none
/-- nothing is tracked but what is known to the object -/
def OnlyF (H : Hp) : Prop := ∀ b, H b = none ∨ ∃ o u, H b = some (.frz o u)
theorem hoOf_lst (vs : List Value) : hoOf { cls := .type "list", data := .seq vs.toArray } = some (.frz { cls := .type "list", data := .seq vs.toArray } (.lst (vs.map toV))) := by
  show (if (Value.type "list" == Value.type "list") = true then some (HO.frz { cls := .type "list", data := .seq vs.toArray } (.lst (vs.toArray.toList.map toV))) else some (HO.frz { cls := .type "list", data := .seq vs.toArray } (.tup (vs.toArray.toList.map toV)))) = _
  rw [if_pos (beq_self_eq_true _)]
theorem hoOf_tup (vs : List Value) : hoOf { cls := .type "tuple", data := .seq vs.toArray } = some (.frz { cls := .type "tuple", data := .seq vs.toArray } (.tup (vs.map toV))) := by
  show (if (Value.type "tuple" == Value.type "list") = true then some (HO.frz { cls := .type "tuple", data := .seq vs.toArray } (.lst (vs.toArray.toList.map toV))) else some (HO.frz { cls := .type "tuple", data := .seq vs.toArray } (.tup (vs.toArray.toList.map toV)))) = _
  rw [if_neg (by decide)]
section
variable {P : Program} {w : World} {K : PySem.W.Frag} {h : Heap} {A : List Addr}
theorem argH_at {b : Addr} {o : Obj} (hb : b ∈ A) (hk : K.lookup b = none) (e : h.get? b = some o) : argH K h A b = hoOf o := by
  unfold argH
  rw [if_pos hb, hk, if_pos (show (none : Option Obj).isNone = true from rfl), e] <;> rfl
theorem of_argH {b : Addr} {u : HO} (q : argH K h A b = some u) : b ∈ A ∧ K.lookup b = none := by
  unfold argH at q
  by_cases hb : b ∈ A
  · rw [if_pos hb] at q
    cases hk : K.lookup b with
    | none => exact ⟨hb, rfl⟩
    | some o =>
      rw [hk, if_neg (by simp)] at q
      cases q
  · rw [if_neg hb] at q
    cases q
/-- what stands tracked -/
theorem argH_is (ar : ∀ a ∈ A, ArgOb h A a) {b : Addr} {u : HO} (q : argH K h A b = some u) : K.lookup b = none ∧ ∃ vs : List Value, vs.length ≤ sizeLine ∧ (∀ u ∈ vs, OkU A u) ∧
    ((h.get? b = some { cls := .type "list", data := .seq vs.toArray } ∧ u = .frz { cls := .type "list", data := .seq vs.toArray } (.lst (vs.map toV))) ∨
     (h.get? b = some { cls := .type "tuple", data := .seq vs.toArray } ∧ u = .frz { cls := .type "tuple", data := .seq vs.toArray } (.tup (vs.map toV)))) := by
  obtain ⟨hb, hk⟩ := of_argH q
  obtain ⟨vs, h1, h2, h3⟩ := ar b hb
  refine ⟨hk, vs, h1, h2, ?_⟩
  rcases h3 with e | e
  · rw [argH_at hb hk e, hoOf_lst] at q
    exact .inl ⟨e, (Option.some.inj q).symm⟩
  · rw [argH_at hb hk e, hoOf_tup] at q
    exact .inr ⟨e, (Option.some.inj q).symm⟩
theorem argH_only (ar : ∀ a ∈ A, ArgOb h A a) : OnlyF (argH K h A) := fun b => by
  cases q : argH K h A b with
  | none => exact .inl rfl
  | some u =>
    obtain ⟨_, vs, _, _, ⟨_, e⟩ | ⟨_, e⟩⟩ := argH_is ar q
    · exact .inr ⟨_, _, by rw [e]⟩
    · exact .inr ⟨_, _, by rw [e]⟩
theorem argH_ok (ar : ∀ a ∈ A, ArgOb h A a) : HOk P w (argH K h A) h := fun b u q => by
  obtain ⟨_, vs, h1, h2, ⟨e, rfl⟩ | ⟨e, rfl⟩⟩ := argH_is ar q
  · exact ⟨e, by rw [List.length_map]; exact h1, vs, _, vals_toV h2, e⟩
  · exact ⟨e, by rw [List.length_map]; exact h1, vs, vals_toV h2, _, e, rfl, _, rfl⟩
theorem seq_inj {c c' : Value} {vs us : List Value} (e : (some { cls := c, data := .seq vs.toArray } : Option Obj) = some { cls := c', data := .seq us.toArray }) : c = c' ∧ vs = us := by
  have e1 := Option.some.inj e
  have e2 : c = c' := congrArg Obj.cls e1
  have e3 : Data.seq vs.toArray = Data.seq us.toArray := congrArg Obj.data e1
  injection e3 with e4
  refine ⟨e2, ?_⟩
  have e5 := congrArg Array.toList e4
  simpa using e5
/-- a list argument -/
theorem argL (KX : K.In h) (ar : ∀ a ∈ A, ArgOb h A a) {a : Addr} {vs : List Value} (ha : a ∈ A) (e : h.get? a = some { cls := .type "list", data := .seq vs.toArray }) : (∀ u ∈ vs, OkU A u) ∧ SqL K (argH K h A) a (vs.map toV) := by
  obtain ⟨us, h1, h2, h3⟩ := ar a ha
  have hu : us = vs := by
    rcases h3 with q | q
    · rw [e] at q
      exact (seq_inj q).2.symm
    · rw [e] at q
      exact absurd (Value.type.inj (seq_inj q).1) (by decide)
  subst hu
  refine ⟨h2, ?_⟩
  cases hk : K.lookup a with
  | none => exact .inl (.inr ⟨_, by rw [argH_at ha hk e, hoOf_lst]⟩)
  | some o =>
    have e2 := KX a o hk
    rw [e] at e2
    obtain rfl := Option.some.inj e2
    exact .inr ⟨_, us.toArray, _, hk, rfl, rfl, rfl, by rw [List.size_toArray]; exact h1, by simpa using vals_toV h2⟩
theorem argT (KX : K.In h) (ar : ∀ a ∈ A, ArgOb h A a) {a : Addr} {vs : List Value} (ha : a ∈ A) (e : h.get? a = some { cls := .type "tuple", data := .seq vs.toArray }) : (∀ u ∈ vs, OkU A u) ∧ SqT K (argH K h A) a (vs.map toV) := by
  obtain ⟨us, h1, h2, h3⟩ := ar a ha
  have hu : us = vs := by
    rcases h3 with q | q
    · rw [e] at q
      exact absurd (Value.type.inj (seq_inj q).1) (by decide)
    · rw [e] at q
      exact (seq_inj q).2.symm
  subst hu
  refine ⟨h2, ?_⟩
  cases hk : K.lookup a with
  | none => exact .inl (.inr ⟨_, by rw [argH_at ha hk e, hoOf_tup]⟩)
  | some o =>
    have e2 := KX a o hk
    rw [e] at e2
    obtain rfl := Option.some.inj e2
    exact .inr ⟨_, us.toArray, _, hk, rfl, rfl, by rw [List.size_toArray]; exact h1, by simpa using vals_toV h2⟩
mutual
theorem dw_one {Pm : Params} (KX : K.In h) (ar : ∀ a ∈ A, ArgOb h A a) : ∀ (d : WData) (v : Value), Well Pm h v d → plW d = true → OkU A v → Dw K (argH K h A) (toV v) d
  | .none, _, x, _, _ => by
    cases x
    exact .non
  | .bool b, _, x, _, _ => by
    cases x
    exact .bl b
  | .int i, _, x, _, _ => by
    cases x
    exact .int i
  | .str s, _, x, _, _ => by
    cases x
    exact .str s
  | .bytes b, _, x, _, _ => by
    cases x
    have z := Dw.byt (K := K) (H := argH K h A) b.toArray
    exact z
  | .list ds, _, x, p, hu => by
    obtain ⟨a, vs, rfl, ho, hall⟩ := well_list x
    obtain ⟨h2, hs⟩ := argL KX ar hu ho
    exact .lst hs (dw_all KX ar ds _ hall p h2)
  | .tuple ds, _, x, p, hu => by
    obtain ⟨a, vs, rfl, ho, hall⟩ := well_tuple x
    obtain ⟨h2, hs⟩ := argT KX ar hu ho
    exact .tup hs (dw_all KX ar ds _ hall p h2)
  | .float _, _, _, p, _ => Bool.noConfusion (show false = true from p)
  | .dict _, _, _, p, _ => Bool.noConfusion (show false = true from p)
  | .bytearray _, _, _, p, _ => Bool.noConfusion (show false = true from p)
  | .set _, _, _, p, _ => Bool.noConfusion (show false = true from p)
  | .frozenset _, _, _, p, _ => Bool.noConfusion (show false = true from p)
  | .obj _ _, _, _, p, _ => Bool.noConfusion (show false = true from p)
theorem dw_all {Pm : Params} (KX : K.In h) (ar : ∀ a ∈ A, ArgOb h A a) : ∀ (ds : List WData) (vs : List Value), WellAll Pm h vs ds → plWs ds = true → (∀ u ∈ vs, OkU A u) → DwAll K (argH K h A) (vs.map toV) ds
  | [], _, x, _, _ => by
    cases x
    exact .nil
  | d :: ds, _, x, p, hu => by
    obtain ⟨v, vs, rfl, x1, x2⟩ := well_cons x
    have q : plW d = true ∧ plWs ds = true := Bool.and_eq_true_iff.mp p
    exact .cons (dw_one KX ar d v x1 q.1 (hu _ (List.mem_cons_self ..))) (dw_all KX ar ds vs x2 q.2 fun u m => hu u (List.mem_cons_of_mem _ m))
end
end
theorem spec_call {P : Program} {w : World} {K : PySem.W.Frag} {mg mb : Str → Option Value} {CX : CXT} {k : Nat} {fa : Addr} {fd : FuncData} {ps : List Str} {sp : Sp} {s₁ : Shared} {vals : List Value} {ds : List WData} {R : PySem.W.WRecords} {cl : Str → Option Addr} {d0 : WData}
    (KX : K.In s₁.heap) (hns : s₁.heap.Ns mainGlobals mg) (hb : s₁.heap.Ns builtinsNs mb) (hbb : ∀ x : Str, x ≠ "__name__" → mb x = bootBuiltins x) (hlim : s₁.heap.NoLimit) (hg : s₁.gens = #[])
    (hwl : WellAll w.params s₁.heap vals ds) (hpl : plWs ds = true) (hwt : ∀ d ∈ ds, d.weight ≤ 1048576) (hr : Room k callerA)
    (F : ∀ base : Heap, K.In base → base.Ns mainGlobals mg → FnOk P w K mg base CX k fa fd ps sp) (hbind : ∀ (s : Shared) (us : List Value), us.length = ps.length → BindsTo s fd ⟨us, []⟩ (ps.zip us)) (hlen : ds.length = ps.length)
    (hsp : ∀ (H : Hp) (xs : List V), OnlyF H → DwAll K H xs ds → sp xs H (fun v H' => Dw K H' v d0) fun _ _ _ => False)
    (hCX : ∀ H e s', CX [] H s₁ (fun _ _ _ => False) e s' → False) :
    codeAny (model P w) callerA (.call (.ref fa) ⟨vals, []⟩) (fun r s' => ∃ u as, r = .ok (.ret u) ∧ ReadsW R cl s'.heap u d0 as ∧ OldK s₁.heap s'.heap ∧ s'.os = s₁.os ∧ AllBare s'.gens) s₁ := by
  obtain ⟨A, ho, ar⟩ := area_all ds vals hwl hpl hwt
  have hO : OnlyF (argH K s₁.heap A) := argH_only ar
  have hok : HOk P w (argH K s₁.heap A) s₁.heap := argH_ok ar
  have hS := dw_all KX ar ds vals hwl hpl ho
  have hV := vals_toV ho
  have hK : ∀ b u, argH K s₁.heap A b = some u → K.lookup b = none := fun b u q => (argH_is ar q).1
  have noA : ∀ {b : Addr} {o : Obj} {es : Array DictEntry} {ep : Nat}, s₁.heap.get? b = some o → o.data = .dict es ep → argH K s₁.heap A b = none := fun {b o es ep} e d => by
    cases q : argH K s₁.heap A b with
    | none => rfl
    | some u =>
      obtain ⟨_, vs, _, _, ⟨e2, _⟩ | ⟨e2, _⟩⟩ := argH_is ar q
      · rw [e2] at e
        cases e
        have d' : Data.seq vs.toArray _ = Data.dict es ep := d
        cases d'
      · rw [e2] at e
        cases e
        have d' : Data.seq vs.toArray _ = Data.dict es ep := d
        cases d'
  generalize argH K s₁.heap A = H at hO hok hS hK noA
  have base_of : ∀ {b : Addr} {o : Obj}, s₁.heap.get? b = some o → H b = none → (hidT s₁.heap H).get? b = some o := fun e n => hidT_get e n
  have nsK : ∀ {b : Addr} {m : Str → Option Value}, s₁.heap.Ns b m → (hidT s₁.heap H).Ns b m := fun {b m} ⟨o, es, ep, e, d, r⟩ => ⟨o, es, ep, base_of e (noA e d), d, r⟩
  have nK : ∀ b o, K.lookup b = some o → H b = none := fun b o e => by
    cases q : H b with
    | none => rfl
    | some u =>
      rw [hK b u q] at e
      cases e
  have hKb : K.In (hidT s₁.heap H) := fun b o e => base_of (KX b o e) (nK b o e)
  have hM : Mod K mg (hidT s₁.heap H) := ⟨hKb, nsK hns, ⟨mb, nsK hb, hbb⟩, let ⟨mc, h1, h2⟩ := hlim; ⟨mc, nsK h1, h2⟩⟩
  have e0 : Env0 P w K mg (hidT s₁.heap H) callerA [] s₁ H := ⟨rfl, hM, fun b o e => of_hidT e, Nat.le_of_eq (hidT_size _ _), trivial, fun b hb => absurd (show b ∈ ([] : List Addr) from hb) (by simp), hok, .of_eq hg⟩
  have hl : vals.length = ps.length := by rw [wellAll_len hwl]; exact hlen
  refine codeAny_mono ((F _ hKb (nsK hns)).run callerA [] s₁ H ⟨vals, []⟩ vals (vals.map toV) _ _ hr e0 (hbind s₁ vals hl) hV (hsp H _ hO hS)) fun r s' x => ?_
  cases r with
  | error e => exact (hCX H e s' x).elim
  | ok fl =>
    cases fl with
    | next => exact False.elim x
    | brk => exact False.elim x
    | cont => exact False.elim x
    | ret u =>
      obtain ⟨v, H', os, bare, un, hok', r', q⟩ := x
      have kept : ∀ b o, s₁.heap.get? b = some o → s'.heap.get? b = some o := fun b o e => by
        cases q2 : H b with
        | none => exact un.keep b o e q2 (by intro z; exact absurd (show b ∈ ([] : List Addr) from z) (by simp)) (by simp)
        | some u2 =>
          rcases hO b with z | ⟨ob, u3, z⟩
          · rw [q2] at z
            cases z
          · have z2 := un.frzs b ob _ z
            obtain ⟨e1, _⟩ := hok b _ z
            obtain ⟨e2, _⟩ := hok' b _ z2
            rw [e] at e1
            cases e1
            exact e2
      have KX' : K.In s'.heap := fun b o e => kept b o (KX b o e)
      obtain ⟨as, hrd⟩ := Dw.reads (R := R) (cl := cl) hok' KX' d0 v u q r'
      exact ⟨u, as, rfl, hrd, OldK.of_keep kept, os, bare⟩
theorem layable_weight {ds : List WData} (h : WData.layableAll ds = true) : ∀ d ∈ ds, d.weight ≤ 1048576 := fun d hd =>
  (PySem.W.layableW_iff.mp (List.all_eq_true.mp h d hd)).2.2
theorem encAll_len : ∀ (cs : List Codec) (a : Codec.denoteAll cs), (Codec.encAll cs a).length = cs.length
  | [], _ => rfl
  | c :: cs, a => by
    show (Codec.encAll cs a.2).length + 1 = cs.length + 1
    rw [encAll_len cs a.2]
/-- the goal that k_headS leaves (case hc), from the promise of the row's def: whatever the arguments that the codecs let and the row asks for, the def gives what stands for enc (f ..) -/
theorem walk_spec {r : OpenSpec} {k : Nat} {q : Program} {loose : List Str} {XP : (Str → Option Value) → Heap → Prop} {YP : World → Heap → Prop} {d : DefRec} {K : Params → PySem.W.Frag} {CX : World → CXT} {ps : List Str} {sp : World → Sp}
    (hwell : r.wellSaid = true) (hdf : d.params.defaults = []) (hlen : r.args.length = ps.length) (hr : Room k callerA)
    (hY : ∀ (w : World) (h : Heap), YP w h → (K w.params).In h)
    (F : ∀ (w : World) (mg : Str → Option Value) (fa : Addr) (h : Heap), YP w h → (K w.params).In h → h.Ns mainGlobals mg → mg d.name = some (.ref fa) →
      ∃ fd : FuncData, (∀ (s : Shared) (us : List Value), us.length = ps.length → BindsTo s fd ⟨us, []⟩ (ps.zip us)) ∧
        ∀ base : Heap, (K w.params).In base → base.Ns mainGlobals mg → FnOk r.prog w (K w.params) mg base (CX w) k fa fd ps (sp w))
    (hsp : ∀ (w : World) (H : Hp) (xs : List V) (a : Codec.denoteAll r.args), OnlyF H → Codec.withinAll r.args a = true → Codec.app r.args r.asked a = true → DwAll (K w.params) H xs (Codec.encAll r.args a) →
      sp w xs H (fun v H' => Dw (K w.params) H' v (r.ret.enc (Codec.app r.args r.f a))) fun _ _ _ => False)
    (hCX : ∀ (w : World) (H : Hp) (s : Shared) (e : Value) (s' : Shared), CX w [] H s (fun _ _ _ => False) e s' → False) :
    PySem.W.WalkOS q loose XP YP r d [] (fun f vs => PySem.call f vs) := by
  intro w s_0 s₁ mg mb G Y fa o pm cd doc dV kV ho hd hcd hD hmg hg args vals as hpre hlay hrd hwl hlo
  obtain ⟨a, e1, e2⟩ := PySem.W.os_pre_some hpre
  obtain ⟨e3, hwi⟩ := Codec.encAll_of_decAll r.args args a e1
  subst e3
  have KX := hY w _ Y
  obtain ⟨fd, hb, hF⟩ := F w mg fa _ Y KX G.T.g hmg
  refine PySem.W.enter_call (codeAny_mono (spec_call (R := []) (cl := classAt s_0.heap) (d0 := r.ret.enc (Codec.app r.args r.f a)) KX G.T.g G.T.b G.T.builtins G.T.nolimit hg hwl (pl_encAll _ _) (layable_weight hlay) hr hF hb (by rw [encAll_len]; exact hlen)
    (fun H xs hO hS => hsp w H xs a hO hwi e2 hS) fun H e s' => hCX w H s₁ e s') fun r' s' hq => ?_)
  obtain ⟨u, as', rfl, h1, h2, h3, h4⟩ := hq
  exact ⟨.inl ⟨u, _, as', rfl, fun _ => rfl, h1, (OpenSpec.post_iff hwell hwi _ _).mpr rfl, fun z => Bool.noConfusion (show false = true from z)⟩, h2, h3, h4⟩
/-- the same where the promise hangs on the written part alone -/
theorem walk_specK {r : OpenSpec} {k : Nat} {q : Program} {loose : List Str} {XP : (Str → Option Value) → Heap → Prop} {YP : World → Heap → Prop} {d : DefRec} {K : Params → PySem.W.Frag} {CX : CXT} {ps : List Str} {sp : PySem.W.Frag → Sp}
    (hwell : r.wellSaid = true) (hdf : d.params.defaults = []) (hlen : r.args.length = ps.length) (hr : Room k callerA)
    (hY : ∀ (w : World) (h : Heap), YP w h → (K w.params).In h)
    (F : ∀ (w : World) (mg : Str → Option Value) (fa : Addr) (h : Heap), YP w h → (K w.params).In h → h.Ns mainGlobals mg → mg d.name = some (.ref fa) →
      ∃ fd : FuncData, (∀ (s : Shared) (us : List Value), us.length = ps.length → BindsTo s fd ⟨us, []⟩ (ps.zip us)) ∧
        ∀ base : Heap, (K w.params).In base → base.Ns mainGlobals mg → FnOk r.prog w (K w.params) mg base CX k fa fd ps (sp (K w.params)))
    (hsp : ∀ (K : PySem.W.Frag) (H : Hp) (xs : List V) (a : Codec.denoteAll r.args), OnlyF H → Codec.withinAll r.args a = true → Codec.app r.args r.asked a = true → DwAll K H xs (Codec.encAll r.args a) →
      sp K xs H (fun v H' => Dw K H' v (r.ret.enc (Codec.app r.args r.f a))) fun _ _ _ => False)
    (hCX : ∀ (H : Hp) (s : Shared) (e : Value) (s' : Shared), CX [] H s (fun _ _ _ => False) e s' → False) :
    PySem.W.WalkOS q loose XP YP r d [] (fun f vs => PySem.call f vs) :=
  walk_spec (K := K) (CX := fun _ => CX) (sp := fun w => sp (K w.params)) hwell hdf hlen hr hY F (fun w H xs a h1 h2 h3 h4 => hsp (K w.params) H xs a h1 h2 h3 h4) fun _ H s e s' => hCX H s e s'
end L2
end

set_option maxHeartbeats 4000000
namespace Fm
/-! ### Sums -/
def sm : Nat → (Nat → Int) → Int
  | 0, _ => 0
  | n + 1, f => sm n f + f n
theorem sm_congr {f g : Nat → Int} : ∀ (n : Nat), (∀ i, i < n → f i = g i) → sm n f = sm n g
  | 0, _ => rfl
  | n + 1, h => by
    rw [sm, sm, sm_congr n (fun i hi => h i (by omega)), h n (by omega)]
theorem sm_add (f g : Nat → Int) : ∀ n, sm n (fun i => f i + g i) = sm n f + sm n g
  | 0 => rfl
  | n + 1 => by simp only [sm]; rw [sm_add f g n]; omega
theorem sm_mul (x : Int) (f : Nat → Int) : ∀ n, sm n (fun i => x * f i) = x * sm n f
  | 0 => by simp [sm]
  | n + 1 => by simp only [sm]; rw [sm_mul x f n, Int.mul_add]
theorem sm_neg (f : Nat → Int) : ∀ n, sm n (fun i => - f i) = - sm n f
  | 0 => by simp [sm]
  | n + 1 => by simp only [sm]; rw [sm_neg f n]; omega
theorem sm_zero : ∀ (n : Nat) {f : Nat → Int}, (∀ i, i < n → f i = 0) → sm n f = 0
  | 0, _, _ => rfl
  | n + 1, _, h => by rw [sm, sm_zero n (fun i hi => h i (by omega)), h n (by omega)]; rfl
theorem sm_shift (f : Nat → Int) : ∀ n, sm (n + 1) f = f 0 + sm n (fun i => f (i + 1))
  | 0 => by simp [sm]
  | n + 1 => by rw [sm, sm_shift f n, sm]; omega
theorem sm_list (f : Nat → Int) : ∀ n, ((List.range n).map f).sum = sm n f
  | 0 => rfl
  | n + 1 => by rw [List.range_succ, List.map_append, List.sum_append, sm_list f n]; simp [sm]
/-! ### Determinants -/
abbrev Mat := Nat → Nat → Int
def sk (j c : Nat) : Nat := if c < j then c else c + 1
def mn (M : Mat) (j : Nat) : Mat := fun i c => M (i + 1) (sk j c)
def sg (j : Nat) : Int := if j % 2 = 0 then 1 else -1
theorem sg_succ (j : Nat) : sg (j + 1) = - sg j := by
  unfold sg
  rcases Nat.mod_two_eq_zero_or_one j with h | h
  · rw [if_neg (by omega), if_pos h]
  · rw [if_pos (by omega), if_neg (by omega)]; rfl
theorem sg_sq (j : Nat) : sg j * sg j = 1 := by unfold sg; split <;> rfl
def dt : Nat → Mat → Int
  | 0, _ => 1
  | n + 1, M => sm (n + 1) fun j => sg j * M 0 j * dt n (mn M j)
theorem sk_lt {j c n : Nat} (h : c < n) : sk j c < n + 1 := by unfold sk; split <;> omega
theorem dt_congr : ∀ (n : Nat) {M N : Mat}, (∀ i j, i < n → j < n → M i j = N i j) → dt n M = dt n N
  | 0, _, _, _ => rfl
  | n + 1, M, N, h => by
    rw [dt, dt]
    refine sm_congr _ fun j hj => ?_
    rw [h 0 j (by omega) hj, dt_congr n (M := mn M j) (N := mn N j) fun i c hi hc => h _ _ (by omega) (sk_lt hc)]
/-! the specification's determinant -/
theorem at_minor (a : Ql78.Rows) (j i c : Nat) : Ql78.at_ (Ql78.minor a j) i c = mn (Ql78.at_ a) j i c := by
  unfold Ql78.at_ Ql78.minor mn
  simp only [List.getD_eq_getElem?_getD, List.getElem?_map, List.getElem?_drop]
  rw [Nat.add_comm 1 i]
  cases e : a[i + 1]? with
  | none => simp
  | some r =>
    simp only [Option.map_some, Option.getD_some, List.getElem?_append, List.getElem?_take, List.getElem?_drop, List.length_take]
    unfold sk
    by_cases h1 : c < j
    · by_cases h2 : c < r.length
      · rw [if_pos (by omega), if_pos h1, if_pos h1]
      · rw [if_neg (by omega), if_pos h1, List.getElem?_eq_none (by omega), List.getElem?_eq_none (by omega)]
    · have e3 : (if c < j then c else c + 1) = c + 1 := if_neg h1
      rw [e3]
      by_cases h2 : j ≤ r.length
      · rw [if_neg (by omega), show j + 1 + (c - min j r.length) = c + 1 by omega]
      · by_cases h3 : c < min j r.length
        · omega
        · rw [if_neg h3, List.getElem?_eq_none (by omega), List.getElem?_eq_none (by omega)]
theorem det_eq : ∀ (n : Nat) (a : Ql78.Rows), Ql78.det n a = dt n (Ql78.at_ a)
  | 0, _ => rfl
  | n + 1, a => by
    rw [Ql78.det, dt, ← sm_list]
    refine congrArg List.sum (List.map_congr_left fun j _ => ?_)
    rw [det_eq n, dt_congr n fun i c _ _ => at_minor a j i c]
    rfl
/-! rows -/
def sr (M : Mat) (i : Nat) (r : Nat → Int) : Mat := fun k c => if k = i then r c else M k c
theorem sr_same (M : Mat) (i : Nat) (r : Nat → Int) (c : Nat) : sr M i r i c = r c := by unfold sr; rw [if_pos rfl]
theorem sr_ne (M : Mat) {i k : Nat} (r : Nat → Int) (c : Nat) (h : k ≠ i) : sr M i r k c = M k c := by unfold sr; rw [if_neg h]
theorem sr_self (M : Mat) (i : Nat) : sr M i (M i) = M := by
  funext k c; unfold sr; split
  · rename_i h; rw [h]
  · rfl
theorem mn_sr (M : Mat) (i j : Nat) (r : Nat → Int) : mn (sr M (i + 1) r) j = sr (mn M j) i (fun c => r (sk j c)) := by
  funext k c; unfold mn sr
  by_cases h : k = i
  · rw [if_pos h, if_pos (by omega)]
  · rw [if_neg h, if_neg (by omega)]
theorem mn_sr0 (M : Mat) (j : Nat) (r : Nat → Int) : mn (sr M 0 r) j = mn M j := by
  funext k c; unfold mn sr; rw [if_neg (by omega)]
theorem dt_lin : ∀ (n i : Nat) (M : Mat) (x y : Int) (r s : Nat → Int), i < n →
    dt n (sr M i fun c => x * r c + y * s c) = x * dt n (sr M i r) + y * dt n (sr M i s)
  | 0, _, _, _, _, _, _, h => absurd h (Nat.not_lt_zero _)
  | n + 1, 0, M, x, y, r, s, _ => by
    simp only [dt, mn_sr0]
    rw [← sm_mul, ← sm_mul, ← sm_add]
    refine sm_congr _ fun j _ => ?_
    simp only [sr_same]
    grind
  | n + 1, i + 1, M, x, y, r, s, h => by
    simp only [dt, mn_sr]
    rw [← sm_mul, ← sm_mul, ← sm_add]
    refine sm_congr _ fun j _ => ?_
    rw [sr_ne _ _ _ (by omega), sr_ne _ _ _ (by omega), sr_ne _ _ _ (by omega), dt_lin n i (mn M j) x y _ _ (by omega)]
    grind
/-- a double sum that cancels -/
theorem sm_cancel (F : Nat → Nat → Int) (h : ∀ j l, j ≤ l → F (l + 1) j = - F j l) : ∀ n, sm (n + 1) (fun j => sm n (F j)) = 0
  | 0 => by simp [sm]
  | n + 1 => by
    have h1 : sm (n + 1 + 1) (fun j => sm (n + 1) (F j)) = sm (n + 1) (fun j => sm n (F j)) + sm (n + 1) (fun j => F j n) + sm (n + 1) (F (n + 1)) := by
      have e : sm (n + 1) (fun j => sm (n + 1) (F j)) = sm (n + 1) (fun j => sm n (F j)) + sm (n + 1) (fun j => F j n) := by
        rw [← sm_add]
        rfl
      rw [← e]
      rfl
    have h2 : sm (n + 1) (F (n + 1)) = - sm (n + 1) (fun j => F j n) := by
      rw [← sm_neg]
      exact sm_congr _ fun j hj => h j n (by omega)
    rw [h1, sm_cancel F h n, h2]; omega
theorem mn_mn (M : Mat) {j l : Nat} (h : j ≤ l) : mn (mn M (l + 1)) j = mn (mn M j) l := by
  funext i c; unfold mn sk
  congr 1
  split <;> split <;> split <;> (try split) <;> omega
theorem dt_top (n : Nat) (M : Mat) (h : ∀ c, M 0 c = M 1 c) : dt (n + 2) M = 0 := by
  have e : dt (n + 2) M = sm (n + 1 + 1) (fun j => sm (n + 1) (fun l => sg j * M 0 j * (sg l * M 1 (sk j l) * dt n (mn (mn M j) l)))) := by
    rw [dt]
    refine sm_congr _ fun j _ => ?_
    rw [dt, ← sm_mul]
    rfl
  rw [e]
  refine sm_cancel _ (fun j l hjl => ?_) (n + 1)
  rw [mn_mn M hjl, sg_succ, ← h, ← h]
  have e1 : sk (l + 1) j = j := by unfold sk; rw [if_pos (by omega)]
  have e2 : sk j l = l + 1 := by unfold sk; rw [if_neg (by omega)]
  rw [e1, e2]
  grind
theorem dt_adj : ∀ (n i : Nat) (M : Mat), i + 1 < n → (∀ c, M i c = M (i + 1) c) → dt n M = 0
  | 0, _, _, h, _ => absurd h (Nat.not_lt_zero _)
  | 1, i, M, h, _ => absurd h (by omega)
  | n + 2, 0, M, _, e => dt_top n M e
  | n + 2, i + 1, M, h, e => by
    rw [dt]
    refine sm_zero _ fun j _ => ?_
    rw [dt_adj (n + 1) i (mn M j) (by omega) (fun c => e (sk j c))]
    exact Int.mul_zero _
/-- two rows changed for one another -/
def sw (M : Mat) (i k : Nat) : Mat := sr (sr M i (M k)) k (M i)
theorem dt_swap (n i : Nat) (M : Mat) (h : i + 1 < n) : dt n (sw M i (i + 1)) = - dt n M := by
  let G : (Nat → Int) → (Nat → Int) → Mat := fun r s => sr (sr M i r) (i + 1) s
  have hz : ∀ r : Nat → Int, dt n (G r r) = 0 := fun r => dt_adj n i _ h fun c => by
    show sr _ _ _ _ _ = sr _ _ _ _ _
    rw [sr_ne _ _ _ (by omega), sr_same, sr_same]
  have comm : ∀ r s : Nat → Int, G r s = sr (sr M (i + 1) s) i r := fun r s => by
    funext k c; show sr _ _ _ _ _ = _
    unfold sr
    by_cases h1 : k = i + 1
    · rw [if_pos h1, if_neg (by omega), if_pos h1]
    · rw [if_neg h1]
      by_cases h2 : k = i
      · rw [if_pos h2, if_pos h2]
      · rw [if_neg h2, if_neg h2, if_neg h1]
  have l2 : ∀ r s t : Nat → Int, dt n (G r fun c => s c + t c) = dt n (G r s) + dt n (G r t) := fun r s t => by
    have z := dt_lin n (i + 1) (sr M i r) 1 1 s t h
    simp only [Int.one_mul] at z
    exact z
  have l1 : ∀ r s t : Nat → Int, dt n (G (fun c => r c + s c) t) = dt n (G r t) + dt n (G s t) := fun r s t => by
    have z := dt_lin n i (sr M (i + 1) t) 1 1 r s (by omega)
    simp only [Int.one_mul] at z
    rw [comm, comm, comm]
    exact z
  have a1 := hz fun c => M i c + M (i + 1) c
  rw [l2, l1, l1, hz, hz] at a1
  have e0 : G (M i) (M (i + 1)) = M := by
    show sr _ _ _ = _
    rw [sr_self]
    exact sr_self M (i + 1)
  rw [e0] at a1
  show dt n (G (M (i + 1)) (M i)) = _
  omega
theorem dt_alt : ∀ (d n i : Nat) (M : Mat), i + d + 1 < n → (∀ c, M i c = M (i + d + 1) c) → dt n M = 0
  | 0, n, i, M, h, e => dt_adj n i M h e
  | d + 1, n, i, M, h, e => by
    have z := dt_swap n (i + d + 1) M (by omega)
    rw [dt_alt d n i (sw M (i + d + 1) (i + d + 2)) (by omega) (fun c => by
      unfold sw
      rw [sr_ne _ _ _ (by omega), sr_ne _ _ _ (by omega), sr_ne _ _ _ (by omega), sr_same]
      exact e c)] at z
    omega
/-- a row times x, and some of the first row -/
theorem dt_op (n i : Nat) (M : Mat) (x y : Int) (h : i + 1 < n) : dt n (sr M (i + 1) fun c => x * M (i + 1) c + y * M 0 c) = x * dt n M := by
  rw [dt_lin n (i + 1) M x y (M (i + 1)) (M 0) h, sr_self]
  rw [dt_alt i n 0 (sr M (i + 1) (M 0)) (by omega) fun c => by
    rw [sr_ne _ _ _ (by omega), show 0 + i + 1 = i + 1 by omega, sr_same]]
  omega
theorem dt_col0 : ∀ (n : Nat) (M : Mat), (∀ i, i < n + 1 → M i 0 = 0) → dt (n + 1) M = 0
  | 0, M, h => by simp [dt, sm, h 0 (by omega)]
  | n + 1, M, h => by
    rw [dt]
    refine sm_zero _ fun j _ => ?_
    cases j with
    | zero => rw [h 0 (by omega)]; simp
    | succ j =>
      rw [dt_col0 n (mn M (j + 1)) fun i hi => by
        show M (i + 1) (sk (j + 1) 0) = 0
        rw [show sk (j + 1) 0 = 0 by unfold sk; rw [if_pos (by omega)]]
        exact h _ (by omega)]
      simp
/-! ### One step of the elimination -/
def el (M : Mat) : Mat := fun i j => M 0 0 * M (i + 1) (j + 1) - M (i + 1) 0 * M 0 (j + 1)
def part (M : Mat) (t : Nat) : Mat := fun i c => if 1 ≤ i ∧ i ≤ t then M 0 0 * M i c - M i 0 * M 0 c else M i c
theorem dt_part (k : Nat) (M : Mat) : ∀ t, t ≤ k → dt (k + 1) (part M t) = M 0 0 ^ t * dt (k + 1) M
  | 0, _ => by
    rw [Int.pow_zero, Int.one_mul]
    exact dt_congr _ fun i c _ _ => by unfold part; rw [if_neg (by omega)]
  | t + 1, h => by
    have e : part M (t + 1) = sr (part M t) (t + 1) fun c => M 0 0 * part M t (t + 1) c + (- M (t + 1) 0) * part M t 0 c := by
      funext i c
      by_cases hi : i = t + 1
      · subst hi
        rw [sr_same]
        unfold part
        rw [if_pos (by omega), if_neg (by omega), if_neg (by omega)]
        grind
      · rw [sr_ne _ _ _ hi]
        unfold part
        by_cases h1 : 1 ≤ i ∧ i ≤ t
        · rw [if_pos h1, if_pos (by omega)]
        · rw [if_neg h1, if_neg (by omega)]
    rw [e, dt_op (k + 1) t (part M t) _ _ (by omega), dt_part k M t (by omega), Int.pow_succ]
    grind
/-- Chio's condensation -/
theorem chio (k : Nat) (M : Mat) : M 0 0 * dt k (el M) = M 0 0 ^ k * dt (k + 1) M := by
  rw [← dt_part k M k (Nat.le_refl k), dt, sm_shift]
  have z : sm k (fun i => sg (i + 1) * part M k 0 (i + 1) * dt k (mn (part M k) (i + 1))) = 0 := by
    refine sm_zero _ fun j hj => ?_
    cases k with
    | zero => omega
    | succ k =>
      rw [dt_col0 k (mn (part M (k + 1)) (j + 1)) fun i hi => by
        show part M (k + 1) (i + 1) (sk (j + 1) 0) = 0
        rw [show sk (j + 1) 0 = 0 by unfold sk; rw [if_pos (by omega)]]
        unfold part
        rw [if_pos (by omega)]
        grind]
      simp
  rw [z, Int.add_zero]
  have e1 : part M k 0 0 = M 0 0 := by unfold part; rw [if_neg (by omega)]
  have e2 : sg 0 = 1 := rfl
  rw [e1, e2, Int.one_mul]
  congr 1
  refine dt_congr _ fun i j hi hj => ?_
  unfold mn part el
  rw [show sk 0 j = j + 1 by unfold sk; rw [if_neg (by omega)], if_pos (by omega)]
/-! ### Bordered minors: what Bareiss' elimination holds -/
def bd (k : Nat) (M : Mat) (i j : Nat) : Mat := fun r c => M (if r < k then r else k + i) (if c < k then c else k + j)
def bm (k : Nat) (M : Mat) (i j : Nat) : Int := dt (k + 1) (bd k M i j)
theorem bm_zero (M : Mat) (i j : Nat) : bm 0 M i j = M i j := by
  simp [bm, dt, sm, bd, sg]
theorem bm_lead (k : Nat) (M : Mat) : bm k M 0 0 = dt (k + 1) M := dt_congr _ fun r c hr hc => by
  unfold bd
  congr 1 <;> split <;> omega
theorem el_bd (k : Nat) (M : Mat) (i j r c : Nat) : el (bd (k + 1) M i j) r c = bd k (el M) i j r c := by
  unfold el bd
  simp only [Nat.add_lt_add_iff_right, Nat.zero_lt_succ, if_true]
  have e1 : (if r < k then r + 1 else k + 1 + i) = (if r < k then r else k + i) + 1 := by split <;> omega
  have e2 : (if c < k then c + 1 else k + 1 + j) = (if c < k then c else k + j) + 1 := by split <;> omega
  rw [e1, e2]
theorem bm_el (k : Nat) (M : Mat) (i j : Nat) : M 0 0 * bm k (el M) i j = M 0 0 ^ (k + 1) * bm (k + 1) M i j := by
  have z := chio (k + 1) (bd (k + 1) M i j)
  have e : bd (k + 1) M i j 0 0 = M 0 0 := by unfold bd; simp
  rw [e] at z
  have e2 : bm k (el M) i j = dt (k + 1) (el (bd (k + 1) M i j)) := (dt_congr (k + 1) fun r c _ _ => el_bd k M i j r c).symm
  rw [e2]
  exact z
theorem mul_cancel {p x y : Int} (hp : p ≠ 0) (h : p * x = p * y) : x = y := Int.eq_of_mul_eq_mul_left hp h
theorem dt_el (k : Nat) (M : Mat) (hp : M 0 0 ≠ 0) : dt (k + 1) (el M) = M 0 0 ^ k * dt (k + 2) M := by
  have z := chio (k + 1) M
  rw [Int.pow_succ] at z
  exact mul_cancel hp (by grind)
theorem bm_el' (k : Nat) (M : Mat) (i j : Nat) (hp : M 0 0 ≠ 0) : bm k (el M) i j = M 0 0 ^ k * bm (k + 1) M i j := by
  have z := bm_el k M i j
  rw [Int.pow_succ] at z
  exact mul_cancel hp (by grind)
theorem pow_ne {p : Int} (hp : p ≠ 0) : ∀ k : Nat, p ^ k ≠ 0
  | 0 => by simp
  | k + 1 => by rw [Int.pow_succ]; exact Int.mul_ne_zero (pow_ne hp k) hp
/-- Sylvester's identity, where no leading minor is nought -/
theorem sylvester : ∀ (k : Nat) (M : Mat) (i j : Nat), (∀ t, t < k + 1 → dt (t + 1) M ≠ 0) →
    dt k M * bm (k + 1) M i j = bm k M 0 0 * bm k M (i + 1) (j + 1) - bm k M (i + 1) 0 * bm k M 0 (j + 1)
  | 0, M, i, j, _ => by
    simp only [bm_zero, dt, Int.one_mul]
    simp [bm, dt, sm, bd, sg, mn, sk]
    rw [Nat.add_comm 1 i, Nat.add_comm 1 j]
    grind
  | k + 1, M, i, j, h => by
    have hp : M 0 0 ≠ 0 := by
      have z := h 0 (by omega)
      simpa [dt, sm, sg] using z
    have ih := sylvester k (el M) i j fun t ht => by
      rw [dt_el t M hp]
      exact Int.mul_ne_zero (pow_ne hp t) (h (t + 1) (by omega))
    simp only [bm_el' _ M _ _ hp] at ih
    have c1 := chio k M
    have hq := pow_ne hp k
    rw [Int.pow_succ] at ih
    generalize M 0 0 ^ k = q at *
    generalize M 0 0 = p at *
    -- p * D_k(E) = q * D_(k+1)(M)
    have e : p * q * q * (dt (k + 1) M * bm (k + 1 + 1) M i j) = p * q * q * (bm (k + 1) M 0 0 * bm (k + 1) M (i + 1) (j + 1) - bm (k + 1) M (i + 1) 0 * bm (k + 1) M 0 (j + 1)) := by
      generalize dt k (el M) = D at *
      generalize dt (k + 1) M = D1 at *
      generalize bm (k + 1 + 1) M i j = B2 at *
      generalize bm (k + 1) M 0 0 = b1 at *
      generalize bm (k + 1) M (i + 1) (j + 1) = b2 at *
      generalize bm (k + 1) M (i + 1) 0 = b3 at *
      generalize bm (k + 1) M 0 (j + 1) = b4 at *
      grind
    exact mul_cancel (Int.mul_ne_zero (Int.mul_ne_zero hp hq) hq) e
end Fm

namespace Fm
/-! ### How great a determinant may be -/
def fct : Nat → Nat
  | 0 => 1
  | n + 1 => (n + 1) * fct n
theorem sm_bound {f : Nat → Int} {C : Nat} : ∀ (n : Nat), (∀ i, i < n → (f i).natAbs ≤ C) → (sm n f).natAbs ≤ n * C
  | 0, _ => by simp [sm]
  | n + 1, h => by
    have h1 := sm_bound (f := f) (C := C) n fun i hi => h i (by omega)
    have h2 := h n (by omega)
    rw [sm, Nat.add_mul, Nat.one_mul]
    have := Int.natAbs_add_le (sm n f) (f n)
    omega
theorem sg_abs (j : Nat) : (sg j).natAbs = 1 := by unfold sg; split <;> rfl
theorem dt_bound (B : Nat) : ∀ (n : Nat) (M : Mat), (∀ i j, i < n → j < n → (M i j).natAbs ≤ B) → (dt n M).natAbs ≤ fct n * B ^ n
  | 0, _, _ => by simp [dt, fct]
  | n + 1, M, h => by
    have z : (dt (n + 1) M).natAbs ≤ (n + 1) * (B * (fct n * B ^ n)) := by
      rw [dt]
      refine sm_bound _ fun j hj => ?_
      rw [Int.natAbs_mul, Int.natAbs_mul, sg_abs, Nat.one_mul]
      exact Nat.mul_le_mul (h 0 j (by omega) hj) (dt_bound B n (mn M j) fun i c hi hc => h _ _ (by omega) (sk_lt hc))
    refine Nat.le_trans z (Nat.le_of_eq ?_)
    rw [fct, Nat.pow_succ]
    grind
theorem fct_mono : ∀ {m n : Nat}, m ≤ n → fct m ≤ fct n := by
  intro m n h
  induction h with
  | refl => exact Nat.le_refl _
  | step _ ih =>
    refine Nat.le_trans ih ?_
    rw [fct]
    exact Nat.le_mul_of_pos_left _ (by omega)
theorem bm_small {n k i j : Nat} {M : Mat} (hn : n ≤ 8) (h : ∀ i j, i < n → j < n → (M i j).natAbs ≤ 32) (hi : k + i < n) (hj : k + j < n) : (bm k M i j).natAbs < 2 ^ 56 := by
  have z := dt_bound 32 (k + 1) (bd k M i j) fun r c hr hc => by
    unfold bd
    refine h _ _ ?_ ?_
    · split <;> omega
    · split <;> omega
  have h1 : fct (k + 1) ≤ fct 8 := fct_mono (by omega)
  have h2 : 32 ^ (k + 1) ≤ 32 ^ 8 := Nat.pow_le_pow_right (by decide) (by omega)
  have h3 : fct (k + 1) * 32 ^ (k + 1) ≤ fct 8 * 32 ^ 8 := Nat.mul_le_mul h1 h2
  have h4 : fct 8 * 32 ^ 8 < 2 ^ 56 := by decide
  show (dt (k + 1) (bd k M i j)).natAbs < _
  omega
/-! ### A form's numbers -/
/-- the matrix of a list of n times n numbers -/
def gm (n : Nat) (l : List Int) : Mat := fun i j => l.getD (n * i + j) 0
theorem ix_lt {n i j : Nat} (hi : i < n) (hj : j < n) : n * i + j < n * n := by
  have h : n * i + n ≤ n * n := by
    have := Nat.mul_le_mul_left n (show i + 1 ≤ n from hi)
    rw [Nat.mul_add, Nat.mul_one] at this
    exact this
  omega
theorem rows_get (n : Nat) (l : List Int) (i : Nat) (hi : i < n) : (Ql78.rows n l).getD i [] = (l.drop (n * i)).take n := by
  unfold Ql78.rows
  rw [List.getD_eq_getElem?_getD, List.getElem?_map, List.getElem?_range hi]
  rfl
theorem at_rows {n : Nat} {l : List Int} {i j : Nat} (hi : i < n) (hj : j < n) : Ql78.at_ (Ql78.rows n l) i j = gm n l i j := by
  unfold Ql78.at_ gm
  rw [rows_get n l i hi]
  simp only [List.getD_eq_getElem?_getD, List.getElem?_take, List.getElem?_drop]
  rw [if_pos hj]
theorem at_cut {a : Ql78.Rows} {k i j : Nat} (hi : i < k) (hj : j < k) : Ql78.at_ ((a.take k).map fun r => r.take k) i j = Ql78.at_ a i j := by
  unfold Ql78.at_
  simp only [List.getD_eq_getElem?_getD, List.getElem?_map, List.getElem?_take]
  rw [if_pos hi]
  cases e : a[i]? with
  | none => simp
  | some r => simp [List.getElem?_take, hj]
theorem det_cut {n : Nat} {l : List Int} {k : Nat} (hk : k ≤ n) : Ql78.det k (((Ql78.rows n l).take k).map fun r => r.take k) = dt k (gm n l) := by
  rw [det_eq]
  refine dt_congr _ fun i j hi hj => ?_
  rw [at_cut hi hj, at_rows (by omega) (by omega)]
theorem det_rows (n : Nat) (l : List Int) : Ql78.det n (Ql78.rows n l) = dt n (gm n l) := by
  rw [det_eq]
  exact dt_congr _ fun i j hi hj => at_rows hi hj
theorem positive_iff (n : Nat) (l : List Int) : Ql78.positive n (Ql78.rows n l) = true ↔ ∀ t, t < n → 0 < dt (t + 1) (gm n l) := by
  unfold Ql78.positive
  rw [List.all_eq_true]
  constructor
  · intro h t ht
    have := h t (List.mem_range.mpr ht)
    rw [decide_eq_true_eq, det_cut (by omega)] at this
    exact this
  · intro h t ht
    rw [decide_eq_true_eq, det_cut (by have := List.mem_range.mp ht; omega)]
    exact h t (List.mem_range.mp ht)
theorem symmetric_iff (n : Nat) (l : List Int) : Ql78.symmetric n (Ql78.rows n l) = true ↔ ∀ i j, i < n → j < i → gm n l i j = gm n l j i := by
  unfold Ql78.symmetric
  simp only [List.all_eq_true, List.mem_range, beq_iff_eq]
  constructor
  · intro h i j hi hj
    have := h i hi j (by omega)
    rw [at_rows hi (by omega), at_rows (by omega) hi] at this
    exact this
  · intro h i hi j hj
    rw [at_rows hi hj, at_rows hj hi]
    rcases Nat.lt_trichotomy i j with z | z | z
    · exact (h j i hj z).symm
    · rw [z]
    · exact h i j hi z
/-- every number is at most 32 in size -/
def small (l : List Int) : Bool := l.all fun x => decide (x.natAbs ≤ 32)
theorem form_eq (n : Nat) (l : List Int) : Ql78.form n l = (small l && (Ql78.symmetric n (Ql78.rows n l) && Ql78.positive n (Ql78.rows n l))) := rfl
theorem small_mt {n : Nat} {l : List Int} (h : small l = true) (i j : Nat) : (gm n l i j).natAbs ≤ 32 := by
  unfold gm
  rw [List.getD_eq_getElem?_getD]
  cases e : l[n * i + j]? with
  | none => simp
  | some x =>
    have := List.all_eq_true.mp h x (List.mem_of_getElem? e)
    simpa using this
/-! ### What the elimination gives: leading minors up to the first that isn't above nought -/
/-- one number of the next rows -/
theorem next_num {k : Nat} {M : Mat} {i j : Nat} (h : ∀ t, t < k + 1 → 0 < dt (t + 1) M) :
    (bm k M 0 0 * bm k M (i + 1) (j + 1) - bm k M (i + 1) 0 * bm k M 0 (j + 1)) / dt k M = bm (k + 1) M i j := by
  rw [← sylvester k M i j fun t ht => Int.ne_of_gt (h t ht)]
  refine Int.mul_ediv_cancel_left _ ?_
  cases k with
  | zero => simp [dt]
  | succ k => exact Int.ne_of_gt (h k (by omega))
theorem lead_pos {k : Nat} {M : Mat} (h : ∀ t, t < k → 0 < dt (t + 1) M) : 0 < dt k M := by
  cases k with
  | zero => simp [dt]
  | succ k => exact h k (by omega)
end Fm

namespace Fm
theorem lt_or_ge (a b : Int) : a < b ∨ b ≤ a := by omega
/-! ### A row moved to the top; the expansion along any row -/
/-- row i at the top, the others behind it in their order -/
def cy (M : Mat) (i : Nat) : Mat := fun r c => if r = 0 then M i c else M (sk i (r - 1)) c
theorem cy_zero (M : Mat) : cy M 0 = M := by
  funext r c
  unfold cy sk
  by_cases h : r = 0
  · rw [if_pos h, h]
  · rw [if_neg h, if_neg (by omega)]
    congr 1
    omega
/-- one more step down -/
theorem cy_succ (M : Mat) (i : Nat) : cy M (i + 1) = cy (sw M i (i + 1)) i := by
  funext r c
  unfold cy sw sr sk
  by_cases h : r = 0
  · rw [if_pos h, if_pos h, if_neg (by omega), if_pos rfl]
  · rw [if_neg h, if_neg h]
    by_cases h1 : r - 1 < i
    · rw [if_pos (by omega), if_pos h1, if_neg (by omega), if_neg (by omega)]
    · rw [if_neg h1]
      by_cases h2 : r - 1 = i
      · rw [if_pos (by omega), if_pos (by omega), h2]
      · rw [if_neg (by omega), if_neg (by omega), if_neg (by omega)]
theorem dt_cy (n : Nat) : ∀ (i : Nat) (M : Mat), i < n → dt n (cy M i) = sg i * dt n M
  | 0, M, _ => by rw [cy_zero, show sg 0 = 1 from rfl, Int.one_mul]
  | i + 1, M, h => by
    rw [cy_succ, dt_cy n i _ (by omega), dt_swap n i M h, sg_succ]
    grind
/-- without row i and column j -/
def mij (M : Mat) (i j : Nat) : Mat := fun r c => M (sk i r) (sk j c)
theorem mn_cy (M : Mat) (i j : Nat) : mn (cy M i) j = mij M i j := by
  funext r c
  unfold mn cy mij
  rw [if_neg (by omega)]
  rfl
/-- the signed minors of row i -/
def co (n : Nat) (M : Mat) (i : Nat) : Nat → Int := fun j => sg i * sg j * dt n (mij M i j)
theorem laplace (n : Nat) (M : Mat) (i : Nat) (h : i < n + 1) : sm (n + 1) (fun j => M i j * co n M i j) = dt (n + 1) M := by
  have z := dt_cy (n + 1) i M h
  rw [dt] at z
  have e : sm (n + 1) (fun j => M i j * co n M i j) = sg i * sm (n + 1) (fun j => sg j * cy M i 0 j * dt n (mn (cy M i) j)) := by
    rw [← sm_mul]
    refine sm_congr _ fun j _ => ?_
    rw [mn_cy]
    show M i j * (sg i * sg j * dt n (mij M i j)) = sg i * (sg j * M i j * dt n (mij M i j))
    grind
  rw [e, z, ← Int.mul_assoc, sg_sq, Int.one_mul]
theorem mij_sr (M : Mat) (i j : Nat) (r : Nat → Int) : mij (sr M i r) i j = mij M i j := by
  funext a c
  unfold mij sr sk
  rw [if_neg]
  split <;> omega
theorem laplace0 (n : Nat) (M : Mat) (i k : Nat) (hi : i < n + 1) (hk : k < n + 1) (h : k ≠ i) : sm (n + 1) (fun j => M k j * co n M i j) = 0 := by
  have z := laplace n (sr M i (M k)) i hi
  have e : dt (n + 1) (sr M i (M k)) = 0 := by
    rcases Nat.lt_or_gt_of_ne h with h | h
    · obtain ⟨d, rfl⟩ : ∃ d, i = k + d + 1 := ⟨i - k - 1, by omega⟩
      refine dt_alt d (n + 1) k _ (by omega) fun c => ?_
      rw [sr_ne _ _ _ (by omega), sr_same]
    · obtain ⟨d, rfl⟩ : ∃ d, k = i + d + 1 := ⟨k - i - 1, by omega⟩
      refine dt_alt d (n + 1) i _ (by omega) fun c => ?_
      rw [sr_same, sr_ne _ _ _ (by omega)]
  rw [e] at z
  rw [← z]
  refine sm_congr _ fun j _ => ?_
  rw [sr_same]
  unfold co
  rw [mij_sr]
/-! ### The value -/
/-- what two rows of unknowns come to -/
def pr (n : Nat) (M : Mat) (x y : Nat → Int) : Int := sm n fun i => x i * sm n fun j => M i j * y j
theorem pr_congr {n : Nat} {M N : Mat} {x y x' y' : Nat → Int} (hM : ∀ i j, i < n → j < n → M i j = N i j) (hx : ∀ i, i < n → x i = x' i) (hy : ∀ i, i < n → y i = y' i) : pr n M x y = pr n N x' y' := by
  unfold pr
  refine sm_congr _ fun i hi => ?_
  rw [hx i hi, sm_congr n (f := fun j => M i j * y j) (g := fun j => N i j * y' j) fun j hj => by rw [hM i j hi hj, hy j hj]]
theorem pr_lin_l (n : Nat) (M : Mat) (a b : Int) (x x' y : Nat → Int) : pr n M (fun i => a * x i + b * x' i) y = a * pr n M x y + b * pr n M x' y := by
  unfold pr
  rw [← sm_mul, ← sm_mul, ← sm_add]
  refine sm_congr _ fun i _ => ?_
  grind
theorem pr_lin_r (n : Nat) (M : Mat) (a b : Int) (x y y' : Nat → Int) : pr n M x (fun i => a * y i + b * y' i) = a * pr n M x y + b * pr n M x y' := by
  unfold pr
  rw [← sm_mul, ← sm_mul, ← sm_add]
  refine sm_congr _ fun i _ => ?_
  have e : sm n (fun j => M i j * (a * y j + b * y' j)) = a * sm n (fun j => M i j * y j) + b * sm n (fun j => M i j * y' j) := by
    rw [← sm_mul, ← sm_mul, ← sm_add]
    refine sm_congr _ fun j _ => ?_
    grind
  rw [e]
  grind
theorem sm_swap (f : Nat → Nat → Int) (m : Nat) : ∀ n, sm n (fun i => sm m fun j => f i j) = sm m (fun j => sm n fun i => f i j)
  | 0 => by
    have : sm m (fun j => sm 0 fun i => f i j) = 0 := sm_zero m fun _ _ => rfl
    rw [this]
    rfl
  | n + 1 => by
    rw [sm, sm_swap f m n, ← sm_add]
    rfl
def Symm (n : Nat) (M : Mat) : Prop := ∀ i j, i < n → j < n → M i j = M j i
theorem pr_symm {n : Nat} {M : Mat} (h : Symm n M) (x y : Nat → Int) : pr n M x y = pr n M y x := by
  have e1 : ∀ (x y : Nat → Int), pr n M x y = sm n (fun i => sm n fun j => x i * (M i j * y j)) := fun x y => by
    unfold pr
    exact sm_congr _ fun i _ => (sm_mul _ _ _).symm
  rw [e1, e1, sm_swap]
  refine sm_congr _ fun j hj => sm_congr _ fun i hi => ?_
  rw [h i j hi hj]
  grind
/-- the elimination's share of the value -/
theorem pr_el (n : Nat) (M : Mat) (h : Symm (n + 1) M) (x : Nat → Int) :
    M 0 0 * pr (n + 1) M x x = sm (n + 1) (fun j => M 0 j * x j) * sm (n + 1) (fun j => M 0 j * x j) + pr n (el M) (fun i => x (i + 1)) (fun i => x (i + 1)) := by
  let S := sm n (fun j => M 0 (j + 1) * x (j + 1))
  have e1 : sm (n + 1) (fun j => M 0 j * x j) = M 0 0 * x 0 + S := sm_shift _ _
  have e2 : pr (n + 1) M x x = x 0 * (M 0 0 * x 0 + S) + sm n (fun i => x (i + 1) * (M (i + 1) 0 * x 0 + sm n (fun j => M (i + 1) (j + 1) * x (j + 1)))) := by
    unfold pr
    rw [sm_shift, e1]
    congr 1
    exact sm_congr _ fun i _ => by rw [sm_shift]
  have e3 : sm n (fun i => x (i + 1) * (M (i + 1) 0 * x 0 + sm n (fun j => M (i + 1) (j + 1) * x (j + 1)))) = x 0 * S + sm n (fun i => x (i + 1) * sm n (fun j => M (i + 1) (j + 1) * x (j + 1))) := by
    rw [← sm_mul, ← sm_add]
    refine sm_congr _ fun i hi => ?_
    rw [h (i + 1) 0 (by omega) (by omega)]
    grind
  have e4 : pr n (el M) (fun i => x (i + 1)) (fun i => x (i + 1)) = M 0 0 * sm n (fun i => x (i + 1) * sm n (fun j => M (i + 1) (j + 1) * x (j + 1))) - S * S := by
    have f1 : ∀ i, i < n → sm n (fun j => el M i j * x (j + 1)) = M 0 0 * sm n (fun j => M (i + 1) (j + 1) * x (j + 1)) + (- M 0 (i + 1)) * S := fun i hi => by
      rw [← sm_mul, ← sm_mul, ← sm_add]
      refine sm_congr _ fun j _ => ?_
      unfold el
      rw [h (i + 1) 0 (by omega) (by omega)]
      grind
    unfold pr
    have f2 : sm n (fun i => x (i + 1) * sm n (fun j => el M i j * x (j + 1))) = M 0 0 * sm n (fun i => x (i + 1) * sm n (fun j => M (i + 1) (j + 1) * x (j + 1))) + (-S) * S := by
      have f3 : (-S) * S = (-S) * sm n (fun j => M 0 (j + 1) * x (j + 1)) := rfl
      rw [f3, ← sm_mul, ← sm_mul, ← sm_add]
      refine sm_congr _ fun i hi => ?_
      rw [f1 i hi]
      grind
    rw [f2]
    grind
  rw [e2, e3, e1, e4]
  grind
/-- every leading minor is above nought -/
def Lead (n : Nat) (M : Mat) : Prop := ∀ t, t < n → 0 < dt (t + 1) M
theorem Lead.corner {n : Nat} {M : Mat} (h : Lead (n + 1) M) : 0 < M 0 0 := by
  have z := h 0 (by omega)
  simpa [dt, sm, sg] using z
theorem pow_pos {p : Int} (hp : 0 < p) : ∀ k : Nat, 0 < p ^ k
  | 0 => by simp
  | k + 1 => by rw [Int.pow_succ]; exact Int.mul_pos (pow_pos hp k) hp
theorem Lead.el {n : Nat} {M : Mat} (h : Lead (n + 1) M) : Lead n (el M) := fun t ht => by
  have hp := h.corner
  rw [dt_el t M (Int.ne_of_gt hp)]
  exact Int.mul_pos (pow_pos hp t) (h (t + 1) (by omega))
theorem Symm.el {n : Nat} {M : Mat} (h : Symm (n + 1) M) : Symm n (el M) := fun i j hi hj => by
  unfold Fm.el
  rw [h (i + 1) (j + 1) (by omega) (by omega), h (i + 1) 0 (by omega) (by omega), h (j + 1) 0 (by omega) (by omega)]
  grind
theorem sq_nn (z : Int) : 0 ≤ z * z := by
  rcases Int.le_total 0 z with h | h
  · exact Int.mul_nonneg h h
  · have := Int.mul_nonneg (show 0 ≤ -z by omega) (show 0 ≤ -z by omega)
    rwa [Int.neg_mul_neg] at this
theorem sq_zero {z : Int} (h : z * z ≤ 0) : z = 0 := by
  have := sq_nn z
  have e : z * z = 0 := by omega
  rcases Int.mul_eq_zero.mp e with h | h <;> exact h
/-- nowhere below nought, and nought at nought alone -/
theorem pr_pos : ∀ (n : Nat) (M : Mat), Symm n M → Lead n M → ∀ x : Nat → Int, 0 ≤ pr n M x x ∧ (pr n M x x ≤ 0 → ∀ i, i < n → x i = 0)
  | 0, _, _, _, _ => ⟨Int.le_refl 0, fun _ i hi => by omega⟩
  | n + 1, M, hs, hl, x => by
    have hp := hl.corner
    obtain ⟨i1, i2⟩ := pr_pos n (el M) hs.el hl.el fun i => x (i + 1)
    have e := pr_el n M hs x
    have q := sq_nn (sm (n + 1) fun j => M 0 j * x j)
    constructor
    · have h0 : 0 ≤ M 0 0 * pr (n + 1) M x x := by omega
      rcases lt_or_ge (pr (n + 1) M x x) 0 with h | h
      · have := Int.mul_neg_of_pos_of_neg hp h
        omega
      · exact h
    · intro h
      have h0 : M 0 0 * pr (n + 1) M x x ≤ 0 := Int.mul_nonpos_of_nonneg_of_nonpos (by omega) h
      have z1 : pr n (el M) (fun i => x (i + 1)) (fun i => x (i + 1)) ≤ 0 := by omega
      have z2 := i2 z1
      have z3 : sm (n + 1) (fun j => M 0 j * x j) = 0 := sq_zero (by omega)
      rw [sm_shift, sm_zero n (f := fun j => M 0 (j + 1) * x (j + 1)) (fun j hj => by rw [z2 j hj, Int.mul_zero]), Int.add_zero] at z3
      have z4 : x 0 = 0 := by
        rcases Int.mul_eq_zero.mp z3 with h | h
        · omega
        · exact h
      intro i hi
      cases i with
      | zero => exact z4
      | succ i => exact z2 i (by omega)
theorem sm_single (n i : Nat) (f : Nat → Int) (hi : i < n) (h : ∀ k, k < n → k ≠ i → f k = 0) : sm n f = f i := by
  induction n with
  | zero => omega
  | succ n ih =>
    rw [sm]
    by_cases e : i = n
    · subst e
      rw [sm_zero i fun k hk => h k (by omega) (by omega), Int.zero_add]
    · rw [ih (by omega) fun k hk hne => h k (by omega) hne, h n (by omega) (by omega), Int.add_zero]
/-- how great an unknown may be: det * x_i^2 is at most the value times the minor -/
theorem unknown_le (n : Nat) (M : Mat) (hs : Symm (n + 1) M) (hl : Lead (n + 1) M) (x : Nat → Int) (i : Nat) (hi : i < n + 1) :
    0 < dt n (mij M i i) ∧ dt (n + 1) M * (x i * x i) ≤ pr (n + 1) M x x * dt n (mij M i i) := by
  have hD : 0 < dt (n + 1) M := hl n (by omega)
  have row : ∀ k, k < n + 1 → sm (n + 1) (fun j => M k j * co n M i j) = if k = i then dt (n + 1) M else 0 := fun k hk => by
    by_cases e : k = i
    · rw [if_pos e, e]; exact laplace n M i hi
    · rw [if_neg e]; exact laplace0 n M i k hi hk e
  have pxy : ∀ z : Nat → Int, pr (n + 1) M z (co n M i) = z i * dt (n + 1) M := fun z => by
    unfold pr
    rw [sm_single (n + 1) i _ hi fun k hk hne => by rw [row k hk, if_neg hne, Int.mul_zero], row i hi, if_pos rfl]
  have yi : co n M i i = dt n (mij M i i) := by
    unfold co
    rw [sg_sq, Int.one_mul]
  have ypos : 0 < co n M i i := by
    have q := pr_pos (n + 1) M hs hl (co n M i)
    rw [pxy] at q
    rcases lt_or_ge 0 (co n M i i) with h | h
    · exact h
    · exfalso
      have h0 : co n M i i * dt (n + 1) M ≤ 0 := Int.mul_nonpos_of_nonpos_of_nonneg h (by omega)
      have h1 := q.2 h0
      have h2 := row i hi
      rw [if_pos rfl, sm_zero _ fun j hj => by rw [h1 j hj, Int.mul_zero]] at h2
      omega
  refine ⟨by rw [← yi]; exact ypos, ?_⟩
  have q := (pr_pos (n + 1) M hs hl fun k => co n M i i * x k + (- x i) * co n M i k).1
  rw [pr_lin_l, pr_lin_r, pr_lin_r, pxy, pxy, pr_symm hs (co n M i) x, pxy] at q
  rw [← yi]
  generalize co n M i i = y at *
  generalize pr (n + 1) M x x = v at *
  generalize dt (n + 1) M = D at *
  generalize x i = u at *
  have e : y * (y * v + -u * (u * D)) + -u * (y * (u * D) + -u * (y * D)) = y * (v * y - D * (u * u)) := by grind
  rw [e] at q
  rcases lt_or_ge (v * y - D * (u * u)) 0 with h | h
  · have := Int.mul_neg_of_pos_of_neg ypos h
    omega
  · omega
end Fm

namespace Fm
open Ql78 (dot times pair value at_ rows form bound boxes upTo ways before firstWay diagonal least truant)
/-! ### Lists of unknowns -/
def xv (x : List Int) : Nat → Int := fun i => x.getD i 0
theorem dot_cons (a b : Int) (x y : List Int) : dot (a :: x) (b :: y) = a * b + dot x y := by
  unfold Ql78.dot
  simp
theorem dot_nil_l (y : List Int) : dot [] y = 0 := by unfold Ql78.dot; simp
theorem dot_nil_r (x : List Int) : dot x [] = 0 := by unfold Ql78.dot; simp
theorem dot_sm : ∀ (k : Nat) (x y : List Int), min x.length y.length ≤ k → dot x y = sm k fun i => xv x i * xv y i
  | k, [], y, _ => by rw [dot_nil_l, sm_zero k fun i _ => by simp [xv]]
  | k, x, [], _ => by rw [dot_nil_r, sm_zero k fun i _ => by simp [xv]]
  | 0, a :: x, b :: y, h => by simp at h
  | k + 1, a :: x, b :: y, h => by
    rw [dot_cons, sm_shift, dot_sm k x y (by simp at h; omega)]
    rfl
theorem times_get (a : Ql78.Rows) (y : List Int) (i : Nat) : xv (times a y) i = dot (a.getD i []) y := by
  unfold xv Ql78.times
  simp only [List.getD_eq_getElem?_getD, List.getElem?_map]
  cases a[i]? with
  | none => simp [dot_nil_l]
  | some r => rfl
theorem pair_pr (n : Nat) (a : Ql78.Rows) (x y : List Int) (hx : x.length ≤ n) (hy : y.length ≤ n) : pair a x y = pr n (at_ a) (xv x) (xv y) := by
  unfold Ql78.pair
  rw [dot_sm n x (times a y) (by omega)]
  unfold pr
  refine sm_congr _ fun i _ => ?_
  rw [times_get, dot_sm n _ y (by omega)]
  rfl
theorem pair_rows {n : Nat} {l x y : List Int} (hx : x.length = n) (hy : y.length = n) : pair (rows n l) x y = pr n (gm n l) (xv x) (xv y) := by
  rw [pair_pr n _ x y (by omega) (by omega)]
  exact pr_congr (fun i j hi hj => at_rows hi hj) (fun _ _ => rfl) (fun _ _ => rfl)
theorem value_rows {n : Nat} {l x : List Int} (hx : x.length = n) : value (rows n l) x = pr n (gm n l) (xv x) (xv x) := pair_rows hx hx
theorem form_symm {n : Nat} {l : List Int} (h : form n l = true) : Symm n (gm n l) := fun i j hi hj => by
  rw [form_eq, Bool.and_eq_true, Bool.and_eq_true] at h
  have z := (symmetric_iff n l).mp h.2.1
  rcases Nat.lt_trichotomy i j with q | q | q
  · exact (z j i hj q).symm
  · rw [q]
  · exact z i j hi q
theorem form_lead {n : Nat} {l : List Int} (h : form n l = true) : Lead n (gm n l) := by
  rw [form_eq, Bool.and_eq_true, Bool.and_eq_true] at h
  exact (positive_iff n l).mp h.2.2
theorem form_small {n : Nat} {l : List Int} (h : form n l = true) : small l = true := by
  rw [form_eq, Bool.and_eq_true] at h
  exact h.1
/-! ### The box -/
theorem cut_get {α : Type} (d : α) (r : List α) (j c : Nat) : (r.take j ++ r.drop (j + 1)).getD c d = r.getD (sk j c) d := by
  simp only [List.getD_eq_getElem?_getD, List.getElem?_append, List.getElem?_take, List.getElem?_drop, List.length_take]
  unfold sk
  by_cases h1 : c < j
  · by_cases h2 : c < r.length
    · rw [if_pos (by omega), if_pos h1, if_pos h1]
    · rw [if_neg (by omega), if_pos h1, List.getElem?_eq_none (by omega), List.getElem?_eq_none (by omega)]
  · have e3 : (if c < j then c else c + 1) = c + 1 := if_neg h1
    rw [e3]
    by_cases h2 : j ≤ r.length
    · rw [if_neg (by omega), show j + 1 + (c - min j r.length) = c + 1 by omega]
    · by_cases h3 : c < min j r.length
      · omega
      · rw [if_neg h3, List.getElem?_eq_none (by omega), List.getElem?_eq_none (by omega)]
theorem at_rest (a : Ql78.Rows) (i r c : Nat) : at_ ((a.take i ++ a.drop (i + 1)).map fun r => r.take i ++ r.drop (i + 1)) r c = mij (at_ a) i i r c := by
  unfold Ql78.at_ mij
  have e : ((a.take i ++ a.drop (i + 1)).map fun r => r.take i ++ r.drop (i + 1)).getD r [] = (fun r : List Int => r.take i ++ r.drop (i + 1)) ((a.take i ++ a.drop (i + 1)).getD r []) := by
    simp only [List.getD_eq_getElem?_getD, List.getElem?_map]
    cases (a.take i ++ a.drop (i + 1))[r]? with
    | none => simp
    | some q => rfl
  rw [e, cut_get, cut_get]
theorem sq_lt {u : Int} {k : Nat} (h : u * u < (((k + 1) * (k + 1) : Nat) : Int)) : u.natAbs ≤ k := by
  rcases Nat.lt_or_ge k u.natAbs with z | z
  · exfalso
    have h1 : (k + 1) * (k + 1) ≤ u.natAbs * u.natAbs := Nat.mul_le_mul z z
    have h2 : ((u.natAbs * u.natAbs : Nat) : Int) = u * u := Int.natAbs_mul_self
    omega
  · exact z
theorem root_ge {top : Nat} {u : Int} (h : u * u ≤ (top : Int)) : u.natAbs ≤ ((List.range (top + 2)).find? fun (k : Nat) => decide (top < (k + 1) * (k + 1))).getD 0 := by
  cases e : (List.range (top + 2)).find? fun (k : Nat) => decide (top < (k + 1) * (k + 1)) with
  | none =>
    exfalso
    have z := List.find?_eq_none.mp e top (List.mem_range.mpr (by omega))
    have : top < (top + 1) * (top + 1) := by
      have := Nat.le_mul_of_pos_right (top + 1) (show 0 < top + 1 by omega)
      omega
    exact z (decide_eq_true this)
  | some k =>
    have z := List.find?_some e
    have z : top < (k + 1) * (k + 1) := of_decide_eq_true z
    refine sq_lt (k := k) ?_
    show u * u < (((k + 1) * (k + 1) : Nat) : Int)
    omega
theorem bound_ge {n : Nat} {l x : List Int} {m : Int} {i : Nat} (h : form n l = true) (hx : x.length = n) (hv : value (rows n l) x ≤ m) (hi : i < n) : (x.getD i 0).natAbs ≤ bound n (rows n l) m i := by
  obtain ⟨k, rfl⟩ : ∃ k, n = k + 1 := ⟨n - 1, by omega⟩
  obtain ⟨hy, hb⟩ := unknown_le k (gm (k + 1) l) (form_symm h) (form_lead h) (xv x) i hi
  have hD : 0 < dt (k + 1) (gm (k + 1) l) := form_lead h k (by omega)
  rw [value_rows hx] at hv
  unfold Ql78.bound
  have e1 : Ql78.det (k + 1 - 1) (((rows (k + 1) l).take i ++ (rows (k + 1) l).drop (i + 1)).map fun r => r.take i ++ r.drop (i + 1)) = dt k (mij (gm (k + 1) l) i i) := by
    rw [det_eq]
    refine dt_congr _ fun r c hr hc => ?_
    rw [at_rest]
    exact at_rows (sk_lt hr) (sk_lt hc)
  simp only []
  rw [e1, det_rows]
  refine root_ge ?_
  show xv x i * xv x i ≤ _
  generalize dt k (mij (gm (k + 1) l) i i) = y at *
  generalize dt (k + 1) (gm (k + 1) l) = D at *
  generalize xv x i = u at *
  generalize pr (k + 1) (gm (k + 1) l) (xv x) (xv x) = v at *
  have h1 : v * y ≤ m * y := Int.mul_le_mul_of_nonneg_right hv (by omega)
  have h2 : u * u ≤ m * y / D := by
    rw [Int.le_ediv_iff_mul_le hD, Int.mul_comm]
    omega
  have h3 := sq_nn u
  omega
/-! ### Boxes -/
theorem mem_boxes : ∀ (ks : List Nat) (x : List Int), x ∈ boxes ks ↔ x.length = ks.length ∧ ∀ i, i < ks.length → (x.getD i 0).natAbs ≤ ks.getD i 0
  | [], x => by
    unfold Ql78.boxes
    constructor
    · intro h
      have : x = [] := by simpa using h
      subst this
      exact ⟨rfl, fun i hi => by simp at hi⟩
    · rintro ⟨h, _⟩
      have : x = [] := List.eq_nil_of_length_eq_zero h
      simp [this]
  | k :: l, x => by
    unfold Ql78.boxes
    rw [List.mem_flatMap]
    constructor
    · rintro ⟨b, hb, h⟩
      obtain ⟨v, hv, rfl⟩ := List.mem_map.mp h
      obtain ⟨h1, h2⟩ := (mem_boxes l v).mp hv
      have hb := List.mem_range.mp hb
      refine ⟨by simp [h1], fun i hi => ?_⟩
      cases i with
      | zero =>
        show ((b : Int) - (k : Int)).natAbs ≤ k
        omega
      | succ i => exact h2 i (by simpa using hi)
    · rintro ⟨h1, h2⟩
      cases x with
      | nil => simp at h1
      | cons u v =>
        have h0 : u.natAbs ≤ k := h2 0 (by simp)
        refine ⟨(u + k).toNat, List.mem_range.mpr (by omega), List.mem_map.mpr ⟨v, (mem_boxes l v).mpr ⟨by simpa using h1, fun i hi => h2 (i + 1) (by simpa using hi)⟩, ?_⟩⟩
        congr 1
        omega
theorem before_irr : ∀ x : List Int, before x x = false
  | [] => rfl
  | a :: r => by
    unfold Ql78.before
    rw [before_irr r]
    simp
theorem boxes_sorted : ∀ ks : List Nat, (boxes ks).Pairwise fun x y => before x y = true
  | [] => by unfold Ql78.boxes; simp
  | k :: l => by
    unfold Ql78.boxes
    rw [List.pairwise_flatMap]
    constructor
    · intro b _
      rw [List.pairwise_map]
      refine List.Pairwise.imp ?_ (boxes_sorted l)
      intro x y h
      unfold Ql78.before
      simp [h]
    · refine List.Pairwise.imp ?_ List.pairwise_lt_range
      intro b c h x hx y hy
      obtain ⟨v, _, rfl⟩ := List.mem_map.mp hx
      obtain ⟨w, _, rfl⟩ := List.mem_map.mp hy
      unfold Ql78.before
      have : (b : Int) - (k : Int) < (c : Int) - (k : Int) := by omega
      simp [this]
theorem nodup_of_sorted {l : List (List Int)} (h : l.Pairwise fun x y => before x y = true) : l.Nodup := by
  refine List.Pairwise.imp ?_ h
  intro x y hxy e
  rw [e, before_irr] at hxy
  cases hxy
/-! ### All ways, each once, in their order -/
theorem mem_upTo {n : Nat} {l : List Int} {m : Int} {x : List Int} (h : form n l = true) : x ∈ upTo n (rows n l) m ↔ x.length = n ∧ value (rows n l) x ≤ m := by
  unfold Ql78.upTo
  rw [List.mem_filter, decide_eq_true_eq, mem_boxes]
  constructor
  · rintro ⟨⟨h1, _⟩, h2⟩
    exact ⟨by simpa using h1, h2⟩
  · rintro ⟨h1, h2⟩
    refine ⟨⟨by simpa using h1, fun i hi => ?_⟩, h2⟩
    have hi : i < n := by simpa using hi
    rw [List.getD_eq_getElem?_getD (l := (List.range n).map _), List.getElem?_map, List.getElem?_range hi]
    exact bound_ge h h1 h2 hi
theorem mem_ways {n : Nat} {l : List Int} {m : Int} {x : List Int} (h : form n l = true) : x ∈ ways n (rows n l) m ↔ x.length = n ∧ value (rows n l) x = m := by
  unfold Ql78.ways
  rw [List.mem_filter, mem_upTo h, beq_iff_eq]
  constructor
  · rintro ⟨⟨h1, _⟩, h2⟩
    exact ⟨h1, h2⟩
  · rintro ⟨h1, h2⟩
    exact ⟨⟨h1, by omega⟩, h2⟩
theorem upTo_sorted (n : Nat) (a : Ql78.Rows) (m : Int) : (upTo n a m).Pairwise fun x y => before x y = true := (boxes_sorted _).filter _
theorem ways_sorted (n : Nat) (a : Ql78.Rows) (m : Int) : (ways n a m).Pairwise fun x y => before x y = true := (upTo_sorted n a m).filter _
theorem ways_nodup (n : Nat) (a : Ql78.Rows) (m : Int) : (ways n a m).Nodup := nodup_of_sorted (ways_sorted n a m)
theorem same_length {α : Type} {l k : List α} (h1 : l.Nodup) (h2 : k.Nodup) (h : ∀ x, x ∈ l ↔ x ∈ k) : l.length = k.length :=
  ((List.perm_ext_iff_of_nodup h1 h2).mpr h).length_eq
theorem before_asymm : ∀ x y : List Int, before x y = true → before y x = false
  | [], _, h => by unfold Ql78.before at h; cases h
  | a :: r, [], h => by unfold Ql78.before at h; cases h
  | a :: r, b :: s, h => by
    unfold Ql78.before at h ⊢
    rw [Bool.or_eq_true, Bool.and_eq_true, decide_eq_true_eq, beq_iff_eq] at h
    rcases h with h | ⟨h1, h2⟩
    · have e1 : ¬ b < a := by omega
      have e2 : ¬ b = a := by omega
      simp [e1, e2]
    · have := before_asymm r s h2
      have e1 : ¬ b < a := by omega
      simp [e1, this]
theorem first_fold : ∀ (l : List (List Int)) (y : List Int), (∀ x ∈ l, before y x = true) →
    l.foldl (fun (b : Option (List Int)) (x : List Int) => match b with
      | none => some x
      | some y => if before x y = true then some x else b) (some y) = some y
  | [], _, _ => rfl
  | x :: l, y, h => by
    rw [List.foldl_cons]
    have e : before x y = false := before_asymm y x (h x (List.mem_cons_self ..))
    simp only [e, Bool.false_eq_true, if_false]
    exact first_fold l y fun z hz => h z (List.mem_cons_of_mem _ hz)
theorem firstWay_head (n : Nat) (a : Ql78.Rows) (m : Int) : firstWay n a m = (ways n a m).head? := by
  unfold Ql78.firstWay
  have s := ways_sorted n a m
  cases e : ways n a m with
  | nil => rfl
  | cons x l =>
    rw [e] at s
    rw [List.foldl_cons]
    exact first_fold l x (List.pairwise_cons.mp s).1
/-- whatever is a way and before every other is the first -/
theorem firstWay_is {n : Nat} {l x : List Int} {m : Int} (h : form n l = true) (hx : x.length = n) (hv : value (rows n l) x = m) (hb : ∀ y, y.length = n → value (rows n l) y = m → y ≠ x → before x y = true) : firstWay n (rows n l) m = some x := by
  rw [firstWay_head]
  have s := ways_sorted n (rows n l) m
  have hm : x ∈ ways n (rows n l) m := (mem_ways h).mpr ⟨hx, hv⟩
  cases e : ways n (rows n l) m with
  | nil => rw [e] at hm; cases hm
  | cons y r =>
    rw [e] at s hm
    show some y = some x
    have hy : y ∈ ways n (rows n l) m := by rw [e]; exact List.mem_cons_self ..
    obtain ⟨h1, h2⟩ := (mem_ways h).mp hy
    by_cases q : y = x
    · rw [q]
    · exfalso
      have b1 := hb y h1 h2 q
      have b2 : before y x = true := by
        rcases List.mem_cons.mp hm with z | z
        · exact absurd z.symm q
        · exact (List.pairwise_cons.mp s).1 x z
      rw [before_asymm x y b1] at b2
      cases b2
theorem firstWay_none {n : Nat} {l : List Int} {m : Int} (h : form n l = true) (hn : ∀ y, y.length = n → value (rows n l) y ≠ m) : firstWay n (rows n l) m = none := by
  rw [firstWay_head]
  cases e : ways n (rows n l) m with
  | nil => rfl
  | cons y r =>
    have hy : y ∈ ways n (rows n l) m := by rw [e]; exact List.mem_cons_self ..
    obtain ⟨h1, h2⟩ := (mem_ways h).mp hy
    exact absurd h2 (hn y h1)
end Fm

namespace Fm
/-! ### A function of rows that is linear in each and nought where two neighbours are alike is the determinant but for a factor -/
structure Alt (n : Nat) (f : Mat → Int) : Prop where
  congr : ∀ M N : Mat, (∀ i j, i < n → j < n → M i j = N i j) → f M = f N
  lin : ∀ (M : Mat) (i : Nat) (x y : Int) (r s : Nat → Int), i < n → f (sr M i fun c => x * r c + y * s c) = x * f (sr M i r) + y * f (sr M i s)
  adj : ∀ (M : Mat) (i : Nat), i + 1 < n → (∀ c, M i c = M (i + 1) c) → f M = 0
theorem alt_dt (n : Nat) : Alt n (dt n) := ⟨fun _ _ h => dt_congr n h, fun M i x y r s h => dt_lin n i M x y r s h, fun M i h e => dt_adj n i M h e⟩
section
variable {n : Nat} {f : Mat → Int}
theorem Alt.zero (A : Alt n f) (M : Mat) (i : Nat) (h : i < n) : f (sr M i fun _ => 0) = 0 := by
  have z := A.lin M i 0 0 (fun _ => 0) (fun _ => 0) h
  simpa using z
theorem Alt.swap (A : Alt n f) (i : Nat) (M : Mat) (h : i + 1 < n) : f (sw M i (i + 1)) = - f M := by
  let G : (Nat → Int) → (Nat → Int) → Mat := fun r s => sr (sr M i r) (i + 1) s
  have hz : ∀ r : Nat → Int, f (G r r) = 0 := fun r => A.adj _ i h fun c => by
    show sr _ _ _ _ _ = sr _ _ _ _ _
    rw [sr_ne _ _ _ (by omega), sr_same, sr_same]
  have comm : ∀ r s : Nat → Int, G r s = sr (sr M (i + 1) s) i r := fun r s => by
    funext k c; show sr _ _ _ _ _ = _
    unfold sr
    by_cases h1 : k = i + 1
    · rw [if_pos h1, if_neg (by omega), if_pos h1]
    · rw [if_neg h1]
      by_cases h2 : k = i
      · rw [if_pos h2, if_pos h2]
      · rw [if_neg h2, if_neg h2, if_neg h1]
  have l2 : ∀ r s t : Nat → Int, f (G r fun c => s c + t c) = f (G r s) + f (G r t) := fun r s t => by
    have z := A.lin (sr M i r) (i + 1) 1 1 s t h
    simp only [Int.one_mul] at z
    exact z
  have l1 : ∀ r s t : Nat → Int, f (G (fun c => r c + s c) t) = f (G r t) + f (G s t) := fun r s t => by
    have z := A.lin (sr M (i + 1) t) i 1 1 r s (by omega)
    simp only [Int.one_mul] at z
    rw [comm, comm, comm]
    exact z
  have a1 := hz fun c => M i c + M (i + 1) c
  rw [l2, l1, l1, hz, hz] at a1
  have e0 : G (M i) (M (i + 1)) = M := by
    show sr _ _ _ = _
    rw [sr_self]
    exact sr_self M (i + 1)
  rw [e0] at a1
  show f (G (M (i + 1)) (M i)) = _
  omega
theorem Alt.alt (A : Alt n f) : ∀ (d i : Nat) (M : Mat), i + d + 1 < n → (∀ c, M i c = M (i + d + 1) c) → f M = 0
  | 0, i, M, h, e => A.adj M i h e
  | d + 1, i, M, h, e => by
    have z := A.swap (i + d + 1) M (by omega)
    rw [A.alt d i (sw M (i + d + 1) (i + d + 2)) (by omega) (fun c => by
      unfold sw
      rw [sr_ne _ _ _ (by omega), sr_ne _ _ _ (by omega), sr_ne _ _ _ (by omega), sr_same]
      exact e c)] at z
    omega
theorem Alt.cy (A : Alt n f) : ∀ (i : Nat) (M : Mat), i < n → f (cy M i) = sg i * f M
  | 0, M, _ => by rw [cy_zero, show sg 0 = 1 from rfl, Int.one_mul]
  | i + 1, M, h => by
    rw [cy_succ, A.cy i _ (by omega), A.swap i M h, sg_succ]
    grind
/-- a multiple of the first row, added to another -/
theorem Alt.op (A : Alt n f) (i : Nat) (M : Mat) (y : Int) (h : i + 1 < n) : f (sr M (i + 1) fun c => M (i + 1) c + y * M 0 c) = f M := by
  have z := A.lin M (i + 1) 1 y (M (i + 1)) (M 0) h
  simp only [Int.one_mul] at z
  rw [z, sr_self, A.alt i 0 (sr M (i + 1) (M 0)) (by omega) fun c => by
    rw [sr_ne _ _ _ (by omega), show 0 + i + 1 = i + 1 by omega, sr_same]]
  omega
/-- a row as a sum of unit rows -/
def ur (j : Nat) : Nat → Int := fun c => if c = j then 1 else 0
theorem Alt.expand (A : Alt n f) (M : Mat) (i : Nat) (h : i < n) (r : Nat → Int) : ∀ k, f (sr M i fun c => sm k fun j => r j * ur j c) = sm k fun j => r j * f (sr M i (ur j))
  | 0 => by
    show f (sr M i fun c => 0) = 0
    exact A.zero M i h
  | k + 1 => by
    have z := A.lin M i 1 (r k) (fun c => sm k fun j => r j * ur j c) (ur k) h
    simp only [Int.one_mul] at z
    show f (sr M i fun c => sm k (fun j => r j * ur j c) + r k * ur k c) = sm k (fun j => r j * f (sr M i (ur j))) + r k * f (sr M i (ur k))
    rw [z, A.expand M i h r k]
theorem sm_ur (k : Nat) (r : Nat → Int) (c : Nat) (hc : c < k) : sm k (fun j => r j * ur j c) = r c := by
  rw [sm_single k c _ hc fun j _ hne => by unfold ur; rw [if_neg (by omega), Int.mul_zero]]
  unfold ur
  rw [if_pos rfl, Int.mul_one]
theorem Alt.first (A : Alt (n + 1) f) (M : Mat) : f M = sm (n + 1) fun j => M 0 j * f (sr M 0 (ur j)) := by
  rw [← A.expand M 0 (by omega) (M 0) (n + 1)]
  refine A.congr _ _ fun i j hi hj => ?_
  by_cases h : i = 0
  · subst h
    rw [sr_same, sm_ur _ _ _ hj]
  · rw [sr_ne _ _ _ h]
end
def one : Mat := fun i j => if i = j then 1 else 0
/-- the top row the j-th unit row, below it N with a column of noughts put in at j -/
def put (j : Nat) (N : Mat) : Mat := fun i c => if i = 0 then ur j c else if c = j then 0 else N (i - 1) (if c < j then c else c - 1)
theorem put_sr (j : Nat) (N : Mat) (i : Nat) (r : Nat → Int) : put j (sr N i r) = sr (put j N) (i + 1) (fun c => if c = j then 0 else r (if c < j then c else c - 1)) := by
  funext k c
  unfold put sr
  dsimp only
  grind
theorem alt_put {n : Nat} {f : Mat → Int} (A : Alt (n + 1) f) (j : Nat) (hj : j < n + 1) : Alt n fun N => f (put j N) where
  congr := fun M N h => A.congr _ _ fun i c hi hc => by
    unfold put
    by_cases h0 : i = 0
    · rw [if_pos h0, if_pos h0]
    · rw [if_neg h0, if_neg h0]
      by_cases h1 : c = j
      · rw [if_pos h1, if_pos h1]
      · rw [if_neg h1, if_neg h1]
        refine h _ _ (by omega) ?_
        split <;> omega
  lin := fun M i x y r s hi => by
    show f (put j _) = x * f (put j _) + y * f (put j _)
    rw [put_sr, put_sr, put_sr]
    have z := A.lin (put j M) (i + 1) x y (fun c => if c = j then 0 else r (if c < j then c else c - 1)) (fun c => if c = j then 0 else s (if c < j then c else c - 1)) (by omega)
    rw [← z]
    congr 2
    funext c
    by_cases h : c = j
    · rw [if_pos h, if_pos h, if_pos h]; omega
    · rw [if_neg h, if_neg h, if_neg h]
  adj := fun M i hi e => A.adj _ (i + 1) (by omega) fun c => by
    have z := e (if c < j then c else c - 1)
    show put j M (i + 1) c = put j M (i + 1 + 1) c
    unfold put
    rw [show i + 1 - 1 = i by omega, show i + 1 + 1 - 1 = i + 1 by omega, z]
    rfl
/-- with a unit row at the top the column below it may be cleared -/
theorem Alt.clear {n : Nat} {f : Mat → Int} (A : Alt (n + 1) f) (M : Mat) (j : Nat) (hj : j < n + 1) : f (sr M 0 (ur j)) = f (put j (mn M j)) := by
  have step : ∀ t, t ≤ n → f (fun i c => if i = 0 then ur j c else if i ≤ t then M i c - M i j * ur j c else M i c) = f (sr M 0 (ur j)) := by
    intro t
    induction t with
    | zero =>
      intro _
      refine A.congr _ _ fun i c _ _ => ?_
      unfold sr
      by_cases h : i = 0
      · rw [if_pos h, if_pos h]
      · rw [if_neg h, if_neg (by omega), if_neg h]
    | succ t ih =>
      intro ht
      rw [← ih (by omega)]
      have z := A.op t (fun i c => if i = 0 then ur j c else if i ≤ t then M i c - M i j * ur j c else M i c) (- M (t + 1) j) (by omega)
      rw [← z]
      refine A.congr _ _ fun i c _ _ => ?_
      unfold sr
      dsimp only
      grind
  rw [← step n (Nat.le_refl n)]
  refine A.congr _ _ fun i c hi hc => ?_
  unfold put
  by_cases h : i = 0
  · rw [if_pos h, if_pos h]
  · rw [if_neg h, if_neg h, if_pos (by omega)]
    obtain ⟨i, rfl⟩ : ∃ k, i = k + 1 := ⟨i - 1, by omega⟩
    by_cases h2 : c = j
    · subst h2
      rw [if_pos rfl]
      unfold ur
      rw [if_pos rfl]
      omega
    · rw [if_neg h2]
      unfold ur mn sk
      rw [if_neg h2, Int.mul_zero, Int.sub_zero]
      have e : (if (if c < j then c else c - 1) < j then (if c < j then c else c - 1) else (if c < j then c else c - 1) + 1) = c := by
        by_cases h3 : c < j
        · rw [if_pos h3, if_pos h3]
        · rw [if_neg h3, if_neg (by omega)]; omega
      rw [e]
      rfl
theorem put_one (n j : Nat) (hj : j < n + 1) : ∀ i c, i < n + 1 → c < n + 1 → put j one i c = cy one j i c := fun i c hi hc => by
  unfold put cy one ur sk
  by_cases h : i = 0
  · rw [if_pos h, if_pos h]
    by_cases h2 : c = j
    · rw [if_pos h2, if_pos h2.symm]
    · rw [if_neg h2, if_neg (Ne.symm h2)]
  · rw [if_neg h, if_neg h]
    by_cases h2 : c = j
    · rw [if_pos h2, if_neg]
      split <;> omega
    · rw [if_neg h2]
      congr 1
      apply propext
      split <;> split <;> omega
/-- THE RULE -/
theorem alt_is : ∀ (n : Nat) (f : Mat → Int), Alt n f → ∀ M, f M = f one * dt n M
  | 0, f, A, M => by
    rw [A.congr M one fun i j hi => by omega]
    simp [dt]
  | n + 1, f, A, M => by
    rw [A.first M, dt, ← sm_mul]
    refine sm_congr _ fun j hj => ?_
    rw [A.clear M j hj]
    have z := alt_is n (fun N => f (put j N)) (alt_put A j hj) (mn M j)
    have e : f (put j one) = sg j * f one := by
      rw [A.congr _ _ (put_one n j hj)]
      exact A.cy j one hj
    rw [z, e]
    grind
/-! ### Products and mirrors -/
def tr (A : Mat) : Mat := fun i j => A j i
theorem dt_one : ∀ n, dt n one = 1
  | 0 => rfl
  | n + 1 => by
    rw [dt, sm_single (n + 1) 0 _ (by omega) fun k hk hne => by
      show sg k * one 0 k * _ = 0
      unfold one
      rw [if_neg (Ne.symm hne)]; simp]
    have e : dt n (mn one 0) = dt n one := dt_congr n fun i j _ _ => by
      unfold mn one sk
      grind
    rw [e, dt_one n]
    rfl
/-! columns -/
theorem dt_col_lin : ∀ (n i : Nat) (M : Mat) (x y : Int) (r s : Nat → Int), i < n →
    dt n (tr (sr (tr M) i fun c => x * r c + y * s c)) = x * dt n (tr (sr (tr M) i r)) + y * dt n (tr (sr (tr M) i s))
  | 0, _, _, _, _, _, _, h => absurd h (Nat.not_lt_zero _)
  | n + 1, i, M, x, y, r, s, h => by
    have hm1 : ∀ (q : Nat → Int), mn (tr (sr (tr M) i q)) i = mn M i := fun q => by
      funext a c
      unfold mn tr sr
      have : sk i c ≠ i := by unfold sk; split <;> omega
      rw [if_neg this]
    have hm2 : ∀ (q : Nat → Int) (j i' : Nat), sk j i' = i → mn (tr (sr (tr M) i q)) j = tr (sr (tr (mn M j)) i' fun a => q (a + 1)) := fun q j i' e => by
      funext a c
      unfold mn tr sr
      by_cases h : c = i'
      · rw [if_pos h, if_pos (by rw [h]; exact e)]
      · rw [if_neg h, if_neg]
        intro z
        apply h
        unfold sk at e z
        split at e <;> split at z <;> omega
    rw [dt, dt, dt, ← sm_mul, ← sm_mul, ← sm_add]
    refine sm_congr _ fun j hj => ?_
    by_cases hji : j = i
    · subst hji
      rw [hm1, hm1, hm1]
      have ev : ∀ q : Nat → Int, tr (sr (tr M) j q) 0 j = q 0 := fun q => by unfold tr; rw [sr_same]
      rw [ev, ev, ev]
      grind
    · obtain ⟨i', hi', e⟩ : ∃ i', i' < n ∧ sk j i' = i := by
        by_cases h2 : i < j
        · exact ⟨i, by omega, by unfold sk; rw [if_pos h2]⟩
        · exact ⟨i - 1, by omega, by unfold sk; rw [if_neg (by omega)]; omega⟩
      rw [hm2 _ j i' e, hm2 _ j i' e, hm2 _ j i' e]
      have ev : ∀ q : Nat → Int, tr (sr (tr M) i q) 0 j = M 0 j := fun q => by
        show sr (tr M) i q j 0 = M 0 j
        rw [sr_ne _ _ _ hji]
        rfl
      rw [ev, ev, ev]
      have z := dt_col_lin n i' (mn M j) x y (fun a => r (a + 1)) (fun a => s (a + 1)) hi'
      rw [z]
      grind
theorem sm_two (n i : Nat) (f : Nat → Int) (hi : i + 1 < n) (h : ∀ k, k < n → k ≠ i → k ≠ i + 1 → f k = 0) : sm n f = f i + f (i + 1) := by
  induction n with
  | zero => omega
  | succ n ih =>
    rw [sm]
    by_cases e : i + 1 = n
    · subst e
      rw [sm_single (i + 1) i _ (by omega) fun k hk hne => h k (by omega) hne (by omega)]
    · rw [ih (by omega) fun k hk h1 h2 => h k (by omega) h1 h2, h n (by omega) (by omega) (by omega), Int.add_zero]
theorem dt_col_adj : ∀ (n i : Nat) (M : Mat), i + 1 < n → (∀ r, M r i = M r (i + 1)) → dt n M = 0
  | 0, _, _, h, _ => absurd h (Nat.not_lt_zero _)
  | n + 1, i, M, h, e => by
    rw [dt, sm_two (n + 1) i _ h fun k hk h1 h2 => ?_]
    · have em : mn M i = mn M (i + 1) := by
        funext a c
        unfold mn sk
        by_cases h1 : c < i
        · rw [if_pos h1, if_pos (by omega)]
        · rw [if_neg h1]
          by_cases h2 : c = i
          · subst h2
            rw [if_pos (by omega)]
            exact (e _).symm
          · rw [if_neg (by omega)]
      rw [em, ← e 0, sg_succ]
      grind
    · obtain ⟨i', hi', f1, f2⟩ : ∃ i', i' + 1 < n ∧ sk k i' = i ∧ sk k (i' + 1) = i + 1 := by
        by_cases h3 : i < k
        · exact ⟨i, by omega, by unfold sk; rw [if_pos h3], by unfold sk; rw [if_pos (by omega)]⟩
        · exact ⟨i - 1, by omega, by unfold sk; rw [if_neg (by omega)]; omega, by unfold sk; rw [if_neg (by omega)]; omega⟩
      rw [dt_col_adj n i' (mn M k) hi' fun r => by
        show M (r + 1) (sk k i') = M (r + 1) (sk k (i' + 1))
        rw [f1, f2]
        exact e _]
      simp
theorem dt_tr (n : Nat) (M : Mat) : dt n (tr M) = dt n M := by
  have al : Alt n fun M => dt n (tr M) := ⟨fun M N h => dt_congr n fun i j hi hj => h j i hj hi, fun M i x y r s hi => dt_col_lin n i (tr M) x y r s hi, fun M i hi e => dt_col_adj n i (tr M) hi fun r => e r⟩
  have z := alt_is n _ al M
  rw [z]
  have e : tr one = one := by
    funext i j
    unfold tr one
    congr 1
    exact propext eq_comm
  rw [e, dt_one, Int.one_mul]
end Fm

namespace Fm
open Ql78 (dot times pair value at_ rows form bound boxes upTo ways before firstWay diagonal least truant fitting changes changed key tuples)
/-! ### Unit unknowns -/
/-! ### The least value -/
/-! ### The first that isn't a value -/
theorem ways_empty {n : Nat} {l : List Int} {m : Int} (h : form n l = true) : (ways n (rows n l) m).isEmpty = true ↔ ∀ y, y.length = n → value (rows n l) y ≠ m := by
  rw [List.isEmpty_iff]
  constructor
  · intro e y hy hv
    have : y ∈ ways n (rows n l) m := (mem_ways h).mpr ⟨hy, hv⟩
    rw [e] at this
    cases this
  · intro e
    refine List.eq_nil_iff_forall_not_mem.mpr fun y hy => ?_
    obtain ⟨h1, h2⟩ := (mem_ways h).mp hy
    exact e y h1 h2
/-- m is a value -/
def Val (n : Nat) (l : List Int) (m : Int) : Prop := ∃ y, y.length = n ∧ value (rows n l) y = m
theorem ways_some {n : Nat} {l : List Int} {m : Int} (h : form n l = true) : (ways n (rows n l) m).isEmpty = false ↔ Val n l m := by
  constructor
  · intro e
    cases q : ways n (rows n l) m with
    | nil => rw [q] at e; cases e
    | cons y r =>
      have : y ∈ ways n (rows n l) m := by rw [q]; exact List.mem_cons_self ..
      exact ⟨y, (mem_ways h).mp this⟩
  · rintro ⟨y, h1, h2⟩
    cases q : (ways n (rows n l) m).isEmpty with
    | false => rfl
    | true => exact absurd h2 ((ways_empty h).mp q y h1)
theorem find_range (p : Nat → Bool) (n t : Nat) (ht : t < n) (hp : p t = true) (hl : ∀ i, i < t → p i = false) : (List.range n).find? p = some t := by
  rw [List.find?_eq_some_iff_append]
  refine ⟨hp, List.range t, (List.range (n - t - 1)).map (fun i => t + 1 + i), ?_, fun a ha => by rw [hl a (List.mem_range.mp ha)]; rfl⟩
  obtain ⟨d, rfl⟩ : ∃ d, n = t + 1 + d := ⟨n - t - 1, by omega⟩
  rw [show t + 1 + d - t - 1 = d by omega, List.range_add (n := t + 1), List.range_succ, List.append_assoc]
  rfl
theorem truant_zero {n : Nat} {l : List Int} (h : form n l = true) (ha : ∀ m : Nat, m < 15 → Val n l ((m : Int) + 1)) : truant n (rows n l) = 0 := by
  unfold Ql78.truant
  have e : (List.range 15).find? (fun (m : Nat) => (ways n (rows n l) ((m : Int) + 1)).isEmpty) = none := by
    rw [List.find?_eq_none]
    intro m hm
    rw [(ways_some h).mpr (ha m (List.mem_range.mp hm))]
    decide
  rw [e]
theorem truant_some {n : Nat} {l : List Int} {t : Nat} (h : form n l = true) (ht : t < 15) (hn : ¬ Val n l ((t : Int) + 1)) (ha : ∀ m : Nat, m < t → Val n l ((m : Int) + 1)) : truant n (rows n l) = t + 1 := by
  unfold Ql78.truant
  have e : (List.range 15).find? (fun (m : Nat) => (ways n (rows n l) ((m : Int) + 1)).isEmpty) = some t := by
    refine find_range _ 15 t ht ?_ fun m hm => (ways_some h).mpr (ha m hm)
    cases q : (ways n (rows n l) ((t : Int) + 1)).isEmpty with
    | true => rfl
    | false => exact absurd ((ways_some h).mp q) hn
  rw [e]
/-! ### Rows of a change -/
end Fm

namespace Fm
open Ql78 (dot times pair value at_ rows form upTo ways before diagonal changed key tuples first)
/-! ### The order -/
theorem before_trans : ∀ x y z : List Int, before x y = true → before y z = true → before x z = true
  | [], _, _, h, _ => by unfold Ql78.before at h; cases h
  | _ :: _, [], _, h, _ => by unfold Ql78.before at h; cases h
  | _ :: _, _ :: _, [], _, h => by unfold Ql78.before at h; cases h
  | a :: r, b :: s, c :: t, h1, h2 => by
    unfold Ql78.before at h1 h2 ⊢
    rw [Bool.or_eq_true, Bool.and_eq_true, decide_eq_true_eq, beq_iff_eq] at h1 h2 ⊢
    rcases h1 with h1 | ⟨h1, h3⟩
    · rcases h2 with h2 | ⟨h2, h4⟩
      · exact .inl (by omega)
      · exact .inl (by omega)
    · rcases h2 with h2 | ⟨h2, h4⟩
      · exact .inl (by omega)
      · exact .inr ⟨by omega, before_trans r s t h3 h4⟩
theorem before_total : ∀ x y : List Int, x.length = y.length → before x y = false → before y x = false → x = y
  | [], [], _, _, _ => rfl
  | [], _ :: _, h, _, _ => by simp at h
  | _ :: _, [], h, _, _ => by simp at h
  | a :: r, b :: s, h, h1, h2 => by
    unfold Ql78.before at h1 h2
    rw [Bool.or_eq_false_iff, decide_eq_false_iff_not] at h1 h2
    have e : a = b := by omega
    subst e
    have h3 : before r s = false := by simpa using h1.2
    have h4 : before s r = false := by simpa using h2.2
    rw [before_total r s (by simpa using h) h3 h4]
theorem not_before_trans {x y z : List Int} (h1 : before x y = false) (h2 : before z y = true) : before x z = false := by
  cases q : before x z with
  | false => rfl
  | true => rw [before_trans x z y q h2] at h1; cases h1
end Fm

namespace Fm
open Ql78 (pair value at_ rows form upTo before changed key first)
/-! ### Coordinates by a change's rows -/
theorem sq_one {D : Int} (h : D.natAbs = 1) : D * D = 1 := by
  have := @Int.natAbs_mul_self D
  rw [h] at this
  omega
theorem coords {n : Nat} {C : Mat} (h : (dt n C).natAbs = 1) (x : Nat → Int) : ∃ t : Nat → Int, ∀ k, k < n → x k = sm n fun i => t i * C i k := by
  cases n with
  | zero => exact ⟨fun _ => 0, fun k hk => by omega⟩
  | succ m =>
    refine ⟨fun i => dt (m + 1) C * sm (m + 1) fun j => x j * co m (tr C) j i, fun k hk => ?_⟩
    have col : ∀ j, j < m + 1 → sm (m + 1) (fun i => C i k * co m (tr C) j i) = if k = j then dt (m + 1) C else 0 := fun j hj => by
      by_cases e : k = j
      · rw [if_pos e, ← dt_tr, ← laplace m (tr C) j hj, e]
        rfl
      · rw [if_neg e]
        exact laplace0 m (tr C) j k hj hk e
    have e1 : sm (m + 1) (fun i => (dt (m + 1) C * sm (m + 1) fun j => x j * co m (tr C) j i) * C i k) = dt (m + 1) C * sm (m + 1) (fun i => sm (m + 1) fun j => x j * (C i k * co m (tr C) j i)) := by
      rw [← sm_mul]
      refine sm_congr _ fun i _ => ?_
      have : sm (m + 1) (fun j => x j * (C i k * co m (tr C) j i)) = C i k * sm (m + 1) (fun j => x j * co m (tr C) j i) := by
        rw [← sm_mul]
        exact sm_congr _ fun j _ => by grind
      rw [this]
      grind
    have e2 : sm (m + 1) (fun i => sm (m + 1) fun j => x j * (C i k * co m (tr C) j i)) = x k * dt (m + 1) C := by
      rw [sm_swap]
      have : sm (m + 1) (fun j => sm (m + 1) fun i => x j * (C i k * co m (tr C) j i)) = sm (m + 1) (fun j => x j * if k = j then dt (m + 1) C else 0) := by
        refine sm_congr _ fun j hj => ?_
        rw [sm_mul, col j hj]
      rw [this, sm_single (m + 1) k _ hk fun j _ hne => by rw [if_neg (Ne.symm hne), Int.mul_zero], if_pos rfl]
    rw [e1, e2, Int.mul_comm (x k), ← Int.mul_assoc, sq_one h, Int.one_mul]
/-! ### A row without a common divisor is the first of a change -/
theorem sm_nn {f : Nat → Int} : ∀ (n : Nat), (∀ i, i < n → 0 ≤ f i) → 0 ≤ sm n f
  | 0, _ => Int.le_refl 0
  | n + 1, h => by
    have h1 := sm_nn (f := f) n fun i hi => h i (by omega)
    have h2 := h n (by omega)
    rw [sm]; omega
/-! ### Rows ahead of which unit rows stand -/
/-! ### A short row beyond k rows -/
end Fm

namespace Fm
open Ql78 (pair value at_ rows form upTo before changed key first)
/-! ### The first form among ALL forms that are the same (n 4 at most) -/
/-- the form changed by C -/
def gr (n : Nat) (M C : Mat) : Mat := fun i j => pr n M (C i) (C j)
theorem xv_map {n : Nat} {f : Nat → Int} {j : Nat} (hj : j < n) : xv ((List.range n).map f) j = f j := by
  unfold xv
  rw [List.getD_eq_getElem?_getD, List.getElem?_map, List.getElem?_range hj]
  rfl
end Fm

namespace Fm
/-! ### The squares: what the elimination's rows say of the value -/
theorem bm_symm {n k : Nat} {M : Mat} (h : Symm n M) : ∀ i j, k + i < n → k + j < n → bm k M i j = bm k M j i := fun i j hi hj => by
  unfold bm
  rw [← dt_tr]
  refine dt_congr _ fun r c hr hc => ?_
  show bd k M i j c r = bd k M j i r c
  unfold bd
  refine h _ _ ?_ ?_
  · split <;> omega
  · split <;> omega
theorem pr_scale (n : Nat) (M : Mat) (a : Int) (x : Nat → Int) : pr n (fun i j => a * M i j) x x = a * pr n M x x := by
  unfold pr
  rw [← sm_mul]
  refine sm_congr _ fun i _ => ?_
  have : sm n (fun j => a * M i j * x j) = a * sm n (fun j => M i j * x j) := by
    rw [← sm_mul]
    exact sm_congr _ fun j _ => by grind
  rw [this]
  grind
theorem chol_step {n k : Nat} {M : Mat} (hk : k < n) (hs : Symm n M) (hl : Lead n M) (x : Nat → Int) :
    dt (k + 1) M * pr (n - k) (bm k M) x x = sm (n - k) (fun j => bm k M 0 j * x j) * sm (n - k) (fun j => bm k M 0 j * x j) + dt k M * pr (n - (k + 1)) (bm (k + 1) M) (fun i => x (i + 1)) (fun i => x (i + 1)) := by
  obtain ⟨m, hm⟩ : ∃ m, n - k = m + 1 := ⟨n - k - 1, by omega⟩
  have hm' : n - (k + 1) = m := by omega
  rw [hm, hm']
  have z := pr_el m (bm k M) (fun i j hi hj => bm_symm hs i j (by omega) (by omega)) x
  rw [bm_lead] at z
  rw [z, ← pr_scale]
  congr 1
  refine pr_congr (fun i j hi hj => ?_) (fun _ _ => rfl) (fun _ _ => rfl)
  rw [sylvester k M i j fun t ht => Int.ne_of_gt (hl t (by omega))]
  rfl
theorem pr_bm0 (n : Nat) (M : Mat) (x : Nat → Int) : pr n (bm 0 M) x x = pr n M x x := pr_congr (fun i j _ _ => bm_zero M i j) (fun _ _ => rfl) (fun _ _ => rfl)
/-- the rest of the value behind k unknowns is never below nought -/
theorem bm_nn {n : Nat} {M : Mat} (hs : Symm n M) (hl : Lead n M) : ∀ (d k : Nat), n - k = d → k ≤ n → ∀ x : Nat → Int, 0 ≤ pr (n - k) (bm k M) x x
  | 0, k, e, _, x => by rw [e]; exact Int.le_refl 0
  | d + 1, k, e, hk, x => by
    have z := chol_step (k := k) (by omega) hs hl x
    have q := bm_nn hs hl d (k + 1) (by omega) (by omega) fun i => x (i + 1)
    have hD : 0 < dt (k + 1) M := hl k (by omega)
    have hD0 : 0 < dt k M := lead_pos fun t ht => hl t (by omega)
    have h1 := sq_nn (sm (n - k) fun j => bm k M 0 j * x j)
    have h2 : 0 ≤ dt k M * pr (n - (k + 1)) (bm (k + 1) M) (fun i => x (i + 1)) (fun i => x (i + 1)) := Int.mul_nonneg (by omega) q
    rcases lt_or_ge (pr (n - k) (bm k M) x x) 0 with h | h
    · have := Int.mul_neg_of_pos_of_neg hD h
      omega
    · exact h
end Fm

namespace Fm
/-! ### A form that is above nought has leading minors above nought -/
def Pos (n : Nat) (M : Mat) : Prop := ∀ x : Nat → Int, 0 ≤ pr n M x x ∧ (pr n M x x ≤ 0 → ∀ i, i < n → x i = 0)
theorem lead_of_pos : ∀ (n : Nat) (M : Mat), Symm n M → Pos n M → Lead n M
  | 0, _, _, _ => fun t ht => by omega
  | n + 1, M, hs, hp => by
    have h0 : 0 < M 0 0 := by
      have e : pr (n + 1) M (ur 0) (ur 0) = M 0 0 := by
        unfold pr ur
        rw [sm_single (n + 1) 0 _ (by omega) fun k hk hne => by rw [if_neg hne, Int.zero_mul], if_pos rfl, Int.one_mul,
          sm_single (n + 1) 0 _ (by omega) fun k hk hne => by rw [if_neg hne, Int.mul_zero], if_pos rfl, Int.mul_one]
      have q := hp (ur 0)
      rw [e] at q
      rcases lt_or_ge 0 (M 0 0) with h | h
      · exact h
      · have := q.2 h 0 (by omega)
        simp [ur] at this
    have hel : Pos n (el M) := by
      have key : ∀ y : Nat → Int, ∃ x : Nat → Int, (∀ i, x (i + 1) = M 0 0 * y i) ∧ M 0 0 * pr (n + 1) M x x = M 0 0 * M 0 0 * pr n (el M) y y := fun y => by
        refine ⟨fun i => match i with | 0 => - sm n (fun j => M 0 (j + 1) * y j) | i + 1 => M 0 0 * y i, fun i => rfl, ?_⟩
        rw [pr_el n M hs, sm_shift]
        have e1 : sm n (fun i => M 0 (i + 1) * (M 0 0 * y i)) = M 0 0 * sm n (fun j => M 0 (j + 1) * y j) := by
          rw [← sm_mul]
          exact sm_congr n fun j _ => by grind
        have e2 : pr n (el M) (fun i => M 0 0 * y i) (fun i => M 0 0 * y i) = M 0 0 * M 0 0 * pr n (el M) y y := by
          have z1 := pr_lin_l n (el M) (M 0 0) 0 y y (fun i => M 0 0 * y i)
          have z2 := pr_lin_r n (el M) (M 0 0) 0 y y y
          simp only [Int.zero_mul, Int.add_zero] at z1 z2
          rw [z1, z2]
          grind
        show (M 0 0 * (- sm n fun j => M 0 (j + 1) * y j) + sm n fun i => M 0 (i + 1) * (M 0 0 * y i)) * (M 0 0 * (- sm n fun j => M 0 (j + 1) * y j) + sm n fun i => M 0 (i + 1) * (M 0 0 * y i)) + pr n (el M) (fun i => M 0 0 * y i) (fun i => M 0 0 * y i) = _
        rw [e1, e2]
        grind
      intro y
      obtain ⟨x, hx, e⟩ := key y
      have q := hp x
      have hpos : 0 < M 0 0 * M 0 0 := Int.mul_pos h0 h0
      constructor
      · rcases lt_or_ge (pr n (el M) y y) 0 with h | h
        · have h1 := Int.mul_neg_of_pos_of_neg hpos h
          have h2 := Int.mul_nonneg (show 0 ≤ M 0 0 by omega) q.1
          omega
        · exact h
      · intro h i hi
        have h1 : M 0 0 * pr (n + 1) M x x ≤ 0 := by
          rw [e]
          exact Int.mul_nonpos_of_nonneg_of_nonpos (by omega) h
        have h2 : pr (n + 1) M x x ≤ 0 := by
          rcases lt_or_ge 0 (pr (n + 1) M x x) with h | h
          · have := Int.mul_pos h0 h
            omega
          · exact h
        have h3 := q.2 h2 (i + 1) (by omega)
        rw [hx i] at h3
        rcases Int.mul_eq_zero.mp h3 with h | h
        · omega
        · exact h
    have ih := lead_of_pos n (el M) hs.el hel
    intro t ht
    cases t with
    | zero => simpa [dt, sm, sg] using h0
    | succ t =>
      have z := ih t (by omega)
      rw [dt_el t M (Int.ne_of_gt h0)] at z
      rcases lt_or_ge 0 (dt (t + 1 + 1) M) with h | h
      · exact h
      · have := Int.mul_nonpos_of_nonneg_of_nonpos (show 0 ≤ M 0 0 ^ t from Int.le_of_lt (pow_pos h0 t)) h
        have e : dt (t + 1 + 1) M = dt (t + 2) M := rfl
        rw [e] at this
        omega
/-! ### The unknowns that rows and their numbers make -/
def xc (n : Nat) (C : Mat) (y : Nat → Int) : Nat → Int := fun c => sm n fun j => y j * C j c
theorem pr_sm_l (n : Nat) (M : Mat) (y : Nat → Int) (C : Mat) (v : Nat → Int) : ∀ k, pr n M (fun c => sm k fun j => y j * C j c) v = sm k fun j => y j * pr n M (C j) v
  | 0 => by
    unfold pr
    exact sm_zero n fun i _ => by simp [sm]
  | k + 1 => by
    have z := pr_lin_l n M 1 (y k) (fun c => sm k fun j => y j * C j c) (C k) v
    simp only [Int.one_mul] at z
    rw [sm, ← pr_sm_l n M y C v k, ← z]
    rfl
theorem pr_sm_r (n : Nat) (M : Mat) (y : Nat → Int) (C : Mat) (v : Nat → Int) : ∀ k, pr n M v (fun c => sm k fun j => y j * C j c) = sm k fun j => y j * pr n M v (C j)
  | 0 => by
    unfold pr
    exact sm_zero n fun i _ => by
      have : sm n (fun j => M i j * sm 0 (fun j_1 => y j_1 * C j_1 j)) = 0 := sm_zero n fun j _ => by simp [sm]
      rw [this, Int.mul_zero]
  | k + 1 => by
    have z := pr_lin_r n M 1 (y k) v (fun c => sm k fun j => y j * C j c) (C k)
    simp only [Int.one_mul] at z
    rw [sm, ← pr_sm_r n M y C v k, ← z]
    rfl
/-- the value by the changed form -/
theorem pr_gr (n : Nat) (M C : Mat) (y z : Nat → Int) : pr n (gr n M C) y z = pr n M (xc n C y) (xc n C z) := by
  have e : pr n M (xc n C y) (xc n C z) = sm n fun i => y i * sm n fun j => z j * pr n M (C i) (C j) := by
    unfold xc
    rw [pr_sm_l]
    exact sm_congr n fun i _ => by rw [pr_sm_r]
  rw [e]
  unfold pr gr
  refine sm_congr n fun i _ => ?_
  congr 1
  exact sm_congr n fun j _ => Int.mul_comm _ _
theorem gr_symm {n : Nat} {M C : Mat} (hs : Symm n M) : Symm n (gr n M C) := fun i j _ _ => pr_symm hs _ _
/-- a change's numbers are told by the unknowns they make -/
theorem xc_zero {n : Nat} {C : Mat} (hC : (dt n C).natAbs = 1) {y : Nat → Int} (h : ∀ c, c < n → xc n C y c = 0) : ∀ i, i < n → y i = 0 := fun i hi => by
  -- y C = 0; multiply by the rows that make the unit rows
  have hn : dt n (tr C) = dt n C := dt_tr n C
  obtain ⟨t, ht⟩ := coords (C := tr C) (by rw [hn]; exact hC) (ur i)
  -- ur i k = sum_j t j * C k j
  have e1 : sm n (fun k => y k * ur i k) = y i := by
    rw [sm_single n i _ hi fun k _ hne => by unfold ur; rw [if_neg hne, Int.mul_zero]]
    unfold ur
    rw [if_pos rfl, Int.mul_one]
  have e2 : sm n (fun k => y k * ur i k) = sm n (fun k => sm n fun j => y k * (t j * C k j)) := by
    refine sm_congr n fun k hk => ?_
    rw [ht k hk, ← sm_mul]
    rfl
  rw [← e1, e2, sm_swap]
  refine sm_zero n fun j hj => ?_
  have z := h j hj
  unfold xc at z
  have : sm n (fun k => y k * (t j * C k j)) = t j * sm n (fun k => y k * C k j) := by
    rw [← sm_mul]
    exact sm_congr n fun k _ => by grind
  rw [this, z, Int.mul_zero]
theorem gr_pos {n : Nat} {M C : Mat} (hp : Pos n M) (hC : (dt n C).natAbs = 1) : Pos n (gr n M C) := fun y => by
  rw [pr_gr]
  exact ⟨(hp _).1, fun h => xc_zero hC ((hp _).2 h)⟩
theorem xc_lin (n : Nat) (C : Mat) (a b : Int) (y z : Nat → Int) (c : Nat) : xc n C (fun i => a * y i + b * z i) c = a * xc n C y c + b * xc n C z c := by
  unfold xc
  rw [← sm_mul, ← sm_mul, ← sm_add]
  exact sm_congr n fun i _ => by grind
theorem xc_ur (n : Nat) (C : Mat) (j c : Nat) (hj : j < n) : xc n C (ur j) c = C j c := by
  unfold xc ur
  rw [sm_single n j _ hj fun k _ hne => by rw [if_neg hne, Int.zero_mul], if_pos rfl, Int.one_mul]
theorem xc_congr {n : Nat} {C : Mat} {y z : Nat → Int} (h : ∀ i, i < n → y i = z i) (c : Nat) : xc n C y c = xc n C z c :=
  sm_congr n fun i hi => by rw [h i hi]
/-! ### The elimination's columns; what is spent; the side -/
/-- what the elimination leaves in row i, column j -/
def tp (G : Mat) (i j : Nat) : Int := if j < i then 0 else bm i G 0 (j - i)
theorem tp_own (G : Mat) (i : Nat) : tp G i i = dt (i + 1) G := by
  unfold tp
  rw [if_neg (Nat.lt_irrefl i), Nat.sub_self, bm_lead]
def side (n : Nat) (G : Mat) (i : Nat) (y : Nat → Int) : Int := sm n fun j => tp G i j * y j
/-- what the unknowns from k on have spent of the value, times the k-th leading minor -/
def sp (n : Nat) (G : Mat) (k : Nat) (y : Nat → Int) : Int := pr (n - k) (bm k G) (fun i => y (k + i)) (fun i => y (k + i))
theorem sm_from {f : Nat → Int} (k : Nat) (h : ∀ j, j < k → f j = 0) : ∀ d, sm (k + d) f = sm d fun j => f (k + j)
  | 0 => sm_zero k h
  | d + 1 => by
    show sm (k + d) f + f (k + d) = _
    rw [sm_from k h d]
    rfl
theorem side_eq {n : Nat} {G : Mat} {k : Nat} (hk : k ≤ n) (y : Nat → Int) : side n G k y = sm (n - k) fun j => bm k G 0 j * y (k + j) := by
  obtain ⟨d, rfl⟩ : ∃ d, n = k + d := ⟨n - k, by omega⟩
  unfold side
  rw [sm_from k (fun j hj => by unfold tp; rw [if_pos hj, Int.zero_mul]) d, Nat.add_sub_cancel_left]
  refine sm_congr d fun j _ => ?_
  unfold tp
  rw [if_neg (by omega), Nat.add_sub_cancel_left]
theorem sp_step {n : Nat} {G : Mat} {k : Nat} (hk : k < n) (hs : Symm n G) (hl : Lead n G) (y : Nat → Int) :
    dt (k + 1) G * sp n G k y = side n G k y * side n G k y + dt k G * sp n G (k + 1) y := by
  have z := chol_step hk hs hl fun i => y (k + i)
  rw [side_eq (by omega)]
  unfold sp
  rw [z]
  congr 2
  refine pr_congr (fun _ _ _ _ => rfl) (fun i _ => ?_) (fun i _ => ?_) <;> exact congrArg y (by omega)
theorem sp_zero (n : Nat) (G : Mat) (y : Nat → Int) : sp n G 0 y = pr n G y y := by
  rw [← pr_bm0 n G y]
  exact pr_congr (fun _ _ _ _ => rfl) (fun i _ => congrArg y (Nat.zero_add i)) (fun i _ => congrArg y (Nat.zero_add i))
theorem sp_end (n : Nat) (G : Mat) (y : Nat → Int) : sp n G n y = 0 := by
  unfold sp
  rw [Nat.sub_self]
  rfl
theorem sp_nn {n : Nat} {G : Mat} {k : Nat} (hk : k ≤ n) (hs : Symm n G) (hl : Lead n G) (y : Nat → Int) : 0 ≤ sp n G k y := bm_nn hs hl (n - k) k rfl hk _
theorem sp_congr {n : Nat} {G : Mat} {k : Nat} {y z : Nat → Int} (h : ∀ c, k ≤ c → c < n → y c = z c) : sp n G k y = sp n G k z :=
  pr_congr (fun _ _ _ _ => rfl) (fun i hi => h _ (by omega) (by omega)) (fun i hi => h _ (by omega) (by omega))
theorem side_congr {n : Nat} {G : Mat} {k : Nat} {y z : Nat → Int} (h : ∀ c, k ≤ c → c < n → y c = z c) : side n G k y = side n G k z := by
  unfold side
  refine sm_congr n fun j hj => ?_
  by_cases q : j < k
  · unfold tp; rw [if_pos q, Int.zero_mul, Int.zero_mul]
  · rw [h j (by omega) hj]
theorem side_lin (n : Nat) (G : Mat) (k : Nat) (a b : Int) (y z : Nat → Int) : side n G k (fun i => a * y i + b * z i) = a * side n G k y + b * side n G k z := by
  unfold side
  rw [← sm_mul, ← sm_mul, ← sm_add]
  exact sm_congr n fun i _ => by grind
theorem side_ur (n : Nat) (G : Mat) (k j : Nat) (hj : j < n) : side n G k (ur j) = tp G k j := by
  unfold side ur
  rw [sm_single n j _ hj fun c _ hne => by rw [if_neg hne, Int.mul_zero], if_pos rfl, Int.mul_one]
theorem lead_dt {n : Nat} {G : Mat} (hl : Lead n G) {k : Nat} (hk : k ≤ n) : 0 < dt k G := lead_pos fun t ht => hl t (by omega)
theorem le_cancel {d a b : Int} (hd : 0 < d) (h : d * a ≤ d * b) : a ≤ b := Int.le_of_mul_le_mul_left h hd
/-- what is spent stays within, from a row on -/
theorem sp_le_step {n : Nat} {G : Mat} {k : Nat} (hk : k < n) (hs : Symm n G) (hl : Lead n G) {y : Nat → Int} {m : Int} (h : sp n G k y ≤ dt k G * m) : sp n G (k + 1) y ≤ dt (k + 1) G * m := by
  have z := sp_step hk hs hl y
  have q := sq_nn (side n G k y)
  have h0 := lead_dt hl (show k ≤ n by omega)
  have h1 := lead_dt hl (show k + 1 ≤ n by omega)
  refine le_cancel h0 ?_
  have := Int.mul_le_mul_of_nonneg_left h (show 0 ≤ dt (k + 1) G by omega)
  have e : dt (k + 1) G * (dt k G * m) = dt k G * (dt (k + 1) G * m) := by grind
  omega
theorem sp_le {n : Nat} {G : Mat} {k : Nat} (hs : Symm n G) (hl : Lead n G) {y : Nat → Int} {m : Int} (h : sp n G k y ≤ dt k G * m) : ∀ d, k + d ≤ n → sp n G (k + d) y ≤ dt (k + d) G * m
  | 0, _ => h
  | d + 1, hd => sp_le_step (k := k + d) (Nat.lt_of_lt_of_le (Nat.lt_succ_self _) hd) hs hl (sp_le hs hl h d (by omega))
/-- within the next row, told by the side -/
theorem sp_iff {n : Nat} {G : Mat} {k : Nat} (hk : k < n) (hs : Symm n G) (hl : Lead n G) (y : Nat → Int) (m : Int) :
    sp n G k y ≤ dt k G * m ↔ side n G k y * side n G k y ≤ dt k G * (dt (k + 1) G * m - sp n G (k + 1) y) := by
  have z := sp_step hk hs hl y
  have h1 := lead_dt hl (show k + 1 ≤ n by omega)
  have e : dt k G * (dt (k + 1) G * m - sp n G (k + 1) y) = dt (k + 1) G * (dt k G * m) - dt k G * sp n G (k + 1) y := by grind
  rw [e]
  constructor
  · intro h
    have := Int.mul_le_mul_of_nonneg_left h (show 0 ≤ dt (k + 1) G by omega)
    omega
  · intro h
    refine le_cancel h1 ?_
    omega
end Fm

namespace Fm
/-! ### Rows added to rows -/
theorem dt_sum (n i : Nat) (M : Mat) (hi : i < n) (r : Nat → Int) (R : Mat) : ∀ k, dt n (sr M i fun c => sm k fun j => r j * R j c) = sm k fun j => r j * dt n (sr M i (R j))
  | 0 => (alt_dt n).zero M i hi
  | k + 1 => by
    have z := dt_lin n i M 1 (r k) (fun c => sm k fun j => r j * R j c) (R k) hi
    simp only [Int.one_mul] at z
    rw [sm, ← dt_sum n i M hi r R k, ← z]
    rfl
theorem dt_same (n : Nat) (M : Mat) (i j : Nat) (hi : i < n) (hj : j < n) (h : i ≠ j) (e : ∀ c, c < n → M i c = M j c) : dt n M = 0 := by
  have e2 : dt n M = dt n (sr M i (M j)) := dt_congr n fun a c _ hc => by
    unfold sr
    by_cases q : a = i
    · rw [if_pos q, q, e c hc]
    · rw [if_neg q]
  rw [e2]
  rcases Nat.lt_or_gt_of_ne h with q | q
  · obtain ⟨d, rfl⟩ : ∃ d, j = i + d + 1 := ⟨j - i - 1, by omega⟩
    refine dt_alt d n i _ (by omega) fun c => ?_
    rw [sr_same, sr_ne _ _ _ (by omega)]
  · obtain ⟨d, rfl⟩ : ∃ d, i = j + d + 1 := ⟨i - j - 1, by omega⟩
    refine dt_alt d n j _ (by omega) fun c => ?_
    rw [sr_ne _ _ _ (by omega), sr_same]
theorem dt_row_op {k at' : Nat} {M N : Mat} {y : Nat → Int} (hat : at' < k) (h1 : ∀ i c, i < k → c < k → i ≠ at' → N i c = M i c) (h2 : ∀ c, c < k → N at' c = sm (at' + 1) fun j => y j * M j c) (hy : y at' = 1) : dt k N = dt k M := by
  have e : dt k N = dt k (sr M at' fun c => sm (at' + 1) fun j => y j * M j c) := dt_congr k fun i c hi hc => by
    unfold sr
    by_cases q : i = at'
    · rw [if_pos q, q, h2 c hc]
    · rw [if_neg q, h1 i c hi hc q]
  rw [e, dt_sum k at' M hat y M, sm_single (at' + 1) at' _ (by omega) fun j hj hne => ?_, hy, sr_self, Int.one_mul]
  rw [dt_same k (sr M at' (M j)) at' j hat (by omega) (Ne.symm hne) fun c _ => by rw [sr_same, sr_ne _ _ _ hne], Int.mul_zero]
/-! ### The minor of unit rows and one row more -/
def dv (n : Nat) (G : Mat) (k : Nat) (u v : Nat → Int) : Int := dt (k + 1) fun r c => pr n G (if r < k then ur r else u) (if c < k then ur c else v)
theorem pr_ur {n : Nat} (G : Mat) {i j : Nat} (hi : i < n) (hj : j < n) : pr n G (ur i) (ur j) = G i j := by
  unfold pr ur
  rw [sm_single n i _ hi fun k hk hne => by rw [if_neg hne, Int.zero_mul], if_pos rfl, Int.one_mul, sm_single n j _ hj fun k hk hne => by rw [if_neg hne, Int.mul_zero], if_pos rfl, Int.mul_one]
theorem pr_expand_l (n : Nat) (G : Mat) (u v : Nat → Int) : pr n G u v = sm n fun j => u j * pr n G (ur j) v := by
  rw [← pr_sm_l n G u (fun j => ur j) v n]
  refine pr_congr (fun _ _ _ _ => rfl) (fun i hi => ?_) (fun _ _ => rfl)
  exact (sm_ur n u i hi).symm
theorem dv_symm {n : Nat} {G : Mat} (hs : Symm n G) (k : Nat) (u v : Nat → Int) : dv n G k u v = dv n G k v u := by
  unfold dv
  rw [← dt_tr]
  exact dt_congr _ fun r c _ _ => pr_symm hs _ _
theorem dv_expand (n : Nat) (G : Mat) (k : Nat) (u v : Nat → Int) : dv n G k u v = sm n fun j => u j * dv n G k (ur j) v := by
  unfold dv
  let R : Mat := fun j c => pr n G (ur j) (if c < k then ur c else v)
  let N : Mat := fun r c => pr n G (if r < k then ur r else u) (if c < k then ur c else v)
  have e1 : dt (k + 1) N = dt (k + 1) (sr N k fun c => sm n fun j => u j * R j c) := dt_congr _ fun r c hr _ => by
    unfold sr
    by_cases q : r = k
    · rw [if_pos q, q]
      show pr n G (if k < k then ur k else u) _ = _
      rw [if_neg (Nat.lt_irrefl k)]
      exact pr_expand_l n G u _
    · rw [if_neg q]
  show dt (k + 1) N = _
  rw [e1, dt_sum (k + 1) k N (by omega) u R n]
  refine sm_congr n fun j _ => ?_
  congr 1
  refine dt_congr _ fun r c hr _ => ?_
  unfold sr
  by_cases q : r = k
  · rw [if_pos q, q, if_neg (Nat.lt_irrefl k)]
  · rw [if_neg q]
    show pr n G (if r < k then ur r else u) _ = pr n G (if r < k then ur r else ur j) _
    rw [if_pos (show r < k by omega), if_pos (show r < k by omega)]
theorem dv_low (n : Nat) (G : Mat) (k j : Nat) (v : Nat → Int) (hj : j < k) : dv n G k (ur j) v = 0 := by
  unfold dv
  refine dt_same (k + 1) _ k j (by omega) (by omega) (by omega) fun c _ => ?_
  rw [if_neg (Nat.lt_irrefl k), if_pos hj]
theorem dv_bm {n : Nat} (G : Mat) (k i j : Nat) (hi : k + i < n) (hj : k + j < n) : dv n G k (ur (k + i)) (ur (k + j)) = bm k G i j := by
  unfold dv bm
  refine dt_congr _ fun r c hr hc => ?_
  unfold bd
  have e : ∀ a b : Nat, (if a < k then ur a else ur (k + b)) = ur (if a < k then a else k + b) := fun a b => by split <;> rfl
  rw [e, e]
  exact pr_ur G (by split <;> omega) (by split <;> omega)
theorem dv_sp {n : Nat} {G : Mat} (hs : Symm n G) {k : Nat} (hk : k ≤ n) (y : Nat → Int) : dv n G k y y = sp n G k y := by
  obtain ⟨d, rfl⟩ : ∃ d, n = k + d := ⟨n - k, by omega⟩
  have lowr : ∀ (u : Nat → Int) j, j < k → dv (k + d) G k u (ur j) = 0 := fun u j hj => by rw [dv_symm hs]; exact dv_low _ G k j u hj
  have er : ∀ u : Nat → Int, dv (k + d) G k u y = sm d fun j => dv (k + d) G k u (ur (k + j)) * y (k + j) := fun u => by
    rw [dv_symm hs, dv_expand, sm_from k (fun j hj => by rw [dv_low _ G k j _ hj, Int.mul_zero]) d]
    exact sm_congr d fun j _ => by rw [dv_symm hs, Int.mul_comm]
  rw [dv_expand, sm_from k (fun j hj => by rw [dv_low _ G k j _ hj, Int.mul_zero]) d]
  unfold sp pr
  rw [Nat.add_sub_cancel_left]
  refine sm_congr d fun i hi => ?_
  rw [er]
  congr 1
  exact sm_congr d fun j hj => by rw [dv_bm G k i j (by omega) (by omega)]
/-! ### A basis, a row settled, two rows swapped -/
theorem pr_xc {n : Nat} {M C : Mat} {i j : Nat} (C' : Mat) (E : Mat) (hi : i < n) (hj : j < n) (h : ∀ i c, i < n → c < n → C' i c = xc n C (E i) c) : gr n M C' i j = pr n (gr n M C) (E i) (E j) := by
  rw [pr_gr]
  exact pr_congr (fun _ _ _ _ => rfl) (fun c hc => h i c hi hc) (fun c hc => h j c hj hc)
/-- the numbers of a settled row -/
structure Own (at' : Nat) (y : Nat → Int) : Prop where
  one : y at' = 1
  up : ∀ j, at' < j → y j = 0
/-- C' is C with the row at' made anew by y -/
structure Made (n : Nat) (C : Mat) (at' : Nat) (y : Nat → Int) (C' : Mat) : Prop where
  oth : ∀ i c, i < n → c < n → i ≠ at' → C' i c = C i c
  own : ∀ c, c < n → C' at' c = xc n C y c
theorem Made.rows {n : Nat} {C C' : Mat} {at' : Nat} {y : Nat → Int} (h : Made n C at' y C') : ∀ i c, i < n → c < n → C' i c = xc n C (if i = at' then y else ur i) c := fun i c hi hc => by
  by_cases q : i = at'
  · rw [if_pos q, q]; exact h.own c hc
  · rw [if_neg q, xc_ur n C i c hi]; exact h.oth i c hi hc q
theorem sm_cut {f : Nat → Int} {k n : Nat} (hk : k ≤ n) (h : ∀ j, k ≤ j → f j = 0) : sm n f = sm k f := by
  obtain ⟨d, rfl⟩ : ∃ d, n = k + d := ⟨n - k, by omega⟩
  clear hk
  induction d with
  | zero => rfl
  | succ d ih =>
    show sm (k + d) f + f (k + d) = _
    rw [ih, h _ (by omega), Int.add_zero]
theorem Made.lead {n : Nat} {M C C' : Mat} {at' : Nat} {y : Nat → Int} (h : Made n C at' y C') (hat : at' < n) (hy : Own at' y) {k : Nat} (hk : k ≤ n) : dt k (gr n M C') = dt k (gr n M C) := by
  by_cases q : k ≤ at'
  · refine dt_congr k fun i j hi hj => pr_congr (fun _ _ _ _ => rfl) (fun c hc => h.oth i c (by omega) hc (by omega)) (fun c hc => h.oth j c (by omega) hc (by omega))
  let E : Mat := fun i => if i = at' then y else ur i
  let G := gr n M C
  have e0 : dt k (gr n M C') = dt k fun i j => pr n G (E i) (E j) := dt_congr k fun i j hi hj => pr_xc C' E (by omega) (by omega) h.rows
  let G1 : Mat := fun i j => pr n G (E i) (ur j)
  have e1 : dt k G1 = dt k G := by
    refine dt_row_op (at' := at') (y := y) (by omega) (fun i c hi hc hne => ?_) (fun c hc => ?_) hy.one
    · show pr n G (if i = at' then y else ur i) (ur c) = G i c
      rw [if_neg hne]
      exact pr_ur G (by omega) (by omega)
    · show pr n G (if at' = at' then y else ur at') (ur c) = _
      rw [if_pos rfl, pr_expand_l, sm_cut (k := at' + 1) (by omega) fun j hj => by rw [hy.up j (by omega), Int.zero_mul]]
      exact sm_congr _ fun j hj => by rw [pr_ur G (by omega) (by omega)]
  have e2 : dt k (tr fun i j => pr n G (E i) (E j)) = dt k (tr G1) := by
    refine dt_row_op (at' := at') (y := y) (by omega) (fun i c hi hc hne => ?_) (fun c hc => ?_) hy.one
    · show pr n G (E c) (if i = at' then y else ur i) = pr n G (E c) (ur i)
      rw [if_neg hne]
    · show pr n G (E c) (if at' = at' then y else ur at') = sm (at' + 1) fun j => y j * pr n G (E c) (ur j)
      rw [if_pos rfl]
      have z := pr_sm_r n G y (fun j => ur j) (E c) n
      have z2 : pr n G (E c) y = pr n G (E c) (fun c => sm n fun j => y j * ur j c) := pr_congr (fun _ _ _ _ => rfl) (fun _ _ => rfl) (fun i hi => (sm_ur n y i hi).symm)
      rw [z2, z]
      exact sm_cut (by omega) fun j hj => by rw [hy.up j (by omega), Int.zero_mul]
  rw [e0, ← dt_tr, e2, dt_tr, e1]
theorem Made.unit {n : Nat} {C C' : Mat} {at' : Nat} {y : Nat → Int} (h : Made n C at' y C') (hat : at' < n) (hy : Own at' y) : dt n C' = dt n C := by
  refine dt_row_op (at' := at') (y := y) hat (fun i c hi hc hne => h.oth i c hi hc hne) (fun c hc => ?_) hy.one
  rw [h.own c hc]
  exact sm_cut (by omega) fun j hj => by rw [hy.up j (by omega), Int.zero_mul]
/-- C'' is C' with two rows swapped -/
structure Swapped (n : Nat) (C : Mat) (i : Nat) (C' : Mat) : Prop where
  oth : ∀ r c, r < n → c < n → r ≠ i → r ≠ i + 1 → C' r c = C r c
  lo : ∀ c, c < n → C' i c = C (i + 1) c
  hi : ∀ c, c < n → C' (i + 1) c = C i c
theorem dt_swapped {n i : Nat} {C C' : Mat} (h : Swapped n C i C') (hi : i + 1 < n) : dt n C' = - dt n C := by
  rw [← dt_swap n i C hi]
  refine dt_congr n fun r c hr hc => ?_
  unfold sw sr
  by_cases q : r = i + 1
  · rw [if_pos q, q]; exact h.hi c hc
  · rw [if_neg q]
    by_cases q2 : r = i
    · rw [if_pos q2, q2]; exact h.lo c hc
    · rw [if_neg q2]; exact h.oth r c hr hc q2 q
theorem Swapped.gram {n i : Nat} {M C C' : Mat} (h : Swapped n C i C') {r c : Nat} (hr : r < n) (hc : c < n) (hin : i + 1 < n) (v : Nat → Int) :
    pr n M (C' r) v = pr n M (C (if r = i then i + 1 else if r = i + 1 then i else r)) v := by
  refine pr_congr (fun _ _ _ _ => rfl) (fun k hk => ?_) (fun _ _ => rfl)
  by_cases q : r = i
  · rw [if_pos q, q]; exact h.lo k hk
  · rw [if_neg q]
    by_cases q2 : r = i + 1
    · rw [if_pos q2, q2]; exact h.hi k hk
    · rw [if_neg q2]; exact h.oth r k hr hk q q2
theorem Swapped.lead {n i : Nat} {M C C' : Mat} (h : Swapped n C i C') (hs : Symm n M) (hin : i + 1 < n) {k : Nat} (hk : k ≤ n) (hne : k ≠ i + 1) : dt k (gr n M C') = dt k (gr n M C) := by
  rcases Nat.lt_or_ge k (i + 1) with q | q
  · refine dt_congr k fun r c hr hc => ?_
    exact pr_congr (fun _ _ _ _ => rfl) (fun z hz => h.oth r z (by omega) hz (by omega) (by omega)) (fun z hz => h.oth c z (by omega) hz (by omega) (by omega))
  · let N : Mat := fun r c => pr n M (C' r) (C c)
    have e1 : dt k N = - dt k (gr n M C) := by
      refine dt_swapped (i := i) ⟨fun r c hr hc h1 h2 => ?_, fun c hc => ?_, fun c hc => ?_⟩ (by omega)
      · exact pr_congr (fun _ _ _ _ => rfl) (fun z hz => h.oth r z (by omega) hz h1 h2) (fun _ _ => rfl)
      · exact pr_congr (fun _ _ _ _ => rfl) (fun z hz => h.lo z hz) (fun _ _ => rfl)
      · exact pr_congr (fun _ _ _ _ => rfl) (fun z hz => h.hi z hz) (fun _ _ => rfl)
    have e2 : dt k (tr (gr n M C')) = - dt k (tr N) := by
      refine dt_swapped (i := i) ⟨fun r c hr hc h1 h2 => ?_, fun c hc => ?_, fun c hc => ?_⟩ (by omega)
      · exact pr_congr (fun _ _ _ _ => rfl) (fun _ _ => rfl) (fun z hz => h.oth r z (by omega) hz h1 h2)
      · exact pr_congr (fun _ _ _ _ => rfl) (fun _ _ => rfl) (fun z hz => h.lo z hz)
      · exact pr_congr (fun _ _ _ _ => rfl) (fun _ _ => rfl) (fun z hz => h.hi z hz)
    rw [← dt_tr, e2, dt_tr, e1]
    omega
/-- the one minor that a swap changes -/
theorem swapped_minor {n at' : Nat} {M C C1 C2 : Mat} {y : Nat → Int} (hs : Symm n M) (m : Made n C (at' + 1) y C1) (s : Swapped n C1 at' C2) (hin : at' + 1 < n) : dt (at' + 1) (gr n M C2) = sp n (gr n M C) at' y := by
  rw [← dv_sp (gr_symm hs) (by omega)]
  unfold dv
  refine dt_congr _ fun r c hr hc => ?_
  have row : ∀ r z, r < at' + 1 → z < n → C2 r z = xc n C (if r < at' then ur r else y) z := fun r z hr hz => by
    by_cases q : r < at'
    · rw [if_pos q, xc_ur n C r z (by omega), s.oth r z (by omega) hz (by omega) (by omega), m.oth r z (by omega) hz (by omega)]
    · rw [if_neg q, show r = at' by omega, s.lo z hz, m.own z hz]
  rw [pr_gr]
  exact pr_congr (fun _ _ _ _ => rfl) (fun z hz => row r z hr hz) (fun z hz => row c z hc hz)
theorem sp_own {n : Nat} {G : Mat} {at' : Nat} {y : Nat → Int} (hat : at' < n) (hy : Own at' y) : sp n G at' y = dt (at' + 1) G := by
  rw [sp_congr (z := ur at') fun c h1 h2 => ?_]
  · unfold sp
    have e : pr (n - at') (bm at' G) (fun i => ur at' (at' + i)) (fun i => ur at' (at' + i)) = pr (n - at') (bm at' G) (ur 0) (ur 0) := by
      refine pr_congr (fun _ _ _ _ => rfl) (fun i _ => ?_) (fun i _ => ?_) <;> (unfold ur; congr 1; exact propext ⟨fun h => by omega, fun h => by omega⟩)
    rw [e, pr_ur _ (by omega) (by omega), bm_lead]
  · unfold ur
    by_cases q : c = at'
    · rw [if_pos q, q, hy.one]
    · rw [if_neg q, hy.up c (by omega)]
end Fm

namespace Fm
/-- a basis, its rows' values and the steps of its minors small -/
structure Bas (n : Nat) (M C : Mat) : Prop where
  unit : (dt n C).natAbs = 1
  len : ∀ i, i < n → pr n M (C i) (C i) ≤ 88
  rat : ∀ j, j < n → dt (j + 1) (gr n M C) ≤ 32 * dt j (gr n M C)
/-- what is asked of a form's numbers -/
structure Frm (n : Nat) (M : Mat) : Prop where
  sym : Symm n M
  pos : Pos n M
  low : n ≤ 8
  own : ∀ i j, i < n → j < n → (M i j).natAbs ≤ 32
theorem Bas.lead {n : Nat} {M C : Mat} (f : Frm n M) (b : Bas n M C) : Lead n (gr n M C) := lead_of_pos n _ (gr_symm f.sym) (gr_pos f.pos b.unit)
theorem own_ur (j : Nat) : Own j (ur j) := ⟨by simp [ur], fun i hi => by unfold ur; rw [if_neg (by omega)]⟩
theorem gr_one {n : Nat} {M : Mat} {i j : Nat} (hi : i < n) (hj : j < n) : gr n M one i j = M i j := by
  unfold gr
  rw [← pr_ur M hi hj]
  refine pr_congr (fun _ _ _ _ => rfl) (fun c _ => ?_) (fun c _ => ?_) <;> (unfold one ur; congr 1; exact propext eq_comm)
theorem own_le {n : Nat} {M : Mat} (f : Frm n M) {i : Nat} (hi : i < n) : M i i ≤ 32 := by
  have := f.own i i hi hi
  omega
theorem Bas.start {n : Nat} {M C : Mat} (f : Frm n M) (h : ∀ i c, i < n → c < n → C i c = one i c) : Bas n M C := by
  have hu : dt n C = 1 := by rw [dt_congr n h, dt_one]
  have hg : ∀ i j, i < n → j < n → gr n M C i j = M i j := fun i j hi hj => by
    rw [← gr_one (M := M) hi hj]
    exact pr_congr (fun _ _ _ _ => rfl) (fun c hc => h i c hi hc) (fun c hc => h j c hj hc)
  refine ⟨by rw [hu]; rfl, fun i hi => ?_, fun j hj => ?_⟩
  · have := hg i i hi hi
    have := own_le f hi
    show gr n M C i i ≤ 88
    omega
  · have hl : Lead n M := lead_of_pos n M f.sym f.pos
    rw [dt_congr (j + 1) (N := M) fun i c hi hc => hg i c (by omega) (by omega), dt_congr j (N := M) fun i c hi hc => hg i c (by omega) (by omega), ← sp_own (G := M) hj (own_ur j)]
    have z := sp_le f.sym hl (k := 0) (y := ur j) (m := 32) (by rw [sp_zero, pr_ur M hj hj]; show M j j ≤ 1 * 32; have := own_le f hj; omega) j (by omega)
    rw [Nat.zero_add] at z
    omega
/-- a row's numbers when settled -/
structure Settled (n : Nat) (G : Mat) (at' : Nat) (y : Nat → Int) : Prop where
  own : Own at' y
  half : ∀ k, k < at' → - dt (k + 1) G ≤ 2 * side n G k y ∧ 2 * side n G k y ≤ dt (k + 1) G
theorem sq_half {x d : Int} (h1 : - d ≤ 2 * x) (h2 : 2 * x ≤ d) : 4 * (x * x) ≤ d * d := by
  have := Int.mul_nonneg (show 0 ≤ d - 2 * x by omega) (show 0 ≤ d + 2 * x by omega)
  have e : (d - 2 * x) * (d + 2 * x) = d * d - 4 * (x * x) := by grind
  omega
theorem settled_sp {n : Nat} {G : Mat} {at' : Nat} {y : Nat → Int} (hs : Symm n G) (hl : Lead n G) (hat : at' < n) (rat : ∀ j, j < n → dt (j + 1) G ≤ 32 * dt j G) (h : Settled n G at' y) : ∀ d : Nat, d ≤ at' → sp n G (at' - d) y ≤ dt (at' - d) G * (32 + 8 * (d : Int))
  | 0, _ => by
    rw [Nat.sub_zero, sp_own hat h.own]
    have := rat at' hat
    have e : dt at' G * (32 + 8 * ((0 : Nat) : Int)) = 32 * dt at' G := by simp; exact Int.mul_comm _ _
    omega
  | d + 1, hd => by
    have ih := settled_sp hs hl hat rat h d (by omega)
    obtain ⟨k, hk⟩ : ∃ k, at' - (d + 1) = k := ⟨_, rfl⟩
    have hk1 : at' - d = k + 1 := by omega
    rw [hk1] at ih
    rw [hk]
    have st := sp_step (k := k) (by omega) hs hl y
    have hh := h.half k (by omega)
    have q := sq_half hh.1 hh.2
    have r := rat k (by omega)
    have p1 : 0 < dt (k + 1) G := lead_dt hl (by omega)
    have p0 : 0 < dt k G := lead_dt hl (by omega)
    refine le_cancel (d := 4 * dt (k + 1) G) (by omega) ?_
    generalize dt (k + 1) G = B at *
    generalize dt k G = A at *
    generalize sp n G (k + 1) y = S1 at *
    generalize sp n G k y = S0 at *
    generalize side n G k y = x at *
    have i1 := Int.mul_le_mul_of_nonneg_left ih (show 0 ≤ 4 * A by omega)
    have i2 := Int.mul_le_mul_of_nonneg_left r (show 0 ≤ B by omega)
    have e1 : 4 * A * (B * (32 + 8 * (d : Int))) = 4 * B * (A * (32 + 8 * (d : Int))) := by grind
    have e2 : 4 * B * (A * (32 + 8 * ((d + 1 : Nat) : Int))) = 4 * B * (A * (32 + 8 * (d : Int))) + B * (32 * A) := by
      have : ((d + 1 : Nat) : Int) = (d : Int) + 1 := rfl
      rw [this]
      grind
    have e3 : 4 * B * S0 = 4 * (x * x) + 4 * A * S1 := by grind
    omega
theorem settled_len {n : Nat} {M C : Mat} {at' : Nat} {y : Nat → Int} (f : Frm n M) (b : Bas n M C) (hat : at' < n) (h : Settled n (gr n M C) at' y) : pr n M (xc n C y) (xc n C y) ≤ 88 := by
  have z := settled_sp (gr_symm f.sym) (b.lead f) hat b.rat h at' (Nat.le_refl _)
  rw [Nat.sub_self, sp_zero, pr_gr] at z
  have e : dt 0 (gr n M C) = 1 := rfl
  rw [e, Int.one_mul] at z
  have := f.low
  omega
theorem Bas.made {n : Nat} {M C C' : Mat} {at' : Nat} {y : Nat → Int} (f : Frm n M) (b : Bas n M C) (hat : at' < n) (h : Settled n (gr n M C) at' y) (m : Made n C at' y C') : Bas n M C' := by
  refine ⟨by rw [m.unit hat h.own]; exact b.unit, fun i hi => ?_, fun j hj => ?_⟩
  · by_cases q : i = at'
    · rw [q, pr_congr (fun _ _ _ _ => rfl) (fun c hc => m.own c hc) (fun c hc => m.own c hc)]
      exact settled_len f b hat h
    · rw [pr_congr (fun _ _ _ _ => rfl) (fun c hc => m.oth i c hi hc q) (fun c hc => m.oth i c hi hc q)]
      exact b.len i hi
  · rw [m.lead hat h.own (show j + 1 ≤ n by omega), m.lead hat h.own (show j ≤ n by omega)]
    exact b.rat j hj
theorem swap_num {n : Nat} {M C : Mat} {a : Nat} {y : Nat → Int} (f : Frm n M) (b : Bas n M C) (ha : a + 1 < n) (h : Settled n (gr n M C) (a + 1) y) :
    dt (a + 1) (gr n M C) * sp n (gr n M C) a y = side n (gr n M C) a y * side n (gr n M C) a y + dt a (gr n M C) * dt (a + 2) (gr n M C) := by
  rw [sp_step (by omega) (gr_symm f.sym) (b.lead f) y, sp_own ha h.own]
theorem Bas.swap {n : Nat} {M C C1 C2 : Mat} {a : Nat} {y : Nat → Int} (f : Frm n M) (b : Bas n M C) (ha : a + 1 < n) (h : Settled n (gr n M C) (a + 1) y) (m : Made n C (a + 1) y C1) (s : Swapped n C1 a C2)
    (less : side n (gr n M C) a y * side n (gr n M C) a y + dt a (gr n M C) * dt (a + 2) (gr n M C) < dt (a + 1) (gr n M C) * dt (a + 1) (gr n M C)) :
    Bas n M C2 ∧ (∀ k, k ≤ n → k ≠ a + 1 → dt k (gr n M C2) = dt k (gr n M C)) ∧ dt (a + 1) (gr n M C2) < dt (a + 1) (gr n M C) := by
  have b1 := b.made f ha h m
  have same : ∀ k, k ≤ n → k ≠ a + 1 → dt k (gr n M C2) = dt k (gr n M C) := fun k hk hne => (s.lead f.sym ha hk hne).trans (m.lead ha h.own hk)
  have new := swapped_minor f.sym m s ha
  have num := swap_num f b ha h
  rw [← new] at num
  have p1 : 0 < dt (a + 1) (gr n M C) := lead_dt (b.lead f) (by omega)
  have p0 : 0 < dt a (gr n M C) := lead_dt (b.lead f) (by omega)
  have lt : dt (a + 1) (gr n M C2) < dt (a + 1) (gr n M C) := by
    rcases lt_or_ge (dt (a + 1) (gr n M C2)) (dt (a + 1) (gr n M C)) with q | q
    · exact q
    · have := Int.mul_le_mul_of_nonneg_left q (show 0 ≤ dt (a + 1) (gr n M C) by omega)
      omega
  refine ⟨⟨?_, fun i hi => ?_, fun j hj => ?_⟩, same, lt⟩
  · rw [dt_swapped s ha, Int.natAbs_neg]; exact b1.unit
  · rw [s.gram hi hi ha, pr_symm f.sym, s.gram hi hi ha]
    refine b1.len _ ?_
    split
    · omega
    · split <;> omega
  · by_cases q1 : j = a
    · rw [q1, same a (by omega) (by omega)]
      have := b.rat a (by omega)
      omega
    · by_cases q2 : j = a + 1
      · subst q2
        rw [same (a + 1 + 1) (by omega) (by omega)]
        have r := b.rat a (by omega)
        have q := sq_nn (side n (gr n M C) a y)
        refine le_cancel p0 ?_
        have i1 : 0 ≤ dt (a + 1) (gr n M C2) := by
          rw [new]
          exact sp_nn (by omega) (gr_symm f.sym) (b.lead f) y
        have i2 := Int.mul_le_mul_of_nonneg_right r i1
        have e : 32 * dt a (gr n M C) * dt (a + 1) (gr n M C2) = dt a (gr n M C) * (32 * dt (a + 1) (gr n M C2)) := by grind
        have e2 : dt (a + 2) (gr n M C) = dt (a + 1 + 1) (gr n M C) := rfl
        rw [e2] at num
        omega
      · rw [same (j + 1) (by omega) (by omega), same j (by omega) q2]
        exact b.rat j hj
/-- not swapped: the minors' quotients fall slowly -/
theorem not_swap {x d b a : Int} (h1 : - d ≤ 2 * x) (h2 : 2 * x ≤ d) (h : ¬ x * x + b * a < d * d) : 3 * (d * d) ≤ 4 * (b * a) := by
  have := sq_half h1 h2
  omega
/-! ### Sizes -/
theorem Bas.dt_le {n : Nat} {M C : Mat} (f : Frm n M) (b : Bas n M C) : ∀ k : Nat, k ≤ n → dt k (gr n M C) ≤ 32 ^ k
  | 0, _ => by show (1 : Int) ≤ 1; decide
  | k + 1, hk => by
    have ih := b.dt_le f k (by omega)
    have r := b.rat k (by omega)
    rw [Int.pow_succ]
    omega
theorem pow32 {k : Nat} (hk : k ≤ 8) : (32 : Int) ^ k ≤ 2 ^ 40 := by
  have : k = 0 ∨ k = 1 ∨ k = 2 ∨ k = 3 ∨ k = 4 ∨ k = 5 ∨ k = 6 ∨ k = 7 ∨ k = 8 := by omega
  rcases this with h | h | h | h | h | h | h | h | h <;> (subst h; decide)
theorem Bas.dt_small {n : Nat} {M C : Mat} (f : Frm n M) (b : Bas n M C) {k : Nat} (hk : k ≤ n) : 0 < dt k (gr n M C) ∧ dt k (gr n M C) ≤ 2 ^ 40 :=
  ⟨lead_dt (b.lead f) hk, Int.le_trans (b.dt_le f k hk) (pow32 (by have := f.low; omega))⟩
theorem abs_lt_of_sq {x : Int} {B : Nat} (h : x * x < (B * B : Nat)) : x.natAbs < B := by
  have e : ((x.natAbs * x.natAbs : Nat) : Int) = x * x := by rw [Int.natCast_mul]; exact Int.natAbs_mul_self' x
  rcases Nat.lt_or_ge x.natAbs B with q | q
  · exact q
  · have := Nat.mul_le_mul q q
    omega
theorem Bas.tp_small {n : Nat} {M C : Mat} (f : Frm n M) (b : Bas n M C) {i j : Nat} (hi : i < n) (hj : j < n) : (tp (gr n M C) i j).natAbs < 2 ^ 44 := by
  have hs := gr_symm (C := C) f.sym
  have hl := b.lead f
  rw [← side_ur n _ i j hj]
  have st := sp_step (k := i) hi hs hl (ur j)
  have nn := sp_nn (k := i + 1) (by omega) hs hl (ur j)
  have h0 : sp n (gr n M C) 0 (ur j) ≤ dt 0 (gr n M C) * 88 := by
    rw [sp_zero, pr_ur _ hj hj]
    show pr n M (C j) (C j) ≤ 1 * 88
    have := b.len j hj
    omega
  have le := sp_le hs hl h0 i (by omega)
  rw [Nat.zero_add] at le
  have d1 := b.dt_small f (show i + 1 ≤ n by omega)
  have d0 := b.dt_small f (show i ≤ n by omega)
  refine abs_lt_of_sq ?_
  have nn2 := Int.mul_nonneg (Int.le_of_lt d0.1) nn
  generalize side n (gr n M C) i (ur j) = x at *
  generalize sp n (gr n M C) i (ur j) = S at *
  generalize dt (i + 1) (gr n M C) = B at *
  generalize dt i (gr n M C) = A at *
  have i1 := Int.mul_le_mul_of_nonneg_left le (show 0 ≤ B by omega)
  have i2 : B * (A * 88) ≤ 2 ^ 40 * (2 ^ 40 * 88) := Int.mul_le_mul d1.2 (by omega) (by omega) (by decide)
  have e : ((2 ^ 44 * 2 ^ 44 : Nat) : Int) = 2 ^ 88 := by decide
  rw [e]
  have e2 : (2 : Int) ^ 40 * (2 ^ 40 * 88) < 2 ^ 88 := by decide
  omega
theorem rest_small {n : Nat} {M : Mat} (hn : n + 1 ≤ 8) (h : ∀ i j, i < n + 1 → j < n + 1 → (M i j).natAbs ≤ 32) {i : Nat} : (dt n (mij M i i)).natAbs ≤ 2 ^ 48 := by
  refine Nat.le_trans (dt_bound 32 n (mij M i i) fun r c hr hc => h _ _ (sk_lt hr) (sk_lt hc)) ?_
  have : n = 0 ∨ n = 1 ∨ n = 2 ∨ n = 3 ∨ n = 4 ∨ n = 5 ∨ n = 6 ∨ n = 7 := by omega
  rcases this with h | h | h | h | h | h | h | h <;> (subst h; decide)
/-- unknowns of a small value are small -/
theorem small_of_value {n : Nat} {M : Mat} (f : Frm n M) {x : Nat → Int} (h : pr n M x x ≤ 88) {i : Nat} (hi : i < n) : (x i).natAbs < 2 ^ 32 := by
  obtain ⟨k, rfl⟩ : ∃ k, n = k + 1 := ⟨n - 1, by omega⟩
  have hl : Lead (k + 1) M := lead_of_pos _ M f.sym f.pos
  have z := unknown_le k M f.sym hl x i hi
  have r := rest_small (i := i) f.low f.own
  have d1 : 0 < dt (k + 1) M := hl k (by omega)
  refine abs_lt_of_sq ?_
  have nn := sq_nn (x i)
  have pp := (f.pos x).1
  generalize x i * x i = X at *
  generalize dt k (mij M i i) = R at *
  generalize pr (k + 1) M x x = V at *
  generalize dt (k + 1) M = D at *
  have hR : R ≤ 2 ^ 48 := by omega
  have i1 : X ≤ D * X := by
    have := Int.mul_le_mul_of_nonneg_right (show 1 ≤ D by omega) nn
    omega
  have i2 : V * R ≤ 88 * 2 ^ 48 := Int.mul_le_mul h hR (by omega) (by decide)
  have e : ((2 ^ 32 * 2 ^ 32 : Nat) : Int) = 2 ^ 64 := by decide
  rw [e]
  have : (88 : Int) * 2 ^ 48 < 2 ^ 64 := by decide
  omega
theorem Bas.row_small {n : Nat} {M C : Mat} (f : Frm n M) (b : Bas n M C) {i c : Nat} (hi : i < n) (hc : c < n) : (C i c).natAbs < 2 ^ 32 := small_of_value f (b.len i hi) hc
/-! ### Reduced: few numbers for each row -/
def Slow (n : Nat) (G : Mat) : Prop := ∀ i, i + 1 < n → 3 * (dt (i + 1) G * dt (i + 1) G) ≤ 4 * (dt i G * dt (i + 2) G)
theorem Slow.ratio {n : Nat} {G : Mat} (hl : Lead n G) (h : Slow n G) : ∀ k : Nat, k < n → 3 ^ k * dt k G ≤ 4 ^ k * dt (k + 1) G
  | 0, hk => by
    have := hl 0 hk
    show (1 : Int) * 1 ≤ 1 * dt (0 + 1) G
    omega
  | k + 1, hk => by
    have ih := Slow.ratio hl h k (by omega)
    have s := h k hk
    have p1 : 0 < dt (k + 1) G := hl k (by omega)
    have p2 : 0 < dt (k + 2) G := hl (k + 1) (by omega)
    have t3 : (0 : Int) < 3 ^ k := pow_pos (by decide) k
    refine le_cancel p1 ?_
    rw [Int.pow_succ, Int.pow_succ]
    have e0 : dt (k + 1 + 1) G = dt (k + 2) G := rfl
    rw [e0]
    generalize (3 : Int) ^ k = a at *
    generalize (4 : Int) ^ k = b at *
    generalize dt k G = D0 at *
    generalize dt (k + 1) G = D1 at *
    generalize dt (k + 2) G = D2 at *
    have i1 := Int.mul_le_mul_of_nonneg_left s (show 0 ≤ a by omega)
    have i2 := Int.mul_le_mul_of_nonneg_right ih (show 0 ≤ 4 * D2 by omega)
    have e1 : a * (3 * (D1 * D1)) = D1 * (a * 3 * D1) := by grind
    have e2 : a * (4 * (D0 * D2)) = a * D0 * (4 * D2) := by grind
    have e3 : b * D1 * (4 * D2) = D1 * (b * 4 * D2) := by grind
    omega
theorem ratio_up {b c : Int} (hb : 0 < b) (hc : 0 < c) {k K : Nat} (hk : k ≤ K) (h : 3 ^ k * b ≤ 4 ^ k * c) : 3 ^ K * b ≤ 4 ^ K * c := by
  obtain ⟨d, rfl⟩ : ∃ d, K = k + d := ⟨K - k, by omega⟩
  clear hk
  induction d with
  | zero => exact h
  | succ d ih =>
    rw [← Nat.add_assoc, Int.pow_succ, Int.pow_succ]
    have : 0 < (3 : Int) ^ (k + d) * b := Int.mul_pos (pow_pos (by decide) _) hb
    have e1 : (3 : Int) ^ (k + d) * 3 * b = 3 * (3 ^ (k + d) * b) := by grind
    have e2 : (4 : Int) ^ (k + d) * 4 * c = 4 * (4 ^ (k + d) * c) := by grind
    omega
/-- the numbers z with c z + s at most r in size, one by one -/
def zl (c r s : Int) : List Int := (List.range ((r - s) / c + (r + s) / c + 1).toNat).map fun (t : Nat) => -((r + s) / c) + (t : Int)
theorem mem_zl {c r s z : Int} (hc : 0 < c) : z ∈ zl c r s ↔ - r ≤ c * z + s ∧ c * z + s ≤ r := by
  unfold zl
  rw [List.mem_map]
  have a1 : z ≤ (r - s) / c ↔ c * z + s ≤ r := by
    rw [Int.le_ediv_iff_mul_le hc, Int.mul_comm]
    omega
  have a2 : -z ≤ (r + s) / c ↔ - r ≤ c * z + s := by
    rw [Int.le_ediv_iff_mul_le hc, Int.neg_mul, Int.mul_comm]
    omega
  constructor
  · rintro ⟨t, ht, rfl⟩
    have ht := List.mem_range.mp ht
    exact ⟨a2.mp (by omega), a1.mp (by omega)⟩
  · rintro ⟨h1, h2⟩
    have h1 := a2.mpr h1
    have h2 := a1.mpr h2
    exact ⟨(z + (r + s) / c).toNat, List.mem_range.mpr (by omega), by omega⟩
theorem zl_nodup (c r s : Int) : (zl c r s).Nodup := by
  unfold zl
  refine List.pairwise_map.mpr (List.Pairwise.imp (fun {a b} (h : a ≠ b) => ?_) List.nodup_range)
  intro e
  apply h
  omega
theorem zl_len {c r s : Int} (hc : 0 < c) {K : Nat} (h : 2 * r < c * (K + 1 : Nat)) : (zl c r s).length ≤ K + 1 := by
  unfold zl
  rw [List.length_map, List.length_range]
  have h1 : (r - s) / c * c ≤ r - s := Int.ediv_mul_le _ (by omega)
  have h2 : (r + s) / c * c ≤ r + s := Int.ediv_mul_le _ (by omega)
  have h3 : ((r - s) / c + (r + s) / c) * c < c * (K + 1 : Nat) := by
    rw [Int.add_mul]
    omega
  have h4 : (r - s) / c + (r + s) / c < (K + 1 : Nat) := by
    rcases lt_or_ge ((r - s) / c + (r + s) / c) (K + 1 : Nat) with q | q
    · exact q
    · have := Int.mul_le_mul_of_nonneg_left q (show 0 ≤ c by omega)
      rw [Int.mul_comm c ((r - s) / c + (r + s) / c)] at this
      omega
  omega
theorem reach44 {b c m S r : Int} (hb : 0 < b) (hc : 0 < c) (hm : 0 ≤ m) (hm2 : m ≤ 64) (hS : 0 ≤ S) (hr : 0 ≤ r) (h : 2187 * b ≤ 16384 * c) (hq : r * r ≤ b * (c * m - S)) : 2 * r < c * (43 + 1 : Nat) := by
  rcases lt_or_ge (2 * r) (c * (43 + 1 : Nat)) with q | q
  · exact q
  · exfalso
    have h22 : 22 * c ≤ r := by omega
    have i1 : 22 * c * (22 * c) ≤ r * r := Int.mul_le_mul h22 h22 (by omega) hr
    have i2 : b * (c * m - S) ≤ b * (c * 64) := Int.mul_le_mul_of_nonneg_left (by have := Int.mul_le_mul_of_nonneg_left hm2 (show 0 ≤ c by omega); omega) (by omega)
    have i3 := Int.mul_le_mul_of_nonneg_right h (show 0 ≤ c * 64 by omega)
    have e1 : 22 * c * (22 * c) = 484 * (c * c) := by grind
    have e2 : 2187 * b * (c * 64) = 2187 * (b * (c * 64)) := by grind
    have e3 : 16384 * c * (c * 64) = 1048576 * (c * c) := by grind
    have p := Int.mul_pos hc hc
    omega
end Fm

namespace Fm
open Ql78 (value rows form before ways firstWay)
/-! ### The whole root -/
def rtN : Nat → Nat
  | 0 => 0
  | n + 1 => if (rtN n + 1) * (rtN n + 1) ≤ n + 1 then rtN n + 1 else rtN n
theorem rtN_spec : ∀ n, rtN n * rtN n ≤ n ∧ n < (rtN n + 1) * (rtN n + 1)
  | 0 => by decide
  | n + 1 => by
    obtain ⟨h1, h2⟩ := rtN_spec n
    rw [rtN]
    by_cases q : (rtN n + 1) * (rtN n + 1) ≤ n + 1
    · rw [if_pos q]
      refine ⟨q, ?_⟩
      have e : (rtN n + 1 + 1) * (rtN n + 1 + 1) = (rtN n + 1) * (rtN n + 1) + 2 * (rtN n + 1) + 1 := by grind
      omega
    · rw [if_neg q]
      omega
def rt (N : Int) : Int := (rtN N.toNat : Int)
def IsRt (N r : Int) : Prop := 0 ≤ r ∧ r * r ≤ N ∧ N < (r + 1) * (r + 1)
theorem rt_is {N : Int} (h : 0 ≤ N) : IsRt N (rt N) := by
  obtain ⟨h1, h2⟩ := rtN_spec N.toNat
  unfold rt
  refine ⟨by omega, ?_, ?_⟩
  · have : ((rtN N.toNat * rtN N.toNat : Nat) : Int) ≤ (N.toNat : Int) := by omega
    rw [Int.natCast_mul] at this
    omega
  · have : (N.toNat : Int) < (((rtN N.toNat + 1) * (rtN N.toNat + 1) : Nat) : Int) := by omega
    have e : ((rtN N.toNat + 1 : Nat) : Int) = (rtN N.toNat : Int) + 1 := rfl
    rw [Int.natCast_mul, e] at this
    omega
theorem sq_le_iff {N r v : Int} (h : IsRt N r) : v * v ≤ N ↔ - r ≤ v ∧ v ≤ r := by
  obtain ⟨h0, h1, h2⟩ := h
  constructor
  · intro hv
    constructor
    · rcases lt_or_ge v (-r) with q | q
      · have : (r + 1) * (r + 1) ≤ (-v) * (-v) := Int.mul_le_mul (by omega) (by omega) (by omega) (by omega)
        rw [Int.neg_mul_neg] at this
        omega
      · exact q
    · rcases lt_or_ge r v with q | q
      · have : (r + 1) * (r + 1) ≤ v * v := Int.mul_le_mul (by omega) (by omega) (by omega) (by omega)
        omega
      · exact q
  · rintro ⟨a, b⟩
    have := Int.mul_nonneg (show 0 ≤ r - v by omega) (show 0 ≤ r + v by omega)
    have e : (r - v) * (r + v) = r * r - v * v := by grind
    omega
theorem rt_unique {N r : Int} (h : IsRt N r) : rt N = r := by
  have hN : 0 ≤ N := Int.le_trans (sq_nn r) h.2.1
  have h' := rt_is hN
  have a := (sq_le_iff h).mp h'.2.1
  have b := (sq_le_iff h').mp h.2.1
  omega
/-! ### All choices of numbers for the rows -/
def addz (y : Nat → Int) (j : Nat) (z : Int) : Nat → Int := fun c => if c = j then y c + z else y c
def zs (n : Nat) (G : Mat) (m : Int) (k : Nat) (y : Nat → Int) : List Int := zl (dt (k + 1) G) (rt (dt k G * (dt (k + 1) G * m - sp n G (k + 1) y))) (side n G k y)
def chs (n : Nat) (G : Mat) (m : Int) (k : Nat) (y0 : Nat → Int) : Nat → List (Nat → Int)
  | 0 => [y0]
  | i + 1 => (chs n G m k y0 i).flatMap fun y => (zs n G m (k - 1 - i) y).map (addz y (k - 1 - i))
theorem addz_lin (y : Nat → Int) (j : Nat) (z : Int) : addz y j z = fun c => 1 * y c + z * ur j c := by
  funext c
  unfold addz ur
  by_cases q : c = j
  · rw [if_pos q, if_pos q]; omega
  · rw [if_neg q, if_neg q]; omega
theorem side_addz {n : Nat} {G : Mat} {i j : Nat} (hj : j < n) (y : Nat → Int) (z : Int) : side n G i (addz y j z) = side n G i y + z * tp G i j := by
  rw [addz_lin, side_lin, side_ur n G i j hj, Int.one_mul]
theorem xc_addz {n : Nat} {C : Mat} {j : Nat} (hj : j < n) (y : Nat → Int) (z : Int) (c : Nat) : xc n C (addz y j z) c = xc n C y c + z * C j c := by
  rw [addz_lin, xc_lin, xc_ur n C j c hj, Int.one_mul]
theorem sp_addz {n : Nat} {G : Mat} {k j : Nat} (hj : j < k) (y : Nat → Int) (z : Int) : sp n G k (addz y j z) = sp n G k y :=
  sp_congr fun c h1 _ => by unfold addz; rw [if_neg (by omega)]
section
variable {n : Nat} {G : Mat} {m : Int} {k : Nat} {y0 : Nat → Int}
theorem mem_zs (hs : Symm n G) (hl : Lead n G) {k : Nat} (hk : k < n) {y : Nat → Int} (h : sp n G (k + 1) y ≤ dt (k + 1) G * m) {z : Int} : z ∈ zs n G m k y ↔ sp n G k (addz y k z) ≤ dt k G * m := by
  unfold zs
  have p0 : 0 < dt k G := lead_dt hl (by omega)
  have hN : 0 ≤ dt k G * (dt (k + 1) G * m - sp n G (k + 1) y) := Int.mul_nonneg (by omega) (by omega)
  rw [mem_zl (lead_dt hl (by omega)), ← sq_le_iff (rt_is hN), sp_iff hk hs hl, sp_addz (by omega), side_addz hk, tp_own]
  rw [Int.add_comm (side n G k y), Int.mul_comm z]
theorem mem_chs (hs : Symm n G) (hl : Lead n G) (hk : k ≤ n) (h0 : sp n G k y0 ≤ dt k G * m) : ∀ i, i ≤ k → ∀ y, y ∈ chs n G m k y0 i ↔ (∀ c, c < k - i ∨ k ≤ c → y c = y0 c) ∧ sp n G (k - i) y ≤ dt (k - i) G * m
  | 0, _, y => by
    rw [chs, List.mem_singleton, Nat.sub_zero]
    constructor
    · rintro rfl
      exact ⟨fun _ _ => rfl, h0⟩
    · rintro ⟨h, _⟩
      funext c
      exact h c (by omega)
  | i + 1, hi, y => by
    obtain ⟨j, hj⟩ : ∃ j, k - 1 - i = j := ⟨_, rfl⟩
    have e1 : k - i = j + 1 := by omega
    have e2 : k - (i + 1) = j := by omega
    have ih := mem_chs hs hl hk h0 i (by omega)
    rw [e1] at ih
    rw [chs, List.mem_flatMap, e2, hj]
    constructor
    · rintro ⟨y', hy', hz⟩
      obtain ⟨z, hz2, rfl⟩ := List.mem_map.mp hz
      obtain ⟨a, b⟩ := (ih y').mp hy'
      refine ⟨fun c hc => ?_, (mem_zs hs hl (by omega) b).mp hz2⟩
      unfold addz
      rw [if_neg (by omega)]
      exact a c (by omega)
    · rintro ⟨a, b⟩
      let y' : Nat → Int := fun c => if c = j then y0 c else y c
      have ey : y = addz y' j (y j - y0 j) := by
        funext c
        show y c = if c = j then (if c = j then y0 c else y c) + (y j - y0 j) else if c = j then y0 c else y c
        by_cases q : c = j
        · rw [if_pos q, if_pos q, q]; omega
        · rw [if_neg q, if_neg q]
      have sy : sp n G (j + 1) y' = sp n G (j + 1) y := sp_congr fun c h1 _ => by
        show (if c = j then y0 c else y c) = y c
        rw [if_neg (by omega)]
      have b' : sp n G (j + 1) y' ≤ dt (j + 1) G * m := by
        rw [sy]
        exact sp_le_step (by omega) hs hl b
      refine ⟨y', (ih y').mpr ⟨fun c hc => ?_, b'⟩, List.mem_map.mpr ⟨y j - y0 j, (mem_zs hs hl (by omega) b').mpr (by rw [← ey]; exact b), ey.symm⟩⟩
      show (if c = j then y0 c else y c) = y0 c
      by_cases q : c = j
      · rw [if_pos q]
      · rw [if_neg q]; exact a c (by omega)
theorem nodup_chs (hs : Symm n G) (hl : Lead n G) (hk : k ≤ n) (h0 : sp n G k y0 ≤ dt k G * m) : ∀ i, i ≤ k → (chs n G m k y0 i).Nodup
  | 0, _ => by rw [chs]; simp
  | i + 1, hi => by
    obtain ⟨j, hj⟩ : ∃ j, k - 1 - i = j := ⟨_, rfl⟩
    have e1 : k - i = j + 1 := by omega
    have ih := nodup_chs hs hl hk h0 i (by omega)
    rw [chs, hj]
    refine List.pairwise_flatMap.mpr ⟨fun y _ => ?_, ?_⟩
    · have nd : (zs n G m j y).Pairwise (· ≠ ·) := zl_nodup _ _ _
      refine List.pairwise_map.mpr (nd.imp fun {a b} (h : a ≠ b) (e : addz y j a = addz y j b) => h ?_)
      have := congrFun e j
      unfold addz at this
      rw [if_pos rfl, if_pos rfl] at this
      omega
    · have two : ∀ {l : List (Nat → Int)}, (∀ y ∈ l, y j = y0 j) → l.Nodup → l.Pairwise fun a₁ a₂ => ∀ x ∈ (zs n G m j a₁).map (addz a₁ j), ∀ y ∈ (zs n G m j a₂).map (addz a₂ j), x ≠ y := by
        intro l
        induction l with
        | nil => intro _ _; exact .nil
        | cons a l il =>
          intro h1 h2
          obtain ⟨h3, h4⟩ := List.pairwise_cons.mp h2
          refine List.pairwise_cons.mpr ⟨fun b hb x hx y hy e => ?_, il (fun y hy => h1 y (List.mem_cons_of_mem _ hy)) h4⟩
          obtain ⟨z1, _, rfl⟩ := List.mem_map.mp hx
          obtain ⟨z2, _, rfl⟩ := List.mem_map.mp hy
          refine h3 b hb ?_
          funext c
          by_cases q : c = j
          · rw [q, h1 a (List.mem_cons_self ..), h1 b (List.mem_cons_of_mem _ hb)]
          · have := congrFun e c
            unfold addz at this
            rwa [if_neg q, if_neg q] at this
      refine two (fun y hy => ?_) ih
      have := (mem_chs hs hl hk h0 i (by omega) y).mp hy
      rw [e1] at this
      exact this.1 j (by omega)
/-- how many there are -/
theorem len_chs (hk : k ≤ n) {K : Nat} (hz : ∀ j y, j < k → sp n G (j + 1) y ≤ dt (j + 1) G * m → (zs n G m j y).length ≤ K) (hs : Symm n G) (hl : Lead n G) (h0 : sp n G k y0 ≤ dt k G * m) : ∀ i, i ≤ k → (chs n G m k y0 i).length ≤ K ^ i
  | 0, _ => by rw [chs]; simp
  | i + 1, hi => by
    obtain ⟨j, hj⟩ : ∃ j, k - 1 - i = j := ⟨_, rfl⟩
    have e1 : k - i = j + 1 := by omega
    have ih := len_chs hk hz hs hl h0 i (by omega)
    rw [chs, hj]
    have two : ∀ {l : List (Nat → Int)}, (∀ y ∈ l, (zs n G m j y).length ≤ K) → (l.flatMap fun y => (zs n G m j y).map (addz y j)).length ≤ l.length * K := by
      intro l
      induction l with
      | nil => intro _; simp
      | cons a l il =>
        intro h
        rw [List.flatMap_cons, List.length_append, List.length_map, List.length_cons]
        have h1 := h a (List.mem_cons_self ..)
        have h2 := il fun y hy => h y (List.mem_cons_of_mem _ hy)
        have : (l.length + 1) * K = l.length * K + K := by rw [Nat.add_mul, Nat.one_mul]
        omega
    refine Nat.le_trans (two fun y hy => hz j y (by omega) ?_) ?_
    · have := (mem_chs hs hl hk h0 i (by omega) y).mp hy
      rw [e1] at this
      exact this.2
    · rw [Nat.pow_succ]
      exact Nat.mul_le_mul_right K ih
end
theorem zs44 {n : Nat} {G : Mat} {m : Int} (hn : n ≤ 8) (hm : 0 ≤ m) (hm2 : m ≤ 64) (hs : Symm n G) (hl : Lead n G) (hw : Slow n G) {j : Nat} (hj : j < n) {y : Nat → Int} (h : sp n G (j + 1) y ≤ dt (j + 1) G * m) : (zs n G m j y).length ≤ 44 := by
  have p0 : 0 < dt j G := lead_dt hl (by omega)
  have p1 : 0 < dt (j + 1) G := lead_dt hl (by omega)
  have hN : 0 ≤ dt j G * (dt (j + 1) G * m - sp n G (j + 1) y) := Int.mul_nonneg (by omega) (by omega)
  obtain ⟨r0, r1, r2⟩ := rt_is hN
  refine zl_len (K := 43) p1 (reach44 p0 p1 hm hm2 (sp_nn (by omega) hs hl y) r0 ?_ r1)
  have z := ratio_up p0 p1 (show j ≤ 7 by omega) (hw.ratio hl j hj)
  have e3 : (3 : Int) ^ 7 = 2187 := by decide
  have e4 : (4 : Int) ^ 7 = 16384 := by decide
  rwa [e3, e4] at z
/-! ### Choices alike -/
theorem sp_diff {n : Nat} {G : Mat} {mid : Nat} (hmid : mid ≤ n) (hs : Symm n G) (hl : Lead n G) {u v : Nat → Int} (h : ∀ i, i < mid → side n G i u = side n G i v) : ∀ d, d ≤ mid →
    dt mid G * (sp n G (mid - d) u - sp n G (mid - d) v) = dt (mid - d) G * (sp n G mid u - sp n G mid v)
  | 0, _ => rfl
  | d + 1, hd => by
    obtain ⟨k, hk⟩ : ∃ k, mid - (d + 1) = k := ⟨_, rfl⟩
    have hk1 : mid - d = k + 1 := by omega
    have ih := sp_diff hmid hs hl h d (by omega)
    rw [hk1] at ih
    rw [hk]
    have a := sp_step (k := k) (by omega) hs hl u
    have b := sp_step (k := k) (by omega) hs hl v
    rw [h k (by omega)] at a
    have p : 0 < dt (k + 1) G := lead_dt hl (by omega)
    refine mul_cancel (Int.ne_of_gt p) ?_
    generalize dt (k + 1) G = B at *
    generalize dt k G = A at *
    generalize sp n G (k + 1) u = u1 at *
    generalize sp n G (k + 1) v = v1 at *
    generalize sp n G k u = u0 at *
    generalize sp n G k v = v0 at *
    generalize dt mid G = D at *
    generalize sp n G mid u - sp n G mid v = X at *
    have e : B * (D * (u0 - v0)) = D * (B * u0 - B * v0) := by grind
    rw [e, a, b]
    grind
theorem alike_value {n : Nat} {G : Mat} {mid : Nat} (hmid : mid ≤ n) (hs : Symm n G) (hl : Lead n G) {u v : Nat → Int} (h : ∀ i, i < mid → side n G i u = side n G i v) : pr n G u u = pr n G v v + (sp n G mid u - sp n G mid v) / dt mid G := by
  have z := sp_diff hmid hs hl h mid (Nat.le_refl _)
  rw [Nat.sub_self, sp_zero, sp_zero] at z
  have e : dt 0 G = 1 := rfl
  rw [e, Int.one_mul] at z
  have p : 0 < dt mid G := lead_dt hl hmid
  rw [← z, Int.mul_ediv_cancel_left _ (Int.ne_of_gt p)]
  omega
end Fm

namespace Fm
open Ql78 (value rows form before ways firstWay)
/-! ### Lists of unknowns -/
def vec (n : Nat) (x : Nat → Int) : List Int := (List.range n).map x
theorem vec_length (n : Nat) (x : Nat → Int) : (vec n x).length = n := by unfold vec; simp
theorem vec_get {n : Nat} {x : Nat → Int} {i : Nat} (hi : i < n) : (vec n x)[i]? = some (x i) := by
  unfold vec
  rw [List.getElem?_map, List.getElem?_range hi]
  rfl
theorem vec_congr {n : Nat} {x y : Nat → Int} (h : ∀ i, i < n → x i = y i) : vec n x = vec n y :=
  List.map_congr_left fun i hi => h i (List.mem_range.mp hi)
theorem vec_inj {n : Nat} {x y : Nat → Int} (h : vec n x = vec n y) {i : Nat} (hi : i < n) : x i = y i := by
  have e := vec_get (x := x) hi
  rw [h, vec_get hi] at e
  exact (Option.some.inj e).symm
theorem vec_xv {n : Nat} {x : List Int} (h : x.length = n) : vec n (xv x) = x := by
  apply List.ext_getElem?
  intro i
  by_cases hi : i < n
  · rw [vec_get hi, List.getElem?_eq_getElem (by omega)]
    unfold xv
    rw [List.getD_eq_getElem?_getD, List.getElem?_eq_getElem (by omega)]
    rfl
  · rw [List.getElem?_eq_none (by rw [vec_length]; omega), List.getElem?_eq_none (by omega)]
theorem value_vec {n : Nat} {l : List Int} (x : Nat → Int) : value (rows n l) (vec n x) = pr n (gm n l) x x := by
  rw [value_rows (vec_length n x)]
  refine pr_congr (fun _ _ _ _ => rfl) (fun i hi => ?_) (fun i hi => ?_) <;> exact xv_map hi
def addL (x y : List Int) : List Int := List.zipWith (fun a b => a + b) x y
theorem addL_vec (n : Nat) (x y : Nat → Int) : addL (vec n x) (vec n y) = vec n fun c => x c + y c := by
  unfold addL vec
  rw [List.zipWith_map]
  rw [List.zipWith_self]
theorem before_addL : ∀ (a x y : List Int), a.length = x.length → a.length = y.length → before (addL a x) (addL a y) = before x y
  | [], [], [], _, _ => rfl
  | a :: as, x :: xs, y :: ys, h1, h2 => by
    have ih := before_addL as xs ys (by simpa using h1) (by simpa using h2)
    show before ((a + x) :: addL as xs) ((a + y) :: addL as ys) = before (x :: xs) (y :: ys)
    unfold Ql78.before
    rw [ih]
    have e1 : decide (a + x < a + y) = decide (x < y) := by congr 1; exact propext ⟨fun h => by omega, fun h => by omega⟩
    have e2 : (a + x == a + y) = (x == y) := by
      rw [Bool.eq_iff_iff, beq_iff_eq, beq_iff_eq]
      exact ⟨fun h => by omega, fun h => by omega⟩
    rw [e1, e2]
/-! ### The first of a list -/
def IsFirst (L : List (List Int)) : Option (List Int) → Prop
  | none => L = []
  | some x => x ∈ L ∧ ∀ y ∈ L, before y x = false
def erl (o : Option (List Int)) (w : List Int) : List Int := match o with
  | none => w
  | some x => if before w x = true then w else x
theorem isFirst_add {n : Nat} {L B : List (List Int)} {o : Option (List Int)} {w : List Int} (hL : ∀ x ∈ L, x.length = n) (hB : ∀ x ∈ B, x.length = n) (h1 : IsFirst L o) (h2 : IsFirst B (some w)) : IsFirst (L ++ B) (some (erl o w)) := by
  obtain ⟨w1, w2⟩ := h2
  cases o with
  | none =>
    have e : L = [] := h1
    subst e
    exact ⟨w1, w2⟩
  | some x =>
    obtain ⟨x1, x2⟩ := h1
    unfold erl
    show IsFirst (L ++ B) (some (if before w x = true then w else x))
    by_cases q : before w x = true
    · rw [if_pos q]
      refine ⟨List.mem_append_right _ w1, fun y hy => ?_⟩
      rcases List.mem_append.mp hy with hy | hy
      · exact not_before_trans (x2 y hy) q
      · exact w2 y hy
    · rw [if_neg q]
      refine ⟨List.mem_append_left _ x1, fun y hy => ?_⟩
      rcases List.mem_append.mp hy with hy | hy
      · exact x2 y hy
      · have q : before w x = false := by simpa using q
        cases e : before y x with
        | false => rfl
        | true =>
          have z1 := not_before_trans q e
          have z2 := before_total w y (by rw [hB w w1, hB y hy]) z1 (w2 y hy)
          rw [z2, e] at q
          cases q
theorem isFirst_one (w : List Int) : IsFirst [w] (some w) := ⟨List.mem_singleton.mpr rfl, fun y hy => by rw [List.mem_singleton.mp hy]; exact before_irr w⟩
theorem isFirst_shift {n : Nat} {B : List (List Int)} {w a : List Int} (hB : ∀ x ∈ B, x.length = n) (ha : a.length = n) (h : IsFirst B (some w)) : IsFirst (B.map (addL a)) (some (addL a w)) := by
  refine ⟨List.mem_map.mpr ⟨w, h.1, rfl⟩, fun y hy => ?_⟩
  obtain ⟨x, hx, rfl⟩ := List.mem_map.mp hy
  rw [before_addL a x w (by rw [ha, hB x hx]) (by rw [ha, hB w h.1])]
  exact h.2 x hx
/-! ### All ways -/
section
variable {n : Nat} {l : List Int} {C : Mat} {m : Int} {mid : Nat}
theorem xc_inj (hC : (dt n C).natAbs = 1) {u v : Nat → Int} (h : ∀ c, c < n → xc n C u c = xc n C v c) : ∀ i, i < n → u i = v i := fun i hi => by
  have z := xc_zero hC (y := fun i => 1 * u i + (-1) * v i) (fun c hc => by rw [xc_lin, h c hc]; omega) i hi
  have z : 1 * u i + (-1) * v i = 0 := z
  omega
/-- the choices for the rows from mid on -/
def later (n : Nat) (G : Mat) (m : Int) (mid : Nat) : List (Nat → Int) := chs n G m n (fun _ => 0) (n - mid)
theorem later_start {G : Mat} (hm : 0 ≤ m) (hl : Lead n G) : sp n G n (fun _ => 0) ≤ dt n G * m := by
  rw [sp_end]
  exact Int.mul_nonneg (Int.le_of_lt (lead_dt hl (Nat.le_refl n))) hm
theorem mem_later {G : Mat} (hm : 0 ≤ m) (hmid : mid ≤ n) (hs : Symm n G) (hl : Lead n G) (y : Nat → Int) : y ∈ later n G m mid ↔ (∀ c, c < mid ∨ n ≤ c → y c = 0) ∧ sp n G mid y ≤ dt mid G * m := by
  have z := mem_chs hs hl (Nat.le_refl n) (later_start hm hl) (n - mid) (by omega) y
  rw [show n - (n - mid) = mid by omega] at z
  exact z
theorem ways_list (f : Frm n (gm n l)) (b : Bas n (gm n l) C) (hm : 0 ≤ m) (hmid : mid ≤ n) {U : List (Nat → Int)} (hU : U.Perm (later n (gr n (gm n l) C) m mid)) {W : (Nat → Int) → List (Nat → Int)}
    (hW : ∀ y ∈ U, (W y).Nodup ∧ ∀ u, u ∈ W y ↔ (∀ c, mid ≤ c → u c = y c) ∧ pr n (gr n (gm n l) C) u u = m) :
    (U.flatMap fun y => (W y).map fun u => vec n (xc n C u)).Nodup ∧ ∀ x, x ∈ (U.flatMap fun y => (W y).map fun u => vec n (xc n C u)) ↔ x.length = n ∧ value (rows n l) x = m := by
  have hs := gr_symm (C := C) f.sym
  have hl := b.lead f
  have memU : ∀ y, y ∈ U ↔ (∀ c, c < mid ∨ n ≤ c → y c = 0) ∧ sp n (gr n (gm n l) C) mid y ≤ dt mid (gr n (gm n l) C) * m := fun y => by rw [hU.mem_iff, mem_later hm hmid hs hl]
  have inj : ∀ y ∈ U, ∀ y' ∈ U, ∀ u ∈ W y, ∀ u' ∈ W y', vec n (xc n C u) = vec n (xc n C u') → y = y' ∧ u = u' := fun y hy y' hy' u hu u' hu' e => by
    have a := (((hW y hy).2 u).mp hu).1
    have a' := (((hW y' hy').2 u').mp hu').1
    have b1 := ((memU y).mp hy).1
    have b1' := ((memU y').mp hy').1
    have e2 := xc_inj b.unit fun c hc => vec_inj e hc
    have eu : u = u' := by
      funext c
      by_cases hc : c < n
      · exact e2 c hc
      · rw [a c (by omega), a' c (by omega), b1 c (by omega), b1' c (by omega)]
    refine ⟨?_, eu⟩
    funext c
    by_cases hc : c < mid
    · rw [b1 c (by omega), b1' c (by omega)]
    · rw [← a c (by omega), ← a' c (by omega), eu]
  constructor
  · have ndU : U.Nodup := hU.nodup_iff.mpr (nodup_chs hs hl (Nat.le_refl n) (later_start hm hl) (n - mid) (by omega))
    refine List.pairwise_flatMap.mpr ⟨fun y hy => ?_, ?_⟩
    · refine List.pairwise_map.mpr ?_
      have nd := (hW y hy).1
      have two : ∀ {L : List (Nat → Int)}, (∀ u ∈ L, u ∈ W y) → L.Nodup → L.Pairwise fun u u' => vec n (xc n C u) ≠ vec n (xc n C u') := by
        intro L
        induction L with
        | nil => intro _ _; exact .nil
        | cons u L il =>
          intro h1 h2
          obtain ⟨h3, h4⟩ := List.pairwise_cons.mp h2
          exact List.pairwise_cons.mpr ⟨fun u' hu' e => h3 u' hu' (inj y hy y hy u (h1 u (List.mem_cons_self ..)) u' (h1 u' (List.mem_cons_of_mem _ hu')) e).2, il (fun u hu => h1 u (List.mem_cons_of_mem _ hu)) h4⟩
      exact two (fun u hu => hu) nd
    · have two : ∀ {L : List (Nat → Int)}, (∀ y ∈ L, y ∈ U) → L.Nodup → L.Pairwise fun y y' => ∀ x ∈ (W y).map (fun u => vec n (xc n C u)), ∀ x' ∈ (W y').map (fun u => vec n (xc n C u)), x ≠ x' := by
        intro L
        induction L with
        | nil => intro _ _; exact .nil
        | cons y L il =>
          intro h1 h2
          obtain ⟨h3, h4⟩ := List.pairwise_cons.mp h2
          refine List.pairwise_cons.mpr ⟨fun y' hy' x hx x' hx' e => ?_, il (fun u hu => h1 u (List.mem_cons_of_mem _ hu)) h4⟩
          obtain ⟨u, hu, rfl⟩ := List.mem_map.mp hx
          obtain ⟨u', hu', rfl⟩ := List.mem_map.mp hx'
          exact h3 y' hy' (inj y (h1 y (List.mem_cons_self ..)) y' (h1 y' (List.mem_cons_of_mem _ hy')) u hu u' hu' e).1
      exact two (fun y hy => hy) ndU
  · intro x
    rw [List.mem_flatMap]
    constructor
    · rintro ⟨y, hy, hx⟩
      obtain ⟨u, hu, rfl⟩ := List.mem_map.mp hx
      refine ⟨vec_length n _, ?_⟩
      rw [value_vec, ← pr_gr]
      exact (((hW y hy).2 u).mp hu).2
    · rintro ⟨hx, hv⟩
      obtain ⟨t, ht⟩ := coords b.unit (xv x)
      let u : Nat → Int := fun c => if c < n then t c else 0
      have eu : ∀ c, c < n → xc n C u c = xv x c := fun c hc => by
        rw [ht c hc]
        exact sm_congr n fun i hi => by
          show (if i < n then t i else 0) * C i c = t i * C i c
          rw [if_pos hi]
      have ev : vec n (xc n C u) = x := (vec_congr eu).trans (vec_xv hx)
      have pu : pr n (gr n (gm n l) C) u u = m := by
        rw [pr_gr, ← value_vec, ev, hv]
      let y : Nat → Int := fun c => if c < mid then 0 else u c
      have sy : sp n (gr n (gm n l) C) mid y = sp n (gr n (gm n l) C) mid u := sp_congr fun c h1 _ => by
        show (if c < mid then 0 else u c) = u c
        rw [if_neg (by omega)]
      have hy : y ∈ U := (memU y).mpr ⟨fun c hc => by
          show (if c < mid then 0 else if c < n then t c else 0) = 0
          by_cases q : c < mid
          · rw [if_pos q]
          · rw [if_neg q, if_neg (by omega)], by
          rw [sy]
          have z := sp_le hs hl (k := 0) (y := u) (m := m) (by rw [sp_zero, pu]; show m ≤ 1 * m; omega) mid (by omega)
          rwa [Nat.zero_add] at z⟩
      refine ⟨y, hy, List.mem_map.mpr ⟨u, ((hW y hy).2 u).mpr ⟨fun c hc => ?_, pu⟩, ev⟩⟩
      show u c = if c < mid then 0 else u c
      rw [if_neg (by omega)]
theorem ways_count (h : form n l = true) {L : List (List Int)} (hL : L.Nodup ∧ ∀ x, x ∈ L ↔ x.length = n ∧ value (rows n l) x = m) : L.length = (ways n (rows n l) m).length :=
  same_length hL.1 (ways_nodup n _ m) fun x => by rw [hL.2 x, mem_ways h]
theorem ways_first (h : form n l = true) {L : List (List Int)} (hL : L.Nodup ∧ ∀ x, x ∈ L ↔ x.length = n ∧ value (rows n l) x = m) {o : Option (List Int)} (ho : IsFirst L o) : firstWay n (rows n l) m = o := by
  cases o with
  | none =>
    have e : L = [] := ho
    refine firstWay_none h fun y hy hv => ?_
    have := (hL.2 y).mpr ⟨hy, hv⟩
    rw [e] at this
    exact nomatch this
  | some x =>
    obtain ⟨x1, x2⟩ := (hL.2 x).mp ho.1
    refine firstWay_is h x1 x2 fun y hy hv hne => ?_
    cases e : before x y with
    | true => rfl
    | false => exact absurd (before_total y x (by rw [hy, x1]) (ho.2 y ((hL.2 y).mpr ⟨hy, hv⟩)) e) hne
/-- the ways of one choice, told by those of another that is alike -/
def blk (n : Nat) (G : Mat) (m : Int) (mid : Nat) (y' s' : Nat → Int) : List (Nat → Int) := ((chs n G m mid s' mid).filter fun w => decide (pr n G w w = m - (sp n G mid y' - sp n G mid s') / dt mid G)).map fun w => fun c => y' c + (w c - s' c)
theorem blk_ok {G : Mat} {y y' s' : Nat → Int} (hmid : mid ≤ n) (hs : Symm n G) (hl : Lead n G) (hy : ∀ c, mid ≤ c → y' c = y c) (hd : ∀ i, i < mid → side n G i y' = side n G i s') (hle : sp n G mid s' ≤ sp n G mid y') (h0 : sp n G mid s' ≤ dt mid G * m) :
    (blk n G m mid y' s').Nodup ∧ ∀ u, u ∈ blk n G m mid y' s' ↔ (∀ c, mid ≤ c → u c = y c) ∧ pr n G u u = m := by
  have mem := mem_chs hs hl hmid h0 mid (Nat.le_refl _)
  rw [Nat.sub_self] at mem
  have val : ∀ w : Nat → Int, (∀ c, mid ≤ c → w c = s' c) → pr n G (fun c => y' c + (w c - s' c)) (fun c => y' c + (w c - s' c)) = pr n G w w + (sp n G mid y' - sp n G mid s') / dt mid G := fun w hw => by
    have e1 : ∀ i, i < mid → side n G i (fun c => y' c + (w c - s' c)) = side n G i w := fun i hi => by
      have z1 := side_lin n G i 1 1 y' (fun c => 1 * w c + (-1) * s' c)
      have z2 := side_lin n G i 1 (-1) w s'
      have z3 : side n G i (fun c => y' c + (w c - s' c)) = side n G i (fun c => 1 * y' c + 1 * (1 * w c + (-1) * s' c)) := side_congr fun c _ _ => by omega
      rw [z3, z1, z2, hd i hi]
      omega
    have z := alike_value hmid hs hl e1
    rw [z, sp_congr (k := mid) (y := fun c => y' c + (w c - s' c)) (z := y') (fun c h1 _ => by rw [hw c h1]; omega), sp_congr (k := mid) (y := w) (z := s') (fun c h1 _ => hw c h1)]
  constructor
  · unfold blk
    have nd : (chs n G m mid s' mid).Pairwise (· ≠ ·) := nodup_chs hs hl hmid h0 mid (Nat.le_refl _)
    refine List.pairwise_map.mpr ((nd.filter _).imp fun {a b} (h : a ≠ b) (e : (fun c => y' c + (a c - s' c)) = fun c => y' c + (b c - s' c)) => h ?_)
    funext c
    have := congrFun e c
    omega
  · intro u
    unfold blk
    rw [List.mem_map]
    constructor
    · rintro ⟨w, hw, rfl⟩
      obtain ⟨h1, h2⟩ := List.mem_filter.mp hw
      have h2 := of_decide_eq_true h2
      have h3 := ((mem w).mp h1).1
      refine ⟨fun c hc => ?_, ?_⟩
      · show y' c + (w c - s' c) = y c
        rw [h3 c (by omega), hy c hc]; omega
      · rw [val w fun c hc => h3 c (by omega), h2]; omega
    · rintro ⟨h1, h2⟩
      have e : u = fun c => y' c + ((fun c => u c - y' c + s' c) c - s' c) := by funext c; show u c = y' c + (u c - y' c + s' c - s' c); omega
      have hw : ∀ c, mid ≤ c → (fun c => u c - y' c + s' c) c = s' c := fun c hc => by
        show u c - y' c + s' c = s' c
        rw [h1 c hc, hy c hc]; omega
      have v := val _ hw
      rw [← e, h2] at v
      refine ⟨fun c => u c - y' c + s' c, List.mem_filter.mpr ⟨(mem _).mpr ⟨fun c hc => hw c (by omega), ?_⟩, decide_eq_true (by omega)⟩, e.symm⟩
      rw [sp_zero]
      have p : 0 < dt mid G := lead_dt hl hmid
      have q : 0 ≤ (sp n G mid y' - sp n G mid s') / dt mid G := Int.ediv_nonneg (by omega) (by omega)
      show _ ≤ 1 * m
      omega
end
end Fm

namespace Fm
/-! ### The reduction's word -/
theorem dv_side {n : Nat} {G : Mat} (hs : Symm n G) {k : Nat} (hk : k < n) (y : Nat → Int) : dv n G k (ur k) y = side n G k y := by
  obtain ⟨d, rfl⟩ : ∃ d, n = k + d := ⟨n - k, by omega⟩
  rw [dv_symm hs, dv_expand, sm_from k (fun j hj => by rw [dv_low _ G k j _ hj, Int.mul_zero]) d, side_eq (by omega), Nat.add_sub_cancel_left]
  refine sm_congr d fun j hj => ?_
  rw [dv_symm hs, Int.mul_comm]
  have z := dv_bm G k 0 j (show k + 0 < k + d by omega) (show k + j < k + d by omega)
  rw [Nat.add_zero] at z
  rw [z]
/-- a column of the elimination leans on its row and those ahead of it alone -/
theorem tp_congr {n : Nat} {M C C' : Mat} {i j : Nat} (hj : j < n) (hij : i ≤ j) (h : ∀ r c, r ≤ j → c < n → C r c = C' r c) : tp (gr n M C) i j = tp (gr n M C') i j := by
  unfold tp
  rw [if_neg (by omega), if_neg (by omega)]
  unfold bm
  refine dt_congr _ fun r c hr hc => ?_
  unfold bd
  refine pr_congr (fun _ _ _ _ => rfl) (fun z hz => h _ z ?_ hz) (fun z hz => h _ z ?_ hz)
  · split <;> omega
  · split <;> omega
theorem made_tp {n : Nat} {M C C' : Mat} {at' : Nat} {y : Nat → Int} (hs : Symm n M) (m : Made n C at' y C') (hat : at' < n) {i : Nat} (hi : i < at') : tp (gr n M C') i at' = side n (gr n M C) i y := by
  rw [← dv_side (gr_symm hs) (by omega)]
  unfold tp bm dv
  rw [if_neg (by omega)]
  refine dt_congr _ fun r c hr hc => ?_
  unfold bd
  rw [pr_gr]
  refine pr_congr (fun _ _ _ _ => rfl) (fun z hz => ?_) (fun z hz => ?_)
  · by_cases q : r < i
    · rw [if_pos q, if_pos q, xc_ur n C r z (by omega)]
      exact m.oth r z (by omega) hz (by omega)
    · rw [if_neg q, if_neg q, xc_ur n C i z (by omega)]
      exact m.oth i z (by omega) hz (by omega)
  · by_cases q : c < i
    · rw [if_pos q, if_pos q, xc_ur n C c z (by omega)]
      exact m.oth c z (by omega) hz (by omega)
    · rw [if_neg q, if_neg q, show i + (at' - i) = at' by omega]
      exact m.own z hz
structure Lll (n : Nat) (M C : Mat) (a : Nat) : Prop where
  bas : Bas n M C
  slow : ∀ i, i + 1 < a → 3 * (dt (i + 1) (gr n M C) * dt (i + 1) (gr n M C)) ≤ 4 * (dt i (gr n M C) * dt (i + 2) (gr n M C))
  half : ∀ i j, i < j → j < a → - dt (i + 1) (gr n M C) ≤ 2 * tp (gr n M C) i j ∧ 2 * tp (gr n M C) i j ≤ dt (i + 1) (gr n M C)
theorem Lll.start {n : Nat} {M C : Mat} (f : Frm n M) (h : ∀ i c, i < n → c < n → C i c = one i c) : Lll n M C 1 :=
  ⟨Bas.start f h, fun i hi => by omega, fun i j hi hj => by omega⟩
/-- how much is left to do -/
def todo (n : Nat) (M C : Mat) (a : Nat) : Nat := 2 * (sm (n + 1) fun k => dt k (gr n M C)).toNat + (n - a)
theorem sm_lt {f g : Nat → Int} {n i : Nat} (hi : i < n) (h : ∀ k, k < n → k ≠ i → f k = g k) (hl : f i < g i) : sm n f < sm n g := by
  induction n with
  | zero => omega
  | succ n ih =>
    rw [sm, sm]
    by_cases q : i = n
    · subst q
      rw [sm_congr i fun k hk => h k (by omega) (by omega)]
      omega
    · have := ih (by omega) fun k hk hne => h k (by omega) hne
      have := h n (by omega) (by omega)
      omega
theorem Lll.stay {n : Nat} {M C C1 : Mat} {a : Nat} {y : Nat → Int} (f : Frm n M) (l : Lll n M C (a + 1)) (ha : a + 1 < n) (h : Settled n (gr n M C) (a + 1) y) (m : Made n C (a + 1) y C1)
    (less : ¬ side n (gr n M C) a y * side n (gr n M C) a y + dt a (gr n M C) * dt (a + 2) (gr n M C) < dt (a + 1) (gr n M C) * dt (a + 1) (gr n M C)) :
    Lll n M C1 (a + 2) ∧ todo n M C1 (a + 2) < todo n M C (a + 1) := by
  have same : ∀ k, k ≤ n → dt k (gr n M C1) = dt k (gr n M C) := fun k hk => m.lead ha h.own hk
  refine ⟨⟨l.bas.made f ha h m, fun i hi => ?_, fun i j hij hj => ?_⟩, ?_⟩
  · rw [same (i + 1) (by omega), same i (by omega), same (i + 2) (by omega)]
    by_cases q : i = a
    · subst q
      have hh := h.half i (by omega)
      exact not_swap hh.1 hh.2 less
    · exact l.slow i (by omega)
  · rw [same (i + 1) (by omega)]
    by_cases q : j = a + 1
    · subst q
      rw [made_tp f.sym m ha hij]
      exact h.half i hij
    · rw [tp_congr (C' := C) (by omega) (by omega) fun r c hr hc => m.oth r c (by omega) hc (by omega)]
      exact l.half i j hij (by omega)
  · unfold todo
    rw [sm_congr (n + 1) fun k hk => same k (by omega)]
    omega
theorem Lll.back {n : Nat} {M C C1 C2 : Mat} {a : Nat} {y : Nat → Int} (f : Frm n M) (l : Lll n M C (a + 1)) (ha : a + 1 < n) (h : Settled n (gr n M C) (a + 1) y) (m : Made n C (a + 1) y C1) (s : Swapped n C1 a C2)
    (less : side n (gr n M C) a y * side n (gr n M C) a y + dt a (gr n M C) * dt (a + 2) (gr n M C) < dt (a + 1) (gr n M C) * dt (a + 1) (gr n M C)) :
    Lll n M C2 (max a 1) ∧ todo n M C2 (max a 1) < todo n M C (a + 1) := by
  obtain ⟨b2, same, lt⟩ := l.bas.swap f ha h m s less
  refine ⟨⟨b2, fun i hi => ?_, fun i j hij hj => ?_⟩, ?_⟩
  · rw [same (i + 1) (by omega) (by omega), same i (by omega) (by omega), same (i + 2) (by omega) (by omega)]
    exact l.slow i (by omega)
  · rw [same (i + 1) (by omega) (by omega), tp_congr (C' := C) (by omega) (by omega) fun r c hr hc => (s.oth r c (by omega) hc (by omega) (by omega)).trans (m.oth r c (by omega) hc (by omega))]
    exact l.half i j hij (by omega)
  · unfold todo
    have nn : 0 ≤ sm (n + 1) fun k => dt k (gr n M C2) := sm_nn (n + 1) fun k hk => Int.le_of_lt (lead_dt (b2.lead f) (by omega))
    have less := sm_lt (f := fun k => dt k (gr n M C2)) (g := fun k => dt k (gr n M C)) (n := n + 1) (i := a + 1) (by omega) (fun k hk hne => same k (by omega) hne) lt
    omega
theorem Lll.slowAll {n : Nat} {M C : Mat} (l : Lll n M C n) : Slow n (gr n M C) := fun i hi => l.slow i hi
/-! ### The sides stay small -/
def Halves (n : Nat) (G : Mat) : Prop := ∀ i j, i < j → j < n → - dt (i + 1) G ≤ 2 * tp G i j ∧ 2 * tp G i j ≤ dt (i + 1) G
theorem abs_mul_le {z t d : Int} {B : Nat} (hz : z.natAbs ≤ B) (h1 : - d ≤ 2 * t) (h2 : 2 * t ≤ d) : - (d * (B : Int)) ≤ 2 * (z * t) ∧ 2 * (z * t) ≤ d * (B : Int) := by
  have hd : 0 ≤ d := by omega
  have e : 2 * (z * t) = z * (2 * t) := by grind
  rw [e]
  have hB : -(B : Int) ≤ z ∧ z ≤ (B : Int) := by omega
  generalize 2 * t = u at *
  generalize (B : Int) = b at *
  have b0 : 0 ≤ b := by omega
  have i1 := Int.mul_nonneg (show 0 ≤ b - z by omega) (show 0 ≤ d + u by omega)
  have i2 := Int.mul_nonneg (show 0 ≤ b + z by omega) (show 0 ≤ d - u by omega)
  have i3 := Int.mul_nonneg (show 0 ≤ b - z by omega) (show 0 ≤ d - u by omega)
  have i4 := Int.mul_nonneg (show 0 ≤ b + z by omega) (show 0 ≤ d + u by omega)
  have e1 : (b - z) * (d + u) = b * d + b * u - z * d - z * u := by grind
  have e2 : (b + z) * (d - u) = b * d - b * u + z * d - z * u := by grind
  have e3 : (b - z) * (d - u) = b * d - b * u - z * d + z * u := by grind
  have e4 : (b + z) * (d + u) = b * d + b * u + z * d + z * u := by grind
  have e5 : d * b = b * d := Int.mul_comm _ _
  omega
theorem rt_lt22 {n : Nat} {G : Mat} {m : Int} (hn : n ≤ 8) (hm : 0 ≤ m) (hm2 : m ≤ 64) (hs : Symm n G) (hl : Lead n G) (hw : Slow n G) {j : Nat} (hj : j < n) {y : Nat → Int} (h : sp n G (j + 1) y ≤ dt (j + 1) G * m) :
    0 ≤ rt (dt j G * (dt (j + 1) G * m - sp n G (j + 1) y)) ∧ rt (dt j G * (dt (j + 1) G * m - sp n G (j + 1) y)) < 22 * dt (j + 1) G := by
  have p0 : 0 < dt j G := lead_dt hl (by omega)
  have p1 : 0 < dt (j + 1) G := lead_dt hl (by omega)
  have hN : 0 ≤ dt j G * (dt (j + 1) G * m - sp n G (j + 1) y) := Int.mul_nonneg (by omega) (by omega)
  obtain ⟨r0, r1, r2⟩ := rt_is hN
  have z := ratio_up p0 p1 (show j ≤ 7 by omega) (hw.ratio hl j hj)
  have e3 : (3 : Int) ^ 7 = 2187 := by decide
  have e4 : (4 : Int) ^ 7 = 16384 := by decide
  rw [e3, e4] at z
  have := reach44 p0 p1 hm hm2 (sp_nn (by omega) hs hl y) r0 z r1
  exact ⟨r0, by omega⟩
theorem side_chs {n : Nat} {G : Mat} {m : Int} {k : Nat} {y0 : Nat → Int} (hn : n ≤ 8) (hm : 0 ≤ m) (hm2 : m ≤ 64) (hs : Symm n G) (hl : Lead n G) (hw : Slow n G) (hh : Halves n G) (hk : k ≤ n) (h0 : sp n G k y0 ≤ dt k G * m)
    (hy : ∀ c, c < k → - dt (c + 1) G ≤ 2 * side n G c y0 ∧ 2 * side n G c y0 ≤ dt (c + 1) G) : ∀ i, i ≤ k → ∀ y, y ∈ chs n G m k y0 i → ∀ c, c < k - i → - (dt (c + 1) G * (46 * 2 ^ i : Nat)) ≤ 2 * side n G c y ∧ 2 * side n G c y ≤ dt (c + 1) G * (46 * 2 ^ i : Nat)
  | 0, _, y, h, c, hc => by
    rw [chs, List.mem_singleton] at h
    subst h
    have p : 0 < dt (c + 1) G := lead_dt hl (by omega)
    have := hy c (by omega)
    have e : dt (c + 1) G * ((46 * 2 ^ 0 : Nat) : Int) = 46 * dt (c + 1) G := by
      rw [Int.mul_comm]
      rfl
    rw [e]
    omega
  | i + 1, hi, y, h, c, hc => by
    obtain ⟨j, hj⟩ : ∃ j, k - 1 - i = j := ⟨_, rfl⟩
    have e1 : k - i = j + 1 := by omega
    have ih := side_chs hn hm hm2 hs hl hw hh hk h0 hy i (by omega)
    have mem := mem_chs hs hl hk h0 i (by omega)
    rw [e1] at ih mem
    rw [chs, List.mem_flatMap, hj] at h
    obtain ⟨y', hy', hz⟩ := h
    obtain ⟨z, hz2, rfl⟩ := List.mem_map.mp hz
    have sp1 := ((mem y').mp hy').2
    obtain ⟨r0, r1⟩ := rt_lt22 hn hm hm2 hs hl hw (show j < n by omega) sp1
    have p1 : 0 < dt (j + 1) G := lead_dt hl (by omega)
    unfold zs at hz2
    have hz := (mem_zl p1).mp hz2
    have sj := ih y' hy' j (by omega)
    have sc := ih y' hy' c (by omega)
    have hzB : z.natAbs ≤ 45 * 2 ^ i := by
      have pw : 1 ≤ 2 ^ i := Nat.one_le_two_pow
      generalize 2 ^ i = w at *
      generalize dt (j + 1) G = D at *
      generalize side n G j y' = s at *
      generalize rt _ = r at *
      have e46 : D * ((46 * w : Nat) : Int) = 2 * (D * ((23 * w : Nat) : Int)) := by
        have : ((46 * w : Nat) : Int) = 2 * ((23 * w : Nat) : Int) := by omega
        rw [this]
        grind
      rw [e46] at sj
      have u1 : D * z < D * (22 + (23 * w : Nat) : Int) := by
        have : D * (22 + (23 * w : Nat) : Int) = 22 * D + D * ((23 * w : Nat) : Int) := by grind
        omega
      have u2 : D * (-(22 + (23 * w : Nat)) : Int) < D * z := by
        have : D * (-(22 + (23 * w : Nat)) : Int) = -(22 * D + D * ((23 * w : Nat) : Int)) := by grind
        omega
      have v1 := Int.lt_of_mul_lt_mul_left u1 (by omega)
      have v2 := Int.lt_of_mul_lt_mul_left u2 (by omega)
      omega
    rw [side_addz (by omega)]
    have hcj := hh c j (by omega) (by omega)
    have t := abs_mul_le hzB hcj.1 hcj.2
    have pc : 0 < dt (c + 1) G := lead_dt hl (by omega)
    generalize dt (c + 1) G = D at *
    have e : D * ((46 * 2 ^ (i + 1) : Nat) : Int) = D * ((46 * 2 ^ i : Nat) : Int) + D * ((46 * 2 ^ i : Nat) : Int) := by
      have : ((46 * 2 ^ (i + 1) : Nat) : Int) = ((46 * 2 ^ i : Nat) : Int) + ((46 * 2 ^ i : Nat) : Int) := by rw [Nat.pow_succ]; omega
      rw [this, Int.mul_add]
    have le : D * ((45 * 2 ^ i : Nat) : Int) ≤ D * ((46 * 2 ^ i : Nat) : Int) := Int.mul_le_mul_of_nonneg_left (by omega) (by omega)
    rw [e]
    omega
theorem side_small {d s : Int} {i : Nat} (hd : 0 < d) (hd2 : d ≤ 2 ^ 40) (hi : i ≤ 8) (h1 : - (d * (46 * 2 ^ i : Nat)) ≤ 2 * s) (h2 : 2 * s ≤ d * (46 * 2 ^ i : Nat)) : s.natAbs < 2 ^ 56 := by
  have w : 46 * 2 ^ i ≤ 46 * 2 ^ 8 := Nat.mul_le_mul_left _ (Nat.pow_le_pow_right (by decide) hi)
  have e : d * ((46 * 2 ^ i : Nat) : Int) ≤ 2 ^ 40 * (46 * 2 ^ 8) := Int.mul_le_mul hd2 (by omega) (by omega) (by decide)
  have : (2 : Int) ^ 40 * (46 * 2 ^ 8) < 2 ^ 56 := by decide
  omega
end Fm

namespace Fm
/-! ### What the program keeps: columns, marks, choices -/
/-- a column's numbers: its row, then what the elimination leaves -/
def ck (n : Nat) (C G : Mat) (j : Nat) : Nat → Int := fun i => if i < n then C j i else tp G (i - n) j
def colL (n : Nat) (C G : Mat) (j : Nat) : List Int := vec (n + j + 1) (ck n C G j)
def colsL (n : Nat) (C G : Mat) (k : Nat) : List (List Int) := (List.range k).map (colL n C G)
/-- marks: the unknowns (with w beside), then the sides -/
def mk (n : Nat) (C G : Mat) (w y : Nat → Int) : Nat → Int := fun i => if i < n then w i + xc n C y i else side n G (i - n) y
def chL (n : Nat) (C G : Mat) (k : Nat) (w y : Nat → Int) : Int × List Int := (sp n G k y, vec (n + k) (mk n C G w y))
theorem mk_addz {n : Nat} {C G : Mat} {w y : Nat → Int} {j : Nat} (hj : j < n) (z : Int) (i : Nat) : mk n C G w (addz y j z) i = mk n C G w y i + z * ck n C G j i := by
  unfold mk ck
  by_cases h : i < n
  · rw [if_pos h, if_pos h, if_pos h, xc_addz hj]
    omega
  · rw [if_neg h, if_neg h, if_neg h, side_addz hj]
theorem ck_corner (n : Nat) (C G : Mat) (j : Nat) : ck n C G j (n + j) = dt (j + 1) G := by
  unfold ck
  rw [if_neg (by omega), Nat.add_sub_cancel_left, tp_own]
theorem mk_side (n : Nat) (C G : Mat) (w y : Nat → Int) (i : Nat) : mk n C G w y (n + i) = side n G i y := by
  unfold mk
  rw [if_neg (by omega), Nat.add_sub_cancel_left]
theorem mk_low {n : Nat} {C G : Mat} {w y : Nat → Int} {i : Nat} (h : i < n) : mk n C G w y i = w i + xc n C y i := by
  unfold mk
  rw [if_pos h]
theorem mk_ur {n : Nat} {C G : Mat} {j : Nat} (hj : j < n) (i : Nat) : mk n C G (fun _ => 0) (ur j) i = ck n C G j i := by
  unfold mk ck
  by_cases h : i < n
  · rw [if_pos h, if_pos h, xc_ur n C j i hj, Int.zero_add]
  · rw [if_neg h, if_neg h, side_ur n G _ j hj]
theorem mk_zero (n : Nat) (C G : Mat) (i : Nat) : mk n C G (fun _ => 0) (fun _ => 0) i = 0 := by
  unfold mk
  by_cases h : i < n
  · rw [if_pos h, Int.zero_add]
    unfold xc
    exact sm_zero n fun j _ => Int.zero_mul _
  · rw [if_neg h]
    unfold side
    exact sm_zero n fun j _ => Int.mul_zero _
theorem sp_next {n : Nat} {G : Mat} {k : Nat} (hk : k < n) (hs : Symm n G) (hl : Lead n G) (y : Nat → Int) (z : Int) :
    ((dt (k + 1) G * z + side n G k y) * (dt (k + 1) G * z + side n G k y) + dt k G * sp n G (k + 1) y) / dt (k + 1) G = sp n G k (addz y k z) := by
  have st := sp_step hk hs hl (addz y k z)
  rw [side_addz hk, tp_own, sp_addz (k := k + 1) (Nat.lt_succ_self k)] at st
  have e : side n G k y + z * dt (k + 1) G = dt (k + 1) G * z + side n G k y := by rw [Int.mul_comm]; omega
  rw [e] at st
  rw [← st, Int.mul_ediv_cancel_left _ (Int.ne_of_gt (lead_dt hl (by omega)))]
/-- settled, from row number k - 1 down -/
def stl (n : Nat) (G : Mat) : Nat → (Nat → Int) → (Nat → Int)
  | 0, y => y
  | j + 1, y => stl n G j (addz y j (-((2 * side n G j y + dt (j + 1) G) / (2 * dt (j + 1) G))))
theorem stl_up (n : Nat) (G : Mat) : ∀ (k : Nat) (y : Nat → Int) (c : Nat), k ≤ c → stl n G k y c = y c
  | 0, _, _, _ => rfl
  | j + 1, y, c, h => by
    rw [stl, stl_up n G j _ c (by omega)]
    unfold addz
    rw [if_neg (by omega)]
theorem side_low {n : Nat} {G : Mat} {i : Nat} {y y' : Nat → Int} (h : ∀ c, i ≤ c → y c = y' c) : side n G i y = side n G i y' := side_congr fun c h1 _ => h c h1
theorem half_div {s d : Int} (hd : 0 < d) : - d ≤ 2 * (s + -((2 * s + d) / (2 * d)) * d) ∧ 2 * (s + -((2 * s + d) / (2 * d)) * d) ≤ d := by
  have h1 := Int.emod_nonneg (2 * s + d) (show 2 * d ≠ 0 by omega)
  have h2 := Int.emod_lt_of_pos (2 * s + d) (show 0 < 2 * d by omega)
  have h3 := Int.mul_ediv_add_emod (2 * s + d) (2 * d)
  generalize (2 * s + d) / (2 * d) = t at *
  generalize (2 * s + d) % (2 * d) = r at *
  have e : 2 * d * t = 2 * (t * d) := by grind
  have e2 : -t * d = -(t * d) := Int.neg_mul _ _
  rw [e2]
  omega
theorem stl_half {n : Nat} {G : Mat} (hl : Lead n G) : ∀ (k : Nat) (y : Nat → Int), k ≤ n → ∀ i, i < k → - dt (i + 1) G ≤ 2 * side n G i (stl n G k y) ∧ 2 * side n G i (stl n G k y) ≤ dt (i + 1) G
  | 0, _, _, i, hi => by omega
  | j + 1, y, hk, i, hi => by
    rw [stl]
    by_cases q : i < j
    · exact stl_half hl j _ (by omega) i q
    · have e : i = j := by omega
      subst e
      rw [side_low (y' := addz y i (-((2 * side n G i y + dt (i + 1) G) / (2 * dt (i + 1) G)))) fun c hc => stl_up n G i _ c hc, side_addz (by omega), tp_own]
      exact half_div (lead_dt hl (by omega))
/-- a lattice that is reduced -/
structure Latt (n : Nat) (M C : Mat) : Prop where
  frm : Frm n M
  lll : Lll n M C n
theorem Latt.sym {n : Nat} {M C : Mat} (t : Latt n M C) : Symm n (gr n M C) := gr_symm t.frm.sym
theorem Latt.lead {n : Nat} {M C : Mat} (t : Latt n M C) : Lead n (gr n M C) := t.lll.bas.lead t.frm
theorem Latt.slow {n : Nat} {M C : Mat} (t : Latt n M C) : Slow n (gr n M C) := t.lll.slowAll
theorem Latt.half {n : Nat} {M C : Mat} (t : Latt n M C) : Halves n (gr n M C) := fun i j h1 h2 => t.lll.half i j h1 h2
theorem Latt.dt_small {n : Nat} {M C : Mat} (t : Latt n M C) {k : Nat} (hk : k ≤ n) : 0 < dt k (gr n M C) ∧ dt k (gr n M C) ≤ 2 ^ 40 := t.lll.bas.dt_small t.frm hk
theorem Bas.ck_small {n : Nat} {M C : Mat} (f : Frm n M) (b : Bas n M C) {j : Nat} (hj : j < n) {i : Nat} (hi : i < n + j + 1) : (ck n C (gr n M C) j i).natAbs < 2 ^ 56 := by
  unfold ck
  by_cases h : i < n
  · rw [if_pos h]
    exact Nat.lt_of_lt_of_le (b.row_small f hj h) (by decide)
  · rw [if_neg h]
    exact Nat.lt_of_lt_of_le (b.tp_small f (show i - n < n by omega) hj) (by decide)
/-- the number under the root stays small -/
theorem reach_small {n : Nat} {M C : Mat} (t : Latt n M C) {m : Int} (hm : 0 ≤ m) (hm2 : m ≤ 64) {k : Nat} (hk : k < n) {y : Nat → Int} (h : sp n (gr n M C) (k + 1) y ≤ dt (k + 1) (gr n M C) * m) :
    0 ≤ dt k (gr n M C) * (dt (k + 1) (gr n M C) * m - sp n (gr n M C) (k + 1) y) ∧ dt k (gr n M C) * (dt (k + 1) (gr n M C) * m - sp n (gr n M C) (k + 1) y) < 2 ^ 100 := by
  have d0 := t.dt_small (show k ≤ n by omega)
  have d1 := t.dt_small (show k + 1 ≤ n by omega)
  have nn := sp_nn (show k + 1 ≤ n by omega) t.sym t.lead y
  refine ⟨Int.mul_nonneg (by omega) (by omega), ?_⟩
  generalize sp n (gr n M C) (k + 1) y = S at *
  generalize dt (k + 1) (gr n M C) = B at *
  generalize dt k (gr n M C) = A at *
  have i1 : B * m ≤ 2 ^ 40 * 64 := Int.mul_le_mul d1.2 hm2 hm (by decide)
  have i2 : A * (B * m - S) ≤ 2 ^ 40 * (2 ^ 40 * 64) := Int.mul_le_mul d0.2 (by omega) (by omega) (by decide)
  have : (2 : Int) ^ 40 * (2 ^ 40 * 64) < 2 ^ 100 := by decide
  omega
end Fm

namespace Fm
open Ql78 (value rows form before ways firstWay)
/-! ### The ways, group by group -/
theorem ways_pairs {n : Nat} {l : List Int} {C : Mat} {m : Int} {mid : Nat} (f : Frm n (gm n l)) (b : Bas n (gm n l) C) (hm : 0 ≤ m) (hmid : mid ≤ n) {U : List ((Nat → Int) × List (Nat → Int))} (hU : (U.map (·.1)).Perm (later n (gr n (gm n l) C) m mid))
    (hW : ∀ p ∈ U, p.2.Nodup ∧ ∀ u, u ∈ p.2 ↔ (∀ c, mid ≤ c → u c = p.1 c) ∧ pr n (gr n (gm n l) C) u u = m) :
    (U.flatMap fun p => p.2.map fun u => vec n (xc n C u)).Nodup ∧ ∀ x, x ∈ (U.flatMap fun p => p.2.map fun u => vec n (xc n C u)) ↔ x.length = n ∧ value (rows n l) x = m := by
  have hs := gr_symm (C := C) f.sym
  have hl := b.lead f
  have nd : (U.map (·.1)).Nodup := hU.nodup_iff.mpr (nodup_chs hs hl (Nat.le_refl n) (later_start hm hl) (n - mid) (by omega))
  have ex : ∀ {V : List ((Nat → Int) × List (Nat → Int))}, (V.map (·.1)).Nodup → ∃ W : (Nat → Int) → List (Nat → Int), ∀ p ∈ V, W p.1 = p.2 := by
    intro V
    induction V with
    | nil => intro _; exact ⟨fun _ => [], fun p hp => nomatch hp⟩
    | cons q V ih =>
      intro h
      obtain ⟨h1, h2⟩ := List.nodup_cons.mp (show (q.1 :: V.map (·.1)).Nodup from h)
      obtain ⟨W, hW⟩ := ih h2
      classical
      refine ⟨fun y => if y = q.1 then q.2 else W y, fun p hp => ?_⟩
      rcases List.mem_cons.mp hp with e | hp
      · rw [e]; exact if_pos rfl
      · have ne : p.1 ≠ q.1 := fun e => h1 (by rw [← e]; exact List.mem_map.mpr ⟨p, hp, rfl⟩)
        show (if p.1 = q.1 then q.2 else W p.1) = p.2
        rw [if_neg ne]
        exact hW p hp
  obtain ⟨W, hWp⟩ := ex nd
  have e : (U.flatMap fun p => p.2.map fun u => vec n (xc n C u)) = (U.map (·.1)).flatMap fun y => (W y).map fun u => vec n (xc n C u) := by
    rw [List.flatMap_map, List.flatMap_def, List.flatMap_def]
    congr 1
    refine List.map_congr_left fun p hp => ?_
    rw [hWp p hp]
  rw [e]
  refine ways_list f b hm hmid hU fun y hy => ?_
  obtain ⟨p, hp, rfl⟩ := List.mem_map.mp hy
  rw [hWp p hp]
  exact hW p hp
theorem sp_stl (n : Nat) (G : Mat) (k : Nat) (y : Nat → Int) : sp n G k (stl n G k y) = sp n G k y := sp_congr fun c h1 _ => stl_up n G k y c h1
/-- a block's unknowns, as sums -/
theorem blk_vec {n : Nat} {C G : Mat} {m : Int} {mid : Nat} {y' s' : Nat → Int} : (blk n G m mid y' s').map (fun u => vec n (xc n C u)) =
    (((chs n G m mid s' mid).filter fun w => decide (sp n G 0 w = m - (sp n G mid y' - sp n G mid s') / dt mid G)).map fun w => vec n (mk n C G (fun c => - xc n C s' c) w)).map (addL (vec n (xc n C y'))) := by
  unfold blk
  rw [List.map_map, List.map_map]
  have e : (fun w => decide (pr n G w w = m - (sp n G mid y' - sp n G mid s') / dt mid G)) = fun w => decide (sp n G 0 w = m - (sp n G mid y' - sp n G mid s') / dt mid G) := by
    funext w
    rw [sp_zero]
  rw [e]
  refine List.map_congr_left fun w _ => ?_
  show vec n (xc n C fun c => y' c + (w c - s' c)) = addL (vec n (xc n C y')) (vec n (mk n C G (fun c => - xc n C s' c) w))
  rw [addL_vec]
  refine vec_congr fun c hc => ?_
  rw [mk_low hc]
  have z1 := xc_lin n C 1 1 y' (fun c => 1 * w c + (-1) * s' c) c
  have z2 := xc_lin n C 1 (-1) w s' c
  have z3 : xc n C (fun c => y' c + (w c - s' c)) c = xc n C (fun c => 1 * y' c + 1 * (1 * w c + (-1) * s' c)) c := xc_congr (fun i _ => by omega) c
  rw [z3, z1, z2]
  omega
theorem filter_snoc {α : Type} {p : α → Bool} {l : List α} {x : α} : (l ++ [x]).filter p = l.filter p ++ (if p x = true then [x] else []) := by
  rw [List.filter_append]
  congr 1
  by_cases h : p x = true
  · rw [if_pos h, List.filter_cons, if_pos h]; rfl
  · rw [if_neg h, List.filter_cons, if_neg h]; rfl
end Fm

/-! ### Words over the layer -/
namespace Pr
open PySem PySem.Spec PyProof.Rows L2
section
variable {X : Cx}
/-- // by a positive divisor below 2^64 -/
def CDivB (i j : Int) : Prop := 0 < j ∧ j < 2 ^ 64
theorem log_small {j : Int} (h1 : 0 < j) (h2 : j < 2 ^ 64) : j.natAbs.log2 < 9000 := by
  refine Nat.lt_of_lt_of_le ((Nat.log2_lt (by omega)).mpr (show j.natAbs < 2 ^ 64 by omega)) (by decide)
theorem op_fdivB : OpR X (binaryOp .FloorDiv) (rI CDivB fun i j => .int (i / j)) := opI fun i j _ _ _ _ _ hc q => by
  have h1 : (0 : Int) < j := hc.1
  have h2 : j < 2 ^ 64 := hc.2
  exact floordiv_int (by omega) (by rw [Int.fdiv_eq_ediv_of_nonneg i (by omega)]; exact q) (.inl (PyProof.noPylong_of_log2 (log_small h1 h2)))
end
theorem getV {ns : List Int} {k : Nat} (h : k < ns.length) : (ns.map V.int)[k]? = some (V.int (ns.getD k 0)) := by
  rw [List.getElem?_map, List.getD_eq_getElem?_getD, List.getElem?_eq_getElem h]
  rfl
theorem mem_ix {α : Type} {l : List α} {x : α} (h : x ∈ l) : ∃ i : Nat, l[i]? = some x := by
  obtain ⟨i, hi, e⟩ := List.mem_iff_getElem.mp h
  exact ⟨i, by rw [List.getElem?_eq_getElem hi, e]⟩
theorem cut_nat (ns : List V) (lo hi : Nat) : cutV ns (some (lo : Int)) (some (hi : Int)) = (ns.drop (min lo ns.length)).take (min hi ns.length - min lo ns.length) := by
  unfold cutV
  rw [HT.sIx_nat, HT.sIx_nat]
theorem cut_from (ns : List V) (lo : Nat) : cutV ns (some (lo : Int)) none = ns.drop lo := by
  unfold cutV
  rw [HT.sIx_nat, HT.sIx_none]
  by_cases h : lo ≤ ns.length
  · rw [Nat.min_eq_left h]
    exact List.take_of_length_le (by rw [List.length_drop]; exact Nat.le_refl _)
  · rw [Nat.min_eq_right (by omega), List.drop_eq_nil_of_le (by omega), List.drop_eq_nil_of_le (by omega)]
    simp
theorem same_new {H : Hp} {l : Addr} {o : HO} (h : H l = Option.none) : Same H (upd H l o) := fun b u e => by
  rw [upd_ne (ne_of_none e h)]; exact e
theorem same_upd {H H' : Hp} {l : Addr} {o : HO} (h : H l = Option.none) (s : Same H H') : Same H (upd H' l o) := fun b u e => by
  rw [upd_ne (ne_of_none e h)]; exact s b u e
end Pr
/-! ### Frames: what is only read lies in F, what is written lies beside it in H -/
namespace Pr
open PySem PySem.Spec PyProof.Rows L2
structure Ext (F H F' H' : Hp) : Prop where
  s0 : Same F H
  hh : Same H H'
  ff : Same F F'
  inn : Same F' H'
  new : ∀ b, F b = Option.none → F' b ≠ Option.none → H b = Option.none
theorem Ext.refl {F H : Hp} (s : Same F H) : Ext F H F H := ⟨s, .refl _, .refl _, s, fun b h1 h2 => absurd h1 h2⟩
theorem Ext.trans {F H F1 H1 F2 H2 : Hp} (a : Ext F H F1 H1) (b : Ext F1 H1 F2 H2) : Ext F H F2 H2 :=
  ⟨a.s0, a.hh.trans b.hh, a.ff.trans b.ff, b.inn, fun c h1 h2 => by
    cases q : F1 c with
    | none => exact a.hh.free (b.new c q h2)
    | some o => exact a.new c h1 (by rw [q]; exact fun z => nomatch z)⟩
/-- a new thing that is only read from now on -/
theorem Ext.put {F0 H0 F H : Hp} {q : Addr} {o : HO} (e : Ext F0 H0 F H) (hq : H q = Option.none) : Ext F0 H0 (upd F q o) (upd H q o) :=
  ⟨e.s0, e.hh.trans (same_new hq), e.ff.trans (same_new (e.inn.free hq)), fun b u h => by
    unfold upd at h ⊢
    split at h
    · rename_i z; rw [if_pos z]; exact h
    · rename_i z; rw [if_neg z]; exact e.inn b u h, fun b h1 h2 => by
    by_cases z : b = q
    · rw [z]; exact e.hh.free hq
    · rw [upd_ne z] at h2; exact e.new b h1 h2⟩
/-- a thing of one's own is laid or written -/
theorem Ext.loc {F0 H0 F H : Hp} {p : Addr} {o : HO} (e : Ext F0 H0 F H) (h0 : H0 p = Option.none) (hF : F p = Option.none) : Ext F0 H0 F (upd H p o) :=
  ⟨e.s0, same_upd h0 e.hh, e.ff, same_upd hF e.inn, e.new⟩
/-- a thing of one's own is only read from now on -/
theorem Ext.freeze {F0 H0 F H : Hp} {p : Addr} {o : HO} (e : Ext F0 H0 F H) (hp : H p = some o) (h0 : H0 p = Option.none) (hF : F p = Option.none) : Ext F0 H0 (upd F p o) H :=
  ⟨e.s0, e.hh, e.ff.trans (same_new hF), fun b u h => by
    by_cases z : b = p
    · rw [z, upd_same] at h; cases h; rw [z]; exact hp
    · rw [upd_ne z] at h; exact e.inn b u h, fun b h1 h2 => by
    by_cases z : b = p
    · rw [z]; exact h0
    · rw [upd_ne z] at h2; exact e.new b h1 h2⟩
theorem Ext.out {F H F' H' : Hp} {p : Addr} {o : HO} (e : Ext F H F' H') (hp : H p = some o) (hF : F p = Option.none) : F' p = Option.none := by
  cases q : F' p with
  | none => rfl
  | some u =>
    have := e.new p hF (by rw [q]; exact fun z => nomatch z)
    rw [hp] at this
    cases this
theorem same_put {F : Hp} {p : Addr} {o : HO} (hF : F p = Option.none) : Same F (upd F p o) := same_new hF
/-! what lies at a value -/
/-- a predicate of what is only read -/
structure Mono {α : Type} (P : Hp → V → α → Prop) : Prop where
  up : ∀ {F F' : Hp} {v : V} {x : α}, Same F F' → P F v x → P F' v x
def IsI : Hp → V → Int → Prop := fun _ v i => v = .int i
def IsRow : Hp → V → List Int → Prop := fun F v ns => ∃ a, v = .ref a ∧ F a = some (.lst (ns.map V.int))
def LOf {α : Type} (P : Hp → V → α → Prop) : Hp → V → List α → Prop := fun F v l => ∃ a vs, v = .ref a ∧ F a = some (.lst vs) ∧ Paired (P F) vs l
def T2 {α β : Type} (P : Hp → V → α → Prop) (R : Hp → V → β → Prop) : Hp → V → α × β → Prop := fun F v x => ∃ a v1 v2, v = .ref a ∧ F a = some (.tup [v1, v2]) ∧ P F v1 x.1 ∧ R F v2 x.2
theorem mono_i : Mono IsI := ⟨fun _ h => h⟩
theorem mono_row : Mono IsRow := ⟨fun s ⟨a, e, h⟩ => ⟨a, e, s _ _ h⟩⟩
theorem Paired.up {α : Type} {P : Hp → V → α → Prop} (m : Mono P) {F F' : Hp} (s : Same F F') {vs : List V} {l : List α} (h : Paired (P F) vs l) : Paired (P F') vs l := Paired.mapP h fun _ _ z => m.up s z
theorem mono_l {α : Type} {P : Hp → V → α → Prop} (m : Mono P) : Mono (LOf P) := ⟨fun s ⟨a, vs, e, h, r⟩ => ⟨a, vs, e, s _ _ h, Paired.up m s r⟩⟩
theorem mono_t2 {α β : Type} {P : Hp → V → α → Prop} {R : Hp → V → β → Prop} (m : Mono P) (k : Mono R) : Mono (T2 P R) := ⟨fun s ⟨a, v1, v2, e, h, r, q⟩ => ⟨a, v1, v2, e, s _ _ h, m.up s r, k.up s q⟩⟩
abbrev IsRows : Hp → V → List (List Int) → Prop := LOf IsRow
theorem mono_rows : Mono IsRows := mono_l mono_row
abbrev IsCh : Hp → V → Int × List Int → Prop := T2 IsI IsRow
theorem mono_ch : Mono IsCh := mono_t2 mono_i mono_row
abbrev IsChs : Hp → V → List (Int × List Int) → Prop := LOf IsCh
theorem mono_chs : Mono IsChs := mono_l mono_ch
theorem pget {α : Type} {P : V → α → Prop} {vs : List V} {l : List α} (h : Paired P vs l) {i : Nat} {v : V} (e : vs[i]? = some v) : ∃ x, l[i]? = some x ∧ P v x := paired_get h e
theorem pget' {α : Type} {P : V → α → Prop} {vs : List V} {l : List α} (h : Paired P vs l) {i : Nat} {x : α} (e : l[i]? = some x) : ∃ v, vs[i]? = some v ∧ P v x := by
  have hl := Paired.length h
  have hi : i < l.length := (List.getElem?_eq_some_iff.mp e).1
  have hv : vs[i]? = some vs[i] := List.getElem?_eq_getElem (by omega)
  obtain ⟨y, hy, hp⟩ := pget h hv
  rw [e] at hy
  cases hy
  exact ⟨_, hv, hp⟩
theorem ptake {α : Type} {P : V → α → Prop} : ∀ {vs : List V} {l : List α} (k : Nat), Paired P vs l → Paired P (vs.take k) (l.take k)
  | _, _, 0, _ => .nil
  | _, _, _ + 1, .nil => .nil
  | _, _, k + 1, .cons r t => .cons r (ptake k t)
theorem pdrop {α : Type} {P : V → α → Prop} : ∀ {vs : List V} {l : List α} (k : Nat), Paired P vs l → Paired P (vs.drop k) (l.drop k)
  | _, _, 0, r => r
  | _, _, _ + 1, .nil => .nil
  | _, _, k + 1, .cons _ t => pdrop k t
theorem pset {α : Type} {P : V → α → Prop} {v : V} {x : α} (r : P v x) : ∀ {vs : List V} {l : List α} (i : Nat), Paired P vs l → Paired P (vs.set i v) (l.set i x)
  | _, _, _, .nil => .nil
  | _, _, 0, .cons _ t => .cons r t
  | _, _, i + 1, .cons q t => .cons q (pset r i t)
theorem pints_eq {F : Hp} : ∀ {vs : List V} {ns : List Int}, Paired (IsI F) vs ns → vs = ns.map V.int
  | _, _, .nil => rfl
  | _, _, .cons (h : _ = V.int _) t => by rw [h, pints_eq t]; rfl
theorem row_of {F : Hp} {v : V} {ns : List Int} (h : LOf IsI F v ns) : IsRow F v ns := by
  obtain ⟨a, vs, e, hF, r⟩ := h
  rw [pints_eq r] at hF
  exact ⟨a, e, hF⟩
/-- a list of one's own that grows: the comprehension's, or one that is appended to -/
structure Acc {α : Type} (P : Hp → V → α → Prop) (F0 H0 : Hp) (D : Addr) (l : List α) (F H : Hp) (vs : List V) : Prop where
  ext : Ext F0 H0 F H
  h0 : H0 D = Option.none
  at_ : H D = some (.lst vs)
  out : F D = Option.none
  rel : Paired (P F) vs l
theorem Acc.start {α : Type} {P : Hp → V → α → Prop} {F0 H0 F H : Hp} {D : Addr} (e : Ext F0 H0 F H) (hD : H D = Option.none) : Acc P F0 H0 D [] F (upd H D (.lst [])) [] :=
  ⟨e.loc (e.hh.free hD) (e.inn.free hD), e.hh.free hD, upd_same, e.inn.free hD, .nil⟩
theorem Acc.step {α : Type} {P : Hp → V → α → Prop} (m : Mono P) {F0 H0 F H F1 H1 : Hp} {D : Addr} {l : List α} {vs : List V} {y : V} {x : α} (a : Acc P F0 H0 D l F H vs) (e : Ext F H F1 H1) (h : P F1 y x) :
    H1 D = some (.lst vs) ∧ Acc P F0 H0 D (l ++ [x]) F1 (upd H1 D (.lst (vs ++ [y]))) (vs ++ [y]) := by
  have o := e.out a.at_ a.out
  exact ⟨e.hh _ _ a.at_, (a.ext.trans e).loc a.h0 o, a.h0, upd_same, o, Paired.snoc (Paired.up m e.ff a.rel) h⟩
/-- something between: the list stays -/
theorem Acc.pass {α : Type} {P : Hp → V → α → Prop} (m : Mono P) {F0 H0 F H F1 H1 : Hp} {D : Addr} {l : List α} {vs : List V} (a : Acc P F0 H0 D l F H vs) (e : Ext F H F1 H1) : Acc P F0 H0 D l F1 H1 vs :=
  ⟨a.ext.trans e, a.h0, e.hh _ _ a.at_, e.out a.at_ a.out, Paired.up m e.ff a.rel⟩
theorem Acc.len {α : Type} {P : Hp → V → α → Prop} {F0 H0 F H : Hp} {D : Addr} {l : List α} {vs : List V} (a : Acc P F0 H0 D l F H vs) : vs.length = l.length := Paired.length a.rel
theorem Acc.same {α : Type} {P : Hp → V → α → Prop} {F0 H0 F H : Hp} {D : Addr} {l : List α} {vs : List V} (a : Acc P F0 H0 D l F H vs) : Same F H := a.ext.inn
theorem Acc.done {α : Type} {P : Hp → V → α → Prop} (m : Mono P) {F0 H0 F H : Hp} {D : Addr} {l : List α} {vs : List V} (a : Acc P F0 H0 D l F H vs) : Ext F0 H0 (upd F D (.lst vs)) H ∧ LOf P (upd F D (.lst vs)) (.ref D) l ∧ Same F (upd F D (.lst vs)) :=
  ⟨a.ext.freeze a.at_ a.h0 a.out, ⟨D, vs, rfl, upd_same, Paired.up m (same_put a.out) a.rel⟩, same_put a.out⟩
/-! reading -/
theorem row_seq {K : PySem.W.Frag} {F H : Hp} {a : Addr} {xs : List V} (h : F a = some (.lst xs)) (s : Same F H) : SqL K H a xs := SqL.of (s _ _ h)
theorem atI_end {α : Type} {xs : List α} {v : α} {k : Nat} (hl : xs.length = k + 1) (h : xs[k]? = some v) : atI xs (-1) = some v := by
  unfold atI ixN
  rw [hl, if_neg (by decide), if_pos (by omega)]
  show xs[(-1 + ((k + 1 : Nat) : Int)).toNat]? = some v
  rw [show (-1 + ((k + 1 : Nat) : Int)).toNat = k by omega]
  exact h
theorem cut_to (ns : List V) (hi : Nat) : cutV ns none (some (hi : Int)) = ns.take hi := by
  unfold cutV
  rw [HT.sIx_none, HT.sIx_nat, List.drop_zero, Nat.sub_zero]
  by_cases h : hi ≤ ns.length
  · rw [Nat.min_eq_left h]
  · rw [Nat.min_eq_right (by omega), List.take_of_length_le (by omega), List.take_of_length_le (by omega)]
theorem small24 {n : Nat} (h : n < 16777216) : n < sizeLine := by rw [sizeLine_eq]; exact h
end Pr
namespace Pr
open PySem PySem.Spec PyProof.Rows L2
/-- a comprehension's list, i items of l done -/
def AccP {α : Type} (P : Hp → V → α → Prop) (F0 H0 : Hp) (D : Addr) (l : List α) (i : Nat) (H : Hp) : Prop := ∃ F vs, Acc P F0 H0 D (l.take i) F H vs
theorem Acc.p0 {α : Type} {P : Hp → V → α → Prop} {F0 H0 F H : Hp} {D : Addr} {l : List α} (e : Ext F0 H0 F H) (hD : H D = Option.none) : AccP P F0 H0 D l 0 (upd H D (.lst [])) := ⟨F, [], Acc.start e hD⟩
theorem Acc.next {α : Type} {P : Hp → V → α → Prop} (m : Mono P) {F0 H0 F H F1 H1 : Hp} {D : Addr} {l : List α} {i : Nat} {vs : List V} {y : V} {x : α} (a : Acc P F0 H0 D (l.take i) F H vs) (hx : l[i]? = some x) (hl : l.length < 16777216) (e : Ext F H F1 H1) (h : P F1 y x) :
    ∃ acc, H1 D = some (.lst acc) ∧ acc.length < sizeLine ∧ AccP P F0 H0 D l (i + 1) (upd H1 D (.lst (acc ++ [y]))) := by
  obtain ⟨q1, q2⟩ := a.step m e h
  refine ⟨vs, q1, small24 ?_, F1, vs ++ [y], ?_⟩
  · rw [a.len, List.length_take]; omega
  · rw [List.take_add_one, hx]; exact q2
theorem AccP.done {α : Type} {P : Hp → V → α → Prop} (m : Mono P) {F0 H0 H : Hp} {D : Addr} {l : List α} {n : Nat} (a : AccP P F0 H0 D l n H) (hn : n = l.length) : ∃ F', Ext F0 H0 F' H ∧ LOf P F' (.ref D) l := by
  obtain ⟨F, vs, a⟩ := a
  rw [hn, List.take_length] at a
  obtain ⟨e, h, _⟩ := a.done m
  exact ⟨_, e, h⟩
theorem get_map_range {α : Type} {f : Nat → α} {n i : Nat} (h : i < n) : ((List.range n).map f)[i]? = some (f i) := by
  rw [List.getElem?_map, List.getElem?_range h]
  rfl
end Pr
/-! ### walks over zip, from the end -/
namespace Pr
open PySem PySem.Spec PyProof.Rows L2
theorem lc_zip {K : PySem.W.Frag} {a b : Addr} {xs ys : List V} {g : TG} {tt : TT} {te : TE} {vs : List Nat} {σ : L2.St} {H1 : Hp} {D : Addr} {Qd : Hp → Prop} (Pv : Nat → Hp → Prop) (h0 : Pv 0 (upd H1 D (.lst []))) (hl : ∀ i H, Pv i H → SqL K H a xs ∧ SqL K H b ys)
    (hs : ∀ i x y T H, xs[i]? = some x → ys[i]? = some y → Pv i H → H T = none → g (.ref T) (wipe σ vs) (upd H T (.tup [x, y])) fun σ2 H2 => wipe σ2 vs = wipe σ vs ∧ tt σ2 H2 fun c H3 =>
      if c = true then te σ2 H3 fun z H4 => ∃ acc, H4 D = some (.lst acc) ∧ acc.length < sizeLine ∧ Pv (i + 1) (upd H4 D (.lst (acc ++ [z]))) else Pv (i + 1) H3) (hd : ∀ H, Pv (min xs.length ys.length) H → Qd H) :
    ∃ W : Nat → Nat → Hp → Prop, (∃ m, W 0 m (upd H1 D (.lst []))) ∧ ∀ i m H, W i m H →
      ((Itz K a b).stop i H ∧ Qd H) ∨ ((Itz K a b).go i H ∧ ∃ Nx : Hp → Prop, (∀ H', Nx H' → ∃ m', m' < m ∧ W (i + 1) m' H') ∧ ∀ x H', (Itz K a b).yld i H x H' → g x (wipe σ vs) H' fun σ2 H2 => wipe σ2 vs = wipe σ vs ∧ tt σ2 H2 fun c H3 =>
        if c = true then te σ2 H3 fun z H4 => ∃ acc, H4 D = some (.lst acc) ∧ acc.length < sizeLine ∧ Nx (upd H4 D (.lst (acc ++ [z]))) else Nx H3) := by
  refine ⟨fun i m H => m = min xs.length ys.length - i ∧ i ≤ min xs.length ys.length ∧ Pv i H, ⟨_, rfl, Nat.zero_le _, h0⟩, ?_⟩
  rintro i m H ⟨rfl, hi, p⟩
  obtain ⟨q1, q2⟩ := hl i H p
  by_cases hlt : i < min xs.length ys.length
  · have hx : xs[i]? = some xs[i] := List.getElem?_eq_getElem (by omega)
    have hy : ys[i]? = some ys[i] := List.getElem?_eq_getElem (by omega)
    refine .inr ⟨⟨xs, ys, _, _, q1, q2, hx, hy⟩, Pv (i + 1), fun H' p' => ⟨_, by omega, rfl, hlt, p'⟩, fun x H' z => ?_⟩
    obtain ⟨T, x1, y1, e1, hT, e2, w1, w2⟩ := z
    subst e1 e2
    exact hs i x1 y1 T H (w1 xs q1) (w2 ys q2) p hT
  · have e : i = min xs.length ys.length := by omega
    subst e
    exact .inl ⟨⟨xs, ys, q1, q2, by omega⟩, hd H p⟩
theorem for_rev {K : PySem.W.Frag} {a : Addr} {xs : List V} {g : TG} {tb : TS} {D : Ends} {σ : L2.St} {H : Hp} (Pv : Nat → L2.St → Hp → Prop) (h0 : Pv 0 σ H) (hl : ∀ i σ H, Pv i σ H → SqL K H a xs)
    (hs : ∀ i x σ H, i < xs.length → xs[xs.length - 1 - i]? = some x → Pv i σ H → g x σ H fun σ2 H2 => tb { D with nx := Pv (i + 1), ct := Pv (i + 1), bk := D.nx } σ2 H2) (hd : ∀ σ H, Pv xs.length σ H → D.nx σ H) :
    ∃ W : Nat → Nat → L2.St → Hp → Prop, (∃ m, W 0 m σ H) ∧ ∀ i m σ H, W i m σ H →
      ((Itv K a xs.length).stop i H ∧ D.nx σ H) ∨ ((Itv K a xs.length).go i H ∧ ∃ N : L2.St → Hp → Prop, (∀ σ' H', N σ' H' → ∃ m', m' < m ∧ W (i + 1) m' σ' H') ∧ ∀ x H', (Itv K a xs.length).yld i H x H' → g x σ H' fun σ2 H2 => tb { D with nx := N, ct := N, bk := D.nx } σ2 H2) := by
  refine ⟨fun i m σ H => m = xs.length - i ∧ i ≤ xs.length ∧ Pv i σ H, ⟨_, rfl, Nat.zero_le _, h0⟩, ?_⟩
  rintro i m σ H ⟨rfl, hi, p⟩
  have q := hl i σ H p
  by_cases hlt : i < xs.length
  · have hx : xs[xs.length - 1 - i]? = some xs[xs.length - 1 - i] := List.getElem?_eq_getElem (by omega)
    refine .inr ⟨⟨hlt, xs, _, q, hx⟩, Pv (i + 1), fun σ' H' p' => ⟨_, by omega, rfl, hlt, p'⟩, fun x H' y => ?_⟩
    obtain ⟨e, y⟩ := y
    subst e
    exact hs i x σ _ hlt (y xs q) p
  · have e : i = xs.length := by omega
    subst e
    exact .inl ⟨Nat.le_refl _, hd σ H p⟩
end Pr
namespace Pr
open PySem PySem.Spec PyProof.Rows L2
/-- a, b = a pair -/
theorem pg_pair {X : Cx} (K : PySem.W.Frag) {i j kk : Nat} {x y : Str} {p1 p2 pos : Pos} (hc : X.calm = true) (hN : X.N.Nodup) (hi : X.N[i]? = some x) (hj : X.N[j]? = some y) (hx : Loc X.env.scope x) (hy : Loc X.env.scope y)
    (hf : X.fn x = true ∨ X.env.scope.names.lookup x = some .local := by first | exact .inl rfl | exact .inr rfl | assumption) (hf' : X.fn y = true ∨ X.env.scope.names.lookup y = some .local := by first | exact .inl rfl | exact .inr rfl | assumption)
    (hn : (assignEach [.Name x p1, .Name y p2] X.env).length = 2 := by rfl) (hst : (assignEach [.Name x p1, .Name y p2] X.env).findIdx? (·.1) = none := by rfl)
    (h1 : (assignEach (.Name x p1 :: [.Name y p2]) X.env).map (·.2) = assign (.Name x p1) X.env :: (assignEach [.Name y p2] X.env).map (·.2) := by rfl) (h2 : (assignEach (.Name y p2 :: []) X.env).map (·.2) = assign (.Name y p2) X.env :: (assignEach [] X.env).map (·.2) := by rfl) (hK : X.K = K := by rfl) :
    PG X (.Tuple [.Name x p1, .Name y p2] kk pos) (gTup K 2 (gCons (gName i) (gCons (gName j) gNil))) := hK ▸
  pg_tup hc (pgs_cons (pg_name hN hi hx hf) (pgs_cons (pg_name hN hj hy hf') pgs_nil h2) h1) hn hst
end Pr
namespace Pr
open PySem PySem.Spec PyProof.Rows L2
theorem pi_listK {X : Cx} {tg l : Expr} {tl : TE} (K : PySem.W.Frag) (hl : PE X l tl) (hK : X.K = K := by rfl) : PI X tg l (iList K tl) := hK ▸ pi_list hl
/-- an item of one's own list is stored -/
theorem Acc.set {α : Type} {P : Hp → V → α → Prop} {F0 H0 F H : Hp} {D : Addr} {l : List α} {vs : List V} {y : V} {x : α} {i : Nat} (a : Acc P F0 H0 D l F H vs) (h : P F y x) : Acc P F0 H0 D (l.set i x) F (upd H D (.lst (vs.set i y))) (vs.set i y) :=
  ⟨a.ext.loc a.h0 a.out, a.h0, upd_same, a.out, pset h i a.rel⟩
theorem ixN_nat {n j : Nat} (h : j < n) : ixN n (j : Int) = some j := by
  unfold ixN
  rw [if_pos (by omega), if_pos (by omega)]
  simp
end Pr
/-! ### Rules of one's own: bit_length, list < list, setdefault -/
namespace Pr
open PySem PySem.Spec PyProof.Rows L2
section
variable {X : Cx}
theorem mt_bitlen : MtR X "int.bit_length" (fun x xs H Q => ∃ i : Int, x = .int i ∧ xs = [] ∧ Q (.int ((Builtin.Int.intBits i : Nat) : Int)) H) := by
  intro pins s σ H x xs v us Q I rx rxs h
  obtain ⟨i, rfl, rfl, q⟩ := h
  obtain ⟨t, rfl⟩ := rx
  cases rxs
  exact call_gives F.slot_int_bit_length (typeIs_int s i t) F.entry_int_bit_length (F.args_int_bit_length_1 _) (AutoIntG2.int_bit_length_int_0 i t) ⟨.int _, H, I.tok _, ⟨_, rfl⟩, q⟩
theorem bits_lt {N : Int} (h : 0 ≤ N) : N < 2 ^ Builtin.Int.intBits N := by
  unfold Builtin.Int.intBits
  by_cases q : N = 0
  · subst q; decide
  · have e : (N == 0) = false := by simpa using q
    rw [e]
    have z : N.natAbs < 2 ^ (N.natAbs.log2 + 1) := Nat.lt_log2_self
    have e2 : ((2 ^ (N.natAbs.log2 + 1) : Nat) : Int) = (2 : Int) ^ (N.natAbs.log2 + 1) := by rw [Int.natCast_pow]; rfl
    show N < (2 : Int) ^ (N.natAbs.log2 + 1)
    omega
theorem bits_le {N : Int} {B : Nat} (h : N.natAbs < 2 ^ B) : Builtin.Int.intBits N ≤ B := by
  unfold Builtin.Int.intBits
  by_cases q : N = 0
  · subst q; exact Nat.zero_le _
  · have e : (N == 0) = false := by simpa using q
    rw [e]
    exact (Nat.log2_lt (by omega)).mpr h
end
/-! list < list, as many ints in each -/
section
open PySem.SeqAt PySem.MeetsSeq PySem.MeetsSeq2 PySem.MeetsSeq3
open PySem.AutoSeq1 (wpAny_loadPart')
theorem lex_drop {ns ms : List Int} {i : Nat} (h1 : i < ns.length) (h2 : i < ms.length) : HT.lexLt (ns.drop i) (ms.drop i) = if ns[i] = ms[i] then HT.lexLt (ns.drop (i + 1)) (ms.drop (i + 1)) else decide (ns[i] < ms[i]) := by
  rw [List.drop_eq_getElem_cons h1, List.drop_eq_getElem_cons h2]
  rfl
theorem ints_at {vs : List Value} {ns : List Int} (h : IntsAre vs ns) : ∀ {i : Nat} (h1 : i < vs.length) (h2 : i < ns.length), ∃ t, vs[i] = .int ns[i] t := by
  induction h with
  | nil => intro i h1; exact absurd h1 (Nat.not_lt_zero _)
  | cons a t r ih =>
    intro i h1 h2
    cases i with
    | zero => exact ⟨t, rfl⟩
    | succ i => exact ih (by simpa using h1) (by simpa using h2)
theorem lt_loop (l b : Addr) (us us2 : Array Value) (n n2 : Nat) (dd dd2 : Option Addr) (sl sl2 : Array (Option Value)) (ns ms : List Int) (hi : IntsAre us.toList ns) (hj : IntsAre us2.toList ms) (hsz : ns.length = ms.length) (k : Nat) :
    ∀ i : Nat, us.size - i = k → Meets (Builtin.«list.__eq__.loop» ⟨[.ref l, .ref b, rawInt i, rawInt 0], []⟩)
      (fun _ R s => s.heap.get? l = some { cls := .type "list", dict := dd, data := .seq us n, slots := sl } ∧ s.heap.get? b = some { cls := .type "list", dict := dd2, data := .seq us2 n2, slots := sl2 } ∧ R (.ok (.ret (.bool (HT.lexLt (ns.drop i) (ms.drop i))))) s) := by
  have z1 : us.size = ns.length := by rw [← hi.length]; simp
  have z2 : us2.size = ms.length := by rw [← hj.length]; simp
  induction k with
  | zero =>
    intro i hk prog w A R s h
    obtain ⟨hp, g, d, tk, os⟩ := s
    obtain ⟨hl, hb, h⟩ := h
    wp_walk using wpAny_loadPart' hl, wpAny_loadPart' hb
    have a1 : us[((i : Nat) : Int).toNat]? = none := by simp; omega
    have a2 : us2[((i : Nat) : Int).toNat]? = none := by simp; omega
    rw [List.drop_eq_nil_of_le (by omega), List.drop_eq_nil_of_le (by omega), HT.lexLt_nil_nil] at h
    rw [a1, a2]
    wp_walk using wpAny_loadPart' hl, wpAny_loadPart' hb
    show R (.ok (.ret (.bool (decide (us.size < us2.size))))) _
    rw [z1, z2, hsz, decide_eq_false (Nat.lt_irrefl _)]
    exact h
  | succ k ih =>
    intro i hk prog w A R s h
    obtain ⟨hp, g, d, tk, os⟩ := s
    obtain ⟨hl, hb, h⟩ := h
    have b1 : i < us.size := by omega
    have b2 : i < us2.size := by omega
    wp_walk using wpAny_loadPart' hl, wpAny_loadPart' hb
    have a1 : us[((i : Nat) : Int).toNat]? = some us[i] := by simp [b1]
    have a2 : us2[((i : Nat) : Int).toNat]? = some us2[i] := by simp [b2]
    have cc : ((i : Int) + 1) = ((i + 1 : Nat) : Int) := rfl
    obtain ⟨t, e1⟩ := ints_at hi (i := i) (by simpa using b1) (by omega)
    obtain ⟨u, e2⟩ := ints_at hj (i := i) (by simpa using b2) (by omega)
    have e1 : us[i] = .int ns[i] t := by simpa using e1
    have e2 : us2[i] = .int ms[i] u := by simpa using e2
    rw [lex_drop (by omega) (by omega)] at h
    rw [a1, a2, e1, e2]
    obtain ⟨e, he, hiff⟩ := HT.eqAt_int A.in1 ⟨hp, g, d, tk, os⟩ ns[i] t ms[i] u
    refine wpAny_bind (he prog w _ _ ?_)
    cases e with
    | true =>
      rw [if_pos (hiff.mp rfl)] at h
      wp_walk
      rw [cc]
      exact ⟨plainId_quiet plain_eq_loop _, codeAny_builtin entry_eq_loop (by
        rw [Around.under_plainId plain_eq_loop _]
        exact ih (i + 1) (by omega) prog w A R _ ⟨hl, hb, h⟩)⟩
    | false =>
      rw [if_neg (fun q => absurd (hiff.mpr q) Bool.false_ne_true)] at h
      have hri := HT.rcLt_int A.in1 ⟨hp, g, d, tk, os⟩ ns[i] t ms[i] u prog w
      wp_walk using wpAny_loadPart' hl, wpAny_loadPart' hb
      rw [a1, a2, e1, e2]
      wp_walk using hri
      exact h
theorem list_lt_ints (l b : Addr) (us us2 : Array Value) (n n2 : Nat) (dd dd2 : Option Addr) (sl sl2 : Array (Option Value)) (ns ms : List Int) (hi : IntsAre us.toList ns) (hj : IntsAre us2.toList ms) (hsz : ns.length = ms.length) :
    Meets (Builtin.«list.__lt__» ⟨[.ref l, .ref b], []⟩)
      (fun _ R s => s.heap.get? l = some { cls := .type "list", dict := dd, data := .seq us n, slots := sl } ∧ s.heap.get? b = some { cls := .type "list", dict := dd2, data := .seq us2 n2, slots := sl2 } ∧ R (.ok (.ret (.bool (HT.lexLt ns ms)))) s) := by
  intro prog w A R s h
  obtain ⟨hp, g, d, tk, os⟩ := s
  obtain ⟨hl, hb, h⟩ := h
  have f3 := AutoSeq1.sub_list_list
  wp_walk using wpAny_loadPart' hl, wpAny_loadPart' hb
  exact ⟨plainId_quiet plain_eq_loop _, codeAny_builtin entry_eq_loop (by
    rw [Around.under_plainId plain_eq_loop _]
    exact lt_loop l b us us2 n n2 dd dd2 sl sl2 ns ms hi hj hsz _ 0 rfl prog w A R _ ⟨hl, hb, h⟩)⟩
end
section
variable {X : Cx}
def rLtL (K : PySem.W.Frag) : R2 := fun x y H Q => ∃ a b ns ms, x = .ref a ∧ y = .ref b ∧ SqL K H a (ns.map V.int) ∧ SqL K H b (ms.map V.int) ∧ ns.length = ms.length ∧ Q (.bl (HT.lexLt ns ms)) H
theorem op_ltL (hu : X.A.units < cLine) : OpR X (compareOp .Lt) (rLtL X.K) := by
  intro pins s σ H x y v u Q I rx ry h
  obtain ⟨a, b, ns, ms, rfl, rfl, ha, hb, hl, q⟩ := h
  cases rx
  cases ry
  obtain ⟨its, r1, ⟨⟨c1, d1, da1, sl1⟩, n1, ho1, hc1, hd1, hs1⟩, _⟩ := I.list ha
  obtain ⟨its2, r2, ⟨⟨c2, d2, da2, sl2⟩, n2, ho2, hc2, hd2, hs2⟩, _⟩ := I.list hb
  simp only at hc1 hd1 hs1 hc2 hd2 hs2
  subst hc1 hd1 hs1 hc2 hd2 hs2
  exact richCompare_meets_room (op := .Lt) ⟨_, ho1, rfl⟩ ⟨_, ho2, rfl⟩ PySem.F.slot_list_lt PySem.F.entry_list_lt (PySem.F.args_list_lt_2 _ _) (list_lt_ints a b _ _ n1 n2 _ _ _ _ ns ms (intsAre_of r1) (intsAre_of r2) hl)
    ⟨ho1, ho2, show Value.bool (HT.lexLt ns ms) ≠ Value.notImplemented ∧ EP X pins σ Q (.bool (HT.lexLt ns ms)) s from ⟨(fun x => nomatch x), ⟨.bl _, H, I, rfl, q⟩⟩⟩ hu
end
theorem lex_before : ∀ (x y : List Int), x.length = y.length → HT.lexLt x y = Ql78.before x y
  | [], [], _ => rfl
  | a :: x, b :: y, h => by
    rw [HT.lexLt_cons, lex_before x y (by simpa using h)]
    show _ = (decide (a < b) || (a == b && Ql78.before x y))
    by_cases q : a = b
    · subst q; simp
    · rw [if_neg q]
      have e : (a == b) = false := by simpa using q
      rw [e, Bool.false_and, Bool.or_false]
end Pr
/-! ### setdefault, and a walk over the pairs of a dict whose keys are tuples -/
namespace Pr
open PySem PySem.Spec PyProof.Rows L2
section
variable {prog : Program} {w : World} {κ : Type} [DecidableEq κ] {knd : HeapKind prog w κ} {A : Around} {E : Value → Shared → Prop} {s : Shared} {d a : Addr} {k : κ} {xs : List (κ × Addr × Value)}
theorem sdef_heap {v : Value} {Q : Value → Shared → Prop} (hu : knd.room A) (hkey : knd.is s.heap k a) (hm : s.heap.DictOfH knd d xs) (h1 : ∀ p : Addr × Value, atKey xs k = some p → Q p.2 { s with toks := s.toks + knd.draws k })
    (h2 : atKey xs k = none → ∀ h', h'.DictOfH knd d (xs ++ [(k, a, v)]) → Heap.SameBut d s.heap h' → Q v { s with heap := h', toks := s.toks + knd.draws k }) (hsz : xs.length ≤ sizeLine) : wpAny (model prog w) A (dictSetDefault d (.ref a) v) Q E s := by
  obtain ⟨o, es, ep, ho, hc, hd, he, hi, hn⟩ := hm
  unfold dictSetDefault
  try with_reducible refine wpAny_holding ?_
  refine wpAny_bind (knd.pyHash hu hkey (wpAny_bind (wpAny_dictFind_heap (s := { s with toks := s.toks + knd.draws k }) hu hkey ho hd he hi hn (fun hno => ?_) fun j p hj => ?_)))
  · have q := atKey_none_of_get hno
    refine wpAny_bind (wpAny_rule (wpAny_bind (wpAny_updateDictKeys (hz := by have e := size_of_entries he; omega) (s := { s with toks := s.toks + knd.draws k }) ho hd (wpAny_pure (h2 q _ ⟨_, _, ep + 1, Heap.get?_update_self _ ho (Obj.isFreed_of_dict (Obj.data_mapDictKeys hd _)), hc.mapDictKeys _, Obj.data_mapDictKeys hd _, by simp [he, entryOfKey], fun x hx => ?_, ?_⟩ (Heap.SameBut.update ..))))))
    · rcases List.mem_append.mp hx with hx | hx
      · exact knd.keeps (hi x hx) ho hd (Heap.SameBut.update ..)
      · rw [List.mem_singleton.mp hx]
        exact knd.keeps hkey ho hd (Heap.SameBut.update ..)
    · rw [List.map_append, List.nodup_append]
      refine ⟨hn, by simp, fun x hx y hy e => ?_⟩
      simp only [List.map_cons, List.map_nil, List.mem_singleton] at hy
      rw [e, hy] at hx
      exact not_mem_keys_of_get hno hx
  · refine wpAny_bind (wpAny_dictEntries (s := { s with toks := s.toks + knd.draws k }) ho hd ?_)
    rw [entry_at he j, hj]
    exact wpAny_bind (wpAny_rule (wpAny_pure (h1 p (atKey_of_get hn hj))))
theorem meets_sdefH (knd : HeapKind prog w κ) (d a : Addr) (hd : (d == sysModules) = false) (v : Value) :
    MeetsIn prog w (Builtin.«dict.setdefault» ⟨[.ref d, .ref a, v], []⟩) (fun A R s => knd.room A.in1 ∧ ∃ k xs, knd.is s.heap k a ∧ s.heap.DictOfH knd d xs ∧ xs.length ≤ sizeLine ∧
      (∀ p : Addr × Value, atKey xs k = some p → R (.ok (.ret p.2)) { s with toks := s.toks + knd.draws k }) ∧
      (atKey xs k = none → ∀ h', h'.DictOfH knd d (xs ++ [(k, a, v)]) → Heap.SameBut d s.heap h' → R (.ok (.ret v)) { s with heap := h', toks := s.toks + knd.draws k })) :=
  .of_wp fun A R s ⟨hu, k, xs, hkey, hm, hsz, h1, h2⟩ => by
    have hT : s.TypeIs (.ref d) "dict" := by
      obtain ⟨o, es, ep, ho, hc, _⟩ := hm
      exact ⟨o, ho, hc.1⟩
    unfold Builtin.«dict.setdefault»
    refine wpAny_bind ?_
    unfold Builtin.Dict.keyAndDefault
    refine wpAny_bind (wpAny_notOrdered_dict hT ?_)
    show wpAny _ _ (pure (d, Value.ref a, some v)) _ _ s
    refine wpAny_pure ?_
    show wpAny _ _ (if (d == sysModules) = true then _ else (dictSetDefault d (.ref a) v >>= _)) _ _ s
    rw [if_neg (by rw [hd]; exact Bool.false_ne_true)]
    exact wpAny_bind (sdef_heap hu hkey hm (fun p hp => wpAny_pure ⟨p.2, rfl, h1 p hp⟩) (fun hn h' dd hs => wpAny_pure ⟨v, rfl, h2 hn h' dd hs⟩) hsz)
end
section
variable {X : Cx}
/-- d.setdefault(t, v), d's keys tuples -/
def rSdefT : V → List V → Hp → VK → Prop := fun x xs H Q => ∃ (d b : Addr) (v : V) (kvs : List (List Key × V)) (k : List Key), x = .ref d ∧ xs = [.ref b, v] ∧ H d = some (.dT kvs) ∧ H b = some (.tup (k.map kV)) ∧ kvs.length < sizeLine ∧
  (∀ u, valV kvs k = some u → Q u H) ∧ (valV kvs k = none → Q v (upd H d (.dT (kvs ++ [(k, v)]))))
theorem mt_sdefT (hu : X.A.units + 1 < cLine) : MtR X "dict.setdefault" rSdefT := by
  intro pins s σ H x xs v us Q I rx rxs h
  obtain ⟨d, b, u, kvs, k, rfl, rfl, hd, hb, hz, q1, q2⟩ := h
  cases rx
  obtain ⟨r1, r2, rfl, rb, ru⟩ := vals2 rxs
  cases rb
  obtain ⟨z, hs, ys, rel, dd⟩ := dt_of I.hok hd
  have hl : kvs.length = ys.length := Paired.length rel
  have hT : s.TypeIs (.ref d) "dict" := by
    obtain ⟨o, es, ep, ho, hc, _⟩ := dd
    exact ⟨o, ho, hc.1⟩
  have rv := rel.val k
  refine call_meetsIn PySem.F.slot_dict_setdefault hT PySem.F.entry_dict_setdefault (PySem.F.args_dict_setdefault_3 _ _ _) (meets_sdefH (tupleKind (mixKind X.prog X.w)) d b hs r2) ⟨tupleKind_room_in1 hu, k, ys, key_of I.hok hb, dd, by omega, fun p hp => ?_, fun hn h' dd' sb => ?_⟩
  · rw [hp] at rv
    cases e : valV kvs k with
    | none => rw [e] at rv; exact (show False from rv).elim
    | some y =>
      rw [e] at rv
      exact ⟨y, H, I.tok _, rv, q1 y e⟩
  · rw [hn] at rv
    have e : valV kvs k = none := by
      cases e : valV kvs k with
      | none => rfl
      | some y => rw [e] at rv; exact (show False from rv).elim
    obtain ⟨o, es, ep, ho, g2, g3, g4, _, g5⟩ := dd'
    refine ⟨u, _, d_write (ob := .dT (kvs ++ [(k, u)])) I (by rw [hd]; exact True.intro) sb ⟨o, ho⟩ ⟨by rw [List.length_append]; exact hz, hs, _, ?_, o, es, ep, ho, g2, g3, g4, g5⟩, ru, q2 e⟩
    have rel2 : KT H (kvs ++ [(k, u)]) (ys ++ [(k, b, r2)]) := Paired.snoc (a := (k, u)) (b := (k, b, r2)) rel ⟨rfl, hb, ru⟩
    refine KT.keeps rel2 fun c zs ec => ?_
    rw [upd_ne (ne_of ec hd (fun z => nomatch z))]
    exact ec
end
/-! the pairs of a dict, by its entries -/
section
variable {prog : Program} {w : World} {A : Around} {E : Value → Shared → Prop} {s : Shared}
theorem meets_itemsR (d : Addr) (hd : (d == sysModules) = false) : MeetsIn prog w (Builtin.«dict.items» ⟨[.ref d], []⟩) (fun _ R s => s.TypeIs (.ref d) "dict" ∧
      R (.ok (.ret (.ref s.heap.objs.size))) { s with heap := s.heap.push { cls := .type "dict_items", data := .fields #[.ref d] } }) :=
  .of_wp fun A R s ⟨hT, h⟩ => by
    unfold Builtin.«dict.items»
    refine wpAny_bind ?_
    unfold Builtin.Dict.noArgs
    refine wpAny_bind (wpAny_notOrdered_dict hT ?_)
    show wpAny _ _ (pure d) _ _ s
    refine wpAny_pure ?_
    show wpAny _ _ (Builtin.Dict.showsAll d >>= _) _ _ s
    unfold Builtin.Dict.showsAll
    rw [if_neg (by rw [hd]; exact Bool.false_ne_true)]
    exact wpAny_bind (wpAny_pure (wpAny_bind (wpAny_newObj_type (wpAny_pure ⟨_, rfl, h⟩))))
theorem iter_items {v d : Addr} {o : Obj} {es : Array DictEntry} {ep : Nat} {Q : Value → Shared → Prop} (hv : s.heap.IsItemsView v d) (ho : s.heap.get? d = some o) (hdat : o.data = .dict es ep)
    (hQ : Q (.ref s.heap.objs.size) { s with heap := s.heap.push { cls := .type "dict_itemiterator", data := .fields #[.none, .bool false, .ref d, .int 0 0, .int es.size 0, .int ep 0, .none, .none] } }) : wpAny (model prog w) A (pyIter (.ref v)) Q E s := by
  obtain ⟨ov, hov, hcv, hdv⟩ := id hv
  refine wpAny_pyIter_slot hv.typeIs F.slot_dict_items_iter (wpAny_call_entry F.slot_dict_items_iter hv.typeIs F.entry_dict_items_iter ?_ (F.args_dict_items_iter_1 _))
  unfold Builtin.«dict_items.__iter__»
  refine wpAny_bind (wpAny_pure (wpAny_bind ?_))
  unfold Builtin.Dict_items.dictOf
  refine wpAny_bind (wpAny_field hov hdv (x := .ref d) rfl (wpAny_pure (wpAny_bind ?_)))
  unfold Builtin.Dict_items.newIterator
  refine wpAny_bind (wpAny_dictEntries ho hdat (wpAny_bind (wpAny_dictEpoch ho hdat ?_)))
  have hown : Builtin.Dict_items.ownsTuple "dict_itemiterator" = true := by decide
  simp only [hown, if_true]
  refine wpAny_newObj_type (wpAny_pure ⟨_, rfl, "dict_itemiterator", _, ⟨_, Heap.get?_push_size _ rfl, rfl⟩, F.slot_dict_itemiterator_next.lookup, ?_⟩) (by simp only [sizeOk, Builtin.Dict_items.ownedTupleFields, List.size_toArray, List.length_append, List.length_cons, List.length_nil, sizeLine_eq]; omega)
  simpa [rawInt, Builtin.Dict_items.ownedTupleFields] using hQ
theorem next_item {it d : Addr} {i n ep : Nat} {ok ov : Value} {od : Obj} {es : Array DictEntry} {en : DictEntry} {Q : Option Value → Shared → Prop} (hit : IsItemIter s.heap it d i n ep ok ov) (hod : s.heap.get? d = some od) (hdd : od.data = .dict es ep) (hsz : es.size = n) (hx : es[i]? = some en)
    (hQ : ∀ h', IsItemIterOut h' it d (i + 1) n ep en.key en.val s.heap.objs.size → h'.get? s.heap.objs.size = some { cls := .type "tuple", data := .seq #[en.key, en.val] } → (∀ b o, b ≠ it → s.heap.get? b = some o → h'.get? b = some o) → Q (some (.ref s.heap.objs.size)) { s with heap := h' }) :
    wpAny (model prog w) A (pyNext (.ref it)) Q E s := by
  obtain ⟨hp, g, dr, tk, os⟩ := s
  have hT : Shared.TypeIs ⟨hp, g, dr, tk, os⟩ (.ref it) "dict_itemiterator" := ⟨_, hit, rfl⟩
  obtain ⟨hlt', hen⟩ := Array.getElem?_eq_some_iff.mp hx
  unfold pyNext
  refine wpAny_bind (wpAny_attempt (wpAny_callSpecial?_slot (name := Str.ofString "__next__") hT F.slot_dict_itemiterator_next (wpAny_call_entry F.slot_dict_itemiterator_next hT F.entry_dict_itemiterator_next ?_ (F.args_dict_itemiterator_next_1 _))))
  refine wpAny_bind (wpAny_pure (wpAny_bind (wpAny_bind ?_)))
  first | refine wpAny_bind (wpAny_typeNameOfWhole_itemiter hT (wpAny_pure ?_)) | refine wpAny_bind (wpAny_typeNameOf_itemiter hT (wpAny_pure ?_))
  refine wpAny_bind (wpAny_fieldsOf hit rfl ?_)
  have hown : Builtin.Dict_items.ownsTuple "dict_itemiterator" = true := by decide
  simp only [hown, if_true]
  show wpAny _ _ (if (Value.ref d == Value.none) = true then _ else _) _ _ _
  rw [if_neg (show ¬ ((Value.ref d == Value.none) = true) from Bool.false_ne_true)]
  refine wpAny_bind (wpAny_pure (wpAny_bind (wpAny_dictEntries hod hdd ?_)))
  rw [if_neg (by rw [hsz]; simp)]
  refine wpAny_bind (wpAny_pure (wpAny_bind (wpAny_dictEpoch hod hdd ?_)))
  rw [if_neg (by simp)]
  refine wpAny_pure ?_
  simp only [show ¬ ((i : Int) < 0) from by omega, if_false, Int.toNat_natCast, Array.getElem?_eq_getElem hlt']
  refine wpAny_bind ?_
  first | refine wpAny_bind (wpAny_typeNameOfWhole_itemiter hT (wpAny_pure ?_)) | refine wpAny_bind (wpAny_typeNameOf_itemiter hT (wpAny_pure ?_))
  refine wpAny_bind (wpAny_isOneOf_itemiter hT ?_)
  show wpAny _ _ (setField (.ref it) 3 (rawInt ((i : Int) + 1)) >>= _) _ _ ⟨hp, g, dr, tk, os⟩
  refine wpAny_bind (wpAny_setField_rec hit (by simp) fun h1 he1 hs1 => ?_)
  replace hs1 : Heap.SameBut it hp h1 := hs1
  replace he1 : IsItemIter h1 it d (i + 1) n ep ok ov := by
    have e : ((i + 1 : Nat) : Int) = (i : Int) + 1 := by omega
    unfold IsItemIter; rw [e]; simpa [rawInt] using he1
  have hT1 : Shared.TypeIs ⟨h1, g, dr, tk, os⟩ (.ref it) "dict_itemiterator" := ⟨_, he1, rfl⟩
  refine wpAny_bind (wpAny_holding (wpAny_bind (wpAny_isOneOf_itemiter hT1 (wpAny_bind (wpAny_isOneOf_itemiter hT1 ?_)))))
  rw [hen]
  show wpAny _ _ (Builtin.Dict_items.pairFromOwner (.ref it) 6 en.key en.val) _ _ ⟨h1, g, dr, tk, os⟩
  unfold Builtin.Dict_items.pairFromOwner
  refine wpAny_bind (wpAny_newTuple ?_)
  have he2 : IsItemIter (h1.push { cls := .type "tuple", data := .seq #[en.key, en.val] }) it d (i + 1) n ep ok ov := Heap.get?_push_of_some _ he1
  generalize hh2 : h1.push { cls := .type "tuple", data := .seq #[en.key, en.val] } = h2 at he2
  have hz1 : h1.objs.size = hp.objs.size := hs1.1
  have hil : it < hp.objs.size := Heap.lt_size hit
  have ht2 : h2.get? hp.objs.size = some { cls := .type "tuple", data := .seq #[en.key, en.val] } := by rw [← hh2, ← hz1]; exact Heap.get?_push_size _ rfl
  have hk2 : ∀ b o, b ≠ it → hp.get? b = some o → h2.get? b = some o := fun b o hb e => by rw [← hh2]; exact Heap.get?_push_of_some _ (hs1.extBut b o hb e)
  show wpAny _ _ (Builtin.Dict_items.ownedTupleIsFree (.ref it) >>= _) _ _ ⟨h2, g, dr, tk, os⟩
  rw [hz1]
  clear hh2 he1 hs1 hT1 hz1 h1
  refine wpAny_bind ?_
  unfold Builtin.Dict_items.ownedTupleIsFree
  refine wpAny_bind (wpAny_field he2 rfl (x := .none) rfl (wpAny_pure ?_))
  simp only [if_true]
  refine wpAny_bind (wpAny_field he2 rfl (x := ok) rfl (wpAny_bind (wpAny_field he2 rfl (x := ov) rfl ?_)))
  refine wpAny_bind (wpAny_setField_rec he2 (by simp) fun h3 he3 hs3 => ?_)
  replace hs3 : Heap.SameBut it h2 h3 := hs3
  replace he3 : IsItemIter h3 it d (i + 1) n ep en.key ov := he3
  refine wpAny_bind (wpAny_setField_rec he3 (by simp) fun h4 he4 hs4 => ?_)
  replace hs4 : Heap.SameBut it h3 h4 := hs4
  replace he4 : IsItemIter h4 it d (i + 1) n ep en.key en.val := he4
  refine wpAny_bind (wpAny_setField_rec he4 (by simp) fun h5 he5 hs5 => ?_)
  replace hs5 : Heap.SameBut it h4 h5 := hs5
  replace he5 : IsItemIterOut h5 it d (i + 1) n ep en.key en.val hp.objs.size := he5
  refine wpAny_bind (wpAny_setField_rec he5 (by simp) fun h6 he6 hs6 => ?_)
  replace hs6 : Heap.SameBut it h5 h6 := hs6
  replace he6 : IsItemIterOut h6 it d (i + 1) n ep en.key en.val hp.objs.size := he6
  refine wpAny_bind (wpAny_letGo (wpAny_pure (wpAny_pure ⟨_, rfl, wpAny_pure (hQ h6 he6 ?_ ?_)⟩)))
  · exact hs6.extBut _ _ (Nat.ne_of_gt hil) (hs5.extBut _ _ (Nat.ne_of_gt hil) (hs4.extBut _ _ (Nat.ne_of_gt hil) (hs3.extBut _ _ (Nat.ne_of_gt hil) ht2)))
  · exact fun b o hb e => hs6.extBut b o hb (hs5.extBut b o hb (hs4.extBut b o hb (hs3.extBut b o hb (hk2 b o hb e))))
theorem next_item_end {it d : Addr} {i n ep : Nat} {ok ov : Value} {od : Obj} {es : Array DictEntry} {Q : Option Value → Shared → Prop} (hh : A.handled = none) (hit : IsItemIter s.heap it d i n ep ok ov) (hod : s.heap.get? d = some od) (hdd : od.data = .dict es ep) (hsz : es.size = n) (hge : n ≤ i)
    (hQ : ∀ h', Heap.ExtBut it s.heap h' → Q none { s with heap := h' }) : wpAny (model prog w) A (pyNext (.ref it)) Q E s := by
  have hT : s.TypeIs (.ref it) "dict_itemiterator" := ⟨_, hit, rfl⟩
  unfold pyNext
  refine wpAny_bind (wpAny_attempt (wpAny_callSpecial?_slot (name := Str.ofString "__next__") hT F.slot_dict_itemiterator_next (wpAny_call_entry F.slot_dict_itemiterator_next hT F.entry_dict_itemiterator_next ?_ (F.args_dict_itemiterator_next_1 _))))
  refine wpAny_bind (wpAny_pure (wpAny_bind (wpAny_bind ?_)))
  first | refine wpAny_bind (wpAny_typeNameOfWhole_itemiter hT (wpAny_pure ?_)) | refine wpAny_bind (wpAny_typeNameOf_itemiter hT (wpAny_pure ?_))
  refine wpAny_bind (wpAny_fieldsOf hit rfl ?_)
  have hown : Builtin.Dict_items.ownsTuple "dict_itemiterator" = true := by decide
  simp only [hown, if_true]
  show wpAny _ _ (if (Value.ref d == Value.none) = true then _ else _) _ _ s
  rw [if_neg (show ¬ ((Value.ref d == Value.none) = true) from Bool.false_ne_true)]
  refine wpAny_bind (wpAny_pure (wpAny_bind (wpAny_dictEntries hod hdd ?_)))
  rw [if_neg (by rw [hsz]; simp)]
  refine wpAny_bind (wpAny_pure (wpAny_bind (wpAny_dictEpoch hod hdd ?_)))
  rw [if_neg (by simp)]
  refine wpAny_pure ?_
  have hge' : es.size ≤ i := by omega
  simp only [show ¬ ((i : Int) < 0) from by omega, if_false, Int.toNat_natCast, Array.getElem?_eq_none hge']
  refine wpAny_bind ?_
  first | refine wpAny_bind (wpAny_typeNameOfWhole_itemiter hT (wpAny_pure ?_)) | refine wpAny_bind (wpAny_typeNameOf_itemiter hT (wpAny_pure ?_))
  show wpAny _ _ (setField (.ref it) 2 .none >>= _) _ _ s
  refine wpAny_bind (wpAny_setField hit rfl (by simp) ?_)
  show wpAny _ _ (newExc (.type "StopIteration") [] >>= _) _ _ _
  refine wpAny_bind ?_
  simp only [newExc, newTuple]
  refine wpAny_bind (wpAny_newObj_type ?_ (by size_fits))
  refine wpAny_bind (m := firstArgMember _ _) (wpAny_of_eq (a := Value.none) (by first | rfl | (simp only [firstArgMember]; rfl)) ?_)
  refine wpAny_newObj_type ?_ (by size_fits)
  simp only [raiseNew]
  refine wpAny_bind (wpAny_handled ?_)
  rw [show A.in1.handled = none from hh]
  refine wpAny_bind (wpAny_pure (wpAny_throw ?_))
  refine wpAny_bind (wpAny_isInstance (T := "StopIteration") (b := true) ⟨_, Heap.get?_push_size _ rfl, rfl⟩ isSubtype_stop ?_)
  exact wpAny_pure (hQ _ (((Heap.SameBut.update ..).extBut.push _).push _))
end
/-- the pairs, each a new tuple of the key's own tuple and the value -/
def Itit (d : Addr) (o : Obj) (kvs : List (List Key × V)) : It :=
  ⟨fun i H => H d = some (.frz o (.dT kvs)) ∧ i < kvs.length, fun i H x H' => ∃ (T q : Addr) (k : List Key) (v : V), kvs[i]? = some (k, v) ∧ x = .ref T ∧ H T = none ∧ H q = some (.tup (k.map kV)) ∧ H' = upd H T (.tup [.ref q, v]), fun i H => H d = some (.frz o (.dT kvs)) ∧ kvs.length ≤ i⟩
theorem frzT_all {X : Cx} {pins : List (Addr × Obj)} {σ : L2.St} {H : Hp} {s : Shared} {d : Addr} {o : Obj} {kvs : List (List Key × V)} (I : Inv X pins σ H s) (h : H d = some (.frz o (.dT kvs))) :
    (d == sysModules) = false ∧ s.heap.get? d = some o ∧ o.ExactDict ∧ ∃ (es : Array DictEntry) (ep : Nat), o.data = .dict es ep ∧ es.size = kvs.length ∧
      ∀ (i : Nat) (k : List Key) (v : V), kvs[i]? = some (k, v) → ∃ (en : DictEntry) (q : Addr), es[i]? = some en ∧ en.key = .ref q ∧ H q = some (.tup (k.map kV)) ∧ RelV v en.val := by
  obtain ⟨hd, z, hs, xs, pr, o', es, ep, ho, hx, hdt, he, _⟩ := I.hok d _ h
  rw [hd] at ho
  cases ho
  refine ⟨hs, hd, hx, es, ep, hdt, ?_, fun i k v e => ?_⟩
  · have l1 : es.size = xs.length := size_of_entries he
    have l2 : kvs.length = xs.length := Paired.length pr
    omega
  · obtain ⟨b, hb, e1, e2, e3⟩ := paired_get pr e
    have q := entry_at he i
    rw [hb] at q
    exact ⟨_, b.2.1, q, rfl, e2, e3⟩
theorem turn_itemsT {P : Program} {w : World} {K : PySem.W.Frag} {d : Addr} {o : Obj} {es : Array DictEntry} {ep : Nat} {kvs : List (List Key × V)} {elts : List Expr} {kk : Nat} {tpos : Pos} (it : Addr) (hod : o.data = .dict es ep) :
    Turn P w K (.Tuple elts kk tpos) (Itit d o kvs) [it] it (fun i h => ∃ ok ov, IsItemIter h it d i kvs.length ep ok ov) where
  mem := by simp
  obj := fun i h st b hb => by
    have e : b = it := by simpa using hb
    subst e
    obtain ⟨ok, ov, e⟩ := st
    exact ⟨_, e, fun v z => nomatch z⟩
  keep := fun i h h' st k => let ⟨ok, ov, e⟩ := st; ⟨ok, ov, k it (by simp) _ e⟩
  item := by
    intro X hP hw hK hc i pins s σ H E I hf st hg
    subst hP hw hK
    obtain ⟨hd, hi⟩ := hg
    obtain ⟨hs, hgd, hx, es', ep', hdt, hsz, ent⟩ := frzT_all I hd
    obtain ⟨rfl, rfl⟩ := dict_ep hod hdt
    obtain ⟨⟨k, v⟩, hkv⟩ : ∃ p, kvs[i]? = some p := ⟨kvs[i], List.getElem?_eq_getElem hi⟩
    obtain ⟨en, q, hen, hkey, hq, rv⟩ := ent i k v hkv
    obtain ⟨ok, ov, he⟩ := st
    have hlt : it < s.heap.objs.size := Heap.lt_size he
    refine next_item he hgd hdt hsz hen fun h' ho hT hk => ?_
    refine ⟨_, rfl, wpAny_letOwnedTupleGo_items (s := { s with heap := h' }) ho fun h'' he' sb => ?_⟩
    have hT2 : h''.get? s.heap.objs.size = some { cls := .type "tuple", data := .seq #[en.key, en.val] } := (sb.2 _ (Nat.ne_of_gt hlt)).trans hT
    have new : ObjOk X.prog X.w (upd H s.heap.objs.size (.tup [.ref q, v])) h'' s.heap.objs.size (.tup [.ref q, v]) :=
      ⟨by show 2 ≤ sizeLine; decide, [en.key, en.val], .cons hkey (.cons rv .nil), ⟨_, hT2, rfl, _, rfl⟩⟩
    have I1 : Inv X pins σ (upd H s.heap.objs.size (.tup [.ref q, v])) { s with heap := h'' } :=
      I.turnedNew (t' := s.toks) (ch := [it]) (fun b ob hb e => (sb.2 b (by simpa using hb)).trans (hk b ob (by simpa using hb) e)) hf (Nat.le_refl _) new
    refine ⟨.ref s.heap.objs.size, _, I1, rfl, ⟨_, q, k, v, hkv, rfl, I.hok.fresh (Nat.le_refl _), hq, rfl⟩, ⟨en.key, en.val, he'⟩, fun b hb => ?_⟩
    have e : b = it := by simpa using hb
    rw [e, upd_ne (Nat.ne_of_lt hlt)]
    exact (hf it (by simp)).1
  done := by
    intro X hP hw hK hc i pins s σ H E I hf st hg
    subst hP hw hK
    obtain ⟨hd, hi⟩ := hg
    obtain ⟨f0, f1, f2, f3, f4, f5⟩ := hf it (by simp)
    obtain ⟨hs, hgd, hx, es', ep', hdt, hsz, ent⟩ := frzT_all I hd
    obtain ⟨rfl, rfl⟩ := dict_ep hod hdt
    obtain ⟨ok, ov, he⟩ := st
    exact next_item_end (I.ok.hd hc) he hgd hdt hsz hi fun h' eb => ⟨rfl, I.turned (t' := s.toks) (fun b ob hb e => eb b ob hb e) f0 f1 f3 f4 f5⟩
  self := fun A i s Q E st h => let ⟨_, _, e⟩ := st; PySem.W.kcp_self e h
/-- the turns of a locked dict's pairs, the dict left as it is -/
theorem for_itemsT {d : Addr} {o : Obj} {kvs : List (List Key × V)} {g : TG} {tb : TS} {D : Ends} {σ : L2.St} {H : Hp} (Pv : Nat → L2.St → Hp → Prop) (h0 : Pv 0 σ H) (hl : ∀ i σ H, Pv i σ H → H d = some (.frz o (.dT kvs)))
    (hs : ∀ i k v T q σ H, kvs[i]? = some (k, v) → Pv i σ H → H T = none → H q = some (.tup (k.map kV)) → g (.ref T) σ (upd H T (.tup [.ref q, v])) fun σ2 H2 => tb { D with nx := Pv (i + 1), ct := Pv (i + 1), bk := D.nx } σ2 H2) (hd : ∀ σ H, Pv kvs.length σ H → D.nx σ H) :
    ∃ W : Nat → Nat → L2.St → Hp → Prop, (∃ m, W 0 m σ H) ∧ ∀ i m σ H, W i m σ H →
      ((Itit d o kvs).stop i H ∧ D.nx σ H) ∨ ((Itit d o kvs).go i H ∧ ∃ N : L2.St → Hp → Prop, (∀ σ' H', N σ' H' → ∃ m', m' < m ∧ W (i + 1) m' σ' H') ∧ ∀ x H', (Itit d o kvs).yld i H x H' → g x σ H' fun σ2 H2 => tb { D with nx := N, ct := N, bk := D.nx } σ2 H2) := by
  refine ⟨fun i m σ H => m = kvs.length - i ∧ i ≤ kvs.length ∧ Pv i σ H, ⟨_, rfl, Nat.zero_le _, h0⟩, ?_⟩
  rintro i m σ H ⟨rfl, hi, p⟩
  have q := hl i σ H p
  by_cases hlt : i < kvs.length
  · refine .inr ⟨⟨q, hlt⟩, Pv (i + 1), fun σ' H' p' => ⟨_, by omega, rfl, hlt, p'⟩, fun x H' y => ?_⟩
    obtain ⟨T, r, k, v, e1, e2, e3, e4, e5⟩ := y
    subst e2 e5
    exact hs i k v T r σ H e1 p e3 e4
  · have e : i = kvs.length := by omega
    subst e
    exact .inl ⟨⟨q, Nat.le_refl _⟩, hd σ H p⟩
end Pr
namespace Pr
open PySem PySem.Spec PyProof.Rows L2
/-- the pairs of a dict that is locked for the walk and never written again -/
def iItemsL (td : TE) : TI := fun σ H R => td σ H fun x H1 => ∃ d kvs, x = .ref d ∧ H1 d = some (.dT kvs) ∧ ∀ o, R (Itit d o kvs) (upd H1 d (.frz o (.dT kvs)))
theorem pi_itemsL {X : Cx} {e : Expr} {td : TE} {apos cpos : Pos} {elts : List Expr} {kk : Nat} {tpos : Pos} (he : PE X e td) (hbase : attributeBase e "items" X.env (eval e X.env) = eval e X.env := by rfl) (hline : (apos.endLine == cpos.line) = true := by rfl) :
    PI X (.Tuple elts kk tpos) (.Call (.Attribute e "items" apos) [] [] cpos) (iItemsL td) := by
  intro pins s σ H R I h
  refine wpAny_Call_method (T := "dict") (id := "dict.items") hbase rfl hline F.plainAttrs_dict F.slot_dict_items F.type_dict_items (thn (he pins s σ H _ I h) fun u s1 ⟨x, H0, I0, rx, d, kvs, ex, hd0, q0⟩ => ?_)
  subst ex
  obtain rfl : u = Value.ref d := rx
  obtain ⟨o, I1⟩ := I0.lock hd0 (show Mut (some (HO.dT kvs)) from trivial)
  have q := q0 o
  have hd : (upd H0 d (.frz o (.dT kvs))) d = some (.frz o (.dT kvs)) := upd_same
  generalize upd H0 d (.frz o (.dT kvs)) = H1 at I1 q hd
  obtain ⟨hs, hgd, hx, es, ep, hdt, hsz, ent⟩ := frzT_all I1 hd
  have hT : s1.TypeIs (.ref d) "dict" := ⟨o, hgd, hx.1⟩
  refine ⟨hT, fun b q => ?_, ?_⟩
  · cases q
    exact ⟨o, hgd, hx.2.1⟩
  have I2 : Inv X pins σ H1 { s1 with heap := s1.heap.push { cls := .type "dict_items", data := .fields #[.ref d] } } := I1.kept (t' := s1.toks) fun b ob q => Heap.get?_push_of_some _ q
  have fin : wpAny (model X.prog X.w) X.A (pyIter (.ref s1.heap.objs.size)) (PIE X pins σ (.Tuple elts kk tpos) R) X.xe { s1 with heap := s1.heap.push { cls := .type "dict_items", data := .fields #[.ref d] } } := by
    refine iter_items (d := d) (o := o) ⟨_, Heap.get?_push_size _ rfl, rfl, rfl⟩ (Heap.get?_push_of_some _ hgd) hdt (pi_one (tk := s1.toks) I2 _ (turn_itemsT _ hdt) ⟨.none, .none, ?_⟩ q)
    rw [hsz]
    exact Heap.get?_push_size _ rfl
  show wpAny _ _ (callWith cpos (.builtin "dict.items") [.ref d] [] []) _ X.xe s1
  exact method_meetsIn F.slot_dict_items F.entry_dict_items rfl (PySem.evalArgs_none ⟨rfl, hT, F.args_dict_items_1 _, _, meets_itemsR d hs, hT, fin⟩)
theorem valV_at {κ : Type} [DecidableEq κ] {kvs : List (κ × V)} {k : κ} {v : V} (h : valV kvs k = some v) : ∃ j : Nat, kvs[j]? = some (k, v) := by
  unfold valV at h
  obtain ⟨p, hp, rfl⟩ := Option.map_eq_some_iff.mp h
  have h1 := List.find?_some hp
  have h2 := List.mem_of_find?_eq_some hp
  obtain ⟨j, hj⟩ := mem_ix h2
  refine ⟨j, ?_⟩
  rw [hj, ← of_decide_eq_true h1]
/-- lists of one's own that a dict of one's own holds: each grows by itself -/
structure Grp (α κ : Type) where
  ks : κ
  ys : List α
  b : Addr
  us : List V
structure Many {α β κ : Type} (P : Hp → V → β → Prop) (ent : α → β) (obj : List (κ × V) → HO) (F0 H0 : Hp) (d : Addr) (gs : List (Grp α κ)) (F H : Hp) : Prop where
  ext : Ext F0 H0 F H
  hd : H d = some (obj (gs.map fun g => (g.ks, V.ref g.b)))
  d0 : H0 d = Option.none
  dF : F d = Option.none
  at_ : ∀ g ∈ gs, H g.b = some (.lst g.us) ∧ F g.b = Option.none ∧ H0 g.b = Option.none ∧ Paired (P F) g.us (g.ys.map ent)
  nd : (gs.map (·.b)).Nodup
  nl : ∀ l us, obj l ≠ .lst us
section
variable {α β κ : Type} {P : Hp → V → β → Prop} {ent : α → β} {obj : List (κ × V) → HO} {F0 H0 : Hp} {d : Addr} {gs : List (Grp α κ)} {F H : Hp}
theorem Many.ne (a : Many P ent obj F0 H0 d gs F H) {b : Addr} {us : List V} (hb : H b = some (.lst us)) : b ≠ d := fun z => by
  rw [z, a.hd] at hb
  exact a.nl _ _ (Option.some.inj hb)
theorem Many.pass (m : Mono P) {F1 H1 : Hp} (a : Many P ent obj F0 H0 d gs F H) (e : Ext F H F1 H1) : Many P ent obj F0 H0 d gs F1 H1 :=
  ⟨a.ext.trans e, e.hh _ _ a.hd, a.d0, e.out a.hd a.dF, fun g hg => by
    obtain ⟨h1, h2, h3, h4⟩ := a.at_ g hg
    exact ⟨e.hh _ _ h1, e.out h1 h2, h3, Paired.up m e.ff h4⟩, a.nd, a.nl⟩
/-- a new list, with its key -/
theorem Many.add {b : Addr} {k : κ} (a : Many P ent obj F0 H0 d gs F H) (hb : H b = some (.lst [])) (hF : F b = Option.none) (h0 : H0 b = Option.none) (hn : ∀ g ∈ gs, g.b ≠ b) :
    Many P ent obj F0 H0 d (gs ++ [⟨k, [], b, []⟩]) F (upd H d (obj ((gs.map fun g => (g.ks, V.ref g.b)) ++ [(k, .ref b)]))) := by
  refine ⟨a.ext.loc a.d0 a.dF, by rw [upd_same, List.map_append]; rfl, a.d0, a.dF, fun g hg => ?_, ?_, a.nl⟩
  · rcases List.mem_append.mp hg with hg | hg
    · obtain ⟨h1, h2, h3, h4⟩ := a.at_ g hg
      exact ⟨by rw [upd_ne (a.ne h1)]; exact h1, h2, h3, h4⟩
    · rw [List.mem_singleton.mp hg]
      exact ⟨by rw [upd_ne (a.ne hb)]; exact hb, hF, h0, .nil⟩
  · rw [List.map_append, List.nodup_append]
    refine ⟨a.nd, by simp, fun x hx y hy e => ?_⟩
    obtain ⟨g, hg, rfl⟩ := List.mem_map.mp hx
    simp at hy
    exact hn g hg (e.trans hy)
theorem nd_get {l : List (Grp α κ)} (h : (l.map (·.b)).Nodup) {i j : Nat} {g g' : Grp α κ} (hi : l[i]? = some g) (hj : l[j]? = some g') (e : g.b = g'.b) : i = j := by
  have h1 : (l.map (·.b))[i]? = some g.b := by rw [List.getElem?_map, hi]; rfl
  have h2 : (l.map (·.b))[j]? = some g.b := by rw [List.getElem?_map, hj, e]; rfl
  exact (List.getElem?_inj (List.getElem?_eq_some_iff.mp h1).1 h).mp (h1.trans h2.symm)
/-- one of the lists grows -/
theorem Many.push {j : Nat} {g : Grp α κ} {r : V} {x : α} (a : Many P ent obj F0 H0 d gs F H) (hj : gs[j]? = some g) (hr : P F r (ent x)) :
    Many P ent obj F0 H0 d (gs.set j ⟨g.ks, g.ys ++ [x], g.b, g.us ++ [r]⟩) F (upd H g.b (.lst (g.us ++ [r]))) := by
  have hjl : j < gs.length := (List.getElem?_eq_some_iff.mp hj).1
  have hgm : g ∈ gs := List.mem_of_getElem? hj
  obtain ⟨g1, g2, g3, g4⟩ := a.at_ g hgm
  have same : ∀ {γ : Type} (f : Grp α κ → γ), f ⟨g.ks, g.ys ++ [x], g.b, g.us ++ [r]⟩ = f g → (gs.set j ⟨g.ks, g.ys ++ [x], g.b, g.us ++ [r]⟩).map f = gs.map f := fun f hf => by
    apply List.ext_getElem?
    intro i
    rw [List.getElem?_map, List.getElem?_map, List.getElem?_set]
    by_cases q : j = i
    · subst q
      rw [if_pos rfl, if_pos hjl, hj]
      exact congrArg some hf
    · rw [if_neg q]
  refine ⟨a.ext.loc g3 g2, ?_, a.d0, a.dF, fun g' hg' => ?_, by rw [same (·.b) rfl]; exact a.nd, a.nl⟩
  · rw [upd_ne (Ne.symm (a.ne g1)), same (fun g => (g.ks, V.ref g.b)) rfl]
    exact a.hd
  · obtain ⟨i, hi⟩ := mem_ix hg'
    rw [List.getElem?_set] at hi
    by_cases q : j = i
    · subst q
      rw [if_pos rfl, if_pos hjl] at hi
      cases hi
      exact ⟨upd_same, g2, g3, by rw [List.map_append]; exact Paired.snoc g4 hr⟩
    · rw [if_neg q] at hi
      obtain ⟨h1, h2, h3, h4⟩ := a.at_ g' (List.mem_of_getElem? hi)
      refine ⟨?_, h2, h3, h4⟩
      rw [upd_ne fun e => q (nd_get a.nd hj hi e.symm)]
      exact h1
/-- the lists are only read from now on -/
theorem Many.done (m : Mono P) (a : Many P ent obj F0 H0 d gs F H) : ∃ F', Ext F0 H0 F' H ∧ Same F F' ∧ F' d = Option.none ∧ ∀ g ∈ gs, LOf P F' (.ref g.b) (g.ys.map ent) := by
  classical
  let F' : Hp := fun b => if b ∈ gs.map (·.b) then H b else F b
  have ff : Same F F' := fun b o h => by
    show (if b ∈ gs.map (·.b) then H b else F b) = some o
    by_cases q : b ∈ gs.map (·.b)
    · rw [if_pos q]; exact a.ext.inn b o h
    · rw [if_neg q]; exact h
  refine ⟨F', ⟨a.ext.s0, a.ext.hh, a.ext.ff.trans ff, fun b o h => ?_, fun b h1 h2 => ?_⟩, ff, ?_, fun g hg => ?_⟩
  · have h : (if b ∈ gs.map (·.b) then H b else F b) = some o := h
    by_cases q : b ∈ gs.map (·.b)
    · rw [if_pos q] at h; exact h
    · rw [if_neg q] at h; exact a.ext.inn b o h
  · have h2 : (if b ∈ gs.map (·.b) then H b else F b) ≠ Option.none := h2
    by_cases q : b ∈ gs.map (·.b)
    · obtain ⟨g, hg, rfl⟩ := List.mem_map.mp q
      exact (a.at_ g hg).2.2.1
    · rw [if_neg q] at h2; exact a.ext.new b h1 h2
  · show (if d ∈ gs.map (·.b) then H d else F d) = Option.none
    rw [if_neg]
    · exact a.dF
    · intro q
      obtain ⟨g, hg, e⟩ := List.mem_map.mp q
      exact a.ne (a.at_ g hg).1 e
  · obtain ⟨h1, h2, h3, h4⟩ := a.at_ g hg
    refine ⟨g.b, g.us, rfl, ?_, Paired.up m ff h4⟩
    show (if g.b ∈ gs.map (·.b) then H g.b else F g.b) = some (.lst g.us)
    rw [if_pos (List.mem_map.mpr ⟨g, hg, rfl⟩)]
    exact h1
end
/-- all members, whatever list they lie in -/
def allY {α κ : Type} (gs : List (Grp α κ)) : List α := gs.flatMap (·.ys)
theorem allY_add {α κ : Type} {gs : List (Grp α κ)} {k : κ} {b : Addr} : allY (gs ++ [⟨k, [], b, []⟩]) = allY gs := by
  unfold allY
  rw [List.flatMap_append]
  simp
theorem allY_push {α κ : Type} : ∀ {gs : List (Grp α κ)} {j : Nat} {g g' : Grp α κ} {x : α}, gs[j]? = some g → g'.ys = g.ys ++ [x] → (allY (gs.set j g')).Perm (allY gs ++ [x])
  | [], _, _, _, _, h, _ => by simp at h
  | h :: t, 0, g, g', x, e, e' => by
    simp at e
    subst e
    show (g'.ys ++ allY t).Perm (h.ys ++ allY t ++ [x])
    rw [e', List.append_assoc, List.append_assoc]
    exact List.Perm.append_left _ List.perm_append_comm
  | h :: t, j + 1, g, g', x, e, e' => by
    have ih := allY_push (gs := t) (j := j) (x := x) (by simpa using e) e'
    show (h.ys ++ allY (t.set j g')).Perm (h.ys ++ allY t ++ [x])
    rw [List.append_assoc]
    exact List.Perm.append_left _ ih
end Pr

/-! ### The elimination: split_rows, reduced_row, top_rows -/
namespace Pr
open PySem PySem.Spec PyProof.Rows L2
open Fm (gm dt bm small)
def top (i : Nat) : Stmt := PySem.Challenge.pw_formkeepdesk_s09_fm_truant.main.body.getD i (.Pass ⟨0, 0, 0, 0⟩)
abbrev sSplit : Stmt := top 1
abbrev sTop : Stmt := top 2
abbrev sRed : Stmt := top 3
/-- the rows of m times m numbers -/
def mat (m : Nat) (M : Fm.Mat) : List (List Int) := (List.range m).map fun i => (List.range m).map fun j => M i j
/-- the numbers that stand behind k steps -/
def bmR (m k : Nat) (M : Fm.Mat) : List (List Int) := mat (m - k) (bm k M)
/-- the top rows of the first k steps -/
def topsL (m : Nat) (M : Fm.Mat) (k : Nat) : List (List Int) := (List.range k).map fun i => (List.range (m - i)).map fun j => bm i M 0 j
def spSplit (K : PySem.W.Frag) : Sp := fun vs H Q _ => ∃ (n : Nat) (a : Addr) (ns : List Int) (F : Hp), vs = [.int n, .ref a] ∧ SqL K H a (ns.map V.int) ∧ n ≤ 8 ∧ ns.length = n * n ∧ Same F H ∧
  ∀ (F' H' : Hp) (v : V), Ext F H F' H' → IsRows F' v (mat n (gm n ns)) → Q v H'
def red (tp rw' : List Int) (d : Int) : List Int := (List.range (rw'.length - 1)).map fun j => (tp.getD 0 0 * rw'.getD (j + 1) 0 - rw'.getD 0 0 * tp.getD (j + 1) 0) / d
def spRed : Sp := fun vs H Q _ => ∃ (t r : V) (d : Int) (ts rs : List Int) (F : Hp), vs = [t, r, .int d] ∧ Same F H ∧ IsRow F t ts ∧ IsRow F r rs ∧ ts.length = rs.length ∧ 0 < rs.length ∧ rs.length ≤ 8 ∧
  (∀ x ∈ ts, x.natAbs < 2 ^ 56) ∧ 0 < d ∧ d < 2 ^ 64 ∧ ∀ (F' H' : Hp) (v : V), Ext F H F' H' → IsRow F' v (red ts rs d) → Q v H'
/-- the numbers stay small while the minors are above nought -/
def Tame (m : Nat) (M : Fm.Mat) : Prop := ∀ k, k < m → (∀ t, t < k → 0 < dt (t + 1) M) → ∀ j, k + j < m → (bm k M 0 j).natAbs < 2 ^ 56
def spTop : Sp := fun vs H Q _ => ∃ (v : V) (m : Nat) (M : Fm.Mat) (F : Hp), vs = [v] ∧ Same F H ∧ IsRows F v (mat m M) ∧ 1 ≤ m ∧ m ≤ 8 ∧ Tame m M ∧
  ∀ (F' H' : Hp) (v' : V) (k : Nat), Ext F H F' H' → IsRows F' v' (topsL m M (k + 1)) → k < m → (∀ t, t < k → 0 < dt (t + 1) M) → (k + 1 = m ∨ dt (k + 1) M ≤ 0) → Q v' H'
section
variable {P : Program} {w : World} {K : PySem.W.Frag} {mg : Str → Option Value} {base : Heap}
theorem scSplit : FnScope ["n", "a", "i"] ["n", "a"] (defScope sSplit) := ⟨rfl, rfl, rfl, by decide +kernel, rfl, by decide +kernel, by decide +kernel⟩
theorem cut_row {n : Nat} {ns : List Int} {i : Nat} (hi : i < n) (hl : ns.length = n * n) : cutV (ns.map V.int) (some ((i : Int) * (n : Int))) (some ((i : Int) * (n : Int) + (n : Int))) = ((ns.drop (n * i)).take n).map V.int := by
  have b : n * i + n ≤ n * n := by
    have := Nat.mul_le_mul_left n (show i + 1 ≤ n from hi)
    rw [Nat.mul_add, Nat.mul_one] at this
    exact this
  have e1 : (i : Int) * (n : Int) = ((n * i : Nat) : Int) := by rw [Int.natCast_mul, Int.mul_comm]
  have e2 : (i : Int) * (n : Int) + (n : Int) = ((n * i + n : Nat) : Int) := by rw [Int.natCast_add, Int.natCast_mul, Int.mul_comm]
  rw [e2, e1, cut_nat, List.length_map, hl, Nat.min_eq_left b, Nat.min_eq_left (show n * i ≤ n * n by omega), Nat.add_sub_cancel_left, List.map_take, List.map_drop]
theorem row_gm {n : Nat} {ns : List Int} {i : Nat} (hi : i < n) (hl : ns.length = n * n) : (ns.drop (n * i)).take n = (List.range n).map fun j => gm n ns i j := by
  apply List.ext_getElem?
  intro j
  rw [List.getElem?_take, List.getElem?_drop]
  by_cases hj : j < n
  · rw [if_pos hj, get_map_range hj]
    have b := Fm.ix_lt hi hj
    unfold gm
    rw [List.getD_eq_getElem?_getD, List.getElem?_eq_getElem (by omega)]
    rfl
  · rw [if_neg hj, List.getElem?_eq_none (by simp; omega)]
theorem ok_split {f : Addr} {fd : FuncData} (F : Fun K "split_rows" "split_rows" sSplit f fd) (hrng : mg "range" = none) : FnOk P w K mg base CX0 1 f fd ["n", "a"] (spSplit K) := by
  refine F.ok scSplit (fun vs H Q E h => ?_) (fun cdv A outer s H vs Q E hr h => ?_)
  · obtain ⟨n, a, ns, F, rfl, _⟩ := h
    rfl
  · obtain ⟨n, a, ns, F, rfl, hs, hn, hl, s0, k⟩ := h
    have nd := scSplit.nd
    refine ⟨_, pss_one (ps_ret (pe_lc rfl nd (pi_range1 rfl hrng (pa_cons (pv 0) pa_nil)) (blkOk_by (own := [("i", 2)]) (by kernel_rfl)) (fun _ _ _ _ _ => pg_name (i := 2) nd rfl (Or.inl rfl)) (fun _ _ _ _ _ => pts_nil)
      (fun _ _ _ _ _ => pe_slice (r := rSlL K) sl_list (pv 1) (po_some (pe_op op_mul (pv 2) (pv 0))) (po_some (pe_op op_add (pe_op op_mul (pv 2) (pv 0)) (pv 0)))))), ?_⟩
    refine ⟨_, rfl, (n : Int), rfl, by omega, by omega, ?_⟩
    rw [Int.toNat_natCast]
    intro D hD
    refine lc_range (lo := 0) (n := n) (AccP IsRow F H D (mat n (gm n ns))) (Acc.p0 (Ext.refl s0) hD) ?_ ?_
    · rintro i H' hi ⟨F1, us, a1⟩
      refine ⟨rfl, ?_⟩
      refine ⟨_, rfl, _, rfl, _, rfl, (0 + (i : Int)), (n : Int), rfl, rfl, .inl ⟨by omega, by omega⟩, _, rfl, _, rfl, _, rfl, (0 + (i : Int)), (n : Int), rfl, rfl, .inl ⟨by omega, by omega⟩, _, rfl, _, _, rfl, rfl, _, rfl, a, _, rfl, a1.ext.hh.seq hs, fun p hp => ?_⟩
      rw [Int.zero_add, cut_row hi hl, row_gm hi hl]
      exact a1.next mono_row (get_map_range hi) (by simp [mat]; omega) ((Ext.refl a1.same).put hp) ⟨p, rfl, upd_same⟩
    · rintro H' a1
      obtain ⟨F', e, h⟩ := a1.done mono_row (by simp [mat])
      exact k F' H' _ e h
theorem scRed : FnScope ["top", "row", "divisor", "j"] ["top", "row", "divisor"] (defScope sRed) := ⟨rfl, rfl, rfl, by decide +kernel, rfl, by decide +kernel, by decide +kernel⟩
theorem getD_small {ts : List Int} {B : Nat} (hB : 0 < B) (h : ∀ x ∈ ts, x.natAbs < B) (j : Nat) : (ts.getD j 0).natAbs < B := by
  rw [List.getD_eq_getElem?_getD]
  cases e : ts[j]? with
  | none => exact hB
  | some x => exact h x (List.mem_of_getElem? e)
theorem mul_ok {x y : Int} (h : x.natAbs < 2 ^ 56) : CMul x y := .inl ⟨by omega, by omega⟩
theorem mul_ok' {x y : Int} (h : y.natAbs < 2 ^ 56) : CMul x y := .inr ⟨by omega, by omega⟩
theorem ok_red {f : Addr} {fd : FuncData} (F : Fun K "reduced_row" "reduced_row" sRed f fd) (hrng : mg "range" = none) (hlen : mg "len" = none) : FnOk P w K mg base CX0 1 f fd ["top", "row", "divisor"] spRed := by
  refine F.ok scRed (fun vs H Q E h => ?_) (fun cdv A outer s H vs Q E hr h => ?_)
  · obtain ⟨t, r, d, ts, rs, F, rfl, _⟩ := h
    rfl
  · obtain ⟨t, r, d, ts, rs, F, rfl, s0, ⟨ta, rfl, ht⟩, ⟨ra, rfl, hr'⟩, hlen', h0, h8, hb, hd0, hd1, k⟩ := h
    have nd := scRed.nd
    refine ⟨_, pss_one (ps_ret (pe_lc rfl nd (pi_range2 rfl hrng (pa_cons pe_int (pa_cons (pe_callB call_len_seq rfl hlen PySem.boot_len (pa_cons (pv 1) pa_nil)) pa_nil))) (blkOk_by (own := [("j", 3)]) (by kernel_rfl)) (fun _ _ _ _ _ => pg_name (i := 3) nd rfl (Or.inl rfl)) (fun _ _ _ _ _ => pts_nil)
      (fun _ _ _ _ _ => pe_op op_fdivB (pe_op op_sub (pe_op op_mul (pe_ix (r := rIxL K) ix_list (pv 0) pe_int (fun _ _ => rfl)) (pe_ix (r := rIxL K) ix_list (pv 1) (pv 3) (fun _ _ => rfl)))
        (pe_op op_mul (pe_ix (r := rIxL K) ix_list (pv 1) pe_int (fun _ _ => rfl)) (pe_ix (r := rIxL K) ix_list (pv 0) (pv 3) (fun _ _ => rfl)))) (pv 2)))), ?_⟩
    refine ⟨_, rfl, ra, _, rfl, .inl (row_seq hr' s0), 1, _, rfl, ⟨by omega, by omega, by rw [List.length_map]; omega, by rw [List.length_map]; omega⟩, ?_⟩
    have em : ((((rs.map V.int).length : Nat) : Int) - 1).toNat = rs.length - 1 := by rw [List.length_map]; omega
    rw [em]
    intro D hD
    refine lc_range (lo := 1) (n := rs.length - 1) (AccP IsI F H D (red ts rs d)) (Acc.p0 (Ext.refl s0) hD) ?_ ?_
    · rintro j H' hj ⟨F1, us, a1⟩
      have e0 : (0 : Int) = ((0 : Nat) : Int) := rfl
      have ej : (1 : Int) + (j : Int) = ((j + 1 : Nat) : Int) := by omega
      have qt : SqL K H' ta (ts.map V.int) := row_seq ht (a1.ext.ff.trans a1.same)
      have qr : SqL K H' ra (rs.map V.int) := row_seq hr' (a1.ext.ff.trans a1.same)
      have sm := getD_small (by decide) hb
      refine ⟨rfl, ?_⟩
      refine ⟨_, rfl, ta, _, _, _, rfl, rfl, qt, at_of (j := 0) e0 (getV (by omega)), ?_⟩
      refine ⟨_, rfl, _, rfl, ra, _, _, _, rfl, rfl, qr, at_of (j := j + 1) ej (getV (by omega)), _, _, rfl, rfl, mul_ok (sm 0), ?_⟩
      refine ⟨_, rfl, ra, _, _, _, rfl, rfl, qr, at_of (j := 0) e0 (getV (by omega)), ?_⟩
      refine ⟨_, rfl, _, rfl, ta, _, _, _, rfl, rfl, qt, at_of (j := j + 1) ej (getV (by omega)), _, _, rfl, rfl, mul_ok' (sm (j + 1)), ?_⟩
      refine ⟨_, _, rfl, rfl, _, rfl, _, _, rfl, rfl, ⟨hd0, hd1⟩, ?_⟩
      exact a1.next mono_i (get_map_range hj) (by simp [red]; omega) (Ext.refl a1.same) rfl
    · rintro H' a1
      obtain ⟨F', e, h⟩ := a1.done mono_i (by simp [red])
      exact k F' H' _ e (row_of h)
theorem mat_row {m : Nat} {M : Fm.Mat} {i : Nat} (hi : i < m) : (mat m M)[i]? = some ((List.range m).map fun j => M i j) := get_map_range hi
theorem row_at {m : Nat} {f : Nat → Int} {j : Nat} (hj : j < m) : ((List.range m).map f).getD j 0 = f j := by
  rw [List.getD_eq_getElem?_getD, get_map_range hj]
  rfl
theorem red_next {m k : Nat} {M : Fm.Mat} {i : Nat} (hk : k < m) (hi : i + 1 < m - k) (h : ∀ t, t < k + 1 → 0 < dt (t + 1) M) :
    red ((List.range (m - k)).map fun j => bm k M 0 j) ((List.range (m - k)).map fun j => bm k M (i + 1) j) (dt k M) = (List.range (m - (k + 1))).map fun j => bm (k + 1) M i j := by
  unfold red
  rw [List.length_map, List.length_range, Nat.sub_sub]
  refine List.map_congr_left fun j hj => ?_
  have hj := List.mem_range.mp hj
  rw [row_at (by omega), row_at (by omega), row_at (by omega), row_at (by omega)]
  exact Fm.next_num h
theorem scTop : FnScope ["rows", "tops", "divisor", "top", "row"] ["rows"] (defScope sTop) := ⟨rfl, rfl, rfl, by decide +kernel, rfl, by decide +kernel, by decide +kernel⟩
/-- the loop's word: k steps are done -/
def TopW (F H : Hp) (m : Nat) (M : Fm.Mat) (q : Addr) (c : Nat) (σ : L2.St) (H' : Hp) : Prop :=
  ∃ (k : Nat) (v : V) (vt vr : Option V) (F' : Hp) (us : List V), c = m - k ∧ k ≤ m ∧ σ = [some v, some (.ref q), some (.int (dt k M)), vt, vr] ∧ (∀ t, t < k → 0 < dt (t + 1) M) ∧ IsRows F' v (bmR m k M) ∧ Acc IsRow F H q (topsL m M k) F' H' us
theorem topsL_succ (m : Nat) (M : Fm.Mat) (k : Nat) : topsL m M k ++ [(List.range (m - k)).map fun j => bm k M 0 j] = topsL m M (k + 1) := by
  unfold topsL
  rw [List.range_succ, List.map_append]
  rfl
theorem mat_len (m : Nat) (M : Fm.Mat) : (mat m M).length = m := by unfold mat; simp
theorem ok_top {f fR : Addr} {fd fdR : FuncData} (F : Fun K "top_rows" "top_rows" sTop f fd) (hrng : mg "range" = none) (hlen : mg "len" = none)
    (FR : Fun K "reduced_row" "reduced_row" sRed fR fdR) (bR : Binds K fdR ["top", "row", "divisor"] []) (mR : mg "reduced_row" = some (.ref fR)) : FnOk P w K mg base CX0 2 f fd ["rows"] spTop := by
  have GR : FnOk P w K mg base CX0 1 fR fdR ["top", "row", "divisor"] spRed := ok_red FR hrng hlen
  refine F.ok scTop (fun vs H Q E h => ?_) (fun cdv A outer s H vs Q E hr h => ?_)
  · obtain ⟨v, m, M, F, rfl, _⟩ := h
    rfl
  · obtain ⟨v, m, M, F, rfl, s0, hv, h1, h8, tame, k⟩ := h
    have nd := scTop.nd
    refine ⟨_, pss_cons (ps_set (i := 1) nd rfl (Or.inl rfl) (pe_lst pa_nil))
      (pss_cons (ps_set (i := 2) nd rfl (Or.inr rfl) pe_int)
      (pss_cons (ps_while PassesOwn.never (pt_truth (pv 0) (fun _ => rfl))
        (pss_cons (ps_set (i := 3) nd rfl (Or.inr rfl) (pe_ix ix_list (pv 0) pe_int (fun _ _ => rfl)))
        (pss_cons (ps_expr (pe_bm PySem.F.plainAttrs_list PySem.F.slot_list_append PySem.F.type_list_append mt_append (pv 1) (pa_cons (pv 3) pa_nil)))
        (pss_cons (ps_if (pt_cmpR op_le (pe_ix ix_list (pv 3) pe_int (fun _ _ => rfl)) pe_int (nomark _)) (pss_one (ps_ret (pv 1))) pss_nil)
        (pss_cons (ps_setLc (i := 0) rfl nd rfl rfl (sw_true rfl rfl rfl rfl) (pi_list (pe_slice sl_list (pv 0) (po_some pe_int) po_none)) (blkOk_by (own := [("row", 4)]) (by kernel_rfl)) (fun _ _ _ _ _ => pg_name (i := 4) nd rfl (Or.inl rfl)) (fun _ _ _ _ _ => pts_nil)
          (fun _ _ _ _ _ => pe_call GR hr rfl mR FR.kp bR .nil pass0 (pa_cons (pv 3) (pa_cons (pv 4) (pa_cons (pv 2) pa_nil)))))
        (pss_one (ps_set (i := 2) nd rfl (Or.inr rfl) (pe_ix ix_list (pv 3) pe_int (fun _ _ => rfl)))))))))
      (pss_one (ps_ret (pv 1))))), ?_⟩
    -- tops = []; divisor = 1
    refine ⟨Nat.zero_le _, fun q hq => ?_⟩
    have mz : mat m M = bmR m 0 M := by
      unfold bmR
      rw [Nat.sub_zero]
      unfold mat
      exact List.map_congr_left fun i _ => List.map_congr_left fun j _ => (Fm.bm_zero M i j).symm
    rw [mz] at hv
    refine ⟨TopW F H m M q, ⟨m, 0, v, none, none, F, [], by omega, Nat.zero_le _, rfl, fun t ht => by omega, hv, Acc.start (Ext.refl s0) hq⟩, ?_⟩
    rintro c σ H2 ⟨j, v, vt, vr, F2, us, rfl, hj, rfl, hpos, ⟨p, xs, rfl, hp, rel⟩, acc⟩
    have lenX : xs.length = m - j := by rw [Paired.length rel]; exact mat_len _ _
    refine ⟨_, rfl, _, .inl ⟨_, row_seq hp acc.same, rfl⟩, ?_⟩
    by_cases hjm : j = m
    · -- no row is left
      have e0 : xs = [] := List.eq_nil_of_length_eq_zero (by omega)
      subst e0
      refine iteF ?_
      obtain ⟨e, h, _⟩ := acc.done mono_row
      obtain ⟨j', rfl⟩ : ∃ j', j = j' + 1 := ⟨j - 1, by omega⟩
      exact ⟨_, rfl, k _ H2 _ j' e h (by omega) (fun t ht => hpos t (by omega)) (.inl hjm)⟩
    · have hlt : j < m := by omega
      obtain ⟨x0, xs', rfl⟩ : ∃ x0 xs', xs = x0 :: xs' := by
        cases xs with
        | nil => simp at lenX; omega
        | cons x y => exact ⟨x, y, rfl⟩
      refine iteT ?_
      refine ⟨TopW F H m M q (m - (j + 1)), fun σ' H' z => ⟨m - (j + 1), by omega, z⟩, ?_⟩
      obtain ⟨r0, hr0, ⟨t0, rfl, ht0⟩⟩ := pget rel (i := 0) (v := x0) rfl
      have hr0' : r0 = (List.range (m - j)).map fun c => bm j M 0 c := by
        have z := mat_row (M := bm j M) (show 0 < m - j by omega)
        exact Option.some.inj (hr0.symm.trans z)
      subst hr0'
      have len0 : ((List.range (m - j)).map fun c => bm j M 0 c).length = m - j := by simp
      have hcorner : ((List.range (m - j)).map fun c => bm j M 0 c).getD 0 0 = dt (j + 1) M := by rw [row_at (by omega), Fm.bm_lead]
      -- top = rows[0]; tops.append(top)
      refine ⟨_, rfl, p, _, 0, _, rfl, rfl, row_seq hp acc.same, at_of (j := 0) rfl rfl, ?_⟩
      refine ⟨_, rfl, .inl ⟨rfl, _, SqL.of acc.at_⟩, _, rfl, q, _, _, rfl, rfl, acc.at_, ?_, ?_⟩
      · rw [acc.len]; exact small1000 (by simp [topsL]; omega)
      obtain ⟨_, acc2⟩ := acc.step mono_row (Ext.refl acc.same) (y := .ref t0) ⟨t0, rfl, ht0⟩
      rw [topsL_succ] at acc2
      generalize upd H2 q (.lst (us ++ [.ref t0])) = H3 at acc2
      generalize us ++ [V.ref t0] = us3 at acc2
      -- if top[0] <= 0
      refine ⟨_, rfl, t0, _, 0, _, rfl, rfl, row_seq ht0 acc2.same, at_of (j := 0) rfl (getV (by omega)), ?_⟩
      rw [hcorner]
      refine ⟨_, 0, rfl, rfl, _, rfl, ite2 (fun hc => ?_) (fun hc => ?_)⟩
      · have hc : dt (j + 1) M ≤ 0 := of_decide_eq_true hc
        obtain ⟨e, h, _⟩ := acc2.done mono_row
        exact ⟨_, rfl, k _ H3 _ j e h hlt (fun t ht => hpos t ht) (.inr hc)⟩
      have hc : 0 < dt (j + 1) M := by
        have : ¬ dt (j + 1) M ≤ 0 := fun z => hc (decide_eq_true z)
        omega
      have hpos' : ∀ t, t < j + 1 → 0 < dt (t + 1) M := fun t ht => by
        by_cases e : t = j
        · subst e; exact hc
        · exact hpos t (by omega)
      -- rows = [..]
      refine ⟨_, rfl, _, rfl, p, _, rfl, row_seq hp acc2.same, fun p2 hp2 => ?_⟩
      have ec : cutV (V.ref t0 :: xs') (some 1) none = xs' := cut_from (V.ref t0 :: xs') 1
      rw [ec]
      have e5 : Ext F2 H3 (upd F2 p2 (.lst xs')) (upd H3 p2 (.lst xs')) := (Ext.refl acc2.same).put hp2
      have f5 : (upd F2 p2 (.lst xs')) p2 = some (.lst xs') := upd_same
      have acc5 := acc2.pass mono_row e5
      have ht5 := e5.ff _ _ ht0
      have rel5 : Paired (IsRow (upd F2 p2 (.lst xs'))) xs' ((bmR m j M).drop 1) := pdrop 1 (Paired.up mono_row e5.ff rel)
      generalize upd F2 p2 (.lst xs') = F5 at e5 f5 acc5 ht5 rel5
      generalize upd H3 p2 (.lst xs') = H5 at e5 acc5
      refine ⟨p2, rfl, ⟨_, row_seq f5 acc5.same⟩, fun D hD => ?_⟩
      have lenA : xs'.length = m - (j + 1) := by
        simp at lenX
        omega
      refine lc_list (K := K) (a := p2) (xs := xs') (AccP IsRow F5 H5 D (bmR m (j + 1) M)) (Acc.p0 (Ext.refl acc5.same) hD) (fun i H' _ ⟨F6, us6, a6⟩ => row_seq (a6.ext.ff _ _ f5) a6.same) ?_ ?_
      · rintro i x H' hx ⟨F6, us6, a6⟩
        have hi : i < m - (j + 1) := by
          have := (List.getElem?_eq_some_iff.mp hx).1
          omega
        obtain ⟨r, hr1, hrow⟩ := pget rel5 hx
        have er : r = (List.range (m - j)).map fun c => bm j M (i + 1) c := by
          rw [List.getElem?_drop, Nat.add_comm 1 i] at hr1
          exact Option.some.inj (hr1.symm.trans (mat_row (by omega)))
        subst er
        refine ⟨rfl, ?_⟩
        refine ⟨_, rfl, _, rfl, _, rfl, .ref t0, x, _, _, _, F6, rfl, a6.same, ⟨t0, rfl, a6.ext.ff _ _ ht5⟩, mono_row.up a6.ext.ff hrow, ?_, ?_, ?_, ?_, ?_, ?_, fun F7 H7 v7 e7 h7 => ?_⟩
        · simp
        · simp; omega
        · simp; omega
        · intro x hx
          obtain ⟨c, hc1, rfl⟩ := List.mem_map.mp hx
          exact tame j hlt hpos c (by have := List.mem_range.mp hc1; omega)
        · exact Fm.lead_pos hpos
        · cases j with
          | zero => show (1 : Int) < 2 ^ 64; decide
          | succ j =>
            have := tame j (by omega) (fun t ht => hpos t (by omega)) 0 (by omega)
            rw [Fm.bm_lead] at this
            omega
        · rw [red_next hlt (by omega) hpos'] at h7
          exact a6.next mono_row (mat_row hi) (by rw [show bmR m (j + 1) M = mat _ _ from rfl, mat_len]; omega) e7 h7
      · rintro H6 a6
        obtain ⟨F7, e7, h7⟩ := a6.done mono_row (by rw [lenA]; exact (mat_len _ _).symm)
        have acc7 := acc5.pass mono_row e7
        have ht7 := e7.ff _ _ ht5
        -- divisor = top[0]
        refine ⟨_, rfl, t0, _, 0, _, rfl, rfl, row_seq ht7 acc7.same, at_of (j := 0) rfl (getV (by omega)), ?_⟩
        rw [hcorner]
        exact ⟨j + 1, _, _, _, F7, us3, rfl, hlt, rfl, hpos', h7, acc7⟩
end
end Pr
/-! ### What is a form: is_size, is_in_bounds, is_mirrored, last_corner, is_above_zero, is_form -/
namespace Pr
open PySem PySem.Spec PyProof.Rows L2
open Fm (gm dt bm small)
abbrev sSize : Stmt := top 31
abbrev sForm : Stmt := top 32
abbrev sBounds : Stmt := top 33
abbrev sMirror : Stmt := top 34
abbrev sAbove : Stmt := top 35
abbrev sCorner : Stmt := top 36
def spSize : Sp := fun vs H Q _ => ∃ n : Int, vs = [.int n] ∧ Q (.bl (decide (1 ≤ n ∧ n ≤ 8))) H
def spBounds (K : PySem.W.Frag) : Sp := fun vs H Q _ => ∃ (a : Addr) (ns : List Int), vs = [.ref a] ∧ SqL K H a (ns.map V.int) ∧ 0 < ns.length ∧ Q (.bl (small ns)) H
def spMirror (K : PySem.W.Frag) : Sp := fun vs H Q _ => ∃ (n : Nat) (a : Addr) (ns : List Int), vs = [.int n, .ref a] ∧ SqL K H a (ns.map V.int) ∧ n ≤ 8 ∧ ns.length = n * n ∧ Q (.bl (Ql78.symmetric n (Ql78.rows n ns))) H
def spCorner (K : PySem.W.Frag) : Sp := fun vs H Q _ => ∃ (n : Nat) (a : Addr) (ns : List Int), vs = [.int n, .ref a] ∧ SqL K H a (ns.map V.int) ∧ 1 ≤ n ∧ n ≤ 8 ∧ ns.length = n * n ∧ small ns = true ∧
  ∀ (H' : Hp) (x : Int), Same H H' → (0 < x ↔ ∀ t, t < n → 0 < dt (t + 1) (gm n ns)) → (0 < x → x = dt n (gm n ns)) → Q (.int x) H'
def spAbove (K : PySem.W.Frag) : Sp := fun vs H Q _ => ∃ (n : Nat) (a : Addr) (ns : List Int), vs = [.int n, .ref a] ∧ SqL K H a (ns.map V.int) ∧ 1 ≤ n ∧ n ≤ 8 ∧ ns.length = n * n ∧ small ns = true ∧
  ∀ H' : Hp, Same H H' → Q (.bl (Ql78.positive n (Ql78.rows n ns))) H'
def spForm (K : PySem.W.Frag) : Sp := fun vs H Q _ => ∃ (n : Nat) (a : Addr) (ns : List Int), vs = [.int n, .ref a] ∧ SqL K H a (ns.map V.int) ∧ 1 ≤ n ∧ n ≤ 8 ∧ ns.length = n * n ∧
  ∀ H' : Hp, Same H H' → Q (.bl (Ql78.form n ns)) H'
section
variable {P : Program} {w : World} {K : PySem.W.Frag} {mg : Str → Option Value} {base : Heap}
theorem scSize : FnScope ["n"] ["n"] (defScope sSize) := ⟨rfl, rfl, rfl, by decide +kernel, rfl, by decide +kernel, by decide +kernel⟩
theorem ok_size {f : Addr} {fd : FuncData} (F : Fun K "is_size" "is_size" sSize f fd) (hmost : ∃ t, mg "MOST_UNKNOWNS" = some (.int 8 t)) : FnOk P w K mg base CX0 1 f fd ["n"] spSize := by
  obtain ⟨t, ht⟩ := hmost
  refine F.ok scSize (fun vs H Q E h => ?_) (fun cdv A outer s H vs Q E hr h => ?_)
  · obtain ⟨n, rfl, _⟩ := h
    rfl
  · obtain ⟨n, rfl, k⟩ := h
    refine ⟨_, pss_one (ps_ret (pe_chain op_le op_le pe_int (pv 0) (pe_glob (v := .int 8) rfl ht ⟨t, rfl⟩))), ?_⟩
    refine ⟨_, rfl, 1, n, rfl, rfl, _, rfl, ite2 (fun h1 => ⟨n, 8, rfl, rfl, ?_⟩) (fun h1 => ?_)⟩
    · have h1 : 1 ≤ n := of_decide_eq_true h1
      have e : decide (1 ≤ n ∧ n ≤ 8) = decide (n ≤ 8) := by simp [h1]
      rw [e] at k
      exact k
    · have h1 : ¬ 1 ≤ n := fun z => h1 (decide_eq_true z)
      have e : decide (1 ≤ n ∧ n ≤ 8) = false := by simp [h1]
      rw [e] at k
      exact k
theorem scBounds : FnScope ["a"] ["a"] (defScope sBounds) := ⟨rfl, rfl, rfl, by decide +kernel, rfl, by decide +kernel, by decide +kernel⟩
theorem ok_bounds {f : Addr} {fd : FuncData} (F : Fun K "is_in_bounds" "is_in_bounds" sBounds f fd) (hgreat : ∃ t, mg "GREATEST_NUMBER" = some (.int 32 t)) (hmin : mg "min" = none) (hmax : mg "max" = none) : FnOk P w K mg base CX0 1 f fd ["a"] (spBounds K) := by
  obtain ⟨t, ht⟩ := hgreat
  refine F.ok scBounds (fun vs H Q E h => ?_) (fun cdv A outer s H vs Q E hr h => ?_)
  · obtain ⟨a, ns, rfl, _⟩ := h
    rfl
  · obtain ⟨a, ns, rfl, hs, hne, k⟩ := h
    refine ⟨_, pss_one (ps_ret (pe_and (pe_cmpR op_ge (pe_callB (cr_min rfl) rfl hmin PyProof.Rows.boot_min (pa_cons (pv 0) pa_nil)) (pe_un un_neg (pe_glob (v := .int 32) rfl ht ⟨t, rfl⟩)) (nomark _))
      (pe_one (pe_cmpR op_le (pe_callB (cr_max rfl) rfl hmax PyProof.Rows.boot_max (pa_cons (pv 0) pa_nil)) (pe_glob (v := .int 32) rfl ht ⟨t, rfl⟩) (nomark _))))), ?_⟩
    refine ⟨_, rfl, a, ns, rfl, hs, hne, fun m hm hmn => ⟨32, rfl, m, -32, rfl, rfl, _, rfl, ite2 (fun h1 => ?_) (fun h1 => ?_)⟩⟩
    · have h1 : -32 ≤ m := of_decide_eq_true h1
      refine ⟨_, rfl, a, ns, rfl, hs, hne, fun g hg hmx => ⟨g, 32, rfl, rfl, ?_⟩⟩
      have e : small ns = decide (g ≤ 32) := by
        rw [Bool.eq_iff_iff]
        simp only [small, List.all_eq_true, decide_eq_true_eq]
        constructor
        · intro z
          have := z g hg
          omega
        · intro z x hx
          have h2 := hmn x hx
          have h3 := hmx x hx
          omega
      rw [e] at k
      exact k
    · have h1 : ¬ -32 ≤ m := fun z => h1 (decide_eq_true z)
      have e : small ns = false := by
        rw [Bool.eq_false_iff]
        intro z
        simp only [small, List.all_eq_true, decide_eq_true_eq] at z
        have := z m hm
        omega
      rw [e] at k
      exact k
theorem scMirror : FnScope ["n", "a", "i", "j"] ["n", "a"] (defScope sMirror) := ⟨rfl, rfl, rfl, by decide +kernel, rfl, by decide +kernel, by decide +kernel⟩
theorem ok_mirror {f : Addr} {fd : FuncData} (F : Fun K "is_mirrored" "is_mirrored" sMirror f fd) (hrng : mg "range" = none) : FnOk P w K mg base CX0 1 f fd ["n", "a"] (spMirror K) := by
  refine F.ok scMirror (fun vs H Q E h => ?_) (fun cdv A outer s H vs Q E hr h => ?_)
  · obtain ⟨n, a, ns, rfl, _⟩ := h
    rfl
  · obtain ⟨n, a, ns, rfl, hs, hn, hl, k⟩ := h
    have nd := scMirror.nd
    refine ⟨_, pss_cons (ps_for PassesOwn.never rfl (pi_range1 rfl hrng (pa_cons (pv 0) pa_nil)) (pg_name (i := 2) nd rfl (Or.inl rfl))
        (pss_one (ps_for PassesOwn.never rfl (pi_range1 rfl hrng (pa_cons (pv 2) pa_nil)) (pg_name (i := 3) nd rfl (Or.inl rfl))
          (pss_one (ps_if (pt_cmpR op_ne (pe_ix ix_list (pv 1) (pe_op op_add (pe_op op_mul (pv 2) (pv 0)) (pv 3)) (fun _ _ => rfl))
            (pe_ix ix_list (pv 1) (pe_op op_add (pe_op op_mul (pv 3) (pv 0)) (pv 2)) (fun _ _ => rfl)) (nomark _)) (pss_one (ps_ret pe_bl)) pss_nil)))))
      (pss_one (ps_ret pe_bl)), ?_⟩
    refine ⟨_, rfl, (n : Int), rfl, by omega, by omega, ?_⟩
    rw [Int.toNat_natCast]
    refine for_range (lo := 0) (n := n) (fun i σ H' => ∃ vi vj, σ = [some (.int n), some (.ref a), vi, vj] ∧ H' = H ∧ ∀ i' j', i' < i → j' < i' → gm n ns i' j' = gm n ns j' i') ⟨none, none, rfl, rfl, fun i' j' h => by omega⟩ ?_ ?_
    · rintro i σ H' hi ⟨vi, vj, rfl, rfl, hyp⟩
      refine ⟨_, rfl, (0 + (i : Int)), rfl, by omega, by omega, ?_⟩
      rw [Int.zero_add, Int.toNat_natCast]
      refine for_range (lo := 0) (n := i) (fun j σ H'' => ∃ vj, σ = [some (.int n), some (.ref a), some (.int i), vj] ∧ H'' = H' ∧ ∀ j', j' < j → gm n ns i j' = gm n ns j' i) ⟨vj, by simp, rfl, fun j' h => by omega⟩ ?_ ?_
      · rintro j σ H'' hj ⟨vj, rfl, rfl, hyp2⟩
        have b1 := Fm.ix_lt (n := n) (i := i) (j := j) hi (by omega)
        have b2 := Fm.ix_lt (n := n) (i := j) (j := i) (by omega) hi
        refine ⟨_, rfl, _, rfl, _, rfl, (i : Int), (n : Int), rfl, rfl, .inl ⟨by omega, by omega⟩, _, rfl, _, _, rfl, rfl, a, _, _, _, rfl, rfl, hs, at_of (j := n * i + j) ?_ (getV (by rw [hl]; exact b1)), ?_⟩
        · rw [Int.zero_add, Int.natCast_add, Int.natCast_mul, Int.mul_comm]
        refine ⟨_, rfl, _, rfl, _, rfl, (0 + (j : Int)), (n : Int), rfl, rfl, .inl ⟨by omega, by omega⟩, _, rfl, _, _, rfl, rfl, a, _, _, _, rfl, rfl, hs, at_of (j := n * j + i) ?_ (getV (by rw [hl]; exact b2)), rfl, _, rfl, ?_⟩
        · rw [Int.zero_add, Int.natCast_add, Int.natCast_mul, Int.mul_comm]
        refine ite2 (fun hne => ?_) (fun heq => ?_)
        · -- they differ
          have hne : ¬ gm n ns i j = gm n ns j i := fun z => by
            have z' : ns.getD (n * i + j) 0 = ns.getD (n * j + i) 0 := z
            rw [z'] at hne
            simp at hne
          have e : Ql78.symmetric n (Ql78.rows n ns) = false := by
            rw [Bool.eq_false_iff]
            intro z
            exact hne ((Fm.symmetric_iff n ns).mp z i j hi hj)
          rw [e] at k
          exact k
        · have heq : gm n ns i j = gm n ns j i := by
            have : decide (V.int (ns.getD (n * i + j) 0) = V.int (ns.getD (n * j + i) 0)) = true := by
              cases q : decide (V.int (ns.getD (n * i + j) 0) = V.int (ns.getD (n * j + i) 0)) with
              | true => rfl
              | false => rw [q] at heq; exact absurd rfl heq
            have := of_decide_eq_true this
            injection this
          refine ⟨_, rfl, rfl, fun j' hj' => ?_⟩
          by_cases e : j' = j
          · subst e; exact heq
          · exact hyp2 j' (by omega)
      · rintro σ H'' ⟨vj, rfl, rfl, hyp2⟩
        refine ⟨_, _, rfl, rfl, fun i' j' h1 h2 => ?_⟩
        by_cases e : i' = i
        · subst e; exact hyp2 j' h2
        · exact hyp i' j' (by omega) h2
    · rintro σ H' ⟨vi, vj, rfl, rfl, hyp⟩
      have e : Ql78.symmetric n (Ql78.rows n ns) = true := (Fm.symmetric_iff n ns).mpr hyp
      rw [e] at k
      exact k
theorem tame_small {n : Nat} {ns : List Int} (h8 : n ≤ 8) (h : small ns = true) : Tame n (gm n ns) := fun k hk _ j hj => Fm.bm_small h8 (fun i j _ _ => Fm.small_mt h i j) (by omega) hj
theorem scCorner : FnScope ["n", "a"] ["n", "a"] (defScope sCorner) := ⟨rfl, rfl, rfl, by decide +kernel, rfl, by decide +kernel, by decide +kernel⟩
theorem ok_corner {f fS fT : Addr} {fd fdS fdT : FuncData} (F : Fun K "last_corner" "last_corner" sCorner f fd)
    (GS : FnOk P w K mg base CX0 1 fS fdS ["n", "a"] (spSplit K)) (kS : PySem.W.keepIn K (.ref fS) = true) (bS : Binds K fdS ["n", "a"] []) (mS : mg "split_rows" = some (.ref fS))
    (GT : FnOk P w K mg base CX0 2 fT fdT ["rows"] spTop) (kT : PySem.W.keepIn K (.ref fT) = true) (bT : Binds K fdT ["rows"] []) (mT : mg "top_rows" = some (.ref fT)) : FnOk P w K mg base CX0 3 f fd ["n", "a"] (spCorner K) := by
  refine F.ok scCorner (fun vs H Q E h => ?_) (fun cdv A outer s H vs Q E hr h => ?_)
  · obtain ⟨n, a, ns, rfl, _⟩ := h
    rfl
  · obtain ⟨n, a, ns, rfl, hs, h1, h8, hl, hsm, k⟩ := h
    have hr1 : Room 1 _ := hr.mono (by decide)
    refine ⟨_, pss_one (ps_ret (pe_ix ix_list (pe_ix ix_list (pe_call GT hr rfl mT kT bT .nil pass0 (pa_cons (pe_call GS hr1 rfl mS kS bS .nil pass0 (pa_cons (pv 0) (pa_cons (pv 1) pa_nil))) pa_nil)) (pe_un un_neg pe_int) (fun _ _ => rfl)) pe_int (fun _ _ => rfl))), ?_⟩
    refine ⟨_, rfl, _, rfl, n, a, ns, H, rfl, hs, h8, hl, .refl H, fun F1 H1 v1 e1 hv1 => ?_⟩
    refine ⟨v1, n, gm n ns, F1, rfl, e1.inn, hv1, h1, h8, tame_small h8 hsm, fun F2 H2 v2 j e2 hv2 hj hpos hend => ?_⟩
    obtain ⟨p, xs, rfl, hp, rel⟩ := hv2
    have hrow : (topsL n (gm n ns) (j + 1))[j]? = some ((List.range (n - j)).map fun c => bm j (gm n ns) 0 c) := get_map_range (by omega)
    obtain ⟨x, hx, ⟨t, rfl, ht⟩⟩ := pget' rel hrow
    have hlen : xs.length = j + 1 := by rw [Paired.length rel]; simp [topsL]
    refine ⟨1, rfl, p, _, _, _, rfl, rfl, row_seq hp e2.inn, atI_end hlen hx, t, _, 0, _, rfl, rfl, row_seq ht e2.inn, at_of (j := 0) rfl (getV (by simp; omega)), ?_⟩
    rw [row_at (by omega), Fm.bm_lead]
    refine k H2 _ (e1.hh.trans e2.hh) ⟨fun h t ht => ?_, fun h => h j hj⟩ fun h => ?_
    · rcases hend with q | q
      · by_cases z : t = j
        · rw [z]; exact h
        · exact hpos t (by omega)
      · omega
    · rcases hend with q | q
      · rw [q]
      · omega
theorem scAbove : FnScope ["n", "a"] ["n", "a"] (defScope sAbove) := ⟨rfl, rfl, rfl, by decide +kernel, rfl, by decide +kernel, by decide +kernel⟩
theorem ok_above {f fL : Addr} {fd fdL : FuncData} (F : Fun K "is_above_zero" "is_above_zero" sAbove f fd)
    (GL : FnOk P w K mg base CX0 3 fL fdL ["n", "a"] (spCorner K)) (kL : PySem.W.keepIn K (.ref fL) = true) (bL : Binds K fdL ["n", "a"] []) (mL : mg "last_corner" = some (.ref fL)) : FnOk P w K mg base CX0 4 f fd ["n", "a"] (spAbove K) := by
  refine F.ok scAbove (fun vs H Q E h => ?_) (fun cdv A outer s H vs Q E hr h => ?_)
  · obtain ⟨n, a, ns, rfl, _⟩ := h
    rfl
  · obtain ⟨n, a, ns, rfl, hs, h1, h8, hl, hsm, k⟩ := h
    refine ⟨_, pss_one (ps_ret (pe_cmpR op_gt (pe_call GL hr rfl mL kL bL .nil pass0 (pa_cons (pv 0) (pa_cons (pv 1) pa_nil))) pe_int (nomark _))), ?_⟩
    refine ⟨_, rfl, _, rfl, n, a, ns, rfl, hs, h1, h8, hl, hsm, fun H1 x s1 hx _ => ⟨x, 0, rfl, rfl, ?_⟩⟩
    have e : Ql78.positive n (Ql78.rows n ns) = decide (0 < x) := by
      rw [Bool.eq_iff_iff, Fm.positive_iff, decide_eq_true_eq]
      exact hx.symm
    have z := k H1 s1
    rw [e] at z
    exact z
theorem scForm : FnScope ["n", "a"] ["n", "a"] (defScope sForm) := ⟨rfl, rfl, rfl, by decide +kernel, rfl, by decide +kernel, by decide +kernel⟩
theorem ok_form {f fB fM fA : Addr} {fd fdB fdM fdA : FuncData} (F : Fun K "is_form" "is_form" sForm f fd)
    (GB : FnOk P w K mg base CX0 1 fB fdB ["a"] (spBounds K)) (kB : PySem.W.keepIn K (.ref fB) = true) (bB : Binds K fdB ["a"] []) (mB : mg "is_in_bounds" = some (.ref fB))
    (GM : FnOk P w K mg base CX0 1 fM fdM ["n", "a"] (spMirror K)) (kM : PySem.W.keepIn K (.ref fM) = true) (bM : Binds K fdM ["n", "a"] []) (mM : mg "is_mirrored" = some (.ref fM))
    (GA : FnOk P w K mg base CX0 4 fA fdA ["n", "a"] (spAbove K)) (kA : PySem.W.keepIn K (.ref fA) = true) (bA : Binds K fdA ["n", "a"] []) (mA : mg "is_above_zero" = some (.ref fA)) : FnOk P w K mg base CX0 5 f fd ["n", "a"] (spForm K) := by
  refine F.ok scForm (fun vs H Q E h => ?_) (fun cdv A outer s H vs Q E hr h => ?_)
  · obtain ⟨n, a, ns, rfl, _⟩ := h
    rfl
  · obtain ⟨n, a, ns, rfl, hs, h1, h8, hl, k⟩ := h
    have hr1 : Room 1 _ := hr.mono (by decide)
    have hpos : 0 < ns.length := by
      rw [hl]
      exact Nat.mul_pos h1 h1
    rw [Fm.form_eq] at k
    refine ⟨_, pss_one (ps_ret (pe_and (pe_call GB hr1 rfl mB kB bB .nil pass0 (pa_cons (pv 1) pa_nil)) (pe_and (pe_call GM hr1 rfl mM kM bM .nil pass0 (pa_cons (pv 0) (pa_cons (pv 1) pa_nil)))
      (pe_one (pe_call GA hr rfl mA kA bA .nil pass0 (pa_cons (pv 0) (pa_cons (pv 1) pa_nil))))))), ?_⟩
    refine ⟨_, rfl, a, ns, rfl, hs, hpos, _, rfl, ite2 (fun h2 => ?_) (fun h2 => ?_)⟩
    · rw [h2, Bool.true_and] at k
      refine ⟨_, rfl, _, rfl, n, a, ns, rfl, hs, h8, hl, _, rfl, ite2 (fun h3 => ?_) (fun h3 => ?_)⟩
      · rw [h3, Bool.true_and] at k
        exact ⟨_, rfl, _, rfl, n, a, ns, rfl, hs, h1, h8, hl, h2, k⟩
      · rw [Bool.eq_false_iff.mpr h3, Bool.false_and] at k
        exact k H (Same.refl H)
    · rw [Bool.eq_false_iff.mpr h2, Bool.false_and] at k
      exact k H (Same.refl H)
end
end Pr
/-! ### Choices: whole_root, empty_choice, grow, grown_choices -/
namespace Pr
open PySem PySem.Spec PyProof.Rows L2
open Fm (gm dt bm small vec rt zl zs chs chL colL colsL ck mk Latt gr)
abbrev sEmpty : Stmt := top 5
abbrev sGrowns : Stmt := top 6
abbrev sGrow : Stmt := top 7
abbrev sRoot : Stmt := top 8
def spRoot : Sp := fun vs H Q _ => ∃ N : Int, vs = [.int N] ∧ 0 ≤ N ∧ N < 2 ^ 100 ∧ Q (.int (rt N)) H
section
variable {P : Program} {w : World} {K : PySem.W.Frag} {mg : Str → Option Value} {base : Heap}
theorem scRoot : FnScope ["number", "root"] ["number"] (defScope sRoot) := ⟨rfl, rfl, rfl, by decide +kernel, rfl, by decide +kernel, by decide +kernel⟩
theorem root_start {N : Int} (h : 0 ≤ N) : N < (1 * 2 ^ (((Builtin.Int.intBits N : Nat) : Int) + 1).toNat.div 2) * (1 * 2 ^ (((Builtin.Int.intBits N : Nat) : Int) + 1).toNat.div 2) := by
  have z := bits_lt h
  generalize Builtin.Int.intBits N = b at *
  have e : (((b : Nat) : Int) + 1).toNat = b + 1 := by omega
  rw [e, Int.one_mul, ← Int.pow_add]
  have : (2 : Int) ^ b ≤ 2 ^ ((b + 1).div 2 + (b + 1).div 2) := by
    have l : b ≤ (b + 1).div 2 + (b + 1).div 2 := by
      have : (b + 1).div 2 = (b + 1) / 2 := rfl
      omega
    have q := Nat.pow_le_pow_right (show 0 < 2 by decide) l
    have c : ∀ k : Nat, (2 : Int) ^ k = ((2 ^ k : Nat) : Int) := fun k => by rw [Int.natCast_pow]; rfl
    rw [c, c]
    exact Int.ofNat_le.mpr q
  omega
/-- Newton's step -/
theorem newton {N r : Int} (hN : 0 ≤ N) (hr : 0 ≤ r) (h : N < r * r) : 0 < r ∧ 0 ≤ (r + N / r) / 2 ∧ (r + N / r) / 2 < r ∧ N < ((r + N / r) / 2 + 1) * ((r + N / r) / 2 + 1) := by
  have r0 : 0 < r := by
    rcases Int.lt_or_eq_of_le hr with q | q
    · exact q
    · subst q; omega
  have q0 : 0 ≤ N / r := Int.ediv_nonneg hN hr
  have q1 : N / r < r := Int.ediv_lt_of_lt_mul r0 h
  have q2 : N < r * (N / r + 1) := by
    have := Int.lt_ediv_add_one_mul_self N r0
    rw [Int.mul_comm]
    exact this
  generalize N / r = q at *
  have a1 : 2 * ((r + q) / 2) ≤ r + q := by omega
  have a2 : r + q ≤ 2 * ((r + q) / 2) + 1 := by omega
  refine ⟨r0, by omega, by omega, ?_⟩
  generalize (r + q) / 2 = t at *
  have s := Fm.sq_nn (r - (q + 1))
  have e1 : (r - (q + 1)) * (r - (q + 1)) = (r + q + 1) * (r + q + 1) - 4 * (r * (q + 1)) := by grind
  have e2 : (r + q + 1) * (r + q + 1) ≤ (2 * (t + 1)) * (2 * (t + 1)) := Int.mul_le_mul (by omega) (by omega) (by omega) (by omega)
  have e3 : (2 * (t + 1)) * (2 * (t + 1)) = 4 * ((t + 1) * (t + 1)) := by grind
  omega
theorem ok_root {f : Addr} {fd : FuncData} (F : Fun K "whole_root" "whole_root" sRoot f fd) : FnOk P w K mg base CX0 1 f fd ["number"] spRoot := by
  refine F.ok scRoot (fun vs H Q E h => ?_) (fun cdv A outer s H vs Q E hr h => ?_)
  · obtain ⟨N, rfl, _⟩ := h
    rfl
  · obtain ⟨N, rfl, h0, h1, k⟩ := h
    have nd := scRoot.nd
    refine ⟨_, pss_cons (ps_set (i := 1) nd rfl (Or.inl rfl) (pe_op op_shl pe_int (pe_op op_fdivB (pe_op op_add (pe_bm0 PySem.F.plainAttrs_int PySem.F.slot_int_bit_length PySem.F.type_int_bit_length mt_bitlen (pv 0)) pe_int) pe_int)))
      (pss_cons (ps_while PassesOwn.never (pt_cmpR op_gt (pe_op op_mul (pv 1) (pv 1)) (pv 0) (nomark _))
        (pss_one (ps_set (i := 1) nd rfl (Or.inl rfl) (pe_op op_fdivB (pe_op op_add (pv 1) (pe_op op_fdivB (pv 0) (pv 1))) pe_int))))
      (pss_one (ps_ret (pv 1)))), ?_⟩
    have hb : Builtin.Int.intBits N ≤ 100 := bits_le (by omega)
    refine ⟨_, rfl, rfl, N, rfl, rfl, _, _, rfl, rfl, _, _, rfl, rfl, ⟨by decide, by decide⟩, _, _, rfl, rfl, ⟨by omega, by omega, by decide⟩, ?_⟩
    have hs := root_start h0
    have e0 : (((Builtin.Int.intBits N : Nat) : Int) + 1).toNat.div 2 = ((((Builtin.Int.intBits N : Nat) : Int) + 1) / 2).toNat := by
      show (((Builtin.Int.intBits N : Nat) : Int) + 1).toNat / 2 = _
      omega
    rw [e0] at hs
    have hle : (1 : Int) * 2 ^ ((((Builtin.Int.intBits N : Nat) : Int) + 1) / 2).toNat ≤ 2 ^ 51 := by
      rw [Int.one_mul]
      have l : ((((Builtin.Int.intBits N : Nat) : Int) + 1) / 2).toNat ≤ 51 := by omega
      have q := Nat.pow_le_pow_right (show 0 < 2 by decide) l
      have c : ∀ k : Nat, (2 : Int) ^ k = ((2 ^ k : Nat) : Int) := fun k => by rw [Int.natCast_pow]; rfl
      rw [c, c]
      exact Int.ofNat_le.mpr q
    have hnn : (0 : Int) ≤ 1 * 2 ^ ((((Builtin.Int.intBits N : Nat) : Int) + 1) / 2).toNat := by
      rw [Int.one_mul]
      exact Int.le_of_lt (Fm.pow_pos (by decide) _)
    refine ⟨fun c σ H' => ∃ r : Int, σ = [some (.int N), some (.int r)] ∧ c = r.toNat ∧ H' = H ∧ 0 ≤ r ∧ r ≤ 2 ^ 51 ∧ N < (r + 1) * (r + 1), ⟨_, _, rfl, rfl, rfl, hnn, hle, ?_⟩, ?_⟩
    · generalize (1 : Int) * 2 ^ ((((Builtin.Int.intBits N : Nat) : Int) + 1) / 2).toNat = r0 at *
      have : (r0 + 1) * (r0 + 1) = r0 * r0 + 2 * r0 + 1 := by grind
      omega
    · rintro c σ H' ⟨r, rfl, rfl, rfl, hr0, hr1, hN⟩
      refine ⟨_, rfl, _, rfl, r, r, rfl, rfl, .inl ⟨by omega, by omega⟩, _, rfl, _, _, rfl, rfl, _, rfl, ite2 (fun hc => ?_) (fun hc => ?_)⟩
      · have hc : N < r * r := of_decide_eq_true hc
        obtain ⟨n1, n2, n3, n4⟩ := newton h0 hr0 hc
        refine ⟨fun σ' H'' => ∃ r' : Int, σ' = [some (.int N), some (.int r')] ∧ r'.toNat < r.toNat ∧ H'' = H' ∧ 0 ≤ r' ∧ r' ≤ 2 ^ 51 ∧ N < (r' + 1) * (r' + 1), fun σ' H'' ⟨r', e1, e2, e3, e4, e5, e6⟩ => ⟨r'.toNat, e2, r', e1, rfl, e3, e4, e5, e6⟩, ?_⟩
        exact ⟨_, rfl, _, rfl, _, rfl, N, r, rfl, rfl, ⟨n1, by omega⟩, r, N / r, rfl, rfl, _, 2, rfl, rfl, ⟨by decide, by decide⟩, _, rfl, by omega, rfl, n2, by omega, n4⟩
      · have hc : ¬ N < r * r := fun z => hc (decide_eq_true z)
        refine ⟨_, rfl, ?_⟩
        have e : rt N = r := Fm.rt_unique ⟨hr0, by omega, hN⟩
        rw [← e]
        exact k
theorem scEmpty : FnScope ["n"] ["n"] (defScope sEmpty) := ⟨rfl, rfl, rfl, by decide +kernel, rfl, by decide +kernel, by decide +kernel⟩
def spEmpty : Sp := fun vs H Q _ => ∃ (n : Nat) (F : Hp), vs = [.int n] ∧ n ≤ 8 ∧ Same F H ∧ ∀ (F' H' : Hp) (v : V), Ext F H F' H' → IsCh F' v (0, vec (n + n) fun _ => 0) → Q v H'
theorem rep_zero (n : Nat) : (List.replicate n [V.int 0]).flatten = (vec n fun _ => 0).map V.int := by
  unfold vec
  rw [List.map_map]
  apply List.ext_getElem?
  intro i
  by_cases h : i < n
  · rw [get_map_range h]
    rw [List.flatten_replicate_singleton, List.getElem?_replicate, if_pos h]
    rfl
  · rw [List.flatten_replicate_singleton, List.getElem?_replicate, if_neg h, List.getElem?_eq_none (by simp; omega)]
theorem ok_empty {f : Addr} {fd : FuncData} (F : Fun K "empty_choice" "empty_choice" sEmpty f fd) : FnOk P w K mg base CX0 1 f fd ["n"] spEmpty := by
  refine F.ok scEmpty (fun vs H Q E h => ?_) (fun cdv A outer s H vs Q E hr h => ?_)
  · obtain ⟨n, F, rfl, _⟩ := h
    rfl
  · obtain ⟨n, F, rfl, h8, s0, k⟩ := h
    refine ⟨_, pss_one (ps_ret (pe_tup (pa_cons pe_int (pa_cons (pe_op op_rep (pe_lst (pa_cons pe_int pa_nil)) (pe_op op_mul pe_int (pv 0))) pa_nil)))), ?_⟩
    refine ⟨(by show 1 ≤ sizeLine; decide), fun p hp => ?_⟩
    refine ⟨_, rfl, _, _, rfl, rfl, .inl ⟨by decide, by decide⟩, p, _, _, rfl, rfl, upd_same, by omega, by omega, ?_, fun q hq => ?_⟩
    · show 1 * (2 * (n : Int)).toNat ≤ sizeLine
      rw [sizeLine_eq]; omega
    have e : (2 * (n : Int)).toNat = n + n := by omega
    rw [e, rep_zero]
    refine ⟨(by show 2 ≤ sizeLine; decide), fun r hr2 => ?_⟩
    have e1 : Ext F H F (upd H p (.lst [V.int 0])) := (Ext.refl s0).loc hp (s0.free hp)
    have e2 := e1.put (o := .lst ((vec (n + n) fun _ => 0).map V.int)) hq
    have e3 := e2.put (o := .tup [.int 0, .ref q]) hr2
    refine k _ _ _ e3 ⟨r, _, _, rfl, upd_same, rfl, q, rfl, ?_⟩
    rw [upd_ne (fun z => by rw [z, upd_same] at hr2; cases hr2), upd_same]
theorem scGrow : FnScope ["choice", "column", "before", "most", "grown", "spent", "marks", "corner", "beside", "reach", "number", "side", "more", "x", "y"] ["choice", "column", "before", "most", "grown"] (defScope sGrow) := ⟨rfl, rfl, rfl, by decide +kernel, rfl, by decide +kernel, by decide +kernel⟩
/-- what grow appends -/
def grL (p : Nat) (S b m : Int) (f h : Nat → Int) : List (Int × List Int) := (zl (h p) (rt (b * (h p * m - S))) (f p)).map fun z => (((h p * z + f p) * (h p * z + f p) + b * S) / h p, vec p fun i => f i + z * h i)
def spGrow : Sp := fun vs H Q _ => ∃ (vc vl : V) (g : Addr) (p : Nat) (S b m : Int) (f h : Nat → Int) (F0 H0 F : Hp) (us : List V) (l : List (Int × List Int)), vs = [vc, vl, .int b, .int m, .ref g] ∧
  IsCh F vc (S, vec (p + 1) f) ∧ IsRow F vl (vec (p + 1) h) ∧ Acc IsCh F0 H0 g l F H us ∧ p ≤ 15 ∧ 0 < h p ∧ h p < 2 ^ 56 ∧ 0 < b ∧ b < 2 ^ 56 ∧ 0 ≤ b * (h p * m - S) ∧ b * (h p * m - S) < 2 ^ 100 ∧ (f p).natAbs < 2 ^ 58 ∧ (∀ i, i < p → (h i).natAbs < 2 ^ 56) ∧
  l.length + (grL p S b m f h).length < 16777216 ∧ ∀ (F' H' : Hp) (us' : List V), Acc IsCh F0 H0 g (l ++ grL p S b m f h) F' H' us' → Same F F' → Q .non H'
theorem rt_bound {N : Int} (h0 : 0 ≤ N) (h1 : N < 2 ^ 100) : 0 ≤ rt N ∧ rt N < 2 ^ 51 := by
  obtain ⟨a, b, c⟩ := Fm.rt_is h0
  refine ⟨a, ?_⟩
  rcases Fm.lt_or_ge (rt N) (2 ^ 51) with q | q
  · exact q
  · have := Int.mul_le_mul q q (by decide) a
    have e : (2 : Int) ^ 51 * 2 ^ 51 = 2 ^ 102 := by decide
    omega
theorem vec_cut (p : Nat) (f : Nat → Int) : cutV ((vec (p + 1) f).map V.int) none (some (-1)) = (vec p f).map V.int := by
  unfold cutV
  have e : HT.sIx ((vec (p + 1) f).map V.int).length ((vec (p + 1) f).map V.int).length (some (-1)) = p := by
    rw [List.length_map, Fm.vec_length]
    show (if (-1 : Int) < 0 then ((-1 : Int) + ((p + 1 : Nat) : Int)).toNat else min (-1 : Int).toNat (p + 1)) = p
    rw [if_pos (by decide)]
    omega
  rw [e, HT.sIx_none, List.drop_zero, Nat.sub_zero]
  unfold vec
  rw [← List.map_take, ← List.map_take, List.take_range, Nat.min_eq_left (by omega)]
theorem vecV {p : Nat} {f : Nat → Int} {i : Nat} (h : i < p) : ((vec p f).map V.int)[i]? = some (.int (f i)) := by
  rw [List.getElem?_map, Fm.vec_get h]
  rfl
theorem vec_i {p : Nat} {f : Nat → Int} {i : Nat} {x : V} (h : ((vec p f).map V.int)[i]? = some x) : i < p ∧ x = .int (f i) := by
  have hi : i < p := by
    have := (List.getElem?_eq_some_iff.mp h).1
    rw [List.length_map, Fm.vec_length] at this
    exact this
  rw [vecV hi] at h
  exact ⟨hi, (Option.some.inj h).symm⟩
theorem div_in {c x : Int} {B : Nat} (hc : 0 < c) (hx : x.natAbs < B) : (x / c).natAbs ≤ B := by
  have h1 : x / c * c ≤ x := Int.ediv_mul_le _ (by omega)
  have h2 : x < (x / c + 1) * c := Int.lt_ediv_add_one_mul_self x hc
  generalize x / c = q at *
  rcases Fm.lt_or_ge q 0 with n | n
  · have : (q + 1) * c ≤ (q + 1) * 1 := Int.mul_le_mul_of_nonpos_left (by omega) (by omega)
    omega
  · have : q * 1 ≤ q * c := Int.mul_le_mul_of_nonneg_left (by omega) n
    omega
theorem ok_grow {f fR : Addr} {fd fdR : FuncData} (F : Fun K "grow" "grow" sGrow f fd) (hrng : mg "range" = none) (hzip : mg "zip" = none)
    (GR : FnOk P w K mg base CX0 1 fR fdR ["number"] spRoot) (kR : PySem.W.keepIn K (.ref fR) = true) (bR : Binds K fdR ["number"] []) (mR : mg "whole_root" = some (.ref fR)) : FnOk P w K mg base CX0 2 f fd ["choice", "column", "before", "most", "grown"] spGrow := by
  refine F.ok scGrow (fun vs H Q E h => ?_) (fun cdv A outer s H vs Q E hr h => ?_)
  · obtain ⟨vc, vl, g, p, S, b, m, f, h, F0, H0, F, us, l, rfl, _⟩ := h
    rfl
  · obtain ⟨vc, vl, g, p, S, b, m, f, h, F0, H0, F, us, l, rfl, ⟨ca, v1, v2, rfl, hca, (rfl : v1 = .int S), ma, rfl, hma⟩, ⟨la, rfl, hla⟩, acc, h15, c0, c1, b0, b1, n0, n1, f1, hs, hlen, k⟩ := h
    have nd := scGrow.nd
    refine ⟨_, pss_cons (ps_set (i := 5) nd rfl (Or.inl rfl) (pe_ix ix_tup (pv 0) pe_int (fun _ _ => rfl)))
      (pss_cons (ps_set (i := 6) nd rfl (Or.inl rfl) (pe_ix ix_tup (pv 0) pe_int (fun _ _ => rfl)))
      (pss_cons (ps_set (i := 7) nd rfl (Or.inl rfl) (pe_ix ix_list (pv 1) (pe_un un_neg pe_int) (fun _ _ => rfl)))
      (pss_cons (ps_set (i := 8) nd rfl (Or.inl rfl) (pe_ix ix_list (pv 6) (pe_un un_neg pe_int) (fun _ _ => rfl)))
      (pss_cons (ps_set (i := 9) nd rfl (Or.inl rfl) (pe_call GR hr rfl mR kR bR .nil pass0 (pa_cons (pe_op op_mul (pv 2) (pe_op op_sub (pe_op op_mul (pv 7) (pv 3)) (pv 5))) pa_nil)))
      (pss_one (ps_for PassesOwn.never rfl (pi_range2 rfl hrng (pa_cons (pe_un un_neg (pe_op op_fdivB (pe_op op_add (pv 9) (pv 8)) (pv 7))) (pa_cons (pe_op op_add (pe_op op_fdivB (pe_op op_sub (pv 9) (pv 8)) (pv 7)) pe_int) pa_nil))) (pg_name (i := 10) nd rfl (Or.inr rfl))
        (pss_cons (ps_set (i := 11) nd rfl (Or.inl rfl) (pe_op op_add (pe_op op_mul (pv 7) (pv 10)) (pv 8)))
        (pss_cons (ps_setLc (i := 12) rfl nd rfl rfl (sw_true rfl rfl rfl rfl) (pi_zip rfl hzip (pa_cons (pe_slice sl_list (pv 6) po_none (po_some (pe_un un_neg pe_int))) (pa_cons (pv 1) pa_nil))) (blkOk_by (own := [("x", 13), ("y", 14)]) (by kernel_rfl))
          (fun _ _ _ _ _ => pg_pair K (i := 13) (j := 14) rfl nd rfl rfl (Or.inl rfl) (Or.inl rfl)) (fun _ _ _ _ _ => pts_nil)
          (fun _ _ _ _ _ => pe_op op_add (pv 13) (pe_op op_mul (pv 10) (pv 14))))
        (pss_one (ps_expr (pe_bm PySem.F.plainAttrs_list PySem.F.slot_list_append PySem.F.type_list_append mt_append (pv 4) (pa_cons (pe_tup (pa_cons (pe_op op_fdivB (pe_op op_add (pe_op op_mul (pv 11) (pv 11)) (pe_op op_mul (pv 2) (pv 5))) (pv 7)) (pa_cons (pv 12) pa_nil))) pa_nil)))))))))))), ?_⟩
    have sFH := acc.same
    refine ⟨_, rfl, ca, _, 0, _, rfl, rfl, SqT.of (sFH _ _ hca), at_of (j := 0) rfl rfl, ?_⟩
    refine ⟨_, rfl, ca, _, 1, _, rfl, rfl, SqT.of (sFH _ _ hca), at_of (j := 1) rfl rfl, ?_⟩
    refine ⟨_, rfl, 1, rfl, la, _, _, _, rfl, rfl, row_seq hla sFH, atI_end (k := p) (by rw [List.length_map, Fm.vec_length]) (vecV (by omega)), ?_⟩
    refine ⟨_, rfl, 1, rfl, ma, _, _, _, rfl, rfl, row_seq hma sFH, atI_end (k := p) (by rw [List.length_map, Fm.vec_length]) (vecV (by omega)), ?_⟩
    refine ⟨_, rfl, _, rfl, _, rfl, h p, m, rfl, rfl, .inl ⟨by omega, by omega⟩, _, rfl, _, _, rfl, rfl, _, _, rfl, rfl, .inl ⟨by omega, by omega⟩, b * (h p * m - S), rfl, n0, n1, ?_⟩
    obtain ⟨r0, r1⟩ := rt_bound n0 n1
    have hgr : grL p S b m f h = (zl (h p) (rt (b * (h p * m - S))) (f p)).map fun z => (((h p * z + f p) * (h p * z + f p) + b * S) / h p, vec p fun i => f i + z * h i) := rfl
    generalize hR : rt (b * (h p * m - S)) = r at r0 r1 hgr
    have d1 := div_in (x := r + f p) (B := 2 ^ 59) c0 (by omega)
    have d2 := div_in (x := r - f p) (B := 2 ^ 59) c0 (by omega)
    have elo : zl (h p) r (f p) = (List.range ((r - f p) / h p + (r + f p) / h p + 1).toNat).map fun (t : Nat) => -((r + f p) / h p) + (t : Int) := rfl
    have hcl : (grL p S b m f h).length = ((r - f p) / h p + (r + f p) / h p + 1).toNat := by rw [hgr, List.length_map, elo, List.length_map, List.length_range]
    refine ⟨_, rfl, _, rfl, _, _, rfl, rfl, _, rfl, _, _, rfl, rfl, ⟨c0, by omega⟩, _, rfl, _, rfl, _, rfl, _, _, rfl, rfl, _, rfl, _, _, rfl, rfl, ⟨c0, by omega⟩, _, _, rfl, rfl, _, _, rfl, ⟨by omega, by omega, by omega, by omega⟩, ?_⟩
    have ecnt : ((r - f p) / h p + 1 - -((r + f p) / h p)).toNat = (grL p S b m f h).length := by rw [hcl]; congr 1; omega
    rw [ecnt]
    refine for_range (lo := -((r + f p) / h p)) (n := (grL p S b m f h).length) (fun i σ H' => ∃ (F' : Hp) (us' : List V) (o1 o2 o3 o4 o5 : Option V), σ = [some (.ref ca), some (.ref la), some (.int b), some (.int m), some (.ref g), some (.int S), some (.ref ma), some (.int (h p)), some (.int (f p)), some (.int r), o1, o2, o3, o4, o5] ∧ Acc IsCh F0 H0 g (l ++ (grL p S b m f h).take i) F' H' us' ∧ Same F F') ⟨F, us, none, none, none, none, none, rfl, by simpa using acc, .refl F⟩ ?_ ?_
    · rintro i σ H' hi ⟨F1, us1, o1, o2, o3, o4, o5, rfl, acc1, s1⟩
      have hz : (grL p S b m f h)[i]? = some (((h p * (-((r + f p) / h p) + (i : Int)) + f p) * (h p * (-((r + f p) / h p) + (i : Int)) + f p) + b * S) / h p, vec p fun j => f j + (-((r + f p) / h p) + (i : Int)) * h j) := by
        rw [hgr, List.getElem?_map, elo, List.getElem?_map, List.getElem?_range (by omega)]
        rfl
      have zin : -((r + f p) / h p) + (i : Int) ∈ zl (h p) r (f p) := by
        rw [elo]
        exact List.mem_map.mpr ⟨i, List.mem_range.mpr (by omega), rfl⟩
      have zin := (Fm.mem_zl c0).mp zin
      generalize -((r + f p) / h p) + (i : Int) = z at hz zin
      have hma1 := s1 _ _ hma
      have hla1 := s1 _ _ hla
      -- side = corner * number + beside
      refine ⟨_, rfl, _, rfl, h p, z, rfl, rfl, .inl ⟨by omega, by omega⟩, _, rfl, _, _, rfl, rfl, ?_⟩
      -- more = [..]
      refine ⟨_, rfl, 1, rfl, _, rfl, ma, _, rfl, row_seq hma1 acc1.same, fun p2 hp2 => ?_⟩
      rw [vec_cut]
      have e2 : Ext F1 H' (upd F1 p2 (.lst ((vec p f).map V.int))) (upd H' p2 (.lst ((vec p f).map V.int))) := (Ext.refl acc1.same).put hp2
      have f2 : (upd F1 p2 (.lst ((vec p f).map V.int))) p2 = some (.lst ((vec p f).map V.int)) := upd_same
      have acc2 := acc1.pass mono_ch e2
      have hla2 := e2.ff _ _ hla1
      have s2 := s1.trans e2.ff
      generalize upd F1 p2 (.lst ((vec p f).map V.int)) = F2 at e2 f2 acc2 hla2 s2
      generalize upd H' p2 (.lst ((vec p f).map V.int)) = H2 at e2 acc2
      refine ⟨_, rfl, p2, la, _, _, rfl, row_seq f2 acc2.same, row_seq hla2 acc2.same, fun D hD => ?_⟩
      refine lc_zip (K := K) (a := p2) (b := la) (xs := (vec p f).map V.int) (ys := (vec (p + 1) h).map V.int) (AccP IsI F2 H2 D (vec p fun j => f j + z * h j)) (Acc.p0 (Ext.refl acc2.same) hD) (fun j H' ⟨F3, us3, a3⟩ => ⟨row_seq (a3.ext.ff _ _ f2) a3.same, row_seq (a3.ext.ff _ _ hla2) a3.same⟩) ?_ ?_
      · rintro j x y T H3 hx hy ⟨F3, us3, a3⟩ hT
        obtain ⟨hj, rfl⟩ := vec_i hx
        obtain ⟨hj2, rfl⟩ := vec_i hy
        refine ⟨T, _, rfl, SqT.of upd_same, rfl, _, _, rfl, _, _, rfl, rfl, rfl, ?_⟩
        have e4 : Ext F3 H3 (upd F3 T (.tup [.int (f j), .int (h j)])) (upd H3 T (.tup [.int (f j), .int (h j)])) := (Ext.refl a3.same).put hT
        refine ⟨_, rfl, _, rfl, _, rfl, z, h j, rfl, rfl, mul_ok' (hs j hj), f j, z * h j, rfl, rfl, ?_⟩
        exact a3.next mono_i (Fm.vec_get hj) (by rw [Fm.vec_length]; omega) e4 rfl
      · rintro H3 a3
        obtain ⟨F4, e4, h4⟩ := a3.done mono_i (by rw [List.length_map, List.length_map, Fm.vec_length, Fm.vec_length, Fm.vec_length]; omega)
        have acc4 := acc2.pass mono_ch e4
        -- grown.append((.., more))
        refine ⟨_, rfl, .inl ⟨rfl, _, SqL.of acc4.at_⟩, _, rfl, _, rfl, _, _, rfl, rfl, .inl ⟨by omega, by omega⟩, _, rfl, _, rfl, b, S, rfl, rfl, .inl ⟨by omega, by omega⟩, _, _, rfl, rfl, _, rfl, _, _, rfl, rfl, ⟨c0, by omega⟩, _, rfl, (by show 2 ≤ sizeLine; decide), fun q hq => ?_⟩
        have e5 : Ext F4 H3 _ _ := (Ext.refl acc4.same).put (o := .tup [.int (((h p * z + f p) * (h p * z + f p) + b * S) / h p), .ref D]) hq
        obtain ⟨g5, acc5⟩ := acc4.step mono_ch e5 (y := .ref q) (x := (((h p * z + f p) * (h p * z + f p) + b * S) / h p, vec p fun j => f j + z * h j)) ⟨q, _, _, rfl, upd_same, rfl, mono_row.up e5.ff (row_of h4)⟩
        refine ⟨g, _, _, rfl, rfl, g5, ?_, ?_⟩
        · rw [acc4.len, List.length_append, List.length_take]
          exact small24 (by omega)
        · refine ⟨_, us1 ++ [.ref q], _, _, _, _, _, rfl, ?_, s2.trans (e4.ff.trans e5.ff)⟩
          rw [List.take_add_one, hz, ← List.append_assoc]
          exact acc5
    · rintro σ H' ⟨F1, us1, o1, o2, o3, o4, o5, rfl, acc1, s1⟩
      rw [List.take_length] at acc1
      exact k F1 H' us1 acc1 s1
end
end Pr
/-! ### grown_choices -/
namespace Pr
open PySem PySem.Spec PyProof.Rows L2
open Fm (gm dt bm small vec rt zl zs chs chL colL colsL ck mk Latt gr sp side addz Mat)
theorem grL_is {n : Nat} {M C : Mat} (t : Latt n M C) {m : Int} {a : Nat} (ha : a < n) (w y : Nat → Int) :
    grL (n + a) (sp n (gr n M C) (a + 1) y) (dt a (gr n M C)) m (mk n C (gr n M C) w y) (ck n C (gr n M C) a) = (zs n (gr n M C) m a y).map fun z => chL n C (gr n M C) a w (addz y a z) := by
  unfold grL zs
  rw [Fm.ck_corner, Fm.mk_side]
  refine List.map_congr_left fun z _ => ?_
  unfold chL
  rw [Fm.sp_next ha t.sym t.lead y z]
  congr 1
  exact Fm.vec_congr fun i _ => (Fm.mk_addz ha z i).symm
/-- what is asked of a start -/
structure StartOk (n : Nat) (M C : Mat) (m : Int) (k : Nat) (y0 : Nat → Int) : Prop where
  latt : Latt n M C
  m0 : 0 ≤ m
  m1 : m ≤ 64
  le : sp n (gr n M C) k y0 ≤ dt k (gr n M C) * m
  half : ∀ c, c < k → - dt (c + 1) (gr n M C) ≤ 2 * side n (gr n M C) c y0 ∧ 2 * side n (gr n M C) c y0 ≤ dt (c + 1) (gr n M C)
def spGrowns : Sp := fun vs H Q _ => ∃ (n : Nat) (M C : Mat) (k kc to' : Nat) (m : Int) (w' y0 : Nat → Int) (F : Hp) (vl vs' : V), vs = [.int n, vl, vs', .int to', .int m] ∧ Same F H ∧
  IsRows F vl (colsL n C (gr n M C) kc) ∧ IsCh F vs' (chL n C (gr n M C) k w' y0) ∧ StartOk n M C m k y0 ∧ k ≤ kc ∧ kc ≤ n ∧ to' ≤ k ∧ k - to' ≤ 4 ∧
  ∀ (F' H' : Hp) (v : V), Ext F H F' H' → IsChs F' v ((chs n (gr n M C) m k y0 (k - to')).map (chL n C (gr n M C) to' w')) → Q v H'
section
variable {P : Program} {w : World} {K : PySem.W.Frag} {mg : Str → Option Value} {base : Heap}
theorem scGrowns : FnScope ["n", "columns", "start", "to", "most", "last", "choices", "at", "before", "grown", "choice"] ["n", "columns", "start", "to", "most"] (defScope sGrowns) := ⟨rfl, rfl, rfl, by decide +kernel, rfl, by decide +kernel, by decide +kernel⟩
theorem take_flat {α β : Type} {l : List α} {f : α → List β} {i : Nat} {x : α} (h : l[i]? = some x) : (l.take (i + 1)).flatMap f = (l.take i).flatMap f ++ f x := by
  rw [List.take_add_one, h, List.flatMap_append]
  simp
theorem take_flat_len {α β : Type} (l : List α) (f : α → List β) (i : Nat) : ((l.take i).flatMap f).length ≤ (l.flatMap f).length := by
  conv => rhs; rw [← List.take_append_drop i l, List.flatMap_append, List.length_append]
  omega
theorem col_at {n : Nat} {C G : Mat} {kc j : Nat} (h : j < kc) : (colsL n C G kc)[j]? = some (vec (n + j + 1) (ck n C G j)) := get_map_range h
theorem len44 {n : Nat} {M C : Mat} {m : Int} {k : Nat} {y0 : Nat → Int} (st : StartOk n M C m k y0) (hk : k ≤ n) {i : Nat} (hi : i ≤ k) (h4 : i ≤ 4) : (chs n (gr n M C) m k y0 i).length < 16777216 := by
  have z := Fm.len_chs (K := 44) hk (fun j y hj h => Fm.zs44 st.latt.frm.low st.m0 st.m1 st.latt.sym st.latt.lead st.latt.slow (by omega) h) st.latt.sym st.latt.lead st.le i hi
  have : (44 : Nat) ^ i ≤ 44 ^ 4 := Nat.pow_le_pow_right (by decide) h4
  have e : (44 : Nat) ^ 4 = 3748096 := by decide
  omega
theorem ok_growns {f fG : Addr} {fd fdG : FuncData} (F : Fun K "grown_choices" "grown_choices" sGrowns f fd) (hrng : mg "range" = none) (hlen : mg "len" = none)
    (GG : FnOk P w K mg base CX0 2 fG fdG ["choice", "column", "before", "most", "grown"] spGrow) (kG : PySem.W.keepIn K (.ref fG) = true) (bG : Binds K fdG ["choice", "column", "before", "most", "grown"] []) (mG : mg "grow" = some (.ref fG)) :
    FnOk P w K mg base CX0 3 f fd ["n", "columns", "start", "to", "most"] spGrowns := by
  refine F.ok scGrowns (fun vs H Q E h => ?_) (fun cdv A outer s H vs Q E hr h => ?_)
  · obtain ⟨n, M, C, k, kc, to', m, w', y0, F, vl, vs', rfl, _⟩ := h
    rfl
  · obtain ⟨n, M, C, k, kc, to', m, w', y0, F, vl, vs', rfl, s0, ⟨la, xl, rfl, hla, rel⟩, hst, st, hkc, hkn, hto, h4, kk⟩ := h
    have nd := scGrowns.nd
    have t := st.latt
    have h8 := t.frm.low
    generalize hG : gr n M C = G at *
    have hst0 := hst
    obtain ⟨sa, v1, v2, rfl, hsa, (rfl : v1 = .int _), ma, rfl, hma⟩ := hst0
    refine ⟨_, pss_cons (ps_set (i := 5) nd rfl (Or.inl rfl) (pe_op op_sub (pe_op op_sub (pe_callB call_len_seq rfl hlen PySem.boot_len (pa_cons (pe_ix ix_tup (pv 2) pe_int (fun _ _ => rfl)) pa_nil)) (pv 0)) pe_int))
      (pss_cons (ps_set (i := 6) nd rfl (Or.inl rfl) (pe_lst (pa_cons (pv 2) pa_nil)))
      (pss_cons (ps_for PassesOwn.never rfl (pi_range3 rfl hrng (pa_cons (pv 5) (pa_cons (pe_op op_sub (pv 3) pe_int) (pa_cons (pe_un un_neg pe_int) pa_nil)))) (pg_name (i := 7) nd rfl (Or.inl rfl))
        (pss_cons (ps_set (i := 8) nd rfl (Or.inl rfl) (pe_ifExp (pt_cmpR op_gt (pv 7) pe_int (nomark _)) (pe_ix ix_list (pe_ix ix_list (pv 1) (pe_op op_sub (pv 7) pe_int) (fun _ _ => rfl)) (pe_un un_neg pe_int) (fun _ _ => rfl)) pe_int))
        (pss_cons (ps_set (i := 9) nd rfl (Or.inl rfl) (pe_lst pa_nil))
        (pss_cons (ps_for PassesOwn.never rfl (pi_list (pv 6)) (pg_name (i := 10) nd rfl (Or.inl rfl))
          (pss_one (ps_expr (pe_call GG hr rfl mG kG bG .nil pass0 (pa_cons (pv 10) (pa_cons (pe_ix ix_list (pv 1) (pv 7) (fun _ _ => rfl)) (pa_cons (pv 8) (pa_cons (pv 4) (pa_cons (pv 9) pa_nil)))))))))
        (pss_one (ps_set (i := 6) nd rfl (Or.inl rfl) (pv 9)))))))
      (pss_one (ps_ret (pv 6))))), ?_⟩
    -- last = len(start[1]) - n - 1
    refine ⟨_, rfl, sa, _, 1, _, rfl, rfl, SqT.of (s0 _ _ hsa), at_of (j := 1) rfl rfl, ma, _, rfl, .inl (row_seq hma s0), _, rfl, _, _, rfl, rfl, _, _, rfl, rfl, ?_⟩
    -- choices = [start]
    refine ⟨_, rfl, (by show 1 ≤ sizeLine; decide), fun q hq => ?_⟩
    have e1 : Ext F H (upd F q (.lst [.ref sa])) (upd H q (.lst [.ref sa])) := (Ext.refl s0).put hq
    have c1 : IsChs (upd F q (.lst [.ref sa])) (.ref q) ((chs n G m k y0 0).map (chL n C G k w')) := ⟨q, _, rfl, upd_same, .cons (mono_ch.up e1.ff hst) .nil⟩
    generalize upd F q (.lst [.ref sa]) = F1 at e1 c1
    generalize upd H q (.lst [.ref sa]) = H1 at e1
    refine ⟨_, rfl, _, rfl, _, _, rfl, rfl, 1, rfl, (k : Int) - 1, (to' : Int) - 1, -1, k - to', ?_, ?_, ?_⟩
    · have el : ((chL n C G k w' y0).snd.map V.int).length = n + k := by rw [List.length_map]; exact Fm.vec_length _ _
      rw [el]
      show [V.int (((n + k : Nat) : Int) - n - 1), V.int ((to' : Int) - 1), V.int (-1)] = _
      rw [show ((n + k : Nat) : Int) - n - 1 = (k : Int) - 1 by omega]
    · have z := RgC.neg (i := (k : Int) - 1) (j := (to' : Int) - 1) (by omega) (by omega) (by omega) (by omega)
      rwa [show ((k : Int) - 1 - ((to' : Int) - 1)).toNat = k - to' by omega] at z
    refine for_rangeC (lo := (k : Int) - 1) (c := -1) (n := k - to') (fun i σ H' => ∃ (F' : Hp) (v : V) (o0 o1 o2 o3 o4 : Option V), σ = [some (.int n), some (.ref la), some (.ref sa), some (.int to'), some (.int m), o0, some v, o1, o2, o3, o4] ∧ Ext F H F' H' ∧ IsChs F' v ((chs n G m k y0 i).map (chL n C G (k - i) w'))) ⟨F1, .ref q, _, none, none, none, none, rfl, e1, c1⟩ ?_ ?_
    · rintro i σ H2 hi ⟨F2, v, o0, o1, o2, o3, o4, rfl, e2, ⟨qa, xs, rfl, hqa, relx⟩⟩
      obtain ⟨a, ha⟩ : ∃ a, k - 1 - i = a := ⟨_, rfl⟩
      have ea : (k : Int) - 1 + (i : Int) * -1 = (a : Int) := by omega
      rw [ea]
      have e3 : k - i = a + 1 := by omega
      rw [e3] at relx
      have hla2 := e2.ff _ _ hla
      have rel2 := Paired.up mono_row e2.ff rel
      have d0 := t.dt_small (show a ≤ n by omega)
      have d1 := t.dt_small (show a + 1 ≤ n by omega)
      rw [hG] at d0 d1
      -- before
      have bef : ∀ Q' : V → Hp → Prop, Q' (.int (dt a G)) H2 → tIf (tTest (tOp (rI0 fun i j => V.bl (decide (j < i))) (tVar 7) (tC (V.int 0)))) (tOp (rIxL K) (tOp (rIxL K) (tVar 1) (tOp (rI0 fun i j => V.int (i - j)) (tVar 7) (tC (V.int 1)))) (tUn (rU fun i => V.int (-i)) (tC (V.int 1)))) (tC (V.int 1)) [some (.int n), some (.ref la), some (.ref sa), some (.int to'), some (.int m), o0, some (.ref qa), some (.int a), o2, o3, o4] H2 Q' := fun Q' hq' => by
        refine ⟨_, rfl, _, 0, rfl, rfl, _, rfl, ite2 (fun hc => ?_) (fun hc => ?_)⟩
        · have hc : (0 : Int) < a := of_decide_eq_true hc
          obtain ⟨b, rfl⟩ : ∃ b, a = b + 1 := ⟨a - 1, by omega⟩
          obtain ⟨x, hx, ⟨xa, rfl, hxa⟩⟩ := pget' rel2 (col_at (show b < kc by omega))
          refine ⟨_, rfl, _, rfl, _, _, rfl, rfl, la, _, _, _, rfl, rfl, row_seq hla2 e2.inn, at_of (j := b) (by omega) hx, 1, rfl, xa, _, _, _, rfl, rfl, row_seq hxa e2.inn, atI_end (k := n + b) (by rw [List.length_map, Fm.vec_length]) (vecV (by omega)), ?_⟩
          rw [Fm.ck_corner]
          exact hq'
        · have hc : a = 0 := by
            have : ¬ (0 : Int) < a := fun z => hc (decide_eq_true z)
            omega
          subst hc
          exact hq'
      refine bef _ ?_
      -- grown = []
      refine ⟨Nat.zero_le _, fun g hg => ?_⟩
      have acc0 : Acc IsCh F2 H2 g ([] : List (Int × List Int)) F2 (upd H2 g (.lst [])) [] := Acc.start (Ext.refl e2.inn) hg
      refine ⟨_, rfl, qa, rfl, ⟨_, row_seq hqa acc0.same⟩, ?_⟩
      have lenx : xs.length = (chs n G m k y0 i).length := by rw [Paired.length relx, List.length_map]
      have hnext : chs n G m k y0 (i + 1) = (chs n G m k y0 i).flatMap fun y => (zs n G m a y).map (addz y a) := by rw [chs, ha]
      have l44 : (chs n G m k y0 (i + 1)).length < 16777216 := by
        have := len44 st (by omega) (show i + 1 ≤ k by omega) (by omega)
        rwa [hG] at this
      have lflat : ((chs n G m k y0 i).flatMap fun y => (zs n G m a y).map fun z => chL n C G a w' (addz y a z)).length = (chs n G m k y0 (i + 1)).length := by
        rw [hnext, List.length_flatMap, List.length_flatMap]
        simp
      refine for_list (K := K) (a := qa) (xs := xs) (fun j σ H' => ∃ (F' : Hp) (us : List V) (o4 : Option V), σ = [some (.int n), some (.ref la), some (.ref sa), some (.int to'), some (.int m), o0, some (.ref qa), some (.int a), some (.int (dt a G)), some (.ref g), o4] ∧
        Acc IsCh F2 H2 g (((chs n G m k y0 i).take j).flatMap fun y => (zs n G m a y).map fun z => chL n C G a w' (addz y a z)) F' H' us ∧ Same F2 F') ⟨F2, [], o4, rfl, acc0, .refl _⟩ (fun j σ H' _ ⟨F', us, o4, _, acc, s'⟩ => row_seq (s' _ _ hqa) acc.same) ?_ ?_
      · rintro j x σ H3 hx ⟨F3, us, o4, rfl, acc, s3⟩
        obtain ⟨ch, hch, hxc⟩ := pget relx hx
        obtain ⟨y, hy, rfl⟩ : ∃ y, (chs n G m k y0 i)[j]? = some y ∧ ch = chL n C G (a + 1) w' y := by
          rw [List.getElem?_map] at hch
          cases e : (chs n G m k y0 i)[j]? with
          | none => rw [e] at hch; cases hch
          | some y => rw [e] at hch; exact ⟨y, rfl, (Option.some.inj hch).symm⟩
        have ymem := List.mem_of_getElem? hy
        have hsp := ((Fm.mem_chs (hG ▸ t.sym) (hG ▸ t.lead) (by omega) (hG ▸ st.le) i (by omega) y).mp ymem).2
        rw [e3] at hsp
        have sd := Fm.side_chs h8 st.m0 st.m1 (hG ▸ t.sym) (hG ▸ t.lead) (hG ▸ t.slow) (hG ▸ t.half) (by omega) (hG ▸ st.le) (hG ▸ st.half) i (by omega) y ymem a (by omega)
        have sm := Fm.side_small d1.1 d1.2 (by omega) sd.1 sd.2
        have rs := Fm.reach_small t st.m0 st.m1 (show a < n by omega) (y := y) (by rw [hG]; exact hsp)
        rw [hG] at rs
        have gis := grL_is t (m := m) (show a < n by omega) w' y
        rw [hG] at gis
        obtain ⟨cl, hcl, hclr⟩ := pget' rel2 (col_at (show a < kc by omega))
        refine ⟨_, rfl, _, rfl, _, rfl, la, _, _, _, rfl, rfl, row_seq (s3 _ _ hla2) acc.same, at_of (j := a) rfl hcl, _, rfl, _, rfl, _, rfl, ?_⟩
        refine ⟨x, cl, g, n + a, sp n G (a + 1) y, dt a G, m, mk n C G w' y, ck n C G a, F2, H2, F3, us, _, rfl, mono_ch.up s3 hxc, mono_row.up s3 hclr, acc, by omega, ?_, ?_, d0.1, by omega, ?_, ?_, ?_, ?_, ?_, fun F4 H4 us4 acc4 s4 => ?_⟩
        · rw [Fm.ck_corner]; exact d1.1
        · rw [Fm.ck_corner]; omega
        · rw [Fm.ck_corner]; exact rs.1
        · rw [Fm.ck_corner]; exact rs.2
        · rw [Fm.mk_side]; omega
        · intro c hc
          have := t.lll.bas.ck_small t.frm (show a < n by omega) (show c < n + a + 1 by omega)
          rwa [hG] at this
        · rw [gis, ← List.length_append, ← take_flat (f := fun y => (zs n G m a y).map fun z => chL n C G a w' (addz y a z)) hy]
          exact Nat.lt_of_le_of_lt (take_flat_len _ _ _) (by rw [lflat]; exact l44)
        · rw [gis, ← take_flat (f := fun y => (zs n G m a y).map fun z => chL n C G a w' (addz y a z)) hy] at acc4
          exact ⟨F4, us4, _, rfl, acc4, s3.trans s4⟩
      · rintro σ H3 ⟨F3, us, o4, rfl, acc, s3⟩
        rw [lenx, List.take_length] at acc
        obtain ⟨e5, h5, _⟩ := acc.done mono_ch
        refine ⟨_, rfl, ?_⟩
        refine ⟨_, .ref g, _, _, _, _, _, rfl, e2.trans e5, ?_⟩
        have e6 : k - (i + 1) = a := by omega
        rw [e6, hnext, List.map_flatMap]
        simp only [List.map_map]
        exact h5
    · rintro σ H2 ⟨F2, v, o0, o1, o2, o3, o4, rfl, e2, h2⟩
      rw [show k - (k - to') = to' by omega] at h2
      exact ⟨_, rfl, kk F2 H2 v e2 h2⟩
end
end Pr
/-! ### The reduction: product_sum, unit_rows, changed_rows, columns_of, settle, is_less_swapped, reduced_columns -/
namespace Pr
open PySem PySem.Spec PyProof.Rows L2
open Fm (gm dt bm small vec chL colL colsL ck mk Latt gr sp side addz Mat sm pr tp stl Bas Frm Lll one xc ur)
abbrev sProd : Stmt := top 14
abbrev sUnit : Stmt := top 11
abbrev sChg : Stmt := top 13
abbrev sCols : Stmt := top 12
abbrev sSettle : Stmt := top 15
abbrev sLess : Stmt := top 16
abbrev sReduced : Stmt := top 10
/-- k rows of n numbers -/
def rowsL (n k : Nat) (C : Mat) : List (List Int) := (List.range k).map fun i => vec n (C i)
theorem rowsL_at {n k : Nat} {C : Mat} {i : Nat} (h : i < k) : (rowsL n k C)[i]? = some (vec n (C i)) := get_map_range h
theorem rowsL_len (n k : Nat) (C : Mat) : (rowsL n k C).length = k := by unfold rowsL; simp
theorem mat_rows (m : Nat) (M : Mat) : mat m M = rowsL m m M := rfl
def spProd : Sp := fun vs H Q _ => ∃ (v1 v2 : V) (n : Nat) (f g : Nat → Int) (F : Hp), vs = [v1, v2] ∧ Same F H ∧ IsRow F v1 (vec n f) ∧ IsRow F v2 (vec n g) ∧ n ≤ 8 ∧ ((∀ i, i < n → (f i).natAbs < 2 ^ 56) ∨ ∀ i, i < n → (g i).natAbs < 2 ^ 56) ∧
  ∀ F' H' : Hp, Ext F H F' H' → Q (.int (sm n fun i => f i * g i)) H'
def spUnit : Sp := fun vs H Q _ => ∃ (n : Nat) (F : Hp), vs = [.int n] ∧ n ≤ 8 ∧ Same F H ∧ ∀ (F' H' : Hp) (p : Addr) (us : List V), Acc IsRow F H p (rowsL n n one) F' H' us → Q (.ref p) H'
def spChg : Sp := fun vs H Q _ => ∃ (v1 v2 : V) (n k : Nat) (M C : Mat) (F : Hp), vs = [v1, v2] ∧ Same F H ∧ IsRows F v1 (mat n M) ∧ IsRows F v2 (rowsL n k C) ∧ n ≤ 8 ∧ k ≤ n ∧ Fm.Symm n M ∧ (∀ i c, i < k → c < n → (C i c).natAbs < 2 ^ 56) ∧
  ∀ (F' H' : Hp) (v : V), Ext F H F' H' → IsRows F' v (mat k (gr n M C)) → Q v H'
def spCols : Sp := fun vs H Q _ => ∃ (v1 v2 : V) (n k : Nat) (M C : Mat) (F : Hp), vs = [v1, v2] ∧ Same F H ∧ IsRows F v1 (mat n M) ∧ IsRows F v2 (rowsL n k C) ∧ Frm n M ∧ Bas n M C ∧ 1 ≤ k ∧ k ≤ n ∧
  ∀ (F' H' : Hp) (v : V), Ext F H F' H' → IsRows F' v (colsL n C (gr n M C) k) → Q v H'
section
variable {P : Program} {w : World} {K : PySem.W.Frag} {mg : Str → Option Value} {base : Heap}
theorem scProd : FnScope ["left", "right", "x", "y"] ["left", "right"] (defScope sProd) := ⟨rfl, rfl, rfl, by decide +kernel, rfl, by decide +kernel, by decide +kernel⟩
theorem ok_prod {f : Addr} {fd : FuncData} (F : Fun K "product_sum" "product_sum" sProd f fd) (hzip : mg "zip" = none) (hsum : mg "sum" = none) : FnOk P w K mg base CX0 1 f fd ["left", "right"] spProd := by
  refine F.ok scProd (fun vs H Q E h => ?_) (fun cdv A outer s H vs Q E hr h => ?_)
  · obtain ⟨v1, v2, n, f, g, F, rfl, _⟩ := h
    rfl
  · obtain ⟨v1, v2, n, f, g, F, rfl, s0, ⟨a, rfl, ha⟩, ⟨b, rfl, hb⟩, h8, hs, k⟩ := h
    have nd := scProd.nd
    refine ⟨_, pss_one (ps_ret (pe_callB (cr_sum rfl) rfl hsum PyProof.Rows.boot_sum (pa_cons (pe_lc rfl nd (pi_zip rfl hzip (pa_cons (pv 0) (pa_cons (pv 1) pa_nil))) (blkOk_by (own := [("x", 2), ("y", 3)]) (by kernel_rfl))
      (fun _ _ _ _ _ => pg_pair K (i := 2) (j := 3) rfl nd rfl rfl (Or.inl rfl) (Or.inl rfl)) (fun _ _ _ _ _ => pts_nil) (fun _ _ _ _ _ => pe_op op_mul (pv 2) (pv 3))) pa_nil))), ?_⟩
    refine ⟨_, rfl, _, rfl, a, b, _, _, rfl, row_seq ha s0, row_seq hb s0, fun D hD => ?_⟩
    refine lc_zip (K := K) (a := a) (b := b) (xs := (vec n f).map V.int) (ys := (vec n g).map V.int) (AccP IsI F H D (vec n fun i => f i * g i)) (Acc.p0 (Ext.refl s0) hD) (fun j H' ⟨F3, us3, a3⟩ => ⟨row_seq (a3.ext.ff _ _ ha) a3.same, row_seq (a3.ext.ff _ _ hb) a3.same⟩) ?_ ?_
    · rintro j x y T H3 hx hy ⟨F3, us3, a3⟩ hT
      obtain ⟨hj, rfl⟩ := vec_i hx
      obtain ⟨hj2, rfl⟩ := vec_i hy
      refine ⟨T, _, rfl, SqT.of upd_same, rfl, _, _, rfl, _, _, rfl, rfl, rfl, ?_⟩
      refine ⟨_, rfl, _, rfl, f j, g j, rfl, rfl, ?_, ?_⟩
      · rcases hs with q | q
        · exact mul_ok (q j hj)
        · exact mul_ok' (q j hj)
      · exact a3.next mono_i (Fm.vec_get hj) (by rw [Fm.vec_length]; omega) ((Ext.refl a3.same).put hT) rfl
    · rintro H3 a3
      obtain ⟨F4, e4, h4⟩ := a3.done mono_i (by rw [List.length_map, List.length_map, Fm.vec_length, Fm.vec_length, Fm.vec_length]; omega)
      obtain ⟨d, hd, hd2⟩ := row_of h4
      cases hd
      refine ⟨D, _, rfl, row_seq hd2 e4.inn, ?_⟩
      have e : (vec n fun i => f i * g i).sum = sm n fun i => f i * g i := Fm.sm_list _ n
      rw [e]
      exact k F4 H3 e4
theorem scUnit : FnScope ["n", "i", "j"] ["n"] (defScope sUnit) := ⟨rfl, rfl, rfl, by decide +kernel, rfl, by decide +kernel, by decide +kernel⟩
theorem ok_unit {f : Addr} {fd : FuncData} (F : Fun K "unit_rows" "unit_rows" sUnit f fd) (hrng : mg "range" = none) : FnOk P w K mg base CX0 1 f fd ["n"] spUnit := by
  refine F.ok scUnit (fun vs H Q E h => ?_) (fun cdv A outer s H vs Q E hr h => ?_)
  · obtain ⟨n, F, rfl, _⟩ := h
    rfl
  · obtain ⟨n, F, rfl, h8, s0, k⟩ := h
    have nd := scUnit.nd
    refine ⟨_, pss_one (ps_ret (pe_lc rfl nd (pi_range1 rfl hrng (pa_cons (pv 0) pa_nil)) (blkOk_by (own := [("i", 1)]) (by kernel_rfl)) (fun _ _ _ _ _ => pg_name (i := 1) nd rfl (Or.inr rfl)) (fun _ _ _ _ _ => pts_nil)
      (fun _ _ _ _ _ => pe_lc rfl nd (pi_range1 rfl hrng (pa_cons (pv 0) pa_nil)) (blkOk_by (own := [("j", 2)]) (by kernel_rfl)) (fun _ _ _ _ _ => pg_name (i := 2) nd rfl (Or.inl rfl)) (fun _ _ _ _ _ => pts_nil)
        (fun _ _ _ _ _ => pe_ifExp (pt_cmpR op_eq (pv 1) (pv 2) (nomark _)) pe_int pe_int)))), ?_⟩
    refine ⟨_, rfl, (n : Int), rfl, by omega, by omega, ?_⟩
    rw [Int.toNat_natCast]
    intro D hD
    refine lc_range (lo := 0) (n := n) (AccP IsRow F H D (rowsL n n one)) (Acc.p0 (Ext.refl s0) hD) ?_ ?_
    · rintro i H' hi ⟨F1, us, a1⟩
      refine ⟨rfl, ?_⟩
      refine ⟨_, rfl, (n : Int), rfl, by omega, by omega, ?_⟩
      rw [Int.toNat_natCast]
      intro D2 hD2
      refine lc_range (lo := 0) (n := n) (AccP IsI F1 H' D2 (vec n (one i))) (Acc.p0 (Ext.refl a1.same) hD2) ?_ ?_
      · rintro j H2 hj ⟨F2, us2, a2⟩
        refine ⟨rfl, ?_⟩
        refine ⟨_, rfl, _, rfl, rfl, _, rfl, ite2 (fun hc => ?_) (fun hc => ?_)⟩
        · have hc := of_decide_eq_true hc
          have e : i = j := by
            injection hc with hc
            omega
          refine a2.next mono_i (x := 1) ?_ (by rw [Fm.vec_length]; omega) (Ext.refl a2.same) rfl
          rw [Fm.vec_get hj]
          unfold one
          rw [if_pos e]
        · have e : ¬ i = j := fun z => hc (decide_eq_true (by rw [z]))
          refine a2.next mono_i (x := 0) ?_ (by rw [Fm.vec_length]; omega) (Ext.refl a2.same) rfl
          rw [Fm.vec_get hj]
          unfold one
          rw [if_neg e]
      · rintro H2 a2
        obtain ⟨F3, e3, h3⟩ := a2.done mono_i (by rw [Fm.vec_length])
        exact a1.next mono_row (rowsL_at hi) (by rw [rowsL_len]; omega) e3 (row_of h3)
    · rintro H' ⟨F1, us, a1⟩
      rw [List.take_of_length_le (by rw [rowsL_len]; omega)] at a1
      exact k F1 H' D us a1
theorem scChg : FnScope ["rows", "basis", "halves", "line", "row", "half"] ["rows", "basis"] (defScope sChg) := ⟨rfl, rfl, rfl, by decide +kernel, rfl, by decide +kernel, by decide +kernel⟩
theorem ok_chg {f fP : Addr} {fd fdP : FuncData} (F : Fun K "changed_rows" "changed_rows" sChg f fd)
    (GP : FnOk P w K mg base CX0 1 fP fdP ["left", "right"] spProd) (kP : PySem.W.keepIn K (.ref fP) = true) (bP : Binds K fdP ["left", "right"] []) (mP : mg "product_sum" = some (.ref fP)) : FnOk P w K mg base CX0 2 f fd ["rows", "basis"] spChg := by
  refine F.ok scChg (fun vs H Q E h => ?_) (fun cdv A outer s H vs Q E hr h => ?_)
  · obtain ⟨v1, v2, n, k, M, C, F, rfl, _⟩ := h
    rfl
  · obtain ⟨v1, v2, n, k, M, C, F, rfl, s0, ⟨a, xs, rfl, ha, relM⟩, ⟨b, ys, rfl, hb, relC⟩, h8, hk, sym, small, kk⟩ := h
    have nd := scChg.nd
    refine ⟨_, pss_cons (ps_setLc (i := 2) rfl nd rfl rfl (sw_true rfl rfl rfl rfl) (pi_list (pv 1)) (blkOk_by (own := [("line", 3)]) (by kernel_rfl)) (fun _ _ _ _ _ => pg_name (i := 3) nd rfl (Or.inr rfl)) (fun _ _ _ _ _ => pts_nil)
        (fun _ _ _ _ _ => pe_lc rfl nd (pi_listK K (pv 0)) (blkOk_by (own := [("row", 4)]) (by kernel_rfl)) (fun _ _ _ _ _ => pg_name (i := 4) nd rfl (Or.inl rfl)) (fun _ _ _ _ _ => pts_nil)
          (fun _ _ _ _ _ => pe_call GP hr rfl mP kP bP .nil pass0 (pa_cons (pv 3) (pa_cons (pv 4) pa_nil)))))
      (pss_one (ps_ret (pe_lc rfl nd (pi_list (pv 2)) (blkOk_by (own := [("half", 5)]) (by kernel_rfl)) (fun _ _ _ _ _ => pg_name (i := 5) nd rfl (Or.inr rfl)) (fun _ _ _ _ _ => pts_nil)
        (fun _ _ _ _ _ => pe_lc rfl nd (pi_listK K (pv 1)) (blkOk_by (own := [("line", 3)]) (by kernel_rfl)) (fun _ _ _ _ _ => pg_name (i := 3) nd rfl (Or.inl rfl)) (fun _ _ _ _ _ => pts_nil)
          (fun _ _ _ _ _ => pe_call GP hr rfl mP kP bP .nil pass0 (pa_cons (pv 5) (pa_cons (pv 3) pa_nil))))))), ?_⟩
    have lenX : xs.length = n := by rw [Paired.length relM]; exact mat_len _ _
    have lenY : ys.length = k := by rw [Paired.length relC]; exact rowsL_len _ _ _
    let hf : Mat := fun i r => sm n fun c => C i c * M r c
    refine ⟨_, rfl, b, rfl, ⟨_, row_seq hb s0⟩, fun D hD => ?_⟩
    refine lc_list (K := K) (a := b) (xs := ys) (AccP IsRow F H D (rowsL n k hf)) (Acc.p0 (Ext.refl s0) hD) (fun i H' _ ⟨F1, us, a1⟩ => row_seq (a1.ext.ff _ _ hb) a1.same) ?_ ?_
    · rintro i x H1 hx ⟨F1, us, a1⟩
      have hi : i < k := by
        have := (List.getElem?_eq_some_iff.mp hx).1
        omega
      obtain ⟨r, hr1, hrow⟩ := pget relC hx
      rw [rowsL_at hi] at hr1
      cases hr1
      refine ⟨rfl, ?_⟩
      refine ⟨_, rfl, a, rfl, ⟨_, row_seq (a1.ext.ff _ _ ha) a1.same⟩, fun D2 hD2 => ?_⟩
      refine lc_list (K := K) (a := a) (xs := xs) (AccP IsI F1 H1 D2 (vec n (hf i))) (Acc.p0 (Ext.refl a1.same) hD2) (fun j H' _ ⟨F2, us2, a2⟩ => row_seq (a2.ext.ff _ _ (a1.ext.ff _ _ ha)) a2.same) ?_ ?_
      · rintro j y H2 hy ⟨F2, us2, a2⟩
        have hj : j < n := by
          have := (List.getElem?_eq_some_iff.mp hy).1
          omega
        obtain ⟨r, hr1, hrow2⟩ := pget relM hy
        rw [mat_rows, rowsL_at hj] at hr1
        cases hr1
        refine ⟨rfl, ?_⟩
        have s2 := a1.ext.ff.trans a2.ext.ff
        refine ⟨_, rfl, _, rfl, x, y, n, C i, M j, F2, rfl, a2.same, mono_row.up s2 hrow, mono_row.up s2 hrow2, h8, .inl fun c hc => small i c hi hc, fun F3 H3 e3 => ?_⟩
        exact a2.next mono_i (Fm.vec_get hj) (by rw [Fm.vec_length]; omega) e3 rfl
      · rintro H2 a2
        obtain ⟨F3, e3, h3⟩ := a2.done mono_i (by rw [Fm.vec_length, lenX])
        exact a1.next mono_row (rowsL_at hi) (by rw [rowsL_len]; omega) e3 (row_of h3)
    · rintro H1 a1
      obtain ⟨F2, e2, ⟨q, zs, hq, hD2, relH⟩⟩ := a1.done mono_row (by rw [rowsL_len, lenY])
      cases hq
      have lenZ : zs.length = k := by rw [Paired.length relH]; exact rowsL_len _ _ _
      refine ⟨_, rfl, D, rfl, ⟨_, row_seq hD2 e2.inn⟩, fun D3 hD3 => ?_⟩
      refine lc_list (K := K) (a := D) (xs := zs) (AccP IsRow F2 H1 D3 (mat k (gr n M C))) (Acc.p0 (Ext.refl e2.inn) hD3) (fun i H' _ ⟨F1, us, a1⟩ => row_seq (a1.ext.ff _ _ hD2) a1.same) ?_ ?_
      · rintro i x H3 hx ⟨F3, us, a3⟩
        have hi : i < k := by
          have := (List.getElem?_eq_some_iff.mp hx).1
          omega
        obtain ⟨r, hr1, hrow⟩ := pget relH hx
        rw [rowsL_at hi] at hr1
        cases hr1
        refine ⟨rfl, ?_⟩
        refine ⟨_, rfl, b, rfl, ⟨_, row_seq (a3.ext.ff _ _ (e2.ff _ _ hb)) a3.same⟩, fun D4 hD4 => ?_⟩
        refine lc_list (K := K) (a := b) (xs := ys) (AccP IsI F3 H3 D4 (vec k (gr n M C i))) (Acc.p0 (Ext.refl a3.same) hD4) (fun j H' _ ⟨F2, us2, a2⟩ => row_seq (a2.ext.ff _ _ (a3.ext.ff _ _ (e2.ff _ _ hb))) a2.same) ?_ ?_
        · rintro j y H4 hy ⟨F4, us4, a4⟩
          have hj : j < k := by
            have := (List.getElem?_eq_some_iff.mp hy).1
            omega
          obtain ⟨r, hr1, hrow2⟩ := pget relC hy
          rw [rowsL_at hj] at hr1
          cases hr1
          refine ⟨rfl, ?_⟩
          refine ⟨_, rfl, _, rfl, x, y, n, hf i, C j, F4, rfl, a4.same, mono_row.up (a3.ext.ff.trans a4.ext.ff) hrow, mono_row.up (e2.ff.trans (a3.ext.ff.trans a4.ext.ff)) hrow2, h8, .inr fun c hc => small j c hj hc, fun F5 H5 e5 => ?_⟩
          refine a4.next mono_i (x := gr n M C i j) (Fm.vec_get hj) (by rw [Fm.vec_length]; omega) e5 ?_
          show V.int _ = V.int _
          congr 1
          show sm n (fun r => (sm n fun c => C i c * M r c) * C j r) = pr n M (C i) (C j)
          rw [Fm.pr_symm sym]
          unfold pr
          refine Fm.sm_congr n fun r _ => ?_
          rw [Int.mul_comm]
          congr 1
          exact Fm.sm_congr n fun c _ => Int.mul_comm _ _
        · rintro H4 a4
          obtain ⟨F5, e5, h5⟩ := a4.done mono_i (by rw [Fm.vec_length, lenY])
          exact a3.next mono_row (mat_row hi) (by rw [mat_len]; omega) e5 (row_of h5)
      · rintro H3 a3
        obtain ⟨F5, e5, h5⟩ := a3.done mono_row (by rw [mat_len, lenZ])
        exact kk F5 H3 _ (e2.trans e5) h5
end
end Pr
/-! ### columns_of, settle, is_less_swapped -/
namespace Pr
open PySem PySem.Spec PyProof.Rows L2
open Fm (gm dt bm small vec chL colL colsL ck mk Latt gr sp side addz Mat sm pr tp stl Bas Frm Lll one xc ur)
/-- columns: the first k of a basis; marks of y -/
def spSettle : Sp := fun vs H Q _ => ∃ (v1 v2 : V) (n k : Nat) (M C : Mat) (w' y : Nat → Int) (F : Hp), vs = [v1, v2] ∧ Same F H ∧ IsRows F v1 (colsL n C (gr n M C) k) ∧ IsRow F v2 (vec (n + k) (mk n C (gr n M C) w' y)) ∧ Frm n M ∧ Bas n M C ∧ k ≤ n ∧
  ∀ (F' H' : Hp) (v : V), Ext F H F' H' → IsRow F' v (vec (n + k) (mk n C (gr n M C) w' (stl n (gr n M C) k y))) → Q v H'
def spLess : Sp := fun vs H Q _ => ∃ (v : V) (n a : Nat) (M C : Mat) (b : Int) (F : Hp), vs = [v, .int b] ∧ Same F H ∧ IsRows F v (colsL n C (gr n M C) (a + 2)) ∧ Frm n M ∧ Bas n M C ∧ a + 2 ≤ n ∧ b.natAbs < 2 ^ 56 ∧
  Q (.bl (decide (b * b + dt a (gr n M C) * dt (a + 2) (gr n M C) < dt (a + 1) (gr n M C) * dt (a + 1) (gr n M C)))) H
section
variable {P : Program} {w : World} {K : PySem.W.Frag} {mg : Str → Option Value} {base : Heap}
theorem scCols : FnScope ["rows", "basis", "tops", "j", "i"] ["rows", "basis"] (defScope sCols) := ⟨rfl, rfl, rfl, by decide +kernel, rfl, by decide +kernel, by decide +kernel⟩
theorem tame_bas {n : Nat} {M C : Mat} (f : Frm n M) (b : Bas n M C) {k : Nat} (hk : k ≤ n) : Tame k (gr n M C) := fun j hj _ i hi => by
  have z := b.tp_small f (i := j) (j := j + i) (by omega) (by omega)
  unfold tp at z
  rw [if_neg (by omega), Nat.add_sub_cancel_left] at z
  exact Nat.lt_of_lt_of_le z (by decide)
theorem col_split {n : Nat} {C G : Mat} {j : Nat} : (vec n (C j)) ++ (vec (j + 1) fun i => tp G i j) = vec (n + j + 1) (ck n C G j) := by
  apply List.ext_getElem?
  intro i
  rw [List.getElem?_append, Fm.vec_length]
  by_cases h : i < n
  · rw [if_pos h, Fm.vec_get h, Fm.vec_get (by omega)]
    unfold ck
    rw [if_pos h]
  · rw [if_neg h]
    by_cases h2 : i < n + j + 1
    · rw [Fm.vec_get (by omega), Fm.vec_get h2]
      unfold ck
      rw [if_neg h]
    · rw [List.getElem?_eq_none (by rw [Fm.vec_length]; omega), List.getElem?_eq_none (by rw [Fm.vec_length]; omega)]
theorem ok_cols {f fC fT : Addr} {fd fdC fdT : FuncData} (F : Fun K "columns_of" "columns_of" sCols f fd) (hrng : mg "range" = none) (hlen : mg "len" = none)
    (GC : FnOk P w K mg base CX0 2 fC fdC ["rows", "basis"] spChg) (kC : PySem.W.keepIn K (.ref fC) = true) (bC : Binds K fdC ["rows", "basis"] []) (mC : mg "changed_rows" = some (.ref fC))
    (GT : FnOk P w K mg base CX0 2 fT fdT ["rows"] spTop) (kT : PySem.W.keepIn K (.ref fT) = true) (bT : Binds K fdT ["rows"] []) (mT : mg "top_rows" = some (.ref fT)) : FnOk P w K mg base CX0 3 f fd ["rows", "basis"] spCols := by
  refine F.ok scCols (fun vs H Q E h => ?_) (fun cdv A outer s H vs Q E hr h => ?_)
  · obtain ⟨v1, v2, n, k, M, C, F, rfl, _⟩ := h
    rfl
  · obtain ⟨v1, v2, n, k, M, C, F, rfl, s0, hv1, hv2, frm, bas, hk1, hk, kk⟩ := h
    have nd := scCols.nd
    refine ⟨_, pss_cons (ps_set (i := 2) nd rfl (Or.inr rfl) (pe_call GT hr rfl mT kT bT .nil pass0 (pa_cons (pe_call GC hr rfl mC kC bC .nil pass0 (pa_cons (pv 0) (pa_cons (pv 1) pa_nil))) pa_nil)))
      (pss_one (ps_ret (pe_lc rfl nd (pi_range1 rfl hrng (pa_cons (pe_callB call_len_seq rfl hlen PySem.boot_len (pa_cons (pv 1) pa_nil)) pa_nil)) (blkOk_by (own := [("j", 3)]) (by kernel_rfl)) (fun _ _ _ _ _ => pg_name (i := 3) nd rfl (Or.inr rfl)) (fun _ _ _ _ _ => pts_nil)
        (fun _ _ _ _ _ => pe_op op_cat (pe_ix (r := rIxL K) ix_list (pv 1) (pv 3) (fun _ _ => rfl))
          (pe_lc rfl nd (pi_range1 rfl hrng (pa_cons (pe_op op_add (pv 3) pe_int) pa_nil)) (blkOk_by (own := [("i", 4)]) (by kernel_rfl)) (fun _ _ _ _ _ => pg_name (i := 4) nd rfl (Or.inl rfl)) (fun _ _ _ _ _ => pts_nil)
            (fun _ _ _ _ _ => pe_ix (r := rIxL K) ix_list (pe_ix (r := rIxL K) ix_list (pv 2) (pv 4) (fun _ _ => rfl)) (pe_op op_sub (pv 3) (pv 4)) (fun _ _ => rfl))))))), ?_⟩
    generalize hG : gr n M C = G at *
    have hlead : Fm.Lead n G := hG ▸ bas.lead frm
    refine ⟨_, rfl, _, rfl, v1, v2, n, k, M, C, F, rfl, s0, hv1, hv2, frm.low, hk, frm.sym, fun i c hi hc => Nat.lt_of_lt_of_le (bas.row_small frm (by omega) hc) (by decide), fun F1 H1 v3 e1 hv3 => ?_⟩
    rw [hG] at hv3
    refine ⟨v3, k, G, F1, rfl, e1.inn, hv3, hk1, by have := frm.low; omega, hG ▸ tame_bas frm bas hk, fun F2 H2 v4 q e2 hv4 hq hpos hend => ?_⟩
    have eq : q + 1 = k := by
      rcases hend with z | z
      · exact z
      · have := hlead q (by omega)
        omega
    rw [eq] at hv4
    obtain ⟨t, ts, rfl, ht, relT⟩ := hv4
    obtain ⟨b, ys, rfl, hb, relC⟩ := hv2
    have e12 := e1.trans e2
    have hb2 := e12.ff _ _ hb
    have relC2 := Paired.up mono_row e12.ff relC
    have lenY : ys.length = k := by rw [Paired.length relC]; exact rowsL_len _ _ _
    have h8 := frm.low
    refine ⟨_, rfl, b, _, rfl, .inl (row_seq hb2 e2.inn), _, rfl, by rw [lenY]; omega, by rw [lenY]; omega, ?_⟩
    rw [lenY, Int.toNat_natCast]
    intro D hD
    refine lc_range (lo := 0) (n := k) (AccP IsRow F2 H2 D (colsL n C G k)) (Acc.p0 (Ext.refl e2.inn) hD) ?_ ?_
    · rintro j H3 hj ⟨F3, us, a3⟩
      refine ⟨rfl, ?_⟩
      obtain ⟨y, hy, ⟨ya, rfl, hya⟩⟩ := pget' relC2 (rowsL_at hj)
      refine ⟨_, rfl, _, rfl, b, _, _, _, rfl, rfl, row_seq (a3.ext.ff _ _ hb2) a3.same, at_of (j := j) (by omega) hy, ?_⟩
      refine ⟨_, rfl, _, _, rfl, rfl, _, rfl, by omega, by omega, ?_⟩
      have en : ((0 : Int) + (j : Int) + 1).toNat = j + 1 := by omega
      rw [en]
      intro D2 hD2
      refine lc_range (lo := 0) (n := j + 1) (AccP IsI F3 H3 D2 (vec (j + 1) fun i => tp G i j)) (Acc.p0 (Ext.refl a3.same) hD2) ?_ ?_
      · rintro i H4 hi ⟨F4, us4, a4⟩
        refine ⟨rfl, ?_⟩
        have s4 := a3.ext.ff.trans a4.ext.ff
        have htop : (topsL k G k)[i]? = some ((List.range (k - i)).map fun c => bm i G 0 c) := get_map_range (by omega)
        obtain ⟨tv, htv, ⟨ta, rfl, hta⟩⟩ := pget' relT htop
        refine ⟨_, rfl, _, rfl, t, _, _, _, rfl, rfl, row_seq (s4 _ _ ht) a4.same, at_of (j := i) (by omega) htv, _, rfl, _, rfl, _, _, rfl, rfl, ta, _, _, _, rfl, rfl, row_seq (s4 _ _ hta) a4.same, at_of (j := j - i) (by omega) (getV (by simp; omega)), ?_⟩
        rw [row_at (by omega)]
        refine a4.next mono_i (x := bm i G 0 (j - i)) ?_ (by rw [Fm.vec_length]; omega) (Ext.refl a4.same) rfl
        rw [Fm.vec_get hi]
        unfold tp
        rw [if_neg (by omega)]
      · rintro H4 a4
        obtain ⟨F5, e5, h5⟩ := a4.done mono_i (by rw [Fm.vec_length])
        obtain ⟨d, hd, hd2⟩ := row_of h5
        cases hd
        have hya5 := e5.hh _ _ (a3.same _ _ (a3.ext.ff _ _ hya))
        refine ⟨ya, D2, _, _, rfl, rfl, hya5, e5.inn _ _ hd2, ?_, fun p hp => ?_⟩
        · rw [List.length_map, List.length_map, Fm.vec_length, Fm.vec_length, sizeLine_eq]; omega
        · rw [← List.map_append, col_split]
          have e6 := e5.put (o := .lst ((vec (n + j + 1) (ck n C G j)).map V.int)) hp
          exact a3.next mono_row (col_at hj) (by unfold colsL; simp; omega) e6 ⟨p, rfl, upd_same⟩
    · rintro H3 a3
      obtain ⟨F4, e4, h4⟩ := a3.done mono_row (by unfold colsL; simp)
      exact kk F4 H3 _ (e12.trans e4) h4
theorem scSettle : FnScope ["columns", "marks", "column", "corner", "size", "times", "x", "y"] ["columns", "marks"] (defScope sSettle) := ⟨rfl, rfl, rfl, by decide +kernel, rfl, by decide +kernel, by decide +kernel⟩
theorem vec_drop {p k : Nat} {f : Nat → Int} : (vec p f).drop k = vec (p - k) fun i => f (k + i) := by
  apply List.ext_getElem?
  intro i
  rw [List.getElem?_drop]
  by_cases h : i < p - k
  · rw [Fm.vec_get (by omega), Fm.vec_get h]
  · rw [List.getElem?_eq_none (by rw [Fm.vec_length]; omega), List.getElem?_eq_none (by rw [Fm.vec_length]; omega)]
theorem vec_take {p k : Nat} {f : Nat → Int} (h : k ≤ p) : (vec p f).take k = vec k f := by
  unfold vec
  rw [← List.map_take, List.take_range, Nat.min_eq_left h]
theorem vec_app {p k : Nat} {f g : Nat → Int} : vec p f ++ vec k g = vec (p + k) fun i => if i < p then f i else g (i - p) := by
  apply List.ext_getElem?
  intro i
  rw [List.getElem?_append, Fm.vec_length]
  by_cases h : i < p
  · rw [if_pos h, Fm.vec_get h, Fm.vec_get (by omega), if_pos h]
  · rw [if_neg h]
    by_cases h2 : i < p + k
    · rw [Fm.vec_get (by omega), Fm.vec_get h2, if_neg h]
    · rw [List.getElem?_eq_none (by rw [Fm.vec_length]; omega), List.getElem?_eq_none (by rw [Fm.vec_length]; omega)]
theorem ck_high {n : Nat} {C G : Mat} {j i : Nat} (h : n + j < i) : ck n C G j i = 0 := by
  unfold ck tp
  rw [if_neg (by omega), if_pos (by omega)]
theorem ok_settle {f : Addr} {fd : FuncData} (F : Fun K "settle" "settle" sSettle f fd) (hlen : mg "len" = none) (hzip : mg "zip" = none) (hrev : mg "reversed" = none) : FnOk P w K mg base CX0 1 f fd ["columns", "marks"] spSettle := by
  refine F.ok scSettle (fun vs H Q E h => ?_) (fun cdv A outer s H vs Q E hr h => ?_)
  · obtain ⟨v1, v2, n, k, M, C, w', y, F, rfl, _⟩ := h
    rfl
  · obtain ⟨v1, v2, n, k, M, C, w', y, F, rfl, s0, ⟨b, xs, rfl, hb, rel⟩, hv2, frm, bas, hk, kk⟩ := h
    have nd := scSettle.nd
    have h8 := frm.low
    generalize hG : gr n M C = G at *
    have hlead : Fm.Lead n G := hG ▸ bas.lead frm
    have lenX : xs.length = k := by rw [Paired.length rel]; simp [colsL]
    refine ⟨_, pss_cons (ps_for PassesOwn.never rfl (pi_reversed rfl hrev (pa_cons (pv 0) pa_nil)) (pg_name (i := 2) nd rfl (Or.inl rfl))
        (pss_cons (ps_set (i := 3) nd rfl (Or.inl rfl) (pe_ix ix_list (pv 2) (pe_un un_neg pe_int) (fun _ _ => rfl)))
        (pss_cons (ps_set (i := 4) nd rfl (Or.inl rfl) (pe_callB call_len_seq rfl hlen PySem.boot_len (pa_cons (pv 2) pa_nil)))
        (pss_cons (ps_set (i := 5) nd rfl (Or.inr rfl) (pe_op op_fdivB (pe_op op_add (pe_op op_mul pe_int (pe_ix ix_list (pv 1) (pe_op op_sub (pv 4) pe_int) (fun _ _ => rfl))) (pv 3)) (pe_op op_mul pe_int (pv 3))))
        (pss_one (ps_set (i := 1) nd rfl (Or.inl rfl) (pe_op op_cat (pe_lc rfl nd (pi_zip rfl hzip (pa_cons (pv 1) (pa_cons (pv 2) pa_nil))) (blkOk_by (own := [("x", 6), ("y", 7)]) (by kernel_rfl))
          (fun _ _ _ _ _ => pg_pair K (i := 6) (j := 7) rfl nd rfl rfl (Or.inl rfl) (Or.inl rfl)) (fun _ _ _ _ _ => pts_nil) (fun _ _ _ _ _ => pe_op op_sub (pv 6) (pe_op op_mul (pv 5) (pv 7)))) (pe_slice sl_list (pv 1) (po_some (pv 4)) po_none))))))))
      (pss_one (ps_ret (pv 1))), ?_⟩
    refine ⟨_, rfl, b, xs, rfl, row_seq hb s0, ?_⟩
    refine for_rev (K := K) (a := b) (xs := xs) (fun i σ H' => ∃ (F' : Hp) (v : V) (y' : Nat → Int) (o2 o3 o4 o5 o6 o7 : Option V), σ = [some (.ref b), some v, o2, o3, o4, o5, o6, o7] ∧ Ext F H F' H' ∧ IsRow F' v (vec (n + k) (mk n C G w' y')) ∧ stl n G (k - i) y' = stl n G k y) ⟨F, v2, y, none, none, none, none, none, none, rfl, Ext.refl s0, hv2, rfl⟩ (fun i σ H' ⟨F', v, y', o2, o3, o4, o5, o6, o7, _, e, _, _⟩ => row_seq (e.ff _ _ hb) e.inn) ?_ ?_
    · rintro i x σ H1 hi hx ⟨F1, v, y', o2, o3, o4, o5, o6, o7, rfl, e1, ⟨va, rfl, hva⟩, hstl⟩
      obtain ⟨j, hj⟩ : ∃ j, k - 1 - i = j := ⟨_, rfl⟩
      rw [lenX, hj] at hx
      have hjk : j < k := by omega
      obtain ⟨cl, hcl, hrow⟩ := pget rel hx
      rw [col_at hjk] at hcl
      cases hcl
      obtain ⟨xa, rfl, hxa⟩ := hrow
      have hxa1 := e1.ff _ _ hxa
      have d := bas.dt_small frm (show j + 1 ≤ n by omega)
      rw [hG] at d
      -- corner, size
      refine ⟨_, rfl, 1, rfl, xa, _, _, _, rfl, rfl, row_seq hxa1 e1.inn, atI_end (k := n + j) (by rw [List.length_map, Fm.vec_length]) (vecV (by omega)), ?_⟩
      rw [Fm.ck_corner]
      refine ⟨_, rfl, xa, _, rfl, .inl (row_seq hxa1 e1.inn), ?_⟩
      rw [List.length_map, Fm.vec_length]
      -- times
      refine ⟨_, rfl, _, rfl, _, _, rfl, rfl, va, _, _, _, rfl, rfl, row_seq hva e1.inn, at_of (j := n + j) (by omega) (vecV (by omega)), _, _, rfl, rfl, .inl ⟨by decide, by decide⟩, _, rfl, _, _, rfl, rfl, _, rfl, _, _, rfl, rfl, .inl ⟨by decide, by decide⟩, _, _, rfl, rfl, ⟨by omega, by omega⟩, ?_⟩
      rw [Fm.mk_side]
      generalize ht : (2 * side n G j y' + dt (j + 1) G) / (2 * dt (j + 1) G) = t
      -- marks
      refine ⟨_, rfl, _, rfl, va, xa, _, _, rfl, row_seq hva e1.inn, row_seq hxa1 e1.inn, fun D hD => ?_⟩
      refine lc_zip (K := K) (a := va) (b := xa) (xs := (vec (n + k) (mk n C G w' y')).map V.int) (ys := (vec (n + j + 1) (ck n C G j)).map V.int) (AccP IsI F1 H1 D (vec (n + j + 1) (mk n C G w' (addz y' j (-t))))) (Acc.p0 (Ext.refl e1.inn) hD) (fun c H' ⟨F3, us3, a3⟩ => ⟨row_seq (a3.ext.ff _ _ hva) a3.same, row_seq (a3.ext.ff _ _ hxa1) a3.same⟩) ?_ ?_
      · rintro c x1 x2 T H3 hx1 hx2 ⟨F3, us3, a3⟩ hT
        obtain ⟨hc, rfl⟩ := vec_i hx1
        obtain ⟨hc2, rfl⟩ := vec_i hx2
        refine ⟨T, _, rfl, SqT.of upd_same, rfl, _, _, rfl, _, _, rfl, rfl, rfl, ?_⟩
        have sm := bas.ck_small frm (show j < n by omega) (show c < n + j + 1 by omega)
        rw [hG] at sm
        refine ⟨_, rfl, _, rfl, _, rfl, t, _, congrArg V.int ht, rfl, mul_ok' sm, _, _, rfl, rfl, ?_⟩
        refine a3.next mono_i (Fm.vec_get hc2) (by rw [Fm.vec_length]; omega) ((Ext.refl a3.same).put hT) ?_
        show V.int _ = V.int _
        rw [Fm.mk_addz (by omega)]
        congr 1
        rw [Int.neg_mul]
        omega
      · rintro H3 a3
        obtain ⟨F4, e4, h4⟩ := a3.done mono_i (by rw [List.length_map, List.length_map, Fm.vec_length, Fm.vec_length, Fm.vec_length]; omega)
        obtain ⟨d4, hd4, hd4'⟩ := row_of h4
        cases hd4
        have hva4 := e4.ff _ _ hva
        have ecut : cutV ((vec (n + k) (mk n C G w' y')).map V.int) (some ((n + j + 1 : Nat) : Int)) none = (vec (n + k - (n + j + 1)) fun i => mk n C G w' y' (n + j + 1 + i)).map V.int := by rw [cut_from, ← List.map_drop, vec_drop]
        refine ⟨_, rfl, _, rfl, _, rfl, va, _, rfl, row_seq hva4 e4.inn, fun p hp => ?_⟩
        rw [ecut]
        have e5 := e4.put (o := .lst ((vec (n + k - (n + j + 1)) fun i => mk n C G w' y' (n + j + 1 + i)).map V.int)) hp
        have np : D ≠ p := fun z => by
          rw [← z] at hp
          rw [e4.inn _ _ hd4'] at hp
          cases hp
        refine ⟨D, p, _, _, rfl, rfl, (by rw [upd_ne np]; exact e4.inn _ _ hd4'), upd_same, ?_, fun q hq => ?_⟩
        · rw [List.length_map, List.length_map, Fm.vec_length, Fm.vec_length, sizeLine_eq]; omega
        have e6 := e5.put (o := .lst ((vec (n + k) (mk n C G w' (addz y' j (-t)))).map V.int)) hq
        have ejoin : (vec (n + j + 1) (mk n C G w' (addz y' j (-t)))).map V.int ++ ((vec (n + k - (n + j + 1)) fun i => mk n C G w' y' (n + j + 1 + i)).map V.int) = (vec (n + k) (mk n C G w' (addz y' j (-t)))).map V.int := by
          rw [← List.map_append, vec_app, show n + j + 1 + (n + k - (n + j + 1)) = n + k by omega]
          congr 1
          refine Fm.vec_congr fun c hc => ?_
          by_cases q : c < n + j + 1
          · rw [if_pos q]
          · rw [if_neg q, show n + j + 1 + (c - (n + j + 1)) = c by omega, Fm.mk_addz (by omega), ck_high (by omega), Int.mul_zero, Int.add_zero]
        rw [ejoin]
        refine ⟨_, _, addz y' j (-t), _, _, _, _, _, _, rfl, e1.trans e6, ⟨q, rfl, upd_same⟩, ?_⟩
        rw [← hstl, show k - i = j + 1 by omega, show k - (i + 1) = j by omega, stl, ht]
    · rintro σ H1 ⟨F1, v, y', o2, o3, o4, o5, o6, o7, rfl, e1, hv, hstl⟩
      rw [lenX, Nat.sub_self] at hstl
      have hstl : y' = stl n G k y := hstl
      rw [hstl] at hv
      exact ⟨_, rfl, kk F1 H1 v e1 hv⟩
theorem scLess : FnScope ["columns", "beside", "at", "before", "corner"] ["columns", "beside"] (defScope sLess) := ⟨rfl, rfl, rfl, by decide +kernel, rfl, by decide +kernel, by decide +kernel⟩
theorem ok_less {f : Addr} {fd : FuncData} (F : Fun K "is_less_swapped" "is_less_swapped" sLess f fd) (hlen : mg "len" = none) : FnOk P w K mg base CX0 1 f fd ["columns", "beside"] spLess := by
  refine F.ok scLess (fun vs H Q E h => ?_) (fun cdv A outer s H vs Q E hr h => ?_)
  · obtain ⟨v, n, a, M, C, b, F, rfl, _⟩ := h
    rfl
  · obtain ⟨v, n, a, M, C, b, F, rfl, s0, ⟨la, xs, rfl, hla, rel⟩, frm, bas, ha, hb, k⟩ := h
    have nd := scLess.nd
    have h8 := frm.low
    generalize hG : gr n M C = G at *
    have lenX : xs.length = a + 2 := by rw [Paired.length rel]; simp [colsL]
    refine ⟨_, pss_cons (ps_set (i := 2) nd rfl (Or.inl rfl) (pe_op op_sub (pe_callB call_len_seq rfl hlen PySem.boot_len (pa_cons (pv 0) pa_nil)) pe_int))
      (pss_cons (ps_set (i := 3) nd rfl (Or.inl rfl) (pe_ifExp (pt_cmpR op_gt (pv 2) pe_int (nomark _)) (pe_ix ix_list (pe_ix ix_list (pv 0) (pe_op op_sub (pv 2) pe_int) (fun _ _ => rfl)) (pe_un un_neg pe_int) (fun _ _ => rfl)) pe_int))
      (pss_cons (ps_set (i := 4) nd rfl (Or.inl rfl) (pe_ix ix_list (pe_ix ix_list (pv 0) (pe_op op_sub (pv 2) pe_int) (fun _ _ => rfl)) (pe_un un_neg pe_int) (fun _ _ => rfl)))
      (pss_one (ps_ret (pe_cmpR op_lt (pe_op op_add (pe_op op_mul (pv 1) (pv 1)) (pe_op op_mul (pv 3) (pe_ix ix_list (pe_ix ix_list (pv 0) (pv 2) (fun _ _ => rfl)) (pe_un un_neg pe_int) (fun _ _ => rfl)))) (pe_op op_mul (pv 4) (pv 4)) (nomark _)))))), ?_⟩
    refine ⟨_, rfl, la, _, rfl, .inl (row_seq hla s0), _, _, rfl, rfl, ?_⟩
    rw [lenX]
    have ea : (((a + 2 : Nat) : Int) - 1) = ((a + 1 : Nat) : Int) := by omega
    have col : ∀ j, j < a + 2 → ∃ xa, xs[j]? = some (V.ref xa) ∧ F xa = some (.lst ((vec (n + j + 1) (ck n C G j)).map V.int)) := fun j hj => by
      obtain ⟨x, hx, ⟨xa, rfl, hxa⟩⟩ := pget' rel (col_at hj)
      exact ⟨xa, hx, hxa⟩
    have last : ∀ j, atI ((vec (n + j + 1) (ck n C G j)).map V.int) (-1) = some (.int (dt (j + 1) G)) := fun j => by
      rw [← Fm.ck_corner n C G j]
      exact atI_end (k := n + j) (by rw [List.length_map, Fm.vec_length]) (vecV (by omega))
    have d1 := bas.dt_small frm (show a + 1 ≤ n by omega)
    have d0 := bas.dt_small frm (show a ≤ n by omega)
    rw [hG] at d0 d1
    have bef : ∀ Q' : V → Hp → Prop, Q' (.int (dt a G)) H → tIf (tTest (tOp (rI0 fun i j => V.bl (decide (j < i))) (tVar 2) (tC (V.int 1)))) (tOp (rIxL K) (tOp (rIxL K) (tVar 0) (tOp (rI0 fun i j => V.int (i - j)) (tVar 2) (tC (V.int 2)))) (tUn (rU fun i => V.int (-i)) (tC (V.int 1)))) (tC (V.int 1)) [some (.ref la), some (.int b), some (.int (((a + 2 : Nat) : Int) - 1)), none, none] H Q' := fun Q' hq' => by
      refine ⟨_, rfl, _, 1, rfl, rfl, _, rfl, ite2 (fun hc => ?_) (fun hc => ?_)⟩
      · have hc : (1 : Int) < ((a + 2 : Nat) : Int) - 1 := of_decide_eq_true hc
        obtain ⟨c, rfl⟩ : ∃ c, a = c + 1 := ⟨a - 1, by omega⟩
        obtain ⟨xa, hx, hxa⟩ := col c (by omega)
        refine ⟨_, rfl, _, rfl, _, _, rfl, rfl, la, _, _, _, rfl, rfl, row_seq hla s0, at_of (j := c) (by omega) hx, 1, rfl, xa, _, _, _, rfl, rfl, row_seq hxa s0, last c, ?_⟩
        exact hq'
      · have hc : a = 0 := by
          have : ¬ (1 : Int) < ((a + 2 : Nat) : Int) - 1 := fun z => hc (decide_eq_true z)
          omega
        subst hc
        exact hq'
    refine bef _ ?_
    obtain ⟨x1, hx1, hxa1⟩ := col a (by omega)
    obtain ⟨x2, hx2, hxa2⟩ := col (a + 1) (by omega)
    refine ⟨_, rfl, _, rfl, _, _, rfl, rfl, la, _, _, _, rfl, rfl, row_seq hla s0, at_of (j := a) (by omega) hx1, 1, rfl, x1, _, _, _, rfl, rfl, row_seq hxa1 s0, last a, ?_⟩
    refine ⟨_, rfl, _, rfl, b, b, rfl, rfl, mul_ok hb, _, rfl, _, rfl, _, rfl, la, _, _, _, rfl, rfl, row_seq hla s0, at_of (j := a + 1) ea hx2, 1, rfl, x2, _, _, _, rfl, rfl, row_seq hxa2 s0, last (a + 1), _, _, rfl, rfl, .inl ⟨by omega, by omega⟩, _, _, rfl, rfl, _, rfl, _, rfl, _, _, rfl, rfl, .inl ⟨by omega, by omega⟩, _, _, rfl, rfl, ?_⟩
    exact k
end
end Pr
/-! ### reduced_columns -/
namespace Pr
open PySem PySem.Spec PyProof.Rows L2
open Fm (gm dt bm small vec chL colL colsL ck mk Latt gr sp side addz Mat sm pr tp stl Bas Frm Lll one xc ur sr)
theorem frm_of {n : Nat} {ns : List Int} (h8 : n ≤ 8) (h : Ql78.form n ns = true) : Frm n (gm n ns) :=
  ⟨Fm.form_symm h, fun x => Fm.pr_pos n _ (Fm.form_symm h) (Fm.form_lead h) x, h8, fun i j _ _ => Fm.small_mt (Fm.form_small h) i j⟩
def spReduced (K : PySem.W.Frag) : Sp := fun vs H Q _ => ∃ (n : Nat) (a : Addr) (ns : List Int) (F : Hp), vs = [.int n, .ref a] ∧ SqL K H a (ns.map V.int) ∧ 1 ≤ n ∧ n ≤ 8 ∧ ns.length = n * n ∧ Ql78.form n ns = true ∧ Same F H ∧
  ∀ (F' H' : Hp) (v : V) (C : Mat), Ext F H F' H' → Latt n (gm n ns) C → IsRows F' v (colsL n C (gr n (gm n ns) C) n) → Q v H'
section
variable {P : Program} {w : World} {K : PySem.W.Frag} {mg : Str → Option Value} {base : Heap}
theorem scReduced : FnScope ["n", "a", "rows", "basis", "at", "columns", "settled"] ["n", "a"] (defScope sReduced) := ⟨rfl, rfl, rfl, by decide +kernel, rfl, by decide +kernel, by decide +kernel⟩
theorem rowsL_set {n k : Nat} {C : Mat} {i : Nat} {r : Nat → Int} : (rowsL n k C).set i (vec n r) = rowsL n k (sr C i r) := by
  apply List.ext_getElem?
  intro j
  rw [List.getElem?_set]
  by_cases hj : j < k
  · rw [rowsL_len]
    by_cases q : i = j
    · subst q
      rw [if_pos rfl, if_pos hj, rowsL_at hj]
      congr 1
      exact Fm.vec_congr fun c _ => (Fm.sr_same C i r c).symm
    · rw [if_neg q, rowsL_at hj, rowsL_at hj]
      congr 1
      exact Fm.vec_congr fun c _ => (Fm.sr_ne C r c (fun z => q z.symm)).symm
  · rw [List.getElem?_eq_none (l := rowsL n k (sr C i r)) (by rw [rowsL_len]; omega)]
    split
    · rw [if_neg (by rw [rowsL_len]; omega)]
    · exact List.getElem?_eq_none (by rw [rowsL_len]; omega)
theorem rowsL_take {n k j : Nat} {C : Mat} (h : j ≤ k) : (rowsL n k C).take j = rowsL n j C := by
  unfold rowsL
  rw [← List.map_take, List.take_range, Nat.min_eq_left h]
theorem colsL_take {n k j : Nat} {C G : Mat} (h : j ≤ k) : (colsL n C G k).take j = colsL n C G j := by
  unfold colsL
  rw [← List.map_take, List.take_range, Nat.min_eq_left h]
def RedW (F1 H1 : Hp) (n : Nat) (M : Mat) (a : Addr) (vr : V) (b : Addr) (c : Nat) (σ : L2.St) (H' : Hp) : Prop :=
  ∃ (at' : Nat) (C : Mat) (F' : Hp) (us : List V) (o5 o6 : Option V), c = Fm.todo n M C at' ∧ σ = [some (.int n), some (.ref a), some vr, some (.ref b), some (.int at'), o5, o6] ∧ Lll n M C at' ∧ 1 ≤ at' ∧ at' ≤ n ∧ Acc IsRow F1 H1 b (rowsL n n C) F' H' us
theorem ok_reduced {f fS fU fC fT fL : Addr} {fd fdS fdU fdC fdT fdL : FuncData} (F : Fun K "reduced_columns" "reduced_columns" sReduced f fd) (hmax : mg "max" = none)
    (GS : FnOk P w K mg base CX0 1 fS fdS ["n", "a"] (spSplit K)) (kS : PySem.W.keepIn K (.ref fS) = true) (bS : Binds K fdS ["n", "a"] []) (mS : mg "split_rows" = some (.ref fS))
    (GU : FnOk P w K mg base CX0 1 fU fdU ["n"] spUnit) (kU : PySem.W.keepIn K (.ref fU) = true) (bU : Binds K fdU ["n"] []) (mU : mg "unit_rows" = some (.ref fU))
    (GC : FnOk P w K mg base CX0 3 fC fdC ["rows", "basis"] spCols) (kC : PySem.W.keepIn K (.ref fC) = true) (bC : Binds K fdC ["rows", "basis"] []) (mC : mg "columns_of" = some (.ref fC))
    (GT : FnOk P w K mg base CX0 1 fT fdT ["columns", "marks"] spSettle) (kT : PySem.W.keepIn K (.ref fT) = true) (bT : Binds K fdT ["columns", "marks"] []) (mT : mg "settle" = some (.ref fT))
    (GL : FnOk P w K mg base CX0 1 fL fdL ["columns", "beside"] spLess) (kL : PySem.W.keepIn K (.ref fL) = true) (bL : Binds K fdL ["columns", "beside"] []) (mL : mg "is_less_swapped" = some (.ref fL)) :
    FnOk P w K mg base CX0 4 f fd ["n", "a"] (spReduced K) := by
  refine F.ok scReduced (fun vs H Q E h => ?_) (fun cdv A outer s H vs Q E hr h => ?_)
  · obtain ⟨n, a, ns, F, rfl, _⟩ := h
    rfl
  · obtain ⟨n, a, ns, F, rfl, hs, h1, h8, hl, hform, s0, kk⟩ := h
    have nd := scReduced.nd
    have hr1 : Room 1 _ := hr.mono (by decide)
    have frm := frm_of h8 hform
    generalize hM : gm n ns = M at *
    refine ⟨_, pss_cons (ps_set (i := 2) nd rfl (Or.inl rfl) (pe_call GS hr1 rfl mS kS bS .nil pass0 (pa_cons (pv 0) (pa_cons (pv 1) pa_nil))))
      (pss_cons (ps_set (i := 3) nd rfl (Or.inl rfl) (pe_call GU hr1 rfl mU kU bU .nil pass0 (pa_cons (pv 0) pa_nil)))
      (pss_cons (ps_set (i := 4) nd rfl (Or.inl rfl) pe_int)
      (pss_cons (ps_while PassesOwn.never (pt_cmpR op_lt (pv 4) (pv 0) (nomark _))
        (pss_cons (ps_set (i := 5) nd rfl (Or.inl rfl) (pe_call GC hr rfl mC kC bC .nil pass0 (pa_cons (pv 2) (pa_cons (pe_slice sl_list (pv 3) po_none (po_some (pe_op op_add (pv 4) pe_int))) pa_nil))))
        (pss_cons (ps_set (i := 6) nd rfl (Or.inl rfl) (pe_call GT hr1 rfl mT kT bT .nil pass0 (pa_cons (pe_slice sl_list (pv 5) po_none (po_some (pv 4))) (pa_cons (pe_slice sl_list (pe_ix ix_list (pv 5) (pv 4) (fun _ _ => rfl)) po_none (po_some (pe_un un_neg pe_int))) pa_nil))))
        (pss_cons (ps_asg (pe_slice sl_list (pv 6) po_none (po_some (pv 0))) (pg_sub (pv 3) (pv 4) set_list))
        (pss_one (ps_if (pt_val (pe_call GL hr1 rfl mL kL bL .nil pass0 (pa_cons (pv 5) (pa_cons (pe_ix ix_list (pv 6) (pe_un un_neg pe_int) (fun _ _ => rfl)) pa_nil))))
          (pss_cons (ps_asg (pe_ix ix_list (pv 3) (pe_op op_sub (pv 4) pe_int) (fun _ _ => rfl)) (pg_sub (pv 3) (pv 4) set_list))
          (pss_cons (ps_asg (pe_slice sl_list (pv 6) po_none (po_some (pv 0))) (pg_sub (pv 3) (pe_op op_sub (pv 4) pe_int) set_list))
          (pss_one (ps_set (i := 4) nd rfl (Or.inl rfl) (pe_callB (call_max2 rfl) rfl hmax PyProof.Rows.boot_max (pa_cons (pe_op op_sub (pv 4) pe_int) (pa_cons pe_int pa_nil)))))))
          (pss_one (ps_aug (i := 4) nd rfl (Or.inl rfl) pe_int ip_add))))))))
      (pss_one (ps_ret (pe_call GC hr rfl mC kC bC .nil pass0 (pa_cons (pv 2) (pa_cons (pv 3) pa_nil)))))))), ?_⟩
    -- rows = split_rows(n, a); basis = unit_rows(n); at = 1
    refine ⟨_, rfl, _, rfl, n, a, ns, F, rfl, hs, h8, hl, s0, fun F1 H1 vr e1 hvr => ?_⟩
    rw [hM] at hvr
    refine ⟨_, rfl, n, F1, rfl, h8, e1.inn, fun F2 H2 b us2 acc0 => ?_⟩
    refine ⟨RedW F1 H1 n M a vr b, ⟨_, 1, one, F2, us2, none, none, rfl, rfl, Lll.start frm (fun _ _ _ _ => rfl), Nat.le_refl _, h1, acc0⟩, ?_⟩
    rintro c σ H3 ⟨at', C, F3, us, o5, o6, rfl, rfl, lll, a1, an, acc⟩
    refine ⟨_, rfl, _, rfl, _, _, rfl, rfl, _, rfl, ite2 (fun hc => ?_) (fun hc => ?_)⟩
    · have hc : (at' : Int) < n := of_decide_eq_true hc
      have hlt : at' < n := by omega
      obtain ⟨a0, rfl⟩ : ∃ a0, at' = a0 + 1 := ⟨at' - 1, by omega⟩
      refine ⟨fun σ' H' => ∃ c', c' < Fm.todo n M C (a0 + 1) ∧ RedW F1 H1 n M a vr b c' σ' H', fun σ' H' ⟨c', hlt', z⟩ => ⟨c', hlt', z⟩, ?_⟩
      have hlead := lll.bas.lead frm
      have lenU : us.length = n := by rw [acc.len, rowsL_len]
      -- basis[:at + 1]
      refine ⟨_, rfl, _, rfl, _, rfl, _, _, rfl, rfl, _, rfl, b, _, rfl, SqL.of acc.at_, fun p hp => ?_⟩
      have ecut : cutV us none (some (((a0 + 1 : Nat) : Int) + 1)) = us.take (a0 + 2) := cut_to us (a0 + 2)
      rw [ecut]
      have e4 : Ext F3 H3 (upd F3 p (.lst (us.take (a0 + 2)))) (upd H3 p (.lst (us.take (a0 + 2)))) := (Ext.refl acc.same).put hp
      have acc4 := acc.pass mono_row e4
      have rows4 : IsRows (upd F3 p (.lst (us.take (a0 + 2)))) (.ref p) (rowsL n (a0 + 2) C) := ⟨p, _, rfl, upd_same, by rw [← rowsL_take (show a0 + 2 ≤ n by omega)]; exact ptake _ (Paired.up mono_row e4.ff acc.rel)⟩
      generalize upd F3 p (.lst (us.take (a0 + 2))) = F4 at e4 acc4 rows4
      generalize upd H3 p (.lst (us.take (a0 + 2))) = H4 at e4 acc4
      -- columns
      refine ⟨vr, .ref p, n, a0 + 2, M, C, F4, rfl, acc4.same, mono_rows.up acc4.ext.ff hvr, rows4, frm, lll.bas, by omega, by omega, fun F5 H5 vc e5 hvc => ?_⟩
      have acc5 := acc4.pass mono_row e5
      generalize hG : gr n M C = G at *
      have hvc0 := hvc
      obtain ⟨ca, xs, rfl, hca, relC⟩ := hvc0
      have lenX : xs.length = a0 + 2 := by rw [Paired.length relC]; simp [colsL]
      -- columns[:at]
      refine ⟨_, rfl, _, rfl, _, rfl, ca, _, rfl, row_seq hca acc5.same, fun p6 hp6 => ?_⟩
      rw [cut_to xs (a0 + 1)]
      have e6 : Ext F5 H5 (upd F5 p6 (.lst (xs.take (a0 + 1)))) (upd H5 p6 (.lst (xs.take (a0 + 1)))) := (Ext.refl acc5.same).put hp6
      have acc6 := acc5.pass mono_row e6
      have cols6 : IsRows (upd F5 p6 (.lst (xs.take (a0 + 1)))) (.ref p6) (colsL n C G (a0 + 1)) := ⟨p6, _, rfl, upd_same, by rw [← colsL_take (show a0 + 1 ≤ a0 + 2 by omega)]; exact ptake _ (Paired.up mono_row e6.ff relC)⟩
      have hca6 := e6.ff _ _ hca
      have relC6 := Paired.up mono_row e6.ff relC
      have hvc6 := mono_rows.up e6.ff hvc
      generalize upd F5 p6 (.lst (xs.take (a0 + 1))) = F6 at e6 acc6 cols6 hca6 relC6 hvc6
      generalize upd H5 p6 (.lst (xs.take (a0 + 1))) = H6 at e6 acc6
      -- columns[at][:-1]
      obtain ⟨x, hx, ⟨xa, rfl, hxa⟩⟩ := pget' relC6 (col_at (show a0 + 1 < a0 + 2 by omega))
      refine ⟨_, rfl, _, rfl, ca, _, _, _, rfl, rfl, row_seq hca6 acc6.same, at_of (j := a0 + 1) rfl hx, 1, rfl, _, rfl, xa, _, rfl, row_seq hxa acc6.same, fun p7 hp7 => ?_⟩
      rw [vec_cut]
      have e7 : Ext F6 H6 (upd F6 p7 (.lst ((vec (n + (a0 + 1)) (ck n C G (a0 + 1))).map V.int))) (upd H6 p7 (.lst ((vec (n + (a0 + 1)) (ck n C G (a0 + 1))).map V.int))) := (Ext.refl acc6.same).put hp7
      have acc7 := acc6.pass mono_row e7
      have row7 : IsRow (upd F6 p7 (.lst ((vec (n + (a0 + 1)) (ck n C G (a0 + 1))).map V.int))) (.ref p7) (vec (n + (a0 + 1)) (mk n C G (fun _ => 0) (ur (a0 + 1)))) := ⟨p7, rfl, by rw [upd_same, Fm.vec_congr fun i _ => Fm.mk_ur (C := C) (G := G) hlt i]⟩
      have cols7 := mono_rows.up e7.ff cols6
      have hvc7 := mono_rows.up e7.ff hvc6
      generalize upd F6 p7 (.lst ((vec (n + (a0 + 1)) (ck n C G (a0 + 1))).map V.int)) = F7 at e7 acc7 row7 cols7 hvc7
      generalize upd H6 p7 (.lst ((vec (n + (a0 + 1)) (ck n C G (a0 + 1))).map V.int)) = H7 at e7 acc7
      -- settled
      refine ⟨.ref p6, .ref p7, n, a0 + 1, M, C, fun _ => 0, ur (a0 + 1), F7, rfl, acc7.same, hG ▸ cols7, hG ▸ row7, frm, lll.bas, by omega, fun F8 H8 vt e8 hvt => ?_⟩
      rw [hG] at hvt
      have acc8 := acc7.pass mono_row e8
      have hvc8 := mono_rows.up e8.ff hvc7
      generalize hy : stl n G (a0 + 1) (ur (a0 + 1)) = y at *
      have own : Fm.Own (a0 + 1) y := by
        have up := fun c hc => Fm.stl_up n G (a0 + 1) (ur (a0 + 1)) c hc
        rw [hy] at up
        exact ⟨by rw [up _ (Nat.le_refl _)]; simp [ur], fun j hj => by rw [up j (by omega)]; unfold ur; rw [if_neg (by omega)]⟩
      have settled : Fm.Settled n G (a0 + 1) y := ⟨own, fun k hk => by
        have := Fm.stl_half hlead (a0 + 1) (ur (a0 + 1)) (by omega) k hk
        rwa [hy] at this⟩
      obtain ⟨ta, rfl, hta⟩ := hvt
      have elow : (vec (n + (a0 + 1)) (mk n C G (fun _ => 0) y)).take n = vec n (xc n C y) := by
        rw [vec_take (by omega)]
        exact Fm.vec_congr fun c hc => by rw [Fm.mk_low hc, Int.zero_add]
      have ecut2 : cutV ((vec (n + (a0 + 1)) (mk n C G (fun _ => 0) y)).map V.int) none (some (n : Int)) = (vec n (xc n C y)).map V.int := by rw [cut_to, ← List.map_take, elow]
      -- basis[at] = settled[:n]
      refine ⟨_, rfl, _, rfl, _, rfl, ta, _, rfl, row_seq hta acc8.same, fun p9 hp9 => ?_⟩
      rw [ecut2]
      have e9 : Ext F8 H8 (upd F8 p9 (.lst ((vec n (xc n C y)).map V.int))) (upd H8 p9 (.lst ((vec n (xc n C y)).map V.int))) := (Ext.refl acc8.same).put hp9
      have acc9 := acc8.pass mono_row e9
      have row9 : IsRow (upd F8 p9 (.lst ((vec n (xc n C y)).map V.int))) (.ref p9) (vec n (xc n C y)) := ⟨p9, rfl, upd_same⟩
      have hta9 := e9.ff _ _ hta
      have hvc9 := mono_rows.up e9.ff hvc8
      generalize upd F8 p9 (.lst ((vec n (xc n C y)).map V.int)) = F9 at e9 acc9 row9 hta9 hvc9
      generalize upd H8 p9 (.lst ((vec n (xc n C y)).map V.int)) = H9 at e9 acc9
      refine ⟨_, rfl, _, rfl, b, us, _, a0 + 1, rfl, rfl, acc9.at_, ixN_nat (by omega), ?_⟩
      have acc10 := acc9.set (i := a0 + 1) row9
      rw [rowsL_set] at acc10
      generalize hus : us.set (a0 + 1) (.ref p9) = us' at acc10
      generalize upd H9 b (.lst us') = H10 at acc10
      have lenU' : us'.length = n := by rw [acc10.len, rowsL_len]
      have made : Fm.Made n C (a0 + 1) y (sr C (a0 + 1) (xc n C y)) := ⟨fun i c _ _ hne => Fm.sr_ne _ _ _ hne, fun c _ => Fm.sr_same _ _ _ _⟩
      have hh := settled.half a0 (by omega)
      have d1 := lll.bas.dt_small frm (show a0 + 1 ≤ n by omega)
      rw [hG] at d1
      -- is_less_swapped
      refine ⟨_, rfl, _, rfl, 1, rfl, ta, _, _, _, rfl, rfl, row_seq hta9 acc10.same, atI_end (k := n + a0) (by rw [List.length_map, Fm.vec_length]; omega) (vecV (by omega)), ?_⟩
      rw [Fm.mk_side]
      refine ⟨.ref ca, n, a0, M, C, side n G a0 y, F9, rfl, acc10.same, hG ▸ hvc9, frm, lll.bas, by omega, by omega, ?_⟩
      rw [hG]
      refine ⟨_, rfl, ite2 (fun hless => ?_) (fun hless => ?_)⟩
      · have hless := of_decide_eq_true hless
        have sw : Fm.Swapped n (sr C (a0 + 1) (xc n C y)) a0 (sr (sr (sr C (a0 + 1) (xc n C y)) (a0 + 1) (C a0)) a0 (xc n C y)) :=
          ⟨fun r c _ _ h1 h2 => by rw [Fm.sr_ne _ _ _ h1, Fm.sr_ne _ _ _ h2], fun c _ => by rw [Fm.sr_same, Fm.sr_same], fun c _ => by rw [Fm.sr_ne _ _ _ (by omega), Fm.sr_same, Fm.sr_ne _ _ _ (by omega)]⟩
        obtain ⟨lll2, lt2⟩ := lll.back frm hlt (hG ▸ settled) made sw (hG ▸ hless)
        -- basis[at] = basis[at - 1]
        obtain ⟨xb, hxb, hxrow⟩ := pget' acc10.rel (rowsL_at (show a0 < n by omega))
        refine ⟨_, rfl, _, rfl, _, _, rfl, rfl, b, _, _, _, rfl, rfl, SqL.of acc10.at_, at_of (j := a0) (by omega) hxb, _, rfl, _, rfl, b, us', _, a0 + 1, rfl, rfl, acc10.at_, ixN_nat (by omega), ?_⟩
        have acc11 := acc10.set (i := a0 + 1) hxrow
        rw [Fm.vec_congr (y := C a0) fun c _ => Fm.sr_ne _ _ _ (by omega), rowsL_set] at acc11
        generalize hus2 : us'.set (a0 + 1) xb = us2' at acc11
        generalize upd H10 b (.lst us2') = H11 at acc11
        have lenU2 : us2'.length = n := by rw [acc11.len, rowsL_len]
        -- basis[at - 1] = settled[:n]
        refine ⟨_, rfl, _, rfl, _, rfl, ta, _, rfl, row_seq hta9 acc11.same, fun p12 hp12 => ?_⟩
        rw [ecut2]
        have e12 : Ext F9 H11 (upd F9 p12 (.lst ((vec n (xc n C y)).map V.int))) (upd H11 p12 (.lst ((vec n (xc n C y)).map V.int))) := (Ext.refl acc11.same).put hp12
        have acc12 := acc11.pass mono_row e12
        refine ⟨_, rfl, _, rfl, _, _, rfl, rfl, b, us2', _, a0, rfl, rfl, acc12.at_, ?_, ?_⟩
        · rw [show (((a0 + 1 : Nat) : Int) - 1) = (a0 : Int) by omega]
          exact ixN_nat (by omega)
        have acc13 := acc12.set (i := a0) (y := .ref p12) (x := vec n (xc n C y)) ⟨p12, rfl, upd_same⟩
        rw [rowsL_set] at acc13
        -- at = max(at - 1, 1)
        refine ⟨_, rfl, _, _, rfl, rfl, _, _, rfl, ?_⟩
        refine ⟨_, lt2, max a0 1, _, _, _, some (.ref ca), some (.ref ta), rfl, ?_, lll2, by omega, by omega, acc13⟩
        have em : (if (1 : Int) > ((a0 + 1 : Nat) : Int) - 1 then (1 : Int) else ((a0 + 1 : Nat) : Int) - 1) = ((max a0 1 : Nat) : Int) := by
          split <;> omega
        rw [← em]
        rfl
      · have hless : ¬ _ := fun z => hless (decide_eq_true z)
        obtain ⟨lll2, lt2⟩ := lll.stay frm hlt (hG ▸ settled) made (hG ▸ hless)
        refine ⟨_, rfl, _, _, rfl, rfl, _, lt2, a0 + 2, _, _, _, _, _, rfl, rfl, lll2, by omega, by omega, acc10⟩
    · have hc : ¬ (at' : Int) < n := fun z => hc (decide_eq_true z)
      have e : at' = n := by omega
      subst e
      obtain ⟨e4, h4, _⟩ := acc.done mono_row
      refine ⟨_, rfl, _, rfl, vr, .ref b, at', at', M, C, _, rfl, e4.inn, mono_rows.up e4.ff hvr, h4, frm, lll.bas, h1, Nat.le_refl _, fun F5 H5 vc e5 hvc => ?_⟩
      exact kk F5 H5 vc C ((e1.trans e4).trans e5) ⟨frm, lll⟩ hvc
end
end Pr
/-! ### earlier, added, ways_by_value -/
namespace Pr
open PySem PySem.Spec PyProof.Rows L2
open Fm (gm dt bm small vec rt zl zs chs chL colL colsL ck mk Latt gr sp side addz Mat erl addL IsFirst)
abbrev sEarl : Stmt := top 22
abbrev sAdd : Stmt := top 23
abbrev sByVal : Stmt := top 21
def OptRow : Hp → V → Option (List Int) → Prop := fun F v o => match o with
  | Option.none => v = .non
  | some w => IsRow F v w
theorem mono_opt : Mono OptRow := ⟨fun {F F' v x} s h => by
  cases x with
  | none => exact h
  | some w => exact mono_row.up s h⟩
def spEarl : Sp := fun vs H Q _ => ∃ (v1 v2 : V) (o : Option (List Int)) (w' : List Int) (F : Hp), vs = [v1, v2] ∧ Same F H ∧ OptRow F v1 o ∧ IsRow F v2 w' ∧ (∀ x, o = some x → x.length = w'.length) ∧ ∀ v, IsRow F v (erl o w') → Q v H
def spAdd : Sp := fun vs H Q _ => ∃ (v1 v2 : V) (x y : List Int) (F : Hp), vs = [v1, v2] ∧ Same F H ∧ IsRow F v1 x ∧ IsRow F v2 y ∧ x.length = y.length ∧ x.length ≤ 8 ∧ ∀ (F' H' : Hp) (v : V), Ext F H F' H' → IsRow F' v (addL x y) → Q v H'
/-- found: for each value how many of Z have it, and the first of their unknowns -/
def FoundOk (F : Hp) (kvs : List (Key × V)) (Z : List (Nat → Int)) (val : (Nat → Int) → Int) (way : (Nat → Int) → List Int) : Prop :=
  ∀ v : Int, match valV kvs (Sum.inl v) with
    | Option.none => Z.filter (fun z => decide (val z = v)) = []
    | some u => ∃ (c : Int) (w' : List Int), IsCh F u (c, w') ∧ c = ((Z.filter fun z => decide (val z = v)).length : Nat) ∧ IsFirst ((Z.filter fun z => decide (val z = v)).map way) (some w')
def spByVal : Sp := fun vs H Q _ => ∃ (n : Nat) (M C : Mat) (k : Nat) (m : Int) (w' y0 : Nat → Int) (F : Hp) (vl vs' : V), vs = [.int n, vl, vs', .int m] ∧ Same F H ∧
  IsRows F vl (colsL n C (gr n M C) n) ∧ IsCh F vs' (chL n C (gr n M C) k w' y0) ∧ StartOk n M C m k y0 ∧ k ≤ n ∧ k ≤ 4 ∧
  ∀ (F' H' : Hp) (d : Addr) (kvs : List (Key × V)), Ext F H F' H' → F' d = some (.dK kvs) → FoundOk F' kvs (chs n (gr n M C) m k y0 k) (sp n (gr n M C) 0) (fun z => vec n (mk n C (gr n M C) w' z)) → Q (.ref d) H'
section
variable {P : Program} {w : World} {K : PySem.W.Frag} {mg : Str → Option Value} {base : Heap}
theorem scEarl : FnScope ["first", "way"] ["first", "way"] (defScope sEarl) := ⟨rfl, rfl, rfl, by decide +kernel, rfl, by decide +kernel, by decide +kernel⟩
theorem ok_earl {f : Addr} {fd : FuncData} (F : Fun K "earlier" "earlier" sEarl f fd) : FnOk P w K mg base CX0 1 f fd ["first", "way"] spEarl := by
  refine F.ok scEarl (fun vs H Q E h => ?_) (fun cdv A outer s H vs Q E hr h => ?_)
  · obtain ⟨v1, v2, o, w', F, rfl, _⟩ := h
    rfl
  · obtain ⟨v1, v2, o, w', F, rfl, s0, h1, h2, hl, k⟩ := h
    refine ⟨_, pss_one (ps_ret (pe_ifExp (PW.pt (pw_or (pt_cmp (pc_isN (pv 0))) (pw_or1 (pt_cmpR (op_ltL hr.units0) (pv 1) (pv 0) (nomark _))))) (pv 1) (pv 0))), ?_⟩
    cases o with
    | none =>
      have e : v1 = .non := h1
      subst e
      refine ⟨_, rfl, _, rfl, ?_⟩
      refine iteT ?_
      refine iteT ?_
      exact ⟨_, rfl, k v2 h2⟩
    | some x =>
      obtain ⟨a, rfl, ha⟩ := h1
      obtain ⟨b, rfl, hb⟩ := h2
      have hl := hl x rfl
      refine ⟨_, rfl, _, rfl, ?_⟩
      refine iteF ?_
      refine ⟨_, rfl, _, rfl, b, a, w', x, rfl, rfl, row_seq hb s0, row_seq ha s0, hl.symm, _, rfl, ?_⟩
      rw [lex_before _ _ hl.symm]
      have ke : erl (some x) w' = if Ql78.before w' x = true then w' else x := rfl
      rw [ke] at k
      by_cases q : Ql78.before w' x = true
      · rw [if_pos q] at k
        rw [q]
        exact iteT ⟨_, rfl, k _ ⟨b, rfl, hb⟩⟩
      · rw [if_neg q] at k
        rw [Bool.eq_false_iff.mpr q]
        exact iteF ⟨_, rfl, k _ ⟨a, rfl, ha⟩⟩
theorem scAdd : FnScope ["left", "right", "x", "y"] ["left", "right"] (defScope sAdd) := ⟨rfl, rfl, rfl, by decide +kernel, rfl, by decide +kernel, by decide +kernel⟩
theorem ok_add {f : Addr} {fd : FuncData} (F : Fun K "added" "added" sAdd f fd) (hzip : mg "zip" = none) : FnOk P w K mg base CX0 1 f fd ["left", "right"] spAdd := by
  refine F.ok scAdd (fun vs H Q E h => ?_) (fun cdv A outer s H vs Q E hr h => ?_)
  · obtain ⟨v1, v2, x, y, F, rfl, _⟩ := h
    rfl
  · obtain ⟨v1, v2, x, y, F, rfl, s0, ⟨a, rfl, ha⟩, ⟨b, rfl, hb⟩, hl, h8, k⟩ := h
    have nd := scAdd.nd
    have ll : (addL x y).length = x.length := by unfold addL; rw [List.length_zipWith]; omega
    refine ⟨_, pss_one (ps_ret (pe_lc rfl nd (pi_zip rfl hzip (pa_cons (pv 0) (pa_cons (pv 1) pa_nil))) (blkOk_by (own := [("x", 2), ("y", 3)]) (by kernel_rfl))
      (fun _ _ _ _ _ => pg_pair K (i := 2) (j := 3) rfl nd rfl rfl (Or.inl rfl) (Or.inl rfl)) (fun _ _ _ _ _ => pts_nil) (fun _ _ _ _ _ => pe_op op_add (pv 2) (pv 3)))), ?_⟩
    refine ⟨_, rfl, _, rfl, a, b, _, _, rfl, row_seq ha s0, row_seq hb s0, fun D hD => ?_⟩
    refine lc_zip (K := K) (a := a) (b := b) (xs := x.map V.int) (ys := y.map V.int) (AccP IsI F H D (addL x y)) (Acc.p0 (Ext.refl s0) hD) (fun j H' ⟨F3, us3, a3⟩ => ⟨row_seq (a3.ext.ff _ _ ha) a3.same, row_seq (a3.ext.ff _ _ hb) a3.same⟩) ?_ ?_
    · rintro j u v T H3 hx hy ⟨F3, us3, a3⟩ hT
      rw [List.getElem?_map] at hx hy
      obtain ⟨i1, e1, rfl⟩ := Option.map_eq_some_iff.mp hx
      obtain ⟨i2, e2, rfl⟩ := Option.map_eq_some_iff.mp hy
      refine ⟨T, _, rfl, SqT.of upd_same, rfl, _, _, rfl, _, _, rfl, rfl, rfl, ?_⟩
      refine ⟨_, rfl, _, rfl, i1, i2, rfl, rfl, ?_⟩
      refine a3.next mono_i (x := i1 + i2) ?_ (by omega) ((Ext.refl a3.same).put hT) rfl
      unfold addL
      rw [List.getElem?_zipWith, e1, e2]
    · rintro H3 a3
      obtain ⟨F4, e4, h4⟩ := a3.done mono_i (by rw [List.length_map, List.length_map, ll]; omega)
      exact k F4 H3 _ e4 (row_of h4)
theorem scByVal : FnScope ["n", "columns", "choice", "most", "found", "value", "way", "known"] ["n", "columns", "choice", "most"] (defScope sByVal) := ⟨rfl, rfl, rfl, by decide +kernel, rfl, by decide +kernel, by decide +kernel⟩
theorem found_step {F F' : Hp} {kvs : List (Key × V)} {Z : List (Nat → Int)} {z : Nat → Int} {val : (Nat → Int) → Int} {way : (Nat → Int) → List Int} {n : Nat} (hn : ∀ y, (way y).length = n) (h : FoundOk F kvs Z val way) (s : Same F F') {u : V} {c : Int} {o : Option (List Int)}
    (hc : c = ((Z.filter fun y => decide (val y = val z)).length : Nat)) (ho : IsFirst ((Z.filter fun y => decide (val y = val z)).map way) o) (hu : IsCh F' u (c + 1, erl o (way z))) : FoundOk F' (putK kvs (Sum.inl (val z)) u) (Z ++ [z]) val way := fun v => by
  rw [valV_put]
  by_cases q : v = val z
  · subst q
    rw [if_pos rfl]
    refine ⟨c + 1, erl o (way z), hu, ?_, ?_⟩
    · rw [Fm.filter_snoc, if_pos (decide_eq_true rfl), List.length_append, hc]
      rfl
    · rw [Fm.filter_snoc, if_pos (decide_eq_true rfl), List.map_append]
      refine Fm.isFirst_add (n := n) (fun x hx => ?_) (fun x hx => ?_) ho (Fm.isFirst_one _)
      · obtain ⟨y, _, rfl⟩ := List.mem_map.mp hx
        exact hn y
      · rw [List.mem_singleton.mp hx]
        exact hn z
  · rw [if_neg (fun e => q (by injection e))]
    have z1 := h v
    have e : (Z ++ [z]).filter (fun y => decide (val y = v)) = Z.filter fun y => decide (val y = v) := by
      rw [Fm.filter_snoc, if_neg (fun e => q (of_decide_eq_true e).symm), List.append_nil]
    rw [e]
    cases e2 : valV kvs (Sum.inl v) with
    | none => rw [e2] at z1; exact z1
    | some u' =>
      rw [e2] at z1
      obtain ⟨c', w', h1, h2, h3⟩ := z1
      exact ⟨c', w', mono_ch.up s h1, h2, h3⟩
theorem ok_byVal {f fG fE : Addr} {fd fdG fdE : FuncData} (F : Fun K "ways_by_value" "ways_by_value" sByVal f fd)
    (GG : FnOk P w K mg base CX0 3 fG fdG ["n", "columns", "start", "to", "most"] spGrowns) (kG : PySem.W.keepIn K (.ref fG) = true) (bG : Binds K fdG ["n", "columns", "start", "to", "most"] []) (mG : mg "grown_choices" = some (.ref fG))
    (GE : FnOk P w K mg base CX0 1 fE fdE ["first", "way"] spEarl) (kE : PySem.W.keepIn K (.ref fE) = true) (bE : Binds K fdE ["first", "way"] []) (mE : mg "earlier" = some (.ref fE)) :
    FnOk P w K mg base CX0 4 f fd ["n", "columns", "choice", "most"] spByVal := by
  refine F.ok scByVal (fun vs H Q E h => ?_) (fun cdv A outer s H vs Q E hr h => ?_)
  · obtain ⟨n, M, C, k, m, w', y0, F, vl, vs', rfl, _⟩ := h
    rfl
  · obtain ⟨n, M, C, k, m, w', y0, F, vl, vs', rfl, s0, hvl, hvs, st, hkn, hk4, kk⟩ := h
    have nd := scByVal.nd
    have hu := hu_of hr
    have hr1 : Room 1 _ := hr.mono (by decide)
    generalize hG : gr n M C = G at *
    refine ⟨_, pss_cons (ps_set (i := 4) nd rfl (Or.inl rfl) pe_dnewK)
      (pss_cons (ps_for PassesOwn.never rfl (pi_list (pe_call GG hr rfl mG kG bG .nil pass0 (pa_cons (pv 0) (pa_cons (pv 1) (pa_cons (pv 2) (pa_cons pe_int (pa_cons (pv 3) pa_nil))))))) (pg_pair K (i := 5) (j := 6) rfl nd rfl rfl (Or.inl rfl) (Or.inl rfl))
        (pss_cons (ps_set (i := 7) nd rfl (Or.inl rfl) (pe_dget2 hu (pv 4) (pv 5) (pe_tup (pa_cons pe_int (pa_cons pe_non pa_nil))) ⟨rfl, rfl, rfl, rfl⟩))
        (pss_one (ps_dput hu (pv 4) (pv 5) (pe_tup (pa_cons (pe_op op_add (pe_ix ix_tup (pv 7) pe_int (fun _ _ => rfl)) pe_int) (pa_cons (pe_call GE hr1 rfl mE kE bE .nil pass0 (pa_cons (pe_ix ix_tup (pv 7) pe_int (fun _ _ => rfl)) (pa_cons (pv 6) pa_nil))) pa_nil))) rfl))))
      (pss_one (ps_ret (pv 4)))), ?_⟩
    intro d hd
    have e1 : Ext F H F (upd H d (.dK [])) := (Ext.refl s0).loc hd (s0.free hd)
    have hd1 : (upd H d (.dK [])) d = some (.dK []) := upd_same
    generalize upd H d (.dK []) = H1 at e1 hd1
    refine ⟨_, rfl, _, rfl, _, rfl, _, rfl, n, M, C, k, n, 0, m, w', y0, F, vl, vs', rfl, e1.inn, hG ▸ hvl, hG ▸ hvs, st, hkn, Nat.le_refl _, Nat.zero_le _, by omega, fun F2 H2 v2 e2 hv2 => ?_⟩
    rw [hG, Nat.sub_zero] at hv2
    obtain ⟨ga, xs, rfl, hga, rel⟩ := hv2
    have dF2 := e2.out hd1 (s0.free hd)
    have hd2 := e2.hh _ _ hd1
    have len44 := len44 st hkn (Nat.le_refl k) hk4
    rw [hG] at len44
    have lenx : xs.length = (chs n G m k y0 k).length := by rw [Paired.length rel, List.length_map]
    refine ⟨ga, rfl, ⟨_, row_seq hga e2.inn⟩, ?_⟩
    have wl : ∀ y, (vec n (mk n C G w' y)).length = n := fun y => Fm.vec_length _ _
    refine for_list (K := K) (a := ga) (xs := xs) (fun i σ H' => ∃ (F' : Hp) (kvs : List (Key × V)) (o5 o6 o7 : Option V), σ = [some (.int n), some vl, some vs', some (.int m), some (.ref d), o5, o6, o7] ∧ Ext F H F' H' ∧ Same F2 F' ∧ H' d = some (.dK kvs) ∧ F' d = Option.none ∧ kvs.length ≤ i ∧
      FoundOk F' kvs ((chs n G m k y0 k).take i) (sp n G 0) (fun z => vec n (mk n C G w' z))) ⟨F2, [], none, none, none, rfl, e1.trans e2, .refl _, hd2, dF2, Nat.le_refl _, fun v => rfl⟩ (fun i σ H' _ ⟨F', kvs, o5, o6, o7, _, e, s, _⟩ => row_seq (s _ _ hga) e.inn) ?_ ?_
    · rintro i x σ H3 hx ⟨F3, kvs, o5, o6, o7, rfl, e3, s3, hd3, dF3, hlen, fok⟩
      obtain ⟨ch, hch, hxc⟩ := pget rel hx
      obtain ⟨z, hz, rfl⟩ : ∃ z, (chs n G m k y0 k)[i]? = some z ∧ ch = chL n C G 0 w' z := by
        rw [List.getElem?_map] at hch
        obtain ⟨y, h1, h2⟩ := Option.map_eq_some_iff.mp hch
        exact ⟨y, h1, h2.symm⟩
      have hi : i < xs.length := (List.getElem?_eq_some_iff.mp hx).1
      obtain ⟨ca, v1, v2, rfl, hca, (rfl : v1 = .int _), hway⟩ := mono_ch.up s3 hxc
      refine ⟨ca, _, rfl, SqT.of (e3.inn _ _ hca), rfl, _, _, rfl, _, _, rfl, rfl, ?_⟩
      have hway : IsRow F3 v2 (vec n (mk n C G w' z)) := hway
      -- known = found.get(value, (0, None))
      refine ⟨_, rfl, d, rfl, .inl ⟨_, .inl hd3⟩, _, rfl, (by show 2 ≤ sizeLine; decide), fun p hp => ?_⟩
      have ne : d ≠ p := ne_of_none hd3 hp
      have e4 : Ext F3 H3 (upd F3 p (.tup [.int 0, .non])) (upd H3 p (.tup [.int 0, .non])) := (Ext.refl e3.inn).put hp
      have hd4 : (upd H3 p (.tup [.int 0, .non])) d = some (.dK kvs) := by rw [upd_ne ne]; exact hd3
      refine ⟨_, DGet.k (k := Sum.inl (sp n G 0 z)) hd4, ?_⟩
      have key : ∃ (q : Addr) (c : Int) (u1 : V) (o : Option (List Int)), (valV kvs (Sum.inl (sp n G 0 z))).getD (.ref p) = .ref q ∧ (upd F3 p (.tup [.int 0, .non])) q = some (.tup [.int c, u1]) ∧ OptRow (upd F3 p (.tup [.int 0, .non])) u1 o ∧
          c = ((((chs n G m k y0 k).take i).filter fun y => decide (sp n G 0 y = sp n G 0 z)).length : Nat) ∧ IsFirst ((((chs n G m k y0 k).take i).filter fun y => decide (sp n G 0 y = sp n G 0 z)).map fun z => vec n (mk n C G w' z)) o := by
        have f := fok (sp n G 0 z)
        cases ev : valV kvs (Sum.inl (sp n G 0 z)) with
        | none =>
          rw [ev] at f
          exact ⟨p, 0, .non, Option.none, rfl, upd_same, rfl, by rw [f]; rfl, by rw [f]; rfl⟩
        | some u =>
          rw [ev] at f
          obtain ⟨c, wv, ⟨q, a1, a2, rfl, hq, (rfl : a1 = .int c), hrow⟩, h2, h3⟩ := f
          exact ⟨q, c, a2, some wv, rfl, e4.ff _ _ hq, mono_row.up e4.ff hrow, h2, h3⟩
      obtain ⟨q, c, u1, o, ev, hq, hopt, hc, hfirst⟩ := key
      rw [ev]
      have dF4 : (upd F3 p (.tup [.int 0, .non])) d = Option.none := by rw [upd_ne ne]; exact dF3
      have hway4 := mono_row.up e4.ff hway
      have e34 := e3.trans e4
      have s4 := s3.trans e4.ff
      have f4 := e4.ff
      generalize upd F3 p (.tup [.int 0, .non]) = F4 at *
      generalize upd H3 p (.tup [.int 0, .non]) = H4 at *
      -- found[value] = (known[0] + 1, earlier(known[1], way))
      refine ⟨_, rfl, q, _, 0, _, rfl, rfl, SqT.of (e4.inn _ _ hq), at_of (j := 0) rfl rfl, c, 1, rfl, rfl, ?_⟩
      refine ⟨_, rfl, q, _, 1, _, rfl, rfl, SqT.of (e4.inn _ _ hq), at_of (j := 1) rfl rfl, _, rfl, ?_⟩
      refine ⟨u1, v2, o, _, F4, rfl, e4.inn, hopt, hway4, fun x hx => ?_, fun v5 hv5 => ?_⟩
      · subst hx
        obtain ⟨y, _, hy⟩ := List.mem_map.mp hfirst.1
        rw [← hy, Fm.vec_length, Fm.vec_length]
      refine ⟨(by show 2 ≤ sizeLine; decide), fun r hr6 => ?_⟩
      have ne6 : d ≠ r := ne_of_none hd4 hr6
      have e6 : Ext F4 H4 (upd F4 r (.tup [.int (c + 1), v5])) (upd H4 r (.tup [.int (c + 1), v5])) := (Ext.refl e4.inn).put hr6
      have hd6 : (upd H4 r (.tup [.int (c + 1), v5])) d = some (.dK kvs) := by rw [upd_ne ne6]; exact hd4
      have dF6 : (upd F4 r (.tup [.int (c + 1), v5])) d = Option.none := by rw [upd_ne ne6]; exact dF4
      have tup6 : IsCh (upd F4 r (.tup [.int (c + 1), v5])) (.ref r) (c + 1, erl o (vec n (mk n C G w' z))) := ⟨r, _, _, rfl, upd_same, rfl, mono_row.up e6.ff hv5⟩
      have e36 := e34.trans e6
      have s6 := s4.trans e6.ff
      have sf6 := f4.trans e6.ff
      generalize upd F4 r (.tup [.int (c + 1), v5]) = F6 at *
      generalize upd H4 r (.tup [.int (c + 1), v5]) = H6 at *
      refine ⟨_, rfl, _, rfl, d, _, rfl, DPut.k (k := Sum.inl (sp n G 0 z)) hd6 (small24 (by omega)), ?_⟩
      refine ⟨F6, putK kvs (Sum.inl (sp n G 0 z)) (.ref r), _, _, _, rfl, e36.loc hd dF6, s6, upd_same, dF6, ?_, ?_⟩
      · have := length_putK kvs (Sum.inl (sp n G 0 z)) (.ref r)
        omega
      · rw [List.take_add_one, hz]
        exact found_step wl fok sf6 hc hfirst tup6
    · rintro σ H3 ⟨F3, kvs, o5, o6, o7, rfl, e3, s3, hd3, dF3, hlen, fok⟩
      rw [lenx, List.take_length] at fok
      refine ⟨_, rfl, ?_⟩
      have e4 := e3.freeze hd3 hd dF3
      refine kk _ H3 d kvs e4 upd_same fun v => ?_
      have f := fok v
      cases ev : valV kvs (Sum.inl v) with
      | none => rw [ev] at f; exact f
      | some u =>
        rw [ev] at f
        obtain ⟨c, wv, h1, h2, h3⟩ := f
        exact ⟨c, wv, mono_ch.up (same_put dF3) h1, h2, h3⟩
end
end Pr
/-! ### alike_choices -/
namespace Pr
open PySem PySem.Spec PyProof.Rows L2
open Fm (gm dt bm small vec rt zl zs chs chL colL colsL ck mk Latt gr sp side addz Mat erl addL IsFirst stl xc)
abbrev sAlike : Stmt := top 20
/-- a choice as it is kept among those alike -/
def entA (n : Nat) (C G : Mat) (mid : Nat) (y : Nat → Int) : Int × List Int := (sp n G mid y, vec n (xc n C (stl n G mid y)))
def sumsA (n : Nat) (G : Mat) (mid : Nat) (y : Nat → Int) : List Int := vec mid fun i => side n G i (stl n G mid y)
def keyA (ks : List Int) : List Key := ks.map Sum.inl
theorem keyA_inj {a b : List Int} (h : keyA a = keyA b) : a = b := by
  have z := congrArg (List.map fun (x : Key) => match x with | .inl i => i | .inr _ => (0 : Int)) h
  unfold keyA at z
  rw [List.map_map, List.map_map] at z
  have e : ((fun (x : Key) => match x with | .inl i => i | .inr _ => (0 : Int)) ∘ Sum.inl) = id := rfl
  rw [e, List.map_id, List.map_id] at z
  exact z
theorem keyA_kV (ks : List Int) : (keyA ks).map kV = ks.map V.int := by
  unfold keyA
  rw [List.map_map]
  rfl
/-- groups of choices -/
structure GroupsOk (n : Nat) (G : Mat) (mid : Nat) (U : List (Nat → Int)) (gs : List (Grp (Nat → Int) (List Key))) : Prop where
  per : (allY gs).Perm U
  ne : ∀ g ∈ gs, g.ys ≠ []
  ks : ∀ g ∈ gs, ∀ y ∈ g.ys, g.ks = keyA (sumsA n G mid y)
def spAlike : Sp := fun vs H Q _ => ∃ (n : Nat) (M C : Mat) (mid : Nat) (U : List (Nat → Int)) (F : Hp) (vl vc : V), vs = [.int n, vl, vc] ∧ Same F H ∧
  IsRows F vl (colsL n C (gr n M C) mid) ∧ IsChs F vc (U.map (chL n C (gr n M C) mid fun _ => 0)) ∧ Latt n M C ∧ mid ≤ n ∧ U.length < 16777216 ∧
  ∀ (F' H' : Hp) (d : Addr) (gs : List (Grp (Nat → Int) (List Key))), Ext F H F' H' → H d = Option.none → H' d = some (.dT (gs.map fun g => (g.ks, V.ref g.b))) → F' d = Option.none → (∀ g ∈ gs, IsChs F' (.ref g.b) (g.ys.map (entA n C (gr n M C) mid))) → GroupsOk n (gr n M C) mid U gs → Q (.ref d) H'
section
variable {P : Program} {w : World} {K : PySem.W.Frag} {mg : Str → Option Value} {base : Heap}
theorem scAlike : FnScope ["n", "columns", "choices", "alike", "spent", "marks", "settled"] ["n", "columns", "choices"] (defScope sAlike) := ⟨rfl, rfl, rfl, by decide +kernel, rfl, by decide +kernel, by decide +kernel⟩
theorem mem_len {α κ : Type} {gs : List (Grp α κ)} (ne : ∀ g ∈ gs, g.ys ≠ []) : gs.length ≤ (allY gs).length := by
  induction gs with
  | nil => exact Nat.zero_le _
  | cons g t ih =>
    have h1 := ih fun x hx => ne x (List.mem_cons_of_mem _ hx)
    have h2 : 0 < g.ys.length := List.length_pos_iff.mpr (ne g (List.mem_cons_self ..))
    show t.length + 1 ≤ (g.ys ++ allY t).length
    rw [List.length_append]
    omega
theorem grp_len {α κ : Type} {gs : List (Grp α κ)} {g : Grp α κ} (h : g ∈ gs) : g.ys.length ≤ (allY gs).length := by
  induction gs with
  | nil => exact nomatch h
  | cons a t ih =>
    show g.ys.length ≤ (a.ys ++ allY t).length
    rw [List.length_append]
    rcases List.mem_cons.mp h with e | h
    · rw [e]; omega
    · have := ih h
      omega
theorem ok_alike {f fT : Addr} {fd fdT : FuncData} (F : Fun K "alike_choices" "alike_choices" sAlike f fd) (htup : mg "tuple" = none)
    (GT : FnOk P w K mg base CX0 1 fT fdT ["columns", "marks"] spSettle) (kT : PySem.W.keepIn K (.ref fT) = true) (bT : Binds K fdT ["columns", "marks"] []) (mT : mg "settle" = some (.ref fT)) :
    FnOk P w K mg base CX0 2 f fd ["n", "columns", "choices"] spAlike := by
  refine F.ok scAlike (fun vs H Q E h => ?_) (fun cdv A outer s H vs Q E hr h => ?_)
  · obtain ⟨n, M, C, mid, U, F, vl, vc, rfl, _⟩ := h
    rfl
  · obtain ⟨n, M, C, mid, U, F, vl, vc, rfl, s0, hvl, ⟨ga, xs, rfl, hga, rel⟩, latt, hmid, hU, kk⟩ := h
    have nd := scAlike.nd
    have hu := hu_of hr
    have h8 := latt.frm.low
    generalize hG : gr n M C = G at *
    refine ⟨_, pss_cons (ps_set (i := 3) nd rfl (Or.inl rfl) pe_dnewT)
      (pss_cons (ps_for PassesOwn.never rfl (pi_list (pv 2)) (pg_pair K (i := 4) (j := 5) rfl nd rfl rfl (Or.inl rfl) (Or.inl rfl))
        (pss_cons (ps_set (i := 6) nd rfl (Or.inl rfl) (pe_call GT hr rfl mT kT bT .nil pass0 (pa_cons (pv 1) (pa_cons (pv 5) pa_nil))))
        (pss_one (ps_expr (pe_bm PySem.F.plainAttrs_list PySem.F.slot_list_append PySem.F.type_list_append mt_append
          (pe_bm PySem.F.plainAttrs_dict PySem.F.slot_dict_setdefault PySem.F.type_dict_setdefault (mt_sdefT hu) (pv 3) (pa_cons (pe_callTy call_tuple_of rfl htup PyProof.Rows.boot_tuple (pa_cons (pe_slice sl_list (pv 6) (po_some (pv 0)) po_none) pa_nil)) (pa_cons (pe_lst pa_nil) pa_nil)))
          (pa_cons (pe_tup (pa_cons (pv 4) (pa_cons (pe_slice sl_list (pv 6) po_none (po_some (pv 0))) pa_nil))) pa_nil))))))
      (pss_one (ps_ret (pv 3)))), ?_⟩
    intro d hd
    have many0 : Many IsCh (entA n C G mid) HO.dT F H d [] F (upd H d (.dT [])) := ⟨(Ext.refl s0).loc hd (s0.free hd), upd_same, hd, s0.free hd, (fun g hg => nomatch hg), List.nodup_nil, fun l us e => nomatch e⟩
    generalize upd H d (.dT []) = H1 at many0
    refine ⟨_, rfl, ga, rfl, ⟨_, row_seq hga many0.ext.inn⟩, ?_⟩
    have lenx : xs.length = U.length := by rw [Paired.length rel, List.length_map]
    refine for_list (K := K) (a := ga) (xs := xs) (fun i σ H' => ∃ (F' : Hp) (gs : List (Grp (Nat → Int) (List Key))) (o4 o5 o6 : Option V), σ = [some (.int n), some vl, some (.ref ga), some (.ref d), o4, o5, o6] ∧ Many IsCh (entA n C G mid) HO.dT F H d gs F' H' ∧ GroupsOk n G mid (U.take i) gs)
      ⟨F, [], none, none, none, rfl, many0, ⟨by rw [List.take_zero]; exact List.Perm.refl [], (fun g hg => nomatch hg), (fun g hg => nomatch hg)⟩⟩ (fun i σ H' _ ⟨F', gs, o4, o5, o6, _, mn, _⟩ => row_seq (mn.ext.ff _ _ hga) mn.ext.inn) ?_ ?_
    · rintro i x σ H2 hx ⟨F2, gs, o4, o5, o6, rfl, mn, gok⟩
      have hi : i < xs.length := (List.getElem?_eq_some_iff.mp hx).1
      obtain ⟨ch, hch, hxc⟩ := pget rel hx
      obtain ⟨y, hy, rfl⟩ : ∃ z, U[i]? = some z ∧ ch = chL n C G mid (fun _ => 0) z := by
        rw [List.getElem?_map] at hch
        obtain ⟨y, h1, h2⟩ := Option.map_eq_some_iff.mp hch
        exact ⟨y, h1, h2.symm⟩
      obtain ⟨ca, v1, v2, rfl, hca, (rfl : v1 = .int _), hmarks⟩ := mono_ch.up mn.ext.ff hxc
      refine ⟨ca, _, rfl, SqT.of (mn.ext.inn _ _ hca), rfl, _, _, rfl, _, _, rfl, rfl, ?_⟩
      -- settled = settle(columns, marks)
      refine ⟨_, rfl, _, rfl, vl, v2, n, mid, M, C, fun _ => 0, y, F2, rfl, mn.ext.inn, hG ▸ mono_rows.up mn.ext.ff hvl, hG ▸ hmarks, latt.frm, latt.lll.bas, hmid, fun F3 H3 vt e3 hvt => ?_⟩
      rw [hG] at hvt
      have mn3 := mn.pass mono_ch e3
      obtain ⟨ta, rfl, hta⟩ := hvt
      -- alike.setdefault(tuple(settled[n:]), [])
      refine ⟨_, rfl, .inr (.inr (.inl ⟨rfl, .inr ⟨_, mn3.hd⟩⟩)), _, rfl, _, rfl, _, rfl, ta, _, rfl, row_seq hta mn3.ext.inn, fun p4 hp4 => ?_⟩
      have ecut : cutV ((vec (n + mid) (mk n C G (fun _ => 0) (stl n G mid y))).map V.int) (some (n : Int)) none = (sumsA n G mid y).map V.int := by
        rw [cut_from, ← List.map_drop, vec_drop, Nat.add_sub_cancel_left]
        congr 1
        exact Fm.vec_congr fun c _ => Fm.mk_side n C G _ _ c
      rw [ecut]
      have e4 : Ext F3 H3 (upd F3 p4 (.lst ((sumsA n G mid y).map V.int))) (upd H3 p4 (.lst ((sumsA n G mid y).map V.int))) := (Ext.refl mn3.ext.inn).put hp4
      have mn4 := mn3.pass mono_ch e4
      have hp4' : (upd H3 p4 (.lst ((sumsA n G mid y).map V.int))) p4 = some (.lst ((sumsA n G mid y).map V.int)) := upd_same
      have hta4 := e4.ff _ _ hta
      generalize upd F3 p4 (.lst ((sumsA n G mid y).map V.int)) = F4 at e4 mn4 hta4
      generalize upd H3 p4 (.lst ((sumsA n G mid y).map V.int)) = H4 at e4 mn4 hp4'
      refine ⟨p4, _, rfl, .inl ⟨SqL.of hp4', fun q5 hq5 => ?_⟩⟩
      have e5 : Ext F4 H4 (upd F4 q5 (.tup ((sumsA n G mid y).map V.int))) (upd H4 q5 (.tup ((sumsA n G mid y).map V.int))) := (Ext.refl mn4.ext.inn).put hq5
      have mn5 := mn4.pass mono_ch e5
      have hq5' : (upd H4 q5 (.tup ((sumsA n G mid y).map V.int))) q5 = some (.tup ((keyA (sumsA n G mid y)).map kV)) := by rw [keyA_kV]; exact upd_same
      have hta5 := e5.ff _ _ hta4
      generalize upd F4 q5 (.tup ((sumsA n G mid y).map V.int)) = F5 at e5 mn5 hta5
      generalize upd H4 q5 (.tup ((sumsA n G mid y).map V.int)) = H5 at e5 mn5 hq5'
      refine ⟨Nat.zero_le _, fun b6 hb6 => ?_⟩
      have e6 : Ext F5 H5 F5 (upd H5 b6 (.lst [])) := (Ext.refl mn5.ext.inn).loc hb6 (mn5.ext.inn.free hb6)
      have mn6 := mn5.pass mono_ch e6
      have hb6' : (upd H5 b6 (.lst [])) b6 = some (.lst []) := upd_same
      have hq6 := e6.hh _ _ hq5'
      have nb6 : ∀ g ∈ gs, g.b ≠ b6 := fun g hg => ne_of_none (mn5.at_ g hg).1 hb6
      have fb6 : F5 b6 = Option.none := mn5.ext.inn.free hb6
      have h0b6 : H b6 = Option.none := mn5.ext.hh.free hb6
      generalize upd H5 b6 (.lst []) = H6 at e6 mn6 hb6' hq6
      have lenG : gs.length ≤ i := by
        have := mem_len gok.ne
        rw [gok.per.length_eq, List.length_take] at this
        omega
      -- what comes behind: the append
      have app : ∀ (gs' : List (Grp (Nat → Int) (List Key))) (H7 : Hp) (j : Nat) (g : Grp (Nat → Int) (List Key)), Many IsCh (entA n C G mid) HO.dT F H d gs' F5 H7 → gs'[j]? = some g → (allY gs').Perm (U.take i) → (∀ g' ∈ gs', g' ≠ g → g'.ys ≠ []) → (∀ g' ∈ gs', ∀ y' ∈ g'.ys, g'.ks = keyA (sumsA n G mid y')) → g.ks = keyA (sumsA n G mid y) →
          tBM K "list" rAppend (fun _ _ Q' => Q' (.ref g.b) H7) (tCons (tTup (tCons (tVar 4) (tCons (tSl (rSlL K) (tVar 6) tNoPart (tPart (tVar 0))) tNil))) tNil) [some (.int n), some vl, some (.ref ga), some (.ref d), some (.int (sp n G mid y)), some v2, some (.ref ta)] H7
            (fun x H1 => ∃ (F' : Hp) (gs : List (Grp (Nat → Int) (List Key))) (o4 o5 o6 : Option V), [some (.int n), some vl, some (.ref ga), some (.ref d), some (.int (sp n G mid y)), some v2, some (.ref ta)] = [some (.int n), some vl, some (.ref ga), some (.ref d), o4, o5, o6] ∧ Many IsCh (entA n C G mid) HO.dT F H d gs F' H1 ∧ GroupsOk n G mid (U.take (i + 1)) gs) := by
        intro gs' H7 j g mn7 hj per ne ksok hks
        have hgm : g ∈ gs' := List.mem_of_getElem? hj
        refine ⟨.inl ⟨rfl, _, SqL.of (mn7.at_ g hgm).1⟩, _, rfl, _, rfl, _, rfl, _, rfl, ta, _, rfl, row_seq hta5 mn7.ext.inn, fun p8 hp8 => ?_⟩
        have ecut2 : cutV ((vec (n + mid) (mk n C G (fun _ => 0) (stl n G mid y))).map V.int) none (some (n : Int)) = (vec n (xc n C (stl n G mid y))).map V.int := by
          rw [cut_to, ← List.map_take, vec_take (by omega)]
          congr 1
          exact Fm.vec_congr fun c hc => by rw [Fm.mk_low hc, Int.zero_add]
        rw [ecut2]
        have e8 : Ext F5 H7 (upd F5 p8 (.lst ((vec n (xc n C (stl n G mid y))).map V.int))) (upd H7 p8 (.lst ((vec n (xc n C (stl n G mid y))).map V.int))) := (Ext.refl mn7.ext.inn).put hp8
        refine ⟨(by show 2 ≤ sizeLine; decide), fun r9 hr9 => ?_⟩
        have e9 := e8.put (o := .tup [.int (sp n G mid y), .ref p8]) hr9
        have mn9 := mn7.pass mono_ch e9
        have np : p8 ≠ r9 := fun z => by rw [z, upd_same] at hr9; cases hr9
        have ent9 : IsCh (upd (upd F5 p8 (.lst ((vec n (xc n C (stl n G mid y))).map V.int))) r9 (.tup [.int (sp n G mid y), .ref p8])) (.ref r9) (entA n C G mid y) := ⟨r9, _, _, rfl, upd_same, rfl, p8, rfl, by rw [upd_ne np, upd_same]; rfl⟩
        have len9 : g.us.length < 16777216 := by
          have l1 := grp_len hgm
          rw [per.length_eq, List.length_take] at l1
          have l2 := Paired.length (mn9.at_ g hgm).2.2.2
          rw [List.length_map] at l2
          omega
        refine ⟨g.b, g.us, _, rfl, rfl, (mn9.at_ g hgm).1, small24 len9, ?_⟩
        refine ⟨_, _, _, _, _, rfl, mn9.push hj ent9, ⟨?_, ?_, ?_⟩⟩
        · refine (allY_push hj rfl).trans ?_
          rw [List.take_add_one, hy]
          exact per.append_right _
        · intro g' hg'
          obtain ⟨c, hc⟩ := mem_ix hg'
          rw [List.getElem?_set] at hc
          by_cases q : j = c
          · rw [if_pos q] at hc
            split at hc
            · cases hc
              simp
            · cases hc
          · rw [if_neg q] at hc
            refine ne g' (List.mem_of_getElem? hc) fun e => ?_
            rw [e] at hc
            exact q (nd_get mn7.nd hj hc rfl)
        · intro g' hg' y' hy'
          obtain ⟨c, hc⟩ := mem_ix hg'
          rw [List.getElem?_set] at hc
          by_cases q : j = c
          · rw [if_pos q] at hc
            split at hc
            · cases hc
              rcases List.mem_append.mp hy' with z | z
              · exact ksok g hgm y' z
              · rw [List.mem_singleton.mp z]; exact hks
            · cases hc
          · rw [if_neg q] at hc
            exact ksok g' (List.mem_of_getElem? hc) y' hy'
      refine ⟨d, q5, .ref b6, _, keyA (sumsA n G mid y), rfl, rfl, mn6.hd, hq6, ?_, fun u hu' => ?_, fun hn => ?_⟩
      · rw [List.length_map]; exact small24 (by omega)
      · obtain ⟨j, hj⟩ := valV_at hu'
        rw [List.getElem?_map] at hj
        obtain ⟨g, hg, e⟩ := Option.map_eq_some_iff.mp hj
        have e1 : g.ks = keyA (sumsA n G mid y) := congrArg Prod.fst e
        have e2 : V.ref g.b = u := congrArg Prod.snd e
        subst e2
        exact app gs H6 j g mn6 hg gok.per (fun g' hg' _ => gok.ne g' hg') gok.ks e1
      · have mn7 := mn6.add (k := keyA (sumsA n G mid y)) hb6' fb6 h0b6 nb6
        refine app (gs ++ [⟨keyA (sumsA n G mid y), [], b6, []⟩]) _ gs.length ⟨keyA (sumsA n G mid y), [], b6, []⟩ mn7 (by simp) (by rw [allY_add]; exact gok.per) (fun g' hg' hne => ?_) (fun g' hg' y' hy' => ?_) rfl
        · rcases List.mem_append.mp hg' with z | z
          · exact gok.ne g' z
          · exact absurd (List.mem_singleton.mp z) hne
        · rcases List.mem_append.mp hg' with z | z
          · exact gok.ks g' z y' hy'
          · rw [List.mem_singleton.mp z] at hy'
            exact nomatch hy'
    · rintro σ H2 ⟨F2, gs, o4, o5, o6, rfl, mn, gok⟩
      rw [lenx, List.take_length] at gok
      obtain ⟨F3, e3, s3, dF3, lists⟩ := mn.done mono_ch
      exact ⟨_, rfl, kk F3 H2 d gs e3 hd mn.hd dF3 lists gok⟩
end
end Pr
/-! ### ways_to -/
namespace Pr
open PySem PySem.Spec PyProof.Rows L2
open Fm (gm dt bm small vec rt zl zs chs chL colL colsL ck mk Latt gr sp side addz Mat erl addL IsFirst stl xc blk later pr)
abbrev sWays : Stmt := top 18
abbrev IsTF : Hp → V → Int × Option (List Int) → Prop := T2 IsI OptRow
def spWays : Sp := fun vs H Q _ => ∃ (n : Nat) (ns : List Int) (C : Mat) (m : Int) (F : Hp) (vl : V), vs = [.int n, vl, .int m] ∧ Same F H ∧ IsRows F vl (colsL n C (gr n (gm n ns) C) n) ∧ Latt n (gm n ns) C ∧ Ql78.form n ns = true ∧ 1 ≤ n ∧ 0 ≤ m ∧ m ≤ 64 ∧
  ∀ (F' H' : Hp) (v : V), Ext F H F' H' → IsTF F' v ((((Ql78.ways n (Ql78.rows n ns) m).length : Nat) : Int), Ql78.firstWay n (Ql78.rows n ns) m) → Q v H'
/-- what is found so far: the choices done with their ways -/
structure Tal (n : Nat) (C G : Mat) (m : Int) (mid : Nat) (ys : List (Nat → Int)) (PU : List ((Nat → Int) × List (Nat → Int))) (total : Int) (o : Option (List Int)) : Prop where
  fst : PU.map (·.1) = ys
  ok : ∀ p ∈ PU, p.2.Nodup ∧ ∀ u, u ∈ p.2 ↔ (∀ c, mid ≤ c → u c = p.1 c) ∧ pr n G u u = m
  tot : total = ((PU.flatMap fun p => p.2.map fun u => vec n (xc n C u)).length : Nat)
  first : IsFirst (PU.flatMap fun p => p.2.map fun u => vec n (xc n C u)) o
theorem Tal.len {n : Nat} {C G : Mat} {m : Int} {mid : Nat} {ys : List (Nat → Int)} {PU : List ((Nat → Int) × List (Nat → Int))} {total : Int} {x : List Int} (t : Tal n C G m mid ys PU total (some x)) : x.length = n := by
  have h := t.first.1
  obtain ⟨p, _, hx⟩ := List.mem_flatMap.mp h
  obtain ⟨u, _, rfl⟩ := List.mem_map.mp hx
  exact Fm.vec_length _ _
theorem Tal.step {n : Nat} {C G : Mat} {m : Int} {mid : Nat} {ys : List (Nat → Int)} {PU : List ((Nat → Int) × List (Nat → Int))} {total : Int} {o : Option (List Int)} {y s' : Nat → Int} (t : Tal n C G m mid ys PU total o)
    (hb : (blk n G m mid (stl n G mid y) s').Nodup ∧ ∀ u, u ∈ blk n G m mid (stl n G mid y) s' ↔ (∀ c, mid ≤ c → u c = y c) ∧ pr n G u u = m) {c : Int} {wv : List Int}
    (hc : c = (((chs n G m mid s' mid).filter fun z => decide (sp n G 0 z = m - (sp n G mid (stl n G mid y) - sp n G mid s') / dt mid G)).length : Nat))
    (hw : IsFirst (((chs n G m mid s' mid).filter fun z => decide (sp n G 0 z = m - (sp n G mid (stl n G mid y) - sp n G mid s') / dt mid G)).map fun w => vec n (Fm.mk n C G (fun c => - xc n C s' c) w)) (some wv)) :
    Tal n C G m mid (ys ++ [y]) (PU ++ [(y, blk n G m mid (stl n G mid y) s')]) (total + c) (some (erl o (addL (vec n (xc n C (stl n G mid y))) wv))) := by
  have e : ((PU ++ [(y, blk n G m mid (stl n G mid y) s')]).flatMap fun p => p.2.map fun u => vec n (xc n C u)) = (PU.flatMap fun p => p.2.map fun u => vec n (xc n C u)) ++ (blk n G m mid (stl n G mid y) s').map fun u => vec n (xc n C u) := by
    rw [List.flatMap_append]
    simp
  have lenB : ∀ x ∈ (((chs n G m mid s' mid).filter fun z => decide (sp n G 0 z = m - (sp n G mid (stl n G mid y) - sp n G mid s') / dt mid G)).map fun w => vec n (Fm.mk n C G (fun c => - xc n C s' c) w)), x.length = n := fun x hx => by
    obtain ⟨u, _, rfl⟩ := List.mem_map.mp hx
    exact Fm.vec_length _ _
  refine ⟨by rw [List.map_append, t.fst]; rfl, fun p hp => ?_, ?_, ?_⟩
  · rcases List.mem_append.mp hp with z | z
    · exact t.ok p z
    · rw [List.mem_singleton.mp z]; exact hb
  · rw [e, List.length_append, t.tot, hc, Fm.blk_vec, List.length_map, List.length_map]
    omega
  · rw [e]
    refine Fm.isFirst_add (n := n) (fun x hx => ?_) (fun x hx => ?_) t.first ?_
    · obtain ⟨p, _, hx⟩ := List.mem_flatMap.mp hx
      obtain ⟨u, _, rfl⟩ := List.mem_map.mp hx
      exact Fm.vec_length _ _
    · obtain ⟨u, _, rfl⟩ := List.mem_map.mp hx
      exact Fm.vec_length _ _
    · rw [Fm.blk_vec]
      exact Fm.isFirst_shift lenB (Fm.vec_length _ _) hw
theorem Tal.skip {n : Nat} {C G : Mat} {m : Int} {mid : Nat} {ys : List (Nat → Int)} {PU : List ((Nat → Int) × List (Nat → Int))} {total : Int} {o : Option (List Int)} {y s' : Nat → Int} (t : Tal n C G m mid ys PU total o)
    (hb : (blk n G m mid (stl n G mid y) s').Nodup ∧ ∀ u, u ∈ blk n G m mid (stl n G mid y) s' ↔ (∀ c, mid ≤ c → u c = y c) ∧ pr n G u u = m)
    (hc : ((chs n G m mid s' mid).filter fun z => decide (sp n G 0 z = m - (sp n G mid (stl n G mid y) - sp n G mid s') / dt mid G)) = []) :
    Tal n C G m mid (ys ++ [y]) (PU ++ [(y, blk n G m mid (stl n G mid y) s')]) total o := by
  have e : ((PU ++ [(y, blk n G m mid (stl n G mid y) s')]).flatMap fun p => p.2.map fun u => vec n (xc n C u)) = (PU.flatMap fun p => p.2.map fun u => vec n (xc n C u)) := by
    rw [List.flatMap_append]
    simp only [List.flatMap_cons, List.flatMap_nil, List.append_nil]
    rw [Fm.blk_vec, hc]
    simp
  refine ⟨by rw [List.map_append, t.fst]; rfl, fun p hp => ?_, by rw [e]; exact t.tot, by rw [e]; exact t.first⟩
  rcases List.mem_append.mp hp with z | z
  · exact t.ok p z
  · rw [List.mem_singleton.mp z]; exact hb
section
variable {P : Program} {w : World} {K : PySem.W.Frag} {mg : Str → Option Value} {base : Heap}
theorem scWays : FnScope ["n", "columns", "m", "middle", "corner", "later", "total", "first", "sums", "alike", "least", "found", "spent", "way", "value"] ["n", "columns", "m"] (defScope sWays) := ⟨rfl, rfl, rfl, by decide +kernel, rfl, by decide +kernel, by decide +kernel⟩
theorem start_zero {n : Nat} {M C : Mat} (t : Latt n M C) {m : Int} (h0 : 0 ≤ m) (h1 : m ≤ 64) : StartOk n M C m n (fun _ => 0) := by
  have hz : ∀ c, side n (gr n M C) c (fun _ => 0) = 0 := fun c => by unfold side; exact Fm.sm_zero n fun j _ => Int.mul_zero _
  exact ⟨t, h0, h1, Fm.later_start h0 t.lead, fun c hc => by rw [hz c]; have := (t.dt_small (show c + 1 ≤ n by omega)).1; omega⟩
theorem chL_zero (n : Nat) (C G : Mat) : chL n C G n (fun _ => 0) (fun _ => 0) = (0, vec (n + n) fun _ => 0) := by
  unfold chL
  rw [Fm.sp_end]
  congr 1
  exact Fm.vec_congr fun i _ => Fm.mk_zero n C G i
theorem flat_take {α κ : Type} {gs : List (Grp α κ)} {i : Nat} {g : Grp α κ} (h : gs[i]? = some g) : allY (gs.take (i + 1)) = allY (gs.take i) ++ g.ys := take_flat h
theorem ok_ways {f fE fG fA fV fS fD : Addr} {fd fdE fdG fdA fdV fdS fdD : FuncData} (F : Fun K "ways_to" "ways_to" sWays f fd) (hmin : mg "min" = none) (hlist : mg "list" = none)
    (GE : FnOk P w K mg base CX0 1 fE fdE ["n"] spEmpty) (kE : PySem.W.keepIn K (.ref fE) = true) (bE : Binds K fdE ["n"] []) (mE : mg "empty_choice" = some (.ref fE))
    (GG : FnOk P w K mg base CX0 3 fG fdG ["n", "columns", "start", "to", "most"] spGrowns) (kG : PySem.W.keepIn K (.ref fG) = true) (bG : Binds K fdG ["n", "columns", "start", "to", "most"] []) (mG : mg "grown_choices" = some (.ref fG))
    (GA : FnOk P w K mg base CX0 2 fA fdA ["n", "columns", "choices"] spAlike) (kA : PySem.W.keepIn K (.ref fA) = true) (bA : Binds K fdA ["n", "columns", "choices"] []) (mA : mg "alike_choices" = some (.ref fA))
    (GV : FnOk P w K mg base CX0 4 fV fdV ["n", "columns", "choice", "most"] spByVal) (kV' : PySem.W.keepIn K (.ref fV) = true) (bV : Binds K fdV ["n", "columns", "choice", "most"] []) (mV : mg "ways_by_value" = some (.ref fV))
    (GS : FnOk P w K mg base CX0 1 fS fdS ["first", "way"] spEarl) (kS : PySem.W.keepIn K (.ref fS) = true) (bS : Binds K fdS ["first", "way"] []) (mS : mg "earlier" = some (.ref fS))
    (GD : FnOk P w K mg base CX0 1 fD fdD ["left", "right"] spAdd) (kD : PySem.W.keepIn K (.ref fD) = true) (bD : Binds K fdD ["left", "right"] []) (mD : mg "added" = some (.ref fD)) :
    FnOk P w K mg base CX0 5 f fd ["n", "columns", "m"] spWays := by
  refine F.ok scWays (fun vs H Q E h => ?_) (fun cdv A outer s H vs Q E hr h => ?_)
  · obtain ⟨n, ns, C, m, F, vl, rfl, _⟩ := h
    rfl
  · obtain ⟨n, ns, C, m, F, vl, rfl, s0, hvl, latt, hform, h1, m0, m1, kk⟩ := h
    have nd := scWays.nd
    have hu := hu_of hr
    have hr1 : Room 1 _ := hr.mono (by decide)
    have hr2 : Room 2 _ := hr.mono (by decide)
    have hr3 : Room 3 _ := hr.mono (by decide)
    have h8 := latt.frm.low
    generalize hM : gm n ns = M at *
    generalize hG : gr n M C = G at *
    have hsym : Fm.Symm n G := hG ▸ latt.sym
    have hlead : Fm.Lead n G := hG ▸ latt.lead
    obtain ⟨mid, hmid⟩ : ∃ mid, n / 2 = mid := ⟨_, rfl⟩
    refine ⟨_, pss_cons (ps_set (i := 3) nd rfl (Or.inl rfl) (pe_op op_fdivB (pv 0) pe_int))
      (pss_cons (ps_set (i := 4) nd rfl (Or.inl rfl) (pe_ifExp (pt_cmpR op_gt (pv 3) pe_int (nomark _)) (pe_ix ix_list (pe_ix ix_list (pv 1) (pe_op op_sub (pv 3) pe_int) (fun _ _ => rfl)) (pe_un un_neg pe_int) (fun _ _ => rfl)) pe_int))
      (pss_cons (ps_set (i := 5) nd rfl (Or.inl rfl) (pe_call GG hr3 rfl mG kG bG .nil pass0 (pa_cons (pv 0) (pa_cons (pv 1) (pa_cons (pe_call GE hr1 rfl mE kE bE .nil pass0 (pa_cons (pv 0) pa_nil)) (pa_cons (pv 3) (pa_cons (pv 2) pa_nil)))))))
      (pss_cons (ps_set (i := 6) nd rfl (Or.inl rfl) pe_int)
      (pss_cons (ps_set (i := 7) nd rfl (Or.inl rfl) pe_non)
      (pss_cons (ps_for PassesOwn.never rfl (pi_itemsL (pe_call GA hr2 rfl mA kA bA .nil pass0 (pa_cons (pv 0) (pa_cons (pe_slice sl_list (pv 1) po_none (po_some (pv 3))) (pa_cons (pv 5) pa_nil))))) (pg_pair K (i := 8) (j := 9) rfl nd rfl rfl (Or.inl rfl) (Or.inl rfl))
        (pss_cons (ps_set (i := 10) nd rfl (Or.inl rfl) (pe_callB (cr_min rfl) rfl hmin PyProof.Rows.boot_min (pa_cons (pe_lc rfl nd (pi_list (pv 9)) (blkOk_by (own := [("spent", 12), ("way", 13)]) (by kernel_rfl)) (fun _ _ _ _ _ => pg_pair K (i := 12) (j := 13) rfl nd rfl rfl (Or.inl rfl) (Or.inl rfl)) (fun _ _ _ _ _ => pts_nil) (fun _ _ _ _ _ => pv 12)) pa_nil)))
        (pss_cons (ps_set (i := 11) nd rfl (Or.inl rfl) (pe_call GV hr rfl mV kV' bV .nil pass0 (pa_cons (pv 0) (pa_cons (pv 1) (pa_cons (pe_tup (pa_cons (pv 10) (pa_cons (pe_op op_cat (pe_op op_rep (pe_lst (pa_cons pe_int pa_nil)) (pv 0)) (pe_callTy call_list_of rfl hlist PyProof.Rows.boot_list (pa_cons (pv 8) pa_nil))) pa_nil))) (pa_cons (pv 2) pa_nil))))))
        (pss_one (ps_for PassesOwn.never rfl (pi_list (pv 9)) (pg_pair K (i := 12) (j := 13) rfl nd rfl rfl (Or.inl rfl) (Or.inl rfl))
          (pss_cons (ps_set (i := 14) nd rfl (Or.inl rfl) (pe_op op_sub (pv 2) (pe_op op_fdivB (pe_op op_sub (pv 12) (pv 10)) (pv 4))))
          (pss_one (ps_if (pt_cmp (pc_din hu (pv 14) (pv 11)) (by with_unfolding_all rfl))
            (pss_cons (ps_aug (i := 6) nd rfl (Or.inl rfl) (pe_ix ix_tup (pe_dget hu (pv 11) (pv 14) (fun _ _ => rfl)) pe_int (fun _ _ => rfl)) ip_add)
            (pss_one (ps_set (i := 7) nd rfl (Or.inl rfl) (pe_call GS hr1 rfl mS kS bS .nil pass0 (pa_cons (pv 7) (pa_cons (pe_call GD hr1 rfl mD kD bD .nil pass0 (pa_cons (pv 13) (pa_cons (pe_ix ix_tup (pe_dget hu (pv 11) (pv 14) (fun _ _ => rfl)) pe_int (fun _ _ => rfl)) pa_nil))) pa_nil))))))
            pss_nil))))))))
      (pss_one (ps_ret (pe_tup (pa_cons (pv 6) (pa_cons (pv 7) pa_nil)))))))))), ?_⟩
    have cdt := latt.dt_small (show mid ≤ n by omega)
    rw [hG] at cdt
    obtain ⟨la, xl, rfl, hla, relL⟩ := hvl
    -- middle = n // 2
    refine ⟨_, rfl, _, _, rfl, rfl, ⟨by decide, by decide⟩, ?_⟩
    have em : (n : Int) / 2 = (mid : Int) := by omega
    dsimp only
    rw [em]
    -- corner
    have cor : ∀ Q' : V → Hp → Prop, Q' (.int (dt mid G)) H → tIf (tTest (tOp (rI0 fun i j => V.bl (decide (j < i))) (tVar 3) (tC (V.int 0)))) (tOp (rIxL K) (tOp (rIxL K) (tVar 1) (tOp (rI0 fun i j => V.int (i - j)) (tVar 3) (tC (V.int 1)))) (tUn (rU fun i => V.int (-i)) (tC (V.int 1)))) (tC (V.int 1)) [some (.int n), some (.ref la), some (.int m), some (.int mid), none, none, none, none, none, none, none, none, none, none, none] H Q' := fun Q' hq' => by
      refine ⟨_, rfl, _, 0, rfl, rfl, _, rfl, ite2 (fun hc => ?_) (fun hc => ?_)⟩
      · have hc : (0 : Int) < mid := of_decide_eq_true hc
        obtain ⟨b, rfl⟩ : ∃ b, mid = b + 1 := ⟨mid - 1, by omega⟩
        obtain ⟨x, hx, ⟨xa, rfl, hxa⟩⟩ := pget' relL (col_at (show b < n by omega))
        refine ⟨_, rfl, _, rfl, _, _, rfl, rfl, la, _, _, _, rfl, rfl, row_seq hla s0, at_of (j := b) (by omega) hx, 1, rfl, xa, _, _, _, rfl, rfl, row_seq hxa s0, atI_end (k := n + b) (by rw [List.length_map, Fm.vec_length]) (vecV (by omega)), ?_⟩
        rw [Fm.ck_corner]
        exact hq'
      · have hc : mid = 0 := by
          have : ¬ (0 : Int) < mid := fun z => hc (decide_eq_true z)
          omega
        rw [hc] at hq'
        exact hq'
    refine cor _ ?_
    -- later
    refine ⟨_, rfl, _, rfl, _, rfl, n, F, rfl, h8, s0, fun F1 H1 ve e1 hve => ?_⟩
    have st := start_zero latt m0 m1
    rw [← chL_zero n C G] at hve
    have hvl1 : IsRows F1 (.ref la) (colsL n C G n) := ⟨la, xl, rfl, e1.ff _ _ hla, Paired.up mono_row e1.ff relL⟩
    refine ⟨_, rfl, _, rfl, n, M, C, n, n, mid, m, fun _ => 0, fun _ => 0, F1, .ref la, ve, rfl, e1.inn, hG ▸ hvl1, hG ▸ hve, st, Nat.le_refl _, Nat.le_refl _, by omega, by omega, fun F2 H2 vc e2 hvc => ?_⟩
    rw [hG] at hvc
    have hvc : IsChs F2 vc ((later n G m mid).map (chL n C G mid fun _ => 0)) := hvc
    have e12 := e1.trans e2
    have ulen : (later n G m mid).length < 16777216 := by
      have := len44 st (Nat.le_refl n) (show n - mid ≤ n by omega) (by omega)
      rwa [hG] at this
    -- alike_choices(n, columns[:middle], later).items()
    have hla2 := e12.ff _ _ hla
    have relL2 := Paired.up mono_row e12.ff relL
    refine ⟨_, rfl, _, rfl, _, rfl, _, rfl, la, _, rfl, row_seq hla2 e2.inn, fun p3 hp3 => ?_⟩
    rw [cut_to xl mid]
    have e3 : Ext F2 H2 (upd F2 p3 (.lst (xl.take mid))) (upd H2 p3 (.lst (xl.take mid))) := (Ext.refl e2.inn).put hp3
    have cols3 : IsRows (upd F2 p3 (.lst (xl.take mid))) (.ref p3) (colsL n C G mid) := ⟨p3, _, rfl, upd_same, by rw [← colsL_take (show mid ≤ n by omega)]; exact ptake _ (Paired.up mono_row e3.ff relL2)⟩
    have hvc3 := mono_chs.up e3.ff hvc
    have e13 := e12.trans e3
    generalize upd F2 p3 (.lst (xl.take mid)) = F3 at e3 cols3 hvc3 e13
    generalize upd H2 p3 (.lst (xl.take mid)) = H3 at e3 e13
    refine ⟨_, rfl, n, M, C, mid, later n G m mid, F3, .ref p3, vc, rfl, e13.inn, hG ▸ cols3, hG ▸ hvc3, latt, by omega, ulen, fun F4 H4 d gs e4 hd0 hd4 dF4 lists gok => ?_⟩
    rw [hG] at lists gok
    refine ⟨d, _, rfl, hd4, fun ob => ?_⟩
    have e15 : Ext F H F4 (upd H4 d (.frz ob (.dT (gs.map fun g => (g.ks, V.ref g.b))))) := (e13.trans e4).loc (e13.hh.free hd0) dF4
    have hd5 : (upd H4 d (.frz ob (.dT (gs.map fun g => (g.ks, V.ref g.b))))) d = some (.frz ob (.dT (gs.map fun g => (g.ks, V.ref g.b)))) := upd_same
    generalize upd H4 d (.frz ob (.dT (gs.map fun g => (g.ks, V.ref g.b)))) = H5 at e15 hd5
    have hvl5 : IsRows F4 (.ref la) (colsL n C G n) := ⟨la, xl, rfl, e15.ff _ _ hla, Paired.up mono_row e15.ff relL⟩
    have memU : ∀ g ∈ gs, ∀ y ∈ g.ys, sp n G mid y ≤ dt mid G * m := fun g hg y hy => by
      have : y ∈ allY gs := List.mem_flatMap.mpr ⟨g, hg, hy⟩
      exact ((Fm.mem_later m0 (by omega) hsym hlead y).mp (gok.per.mem_iff.mp this)).2
    have lenGs : (gs.map fun g => (g.ks, V.ref g.b)).length = gs.length := List.length_map _
    refine for_itemsT (d := d) (o := ob) (kvs := gs.map fun g => (g.ks, V.ref g.b)) (fun i σ H' => ∃ (F' : Hp) (total : Int) (v7 : V) (o : Option (List Int)) (PU : List ((Nat → Int) × List (Nat → Int))) (o8 o9 o10 o11 o12 o13 o14 : Option V), σ = [some (.int n), some (.ref la), some (.int m), some (.int mid), some (.int (dt mid G)), some vc, some (.int total), some v7, o8, o9, o10, o11, o12, o13, o14] ∧ Ext F4 H5 F' H' ∧ OptRow F' v7 o ∧ Tal n C G m mid (allY (gs.take i)) PU total o)
      ⟨F4, 0, .non, Option.none, [], none, none, none, none, none, none, none, rfl, Ext.refl e15.inn, rfl, ⟨rfl, fun p hp => (nomatch hp), rfl, rfl⟩⟩ (fun i σ H' ⟨F', total, v7, o, PU, o8, o9, o10, o11, o12, o13, o14, _, e, _, _⟩ => e.hh _ _ hd5) ?_ ?_
    · rintro i ks vg T q σ H6 hkv ⟨F6, total, v7, o, PU, o8, o9, o10, o11, o12, o13, o14, rfl, e6, hopt, tal⟩ hT hq
      rw [List.getElem?_map] at hkv
      obtain ⟨g, hg, ekv⟩ := Option.map_eq_some_iff.mp hkv
      have ek : g.ks = ks := congrArg Prod.fst ekv
      have ev : V.ref g.b = vg := congrArg Prod.snd ekv
      subst ek ev
      have hgm : g ∈ gs := List.mem_of_getElem? hg
      have e7 : Ext F6 H6 F6 (upd H6 T (.tup [.ref q, .ref g.b])) := (Ext.refl e6.inn).loc hT (e6.inn.free hT)
      refine ⟨T, _, rfl, SqT.of upd_same, rfl, _, _, rfl, _, _, rfl, rfl, ?_⟩
      have hq7 := e7.hh _ _ hq
      have e67 := e6.trans e7
      generalize upd H6 T (.tup [.ref q, .ref g.b]) = H7 at e7 hq7 e67
      have hlist := mono_chs.up e67.ff (lists g hgm)
      obtain ⟨gb, us, hgb, hus, relU⟩ := hlist
      cases hgb
      have lenU : us.length = g.ys.length := by rw [Paired.length relU, List.length_map]
      have glen : g.ys.length < 16777216 := by
        have := grp_len hgm
        rw [gok.per.length_eq] at this
        omega
      -- least = min([..])
      refine ⟨_, rfl, g.b, rfl, ⟨_, row_seq hus e67.inn⟩, fun D hD => ?_⟩
      refine lc_list (K := K) (a := g.b) (xs := us) (AccP IsI F6 H7 D (g.ys.map (sp n G mid))) (Acc.p0 (Ext.refl e67.inn) hD) (fun j H' _ ⟨F8, us8, a8⟩ => row_seq (a8.ext.ff _ _ hus) a8.same) ?_ ?_
      · rintro j x H8 hx ⟨F8, us8, a8⟩
        obtain ⟨ch, hch, hxc⟩ := pget relU hx
        rw [List.getElem?_map] at hch
        obtain ⟨y, hy, rfl⟩ := Option.map_eq_some_iff.mp hch
        obtain ⟨ca, v1, v2, rfl, hca, (rfl : v1 = .int _), hway⟩ := mono_ch.up a8.ext.ff hxc
        refine ⟨ca, _, rfl, SqT.of (a8.same _ _ hca), rfl, _, _, rfl, _, _, rfl, rfl, rfl, ?_⟩
        refine ⟨_, rfl, ?_⟩
        exact a8.next mono_i (by rw [List.getElem?_map, hy]; rfl) (by rw [List.length_map]; exact glen) (Ext.refl a8.same) rfl
      rintro H8 a8
      obtain ⟨F8, e8, h8'⟩ := a8.done mono_i (by rw [List.length_map, lenU])
      obtain ⟨dd, hdd, hD8⟩ := row_of h8'
      cases hdd
      refine ⟨D, g.ys.map (sp n G mid), rfl, row_seq hD8 e8.inn, by rw [List.length_map]; exact List.length_pos_iff.mpr (gok.ne g hgm), fun least hle hmn => ?_⟩
      obtain ⟨ystar, hystar, rfl⟩ := List.mem_map.mp hle
      have e78 := e67.trans e8
      -- found = ways_by_value(..)
      generalize hs' : stl n G mid ystar = s' at *
      have hsp' : sp n G mid s' = sp n G mid ystar := by rw [← hs']; exact Fm.sp_stl n G mid ystar
      have kstar : g.ks = keyA (vec mid fun i => side n G i s') := by rw [gok.ks g hgm ystar hystar]; unfold sumsA; rw [hs']
      refine ⟨_, rfl, _, rfl, _, rfl, (by show 1 ≤ sizeLine; decide), fun p9 hp9 => ?_⟩
      refine ⟨_, rfl, p9, _, _, rfl, rfl, upd_same, by omega, by omega, ?_, fun p10 hp10 => ?_⟩
      · show 1 * (n : Int).toNat ≤ sizeLine
        rw [sizeLine_eq]; omega
      rw [Int.toNat_natCast, rep_zero]
      have e9 : Ext F8 H8 F8 (upd H8 p9 (.lst [V.int 0])) := (Ext.refl e8.inn).loc hp9 (e8.inn.free hp9)
      have e10 := e9.put (o := .lst ((vec n fun _ => 0).map V.int)) hp10
      have hq10 := e10.hh _ _ (e8.hh _ _ hq7)
      have hp10' : (upd (upd H8 p9 (.lst [V.int 0])) p10 (.lst ((vec n fun _ => 0).map V.int))) p10 = some (.lst ((vec n fun _ => 0).map V.int)) := upd_same
      generalize upd F8 p10 (.lst ((vec n fun _ => 0).map V.int)) = F10 at e10
      generalize upd (upd H8 p9 (.lst [V.int 0])) p10 (.lst ((vec n fun _ => 0).map V.int)) = H10 at e10 hq10 hp10'
      rw [kstar, keyA_kV] at hq10
      refine ⟨_, rfl, q, _, rfl, .inr (SqT.of hq10), fun p11 hp11 => ?_⟩
      have e11 := e10.put (o := .lst ((vec mid fun i => side n G i s').map V.int)) hp11
      have n11 : p10 ≠ p11 := ne_of_none hp10' hp11
      refine ⟨p10, p11, _, _, rfl, rfl, by rw [upd_ne n11]; exact hp10', upd_same, ?_, fun p12 hp12 => ?_⟩
      · rw [List.length_map, List.length_map, Fm.vec_length, Fm.vec_length, sizeLine_eq]; omega
      have ejoin : (vec n fun _ => 0).map V.int ++ (vec mid fun i => side n G i s').map V.int = (vec (n + mid) (mk n C G (fun c => - xc n C s' c) s')).map V.int := by
        rw [← List.map_append, vec_app]
        congr 1
        refine Fm.vec_congr fun c hc => ?_
        by_cases z : c < n
        · rw [if_pos z, Fm.mk_low z]; omega
        · rw [if_neg z]
          unfold mk
          rw [if_neg z]
      rw [ejoin]
      have e12' := e11.put (o := .lst ((vec (n + mid) (mk n C G (fun c => - xc n C s' c) s')).map V.int)) hp12
      refine ⟨(by show 2 ≤ sizeLine; decide), fun p13 hp13 => ?_⟩
      have e13' := e12'.put (o := .tup [.int (sp n G mid ystar), .ref p12]) hp13
      have n13 : p12 ≠ p13 := fun z => by rw [z, upd_same] at hp13; cases hp13
      have ch13 : IsCh (upd (upd (upd F10 p11 (.lst ((vec mid fun i => side n G i s').map V.int))) p12 (.lst ((vec (n + mid) (mk n C G (fun c => - xc n C s' c) s')).map V.int))) p13 (.tup [.int (sp n G mid ystar), .ref p12])) (.ref p13) (chL n C G mid (fun c => - xc n C s' c) s') :=
        ⟨p13, _, _, rfl, upd_same, congrArg V.int hsp'.symm, p12, rfl, by rw [upd_ne n13, upd_same]; rfl⟩
      have e713 := e78.trans e13'
      generalize upd (upd (upd F10 p11 (.lst ((vec mid fun i => side n G i s').map V.int))) p12 (.lst ((vec (n + mid) (mk n C G (fun c => - xc n C s' c) s')).map V.int))) p13 (.tup [.int (sp n G mid ystar), .ref p12]) = F13 at e13' ch13 e713
      generalize upd (upd (upd H10 p11 (.lst ((vec mid fun i => side n G i s').map V.int))) p12 (.lst ((vec (n + mid) (mk n C G (fun c => - xc n C s' c) s')).map V.int))) p13 (.tup [.int (sp n G mid ystar), .ref p12]) = H13 at e13' e713
      have h0s : sp n G mid s' ≤ dt mid G * m := by rw [hsp']; exact memU g hgm ystar hystar
      have st2 : StartOk n M C m mid s' := ⟨latt, m0, m1, by rw [hG]; exact h0s, fun c hc => by
        rw [hG, ← hs']
        exact Fm.stl_half hlead mid ystar (by omega) c hc⟩
      refine ⟨_, rfl, n, M, C, mid, m, fun c => - xc n C s' c, s', F13, .ref la, .ref p13, rfl, e713.inn, hG ▸ mono_rows.up e713.ff hvl5, hG ▸ ch13, st2, by omega, by omega, fun F14 H14 fd14 kvs e14 hfd fok => ?_⟩
      rw [hG] at fok
      have e714 := e713.trans e14
      -- for spent, way in alike
      have hus14 := (e8.ff.trans (e13'.ff.trans e14.ff)) _ _ hus
      have relU14 := Paired.up mono_ch (e8.ff.trans (e13'.ff.trans e14.ff)) relU
      refine ⟨_, rfl, g.b, rfl, ⟨_, row_seq hus14 e714.inn⟩, ?_⟩
      refine for_list (K := K) (a := g.b) (xs := us) (fun j σ H' => ∃ (F' : Hp) (total : Int) (v7 : V) (o : Option (List Int)) (PU : List ((Nat → Int) × List (Nat → Int))) (o8 o9 o12 o13 o14 : Option V), σ = [some (.int n), some (.ref la), some (.int m), some (.int mid), some (.int (dt mid G)), some vc, some (.int total), some v7, o8, o9, some (.int (sp n G mid ystar)), some (.ref fd14), o12, o13, o14] ∧ Ext F4 H5 F' H' ∧ Same F14 F' ∧ OptRow F' v7 o ∧ Tal n C G m mid (allY (gs.take i) ++ g.ys.take j) PU total o)
        ⟨F14, total, v7, o, PU, _, _, o12, o13, o14, rfl, e714, .refl _, mono_opt.up (e7.ff.trans (e8.ff.trans (e13'.ff.trans e14.ff))) hopt, by simpa using tal⟩ (fun j σ H' _ ⟨F', total, v7, o, PU, o8, o9, o12, o13, o14, _, e, s, _, _⟩ => row_seq (s _ _ hus14) e.inn) ?_ ?_
      · rintro j x σ H15 hx ⟨F15, total, v7, o, PU, o8, o9, o12, o13, o14, rfl, e15', s15, hopt, tal⟩
        obtain ⟨ch, hch, hxc⟩ := pget relU14 hx
        rw [List.getElem?_map] at hch
        obtain ⟨y, hy, rfl⟩ := Option.map_eq_some_iff.mp hch
        have hym : y ∈ g.ys := List.mem_of_getElem? hy
        obtain ⟨ca, v1, v2, rfl, hca, (rfl : v1 = .int _), hway⟩ := mono_ch.up s15 hxc
        have hway : IsRow F15 v2 (vec n (xc n C (stl n G mid y))) := hway
        refine ⟨ca, _, rfl, SqT.of (e15'.inn _ _ hca), rfl, _, _, rfl, _, _, rfl, rfl, ?_⟩
        -- value
        refine ⟨_, rfl, _, rfl, _, rfl, _, _, rfl, rfl, _, rfl, _, _, rfl, rfl, ⟨cdt.1, by omega⟩, _, _, rfl, rfl, ?_⟩
        have hval : m - (sp n G mid y - sp n G mid ystar) / dt mid G = m - (sp n G mid (stl n G mid y) - sp n G mid s') / dt mid G := by rw [Fm.sp_stl, hsp']
        have hb := Fm.blk_ok (m := m) (y := y) (y' := stl n G mid y) (s' := s') (show mid ≤ n by omega) hsym hlead (fun c hc => Fm.stl_up n G mid y c hc) (fun c hc => by
          have z1 := gok.ks g hgm y hym
          rw [kstar] at z1
          exact (Fm.vec_inj (keyA_inj z1) hc).symm) (by rw [Fm.sp_stl, hsp']; exact hmn _ (List.mem_map.mpr ⟨y, hym, rfl⟩)) h0s
        have hfd15 := s15 _ _ hfd
        have f := fok (m - (sp n G mid y - sp n G mid ystar) / dt mid G)
        have eys : allY (gs.take i) ++ g.ys.take (j + 1) = allY (gs.take i) ++ g.ys.take j ++ [y] := by rw [List.take_add_one, hy, List.append_assoc]; rfl
        -- if value in found
        refine ⟨_, rfl, _, rfl, fd14, _, rfl, DGet.k (k := Sum.inl (m - (sp n G mid y - sp n G mid ystar) / dt mid G)) (e15'.inn _ _ hfd15), _, rfl, ?_⟩
        cases ev : valV kvs (Sum.inl (m - (sp n G mid y - sp n G mid ystar) / dt mid G)) with
        | none =>
          rw [ev] at f
          refine iteF ?_
          have f : _ = [] := f
          rw [hval] at f
          refine ⟨F15, total, v7, o, PU ++ [(y, blk n G m mid (stl n G mid y) s')], _, _, _, _, _, rfl, e15', s15, hopt, ?_⟩
          rw [eys]
          exact tal.skip hb f
        | some u =>
          rw [ev] at f
          refine iteT ?_
          obtain ⟨c, wv, hu', hc, hfw⟩ := f
          rw [hval] at hc hfw
          obtain ⟨ua, b1, b2, rfl, hua, (rfl : b1 = .int c), hrow⟩ := mono_ch.up s15 hu'
          have hget : DGet H15 fd14 (.int (m - (sp n G mid y - sp n G mid ystar) / dt mid G)) (some (.ref ua)) := by
            rw [← ev]
            exact DGet.k (k := Sum.inl (m - (sp n G mid y - sp n G mid ystar) / dt mid G)) (e15'.inn _ _ hfd15)
          refine ⟨_, rfl, _, rfl, _, rfl, fd14, _, rfl, hget, ua, _, 0, _, rfl, rfl, SqT.of (e15'.inn _ _ hua), at_of (j := 0) rfl rfl, _, _, rfl, rfl, ?_⟩
          refine ⟨_, rfl, _, rfl, _, rfl, _, rfl, fd14, _, rfl, hget, ua, _, 1, _, rfl, rfl, SqT.of (e15'.inn _ _ hua), at_of (j := 1) rfl rfl, ?_⟩
          have wlen : wv.length = n := by
            obtain ⟨z, _, hz⟩ := List.mem_map.mp hfw.1
            rw [← hz]; exact Fm.vec_length _ _
          refine ⟨v2, b2, _, wv, F15, rfl, e15'.inn, hway, hrow, by rw [Fm.vec_length, wlen], by rw [Fm.vec_length]; omega, fun F16 H16 va e16 hva => ?_⟩
          refine ⟨v7, va, o, _, F16, rfl, e16.inn, mono_opt.up e16.ff hopt, hva, fun x hx => ?_, fun v17 hv17 => ?_⟩
          · subst hx
            rw [tal.len]
            unfold addL
            rw [List.length_zipWith, Fm.vec_length, wlen]
            omega
          · refine ⟨F16, total + c, v17, some (erl o (addL (vec n (xc n C (stl n G mid y))) wv)), PU ++ [(y, blk n G m mid (stl n G mid y) s')], _, _, _, _, _, rfl, e15'.trans e16, s15.trans e16.ff, hv17, ?_⟩
            rw [eys]
            exact tal.step hb hc hfw
      · rintro σ H15 ⟨F15, total, v7, o, PU, o8, o9, o12, o13, o14, rfl, e15', s15, hopt, tal⟩
        rw [lenU, List.take_length, ← flat_take hg] at tal
        exact ⟨F15, total, v7, o, PU, _, _, _, _, _, _, _, rfl, e15', hopt, tal⟩
    · rintro σ H6 ⟨F6, total, v7, o, PU, o8, o9, o10, o11, o12, o13, o14, rfl, e6, hopt, tal⟩
      rw [lenGs, List.take_length] at tal
      have hL := Fm.ways_pairs (l := ns) (C := C) (hM ▸ latt.frm) (hM ▸ latt.lll.bas) m0 (show mid ≤ n by omega) (U := PU) (by rw [tal.fst, hM, hG]; exact gok.per) (by rw [hM, hG]; exact tal.ok)
      have c1 := Fm.ways_count hform hL
      have c2 := Fm.ways_first hform hL tal.first
      have htot := tal.tot
      rw [c1] at htot
      refine ⟨_, rfl, _, rfl, (by show 2 ≤ sizeLine; decide), fun p hp => ?_⟩
      have e7 := (e15.trans e6).put (o := .tup [.int total, v7]) hp
      refine kk _ _ _ e7 ⟨p, _, _, rfl, upd_same, congrArg V.int htot, ?_⟩
      rw [c2]
      exact mono_opt.up (same_put (e6.inn.free hp)) hopt
end
end Pr
/-! ### What is asked of a call -/
namespace Pr
open PySem PySem.Spec PyProof.Rows L2
/-- what is handed in: n, and n times n numbers where n is from 1 to 8 -/
def AskN (n : Int) (ns : List Int) : Prop := 1 ≤ n → n ≤ 8 → ((ns.length : Int) = n * n)
theorem askN_nat {n : Int} {ns : List Int} (h : AskN n ns) (h1 : 1 ≤ n) (h8 : n ≤ 8) : ∃ k : Nat, n = (k : Int) ∧ n.toNat = k ∧ 1 ≤ k ∧ k ≤ 8 ∧ ns.length = k * k := by
  refine ⟨n.toNat, by omega, rfl, by omega, by omega, ?_⟩
  have z := h h1 h8
  have e : n = (n.toNat : Int) := by omega
  rw [e, ← Int.natCast_mul] at z
  exact Int.ofNat.inj z
theorem between_iff (n lo hi : Int) : Ql78.between n lo hi = decide (lo ≤ n ∧ n ≤ hi) := by
  unfold Ql78.between
  rw [Bool.eq_iff_iff]
  simp
theorem asked_n {n : Int} {l : List Int} (h : (Ql78Neutral.whole32 n && Ql78Neutral.square l n) = true) : AskN n l := fun h1 h8 => by
  have q := (Bool.and_eq_true_iff.mp h).2
  have q := of_decide_eq_true (Bool.and_eq_true_iff.mp q).2
  rw [if_pos ⟨h1, h8⟩] at q
  exact q
end Pr
/-! ### fm_truant -/
namespace Pr
open PySem PySem.Spec PyProof.Rows L2
open PySem.W (Codec)
open Fm (gm dt Latt gr colsL Mat)
abbrev sLm : Stmt := top 19
def spLm : Sp := fun vs H Q _ => ∃ (n : Nat) (ns : List Int) (C : Mat) (F : Hp) (vl : V), vs = [.int n, vl, .int 15] ∧ Same F H ∧ IsRows F vl (colsL n C (gr n (gm n ns) C) n) ∧ Latt n (gm n ns) C ∧ Ql78.form n ns = true ∧ 1 ≤ n ∧
  ∀ H' : Hp, Q (.int ((Ql78.truant n (Ql78.rows n ns) : Int))) H'
section
variable {P : Program} {w : World} {K : PySem.W.Frag} {mg : Str → Option Value} {base : Heap}
theorem scLm : FnScope ["n", "columns", "most", "m"] ["n", "columns", "most"] (defScope sLm) := ⟨rfl, rfl, rfl, by decide +kernel, rfl, by decide +kernel, by decide +kernel⟩
theorem no_ways {n : Nat} {ns : List Int} {m : Int} (hf : Ql78.form n ns = true) : (((Ql78.ways n (Ql78.rows n ns) m).length : Nat) : Int) = 0 ↔ ¬ Fm.Val n ns m := by
  constructor
  · intro e hv
    have z := (Fm.ways_some hf).mpr hv
    have e2 : Ql78.ways n (Ql78.rows n ns) m = [] := List.eq_nil_of_length_eq_zero (by omega)
    rw [e2] at z
    cases z
  · intro hv
    cases q : (Ql78.ways n (Ql78.rows n ns) m).isEmpty with
    | true =>
      rw [List.isEmpty_iff.mp q]
      rfl
    | false => exact absurd ((Fm.ways_some hf).mp q) hv
theorem ok_lm {f fW : Addr} {fd fdW : FuncData} (F : Fun K "least_missed" "least_missed" sLm f fd) (hrng : mg "range" = none)
    (GW : FnOk P w K mg base CX0 5 fW fdW ["n", "columns", "m"] spWays) (kW : PySem.W.keepIn K (.ref fW) = true) (bW : Binds K fdW ["n", "columns", "m"] []) (mW : mg "ways_to" = some (.ref fW)) : FnOk P w K mg base CX0 6 f fd ["n", "columns", "most"] spLm := by
  refine F.ok scLm (fun vs H Q E h => ?_) (fun cdv A outer s H vs Q E hr h => ?_)
  · obtain ⟨n, ns, C, F, vl, rfl, _⟩ := h
    rfl
  · obtain ⟨n, ns, C, F, vl, rfl, s0, hvl, latt, hf, h1, k⟩ := h
    have nd := scLm.nd
    refine ⟨_, pss_cons (ps_for PassesOwn.never rfl (pi_range2 rfl hrng (pa_cons pe_int (pa_cons (pe_op op_add (pv 2) pe_int) pa_nil))) (pg_name (i := 3) nd rfl (Or.inl rfl))
        (pss_one (ps_if (pt_cmpR op_eq (pe_ix ix_tup (pe_call GW hr rfl mW kW bW .nil pass0 (pa_cons (pv 0) (pa_cons (pv 1) (pa_cons (pv 3) pa_nil)))) pe_int (fun _ _ => rfl)) pe_int (nomark _)) (pss_one (ps_ret (pv 3))) pss_nil)))
      (pss_one (ps_ret pe_int)), ?_⟩
    refine ⟨_, rfl, _, _, rfl, rfl, 1, 16, rfl, ⟨by decide, by decide, by decide, by decide⟩, ?_⟩
    refine for_range (lo := 1) (n := 15) (fun i σ H' => ∃ o3 : Option V, σ = [some (.int n), some vl, some (.int 15), o3] ∧ Same F H' ∧ ∀ m' : Nat, m' < i → Fm.Val n ns ((m' : Int) + 1)) ⟨none, rfl, s0, fun m' hm => by omega⟩ ?_ ?_
    · rintro i σ H1 hi ⟨o3, rfl, s1, hall⟩
      refine ⟨_, rfl, _, rfl, _, rfl, n, ns, C, 1 + (i : Int), F, vl, rfl, s1, hvl, latt, hf, h1, by omega, by omega, fun F2 H2 v2 e2 hv2 => ?_⟩
      obtain ⟨ta, b1, b2, rfl, hta, (rfl : b1 = .int _), hopt⟩ := hv2
      have e1 : (1 : Int) + (i : Int) = (i : Int) + 1 := by omega
      refine ⟨ta, _, 0, _, rfl, rfl, SqT.of (e2.inn _ _ hta), at_of (j := 0) rfl rfl, rfl, _, rfl, ite2 (fun hc => ?_) (fun hc => ?_)⟩
      · have hc := of_decide_eq_true hc
        injection hc with hc
        have hv := (no_ways hf).mp hc
        have e : Ql78.truant n (Ql78.rows n ns) = i + 1 := Fm.truant_some hf hi (by rw [← e1]; exact hv) hall
        refine ⟨_, rfl, ?_⟩
        have z := k H2
        rw [e] at z
        have e3 : ((i + 1 : Nat) : Int) = 1 + (i : Int) := by omega
        rw [e3] at z
        exact z
      · have hv : Fm.Val n ns ((i : Int) + 1) := by
          refine Classical.byContradiction fun z => hc (decide_eq_true ?_)
          rw [e1]
          exact congrArg V.int ((no_ways hf).mpr z)
        refine ⟨_, rfl, s1.trans e2.hh, fun m' hm => ?_⟩
        by_cases z : m' = i
        · rw [z]; exact hv
        · exact hall m' (by omega)
    · rintro σ H1 ⟨o3, rfl, s1, hall⟩
      have e : Ql78.truant n (Ql78.rows n ns) = 0 := Fm.truant_zero hf hall
      have z := k H1
      rw [e] at z
      exact z
end
abbrev sTruant : Stmt := top 30
def spTruant (K : PySem.W.Frag) : Sp := fun vs H Q _ => ∃ (n : Int) (a : Addr) (ns : List Int), vs = [.int n, .ref a] ∧ SqL K H a (ns.map V.int) ∧ AskN n ns ∧
  ∀ (H' : Hp) (p : Addr), H' p = some (.lst ((Ql78.answer (.truant n ns)).map V.int)) → Q (.ref p) H'
theorem answer_truant (n : Int) (l : List Int) : Ql78.answer (.truant n l) = if Ql78.between n 1 8 = false then [-2] else if Ql78.form n.toNat l = false then [-1] else [(Ql78.truant n.toNat (Ql78.rows n.toNat l) : Int)] := rfl
section
variable {P : Program} {w : World} {K : PySem.W.Frag} {mg : Str → Option Value} {base : Heap}
theorem scTruant : FnScope ["n", "a"] ["n", "a"] (defScope sTruant) := ⟨rfl, rfl, rfl, by decide +kernel, rfl, by decide +kernel, by decide +kernel⟩
theorem ok_top_truant {f fS fF fR fV : Addr} {fd fdS fdF fdR fdV : FuncData} (F : Fun K "fm_truant" "fm_truant" sTruant f fd) (hwrong : ∃ t, mg "OUT_OF_RANGE" = some (.int (-2) t)) (hnf : ∃ t, mg "NOT_A_FORM" = some (.int (-1) t))
    (GS : FnOk P w K mg base CX0 1 fS fdS ["n"] spSize) (kS : PySem.W.keepIn K (.ref fS) = true) (bS : Binds K fdS ["n"] []) (mS : mg "is_size" = some (.ref fS))
    (GF : FnOk P w K mg base CX0 5 fF fdF ["n", "a"] (spForm K)) (kF : PySem.W.keepIn K (.ref fF) = true) (bF : Binds K fdF ["n", "a"] []) (mF : mg "is_form" = some (.ref fF))
    (GR : FnOk P w K mg base CX0 4 fR fdR ["n", "a"] (spReduced K)) (kR : PySem.W.keepIn K (.ref fR) = true) (bR : Binds K fdR ["n", "a"] []) (mR : mg "reduced_columns" = some (.ref fR)) (hmiss : ∃ t, mg "MOST_MISSED" = some (.int 15 t))
    (GV : FnOk P w K mg base CX0 6 fV fdV ["n", "columns", "most"] spLm) (kV' : PySem.W.keepIn K (.ref fV) = true) (bV : Binds K fdV ["n", "columns", "most"] []) (mV : mg "least_missed" = some (.ref fV)) : FnOk P w K mg base CX0 7 f fd ["n", "a"] (spTruant K) := by
  obtain ⟨t, ht⟩ := hwrong
  obtain ⟨t', ht'⟩ := hnf
  obtain ⟨t15, ht15⟩ := hmiss
  refine F.ok scTruant (fun vs H Q E h => ?_) (fun cdv A outer s H vs Q E hr h => ?_)
  · obtain ⟨n, a, ns, rfl, _⟩ := h
    rfl
  · obtain ⟨n, a, ns, rfl, hs, hask, k⟩ := h
    have hr1 : Room 1 _ := hr.mono (by decide)
    have hr4 : Room 4 _ := hr.mono (by decide)
    have hr5 : Room 5 _ := hr.mono (by decide)
    refine ⟨_, pss_cons (ps_if (pt_not (pt_val (pe_call GS hr1 rfl mS kS bS .nil pass0 (pa_cons (pv 0) pa_nil)))) (pss_one (ps_ret (pe_lst (pa_cons (pe_glob (v := .int (-2)) rfl ht ⟨t, rfl⟩) pa_nil)))) pss_nil)
      (pss_cons (ps_if (pt_not (pt_val (pe_call GF hr5 rfl mF kF bF .nil pass0 (pa_cons (pv 0) (pa_cons (pv 1) pa_nil))))) (pss_one (ps_ret (pe_lst (pa_cons (pe_glob (v := .int (-1)) rfl ht' ⟨t', rfl⟩) pa_nil)))) pss_nil)
      (pss_one (ps_ret (pe_lst (pa_cons (pe_call GV hr rfl mV kV' bV .nil pass0 (pa_cons (pv 0) (pa_cons (pe_call GR hr4 rfl mR kR bR .nil pass0 (pa_cons (pv 0) (pa_cons (pv 1) pa_nil))) (pa_cons (pe_glob (v := .int 15) rfl ht15 ⟨t15, rfl⟩) pa_nil)))) pa_nil))))), ?_⟩
    refine ⟨_, rfl, n, rfl, _, rfl, ite2 (fun h1 => ?_) (fun h1 => ?_)⟩
    · have e : Ql78.answer (.truant n ns) = [-2] := by
        rw [answer_truant, between_iff, if_pos]
        cases q : decide (1 ≤ n ∧ n ≤ 8) with
        | false => rfl
        | true => rw [q] at h1; cases h1
      rw [e] at k
      exact ⟨(by show 1 ≤ sizeLine; decide), fun p hp => k _ p upd_same⟩
    · have hsz : decide (1 ≤ n ∧ n ≤ 8) = true := by
        cases q : decide (1 ≤ n ∧ n ≤ 8) with
        | true => rfl
        | false => rw [q] at h1; exact absurd rfl h1
      obtain ⟨h1, h8⟩ := of_decide_eq_true hsz
      obtain ⟨q, rfl, em, m1, m8, hl⟩ := askN_nat hask h1 h8
      refine ⟨_, rfl, _, rfl, q, a, ns, rfl, hs, m1, m8, hl, fun H1 s1 => ⟨_, rfl, ite2 (fun h2 => ?_) (fun h2 => ?_)⟩⟩
      · have hf : Ql78.form q ns = false := by
          cases z : Ql78.form q ns with
          | false => rfl
          | true => rw [z] at h2; cases h2
        have e : Ql78.answer (.truant (q : Int) ns) = [-1] := by
          rw [answer_truant, between_iff, hsz, if_neg (by decide), em, hf]
          rfl
        rw [e] at k
        exact ⟨(by show 1 ≤ sizeLine; decide), fun p hp => k _ p upd_same⟩
      · have hf : Ql78.form q ns = true := by
          cases z : Ql78.form q ns with
          | true => rfl
          | false => rw [z] at h2; exact absurd rfl h2
        have e : Ql78.answer (.truant (q : Int) ns) = [(Ql78.truant q (Ql78.rows q ns) : Int)] := by
          rw [answer_truant, between_iff, hsz, if_neg (by decide), em, hf, if_neg (by decide)]
        rw [e] at k
        refine ⟨_, rfl, _, rfl, _, rfl, q, a, ns, H1, rfl, s1.seq hs, m1, m8, hl, hf, .refl H1, fun F2 H2 vc C e2 latt hvc => ?_⟩
        refine ⟨q, ns, C, F2, vc, rfl, e2.inn, hvc, latt, hf, m1, fun H3 => ?_⟩
        exact ⟨(by show 1 ≤ sizeLine; decide), fun p hp => k _ p upd_same⟩
end
--@builtins range len min max zip sum reversed tuple list
theorem all_mk {P : Program} {w : World} {K : PySem.W.Frag} {h : Heap} {mg : Str → Option Value} {fa : Addr} (X : K.In h) (G : h.Ns mainGlobals mg) (hfa : mg "fm_truant" = some (.ref fa))
    {f_split_rows : Addr} {od_split_rows an_split_rows : Option Addr} {sl_split_rows : Array (Option Value)} {oc_split_rows kV_split_rows dc_split_rows pm_split_rows cd_split_rows ct_split_rows : Value}
    (a_split_rows : PySem.W.nsIn K mainGlobals "split_rows" = some (some (.ref f_split_rows)))
    (l_split_rows : K.lookup f_split_rows = some ⟨oc_split_rows, od_split_rows, .func (PySem.W.fnOf "split_rows" "split_rows" (defArgs sSplit) (defBody sSplit) (defScope sSplit) .none kV_split_rows dc_split_rows pm_split_rows an_split_rows cd_split_rows ct_split_rows), sl_split_rows⟩)
    (c_split_rows : PySem.W.codeIn K cd_split_rows "split_rows" = true) (k_split_rows : PySem.W.keepIn K (.ref f_split_rows) = true)
    {f_top_rows : Addr} {od_top_rows an_top_rows : Option Addr} {sl_top_rows : Array (Option Value)} {oc_top_rows kV_top_rows dc_top_rows pm_top_rows cd_top_rows ct_top_rows : Value}
    (a_top_rows : PySem.W.nsIn K mainGlobals "top_rows" = some (some (.ref f_top_rows)))
    (l_top_rows : K.lookup f_top_rows = some ⟨oc_top_rows, od_top_rows, .func (PySem.W.fnOf "top_rows" "top_rows" (defArgs sTop) (defBody sTop) (defScope sTop) .none kV_top_rows dc_top_rows pm_top_rows an_top_rows cd_top_rows ct_top_rows), sl_top_rows⟩)
    (c_top_rows : PySem.W.codeIn K cd_top_rows "top_rows" = true) (k_top_rows : PySem.W.keepIn K (.ref f_top_rows) = true)
    {f_reduced_row : Addr} {od_reduced_row an_reduced_row : Option Addr} {sl_reduced_row : Array (Option Value)} {oc_reduced_row kV_reduced_row dc_reduced_row pm_reduced_row cd_reduced_row ct_reduced_row : Value}
    (a_reduced_row : PySem.W.nsIn K mainGlobals "reduced_row" = some (some (.ref f_reduced_row)))
    (l_reduced_row : K.lookup f_reduced_row = some ⟨oc_reduced_row, od_reduced_row, .func (PySem.W.fnOf "reduced_row" "reduced_row" (defArgs sRed) (defBody sRed) (defScope sRed) .none kV_reduced_row dc_reduced_row pm_reduced_row an_reduced_row cd_reduced_row ct_reduced_row), sl_reduced_row⟩)
    (c_reduced_row : PySem.W.codeIn K cd_reduced_row "reduced_row" = true) (k_reduced_row : PySem.W.keepIn K (.ref f_reduced_row) = true)
    {f_empty_choice : Addr} {od_empty_choice an_empty_choice : Option Addr} {sl_empty_choice : Array (Option Value)} {oc_empty_choice kV_empty_choice dc_empty_choice pm_empty_choice cd_empty_choice ct_empty_choice : Value}
    (a_empty_choice : PySem.W.nsIn K mainGlobals "empty_choice" = some (some (.ref f_empty_choice)))
    (l_empty_choice : K.lookup f_empty_choice = some ⟨oc_empty_choice, od_empty_choice, .func (PySem.W.fnOf "empty_choice" "empty_choice" (defArgs sEmpty) (defBody sEmpty) (defScope sEmpty) .none kV_empty_choice dc_empty_choice pm_empty_choice an_empty_choice cd_empty_choice ct_empty_choice), sl_empty_choice⟩)
    (c_empty_choice : PySem.W.codeIn K cd_empty_choice "empty_choice" = true) (k_empty_choice : PySem.W.keepIn K (.ref f_empty_choice) = true)
    {f_grown_choices : Addr} {od_grown_choices an_grown_choices : Option Addr} {sl_grown_choices : Array (Option Value)} {oc_grown_choices kV_grown_choices dc_grown_choices pm_grown_choices cd_grown_choices ct_grown_choices : Value}
    (a_grown_choices : PySem.W.nsIn K mainGlobals "grown_choices" = some (some (.ref f_grown_choices)))
    (l_grown_choices : K.lookup f_grown_choices = some ⟨oc_grown_choices, od_grown_choices, .func (PySem.W.fnOf "grown_choices" "grown_choices" (defArgs sGrowns) (defBody sGrowns) (defScope sGrowns) .none kV_grown_choices dc_grown_choices pm_grown_choices an_grown_choices cd_grown_choices ct_grown_choices), sl_grown_choices⟩)
    (c_grown_choices : PySem.W.codeIn K cd_grown_choices "grown_choices" = true) (k_grown_choices : PySem.W.keepIn K (.ref f_grown_choices) = true)
    {f_grow : Addr} {od_grow an_grow : Option Addr} {sl_grow : Array (Option Value)} {oc_grow kV_grow dc_grow pm_grow cd_grow ct_grow : Value}
    (a_grow : PySem.W.nsIn K mainGlobals "grow" = some (some (.ref f_grow)))
    (l_grow : K.lookup f_grow = some ⟨oc_grow, od_grow, .func (PySem.W.fnOf "grow" "grow" (defArgs sGrow) (defBody sGrow) (defScope sGrow) .none kV_grow dc_grow pm_grow an_grow cd_grow ct_grow), sl_grow⟩)
    (c_grow : PySem.W.codeIn K cd_grow "grow" = true) (k_grow : PySem.W.keepIn K (.ref f_grow) = true)
    {f_whole_root : Addr} {od_whole_root an_whole_root : Option Addr} {sl_whole_root : Array (Option Value)} {oc_whole_root kV_whole_root dc_whole_root pm_whole_root cd_whole_root ct_whole_root : Value}
    (a_whole_root : PySem.W.nsIn K mainGlobals "whole_root" = some (some (.ref f_whole_root)))
    (l_whole_root : K.lookup f_whole_root = some ⟨oc_whole_root, od_whole_root, .func (PySem.W.fnOf "whole_root" "whole_root" (defArgs sRoot) (defBody sRoot) (defScope sRoot) .none kV_whole_root dc_whole_root pm_whole_root an_whole_root cd_whole_root ct_whole_root), sl_whole_root⟩)
    (c_whole_root : PySem.W.codeIn K cd_whole_root "whole_root" = true) (k_whole_root : PySem.W.keepIn K (.ref f_whole_root) = true)
    {f_reduced_columns : Addr} {od_reduced_columns an_reduced_columns : Option Addr} {sl_reduced_columns : Array (Option Value)} {oc_reduced_columns kV_reduced_columns dc_reduced_columns pm_reduced_columns cd_reduced_columns ct_reduced_columns : Value}
    (a_reduced_columns : PySem.W.nsIn K mainGlobals "reduced_columns" = some (some (.ref f_reduced_columns)))
    (l_reduced_columns : K.lookup f_reduced_columns = some ⟨oc_reduced_columns, od_reduced_columns, .func (PySem.W.fnOf "reduced_columns" "reduced_columns" (defArgs sReduced) (defBody sReduced) (defScope sReduced) .none kV_reduced_columns dc_reduced_columns pm_reduced_columns an_reduced_columns cd_reduced_columns ct_reduced_columns), sl_reduced_columns⟩)
    (c_reduced_columns : PySem.W.codeIn K cd_reduced_columns "reduced_columns" = true) (k_reduced_columns : PySem.W.keepIn K (.ref f_reduced_columns) = true)
    {f_unit_rows : Addr} {od_unit_rows an_unit_rows : Option Addr} {sl_unit_rows : Array (Option Value)} {oc_unit_rows kV_unit_rows dc_unit_rows pm_unit_rows cd_unit_rows ct_unit_rows : Value}
    (a_unit_rows : PySem.W.nsIn K mainGlobals "unit_rows" = some (some (.ref f_unit_rows)))
    (l_unit_rows : K.lookup f_unit_rows = some ⟨oc_unit_rows, od_unit_rows, .func (PySem.W.fnOf "unit_rows" "unit_rows" (defArgs sUnit) (defBody sUnit) (defScope sUnit) .none kV_unit_rows dc_unit_rows pm_unit_rows an_unit_rows cd_unit_rows ct_unit_rows), sl_unit_rows⟩)
    (c_unit_rows : PySem.W.codeIn K cd_unit_rows "unit_rows" = true) (k_unit_rows : PySem.W.keepIn K (.ref f_unit_rows) = true)
    {f_columns_of : Addr} {od_columns_of an_columns_of : Option Addr} {sl_columns_of : Array (Option Value)} {oc_columns_of kV_columns_of dc_columns_of pm_columns_of cd_columns_of ct_columns_of : Value}
    (a_columns_of : PySem.W.nsIn K mainGlobals "columns_of" = some (some (.ref f_columns_of)))
    (l_columns_of : K.lookup f_columns_of = some ⟨oc_columns_of, od_columns_of, .func (PySem.W.fnOf "columns_of" "columns_of" (defArgs sCols) (defBody sCols) (defScope sCols) .none kV_columns_of dc_columns_of pm_columns_of an_columns_of cd_columns_of ct_columns_of), sl_columns_of⟩)
    (c_columns_of : PySem.W.codeIn K cd_columns_of "columns_of" = true) (k_columns_of : PySem.W.keepIn K (.ref f_columns_of) = true)
    {f_changed_rows : Addr} {od_changed_rows an_changed_rows : Option Addr} {sl_changed_rows : Array (Option Value)} {oc_changed_rows kV_changed_rows dc_changed_rows pm_changed_rows cd_changed_rows ct_changed_rows : Value}
    (a_changed_rows : PySem.W.nsIn K mainGlobals "changed_rows" = some (some (.ref f_changed_rows)))
    (l_changed_rows : K.lookup f_changed_rows = some ⟨oc_changed_rows, od_changed_rows, .func (PySem.W.fnOf "changed_rows" "changed_rows" (defArgs sChg) (defBody sChg) (defScope sChg) .none kV_changed_rows dc_changed_rows pm_changed_rows an_changed_rows cd_changed_rows ct_changed_rows), sl_changed_rows⟩)
    (c_changed_rows : PySem.W.codeIn K cd_changed_rows "changed_rows" = true) (k_changed_rows : PySem.W.keepIn K (.ref f_changed_rows) = true)
    {f_product_sum : Addr} {od_product_sum an_product_sum : Option Addr} {sl_product_sum : Array (Option Value)} {oc_product_sum kV_product_sum dc_product_sum pm_product_sum cd_product_sum ct_product_sum : Value}
    (a_product_sum : PySem.W.nsIn K mainGlobals "product_sum" = some (some (.ref f_product_sum)))
    (l_product_sum : K.lookup f_product_sum = some ⟨oc_product_sum, od_product_sum, .func (PySem.W.fnOf "product_sum" "product_sum" (defArgs sProd) (defBody sProd) (defScope sProd) .none kV_product_sum dc_product_sum pm_product_sum an_product_sum cd_product_sum ct_product_sum), sl_product_sum⟩)
    (c_product_sum : PySem.W.codeIn K cd_product_sum "product_sum" = true) (k_product_sum : PySem.W.keepIn K (.ref f_product_sum) = true)
    {f_settle : Addr} {od_settle an_settle : Option Addr} {sl_settle : Array (Option Value)} {oc_settle kV_settle dc_settle pm_settle cd_settle ct_settle : Value}
    (a_settle : PySem.W.nsIn K mainGlobals "settle" = some (some (.ref f_settle)))
    (l_settle : K.lookup f_settle = some ⟨oc_settle, od_settle, .func (PySem.W.fnOf "settle" "settle" (defArgs sSettle) (defBody sSettle) (defScope sSettle) .none kV_settle dc_settle pm_settle an_settle cd_settle ct_settle), sl_settle⟩)
    (c_settle : PySem.W.codeIn K cd_settle "settle" = true) (k_settle : PySem.W.keepIn K (.ref f_settle) = true)
    {f_is_less_swapped : Addr} {od_is_less_swapped an_is_less_swapped : Option Addr} {sl_is_less_swapped : Array (Option Value)} {oc_is_less_swapped kV_is_less_swapped dc_is_less_swapped pm_is_less_swapped cd_is_less_swapped ct_is_less_swapped : Value}
    (a_is_less_swapped : PySem.W.nsIn K mainGlobals "is_less_swapped" = some (some (.ref f_is_less_swapped)))
    (l_is_less_swapped : K.lookup f_is_less_swapped = some ⟨oc_is_less_swapped, od_is_less_swapped, .func (PySem.W.fnOf "is_less_swapped" "is_less_swapped" (defArgs sLess) (defBody sLess) (defScope sLess) .none kV_is_less_swapped dc_is_less_swapped pm_is_less_swapped an_is_less_swapped cd_is_less_swapped ct_is_less_swapped), sl_is_less_swapped⟩)
    (c_is_less_swapped : PySem.W.codeIn K cd_is_less_swapped "is_less_swapped" = true) (k_is_less_swapped : PySem.W.keepIn K (.ref f_is_less_swapped) = true)
    {f_ways_to : Addr} {od_ways_to an_ways_to : Option Addr} {sl_ways_to : Array (Option Value)} {oc_ways_to kV_ways_to dc_ways_to pm_ways_to cd_ways_to ct_ways_to : Value}
    (a_ways_to : PySem.W.nsIn K mainGlobals "ways_to" = some (some (.ref f_ways_to)))
    (l_ways_to : K.lookup f_ways_to = some ⟨oc_ways_to, od_ways_to, .func (PySem.W.fnOf "ways_to" "ways_to" (defArgs sWays) (defBody sWays) (defScope sWays) .none kV_ways_to dc_ways_to pm_ways_to an_ways_to cd_ways_to ct_ways_to), sl_ways_to⟩)
    (c_ways_to : PySem.W.codeIn K cd_ways_to "ways_to" = true) (k_ways_to : PySem.W.keepIn K (.ref f_ways_to) = true)
    {f_least_missed : Addr} {od_least_missed an_least_missed : Option Addr} {sl_least_missed : Array (Option Value)} {oc_least_missed kV_least_missed dc_least_missed pm_least_missed cd_least_missed ct_least_missed : Value}
    (a_least_missed : PySem.W.nsIn K mainGlobals "least_missed" = some (some (.ref f_least_missed)))
    (l_least_missed : K.lookup f_least_missed = some ⟨oc_least_missed, od_least_missed, .func (PySem.W.fnOf "least_missed" "least_missed" (defArgs sLm) (defBody sLm) (defScope sLm) .none kV_least_missed dc_least_missed pm_least_missed an_least_missed cd_least_missed ct_least_missed), sl_least_missed⟩)
    (c_least_missed : PySem.W.codeIn K cd_least_missed "least_missed" = true) (k_least_missed : PySem.W.keepIn K (.ref f_least_missed) = true)
    {f_alike_choices : Addr} {od_alike_choices an_alike_choices : Option Addr} {sl_alike_choices : Array (Option Value)} {oc_alike_choices kV_alike_choices dc_alike_choices pm_alike_choices cd_alike_choices ct_alike_choices : Value}
    (a_alike_choices : PySem.W.nsIn K mainGlobals "alike_choices" = some (some (.ref f_alike_choices)))
    (l_alike_choices : K.lookup f_alike_choices = some ⟨oc_alike_choices, od_alike_choices, .func (PySem.W.fnOf "alike_choices" "alike_choices" (defArgs sAlike) (defBody sAlike) (defScope sAlike) .none kV_alike_choices dc_alike_choices pm_alike_choices an_alike_choices cd_alike_choices ct_alike_choices), sl_alike_choices⟩)
    (c_alike_choices : PySem.W.codeIn K cd_alike_choices "alike_choices" = true) (k_alike_choices : PySem.W.keepIn K (.ref f_alike_choices) = true)
    {f_ways_by_value : Addr} {od_ways_by_value an_ways_by_value : Option Addr} {sl_ways_by_value : Array (Option Value)} {oc_ways_by_value kV_ways_by_value dc_ways_by_value pm_ways_by_value cd_ways_by_value ct_ways_by_value : Value}
    (a_ways_by_value : PySem.W.nsIn K mainGlobals "ways_by_value" = some (some (.ref f_ways_by_value)))
    (l_ways_by_value : K.lookup f_ways_by_value = some ⟨oc_ways_by_value, od_ways_by_value, .func (PySem.W.fnOf "ways_by_value" "ways_by_value" (defArgs sByVal) (defBody sByVal) (defScope sByVal) .none kV_ways_by_value dc_ways_by_value pm_ways_by_value an_ways_by_value cd_ways_by_value ct_ways_by_value), sl_ways_by_value⟩)
    (c_ways_by_value : PySem.W.codeIn K cd_ways_by_value "ways_by_value" = true) (k_ways_by_value : PySem.W.keepIn K (.ref f_ways_by_value) = true)
    {f_earlier : Addr} {od_earlier an_earlier : Option Addr} {sl_earlier : Array (Option Value)} {oc_earlier kV_earlier dc_earlier pm_earlier cd_earlier ct_earlier : Value}
    (a_earlier : PySem.W.nsIn K mainGlobals "earlier" = some (some (.ref f_earlier)))
    (l_earlier : K.lookup f_earlier = some ⟨oc_earlier, od_earlier, .func (PySem.W.fnOf "earlier" "earlier" (defArgs sEarl) (defBody sEarl) (defScope sEarl) .none kV_earlier dc_earlier pm_earlier an_earlier cd_earlier ct_earlier), sl_earlier⟩)
    (c_earlier : PySem.W.codeIn K cd_earlier "earlier" = true) (k_earlier : PySem.W.keepIn K (.ref f_earlier) = true)
    {f_added : Addr} {od_added an_added : Option Addr} {sl_added : Array (Option Value)} {oc_added kV_added dc_added pm_added cd_added ct_added : Value}
    (a_added : PySem.W.nsIn K mainGlobals "added" = some (some (.ref f_added)))
    (l_added : K.lookup f_added = some ⟨oc_added, od_added, .func (PySem.W.fnOf "added" "added" (defArgs sAdd) (defBody sAdd) (defScope sAdd) .none kV_added dc_added pm_added an_added cd_added ct_added), sl_added⟩)
    (c_added : PySem.W.codeIn K cd_added "added" = true) (k_added : PySem.W.keepIn K (.ref f_added) = true)
    {f_fm_truant : Addr} {od_fm_truant an_fm_truant : Option Addr} {sl_fm_truant : Array (Option Value)} {oc_fm_truant kV_fm_truant dc_fm_truant pm_fm_truant cd_fm_truant ct_fm_truant : Value}
    (a_fm_truant : PySem.W.nsIn K mainGlobals "fm_truant" = some (some (.ref f_fm_truant)))
    (l_fm_truant : K.lookup f_fm_truant = some ⟨oc_fm_truant, od_fm_truant, .func (PySem.W.fnOf "fm_truant" "fm_truant" (defArgs sTruant) (defBody sTruant) (defScope sTruant) .none kV_fm_truant dc_fm_truant pm_fm_truant an_fm_truant cd_fm_truant ct_fm_truant), sl_fm_truant⟩)
    (c_fm_truant : PySem.W.codeIn K cd_fm_truant "fm_truant" = true) (k_fm_truant : PySem.W.keepIn K (.ref f_fm_truant) = true)
    {f_is_size : Addr} {od_is_size an_is_size : Option Addr} {sl_is_size : Array (Option Value)} {oc_is_size kV_is_size dc_is_size pm_is_size cd_is_size ct_is_size : Value}
    (a_is_size : PySem.W.nsIn K mainGlobals "is_size" = some (some (.ref f_is_size)))
    (l_is_size : K.lookup f_is_size = some ⟨oc_is_size, od_is_size, .func (PySem.W.fnOf "is_size" "is_size" (defArgs sSize) (defBody sSize) (defScope sSize) .none kV_is_size dc_is_size pm_is_size an_is_size cd_is_size ct_is_size), sl_is_size⟩)
    (c_is_size : PySem.W.codeIn K cd_is_size "is_size" = true) (k_is_size : PySem.W.keepIn K (.ref f_is_size) = true)
    {f_is_form : Addr} {od_is_form an_is_form : Option Addr} {sl_is_form : Array (Option Value)} {oc_is_form kV_is_form dc_is_form pm_is_form cd_is_form ct_is_form : Value}
    (a_is_form : PySem.W.nsIn K mainGlobals "is_form" = some (some (.ref f_is_form)))
    (l_is_form : K.lookup f_is_form = some ⟨oc_is_form, od_is_form, .func (PySem.W.fnOf "is_form" "is_form" (defArgs sForm) (defBody sForm) (defScope sForm) .none kV_is_form dc_is_form pm_is_form an_is_form cd_is_form ct_is_form), sl_is_form⟩)
    (c_is_form : PySem.W.codeIn K cd_is_form "is_form" = true) (k_is_form : PySem.W.keepIn K (.ref f_is_form) = true)
    {f_is_in_bounds : Addr} {od_is_in_bounds an_is_in_bounds : Option Addr} {sl_is_in_bounds : Array (Option Value)} {oc_is_in_bounds kV_is_in_bounds dc_is_in_bounds pm_is_in_bounds cd_is_in_bounds ct_is_in_bounds : Value}
    (a_is_in_bounds : PySem.W.nsIn K mainGlobals "is_in_bounds" = some (some (.ref f_is_in_bounds)))
    (l_is_in_bounds : K.lookup f_is_in_bounds = some ⟨oc_is_in_bounds, od_is_in_bounds, .func (PySem.W.fnOf "is_in_bounds" "is_in_bounds" (defArgs sBounds) (defBody sBounds) (defScope sBounds) .none kV_is_in_bounds dc_is_in_bounds pm_is_in_bounds an_is_in_bounds cd_is_in_bounds ct_is_in_bounds), sl_is_in_bounds⟩)
    (c_is_in_bounds : PySem.W.codeIn K cd_is_in_bounds "is_in_bounds" = true) (k_is_in_bounds : PySem.W.keepIn K (.ref f_is_in_bounds) = true)
    {f_is_mirrored : Addr} {od_is_mirrored an_is_mirrored : Option Addr} {sl_is_mirrored : Array (Option Value)} {oc_is_mirrored kV_is_mirrored dc_is_mirrored pm_is_mirrored cd_is_mirrored ct_is_mirrored : Value}
    (a_is_mirrored : PySem.W.nsIn K mainGlobals "is_mirrored" = some (some (.ref f_is_mirrored)))
    (l_is_mirrored : K.lookup f_is_mirrored = some ⟨oc_is_mirrored, od_is_mirrored, .func (PySem.W.fnOf "is_mirrored" "is_mirrored" (defArgs sMirror) (defBody sMirror) (defScope sMirror) .none kV_is_mirrored dc_is_mirrored pm_is_mirrored an_is_mirrored cd_is_mirrored ct_is_mirrored), sl_is_mirrored⟩)
    (c_is_mirrored : PySem.W.codeIn K cd_is_mirrored "is_mirrored" = true) (k_is_mirrored : PySem.W.keepIn K (.ref f_is_mirrored) = true)
    {f_is_above_zero : Addr} {od_is_above_zero an_is_above_zero : Option Addr} {sl_is_above_zero : Array (Option Value)} {oc_is_above_zero kV_is_above_zero dc_is_above_zero pm_is_above_zero cd_is_above_zero ct_is_above_zero : Value}
    (a_is_above_zero : PySem.W.nsIn K mainGlobals "is_above_zero" = some (some (.ref f_is_above_zero)))
    (l_is_above_zero : K.lookup f_is_above_zero = some ⟨oc_is_above_zero, od_is_above_zero, .func (PySem.W.fnOf "is_above_zero" "is_above_zero" (defArgs sAbove) (defBody sAbove) (defScope sAbove) .none kV_is_above_zero dc_is_above_zero pm_is_above_zero an_is_above_zero cd_is_above_zero ct_is_above_zero), sl_is_above_zero⟩)
    (c_is_above_zero : PySem.W.codeIn K cd_is_above_zero "is_above_zero" = true) (k_is_above_zero : PySem.W.keepIn K (.ref f_is_above_zero) = true)
    {f_last_corner : Addr} {od_last_corner an_last_corner : Option Addr} {sl_last_corner : Array (Option Value)} {oc_last_corner kV_last_corner dc_last_corner pm_last_corner cd_last_corner ct_last_corner : Value}
    (a_last_corner : PySem.W.nsIn K mainGlobals "last_corner" = some (some (.ref f_last_corner)))
    (l_last_corner : K.lookup f_last_corner = some ⟨oc_last_corner, od_last_corner, .func (PySem.W.fnOf "last_corner" "last_corner" (defArgs sCorner) (defBody sCorner) (defScope sCorner) .none kV_last_corner dc_last_corner pm_last_corner an_last_corner cd_last_corner ct_last_corner), sl_last_corner⟩)
    (c_last_corner : PySem.W.codeIn K cd_last_corner "last_corner" = true) (k_last_corner : PySem.W.keepIn K (.ref f_last_corner) = true)
    {t_OUT_OF_RANGE : Tok} (g_OUT_OF_RANGE : PySem.W.nsIn K mainGlobals "OUT_OF_RANGE" = some (some (.int (-2) t_OUT_OF_RANGE)))
    {t_NOT_A_FORM : Tok} (g_NOT_A_FORM : PySem.W.nsIn K mainGlobals "NOT_A_FORM" = some (some (.int (-1) t_NOT_A_FORM)))
    {t_MOST_UNKNOWNS : Tok} (g_MOST_UNKNOWNS : PySem.W.nsIn K mainGlobals "MOST_UNKNOWNS" = some (some (.int (8) t_MOST_UNKNOWNS)))
    {t_MOST_MISSED : Tok} (g_MOST_MISSED : PySem.W.nsIn K mainGlobals "MOST_MISSED" = some (some (.int (15) t_MOST_MISSED)))
    {t_GREATEST_NUMBER : Tok} (g_GREATEST_NUMBER : PySem.W.nsIn K mainGlobals "GREATEST_NUMBER" = some (some (.int (32) t_GREATEST_NUMBER)))
    (n_range : PySem.W.nsIn K mainGlobals "range" = some none)
    (n_len : PySem.W.nsIn K mainGlobals "len" = some none)
    (n_min : PySem.W.nsIn K mainGlobals "min" = some none)
    (n_max : PySem.W.nsIn K mainGlobals "max" = some none)
    (n_zip : PySem.W.nsIn K mainGlobals "zip" = some none)
    (n_sum : PySem.W.nsIn K mainGlobals "sum" = some none)
    (n_reversed : PySem.W.nsIn K mainGlobals "reversed" = some none)
    (n_tuple : PySem.W.nsIn K mainGlobals "tuple" = some none)
    (n_list : PySem.W.nsIn K mainGlobals "list" = some none) :
    ∃ fd : FuncData, (∀ (s : Shared) (us : List Value), us.length = (["n", "a"] : List Str).length → BindsTo s fd ⟨us, []⟩ ((["n", "a"] : List Str).zip us)) ∧ ∀ base : Heap, K.In base → base.Ns mainGlobals mg → FnOk P w K mg base CX0 7 fa fd ["n", "a"] (spTruant K) := by
  have e := hfa.symm.trans (PySem.W.mg_of X G a_fm_truant)
  cases e
  have F_split_rows := fun_mk (st := sSplit) l_split_rows c_split_rows k_split_rows
  have b_split_rows := F_split_rows.binds (ps := ["n", "a"]) fun _ _ _ _ _ _ us hl => match us, hl with | [_, _], _ => rfl
  have m_split_rows := PySem.W.mg_of X G a_split_rows
  have F_top_rows := fun_mk (st := sTop) l_top_rows c_top_rows k_top_rows
  have b_top_rows := F_top_rows.binds (ps := ["rows"]) fun _ _ _ _ _ _ us hl => match us, hl with | [_], _ => rfl
  have m_top_rows := PySem.W.mg_of X G a_top_rows
  have F_reduced_row := fun_mk (st := sRed) l_reduced_row c_reduced_row k_reduced_row
  have b_reduced_row := F_reduced_row.binds (ps := ["top", "row", "divisor"]) fun _ _ _ _ _ _ us hl => match us, hl with | [_, _, _], _ => rfl
  have m_reduced_row := PySem.W.mg_of X G a_reduced_row
  have F_empty_choice := fun_mk (st := sEmpty) l_empty_choice c_empty_choice k_empty_choice
  have b_empty_choice := F_empty_choice.binds (ps := ["n"]) fun _ _ _ _ _ _ us hl => match us, hl with | [_], _ => rfl
  have m_empty_choice := PySem.W.mg_of X G a_empty_choice
  have F_grown_choices := fun_mk (st := sGrowns) l_grown_choices c_grown_choices k_grown_choices
  have b_grown_choices := F_grown_choices.binds (ps := ["n", "columns", "start", "to", "most"]) fun _ _ _ _ _ _ us hl => match us, hl with | [_, _, _, _, _], _ => rfl
  have m_grown_choices := PySem.W.mg_of X G a_grown_choices
  have F_grow := fun_mk (st := sGrow) l_grow c_grow k_grow
  have b_grow := F_grow.binds (ps := ["choice", "column", "before", "most", "grown"]) fun _ _ _ _ _ _ us hl => match us, hl with | [_, _, _, _, _], _ => rfl
  have m_grow := PySem.W.mg_of X G a_grow
  have F_whole_root := fun_mk (st := sRoot) l_whole_root c_whole_root k_whole_root
  have b_whole_root := F_whole_root.binds (ps := ["number"]) fun _ _ _ _ _ _ us hl => match us, hl with | [_], _ => rfl
  have m_whole_root := PySem.W.mg_of X G a_whole_root
  have F_reduced_columns := fun_mk (st := sReduced) l_reduced_columns c_reduced_columns k_reduced_columns
  have b_reduced_columns := F_reduced_columns.binds (ps := ["n", "a"]) fun _ _ _ _ _ _ us hl => match us, hl with | [_, _], _ => rfl
  have m_reduced_columns := PySem.W.mg_of X G a_reduced_columns
  have F_unit_rows := fun_mk (st := sUnit) l_unit_rows c_unit_rows k_unit_rows
  have b_unit_rows := F_unit_rows.binds (ps := ["n"]) fun _ _ _ _ _ _ us hl => match us, hl with | [_], _ => rfl
  have m_unit_rows := PySem.W.mg_of X G a_unit_rows
  have F_columns_of := fun_mk (st := sCols) l_columns_of c_columns_of k_columns_of
  have b_columns_of := F_columns_of.binds (ps := ["rows", "basis"]) fun _ _ _ _ _ _ us hl => match us, hl with | [_, _], _ => rfl
  have m_columns_of := PySem.W.mg_of X G a_columns_of
  have F_changed_rows := fun_mk (st := sChg) l_changed_rows c_changed_rows k_changed_rows
  have b_changed_rows := F_changed_rows.binds (ps := ["rows", "basis"]) fun _ _ _ _ _ _ us hl => match us, hl with | [_, _], _ => rfl
  have m_changed_rows := PySem.W.mg_of X G a_changed_rows
  have F_product_sum := fun_mk (st := sProd) l_product_sum c_product_sum k_product_sum
  have b_product_sum := F_product_sum.binds (ps := ["left", "right"]) fun _ _ _ _ _ _ us hl => match us, hl with | [_, _], _ => rfl
  have m_product_sum := PySem.W.mg_of X G a_product_sum
  have F_settle := fun_mk (st := sSettle) l_settle c_settle k_settle
  have b_settle := F_settle.binds (ps := ["columns", "marks"]) fun _ _ _ _ _ _ us hl => match us, hl with | [_, _], _ => rfl
  have m_settle := PySem.W.mg_of X G a_settle
  have F_is_less_swapped := fun_mk (st := sLess) l_is_less_swapped c_is_less_swapped k_is_less_swapped
  have b_is_less_swapped := F_is_less_swapped.binds (ps := ["columns", "beside"]) fun _ _ _ _ _ _ us hl => match us, hl with | [_, _], _ => rfl
  have m_is_less_swapped := PySem.W.mg_of X G a_is_less_swapped
  have F_ways_to := fun_mk (st := sWays) l_ways_to c_ways_to k_ways_to
  have b_ways_to := F_ways_to.binds (ps := ["n", "columns", "m"]) fun _ _ _ _ _ _ us hl => match us, hl with | [_, _, _], _ => rfl
  have m_ways_to := PySem.W.mg_of X G a_ways_to
  have F_least_missed := fun_mk (st := sLm) l_least_missed c_least_missed k_least_missed
  have b_least_missed := F_least_missed.binds (ps := ["n", "columns", "most"]) fun _ _ _ _ _ _ us hl => match us, hl with | [_, _, _], _ => rfl
  have m_least_missed := PySem.W.mg_of X G a_least_missed
  have F_alike_choices := fun_mk (st := sAlike) l_alike_choices c_alike_choices k_alike_choices
  have b_alike_choices := F_alike_choices.binds (ps := ["n", "columns", "choices"]) fun _ _ _ _ _ _ us hl => match us, hl with | [_, _, _], _ => rfl
  have m_alike_choices := PySem.W.mg_of X G a_alike_choices
  have F_ways_by_value := fun_mk (st := sByVal) l_ways_by_value c_ways_by_value k_ways_by_value
  have b_ways_by_value := F_ways_by_value.binds (ps := ["n", "columns", "choice", "most"]) fun _ _ _ _ _ _ us hl => match us, hl with | [_, _, _, _], _ => rfl
  have m_ways_by_value := PySem.W.mg_of X G a_ways_by_value
  have F_earlier := fun_mk (st := sEarl) l_earlier c_earlier k_earlier
  have b_earlier := F_earlier.binds (ps := ["first", "way"]) fun _ _ _ _ _ _ us hl => match us, hl with | [_, _], _ => rfl
  have m_earlier := PySem.W.mg_of X G a_earlier
  have F_added := fun_mk (st := sAdd) l_added c_added k_added
  have b_added := F_added.binds (ps := ["left", "right"]) fun _ _ _ _ _ _ us hl => match us, hl with | [_, _], _ => rfl
  have m_added := PySem.W.mg_of X G a_added
  have F_fm_truant := fun_mk (st := sTruant) l_fm_truant c_fm_truant k_fm_truant
  have b_fm_truant := F_fm_truant.binds (ps := ["n", "a"]) fun _ _ _ _ _ _ us hl => match us, hl with | [_, _], _ => rfl
  have m_fm_truant := PySem.W.mg_of X G a_fm_truant
  have F_is_size := fun_mk (st := sSize) l_is_size c_is_size k_is_size
  have b_is_size := F_is_size.binds (ps := ["n"]) fun _ _ _ _ _ _ us hl => match us, hl with | [_], _ => rfl
  have m_is_size := PySem.W.mg_of X G a_is_size
  have F_is_form := fun_mk (st := sForm) l_is_form c_is_form k_is_form
  have b_is_form := F_is_form.binds (ps := ["n", "a"]) fun _ _ _ _ _ _ us hl => match us, hl with | [_, _], _ => rfl
  have m_is_form := PySem.W.mg_of X G a_is_form
  have F_is_in_bounds := fun_mk (st := sBounds) l_is_in_bounds c_is_in_bounds k_is_in_bounds
  have b_is_in_bounds := F_is_in_bounds.binds (ps := ["a"]) fun _ _ _ _ _ _ us hl => match us, hl with | [_], _ => rfl
  have m_is_in_bounds := PySem.W.mg_of X G a_is_in_bounds
  have F_is_mirrored := fun_mk (st := sMirror) l_is_mirrored c_is_mirrored k_is_mirrored
  have b_is_mirrored := F_is_mirrored.binds (ps := ["n", "a"]) fun _ _ _ _ _ _ us hl => match us, hl with | [_, _], _ => rfl
  have m_is_mirrored := PySem.W.mg_of X G a_is_mirrored
  have F_is_above_zero := fun_mk (st := sAbove) l_is_above_zero c_is_above_zero k_is_above_zero
  have b_is_above_zero := F_is_above_zero.binds (ps := ["n", "a"]) fun _ _ _ _ _ _ us hl => match us, hl with | [_, _], _ => rfl
  have m_is_above_zero := PySem.W.mg_of X G a_is_above_zero
  have F_last_corner := fun_mk (st := sCorner) l_last_corner c_last_corner k_last_corner
  have b_last_corner := F_last_corner.binds (ps := ["n", "a"]) fun _ _ _ _ _ _ us hl => match us, hl with | [_, _], _ => rfl
  have m_last_corner := PySem.W.mg_of X G a_last_corner
  have c_OUT_OF_RANGE := PySem.W.mg_of X G g_OUT_OF_RANGE
  have c_NOT_A_FORM := PySem.W.mg_of X G g_NOT_A_FORM
  have c_MOST_UNKNOWNS := PySem.W.mg_of X G g_MOST_UNKNOWNS
  have c_MOST_MISSED := PySem.W.mg_of X G g_MOST_MISSED
  have c_GREATEST_NUMBER := PySem.W.mg_of X G g_GREATEST_NUMBER
  have u_range := PySem.W.mg_none_of X G n_range
  have u_len := PySem.W.mg_none_of X G n_len
  have u_min := PySem.W.mg_none_of X G n_min
  have u_max := PySem.W.mg_none_of X G n_max
  have u_zip := PySem.W.mg_none_of X G n_zip
  have u_sum := PySem.W.mg_none_of X G n_sum
  have u_reversed := PySem.W.mg_none_of X G n_reversed
  have u_tuple := PySem.W.mg_none_of X G n_tuple
  have u_list := PySem.W.mg_none_of X G n_list
  refine ⟨PySem.W.fnOf "fm_truant" "fm_truant" (defArgs sTruant) (defBody sTruant) (defScope sTruant) .none kV_fm_truant dc_fm_truant pm_fm_truant an_fm_truant cd_fm_truant ct_fm_truant, fun s us hu => match us, hu with | [_, _], _ => .of_eq rfl, fun base _ _ => ?_⟩
  have GS := ok_split (P := P) (w := w) (base := base) F_split_rows u_range
  have GT := ok_top (P := P) (w := w) (base := base) F_top_rows u_range u_len F_reduced_row b_reduced_row m_reduced_row
  have GC := ok_corner F_last_corner GS k_split_rows b_split_rows m_split_rows GT k_top_rows b_top_rows m_top_rows
  have GA := ok_above F_is_above_zero GC k_last_corner b_last_corner m_last_corner
  have GF := ok_form F_is_form (ok_bounds F_is_in_bounds ⟨_, c_GREATEST_NUMBER⟩ u_min u_max) k_is_in_bounds b_is_in_bounds m_is_in_bounds (ok_mirror F_is_mirrored u_range) k_is_mirrored b_is_mirrored m_is_mirrored GA k_is_above_zero b_is_above_zero m_is_above_zero
  have GRt := ok_root (P := P) (w := w) (mg := mg) (base := base) F_whole_root
  have GGr := ok_grow F_grow u_range u_zip GRt k_whole_root b_whole_root m_whole_root
  have GGs := ok_growns F_grown_choices u_range u_len GGr k_grow b_grow m_grow
  have GPr := ok_prod (P := P) (w := w) (base := base) F_product_sum u_zip u_sum
  have GU := ok_unit (P := P) (w := w) (base := base) F_unit_rows u_range
  have GCh := ok_chg F_changed_rows GPr k_product_sum b_product_sum m_product_sum
  have GCo := ok_cols F_columns_of u_range u_len GCh k_changed_rows b_changed_rows m_changed_rows GT k_top_rows b_top_rows m_top_rows
  have GSt := ok_settle (P := P) (w := w) (base := base) F_settle u_len u_zip u_reversed
  have GLs := ok_less (P := P) (w := w) (base := base) F_is_less_swapped u_len
  have GRd := ok_reduced F_reduced_columns u_max GS k_split_rows b_split_rows m_split_rows GU k_unit_rows b_unit_rows m_unit_rows GCo k_columns_of b_columns_of m_columns_of GSt k_settle b_settle m_settle GLs k_is_less_swapped b_is_less_swapped m_is_less_swapped
  have GEm := ok_empty (P := P) (w := w) (mg := mg) (base := base) F_empty_choice
  have GEa := ok_earl (P := P) (w := w) (mg := mg) (base := base) F_earlier
  have GAd := ok_add (P := P) (w := w) (base := base) F_added u_zip
  have GAl := ok_alike F_alike_choices u_tuple GSt k_settle b_settle m_settle
  have GBv := ok_byVal F_ways_by_value GGs k_grown_choices b_grown_choices m_grown_choices GEa k_earlier b_earlier m_earlier
  have GW := ok_ways F_ways_to u_min u_list GEm k_empty_choice b_empty_choice m_empty_choice GGs k_grown_choices b_grown_choices m_grown_choices GAl k_alike_choices b_alike_choices m_alike_choices GBv k_ways_by_value b_ways_by_value m_ways_by_value GEa k_earlier b_earlier m_earlier GAd k_added b_added m_added
  exact ok_top_truant F_fm_truant ⟨_, c_OUT_OF_RANGE⟩ ⟨_, c_NOT_A_FORM⟩ (ok_size F_is_size ⟨_, c_MOST_UNKNOWNS⟩) k_is_size b_is_size m_is_size GF k_is_form b_is_form m_is_form GRd k_reduced_columns b_reduced_columns m_reduced_columns ⟨_, c_MOST_MISSED⟩ (ok_lm F_least_missed u_range GW k_ways_to b_ways_to m_ways_to) k_least_missed b_least_missed m_least_missed
end Pr
open PySem PySem.W PyProof.Rows
set_option maxHeartbeats 0 in
theorem PySem.Challenge.cw_formkeepdesk_s09_fm_truant_holds : PySem.Challenge.rw_formkeepdesk_s09_fm_truant.Holds := by
  w_on; k_headS; (case hw => exact ⟨[.int 0, .list []], by decide +kernel, by decide +kernel⟩)
  k_fillS
  refine L2.walk_specK (r := PySem.Challenge.rw_formkeepdesk_s09_fm_truant) (k := 7) (CX := L2.CX0) (ps := ["n", "a"]) (sp := Pr.spTruant) (by decide +kernel) rfl rfl ⟨rfl, by decide, by decide⟩ (fun w h Y => PySem.W.kIn_of Y) ?F ?S (fun _ _ _ _ z => z)
  case F =>
    intro w mg fa h Y KX G hmg
    refine' Pr.all_mk KX G hmg ?a_split_rows ?l_split_rows ?c_split_rows ?k_split_rows ?a_top_rows ?l_top_rows ?c_top_rows ?k_top_rows ?a_reduced_row ?l_reduced_row ?c_reduced_row ?k_reduced_row ?a_empty_choice ?l_empty_choice ?c_empty_choice ?k_empty_choice ?a_grown_choices ?l_grown_choices ?c_grown_choices ?k_grown_choices ?a_grow ?l_grow ?c_grow ?k_grow ?a_whole_root ?l_whole_root ?c_whole_root ?k_whole_root ?a_reduced_columns ?l_reduced_columns ?c_reduced_columns ?k_reduced_columns ?a_unit_rows ?l_unit_rows ?c_unit_rows ?k_unit_rows ?a_columns_of ?l_columns_of ?c_columns_of ?k_columns_of ?a_changed_rows ?l_changed_rows ?c_changed_rows ?k_changed_rows ?a_product_sum ?l_product_sum ?c_product_sum ?k_product_sum ?a_settle ?l_settle ?c_settle ?k_settle ?a_is_less_swapped ?l_is_less_swapped ?c_is_less_swapped ?k_is_less_swapped ?a_ways_to ?l_ways_to ?c_ways_to ?k_ways_to ?a_least_missed ?l_least_missed ?c_least_missed ?k_least_missed ?a_alike_choices ?l_alike_choices ?c_alike_choices ?k_alike_choices ?a_ways_by_value ?l_ways_by_value ?c_ways_by_value ?k_ways_by_value ?a_earlier ?l_earlier ?c_earlier ?k_earlier ?a_added ?l_added ?c_added ?k_added ?a_fm_truant ?l_fm_truant ?c_fm_truant ?k_fm_truant ?a_is_size ?l_is_size ?c_is_size ?k_is_size ?a_is_form ?l_is_form ?c_is_form ?k_is_form ?a_is_in_bounds ?l_is_in_bounds ?c_is_in_bounds ?k_is_in_bounds ?a_is_mirrored ?l_is_mirrored ?c_is_mirrored ?k_is_mirrored ?a_is_above_zero ?l_is_above_zero ?c_is_above_zero ?k_is_above_zero ?a_last_corner ?l_last_corner ?c_last_corner ?k_last_corner ?g_OUT_OF_RANGE ?g_NOT_A_FORM ?g_MOST_UNKNOWNS ?g_MOST_MISSED ?g_GREATEST_NUMBER ?n_range ?n_len ?n_min ?n_max ?n_zip ?n_sum ?n_reversed ?n_tuple ?n_list
    (case a_split_rows => k_is)
    (case l_split_rows => k_is)
    (case c_split_rows => k_is)
    (case k_split_rows => k_is)
    (case a_top_rows => k_is)
    (case l_top_rows => k_is)
    (case c_top_rows => k_is)
    (case k_top_rows => k_is)
    (case a_reduced_row => k_is)
    (case l_reduced_row => k_is)
    (case c_reduced_row => k_is)
    (case k_reduced_row => k_is)
    (case a_empty_choice => k_is)
    (case l_empty_choice => k_is)
    (case c_empty_choice => k_is)
    (case k_empty_choice => k_is)
    (case a_grown_choices => k_is)
    (case l_grown_choices => k_is)
    (case c_grown_choices => k_is)
    (case k_grown_choices => k_is)
    (case a_grow => k_is)
    (case l_grow => k_is)
    (case c_grow => k_is)
    (case k_grow => k_is)
    (case a_whole_root => k_is)
    (case l_whole_root => k_is)
    (case c_whole_root => k_is)
    (case k_whole_root => k_is)
    (case a_reduced_columns => k_is)
    (case l_reduced_columns => k_is)
    (case c_reduced_columns => k_is)
    (case k_reduced_columns => k_is)
    (case a_unit_rows => k_is)
    (case l_unit_rows => k_is)
    (case c_unit_rows => k_is)
    (case k_unit_rows => k_is)
    (case a_columns_of => k_is)
    (case l_columns_of => k_is)
    (case c_columns_of => k_is)
    (case k_columns_of => k_is)
    (case a_changed_rows => k_is)
    (case l_changed_rows => k_is)
    (case c_changed_rows => k_is)
    (case k_changed_rows => k_is)
    (case a_product_sum => k_is)
    (case l_product_sum => k_is)
    (case c_product_sum => k_is)
    (case k_product_sum => k_is)
    (case a_settle => k_is)
    (case l_settle => k_is)
    (case c_settle => k_is)
    (case k_settle => k_is)
    (case a_is_less_swapped => k_is)
    (case l_is_less_swapped => k_is)
    (case c_is_less_swapped => k_is)
    (case k_is_less_swapped => k_is)
    (case a_ways_to => k_is)
    (case l_ways_to => k_is)
    (case c_ways_to => k_is)
    (case k_ways_to => k_is)
    (case a_least_missed => k_is)
    (case l_least_missed => k_is)
    (case c_least_missed => k_is)
    (case k_least_missed => k_is)
    (case a_alike_choices => k_is)
    (case l_alike_choices => k_is)
    (case c_alike_choices => k_is)
    (case k_alike_choices => k_is)
    (case a_ways_by_value => k_is)
    (case l_ways_by_value => k_is)
    (case c_ways_by_value => k_is)
    (case k_ways_by_value => k_is)
    (case a_earlier => k_is)
    (case l_earlier => k_is)
    (case c_earlier => k_is)
    (case k_earlier => k_is)
    (case a_added => k_is)
    (case l_added => k_is)
    (case c_added => k_is)
    (case k_added => k_is)
    (case a_fm_truant => k_is)
    (case l_fm_truant => k_is)
    (case c_fm_truant => k_is)
    (case k_fm_truant => k_is)
    (case a_is_size => k_is)
    (case l_is_size => k_is)
    (case c_is_size => k_is)
    (case k_is_size => k_is)
    (case a_is_form => k_is)
    (case l_is_form => k_is)
    (case c_is_form => k_is)
    (case k_is_form => k_is)
    (case a_is_in_bounds => k_is)
    (case l_is_in_bounds => k_is)
    (case c_is_in_bounds => k_is)
    (case k_is_in_bounds => k_is)
    (case a_is_mirrored => k_is)
    (case l_is_mirrored => k_is)
    (case c_is_mirrored => k_is)
    (case k_is_mirrored => k_is)
    (case a_is_above_zero => k_is)
    (case l_is_above_zero => k_is)
    (case c_is_above_zero => k_is)
    (case k_is_above_zero => k_is)
    (case a_last_corner => k_is)
    (case l_last_corner => k_is)
    (case c_last_corner => k_is)
    (case k_last_corner => k_is)
    (case g_OUT_OF_RANGE => k_is)
    (case g_NOT_A_FORM => k_is)
    (case g_MOST_UNKNOWNS => k_is)
    (case g_MOST_MISSED => k_is)
    (case g_GREATEST_NUMBER => k_is)
    (case n_range => k_is)
    (case n_len => k_is)
    (case n_min => k_is)
    (case n_max => k_is)
    (case n_zip => k_is)
    (case n_sum => k_is)
    (case n_reversed => k_is)
    (case n_tuple => k_is)
    (case n_list => k_is)
  case S =>
    intro K H xs a hO hwi hask hx
    cases hx with
    | cons h1 h2 =>
      cases h2 with
      | cons h3 h4 =>
        cases h4
        cases h1
        cases h3 with
        | lst hs ha =>
          have e := L2.ints_dw a.2.1 _ ha
          subst e
          exact ⟨a.1, _, a.2.1, rfl, hs, Pr.asked_n hask, fun H' p hp => .lst (L2.SqL.of hp) (L2.dw_ints _)⟩


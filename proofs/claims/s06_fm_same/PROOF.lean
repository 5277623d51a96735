import PyProof.Rows.All
import Wide.All
import OpenK.AllK
import Wide.FinOn
import PyProof.EqAt
import PyProof.EqKinds
import PyProof.TupleCall
import KE.BitLaws
import Open.SpecLaws
import KE.OsHead
import KE.OsGo
import KE.KSortTupG
import PyProof.Rows.SortShellAny
import PySem.Challenge.RW_formkeepdesk_s06_fm_same
set_option Elab.async false
set_option linter.all false
set_option maxRecDepth 100000
namespace L2
open PySem PySem.Spec PyProof.Rows
abbrev Key:=Sum Int Str
def keyIs : Key -> Value -> Bool
 | .inl k, v => Value.isInt k v
 | .inr x, v => Value.isStrOf x v
def keyH (w : World) : Key -> Int
 | .inl k => hashInt k
 | .inr x => hashStr w x
theorem keyIs_shape : ∀ {k : Key} {v : Value}, keyIs k v = true -> (∃ i t, k = Sum.inl i /\ v = Value.int i t) \/ (∃ x t, k = Sum.inr x /\ v = Value.str x t)
 | .inl i, v, h => by
  obtain ⟨t, e⟩:=Value.isInt_shape (k:=i) (v:=v) h
  exact .inl ⟨i, t, rfl, e⟩
 | .inr x, v, h => by
  obtain ⟨t, e⟩:=Value.isStrOf_shape (x:=x) (v:=v) h
  exact .inr ⟨x, t, rfl, e⟩
theorem keyIs_int (i : Int) (t : Tok) : keyIs (.inl i) (.int i t) = true:=by simp [keyIs, Value.isInt]
theorem keyIs_str (x : Str) (t : Tok) : keyIs (.inr x) (.str x t) = true:=by simp [keyIs, Value.isStrOf]
theorem key_ll (a b : Int) : decide ((Sum.inl a : Key) = Sum.inl b) = (a == b):=by
 by_cases e : a = b
 ·subst e; simp
 ·have h : ¬ (Sum.inl a : Key) = Sum.inl b:=fun q => e (Sum.inl.inj q)
  rw [decide_eq_false h]
  exact (beq_eq_false_iff_ne.mpr e).symm
theorem key_rr (a b : Str) : decide ((Sum.inr a : Key) = Sum.inr b) = decide (a = b):=by
 by_cases e : a = b
 ·subst e; simp
 ·have h : ¬ (Sum.inr a : Key) = Sum.inr b:=fun q => e (Sum.inr.inj q)
  rw [decide_eq_false h, decide_eq_false e]
theorem key_lr (a : Int) (b : Str) : decide ((Sum.inl a : Key) = Sum.inr b) = false:=decide_eq_false (fun q => nomatch q)
theorem key_rl (a : Str) (b : Int) : decide ((Sum.inr a : Key) = Sum.inl b) = false:=decide_eq_false (fun q => nomatch q)
def mixKind (prog : Program) (w : World) : PySem.KeyKind prog w Key where
 is:=keyIs
 hash:=keyH w
 inj:=fun v a b ha hb => by
  rcases keyIs_shape ha with ⟨i, t, rfl, rfl⟩ | ⟨x, t, rfl, rfl⟩
  ·rcases keyIs_shape hb with ⟨j, u, rfl, e⟩ | ⟨y, u, rfl, e⟩
   ·injection e with e1 _; rw [e1]
   ·exact nomatch e
  ·rcases keyIs_shape hb with ⟨j, u, rfl, e⟩ | ⟨y, u, rfl, e⟩
   ·exact nomatch e
   ·injection e with e1 _; rw [e1]
 byValue:=fun k v h => by
  rcases keyIs_shape h with ⟨i, t, rfl, rfl⟩ | ⟨x, t, rfl, rfl⟩ <;> rfl
 pyHash:=fun hv h => by
  rcases keyIs_shape hv with ⟨i, t, rfl, rfl⟩ | ⟨x, t, rfl, rfl⟩
  ·exact wpAny_pyHash_int h
  ·exact wpAny_pyHash_str h
 eqBool:=fun hu hv h => by
  rcases keyIs_shape hu with ⟨i, t, rfl, rfl⟩ | ⟨x, t, rfl, rfl⟩
  ·rcases keyIs_shape hv with ⟨j, u, rfl, rfl⟩ | ⟨y, u, rfl, rfl⟩
   ·rw [key_ll] at h; exact wpAny_eqBool_int h
   ·rw [key_lr] at h; exact SeqAt.EqAt.int_str i t y u _ _ _ _ h
  ·rcases keyIs_shape hv with ⟨j, u, rfl, rfl⟩ | ⟨y, u, rfl, rfl⟩
   ·rw [key_rl] at h; exact SeqAt.EqAt.str_int x t j u _ _ _ _ h
   ·rw [key_rr] at h; exact wpAny_eqBool_str h
 «strs»:=fun k x t v h => by
  rcases keyIs_shape h with ⟨i, u, rfl, e⟩ | ⟨y, u, rfl, e⟩
  ·exact nomatch e
  ·injection e with e1 _
   subst e1
   cases v <;> rfl
theorem mixKind_int (prog : Program) (w : World) (i : Int) (t : Tok) : (mixKind prog w).is (.inl i) (.int i t) = true:=keyIs_int i t
theorem mixKind_str (prog : Program) (w : World) (x : Str) (t : Tok) : (mixKind prog w).is (.inr x) (.str x t) = true:=keyIs_str x t
end L2
namespace L2
open PySem PySem.Spec PyProof.Rows
inductive V where
 | non | bl (b : Bool) | int (i : Int) | str (x : Str) | byt (b : Array UInt8) | flt (b : UInt64) | ref (a : Addr) | ty (n : String)
 deriving DecidableEq
def RelV : V -> Value -> Prop
 | .non, u => u = Value.none
 | .bl b, u => u = Value.bool b
 | .int i, u => ∃ t, u = Value.int i t
 | .str x, u => ∃ t, u = Value.str x t
 | .byt b, u => ∃ t, u = Value.bytes b t
 | .flt b, u => ∃ t, u = Value.float b t
 | .ref a, u => u = Value.ref a
 | .ty n, u => u = Value.type n
abbrev Vals : List V -> List Value -> Prop:=Paired RelV
theorem Vals.length {xs : List V} {us : List Value} (r : Vals xs us) : xs.length = us.length:=Paired.length r
theorem Vals.get : ∀ {xs : List V} {us : List Value} {i : Nat} {x : V}, Vals xs us -> xs[i]? = some x -> ∃ u, us[i]? = some u /\ RelV x u
 | _, _, _, _, .nil, e => by simp at e
 | _, _, 0, _, .cons r _, e => by simp at e; subst e; exact ⟨_, rfl, r⟩
 | _, _, i + 1, x, .cons _ t, e => by
  obtain ⟨u, h1, h2⟩:=Vals.get (i:=i) (x:=x) t (by simpa using e)
  exact ⟨u, by simpa using h1, h2⟩
theorem Vals.set {x : V} {u : Value} (r : RelV x u) : ∀ {xs : List V} {us : List Value} (i : Nat), Vals xs us -> Vals (xs.set i x) (us.set i u)
 | _, _, _, .nil => .nil
 | _, _, 0, .cons _ t => .cons r t
 | _, _, i + 1, .cons q t => .cons q (Vals.set r i t)
theorem Vals.append : ∀ {xs ys : List V} {us ws : List Value}, Vals xs us -> Vals ys ws -> Vals (xs ++ ys) (us ++ ws)
 | _, _, _, _, .nil, s => s
 | _, _, _, _, .cons r t, s => .cons r (Vals.append t s)
theorem Vals.take : ∀ {xs : List V} {us : List Value} (n : Nat), Vals xs us -> Vals (xs.take n) (us.take n)
 | _, _, 0, _ => .nil
 | _, _, _ + 1, .nil => .nil
 | _, _, n + 1, .cons r t => .cons r (Vals.take n t)
theorem Vals.drop : ∀ {xs : List V} {us : List Value} (n : Nat), Vals xs us -> Vals (xs.drop n) (us.drop n)
 | _, _, 0, r => r
 | _, _, _ + 1, .nil => .nil
 | _, _, n + 1, .cons _ t => Vals.drop n t
def RelO : Option V -> Option Value -> Prop
 | some v, some u => RelV v u
 | none, none => True
 | _, _ => False
def KV {κ : Type} : List (κ × V) -> List (κ × Value) -> Prop:=Paired fun (p : κ × V) (q : κ × Value) => p.1 = q.1 /\ RelV p.2 q.2
def kV : Key -> V
 | .inl i => .int i
 | .inr x => .str x
inductive HO where
 | lst (xs : List V)
 | tup (xs : List V)
 | dK (kvs : List (Key × V)) | dT (kvs : List (List Key × V))
 | set (S : Int -> Bool) (n : Nat)
 | ins (C dx : Addr) (fs : List (Str × V))
 | own (x : Addr)
 | xd (fs : List (Str × V))
 | met (f x : Addr)
 | rng (lo hi : Int)
 | frz (o : Obj) (u : HO)
 | tbl (ps : Array Value)
 | ext (φ : Heap -> Prop)
abbrev Hp:=Addr -> Option HO
def upd (H : Hp) (a : Addr) (o : HO) : Hp:=fun b => if b = a then some o else H b
theorem upd_same {H : Hp} {a : Addr} {o : HO} : upd H a o a = some o:=by unfold upd; rw [if_pos rfl]
theorem upd_ne {H : Hp} {a b : Addr} {o : HO} (h : b ≠ a) : upd H a o b = H b:=by unfold upd; rw [if_neg h]
theorem ne_of {H : Hp} {a b : Addr} {o u : HO} (h : H a = some o) (h' : H b = some u) (d : o ≠ u) : a ≠ b:=by
 intro e; subst e; rw [h] at h'; exact d (Option.some.inj h')
theorem ne_of_none {H : Hp} {a b : Addr} {o : HO} (h : H a = some o) (h' : H b = none) : a ≠ b:=by
 intro e; subst e; rw [h] at h'; cases h'
section
variable (P : Program) (w : World)
def ObjOk (H : Hp) (h : Heap) (a : Addr) : HO -> Prop
 | .lst xs => xs.length <= sizeLine /\ ∃ (its : List Value) (n : Nat), Vals xs its /\ h.get? a = some { cls:=.type "list", data:=.seq its.toArray n }
 | .tup xs => xs.length <= sizeLine /\ ∃ its : List Value, Vals xs its /\ IsTup h a its.toArray
 | .dK kvs => kvs.length <= sizeLine /\ (a == sysModules) = false /\ ∃ vs, KV kvs vs /\ h.DictOf (mixKind P w) a vs
 | .dT kvs => kvs.length <= sizeLine /\ (a == sysModules) = false /\ ∃ xs : List (List Key × Addr × Value),
   Paired (fun (p : List Key × V) (q : List Key × Addr × Value) => p.1 = q.1 /\ H q.2.1 = some (.tup (p.1.map kV)) /\ RelV p.2 q.2.2) kvs xs /\
   ∃ o es ep, h.get? a = some o /\ o.ExactDict /\ o.data = .dict es ep /\ es.toList = xs.map (entryOfKey (tupleKind (mixKind P w))) /\ (xs.map (·.1)).Nodup
 | .set S n => h.SetOf (intKind P w) a S n
 | .ins C dx fs => H dx = some (.own a) /\ fs.length <= 1000 /\ dx ≠ a /\ h.get? a = some (PySem.W.instObj C dx) /\
   ∃ mA, h.Ns1 dx mA /\ (∀ f, RelO (fs.lookup f) (mA f)) /\ PySem.Within mA (fs.map (·.1))
 | .own _ => ∃ o, h.get? a = some o
 | .xd fs => ∃ mA, h.Ns1 a mA /\ ∀ f, RelO (fs.lookup f) (mA f)
 | .rng lo hi => ∃ t u v, h.get? a = some { cls:=.type "range", data:=.fields #[.int lo t, .int hi u, .int 1 v] }
 | .frz o u => h.get? a = some o /\ ObjOk H h a u
 | .tbl ps => h.get? a = some { cls:=.none, data:=.fields ps }
 | .met f x => h.get? a = some (PySem.W.methodObj (.ref f) (.ref x))
 | .ext φ => φ h /\ (∃ o, h.get? a = some o) /\ ∀ h1 h2 : Heap, φ h1 -> (∀ o, h1.get? a = some o -> h2.get? a = some o) -> φ h2
def HOk (H : Hp) (h : Heap) : Prop:=∀ a o, H a = some o -> ObjOk P w H h a o
end
section
variable {P : Program} {w : World} {H H' : Hp} {h h' : Heap} {a : Addr} {o : HO}
theorem ObjOk.lt (x : ObjOk P w H h a o) : a < h.objs.size:=by
 cases o with
 | lst xs => obtain ⟨_, _, _, _, e⟩:=x; exact Heap.lt_size e
 | tup xs => obtain ⟨_, _, _, p⟩:=x; exact p.lt
 | dK kvs => obtain ⟨_, _, _, _, o, _, _, e, _⟩:=x; exact Heap.lt_size e
 | dT kvs => obtain ⟨_, _, _, _, o, _, _, e, _⟩:=x; exact Heap.lt_size e
 | set S n => obtain ⟨o, _, _, _, e, _⟩:=x; exact Heap.lt_size e
 | ins C dx fs => obtain ⟨_, _, _, e, _⟩:=x; exact Heap.lt_size e
 | own y => obtain ⟨_, e⟩:=x; exact Heap.lt_size e
 | xd fs => obtain ⟨_, ⟨_, _, _, e, _⟩, _⟩:=x; exact Heap.lt_size e
 | rng lo hi => obtain ⟨_, _, _, e⟩:=x; exact Heap.lt_size e
 | frz ob u => obtain ⟨e, _⟩:=x; exact Heap.lt_size e
 | tbl ps => exact Heap.lt_size (show h.get? a = some _ from x)
 | met f y => exact Heap.lt_size (show h.get? a = some _ from x)
 | ext φ => obtain ⟨_, ⟨_, e⟩, _⟩:=x; exact Heap.lt_size e
theorem Paired.mapP {α β : Type} {F G : α -> β -> Prop} : ∀ {l₁ : List α} {l₂ : List β}, Paired F l₁ l₂ -> (∀ a b, F a b -> G a b) -> Paired G l₁ l₂
 | _, _, .nil, _ => .nil
 | _, _, .cons r t, f => .cons (f _ _ r) (Paired.mapP t f)
theorem ObjOk.stay (x : ObjOk P w H h a o) (k : ∀ b u, (b = a \/ H b = some (.own a)) -> h.get? b = some u -> h'.get? b = some u)
  (ho : ∀ b, H b = some (.own a) -> H' b = some (.own a)) (ht : ∀ b xs, H b = some (.tup xs) -> H' b = some (.tup xs)) : ObjOk P w H' h' a o:=by
 induction o with
 | lst xs => obtain ⟨z, its, n, r, e⟩:=x; exact ⟨z, its, n, r, k _ _ (.inl rfl) e⟩
 | tup xs => obtain ⟨z, its, r, ob, e, c⟩:=x; exact ⟨z, its, r, ob, k _ _ (.inl rfl) e, c⟩
 | dK kvs => obtain ⟨z, y, vs, r, ob, es, ep, e, c⟩:=x; exact ⟨z, y, vs, r, ob, es, ep, k _ _ (.inl rfl) e, c⟩
 | dT kvs =>
  obtain ⟨z, y, xs, r, ob, es, ep, e, c⟩:=x
  exact ⟨z, y, xs, Paired.mapP r fun p q z => ⟨z.1, ht _ _ z.2.1, z.2.2⟩, ob, es, ep, k _ _ (.inl rfl) e, c⟩
 | set S n => obtain ⟨ob, es, ep, t, e, c⟩:=x; exact ⟨ob, es, ep, t, k _ _ (.inl rfl) e, c⟩
 | ins C dx fs =>
  obtain ⟨d, z, ne, e, mA, ⟨od, es, ep, e2, c⟩, r⟩:=x
  exact ⟨ho _ d, z, ne, k _ _ (.inl rfl) e, mA, ⟨od, es, ep, k _ _ (.inr d) e2, c⟩, r⟩
 | own y => obtain ⟨ob, e⟩:=x; exact ⟨ob, k _ _ (.inl rfl) e⟩
 | xd fs => obtain ⟨mA, ⟨od, es, ep, e, c⟩, r⟩:=x; exact ⟨mA, ⟨od, es, ep, k _ _ (.inl rfl) e, c⟩, r⟩
 | rng lo hi => obtain ⟨t, u, v, e⟩:=x; exact ⟨t, u, v, k _ _ (.inl rfl) e⟩
 | frz ob u ih => obtain ⟨e, q⟩:=x; exact ⟨k _ _ (.inl rfl) e, ih q⟩
 | tbl ps =>
  have e : h.get? a = some { cls:=.none, data:=.fields ps }:=x
  show h'.get? a = some { cls:=.none, data:=.fields ps }
  exact k a _ (.inl rfl) e
 | met f y =>
  have e : h.get? a = some (PySem.W.methodObj (.ref f) (.ref y)):=x
  show h'.get? a = some (PySem.W.methodObj (.ref f) (.ref y))
  exact k a _ (.inl rfl) e
 | ext φ => obtain ⟨p, ⟨o, e⟩, st⟩:=x; exact ⟨st _ _ p fun o q => k _ _ (.inl rfl) q, ⟨o, k _ _ (.inl rfl) e⟩, st⟩
theorem HOk.lt (x : HOk P w H h) (e : H a = some o) : a < h.objs.size:=(x a o e).lt
theorem HOk.fresh (x : HOk P w H h) (e : h.objs.size <= a) : H a = none:=by
 cases q : H a with
 | none => rfl
 | some u => exact absurd (Nat.lt_of_lt_of_le (x.lt q) e) (Nat.lt_irrefl _)
theorem HOk.kept (x : HOk P w H h) (k : ∀ b u, h.get? b = some u -> h'.get? b = some u) : HOk P w H h':=fun a o e =>
 (x a o e).stay (fun b u _ q => k b u q) (fun _ q => q) fun _ _ q => q
theorem HOk.laid (x : HOk P w H h) (k : ∀ b u, h.get? b = some u -> h'.get? b = some u) (hp : h.objs.size <= a) (new : ObjOk P w (upd H a o) h' a o) : HOk P w (upd H a o) h':=fun b u e => by
 have hn:=x.fresh hp
 by_cases hb : b = a
 ·subst hb; rw [upd_same] at e; cases e; exact new
 ·rw [upd_ne hb] at e
  exact (x b u e).stay (fun c v _ q => k c v q) (fun c q => by rw [upd_ne (ne_of_none q hn)]; exact q) fun c xs q => by rw [upd_ne (ne_of_none q hn)]; exact q
end
def Rd (H : Hp) (a : Addr) (u : HO) : Prop:=H a = some u \/ ∃ o, H a = some (.frz o u)
theorem Rd.ok {P : Program} {w : World} {H : Hp} {h : Heap} {a : Addr} {u : HO} (r : Rd H a u) (x : HOk P w H h) : ObjOk P w H h a u:=by
 rcases r with r | ⟨o, r⟩
 ·exact x a u r
 ·obtain ⟨_, q⟩:=x a _ r
  exact q
def Mut : Option HO -> Prop
 | some (.lst _) => True
 | some (.dK _) => True
 | some (.dT _) => True
 | some (.set _ _) => True
 | some (.ins _ _ _) => True
 | some (.ext _) => True
 | _ => False
section
variable {P : Program} {w : World} {H : Hp} {h h' : Heap} {x e : Addr} {o' : HO}
theorem HOk.write (ok : HOk P w H h) (mu : Mut (H x)) (he : e = x \/ H e = some (.own x)) (k : ∀ b u, b ≠ e -> h.get? b = some u -> h'.get? b = some u) (heo : ∃ u, h'.get? e = some u)
  (new : ObjOk P w (upd H x o') h' x o') : HOk P w (upd H x o') h':=fun b u q => by
 have nown : ∀ c y, H c = some (.own y) -> c ≠ x:=fun c y r z => by subst z; rw [r] at mu; exact mu
 have ntup : ∀ c xs, H c = some (.tup xs) -> c ≠ x:=fun c xs r z => by subst z; rw [r] at mu; exact mu
 by_cases hb : b = x
 ·subst hb; rw [upd_same] at q; cases q; exact new
 ·rw [upd_ne hb] at q
  by_cases hbe : b = e
  ·have q' : H b = some (.own x):=by
    rcases he with z | z
    ·exact absurd (hbe.trans z) hb
    ·rw [hbe]; exact z
   rw [q] at q'; cases q'
   obtain ⟨v, hv⟩:=heo
   exact ⟨v, by rw [hbe]; exact hv⟩
  ·refine (ok b u q).stay (fun c v hc r => k c v ?_ r) (fun c r => by rw [upd_ne (nown c b r)]; exact r) fun c xs r => by rw [upd_ne (ntup c xs r)]; exact r
   rcases hc with rfl | hc
   ·exact hbe
   ·rintro rfl
    rcases he with z | z
    ·exact nown c b hc z
    ·rw [hc] at z; cases z; exact hb rfl
end
structure Un (fs ex : List Addr) (H H' : Hp) (h h' : Heap) : Prop where
 keep : ∀ b o, h.get? b = some o -> H b = none -> b ∉ fs -> b ∉ ex -> h'.get? b = some o
 slot : ∀ b o, h.get? b = some o -> H b = none -> b ∈ fs -> b ∉ ex -> ∃ sl, h'.get? b = some { o with slots:=sl }
 free : ∀ b o, h.get? b = some o -> H b = none -> b ∉ ex -> H' b = none
 there : ∀ b o, h.get? b = some o -> b ∉ ex -> ∃ o', h'.get? b = some o'
 tups : ∀ b xs, H b = some (.tup xs) -> H' b = some (.tup xs)
 frzs : ∀ b o u, H b = some (.frz o u) -> H' b = some (.frz o u)
 tbls : ∀ b ps, H b = some (.tbl ps) -> ∃ more, H' b = some (.tbl (ps ++ more))
section
variable {fs fs' ex ex' : List Addr} {H H1 H2 : Hp} {h h1 h2 h' : Heap} {a x e : Addr} {o : HO}
theorem Un.any (u : Un fs ex H H1 h h1) {b : Addr} {ob : Obj} (q : h.get? b = some ob) (n : H b = none) (hx : b ∉ ex) : ∃ sl, h1.get? b = some { ob with slots:=sl }:=by
 by_cases hb : b ∈ fs
 ·exact u.slot b ob q n hb hx
 ·exact ⟨ob.slots, u.keep b ob q n hb hx⟩
theorem Un.kept (k : ∀ b u, h.get? b = some u -> h'.get? b = some u) : Un fs ex H H h h' :=
 ⟨fun b ob q _ _ _ => k b ob q, fun b ob q _ _ _ => ⟨ob.slots, k b ob q⟩, fun _ _ _ n _ => n, fun b ob q _ => ⟨ob, k b ob q⟩, fun _ _ q => q, fun _ _ _ q => q, fun _ ps q => ⟨#[], by rw [q]; simp⟩⟩
theorem Un.refl : Un fs ex H H h h:=Un.kept fun _ _ q => q
theorem Un.laid (k : ∀ b u, h.get? b = some u -> h'.get? b = some u) (hp : h.objs.size <= a) (hn : H a = none) : Un fs ex H (upd H a o) h h' where
 keep:=fun b u q _ _ _ => k b u q
 slot:=fun b u q _ _ _ => ⟨u.slots, k b u q⟩
 free:=fun b u q n _ => by rw [upd_ne (Nat.ne_of_lt (Nat.lt_of_lt_of_le (Heap.lt_size q) hp))]; exact n
 there:=fun b u q _ => ⟨u, k b u q⟩
 tups:=fun b xs q => by rw [upd_ne (ne_of_none q hn)]; exact q
 frzs:=fun b u xs q => by rw [upd_ne (ne_of_none q hn)]; exact q
 tbls:=fun b ps q => ⟨#[], by rw [upd_ne (ne_of_none q hn), q]; simp⟩
theorem Un.write (mu : Mut (H x)) (he : e = x \/ H e = some (.own x)) (k : ∀ b u, b ≠ e -> h.get? b = some u -> h'.get? b = some u) (heo : ∃ u, h'.get? e = some u) : Un fs ex H (upd H x o) h h':=by
 have hx : ∀ b, H b = none -> b ≠ x:=fun b n z => by subst z; rw [n] at mu; exact mu
 have hb : ∀ b, H b = none -> b ≠ e:=fun b n z => by
  subst z
  rcases he with r | r
  ·exact hx b n r
  ·rw [n] at r; cases r
 have hm : ∀ b u, H b = some u -> ¬ Mut (some u) -> b ≠ x:=fun b u q nm z => by subst z; rw [q] at mu; exact nm mu
 refine ⟨fun b u q n _ _ => k b u (hb b n) q, fun b u q n _ _ => ⟨u.slots, k b u (hb b n) q⟩, fun b u q n _ => by rw [upd_ne (hx b n)]; exact n, fun b u q _ => ?_,
  fun b xs q => by rw [upd_ne (hm b _ q fun z => z)]; exact q, fun b u xs q => by rw [upd_ne (hm b _ q fun z => z)]; exact q, fun b ps q => ⟨#[], by rw [upd_ne (hm b _ q fun z => z), q]; simp⟩⟩
 by_cases hbe : b = e
 ·subst hbe; exact heo
 ·exact ⟨u, k b u hbe q⟩
end
def trk (h : Heap) (H : Hp) : List Addr:=(List.range h.objs.size).filter fun a => (H a).isSome
def hidT (h : Heap) (H : Hp) : Heap:=PySem.W.hideAll h (trk h H)
theorem hidT_size (h : Heap) (H : Hp) : (hidT h H).objs.size = h.objs.size:=PySem.W.hideAll_size _ _
theorem hidT_get {h : Heap} {H : Hp} {b : Addr} {o : Obj} (e : h.get? b = some o) (n : H b = none) : (hidT h H).get? b = some o :=
 PySem.W.hideAll_get _ e fun hm => by
  have q : (H b).isSome = true:=(List.mem_filter.mp hm).2
  rw [n] at q; simp at q
theorem of_hidT {h : Heap} {H : Hp} {b : Addr} {o : Obj} (e : (hidT h H).get? b = some o) : h.get? b = some o /\ H b = none:=by
 have e' : h.get? b = some o:=PySem.W.of_hideAll (trk h H) e
 refine ⟨e', ?_⟩
 cases q : H b with
 | none => rfl
 | some x =>
  have hm : b ∈ trk h H:=List.mem_filter.mpr ⟨List.mem_range.mpr (Heap.lt_size e'), by simp [q]⟩
  have z : (hidT h H).get? b = none:=PySem.W.hideAll_none (trk h H) hm
  rw [z] at e; cases e
end L2
namespace L2
open PySem PySem.Spec PyProof.Rows
structure Mod (K : PySem.W.Frag) (mg : Str -> Option Value) (base : Heap) : Prop where
 kin : K.In base
 glob : base.Ns mainGlobals mg
 blt : ∃ mb, base.Ns builtinsNs mb /\ ∀ x : Str, x ≠ "__name__" -> mb x = bootBuiltins x
 nolimit : base.NoLimit
structure Cx where
 prog : Program
 w : World
 K : PySem.W.Frag
 mg : Str -> Option Value
 base : Heap
 A : Around
 N : List Str
 s_0 : Shared
 H_0 : Hp
 env : Env
 outer : List Env
 stack : List Env
 ex : List Addr
 fn : Str -> Bool
 calm : Bool
 pn : List (Addr × Obj)
 xe : Value -> Shared -> Prop
def frs (l : List Env) : List Addr:=l.filterMap (·.frame)
abbrev Cx.fs (X : Cx) : List Addr:=frs X.outer
def Vis (sc : Scope) (x : Str) : Prop:=sc.names.lookup x = some .local \/ sc.names.lookup x = some .cell \/ sc.names.lookup x = some .free
def Loc (sc : Scope) (x : Str) : Prop:=sc.names.lookup x = some .local \/ sc.names.lookup x = some .cell
def Look (env : Env) (h : Heap) (m : Str -> Option Value) (x : Str) (u : Value) : Prop :=
 (env.kindOf x = some .local /\ m x = some u) \/ ((env.kindOf x = some .cell \/ env.kindOf x = some .free) /\ ∃ c, env.cells.lookup x = some c /\ h.IsCell c (some u))
structure Cx.Ok (X : Cx) : Prop where
 mod : Mod X.K X.mg X.base
 kind : X.env.scope.kind = .function
 glob : X.env.globals = mainGlobals
 blt : X.env.builtins = builtinsNs
 above : X.s_0.heap.objs.size <= X.env.locals
 inj : ∀ x y c, X.env.cells.lookup x = some c -> X.env.cells.lookup y = some c -> x = y
 has : ∀ x, (X.env.kindOf x = some .cell \/ X.env.kindOf x = some .free) -> ∃ c, X.env.cells.lookup x = some c
 cab : ∀ x c, X.fn x = true -> X.env.cells.lookup x = some c -> X.s_0.heap.objs.size <= c
 hd : X.calm = true -> X.A.handled = none
 frames : X.A.frames = some X.stack
 stk : X.stack = X.outer \/ (X.stack = X.env :: X.outer /\ X.env.frame = some X.env.locals)
 exf : ∀ b ∈ X.ex, b ≠ X.env.locals /\ ∀ x c, X.env.cells.lookup x = some c -> c ≠ b
 bs : ∀ b o, X.base.get? b = some o -> X.s_0.heap.get? b = some o /\ X.H_0 b = none
 bsz : X.base.objs.size <= X.s_0.heap.objs.size
 noex : ∀ b o, X.base.get? b = some o -> b ∉ X.ex
 exfs : ∀ b ∈ X.ex, b ∉ X.fs
 funs : X.s_0.heap.FunFrames X.base X.outer
 frf : ∀ b ∈ X.fs, X.H_0 b = none
structure Inv (X : Cx) (pins : List (Addr × Obj)) (σ : List (Option V)) (H : Hp) (s : Shared) : Prop where
 ok : X.Ok
 os : s.os = X.s_0.os
 bare : AllBare s.gens
 base : Un X.fs X.ex X.H_0 H X.s_0.heap s.heap
 loc : ∃ m, s.heap.Ns X.env.locals m /\ ∀ (i : Nat) (x : Str) (v : V), X.N[i]? = some x -> σ[i]? = some (some v) -> Vis X.env.scope x -> ∃ u, RelV v u /\ Look X.env s.heap m x u
 cell : ∀ x c, X.env.cells.lookup x = some c -> ∃ v, s.heap.IsCell c v
 free : H X.env.locals = none
 freeC : ∀ x c, X.env.cells.lookup x = some c -> H c = none
 pin : ∀ p ∈ X.pn ++ pins, s.heap.get? p.1 = some p.2 /\ H p.1 = none /\ p.1 ≠ X.env.locals /\ p.1 ∉ X.fs /\ ∀ v, p.2.data ≠ .cell v
 hok : HOk X.prog X.w H s.heap
 len : σ.length = X.N.length
section
variable {X : Cx} {pins : List (Addr × Obj)} {σ : List (Option V)} {H H' : Hp} {s : Shared} {h' : Heap}
theorem Cx.Ok.nofr (ok : X.Ok) {b : Addr} {o : Obj} (e : X.base.get? b = some o) : b ∉ X.fs:=fun hb => by
 have:=(ok.funs.mem hb).1
 rw [e] at this; cases this
theorem Inv.bs (I : Inv X pins σ H s) : ∀ b o, X.base.get? b = some o -> s.heap.get? b = some o /\ H b = none:=fun b o e =>
 ⟨I.base.keep b o (I.ok.bs b o e).1 (I.ok.bs b o e).2 (I.ok.nofr e) (I.ok.noex b o e), I.base.free b o (I.ok.bs b o e).1 (I.ok.bs b o e).2 (I.ok.noex b o e)⟩
theorem Inv.bk (I : Inv X pins σ H s) : ∀ b o, X.base.get? b = some o -> s.heap.get? b = some o:=fun b o e => (I.bs b o e).1
theorem Inv.mod (I : Inv X pins σ H s) : Mod X.K X.mg X.base:=I.ok.mod
theorem Inv.kIn (I : Inv X pins σ H s) : X.K.In s.heap:=I.ok.mod.kin.keeps I.bk
theorem Inv.fr (I : Inv X pins σ H s) : ∃ m, Fr X.base X.env.locals s.heap m :=
 let ⟨m, hn, _⟩:=I.loc
 ⟨m, hn, I.bk, Nat.le_trans I.ok.bsz I.ok.above⟩
theorem Inv.lt (I : Inv X pins σ H s) : X.env.locals < s.heap.objs.size:=let ⟨_, hn, _⟩:=I.loc; hn.lt
theorem Inv.sz (I : Inv X pins σ H s) : X.s_0.heap.objs.size <= s.heap.objs.size:=Nat.le_trans I.ok.above (Nat.le_of_lt I.lt)
theorem Inv.nofs (I : Inv X pins σ H s) {a : Addr} (h : s.heap.objs.size <= a) : a ∉ X.fs:=fun hb => by
 obtain ⟨_, o, ho, _⟩:=I.ok.funs.mem hb
 exact absurd (Nat.lt_of_lt_of_le (Heap.lt_size ho) (Nat.le_trans I.sz h)) (Nat.lt_irrefl _)
theorem Inv.cne (I : Inv X pins σ H s) : ∀ x c, X.env.cells.lookup x = some c -> c ≠ X.env.locals:=fun x c e z => by
 obtain ⟨v, o, ho, hd⟩:=I.cell x c e
 obtain ⟨m, ⟨o', es, ep, ho', hd', _⟩, _⟩:=I.loc
 rw [z, ho'] at ho; cases ho; rw [hd'] at hd; cases hd
theorem Inv.funs (I : Inv X pins σ H s) : s.heap.FunFrames X.base X.outer:=by
 have all : ∀ (l : List Env), (∀ b ∈ frs l, b ∈ X.fs) -> X.s_0.heap.FunFrames X.base l -> s.heap.FunFrames X.base l:=by
  intro l
  induction l with
  | nil => intro _ _; trivial
  | cons env r ih =>
   intro hs hl
   obtain ⟨hk, ⟨L, o, hf, hn, ho, hd⟩, hr⟩:=hl
   have hL : L ∈ X.fs:=hs L (by unfold frs; rw [List.filterMap_cons, hf]; exact List.mem_cons_self)
   obtain ⟨sl, e⟩:=I.base.slot L o ho (I.ok.frf L hL) hL fun z => I.ok.exfs L z hL
   exact ⟨hk, ⟨L, _, hf, hn, e, hd⟩, ih (fun b hb => hs b (by unfold frs; rw [List.filterMap_cons, hf]; exact List.mem_cons_of_mem _ hb)) hr⟩
 exact all X.outer (fun _ hb => hb) I.ok.funs
theorem Inv.stack (I : Inv X pins σ H s) : s.heap.FunFrames X.base X.stack:=by
 rcases I.ok.stk with e | ⟨e, hf⟩
 ·rw [e]; exact I.funs
 ·rw [e]
  obtain ⟨m, hn, _⟩:=I.loc
  refine .cons (by rw [I.ok.kind]; decide) hf hn ?_ I.funs
  exact Heap.get?_none_of_le (Nat.le_trans I.ok.bsz I.ok.above)
theorem Inv.stkSub (I : Inv X pins σ H s) : ∀ b ∈ frs X.stack, b ∈ X.env.locals :: X.fs:=fun b hb => by
 rcases I.ok.stk with e | ⟨e, hf⟩
 ·rw [e] at hb; exact List.mem_cons_of_mem _ hb
 ·rw [e] at hb
  unfold frs at hb
  rw [List.filterMap_cons, hf] at hb
  exact hb
theorem Inv.stkFree (I : Inv X pins σ H s) : ∀ b ∈ frs X.stack, H b = none:=fun b hb => by
 rcases List.mem_cons.mp (I.stkSub b hb) with e | hb
 ·rw [e]; exact I.free
 ·obtain ⟨_, o, ho, _⟩:=I.ok.funs.mem hb
  exact I.base.free b o ho (I.ok.frf b hb) fun z => I.ok.exfs b z hb
theorem Inv.step {g' : Array GenState} {t' : Nat} {d' : Drawn} {ch : List Addr} (I : Inv X pins σ H s)
  (hch : ∀ b ∈ ch, (b ∈ X.ex \/ X.s_0.heap.objs.size <= b) /\ b ≠ X.env.locals /\ (∀ x c, X.env.cells.lookup x = some c -> c ≠ b) /\ ∀ p ∈ X.pn ++ pins, p.1 ≠ b)
  (keep : ∀ b o, b ≠ X.env.locals -> b ∉ X.fs -> b ∉ ch -> s.heap.get? b = some o -> H b = none -> h'.get? b = some o)
  (slot : ∀ b o, b ≠ X.env.locals -> b ∈ X.fs -> b ∉ ch -> s.heap.get? b = some o -> H b = none -> ∃ sl, h'.get? b = some { o with slots:=sl }) (free : ∀ b o, b ∉ ch -> s.heap.get? b = some o -> H b = none -> H' b = none)
  (there : ∀ b o, b ∉ ch -> s.heap.get? b = some o -> ∃ o', h'.get? b = some o')
  (tups : ∀ b xs, H b = some (.tup xs) -> H' b = some (.tup xs)) (frzs : ∀ b o u, H b = some (.frz o u) -> H' b = some (.frz o u)) (tbls : ∀ b ps, H b = some (.tbl ps) -> ∃ more, H' b = some (.tbl (ps ++ more)))
  (ns : ∀ m, s.heap.Ns X.env.locals m -> h'.Ns X.env.locals m) (hok : HOk X.prog X.w H' h') (hg : AllBare g') :
  Inv X pins σ H' { s with heap:=h', gens:=g', drawn:=d', toks:=t' }:=by
 have neL : ∀ b o, X.s_0.heap.get? b = some o -> b ≠ X.env.locals:=fun b o e => Nat.ne_of_lt (Nat.lt_of_lt_of_le (Heap.lt_size e) I.ok.above)
 have neC : ∀ b o, X.s_0.heap.get? b = some o -> b ∉ X.ex -> b ∉ ch:=fun b o e hx hb => by
  rcases (hch b hb).1 with z | z
  ·exact hx z
  ·exact absurd (Nat.lt_of_lt_of_le (Heap.lt_size e) z) (Nat.lt_irrefl _)
 have cellK : ∀ x c, X.env.cells.lookup x = some c -> ∀ v, s.heap.IsCell c v -> h'.IsCell c v:=fun x c e v ⟨o, ho, hd⟩ => by
  have nch : c ∉ ch:=fun z => (hch c z).2.2.1 x c e rfl
  by_cases hc : c ∈ X.fs
  ·obtain ⟨sl, q⟩:=slot c o (I.cne x c e) hc nch ho (I.freeC x c e)
   exact ⟨_, q, hd⟩
  ·exact ⟨o, keep c o (I.cne x c e) hc nch ho (I.freeC x c e), hd⟩
 refine ⟨I.ok, I.os, hg, ⟨fun b o e n hb hx => ?_, fun b o e n hb hx => ?_, fun b o e n hx => ?_, fun b o e hx => ?_, fun b xs e => tups b xs (I.base.tups b xs e), fun b o xs e => frzs b o xs (I.base.frzs b o xs e), fun b ps e => ?_⟩, ?_, fun x c e => ?_, ?_, fun x c e => ?_, fun p hp => ?_, hok, I.len⟩
 ·exact keep b o (neL b o e) hb (neC b o e hx) (I.base.keep b o e n hb hx) (I.base.free b o e n hx)
 ·obtain ⟨sl, e1⟩:=I.base.slot b o e n hb hx
  obtain ⟨sl', e2⟩:=slot b _ (neL b o e) hb (neC b o e hx) e1 (I.base.free b o e n hx)
  exact ⟨sl', e2⟩
 ·obtain ⟨o', e1⟩:=I.base.there b o e hx
  exact free b o' (neC b o e hx) e1 (I.base.free b o e n hx)
 ·obtain ⟨o', e1⟩:=I.base.there b o e hx
  exact there b o' (neC b o e hx) e1
 ·obtain ⟨m1, e1⟩:=I.base.tbls b ps e
  obtain ⟨m2, e2⟩:=tbls b _ e1
  exact ⟨m1 ++ m2, by rw [e2, Array.append_assoc]⟩
 ·obtain ⟨m, hn, hl⟩:=I.loc
  refine ⟨m, ns m hn, fun i x v e1 e2 e3 => ?_⟩
  obtain ⟨u, r, l⟩:=hl i x v e1 e2 e3
  refine ⟨u, r, ?_⟩
  rcases l with l | ⟨k, c, e, z⟩
  ·exact .inl l
  ·exact .inr ⟨k, c, e, cellK x c e _ z⟩
 ·obtain ⟨v, z⟩:=I.cell x c e
  exact ⟨v, cellK x c e v z⟩
 ·obtain ⟨m, ⟨o, _, _, ho, _⟩, _⟩:=I.loc
  exact free _ o (fun z => (hch _ z).2.1 rfl) ho I.free
 ·obtain ⟨v, o, ho, hd⟩:=I.cell x c e
  exact free c o (fun z => (hch c z).2.2.1 x c e rfl) ho (I.freeC x c e)
 ·obtain ⟨e, n, ne, nf, d⟩:=I.pin p hp
  have nch : p.1 ∉ ch:=fun z => (hch p.1 z).2.2.2 p hp rfl
  exact ⟨keep p.1 p.2 ne nf nch e n, free p.1 p.2 nch e n, ne, nf, d⟩
theorem Inv.un {t' : Nat} (I : Inv X pins σ H s) (u : Un X.fs [] H H' s.heap h') (hok : HOk X.prog X.w H' h') : Inv X pins σ H' { s with heap:=h', toks:=t' }:=by
 obtain ⟨m, ⟨o, es, ep, ho, r⟩, _⟩:=id I.loc
 obtain ⟨sl, hL⟩:=u.any ho I.free (by simp)
 exact I.step (g':=s.gens) (d':=s.drawn) (ch:=[]) (fun _ z => nomatch z) (fun b o _ hb _ e n => u.keep b o e n hb (by simp)) (fun b o _ hb _ e n => u.slot b o e n hb (by simp)) (fun b o _ e n => u.free b o e n (by simp)) (fun b o _ e => u.there b o e (by simp)) u.tups u.frzs u.tbls (fun m' hm => by
  obtain ⟨o', es', ep', ho', r'⟩:=hm
  rw [ho] at ho'; cases ho'
  exact ⟨_, es', ep', hL, r'⟩) hok I.bare
theorem Inv.call {g' : Array GenState} {t' : Nat} {d' : Drawn} {ch : List Addr} (I : Inv X pins σ H s) (u : Un (frs X.stack) ch H H' s.heap h') (hok : HOk X.prog X.w H' h') (hg : AllBare g')
  (hch : ∀ b ∈ ch, (b ∈ X.ex \/ X.s_0.heap.objs.size <= b) /\ b ≠ X.env.locals /\ (∀ x c, X.env.cells.lookup x = some c -> c ≠ b) /\ ∀ p ∈ X.pn ++ pins, p.1 ≠ b) :
  Inv X pins σ H' { s with heap:=h', gens:=g', drawn:=d', toks:=t' }:=by
 obtain ⟨m, ⟨o, es, ep, ho, r⟩, _⟩:=id I.loc
 obtain ⟨sl, hL⟩:=u.any ho I.free fun z => (hch _ z).2.1 rfl
 exact I.step (ch:=ch) hch (fun b o hL hb hc e n => u.keep b o e n (fun z => (List.mem_cons.mp (I.stkSub b z)).elim hL hb) hc) (fun b o _ _ hc e n => u.any e n hc) (fun b o hc e n => u.free b o e n hc) (fun b o hc e => u.there b o e hc) u.tups u.frzs u.tbls (fun m' hm => by
  obtain ⟨o', es', ep', ho', r'⟩:=hm
  rw [ho] at ho'; cases ho'
  exact ⟨_, es', ep', hL, r'⟩) hok hg
theorem Inv.turned {t' : Nat} {it : Addr} (I : Inv X pins σ H s) (k : ∀ b o, b ≠ it -> s.heap.get? b = some o -> h'.get? b = some o) (hn : H it = none) (hL : it ≠ X.env.locals)
  (h1 : it ∈ X.ex \/ X.s_0.heap.objs.size <= it) (h2 : ∀ x c, X.env.cells.lookup x = some c -> c ≠ it) (h3 : ∀ p ∈ X.pn ++ pins, p.1 ≠ it) : Inv X pins σ H { s with heap:=h', toks:=t' }:=by
 have nit : ∀ b u, H b = some u -> b ≠ it:=fun b u e z => by rw [z, hn] at e; cases e
 refine I.step (g':=s.gens) (d':=s.drawn) (ch:=[it]) (fun b hb => ?_) (fun b o _ _ hc e _ => k b o (fun z => hc (by simp [z])) e) (fun b o _ _ hc e _ => ⟨o.slots, k b o (fun z => hc (by simp [z])) e⟩) (fun _ _ _ _ n => n)
  (fun b o hc e => ⟨o, k b o (fun z => hc (by simp [z])) e⟩) (fun _ _ e => e) (fun _ _ _ e => e) (fun b ps e => ⟨#[], by rw [e]; simp⟩) (fun m hm => ?_) (fun b u e => ?_) I.bare
 ·have e : b = it:=by simpa using hb
  subst e
  exact ⟨h1, hL, h2, h3⟩
 ·obtain ⟨o, es, ep, ho, r⟩:=hm
  exact ⟨o, es, ep, k _ o (Ne.symm hL) ho, r⟩
 ·refine (I.hok b u e).stay (fun c v hc q => k c v ?_ q) (fun _ q => q) fun _ _ q => q
  rcases hc with z | z
  ·rw [z]; exact nit b u e
  ·exact nit c _ z
theorem Inv.tok (I : Inv X pins σ H s) (t : Nat) : Inv X pins σ H { s with toks:=t }:=I.un (h':=s.heap) (t':=t) Un.refl I.hok
theorem Inv.kept {t' : Nat} (I : Inv X pins σ H s) (k : ∀ b u, s.heap.get? b = some u -> h'.get? b = some u) : Inv X pins σ H { s with heap:=h', toks:=t' }:=I.un (Un.kept k) (I.hok.kept k)
theorem Inv.laid {a : Addr} {o : HO} {t' : Nat} (I : Inv X pins σ H s) (k : ∀ b u, s.heap.get? b = some u -> h'.get? b = some u) (hp : s.heap.objs.size <= a) (new : ObjOk X.prog X.w (upd H a o) h' a o) :
  Inv X pins σ (upd H a o) { s with heap:=h', toks:=t' }:=I.un (Un.laid k hp (I.hok.fresh hp)) (I.hok.laid k hp new)
theorem Inv.write {x e : Addr} {o : HO} {t' : Nat} (I : Inv X pins σ H s) (mu : Mut (H x)) (he : e = x \/ H e = some (.own x)) (k : ∀ b u, b ≠ e -> s.heap.get? b = some u -> h'.get? b = some u) (heo : ∃ u, h'.get? e = some u)
  (new : ObjOk X.prog X.w (upd H x o) h' x o) : Inv X pins σ (upd H x o) { s with heap:=h', toks:=t' }:=I.un (Un.write mu he k heo) (I.hok.write mu he k heo new)
theorem Inv.weak {σ' : List (Option V)} (I : Inv X pins σ H s) (hl : σ'.length = σ.length) (w : ∀ (i : Nat) v, σ'[i]? = some (some v) -> σ[i]? = some (some v)) : Inv X pins σ' H s :=
 ⟨I.ok, I.os, I.bare, I.base, let ⟨m, hn, hl'⟩:=I.loc; ⟨m, hn, fun i x v e1 e2 e3 => hl' i x v e1 (w i v e2) e3⟩, I.cell, I.free, I.freeC, I.pin, I.hok, hl.trans I.len⟩
theorem Inv.pins_of {pins' : List (Addr × Obj)} (I : Inv X pins σ H s) (h : ∀ p ∈ pins', s.heap.get? p.1 = some p.2 /\ H p.1 = none /\ p.1 ≠ X.env.locals /\ p.1 ∉ X.fs /\ ∀ v, p.2.data ≠ .cell v) : Inv X pins' σ H s :=
 ⟨I.ok, I.os, I.bare, I.base, I.loc, I.cell, I.free, I.freeC, fun p hp => (List.mem_append.mp hp).elim (fun z => I.pin p (List.mem_append_left _ z)) (h p), I.hok, I.len⟩
theorem nodup_ix {N : List Str} (hN : N.Nodup) {i j : Nat} {x : Str} (a : N[i]? = some x) (b : N[j]? = some x) : i = j:=by
 obtain ⟨h1, e1⟩:=List.getElem?_eq_some_iff.mp a
 obtain ⟨h2, e2⟩:=List.getElem?_eq_some_iff.mp b
 exact (List.getElem_inj hN).mp (e1.trans e2.symm)
theorem store_ok2 {M : Model} {A : Around} {E : Value -> Shared -> Prop} {i : Nat} {x : Str} {v : V} {u : Value} {Q : Unit -> Shared -> Prop} (I : Inv X pins σ H s) (hN : X.N.Nodup) (hi : X.N[i]? = some x) (hx : Loc X.env.scope x) (r : RelV v u)
  (h : ∀ s', Inv X pins (σ.set i (some v)) H s' -> (∃ a, Heap.SameBut a s.heap s'.heap /\ (a = X.env.locals \/ X.env.cells.lookup x = some a)) -> Q () s') (hf : X.fn x = true \/ X.env.scope.names.lookup x = some .local:=by first | exact .inl rfl | exact .inr rfl | assumption) : wpAny M A (storeName X.env x u) Q E s:=by
 obtain ⟨m, hn, hl⟩:=id I.loc
 have hcls : (X.env.scope.kind == .class || (X.env.scope.kind == .module && X.env.locals != X.env.globals)) = false:=by rw [I.ok.kind]; rfl
 have hiσ : i < σ.length:=by rw [I.len]; exact (List.getElem?_eq_some_iff.mp hi).1
 have cne:=I.cne
 have tracked : ∀ {a : Addr} {h' : Heap}, (∃ o, s.heap.get? a = some o /\ H a = none) -> Heap.SameBut a s.heap h' -> HOk X.prog X.w H h':=fun {a h'} ha hs b ob e => by
  obtain ⟨_, _, hfree⟩:=ha
  refine (I.hok b ob e).stay (fun c w' hc q => (hs.2 c ?_).trans q) (fun _ q => q) fun _ _ q => q
  rintro rfl
  rcases hc with rfl | hc
  ·rw [hfree] at e; cases e
  ·rw [hfree] at hc; cases hc
 rcases hx with hk | hk
 ·refine wpAny_storeName_local hk hn (fun h' hn' hs => ?_) hcls
  obtain ⟨oL, _, _, hoL, _⟩:=id hn
  refine h _ ⟨I.ok, I.os, I.bare, ⟨fun b o e n hb hx => ?_, fun b o e n hb hx => ?_, I.base.free, fun b o e hx => ?_, I.base.tups, I.base.frzs, I.base.tbls⟩, ⟨_, hn', fun j y v' e1 e2 e3 => ?_⟩, fun y c e => ?_, I.free, I.freeC, fun p hp => ?_, tracked ⟨oL, hoL, I.free⟩ hs, by simpa using I.len⟩ ⟨_, hs, .inl rfl⟩
  ·exact (hs.2 b (Nat.ne_of_lt (Nat.lt_of_lt_of_le (Heap.lt_size e) I.ok.above))).trans (I.base.keep b o e n hb hx)
  ·obtain ⟨sl, e1⟩:=I.base.slot b o e n hb hx
   exact ⟨sl, (hs.2 b (Nat.ne_of_lt (Nat.lt_of_lt_of_le (Heap.lt_size e) I.ok.above))).trans e1⟩
  ·obtain ⟨o', e1⟩:=I.base.there b o e hx
   exact ⟨o', (hs.2 b (Nat.ne_of_lt (Nat.lt_of_lt_of_le (Heap.lt_size e) I.ok.above))).trans e1⟩
  ·by_cases hj : j = i
   ·subst hj
    rw [hi] at e1; cases e1
    rw [List.getElem?_set_self hiσ] at e2
    cases e2
    exact ⟨u, r, .inl ⟨hk, by simp⟩⟩
   ·rw [List.getElem?_set_ne (Ne.symm hj)] at e2
    obtain ⟨u', r', q⟩:=hl j y v' e1 e2 e3
    refine ⟨u', r', ?_⟩
    rcases q with ⟨k, e⟩ | ⟨k, c, e, z⟩
    ·refine .inl ⟨k, ?_⟩
     have : y ≠ x:=fun e => hj (nodup_ix hN e1 (e ▸ hi))
     simp [this, e]
    ·exact .inr ⟨k, c, e, z.sameBut hs (cne y c e)⟩
  ·obtain ⟨w', z⟩:=I.cell y c e
   exact ⟨w', z.sameBut hs (cne y c e)⟩
  ·obtain ⟨e, n, ne, nf, d⟩:=I.pin p hp
   exact ⟨(hs.2 p.1 ne).trans e, n, ne, nf, d⟩
 ·have hfn : X.fn x = true:=by
   rcases hf with z | z
   ·exact z
   ·rw [z] at hk; cases hk
  obtain ⟨c, hc⟩:=I.ok.has x (.inl hk)
  obtain ⟨w', z⟩:=I.cell x c hc
  refine wpAny_storeName_cell I.ok.kind hk hc z (fun h' hc' hs => ?_)
  obtain ⟨oc, hoc, hocd⟩:=id z
  refine h { s with heap:=h' } ⟨I.ok, I.os, I.bare, ⟨fun b o e n hb hx => ?_, fun b o e n hb hx => ?_, I.base.free, fun b o e hx => ?_, I.base.tups, I.base.frzs, I.base.tbls⟩, ⟨m, hn.sameBut hs (Ne.symm (cne x c hc)), fun j y v' e1 e2 e3 => ?_⟩, fun y c' e => ?_, I.free, I.freeC, fun p hp => ?_, tracked ⟨oc, hoc, I.freeC x c hc⟩ hs, by simpa using I.len⟩ ⟨c, hs, .inr hc⟩
  ·exact (hs.2 b (Nat.ne_of_lt (Nat.lt_of_lt_of_le (Heap.lt_size e) (I.ok.cab x c hfn hc)))).trans (I.base.keep b o e n hb hx)
  ·obtain ⟨sl, e1⟩:=I.base.slot b o e n hb hx
   exact ⟨sl, (hs.2 b (Nat.ne_of_lt (Nat.lt_of_lt_of_le (Heap.lt_size e) (I.ok.cab x c hfn hc)))).trans e1⟩
  ·obtain ⟨o', e1⟩:=I.base.there b o e hx
   exact ⟨o', (hs.2 b (Nat.ne_of_lt (Nat.lt_of_lt_of_le (Heap.lt_size e) (I.ok.cab x c hfn hc)))).trans e1⟩
  ·by_cases hj : j = i
   ·subst hj
    rw [hi] at e1; cases e1
    rw [List.getElem?_set_self hiσ] at e2
    cases e2
    exact ⟨u, r, .inr ⟨.inl hk, c, hc, hc'⟩⟩
   ·rw [List.getElem?_set_ne (Ne.symm hj)] at e2
    obtain ⟨u', r', q⟩:=hl j y v' e1 e2 e3
    refine ⟨u', r', ?_⟩
    rcases q with q | ⟨k, c', e, z'⟩
    ·exact .inl q
    ·refine .inr ⟨k, c', e, z'.sameBut hs ?_⟩
     rintro rfl
     exact hj (nodup_ix hN e1 (I.ok.inj _ _ _ e hc ▸ hi))
  ·by_cases hcc : c' = c
   ·subst hcc; exact ⟨_, hc'⟩
   ·obtain ⟨w2, z2⟩:=I.cell y c' e
    exact ⟨w2, z2.sameBut hs hcc⟩
  ·obtain ⟨e, n, ne, nf, d⟩:=I.pin p hp
   refine ⟨(hs.2 p.1 ?_).trans e, n, ne, nf, d⟩
   intro q
   rw [q, hoc] at e
   have q' : oc = p.2:=Option.some.inj e
   exact d w' (by rw [<- q']; exact hocd)
theorem store_ok {M : Model} {A : Around} {E : Value -> Shared -> Prop} {i : Nat} {x : Str} {v : V} {u : Value} {Q : Unit -> Shared -> Prop} (I : Inv X pins σ H s) (hN : X.N.Nodup) (hi : X.N[i]? = some x) (hx : Loc X.env.scope x) (r : RelV v u)
  (h : ∀ s', Inv X pins (σ.set i (some v)) H s' -> Q () s') (hf : X.fn x = true \/ X.env.scope.names.lookup x = some .local:=by first | exact .inl rfl | exact .inr rfl | assumption) : wpAny M A (storeName X.env x u) Q E s :=
 store_ok2 I hN hi hx r (fun s' I' _ => h s' I') hf
theorem Inv.call' {s' : Shared} {ch : List Addr} (I : Inv X pins σ H s) (ho : s'.os = s.os) (u : Un (frs X.stack) ch H H' s.heap s'.heap) (hok : HOk X.prog X.w H' s'.heap) (hg : AllBare s'.gens)
  (hch : ∀ b ∈ ch, (b ∈ X.ex \/ X.s_0.heap.objs.size <= b) /\ b ≠ X.env.locals /\ (∀ x c, X.env.cells.lookup x = some c -> c ≠ b) /\ ∀ p ∈ X.pn ++ pins, p.1 ≠ b) : Inv X pins σ H' s':=by
 obtain ⟨h', g', d', t', o'⟩:=s'
 have e : o' = s.os:=ho
 subst e
 exact I.call (g':=g') (t':=t') (d':=d') u hok hg hch
end
abbrev XK:=Value -> Option Addr -> Hp -> Prop
abbrev St:=List (Option V)
abbrev VK:=V -> Hp -> Prop
abbrev TE:=St -> Hp -> VK -> Prop
abbrev TT:=St -> Hp -> (Bool -> Hp -> Prop) -> Prop
abbrev TA:=St -> Hp -> (List V -> Hp -> Prop) -> Prop
structure Ends where
 nx : St -> Hp -> Prop
 rt : VK
 bk : St -> Hp -> Prop:=fun _ _ => False
 ct : St -> Hp -> Prop:=fun _ _ => False
abbrev TS:=Ends -> St -> Hp -> Prop
def EP (X : Cx) (pins : List (Addr × Obj)) (σ : St) (Q : VK) (u : Value) (s' : Shared) : Prop:=∃ v H', Inv X pins σ H' s' /\ RelV v u /\ Q v H'
def TP (X : Cx) (pins : List (Addr × Obj)) (σ : St) (Q : Bool -> Hp -> Prop) (b : Bool) (s' : Shared) : Prop:=∃ H', Inv X pins σ H' s' /\ Q b H'
def AP (X : Cx) (pins : List (Addr × Obj)) (σ : St) (Q : List V -> Hp -> Prop) (us : List Value) (s' : Shared) : Prop:=∃ vs H', Inv X pins σ H' s' /\ Vals vs us /\ Q vs H'
def SP (X : Cx) (pins : List (Addr × Obj)) (D : Ends) (f : Flow) (s' : Shared) : Prop :=
 match f with
 | .next => ∃ σ' H', Inv X pins σ' H' s' /\ D.nx σ' H'
 | .brk => ∃ σ' H', Inv X pins σ' H' s' /\ D.bk σ' H'
 | .cont => ∃ σ' H', Inv X pins σ' H' s' /\ D.ct σ' H'
 | .ret u => ∃ v σ' H', Inv X pins σ' H' s' /\ RelV v u /\ D.rt v H'
def PE (X : Cx) (e : Expr) (t : TE) : Prop :=
 ∀ (pins : List (Addr × Obj)) (s : Shared) (σ : St) (H : Hp) (Q : VK), Inv X pins σ H s -> t σ H Q -> wpAny (model X.prog X.w) X.A (eval e X.env) (EP X pins σ Q) X.xe s
def PT (X : Cx) (e : Expr) (t : TT) : Prop :=
 ∀ (pins : List (Addr × Obj)) (s : Shared) (σ : St) (H : Hp) (Q : Bool -> Hp -> Prop), Inv X pins σ H s -> t σ H Q -> wpAny (model X.prog X.w) X.A (isTrue e X.env (eval e X.env)) (TP X pins σ Q) X.xe s
def PW (X : Cx) (e : Expr) (t : TT) : Prop :=
 ∀ (whole : Sem Value) (pins : List (Addr × Obj)) (s : Shared) (σ : St) (H : Hp) (Q : Bool -> Hp -> Prop), Inv X pins σ H s -> t σ H Q -> wpAny (model X.prog X.w) X.A (isTrue e X.env whole) (TP X pins σ Q) X.xe s
theorem PW.pt {X : Cx} {e : Expr} {t : TT} (h : PW X e t) : PT X e t:=h _
def PA (X : Cx) (es : List Expr) (t : TA) : Prop :=
 ∀ (pos : Pos) (pins : List (Addr × Obj)) (s : Shared) (σ : St) (H : Hp) (Q : List V -> Hp -> Prop), Inv X pins σ H s -> t σ H Q -> wpAny (model X.prog X.w) X.A (spliced (backTo pos (starEach es X.env))) (AP X pins σ Q) X.xe s
def PS (X : Cx) (st : Stmt) (t : TS) : Prop :=
 ∀ (pins : List (Addr × Obj)) (s : Shared) (σ : St) (H : Hp) (D : Ends), Inv X pins σ H s -> t D σ H -> wpAny (model X.prog X.w) X.A (exec st X.env) (SP X pins D) X.xe s
def PSs (X : Cx) (st : List Stmt) (t : TS) : Prop :=
 ∀ (pins : List (Addr × Obj)) (s : Shared) (σ : St) (H : Hp) (D : Ends), Inv X pins σ H s -> t D σ H -> wpAny (model X.prog X.w) X.A (execs st X.env) (SP X pins D) X.xe s
theorem thn {α : Type} {t : Sem α} {Q Q' : α -> Shared -> Prop} {M : Model} {A : Around} {E : Value -> Shared -> Prop} {s : Shared} (h : wpAny M A t Q E s) (hQ : ∀ a s, Q a s -> Q' a s) : wpAny M A t Q' E s:=wpAny_mono h hQ fun _ _ x => x
end L2
namespace L2
open PySem PySem.Spec PyProof.Rows
section
variable {X : Cx}
theorem bin {a b : Expr} {ta tb : TE} (ha : PE X a ta) (hb : PE X b tb) {pins : List (Addr × Obj)} {s : Shared} {σ : St} {H : Hp} {R : V -> V -> Hp -> Prop} (I : Inv X pins σ H s) (h : ta σ H fun x H1 => tb σ H1 fun y H2 => R x y H2)
  {α : Type} {Q : α -> Shared -> Prop} {f : Value -> Value -> Sem α}
  (hf : ∀ v u s2 x y H2, Inv X pins σ H2 s2 -> RelV x v -> RelV y u -> R x y H2 -> wpAny (model X.prog X.w) X.A (f v u) Q X.xe s2) :
  wpAny (model X.prog X.w) X.A (eval a X.env) (fun v s₁ => wpAny (model X.prog X.w) X.A (eval b X.env) (fun u s₂ => wpAny (model X.prog X.w) X.A (f v u) Q X.xe s₂) X.xe s₁) X.xe s:=by
 refine thn (ha pins s σ H _ I h) fun v s1 ⟨x, H1, I1, r1, q1⟩ => ?_
 refine thn (hb pins s1 σ H1 _ I1 q1) fun u s2 ⟨y, H2, I2, r2, q2⟩ => ?_
 exact hf v u s2 x y H2 I2 r1 r2 q2
def tVar (i : Nat) : TE:=fun σ H Q => ∃ v, σ[i]? = some (some v) /\ Q v H
def tC (v : V) : TE:=fun _ H Q => Q v H
theorem pe_var {i : Nat} {x : Str} {pos : Pos} (hN : X.N[i]? = some x) (hv : Vis X.env.scope x) (hd : (x == ("__debug__" : Str)) = false:=by decide) (hcd : (x == ("__classdict__" : Str)) = false:=by decide) : PE X (.Name x pos) (tVar i):=by
 intro pins s σ H Q I h
 obtain ⟨v, e, h⟩:=h
 obtain ⟨m, hn, hl⟩:=I.loc
 obtain ⟨u, r, l⟩:=hl i x v hN e hv
 have fin : EP X pins σ Q u s:=⟨v, H, I, r, h⟩
 rcases l with ⟨hk, hm⟩ | ⟨hk, c, hc, hcell⟩
 ·exact wpAny_Name (wpAny_loadName_local I.ok.kind hk hn hm fin) hd
 ·rcases hk with hk | hk
  ·exact wpAny_Name (wpAny_loadName_cell I.ok.kind hk hc hcell fin) hd
  ·exact wpAny_Name (wpAny_loadName_free I.ok.kind hk hc hcell fin hcd) hd
theorem pe_int {i j pos} : PE X (.Constant (.int i) j pos) (tC (.int i)):=fun _ _ _ H _ I h => wpAny_Constant_int ⟨.int i, H, I.tok _, ⟨_, rfl⟩, h⟩
theorem pe_bl {b j pos} : PE X (.Constant (.bool b) j pos) (tC (.bl b)):=fun _ _ _ H _ I h => Constant_bool ⟨.bl b, H, I, rfl, h⟩
def Gl (X : Cx) (x : Str) : Prop:=X.env.kindOf x = some .globalImplicit
theorem ld_glob {E : Value -> Shared -> Prop} {pins : List (Addr × Obj)} {s : Shared} {σ : St} {H : Hp} {x : Str} {u : Value} {pos : Pos} {Q : Value -> Shared -> Prop} (I : Inv X pins σ H s) (hg : Gl X x) (hm : X.mg x = some u) (h : Q u s)
  (hd : (x == ("__debug__" : Str)) = false:=by decide) : wpAny (model X.prog X.w) X.A (eval (.Name x pos) X.env) Q E s :=
 Calls.Name_function_global I.ok.kind hg (Calls.loadGlobal_global (by rw [I.ok.glob]; exact I.mod.glob.keeps I.bk) hm h) hd
theorem ld_blt {E : Value -> Shared -> Prop} {pins : List (Addr × Obj)} {s : Shared} {σ : St} {H : Hp} {x : Str} {u : Value} {pos : Pos} {Q : Value -> Shared -> Prop} (I : Inv X pins σ H s) (hg : Gl X x) (hm : X.mg x = none) (hv : bootBuiltins x = some u) (h : Q u s)
  (hn : x ≠ "__name__":=by decide) (hd : (x == ("__debug__" : Str)) = false:=by decide) : wpAny (model X.prog X.w) X.A (eval (.Name x pos) X.env) Q E s:=by
 obtain ⟨mb, h1, h2⟩:=I.mod.blt
 exact Calls.Name_function_global I.ok.kind hg (Calls.loadGlobal_builtin (by rw [I.ok.glob]; exact I.mod.glob.keeps I.bk) hm (by rw [I.ok.blt]; exact h1.keeps I.bk) ((h2 x hn).trans hv) h) hd
theorem pe_glob {x : Str} {v : V} {u : Value} {pos : Pos} (hg : Gl X x) (hm : X.mg x = some u) (r : RelV v u) (hd : (x == ("__debug__" : Str)) = false:=by decide) : PE X (.Name x pos) (tC v) :=
 fun _ _ _ H _ I h => ld_glob I hg hm ⟨v, H, I, r, h⟩ hd
variable {a b : Expr} {ta tb : TE} {pos : Pos}
def PC (X : Cx) (op : CmpOp) (a b : Expr) (t : TE) : Prop :=
 ∀ (pins : List (Addr × Obj)) (s : Shared) (σ : St) (H : Hp) (Q : VK), Inv X pins σ H s -> t σ H Q ->
  wpAny (model X.prog X.w) X.A (eval a X.env) (fun v s₁ => wpAny (model X.prog X.w) X.A (eval b X.env) (fun u s₂ => wpAny (model X.prog X.w) X.A (compareOp op v u) (EP X pins σ Q) X.xe s₂) X.xe s₁) X.xe s
def tB (t : TE) : TT:=fun σ H Q => t σ H fun x H1 => ∃ c, x = .bl c /\ Q c H1
theorem pt_cmp {op : CmpOp} {t : TE} (h : PC X op a b t) (h1 : behindInMarks op b = false:=by first | exact nobehind _ (by decide) (by decide) | rfl) : PT X (.Compare a [op] [b] pos) (tB t):=by
 intro pins s σ H Q I hw
 refine wpAny_isTrue_Compare1 (thn (h pins s σ H _ I hw) fun v s1 h1 => thn h1 fun u s2 h2 => thn h2 fun c s3 ⟨x, H1, I1, r1, q1⟩ => ?_) h1
 obtain ⟨d, rfl, q⟩:=q1
 cases r1
 exact wpAny_truthy_bool ⟨H1, I1, q⟩
theorem pt_val {e : Expr} {t : TE} (h : PE X e t) (he : ∀ whole, isTrue e X.env whole = (do let v <- whole; standAt e.pos; holding [v] (truthy v)):=by intro _; rfl) : PT X e (tB t):=by
 intro pins s σ H Q I hw
 refine isTrue_plain (thn (h pins s σ H _ I hw) fun v s1 ⟨x, H1, I1, r1, q1⟩ => ?_) (he _)
 obtain ⟨d, rfl, q⟩:=q1
 cases r1
 exact wpAny_truthy_bool ⟨H1, I1, q⟩
variable {tA tB' : TT} {rest : List Expr}
def tOr (t u : TT) : TT:=fun σ H Q => t σ H fun c H1 => if c = true then Q true H1 else u σ H1 Q
def tNot (t : TT) : TT:=fun σ H Q => t σ H fun c H1 => Q (!c) H1
theorem pw_or1 (ha : PT X a tA) : PW X (.BoolOp .Or [a] pos) tA:=by
 intro wh pins s σ H Q I h
 refine isTrue_or (thn (ha pins s σ H Q I h) fun c s1 e => ?_)
 cases c with
 | false => exact isTrue_or_nil e
 | true => exact e
theorem pw_or (ha : PT X a tA) (hb : PW X (.BoolOp .Or (b :: rest) pos) tB') : PW X (.BoolOp .Or (a :: b :: rest) pos) (tOr tA tB'):=by
 intro wh pins s σ H Q I h
 refine isTrue_or (thn (ha pins s σ H _ I h) fun c s1 ⟨H1, I1, q1⟩ => ?_)
 cases c with
 | true => exact ⟨H1, I1, q1⟩
 | false => exact hb wh pins s1 σ H1 Q I1 q1
theorem pt_not (ha : PT X a tA) : PT X (.UnaryOp .Not a pos) (tNot tA):=by
 intro pins s σ H Q I h
 exact isTrue_not (ha pins s σ H (fun c H1 => Q (!c) H1) I h)
def tAndV (ta tb : TE) : TE:=fun σ H Q => ta σ H fun x H1 => ∃ c, x = .bl c /\ if c = true then tb σ H1 Q else Q (.bl false) H1
theorem pe_one {op} {t : TE} (h : PE X a t) : PE X (.BoolOp op [a] pos) t:=fun pins s σ H Q I hw => BoolOp_one (h pins s σ H Q I hw)
theorem pe_and (ha : PE X a ta) (hb : PE X (.BoolOp .And (b :: rest) pos) tb) : PE X (.BoolOp .And (a :: b :: rest) pos) (tAndV ta tb):=by
 intro pins s σ H Q I h
 refine BoolOp_and (thn (ha pins s σ H _ I h) fun v s1 ⟨x, H1, I1, r1, q1⟩ => ?_)
 obtain ⟨c, rfl, q1⟩:=q1
 cases r1
 refine wpAny_truthy_bool ?_
 cases c with
 | true => exact hb pins s1 σ H1 Q I1 q1
 | false => exact ⟨.bl false, H1, I1, rfl, q1⟩
def tIf (t : TT) (ta tb : TE) : TE:=fun σ H Q => t σ H fun c H1 => if c = true then ta σ H1 Q else tb σ H1 Q
theorem pe_ifExp {c : Expr} (hc : PT X c tA) (ha : PE X a ta) (hb : PE X b tb) : PE X (.IfExp c a b pos) (tIf tA ta tb):=by
 intro pins s σ H Q I h
 refine wpAny_IfExp (thn (hc pins s σ H _ I h) fun d s1 ⟨H1, I1, q1⟩ => ?_)
 cases d with
 | true => exact ha pins s1 σ H1 Q I1 q1
 | false => exact hb pins s1 σ H1 Q I1 q1
end
end L2
namespace L2
open PySem PySem.Spec PyProof.Rows
def SqL (K : PySem.W.Frag) (H : Hp) (a : Addr) (xs : List V) : Prop :=
 Rd H a (.lst xs) \/
  ∃ (o : Obj) (its : Array Value) (n : Nat), K.lookup a = some o /\ o.cls = .type "list" /\ o.dict = none /\ o.data = .seq its n /\ its.size <= sizeLine /\ Vals xs its.toList
def SqT (K : PySem.W.Frag) (H : Hp) (a : Addr) (xs : List V) : Prop :=
 Rd H a (.tup xs) \/
  ∃ (o : Obj) (its : Array Value) (n : Nat), K.lookup a = some o /\ o.cls = .type "tuple" /\ o.data = .seq its n /\ its.size <= sizeLine /\ Vals xs its.toList
def absV : Value -> Option V
 | .none => some .non
 | .bool b => some (.bl b)
 | .int i _ => some (.int i)
 | .str x _ => some (.str x)
 | .bytes b _ => some (.byt b)
 | .float b _ => some (.flt b)
 | .ref a => some (.ref a)
 | .type n => some (.ty n)
 | _ => none
theorem RelV.abs {x : V} {u : Value} (r : RelV x u) : absV u = some x:=by
 cases x with
 | non => cases r; rfl
 | bl _ => cases r; rfl
 | int _ => obtain ⟨t, rfl⟩:=r; rfl
 | str _ => obtain ⟨t, rfl⟩:=r; rfl
 | byt _ => obtain ⟨t, rfl⟩:=r; rfl
 | flt _ => obtain ⟨t, rfl⟩:=r; rfl
 | ref _ => cases r; rfl
 | ty _ => cases r; rfl
theorem RelV.inj {x y : V} {u : Value} (r : RelV x u) (q : RelV y u) : x = y:=Option.some.inj (r.abs.symm.trans q.abs)
theorem Vals.inj : ∀ {xs ys : List V} {us : List Value}, Vals xs us -> Vals ys us -> xs = ys
 | _, _, _, .nil, .nil => rfl
 | _, _, _, .cons r t, .cons r' t' => by rw [r.inj r', Vals.inj t t']
section
variable {X : Cx} {pins : List (Addr × Obj)} {σ : St} {H : Hp} {s : Shared} {a : Addr} {xs ys : List V}
theorem SqL.of {K : PySem.W.Frag} (h : H a = some (.lst xs)) : SqL K H a xs:=.inl (.inl h)
theorem SqT.of {K : PySem.W.Frag} (h : H a = some (.tup xs)) : SqT K H a xs:=.inl (.inl h)
theorem Inv.list (I : Inv X pins σ H s) (h : SqL X.K H a xs) : ∃ its : List Value, Vals xs its /\ PlainL s.heap a its.toArray /\ xs.length <= sizeLine:=by
 rcases h with h | ⟨o, its, n, hk, hc, hd, hs, hz, r⟩
 ·obtain ⟨z, its, n, r, e⟩:=h.ok I.hok
  exact ⟨its, r, ⟨_, n, e, rfl, rfl, rfl⟩, z⟩
 ·refine ⟨its.toList, r, ⟨o, n, I.kIn a o hk, hc, hd, by simpa using hs⟩, ?_⟩
  have e:=r.length
  simp only [Array.length_toList] at e
  omega
theorem Inv.tuple (I : Inv X pins σ H s) (h : SqT X.K H a xs) : ∃ its : List Value, Vals xs its /\ IsTup s.heap a its.toArray /\ xs.length <= sizeLine:=by
 rcases h with h | ⟨o, its, n, hk, hc, hs, hz, r⟩
 ·obtain ⟨z, its, r, p⟩:=h.ok I.hok
  exact ⟨its, r, p, z⟩
 ·refine ⟨its.toList, r, ⟨o, I.kIn a o hk, hc, n, by simpa using hs⟩, ?_⟩
  have e:=r.length
  simp only [Array.length_toList] at e
  omega
theorem Inv.list_inj (I : Inv X pins σ H s) (h : SqL X.K H a xs) (h' : SqL X.K H a ys) : xs = ys:=by
 obtain ⟨its, r, ⟨o, n, e, _, _, d⟩, _⟩:=I.list h
 obtain ⟨its', r', ⟨o', n', e', _, _, d'⟩, _⟩:=I.list h'
 rw [e] at e'; cases e'
 rw [d] at d'
 injection d' with d1 _
 have : its = its':=by simpa using congrArg Array.toList d1
 subst this
 exact r.inj r'
theorem Inv.tuple_inj (I : Inv X pins σ H s) (h : SqT X.K H a xs) (h' : SqT X.K H a ys) : xs = ys:=by
 obtain ⟨its, r, ⟨o, e, _, n, d⟩, _⟩:=I.tuple h
 obtain ⟨its', r', ⟨o', e', _, n', d'⟩, _⟩:=I.tuple h'
 rw [e] at e'; cases e'
 rw [d] at d'
 injection d' with d1 _
 have : its = its':=by simpa using congrArg Array.toList d1
 subst this
 exact r.inj r'
end
abbrev Cx.wish (X : Cx) (E : Value -> Shared -> Prop) : Cx:={ X with xe:=E }
abbrev Cx.nox (X : Cx) : Cx:=X.wish fun _ _ => False
theorem Cx.Ok.wish {X : Cx} (ok : X.Ok) (E : Value -> Shared -> Prop) : (X.wish E).Ok :=
 ⟨ok.mod, ok.kind, ok.glob, ok.blt, ok.above, ok.inj, ok.has, ok.cab, ok.hd, ok.frames, ok.stk, ok.exf, ok.bs, ok.bsz, ok.noex, ok.exfs, ok.funs, ok.frf⟩
theorem Cx.Ok.unwish {X : Cx} {E : Value -> Shared -> Prop} (ok : (X.wish E).Ok) : X.Ok :=
 ⟨ok.mod, ok.kind, ok.glob, ok.blt, ok.above, ok.inj, ok.has, ok.cab, ok.hd, ok.frames, ok.stk, ok.exf, ok.bs, ok.bsz, ok.noex, ok.exfs, ok.funs, ok.frf⟩
section
variable {X : Cx} {pins : List (Addr × Obj)} {σ : St} {H : Hp} {s : Shared} {E : Value -> Shared -> Prop}
theorem Inv.wish (I : Inv X pins σ H s) (E : Value -> Shared -> Prop) : Inv (X.wish E) pins σ H s:=⟨I.ok.wish E, I.os, I.bare, I.base, I.loc, I.cell, I.free, I.freeC, I.pin, I.hok, I.len⟩
theorem Inv.unwish (I : Inv (X.wish E) pins σ H s) : Inv X pins σ H s:=⟨I.ok.unwish, I.os, I.bare, I.base, I.loc, I.cell, I.free, I.freeC, I.pin, I.hok, I.len⟩
theorem SP.unwish {D : Ends} {f : Flow} {s' : Shared} (h : SP (X.wish E) pins D f s') : SP X pins D f s':=by
 cases f with
 | next => obtain ⟨σ', H', I, q⟩:=h; exact ⟨σ', H', I.unwish, q⟩
 | brk => obtain ⟨σ', H', I, q⟩:=h; exact ⟨σ', H', I.unwish, q⟩
 | cont => obtain ⟨σ', H', I, q⟩:=h; exact ⟨σ', H', I.unwish, q⟩
 | ret u => obtain ⟨v, σ', H', I, r, q⟩:=h; exact ⟨v, σ', H', I.unwish, r, q⟩
theorem PSs.nox {st : List Stmt} {t : TS} (h : PSs X.nox st t) : PSs X st t:=fun pins s σ H D I hw =>
 wpAny_mono (h pins s σ H D (I.wish _) hw) (fun _ _ q => q.unwish) fun _ _ z => False.elim z
end
section
variable {X : Cx} {st : Stmt} {rest : List Stmt} {t u : TS} {e : Expr} {te : TE} {pos : Pos}
def tNext : TS:=fun D σ H => D.nx σ H
def tSeq (t u : TS) : TS:=fun D σ H => t { D with nx:=u D } σ H
theorem pss_nil : PSs X [] tNext:=fun _ _ σ H _ I h => wpAny_execs_nil ⟨σ, H, I, h⟩
theorem pss_cons (h1 : PS X st t) (h2 : PSs X rest u) : PSs X (st :: rest) (tSeq t u):=by
 intro pins s σ H D I h
 refine wpAny_execs_cons (thn (h1 pins s σ H { D with nx:=u D } I h) fun f s1 q => ?_)
 cases f with
 | next =>
  obtain ⟨σ', H', I', q⟩:=q
  exact h2 pins s1 σ' H' D I' q
 | ret v => exact q
 | brk => exact q
 | cont => exact q
theorem pss_one (h1 : PS X st t) : PSs X [st] t:=by
 intro pins s σ H D I h
 refine wpAny_execs_cons (thn (h1 pins s σ H D I h) fun f s1 q => ?_)
 cases f with
 | next => exact wpAny_execs_nil q
 | ret v => exact q
 | brk => exact q
 | cont => exact q
theorem Inv.quiet {pins : List (Addr × Obj)} {σ : St} {H : Hp} {s : Shared} (I : Inv X pins σ H s) : interactive X.env = false:=by simp [interactive, I.ok.kind]
def tDrop (te : TE) : TS:=fun D σ H => te σ H fun _ H1 => D.nx σ H1
theorem ps_expr (he : PE X e te) (hs : swapsWith e none pos.line X.env = pure false:=by rfl) : PS X (.Expr e pos) (tDrop te):=by
 intro pins s σ H D I h
 exact wpAny_Expr_any (thn (he pins s σ H _ I h) fun v s1 ⟨x, H1, I1, r1, q1⟩ => ⟨σ, H1, I1, q1⟩) I.quiet hs
def tRet (te : TE) : TS:=fun D σ H => te σ H D.rt
theorem ps_ret (he : PE X e te) : PS X (.Return (some e) pos) (tRet te):=by
 intro pins s σ H D I h
 exact wpAny_Return_some (thn (he pins s σ H _ I h) fun v s1 ⟨x, H1, I1, r1, q1⟩ => ⟨x, σ, H1, I1, r1, q1⟩)
def tIfS (c : TT) (t u : TS) : TS:=fun D σ H => c σ H fun b H1 => if b = true then t D σ H1 else u D σ H1
theorem ps_if {c : Expr} {a b : List Stmt} {tc : TT} (hc : PT X c tc) (ha : PSs X a t) (hb : PSs X b u) : PS X (.If c a b pos) (tIfS tc t u):=by
 intro pins s σ H D I h
 refine wpAny_If (thn (hc pins s σ H _ I h) fun d s1 ⟨H1, I1, q1⟩ => ?_)
 cases d with
 | true => exact ha pins s1 σ H1 D I1 q1
 | false => exact hb pins s1 σ H1 D I1 q1
end
abbrev TG:=V -> St -> Hp -> (St -> Hp -> Prop) -> Prop
abbrev TGs:=List V -> St -> Hp -> (St -> Hp -> Prop) -> Prop
def PG (X : Cx) (target : Expr) (t : TG) : Prop :=
 ∀ (pins : List (Addr × Obj)) (s : Shared) (σ : St) (H : Hp) (v : V) (u : Value) (Q : St -> Hp -> Prop), Inv X pins σ H s -> RelV v u -> t v σ H Q ->
  wpAny (model X.prog X.w) X.A (assign target X.env u) (fun _ s' => ∃ σ' H', Inv X pins σ' H' s' /\ Q σ' H') X.xe s
def PGs (X : Cx) (ts : List Expr) (t : TGs) : Prop :=
 ∀ (pins : List (Addr × Obj)) (s : Shared) (σ : St) (H : Hp) (vs : List V) (us : List Value) (Q : St -> Hp -> Prop), Inv X pins σ H s -> Vals vs us -> t vs σ H Q ->
  wpAny (model X.prog X.w) X.A (assignInOrder ((assignEach ts X.env).map (·.2)) us) (fun _ s' => ∃ σ' H', Inv X pins σ' H' s' /\ Q σ' H') X.xe s
abbrev TSet:=V -> V -> V -> Hp -> (Hp -> Prop) -> Prop
def PSet (X : Cx) (t : TSet) : Prop :=
 ∀ (pins : List (Addr × Obj)) (s : Shared) (σ : St) (H : Hp) (o i v : V) (ov iv u : Value) (Q : Hp -> Prop), Inv X pins σ H s -> RelV o ov -> RelV i iv -> RelV v u -> t o i v H Q ->
  wpAny (model X.prog X.w) X.A (setItem ov iv u) (fun _ s' => ∃ H', Inv X pins σ H' s' /\ Q H') X.xe s
abbrev TIp:=V -> V -> Hp -> VK -> Prop
def PIp (X : Cx) (op : Operator) (t : TIp) : Prop :=
 ∀ (pins : List (Addr × Obj)) (s : Shared) (σ : St) (H : Hp) (x y : V) (v u : Value) (Q : VK), Inv X pins σ H s -> RelV x v -> RelV y u -> t x y H Q ->
  wpAny (model X.prog X.w) X.A (inplaceOp op v u) (EP X pins σ Q) X.xe s
section
variable {X : Cx} {pos : Pos}
def gName (i : Nat) : TG:=fun v σ H Q => Q (σ.set i (some v)) H
theorem pg_name {i : Nat} {x : Str} (hN : X.N.Nodup) (hi : X.N[i]? = some x) (hx : Loc X.env.scope x) (hf : X.fn x = true \/ X.env.scope.names.lookup x = some .local:=by first | exact .inl rfl | exact .inr rfl | assumption) : PG X (.Name x pos) (gName i):=by
 intro pins s σ H v u Q I r h
 exact wpAny_assign_Name (store_ok I hN hi hx r (fun s' I' => ⟨_, H, I', h⟩) hf)
def gNil : TGs:=fun vs σ H Q => vs = [] /\ Q σ H
def gCons (t : TG) (u : TGs) : TGs:=fun vs σ H Q => ∃ v r, vs = v :: r /\ t v σ H fun σ' H' => u r σ' H' Q
theorem pgs_nil : PGs X [] gNil:=by
 intro pins s σ H vs us Q I r h
 obtain ⟨e, h⟩:=h
 subst e
 cases r
 exact assignInOrder_nil ⟨σ, H, I, h⟩
theorem pgs_cons {e : Expr} {es : List Expr} {t : TG} {u : TGs} (h1 : PG X e t) (h2 : PGs X es u)
  (hs : (assignEach (e :: es) X.env).map (·.2) = assign e X.env :: (assignEach es X.env).map (·.2):=by rfl) : PGs X (e :: es) (gCons t u):=by
 intro pins s σ H vs us Q I r h
 obtain ⟨v, vr, e1, h⟩:=h
 subst e1
 cases r with
 | cons r rr =>
  rw [hs]
  refine assignInOrder_cons (thn (h1 pins s σ H _ _ _ I r h) fun _ s1 ⟨σ1, H1, I1, q1⟩ => ?_)
  exact h2 pins s1 σ1 H1 _ _ Q I1 rr q1
def gTup (K : PySem.W.Frag) (n : Nat) (t : TGs) : TG:=fun v σ H Q => ∃ a xs, v = .ref a /\ SqT K H a xs /\ xs.length = n /\ t xs σ H Q
theorem pg_tup {es : List Expr} {k : Nat} {t : TGs} {n : Nat} (hc : X.calm = true) (h : PGs X es t)
  (hn : (assignEach es X.env).length = n:=by rfl) (hst : (assignEach es X.env).findIdx? (·.1) = none:=by rfl) : PG X (.Tuple es k pos) (gTup X.K n t):=by
 intro pins s σ H v u Q I r hw
 obtain ⟨a, xs, e1, hq, hl, hw⟩:=hw
 subst e1
 cases r
 obtain ⟨its, rv, ht, hz⟩:=I.tuple hq
 refine assign_Tuple_tuple (I.ok.hd hc) ht (by simp [hn, <- hl, rv.length]) hst fun h' hx => ?_
 have I1 : Inv X pins σ H { s with heap:=h' }:=I.kept (t':=s.toks) fun b o e => hx b o (Nat.ne_of_lt (Heap.lt_size e)) e
 exact h pins _ σ H xs _ Q I1 (by simpa using rv) hw
def gSub (to ti : TE) (t : TSet) : TG:=fun v σ H Q => to σ H fun o H1 => ti σ H1 fun i H2 => t o i v H2 fun H3 => Q σ H3
theorem pg_sub {o i : Expr} {to ti : TE} {t : TSet} (ho : PE X o to) (hi : PE X i ti) (hs : PSet X t)
  (ha : ∀ v, assign (.Subscript o i pos) X.env v = (do
   let ov <- holding [v] (eval o X.env)
   let iv <- holding [v, ov] (eval i X.env)
   standAt pos
   holding [v, ov, iv] (setItem ov iv v)
   release [v, ov, iv] []):=by intro _; rfl) : PG X (.Subscript o i pos) (gSub to ti t):=by
 intro pins s σ H v u Q I r h
 rw [ha]
 refine wpAny_bind (wpAny_holding (thn (ho pins s σ H _ I h) fun ov s1 ⟨x, H1, I1, r1, q1⟩ => ?_))
 refine wpAny_bind (wpAny_holding (thn (hi pins s1 σ H1 _ I1 q1) fun iv s2 ⟨y, H2, I2, r2, q2⟩ => ?_))
 refine wpAny_bind (wpAny_standAt (wpAny_bind (wpAny_holding (thn (hs pins s2 σ H2 x y v ov iv u _ I2 r1 r2 r q2) fun _ s3 ⟨H3, I3, q3⟩ => ?_))))
 exact wpAny_release ⟨σ, H3, I3, q3⟩
def tAsg (te : TE) (g : TG) : TS:=fun D σ H => te σ H fun x H1 => g x σ H1 D.nx
theorem ps_asg {tg e : Expr} {te : TE} {g : TG} (he : PE X e te) (hg : PG X tg g) (hs : swapsWithSole [tg] e pos.line X.env = pure false:=by rfl) (hw : swappedStores [tg] e X.env = pure none:=by rfl)
  (h1 : (assignEach [tg] X.env).map (·.2) = [assign tg X.env]:=by rfl) : PS X (.Assign [tg] e pos) (tAsg te g):=by
 intro pins s σ H D I h
 refine wpAny_Assign_stores (thn (he pins s σ H _ I h) fun v s1 ⟨x, H1, I1, r1, q1⟩ => ?_) hs hw
 rw [h1]
 exact thn (hg pins s1 σ H1 x v _ I1 r1 q1) fun _ s2 q => q
theorem ps_set {i : Nat} {x : Str} {e : Expr} {te : TE} {pos' : Pos} (hN : X.N.Nodup) (hi : X.N[i]? = some x) (hx : Loc X.env.scope x) (he : PE X e te) (hs : swapsWith e (some (.Name x pos')) pos.line X.env = pure false:=by rfl) (hf : X.fn x = true \/ X.env.scope.names.lookup x = some .local:=by first | exact .inl rfl | exact .inr rfl | assumption) :
  PS X (.Assign [.Name x pos'] e pos) (tAsg te (gName i)):=by
 intro pins s σ H D I h
 refine wpAny_Assign_Name (thn (he pins s σ H _ I h) fun v s1 ⟨y, H1, I1, r1, q1⟩ => ?_) hs
 exact store_ok I1 hN hi hx r1 (fun s2 I2 => ⟨_, H1, I2, q1⟩) hf
def tAug (i : Nat) (te : TE) (ti : TIp) : TS:=fun D σ H => ∃ x, σ[i]? = some (some x) /\ te σ H fun y H1 => ti x y H1 fun z H2 => D.nx (σ.set i (some z)) H2
theorem ps_aug {i : Nat} {x : Str} {e : Expr} {te : TE} {op : Operator} {ti : TIp} {pos' : Pos} (hN : X.N.Nodup) (hi : X.N[i]? = some x) (hx : Loc X.env.scope x) (he : PE X e te) (ho : PIp X op ti) (hf : X.fn x = true \/ X.env.scope.names.lookup x = some .local:=by first | exact .inl rfl | exact .inr rfl | assumption) :
  PS X (.AugAssign (.Name x pos') op e pos) (tAug i te ti):=by
 intro pins s σ H D I h
 obtain ⟨v, e1, h⟩:=h
 obtain ⟨m, hn, hl⟩:=I.loc
 have vis : Vis X.env.scope x:=by rcases hx with k | k; exact .inl k; exact .inr (.inl k)
 obtain ⟨u, r, l⟩:=hl i x v hi e1 vis
 refine wpAny_AugAssign_Name ?_
 have go : wpAny (model X.prog X.w) X.A (eval e X.env) (fun w s₂ => wpAny (model X.prog X.w) X.A (inplaceOp op u w) (fun r s₃ => wpAny (model X.prog X.w) X.A (storeName X.env x r) (fun _ => SP X pins D .next) X.xe s₃) X.xe s₂) X.xe s:=by
  refine thn (he pins s σ H _ I h) fun w s1 ⟨y, H1, I1, r1, q1⟩ => ?_
  refine thn (ho pins s1 σ H1 v y u w _ I1 r r1 q1) fun z s2 ⟨zv, H2, I2, r2, q2⟩ => ?_
  exact store_ok I2 hN hi hx r2 (fun s3 I3 => ⟨_, H2, I3, q2⟩) hf
 rcases l with ⟨hk, hm⟩ | ⟨hk, c, hc, hcell⟩
 ·exact wpAny_loadName_local I.ok.kind hk hn hm go
 ·rcases hk with hk | hk
  ·exact wpAny_loadName_cell I.ok.kind hk hc hcell go
  ·rcases hx with k | k
   ·have : X.env.scope.names.lookup x = some .free:=hk
    rw [k] at this; cases this
   ·have : X.env.scope.names.lookup x = some .free:=hk
    rw [k] at this; cases this
def ipI (f : Int -> Int -> Int) : TIp:=fun x y H Q => ∃ i j, x = .int i /\ y = .int j /\ Q (.int (f i j)) H
theorem ip_add : PIp X .Add (ipI fun i j => i + j):=by
 intro pins s σ H x y v u Q I r1 r2 h
 obtain ⟨i, j, e1, e2, q⟩:=h
 subst e1; subst e2
 obtain ⟨t, rfl⟩:=r1
 obtain ⟨t', rfl⟩:=r2
 exact iadd_int ⟨.int _, H, I.tok _, ⟨_, rfl⟩, q⟩
end
section
variable {X : Cx} {pos : Pos}
def tWhile (c : TT) (tb : TS) : TS:=fun D σ H => ∃ W : Nat -> St -> Hp -> Prop, (∃ m, W m σ H) /\ ∀ m σ H, W m σ H ->
 c σ H fun b H1 => if b = true then ∃ N : St -> Hp -> Prop, (∀ σ' H', N σ' H' -> ∃ m', m' < m /\ W m' σ' H') /\ tb { D with nx:=N, ct:=N, bk:=D.nx } σ H1 else D.nx σ H1
theorem ps_while {c : Expr} {body : List Stmt} {tc : TT} {tb : TS} (hp : PassesOwn (model X.prog X.w) X.A X.env X.xe) (hc : PT X c tc) (hb : PSs X body tb) : PS X (.While c body [] pos) (tWhile tc tb):=by
 intro pins s σ H D I h
 obtain ⟨W, ⟨m0, w0⟩, turn⟩:=h
 refine wpAny_While (codeAny_whileLoop (fun n s' => ∃ σ' H', Inv X pins σ' H' s' /\ W n σ' H') ?_ m0 ⟨σ, H, I, w0⟩)
 rintro n s1 ⟨σ1, H1, I1, w1⟩
 refine wpAny_passesOwn hp (thn (hc pins s1 σ1 H1 _ I1 (turn n σ1 H1 w1)) fun b s2 ⟨H2, I2, q2⟩ => ?_)
 cases b with
 | true =>
  obtain ⟨N, hN, q2⟩:=q2
  rw [if_pos rfl]
  refine wpAny_passesOwn hp (thn (hb pins s2 σ1 H2 _ I2 q2) fun f s3 q3 => ?_)
  cases f with
  | next =>
   obtain ⟨σ3, H3, I3, n3⟩:=q3
   obtain ⟨m', hm, w3⟩:=hN σ3 H3 n3
   exact ⟨m', hm, σ3, H3, I3, w3⟩
  | cont =>
   obtain ⟨σ3, H3, I3, n3⟩:=q3
   obtain ⟨m', hm, w3⟩:=hN σ3 H3 n3
   exact ⟨m', hm, σ3, H3, I3, w3⟩
  | brk => exact q3
  | ret v => exact q3
 | false =>
  rw [if_neg Bool.false_ne_true]
  exact wpAny_execs_nil ⟨σ1, H2, I2, q2⟩
end
structure It where
 go : Nat -> Hp -> Prop
 yld : Nat -> Hp -> V -> Hp -> Prop
 stop : Nat -> Hp -> Prop
def FpOk (X : Cx) (pins : List (Addr × Obj)) (H : Hp) (b : Addr) : Prop :=
 H b = none /\ b ≠ X.env.locals /\ b ∉ X.fs /\ (b ∈ X.ex \/ X.s_0.heap.objs.size <= b) /\ (∀ x c, X.env.cells.lookup x = some c -> c ≠ b) /\ ∀ p ∈ X.pn ++ pins, p.1 ≠ b
theorem Inv.fpOk {X : Cx} {pins : List (Addr × Obj)} {σ : St} {H H' : Hp} {s : Shared} {b : Addr} (I : Inv X pins σ H s) (hb : s.heap.objs.size <= b) (hn : H' b = none) : FpOk X pins H' b:=by
 refine ⟨hn, Nat.ne_of_gt (Nat.lt_of_lt_of_le I.lt hb), I.nofs hb, .inr (Nat.le_trans I.sz hb), fun x c e z => ?_, fun p hp z => ?_⟩
 ·obtain ⟨v, q⟩:=I.cell x c e
  exact absurd (Nat.lt_of_lt_of_le q.lt (by rw [z]; exact hb)) (Nat.lt_irrefl _)
 ·exact absurd (Nat.lt_of_lt_of_le (Heap.lt_size (I.pin p hp).1) (by rw [z]; exact hb)) (Nat.lt_irrefl _)
structure Turn (P : Program) (w : World) (K : PySem.W.Frag) (tg : Expr) (J : It) (fp : List Addr) (it : Addr) (tn : Nat -> Heap -> Prop) : Prop where
 mem : it ∈ fp
 obj : ∀ i h, tn i h -> ∀ b ∈ fp, ∃ o, h.get? b = some o /\ ∀ v, o.data ≠ .cell v
 keep : ∀ i h h', tn i h -> (∀ b ∈ fp, ∀ o, h.get? b = some o -> h'.get? b = some o) -> tn i h'
 item : ∀ (X : Cx), X.prog = P -> X.w = w -> X.K = K -> X.calm = true -> ∀ (i : Nat) (pins : List (Addr × Obj)) (s : Shared) (σ : St) (H : Hp) (E : Value -> Shared -> Prop), Inv X pins σ H s -> (∀ b ∈ fp, FpOk X pins H b) -> tn i s.heap -> J.go i H ->
  wpAny (model P w) X.A (pyNext (.ref it)) (fun r s1 => ∃ u, r = some u /\
   wpAny (model P w) X.A (letOwnedTupleGo tg (.ref it) u) (fun _ s2 => ∃ x H', Inv X pins σ H' s2 /\ RelV x u /\ J.yld i H x H' /\ tn (i + 1) s2.heap /\ ∀ b ∈ fp, H' b = none) E s1) E s
 done : ∀ (X : Cx), X.prog = P -> X.w = w -> X.K = K -> X.calm = true -> ∀ (i : Nat) (pins : List (Addr × Obj)) (s : Shared) (σ : St) (H : Hp) (E : Value -> Shared -> Prop), Inv X pins σ H s -> (∀ b ∈ fp, FpOk X pins H b) -> tn i s.heap -> J.stop i H ->
  wpAny (model P w) X.A (pyNext (.ref it)) (fun r s1 => r = none /\ Inv X pins σ H s1) E s
 self : ∀ (A : Around) (i : Nat) (s : Shared) (Q : Value -> Shared -> Prop) (E : Value -> Shared -> Prop), tn i s.heap -> Q (.ref it) s -> wpAny (model P w) A (pyIter (.ref it)) Q E s
abbrev TI:=St -> Hp -> (It -> Hp -> Prop) -> Prop
def PIE (X : Cx) (pins : List (Addr × Obj)) (σ : St) (tg : Expr) (R : It -> Hp -> Prop) (itv : Value) (s2 : Shared) : Prop :=
 ∃ (it : Addr) (fp : List Addr) (tn : Nat -> Heap -> Prop) (J : It) (H' : Hp), itv = .ref it /\ Inv X pins σ H' s2 /\ Turn X.prog X.w X.K tg J fp it tn /\ tn 0 s2.heap /\ (∀ b ∈ fp, FpOk X pins H' b) /\ R J H'
def PI (X : Cx) (tg iter : Expr) (wi : TI) : Prop :=
 ∀ (pins : List (Addr × Obj)) (s : Shared) (σ : St) (H : Hp) (R : It -> Hp -> Prop), Inv X pins σ H s -> wi σ H R ->
  wpAny (model X.prog X.w) X.A (eval iter X.env) (fun v s1 => wpAny (model X.prog X.w) X.A (pyIter v) (PIE X pins σ tg R) X.xe s1) X.xe s
theorem go_of {M : Model} {A : Around} {E : Value -> Shared -> Prop} {s : Shared} {tg : Expr} {it : Addr} {u : Value} {o : Obj} {n : String} {vs : Array Value} {Q : Unit -> Shared -> Prop} (ho : s.heap.get? it = some o) (hc : o.cls = .type n) (hd : o.data = .fields vs)
  (hn : ["enumerate", "zip", "dict_itemiterator", "dict_reverseitemiterator", "odict_iterator", "itertools.zip_longest", "itertools.pairwise"].contains n = false) (hQ : Q () s) : wpAny M A (letOwnedTupleGo tg (.ref it) u) Q E s:=by
 unfold letOwnedTupleGo
 cases tg <;> first
  | exact wpAny_pure hQ
  | (cases u <;> first
    | exact wpAny_pure hQ
    | (refine wpAny_bind (wpAny_load ho ?_)
       rw [hc, hd]
       show wpAny M A (if (["enumerate", "zip", "dict_itemiterator", "dict_reverseitemiterator", "odict_iterator", "itertools.zip_longest", "itertools.pairwise"].contains n && vs[0]? == some (rawInt _)) = true then _ else _) Q E s
       rw [if_neg (by intro h; rw [hn, Bool.false_and] at h; cases h)]
       exact wpAny_pure hQ))
def Itl (K : PySem.W.Frag) (a : Addr) : It :=
 ⟨fun i H => ∃ xs x, SqL K H a xs /\ xs[i]? = some x, fun i H x H' => H' = H /\ ∀ xs, SqL K H a xs -> xs[i]? = some x, fun i H => ∃ xs, SqL K H a xs /\ xs.length <= i⟩
def Itt (K : PySem.W.Frag) (a : Addr) : It :=
 ⟨fun i H => ∃ xs x, SqT K H a xs /\ xs[i]? = some x, fun i H x H' => H' = H /\ ∀ xs, SqT K H a xs -> xs[i]? = some x, fun i H => ∃ xs, SqT K H a xs /\ xs.length <= i⟩
def Itr (lo : Int) (n : Nat) : It:=⟨fun i _ => i < n, fun i H x H' => H' = H /\ x = .int (lo + i), fun i _ => n <= i⟩
theorem turn_list {P : Program} {w : World} {K : PySem.W.Frag} {tg : Expr} (a it : Addr) : Turn P w K tg (Itl K a) [it] it (fun i h => h.IsListIter it a i) where
 mem:=by simp
 obj:=fun i h st b hb => by
  have e : b = it:=by simpa using hb
  subst e
  obtain ⟨o, e, c, d⟩:=st
  exact ⟨o, e, fun v z => by rw [d] at z; cases z⟩
 keep:=fun i h h' st k => st.at fun o e => k it (by simp) o e
 item:=by
  intro X hP hw hK hc i pins s σ H E I hf st hg
  subst hP hw hK
  obtain ⟨xs, x, hq, hx⟩:=hg
  obtain ⟨its, rv, p, hz⟩:=I.list hq
  obtain ⟨u, hu, ru⟩:=rv.get hx
  obtain ⟨f0, f1, f2, f3, f4, f5⟩:=hf it (by simp)
  refine wpAny_pyNext_list_item st p.isList (x:=u) (by simpa using hu) fun h' st' sb => ?_
  have I1 : Inv X pins σ H { s with heap:=h' }:=I.turned (t':=s.toks) (fun b o hb e => (sb.2 b hb).trans e) f0 f1 f3 f4 f5
  obtain ⟨o, e, c, d⟩:=id st'
  exact ⟨u, rfl, go_of (s:={ s with heap:=h' }) e c d (by decide) ⟨x, H, I1, ru, ⟨rfl, fun ys hy => by rw [I.list_inj hy hq]; exact hx⟩, st', fun b hb => (hf b hb).1⟩⟩
 done:=by
  intro X hP hw hK hc i pins s σ H E I hf st hg
  subst hP hw hK
  obtain ⟨xs, hq, hx⟩:=hg
  obtain ⟨its, rv, p, hz⟩:=I.list hq
  obtain ⟨f0, f1, f2, f3, f4, f5⟩:=hf it (by simp)
  have hl:=rv.length
  exact wpAny_pyNext_list_end (I.ok.hd hc) st p.isList (by simp; omega) fun h' eb => ⟨rfl, I.turned (t':=s.toks) (fun b o hb e => eb b o hb e) f0 f1 f3 f4 f5⟩
 self:=fun _ _ _ _ _ st h => wpAny_pyIter_listiter st h
theorem turn_tuple {P : Program} {w : World} {K : PySem.W.Frag} {tg : Expr} (a it : Addr) : Turn P w K tg (Itt K a) [it] it (fun i h => h.IsTupleIter it a i) where
 mem:=by simp
 obj:=fun i h st b hb => by
  have e : b = it:=by simpa using hb
  subst e
  obtain ⟨o, e, c, d⟩:=st
  exact ⟨o, e, fun v z => by rw [d] at z; cases z⟩
 keep:=fun i h h' st k => st.at fun o e => k it (by simp) o e
 item:=by
  intro X hP hw hK hc i pins s σ H E I hf st hg
  subst hP hw hK
  obtain ⟨xs, x, hq, hx⟩:=hg
  obtain ⟨its, rv, p, hz⟩:=I.tuple hq
  obtain ⟨u, hu, ru⟩:=rv.get hx
  obtain ⟨f0, f1, f2, f3, f4, f5⟩:=hf it (by simp)
  refine wpAny_pyNext_tuple_item st (show s.heap.IsTuple a its.toArray from p) (x:=u) (by simpa using hu) fun h' st' sb => ?_
  have I1 : Inv X pins σ H { s with heap:=h' }:=I.turned (t':=s.toks) (fun b o hb e => (sb.2 b hb).trans e) f0 f1 f3 f4 f5
  obtain ⟨o, e, c, d⟩:=id st'
  exact ⟨u, rfl, go_of (s:={ s with heap:=h' }) e c d (by decide) ⟨x, H, I1, ru, ⟨rfl, fun ys hy => by rw [I.tuple_inj hy hq]; exact hx⟩, st', fun b hb => (hf b hb).1⟩⟩
 done:=by
  intro X hP hw hK hc i pins s σ H E I hf st hg
  subst hP hw hK
  obtain ⟨xs, hq, hx⟩:=hg
  obtain ⟨its, rv, p, hz⟩:=I.tuple hq
  obtain ⟨f0, f1, f2, f3, f4, f5⟩:=hf it (by simp)
  have hl:=rv.length
  exact wpAny_pyNext_tuple_end (I.ok.hd hc) st (show s.heap.IsTuple a its.toArray from p) (by simp; omega) fun h' eb => ⟨rfl, I.turned (t':=s.toks) (fun b o hb e => eb b o hb e) f0 f1 f3 f4 f5⟩
 self:=fun _ _ _ _ _ st h => wpAny_pyIter_tupleiter st h
theorem turn_range {P : Program} {w : World} {K : PySem.W.Frag} {tg : Expr} (it : Addr) (lo : Int) (n : Nat) : Turn P w K tg (Itr lo n) [it] it (fun i h => IsRangeIter h it (lo + (i : Nat) * 1) ((n : Int) - (i : Nat)) 1) where
 mem:=by simp
 obj:=fun i h st b hb => by
  have e : b = it:=by simpa using hb
  subst e
  exact ⟨_, st, fun v z => by
   have z' : Data.fields _ = Data.cell v:=z
   cases z'⟩
 keep:=fun i h h' st k => k it (by simp) _ st
 item:=by
  intro X hP hw hK hc i pins s σ H E I hf st hg
  subst hP hw hK
  obtain ⟨f0, f1, f2, f3, f4, f5⟩:=hf it (by simp)
  have W:=Walks.range (prog:=X.prog) (w:=X.w) (I.ok.hd hc) it lo 1 n
  refine W.item i s _ _ hg st fun v h' tk hv st' kk => ?_
  obtain ⟨t, rfl⟩:=hv
  have I1 : Inv X pins σ H { s with heap:=h', toks:=tk }:=I.turned (fun b o hb e => kk b o (by simpa using hb) e) f0 f1 f3 f4 f5
  refine ⟨_, rfl, go_of (s:={ s with heap:=h', toks:=tk }) (n:="range_iterator") st' rfl rfl (by decide) ⟨.int (lo + i), H, I1, ⟨t, ?_⟩, ⟨rfl, rfl⟩, st', fun b hb => (hf b hb).1⟩⟩
  rw [Int.mul_one]
 done:=by
  intro X hP hw hK hc i pins s σ H E I hf st hg
  subst hP hw hK
  obtain ⟨f0, f1, f2, f3, f4, f5⟩:=hf it (by simp)
  exact wpAny_pyNext_range_end (I.ok.hd hc) st (by have : n <= i:=hg; omega) fun h' eb => ⟨rfl, I.turned (t':=s.toks) (fun b o hb e => eb b o hb e) f0 f1 f3 f4 f5⟩
 self:=fun _ _ _ _ _ st h => wpAny_pyIter_rangeiter st h
end L2
namespace L2
open PySem PySem.Spec PyProof.Rows
section
variable {X : Cx} {tg : Expr}
def iList (K : PySem.W.Frag) (tl : TE) : TI:=fun σ H R => tl σ H fun x H1 => ∃ a, x = .ref a /\ (∃ xs, SqL K H1 a xs) /\ R (Itl K a) H1
def iTup (K : PySem.W.Frag) (tl : TE) : TI:=fun σ H R => tl σ H fun x H1 => ∃ a, x = .ref a /\ (∃ xs, SqT K H1 a xs) /\ R (Itt K a) H1
theorem pi_list {l : Expr} {tl : TE} (hl : PE X l tl) : PI X tg l (iList X.K tl):=by
 intro pins s σ H R I h
 refine thn (hl pins s σ H _ I h) fun v s1 ⟨x, H1, I1, r1, q1⟩ => ?_
 obtain ⟨a, e, ⟨xs, hq⟩, q⟩:=q1
 subst e
 cases r1
 obtain ⟨its, rv, p, hz⟩:=I1.list hq
 refine wpAny_pyIter_list p.isList ?_
 refine ⟨s1.heap.objs.size, [s1.heap.objs.size], _, _, H1, rfl, I1.kept (t':=s1.toks) fun b o e => Heap.get?_push_of_some _ e, turn_list a _, ⟨_, Heap.get?_push_size _ rfl, rfl, rfl⟩, fun b hb => ?_, q⟩
 have e : b = s1.heap.objs.size:=by simpa using hb
 subst e
 exact I1.fpOk (Nat.le_refl _) (I1.hok.fresh (Nat.le_refl _))
theorem pi_tup {l : Expr} {tl : TE} (hl : PE X l tl) : PI X tg l (iTup X.K tl):=by
 intro pins s σ H R I h
 refine thn (hl pins s σ H _ I h) fun v s1 ⟨x, H1, I1, r1, q1⟩ => ?_
 obtain ⟨a, e, ⟨xs, hq⟩, q⟩:=q1
 subst e
 cases r1
 obtain ⟨its, rv, p, hz⟩:=I1.tuple hq
 refine wpAny_pyIter_tuple (show s1.heap.IsTuple a its.toArray from p) ?_
 refine ⟨s1.heap.objs.size, [s1.heap.objs.size], _, _, H1, rfl, I1.kept (t':=s1.toks) fun b o e => Heap.get?_push_of_some _ e, turn_tuple a _, ⟨_, Heap.get?_push_size _ rfl, rfl, rfl⟩, fun b hb => ?_, q⟩
 have e : b = s1.heap.objs.size:=by simpa using hb
 subst e
 exact I1.fpOk (Nat.le_refl _) (I1.hok.fresh (Nat.le_refl _))
theorem range_it {pins : List (Addr × Obj)} {σ : St} {H : Hp} {s : Shared} {R : It -> Hp -> Prop} {E : Value -> Shared -> Prop} {lo hi : Int} {t u v : Tok} {tk : Nat} (I : Inv X pins σ H s) (h1 : -(2 ^ 62) <= lo) (h2 : lo < 2 ^ 62) (h3 : -(2 ^ 62) <= hi) (h4 : hi < 2 ^ 62)
  (q : R (Itr lo (hi - lo).toNat) H) : wpAny (model X.prog X.w) X.A (pyIter (.ref s.heap.objs.size)) (PIE X pins σ tg R) E { s with heap:=s.heap.push { cls:=.type "range", data:=.fields #[.int lo t, .int hi u, .int 1 v] }, toks:=tk }:=by
 refine wpAny_pyIter_range (IsRange.new ..) (small_one h1 h2 h3 h4) ?_
 have I1 : Inv X pins σ H { s with heap:=s.heap.push { cls:=.type "range", data:=.fields #[.int lo t, .int hi u, .int 1 v] }, toks:=tk }:=I.kept fun b o e => Heap.get?_push_of_some _ e
 refine ⟨(s.heap.push { cls:=.type "range", data:=.fields #[.int lo t, .int hi u, .int 1 v] }).objs.size, [(s.heap.push { cls:=.type "range", data:=.fields #[.int lo t, .int hi u, .int 1 v] }).objs.size], _, _, H, rfl,
  I1.kept (t':=tk) fun b o e => Heap.get?_push_of_some _ e, turn_range _ lo (hi - lo).toNat, ?_, fun b hb => ?_, q⟩
 ·have e1 : lo + ((0 : Nat) : Int) * 1 = lo:=by simp
  have e2 : (((hi - lo).toNat : Nat) : Int) - ((0 : Nat) : Int) = Builtin.Range.rangeSize lo hi 1:=by rw [rangeSize_one]; split <;> omega
  show IsRangeIter _ _ (lo + ((0 : Nat) : Int) * 1) ((((hi - lo).toNat : Nat) : Int) - ((0 : Nat) : Int)) 1
  rw [e1, e2]
  exact Heap.get?_push_size _ rfl
 ·have e : b = (s.heap.push { cls:=.type "range", data:=.fields #[.int lo t, .int hi u, .int 1 v] }).objs.size:=by simpa using hb
  subst e
  exact I1.fpOk (Nat.le_refl _) (I1.hok.fresh (Nat.le_refl _))
def iRng1 (ta : TA) : TI:=fun σ H R => ta σ H fun vs H1 => ∃ j : Int, vs = [.int j] /\ -(2 ^ 62) <= j /\ j < 2 ^ 62 /\ R (Itr 0 j.toNat) H1
def iRng2 (ta : TA) : TI:=fun σ H R => ta σ H fun vs H1 => ∃ i j : Int, vs = [.int i, .int j] /\ (-(2 ^ 62) <= i /\ i < 2 ^ 62 /\ -(2 ^ 62) <= j /\ j < 2 ^ 62) /\ R (Itr i (j - i).toNat) H1
theorem pi_range1 {a : Expr} {ta : TA} {p pos : Pos} (hg : Gl X "range") (hm : X.mg "range" = none) (ha : PA X [a] ta) (hs : starEach [a] X.env = [(false, eval a X.env)]:=by rfl) : PI X tg (.Call (.Name "range" p) [a] [] pos) (iRng1 ta):=by
 intro pins s σ H R I h
 refine Call_ (ld_blt I hg hm boot_range (PyProof.Rows.callWith_type1 (thn (ha pos pins s σ H _ I h) fun us s1 ⟨vs, H1, I1, r1, q1⟩ => ?_) hs rfl))
 obtain ⟨j, e, q1, q2, q⟩:=q1
 subst e
 cases r1 with
 | cons r rr =>
  cases rr
  obtain ⟨t, rfl⟩:=r
  exact call_range_1 (range_it I1 (by omega) (by omega) q1 q2 (by simpa using q))
theorem pi_range2 {a b : Expr} {ta : TA} {p pos : Pos} (hg : Gl X "range") (hm : X.mg "range" = none) (ha : PA X [a, b] ta) (hs : starEach [a, b] X.env = [(false, eval a X.env), (false, eval b X.env)]:=by rfl) (hs2 : starEach [b] X.env = [(false, eval b X.env)]:=by rfl) :
  PI X tg (.Call (.Name "range" p) [a, b] [] pos) (iRng2 ta):=by
 intro pins s σ H R I h
 refine Call_ (ld_blt I hg hm boot_range (PyProof.Rows.callWith_type1 (thn (ha pos pins s σ H _ I h) fun us s1 ⟨vs, H1, I1, r1, q1⟩ => ?_) (by rw [hs, hs2]) (by rw [hs2]; rfl)))
 obtain ⟨i, j, e, ⟨q1, q2, q3, q4⟩, q⟩:=q1
 subst e
 cases r1 with
 | cons r rr =>
  cases rr with
  | cons r' rr =>
   cases rr
   obtain ⟨t, rfl⟩:=r
   obtain ⟨t', rfl⟩:=r'
   exact call_range_2 (range_it I1 q1 q2 q3 q4 q)
def tFor (wi : TI) (g : TG) (tb : TS) : TS:=fun D σ H => wi σ H fun J H1 => ∃ W : Nat -> Nat -> St -> Hp -> Prop, (∃ m, W 0 m σ H1) /\ ∀ i m σ H, W i m σ H ->
 (J.stop i H /\ D.nx σ H) \/ (J.go i H /\ ∃ N : St -> Hp -> Prop, (∀ σ' H', N σ' H' -> ∃ m', m' < m /\ W (i + 1) m' σ' H') /\ ∀ x H', J.yld i H x H' -> g x σ H' fun σ2 H2 => tb { D with nx:=N, ct:=N, bk:=D.nx } σ2 H2)
def pinsAt (fp : List Addr) (h : Heap) : List (Addr × Obj):=fp.filterMap fun b => (h.get? b).map fun o => (b, o)
theorem mem_pinsAt {fp : List Addr} {h : Heap} {b : Addr} {o : Obj} (hb : b ∈ fp) (e : h.get? b = some o) : (b, o) ∈ pinsAt fp h:=List.mem_filterMap.mpr ⟨b, hb, by rw [e]; rfl⟩
theorem of_pinsAt {fp : List Addr} {h : Heap} {p : Addr × Obj} (hp : p ∈ pinsAt fp h) : p.1 ∈ fp /\ h.get? p.1 = some p.2:=by
 obtain ⟨b, hb, e⟩:=List.mem_filterMap.mp hp
 cases q : h.get? b with
 | none => rw [q] at e; cases e
 | some o =>
  rw [q] at e
  have e' : (b, o) = p:=Option.some.inj e
  subst e'
  exact ⟨hb, q⟩
theorem Inv.pinned {pins : List (Addr × Obj)} {σ : St} {H : Hp} {s : Shared} {fp : List Addr} (I : Inv X pins σ H s) (hf : ∀ b ∈ fp, FpOk X pins H b) (ho : ∀ b ∈ fp, ∃ o, s.heap.get? b = some o /\ ∀ v, o.data ≠ .cell v) : Inv X (pins ++ pinsAt fp s.heap) σ H s :=
 I.pins_of fun p hp => (List.mem_append.mp hp).elim (fun z => I.pin p (List.mem_append_right _ z)) fun z => by
  obtain ⟨hb, e⟩:=of_pinsAt z
  obtain ⟨f0, f1, f2, _⟩:=hf p.1 hb
  obtain ⟨o, e', d⟩:=ho p.1 hb
  rw [e] at e'; cases e'
  exact ⟨e, f0, f1, f2, d⟩
theorem Inv.unpinned {pins pl : List (Addr × Obj)} {σ : St} {H : Hp} {s : Shared} (I : Inv X (pins ++ pl) σ H s) : Inv X pins σ H s:=I.pins_of fun p hp => I.pin p (List.mem_append_right _ (List.mem_append_left _ hp))
theorem ps_for {iter : Expr} {body : List Stmt} {wi : TI} {g : TG} {tb : TS} {pos : Pos} (hp : PassesOwn (model X.prog X.w) X.A X.env X.xe) (hc : X.calm = true) (hi : PI X tg iter wi) (hg : PG X tg g) (hb : PSs X body tb)
  (hs : ∀ x, foldedSetIterable iter X.env x = pure x:=by intro _; rfl) : PS X (.For tg iter body [] pos) (tFor wi g tb):=by
 intro pins s σ H D I h
 refine wpAny_For (thn (hi pins s σ H _ I h) fun v s1 h1 => thn h1 fun itv s2 h2 => ?_) hs
 obtain ⟨it, fp, tn, J, H2, e, I2, T, st2, f2, W, ⟨m0, w0⟩, turn⟩:=h2
 subst e
 have stat : ∀ {H' : Hp}, (∀ b ∈ fp, H' b = none) -> ∀ b ∈ fp, FpOk X pins H' b:=fun hn b hb => ⟨hn b hb, (f2 b hb).2⟩
 refine codeAny_forLoop_any (fun n s' => ∃ i σ' H', Inv X pins σ' H' s' /\ tn i s'.heap /\ (∀ b ∈ fp, H' b = none) /\ W i n σ' H') ?_ m0 ⟨0, σ, H2, I2, st2, fun b hb => (f2 b hb).1, w0⟩
 rintro n s3 ⟨i, σ3, H3, I3, st3, fr3, w3⟩
 rcases turn i n σ3 H3 w3 with ⟨stop, qn⟩ | ⟨go, N, hN, step⟩
 ·refine wpAny_passesOwn hp (thn (T.done X rfl rfl rfl hc i pins s3 σ3 H3 X.xe I3 (stat fr3) st3 stop) fun r s4 ⟨hr, I4⟩ => ?_)
  subst hr
  exact wpAny_execs_nil ⟨σ3, H3, I4, qn⟩
 ·refine wpAny_passesOwn hp (thn (T.item X rfl rfl rfl hc i pins s3 σ3 H3 X.xe I3 (stat fr3) st3 go) fun r s4 ⟨u, hr, h4⟩ => ?_)
  subst hr
  refine wpAny_passesOwn hp (thn h4 fun _ s5 ⟨x, H5, I5, r5, y5, st5, fr5⟩ => ?_)
  have I5':=I5.pinned (stat fr5) (T.obj _ _ st5)
  refine wpAny_passesOwn hp (thn (hg _ s5 σ3 H5 x u _ I5' r5 (step x H5 y5)) fun _ s6 ⟨σ6, H6, I6, q6⟩ => ?_)
  refine wpAny_passesOwn hp (thn (hb _ s6 σ6 H6 _ I6 q6) fun f s7 q7 => ?_)
  have again : ∀ {σ7 : St} {H7 : Hp}, Inv X (pins ++ pinsAt fp s5.heap) σ7 H7 s7 -> N σ7 H7 -> ∃ m, m < n /\ ∃ i σ' H', Inv X pins σ' H' s7 /\ tn i s7.heap /\ (∀ b ∈ fp, H' b = none) /\ W i m σ' H':=fun {σ7 H7} I7 n7 => by
   obtain ⟨m', hm, w7⟩:=hN σ7 H7 n7
   refine ⟨m', hm, i + 1, σ7, H7, I7.unpinned, T.keep _ _ _ st5 fun b hb o e => (I7.pin (b, o) (List.mem_append_right _ (List.mem_append_right _ (mem_pinsAt hb e)))).1, fun b hb => ?_, w7⟩
   obtain ⟨o, e, d⟩:=T.obj _ _ st5 b hb
   exact (I7.pin (b, o) (List.mem_append_right _ (List.mem_append_right _ (mem_pinsAt hb e)))).2.1
  cases f with
  | next => obtain ⟨σ7, H7, I7, n7⟩:=q7; exact again I7 n7
  | cont => obtain ⟨σ7, H7, I7, n7⟩:=q7; exact again I7 n7
  | brk => obtain ⟨σ7, H7, I7, q7⟩:=q7; exact ⟨σ7, H7, I7.unpinned, q7⟩
  | ret v => obtain ⟨x7, σ7, H7, I7, r7, q7⟩:=q7; exact ⟨x7, σ7, H7, I7.unpinned, r7, q7⟩
end
theorem for_list {K : PySem.W.Frag} {a : Addr} {xs : List V} {g : TG} {tb : TS} {D : Ends} {σ : St} {H : Hp} (Pv : Nat -> St -> Hp -> Prop) (h0 : Pv 0 σ H) (hl : ∀ i σ H, i <= xs.length -> Pv i σ H -> SqL K H a xs)
  (hs : ∀ i x σ H, xs[i]? = some x -> Pv i σ H -> g x σ H fun σ2 H2 => tb { D with nx:=Pv (i + 1), ct:=Pv (i + 1), bk:=D.nx } σ2 H2) (hd : ∀ σ H, Pv xs.length σ H -> D.nx σ H) :
  ∃ W : Nat -> Nat -> St -> Hp -> Prop, (∃ m, W 0 m σ H) /\ ∀ i m σ H, W i m σ H ->
   ((Itl K a).stop i H /\ D.nx σ H) \/ ((Itl K a).go i H /\ ∃ N : St -> Hp -> Prop, (∀ σ' H', N σ' H' -> ∃ m', m' < m /\ W (i + 1) m' σ' H') /\ ∀ x H', (Itl K a).yld i H x H' -> g x σ H' fun σ2 H2 => tb { D with nx:=N, ct:=N, bk:=D.nx } σ2 H2):=by
 refine ⟨fun i m σ H => m = xs.length - i /\ i <= xs.length /\ Pv i σ H, ⟨xs.length, by simp, Nat.zero_le _, h0⟩, ?_⟩
 rintro i m σ H ⟨rfl, hi, p⟩
 have q:=hl i σ H hi p
 by_cases hlt : i < xs.length
 ·refine .inr ⟨⟨xs, xs[i], q, by simp [hlt]⟩, Pv (i + 1), fun σ' H' p' => ⟨xs.length - (i + 1), by omega, rfl, hlt, p'⟩, fun x H' y => ?_⟩
  obtain ⟨e, y⟩:=y
  subst e
  exact hs i x σ _ (y xs q) p
 ·have e : i = xs.length:=by omega
  subst e
  exact .inl ⟨⟨xs, q, Nat.le_refl _⟩, hd σ H p⟩
theorem for_range {lo : Int} {n : Nat} {g : TG} {tb : TS} {D : Ends} {σ : St} {H : Hp} (Pv : Nat -> St -> Hp -> Prop) (h0 : Pv 0 σ H)
  (hs : ∀ i σ H, i < n -> Pv i σ H -> g (.int (lo + i)) σ H fun σ2 H2 => tb { D with nx:=Pv (i + 1), ct:=Pv (i + 1), bk:=D.nx } σ2 H2) (hd : ∀ σ H, Pv n σ H -> D.nx σ H) :
  ∃ W : Nat -> Nat -> St -> Hp -> Prop, (∃ m, W 0 m σ H) /\ ∀ i m σ H, W i m σ H ->
   ((Itr lo n).stop i H /\ D.nx σ H) \/ ((Itr lo n).go i H /\ ∃ N : St -> Hp -> Prop, (∀ σ' H', N σ' H' -> ∃ m', m' < m /\ W (i + 1) m' σ' H') /\ ∀ x H', (Itr lo n).yld i H x H' -> g x σ H' fun σ2 H2 => tb { D with nx:=N, ct:=N, bk:=D.nx } σ2 H2):=by
 refine ⟨fun i m σ H => m = n - i /\ i <= n /\ Pv i σ H, ⟨n, by simp, Nat.zero_le _, h0⟩, ?_⟩
 rintro i m σ H ⟨rfl, hi, p⟩
 by_cases hlt : i < n
 ·refine .inr ⟨hlt, Pv (i + 1), fun σ' H' p' => ⟨n - (i + 1), by omega, rfl, hlt, p'⟩, fun x H' y => ?_⟩
  obtain ⟨e, y⟩:=y
  subst e y
  exact hs i σ _ hlt p
 ·have e : i = n:=by omega
  subst e
  exact .inl ⟨Nat.le_refl _, hd σ H p⟩
end L2
namespace L2
open PySem PySem.Spec PyProof.Rows
abbrev R2:=V -> V -> Hp -> VK -> Prop
def OpR (X : Cx) (f : Value -> Value -> Sem Value) (r : R2) : Prop :=
 ∀ (pins : List (Addr × Obj)) (s : Shared) (σ : St) (H : Hp) (x y : V) (v u : Value) (Q : VK), Inv X pins σ H s -> RelV x v -> RelV y u -> r x y H Q ->
  wpAny (model X.prog X.w) X.A (f v u) (EP X pins σ Q) X.xe s
def UnR (X : Cx) (f : Value -> Sem Value) (r : V -> Hp -> VK -> Prop) : Prop :=
 ∀ (pins : List (Addr × Obj)) (s : Shared) (σ : St) (H : Hp) (x : V) (v : Value) (Q : VK), Inv X pins σ H s -> RelV x v -> r x H Q ->
  wpAny (model X.prog X.w) X.A (f v) (EP X pins σ Q) X.xe s
def CallR (X : Cx) (f : Value) (r : List V -> Hp -> VK -> Prop) : Prop :=
 ∀ (pins : List (Addr × Obj)) (s : Shared) (σ : St) (H : Hp) (xs : List V) (us : List Value) (Q : VK), Inv X pins σ H s -> Vals xs us -> r xs H Q ->
  wpAny (model X.prog X.w) X.A (call f us) (EP X pins σ Q) X.xe s
def TruR (X : Cx) (r : V -> Hp -> (Bool -> Hp -> Prop) -> Prop) : Prop :=
 ∀ (pins : List (Addr × Obj)) (s : Shared) (σ : St) (H : Hp) (x : V) (v : Value) (Q : Bool -> Hp -> Prop), Inv X pins σ H s -> RelV x v -> r x H Q ->
  wpAny (model X.prog X.w) X.A (truthy v) (TP X pins σ Q) X.xe s
def tOp (r : R2) (ta tb : TE) : TE:=fun σ H Q => ta σ H fun x H1 => tb σ H1 fun y H2 => r x y H2 Q
def tUn (r : V -> Hp -> VK -> Prop) (ta : TE) : TE:=fun σ H Q => ta σ H fun x H1 => r x H1 Q
def rI (C : Int -> Int -> Prop) (g : Int -> Int -> V) : R2:=fun x y H Q => ∃ i j, x = .int i /\ y = .int j /\ C i j /\ Q (g i j) H
def rI0 (g : Int -> Int -> V) : R2:=fun x y H Q => ∃ i j, x = .int i /\ y = .int j /\ Q (g i j) H
def rU (g : Int -> V) : V -> Hp -> VK -> Prop:=fun x H Q => ∃ i, x = .int i /\ Q (g i) H
section
variable {X : Cx} {a b c : Expr} {ta tb tc : TE} {pos : Pos}
theorem binT (ha : PE X a ta) (hb : PE X b tb) {pins : List (Addr × Obj)} {s : Shared} {σ : St} {H : Hp} {R : V -> V -> Hp -> Prop} (I : Inv X pins σ H s)
  (h : ta σ H fun x H1 => tb σ H1 fun y H2 => R x y H2) {Q : Value -> Shared -> Prop} {f : Value -> Value -> Sem Value}
  (hf : ∀ v u s2 x y H2, Inv X pins σ H2 s2 -> RelV x v -> RelV y u -> R x y H2 -> wpAny (model X.prog X.w) X.A (f v u) Q X.xe s2) :
  wpAny (model X.prog X.w) X.A (eval a X.env) (fun v s₁ => wpAny (model X.prog X.w) X.A (eval b X.env) (fun u s₂ => wpAny (model X.prog X.w) X.A (f v u) Q X.xe s₂) X.xe s₁) X.xe s:=by
 refine thn (ha pins s σ H _ I h) fun v s1 ⟨x, H1, I1, r1, q1⟩ => ?_
 refine thn (hb pins s1 σ H1 _ I1 q1) fun u s2 ⟨y, H2, I2, r2, q2⟩ => ?_
 exact hf v u s2 x y H2 I2 r1 r2 q2
theorem pe_op {op : Operator} {r : R2} (ho : OpR X (binaryOp op) r) (ha : PE X a ta) (hb : PE X b tb) : PE X (.BinOp a op b pos) (tOp r ta tb):=by
 intro pins s σ H Q I h
 exact wpAny_BinOp (binT ha hb I h fun v u s2 x y H2 I2 rx ry q => ho pins s2 σ H2 x y v u Q I2 rx ry q)
theorem pe_un {op : UnaryOp} {r : V -> Hp -> VK -> Prop} (ho : UnR X (unaryOp op) r) (ha : PE X a ta) : PE X (.UnaryOp op a pos) (tUn r ta):=by
 intro pins s σ H Q I h
 exact UnaryOp_ (thn (ha pins s σ H _ I h) fun v s1 ⟨x, H1, I1, r1, q1⟩ => ho pins s1 σ H1 x v Q I1 r1 q1)
theorem opI {f : Value -> Value -> Sem Value} {C : Int -> Int -> Prop} {g : Int -> Int -> Int}
  (rule : ∀ (i j : Int) (t u : Tok) (s : Shared) (Q : Value -> Shared -> Prop) (E : Value -> Shared -> Prop), C i j -> Q (.int (g i j) s.toks) { s with toks:=s.toks + 1 } -> wpAny (model X.prog X.w) X.A (f (.int i t) (.int j u)) Q E s) :
  OpR X f (rI C fun i j => .int (g i j)):=by
 intro pins s σ H x y v u Q I rx ry h
 obtain ⟨i, j, rfl, rfl, hc, q⟩:=h
 obtain ⟨t, rfl⟩:=rx
 obtain ⟨t', rfl⟩:=ry
 exact rule i j t t' s _ _ hc ⟨.int (g i j), H, I.tok _, ⟨_, rfl⟩, q⟩
theorem opI0 {f : Value -> Value -> Sem Value} {g : Int -> Int -> Int}
  (rule : ∀ (i j : Int) (t u : Tok) (s : Shared) (Q : Value -> Shared -> Prop) (E : Value -> Shared -> Prop), Q (.int (g i j) s.toks) { s with toks:=s.toks + 1 } -> wpAny (model X.prog X.w) X.A (f (.int i t) (.int j u)) Q E s) :
  OpR X f (rI0 fun i j => .int (g i j)):=by
 intro pins s σ H x y v u Q I rx ry h
 obtain ⟨i, j, rfl, rfl, q⟩:=h
 obtain ⟨t, rfl⟩:=rx
 obtain ⟨t', rfl⟩:=ry
 exact rule i j t t' s _ _ ⟨.int (g i j), H, I.tok _, ⟨_, rfl⟩, q⟩
theorem opB0 {f : Value -> Value -> Sem Value} {g : Int -> Int -> Bool}
  (rule : ∀ (i j : Int) (t u : Tok) (s : Shared) (Q : Value -> Shared -> Prop) (E : Value -> Shared -> Prop), Q (.bool (g i j)) s -> wpAny (model X.prog X.w) X.A (f (.int i t) (.int j u)) Q E s) :
  OpR X f (rI0 fun i j => .bl (g i j)):=by
 intro pins s σ H x y v u Q I rx ry h
 obtain ⟨i, j, rfl, rfl, q⟩:=h
 obtain ⟨t, rfl⟩:=rx
 obtain ⟨t', rfl⟩:=ry
 exact rule i j t t' s _ _ ⟨.bl (g i j), H, I, rfl, q⟩
def CPow (i j : Int) : Prop:=0 <= j /\ j <= 1000000 /\ i.natAbs < 2 ^ 64
def CMul (i j : Int) : Prop:=(-(2 ^ 64) < i /\ i < 2 ^ 64) \/ (-(2 ^ 64) < j /\ j < 2 ^ 64)
theorem CMul.ok {i j : Int} (h : CMul i j) : IntMulOk i j:=by
 rcases h with ⟨h1, h2⟩ | ⟨h1, h2⟩
 ·exact .of_left (intBits_le_64 h1 h2)
 ·exact .of_right (intBits_le_64 h1 h2)
theorem op_add : OpR X (binaryOp .Add) (rI0 fun i j => .int (i + j)):=opI0 fun _ _ _ _ _ _ _ q => add_int q
theorem op_sub : OpR X (binaryOp .Sub) (rI0 fun i j => .int (i - j)):=opI0 fun _ _ _ _ _ _ _ q => sub_int q
theorem op_mul : OpR X (binaryOp .Mult) (rI CMul fun i j => .int (i * j)):=opI fun _ _ _ _ _ _ _ hc q => mul_int q hc.ok
theorem op_mod : OpR X (binaryOp .Mod) (rI (fun _ j => 0 < j) fun i j => .int (i % j)):=opI fun i j _ _ _ _ _ hc q => by
 have h1 : (0 : Int) < j:=hc
 exact mod_int' (by omega) (by rw [Int.fmod_eq_emod_of_nonneg i (by omega)]; exact q)
theorem op_shl : OpR X (binaryOp .LShift) (rI CPow fun i j => .int (i * 2 ^ j.toNat)):=opI fun _ _ _ _ _ _ _ hc q => lshift_int_small hc.1 hc.2.1 hc.2.2 q
theorem unI {f : Value -> Sem Value} {g : Int -> Int}
  (rule : ∀ (i : Int) (t : Tok) (s : Shared) (Q : Value -> Shared -> Prop) (E : Value -> Shared -> Prop), Q (.int (g i) s.toks) { s with toks:=s.toks + 1 } -> wpAny (model X.prog X.w) X.A (f (.int i t)) Q E s) :
  UnR X f (rU fun i => .int (g i)):=by
 intro pins s σ H x v Q I rx h
 obtain ⟨i, rfl, q⟩:=h
 obtain ⟨t, rfl⟩:=rx
 exact rule i t s _ _ ⟨.int (g i), H, I.tok _, ⟨_, rfl⟩, q⟩
theorem un_neg : UnR X (unaryOp .USub) (rU fun i => .int (-i)):=unI fun _ _ _ _ _ q => neg_int q
end
def scal : V -> V -> Bool
 | .non, .non => true | .non, .int _ => true | .int _, .non => true | .non, .bl _ => true | .bl _, .non => true | .non, .str _ => true | .str _, .non => true
 | .int _, .int _ => true | .bl _, .bl _ => true | .str _, .str _ => true | .byt _, .byt _ => true
 | .int _, .str _ => true | .str _, .int _ => true | .bl _, .str _ => true | .str _, .bl _ => true
 | _, _ => false
def rEq : R2:=fun x y H Q => scal x y = true /\ Q (.bl (decide (x = y))) H
def rNe : R2:=fun x y H Q => scal x y = true /\ Q (.bl (!decide (x = y))) H
theorem dec_int {i j : Int} : decide (V.int i = V.int j) = (i == j):=by
 rw [Bool.eq_iff_iff]
 simp
theorem dec_bl {i j : Bool} : decide (V.bl i = V.bl j) = (i == j):=by
 rw [Bool.eq_iff_iff]
 simp
theorem dec_str {i j : Str} : decide (V.str i = V.str j) = (i == j):=by
 rw [Bool.eq_iff_iff]
 simp
theorem dec_byt {i j : Array UInt8} : decide (V.byt i = V.byt j) = (i.toList == j.toList):=by
 rw [Bool.eq_iff_iff]
 cases i
 cases j
 simp
section
variable {X : Cx} {a b c : Expr} {ta tb tc : TE} {pos : Pos}
theorem fin_bl {pins : List (Addr × Obj)} {σ : St} {H : Hp} {s : Shared} {Q : VK} {k k' : Bool} (I : Inv X pins σ H s) (q : Q (.bl k) H) (e : k = k') : EP X pins σ Q (.bool k') s:=by
 subst e
 exact ⟨.bl k, H, I, rfl, q⟩
theorem op_eq : OpR X (compareOp .Eq) rEq:=by
 intro pins s σ H x y v u Q I rx ry h
 obtain ⟨hs, q⟩:=h
 cases x with
 | non =>
  cases rx
  cases y with
  | non => cases ry; exact PySem.EqNone.eq_none_none (fin_bl I q (by simp))
  | bl j => cases ry; exact PySem.EqNone.eq_none_bool (fin_bl I q (by simp))
  | int j => obtain ⟨t', rfl⟩:=ry; exact PySem.EqNone.eq_none_int (fin_bl I q (by simp))
  | str j => obtain ⟨t', rfl⟩:=ry; exact PySem.EqNone.eq_none_str (fin_bl I q (by simp))
  | _ => exact absurd (show false = true from hs) Bool.false_ne_true
 | bl i =>
  cases rx
  cases y with
  | non => cases ry; exact PySem.EqNone.eq_bool_none (fin_bl I q (by simp))
  | bl j => cases ry; exact eq_bool (fin_bl I q dec_bl)
  | str j => obtain ⟨t', rfl⟩:=ry; exact PySem.EqMixed.eq_bool_str (fin_bl I q (by simp))
  | _ => exact absurd (show false = true from hs) Bool.false_ne_true
 | int i =>
  obtain ⟨t, rfl⟩:=rx
  cases y with
  | non => cases ry; exact PySem.EqNone.eq_int_none (fin_bl I q (by simp))
  | int j => obtain ⟨t', rfl⟩:=ry; exact eq_int (fin_bl I q dec_int)
  | str j => obtain ⟨t', rfl⟩:=ry; exact PySem.EqMixed.eq_int_str (fin_bl I q (by simp))
  | _ => exact absurd (show false = true from hs) Bool.false_ne_true
 | str i =>
  obtain ⟨t, rfl⟩:=rx
  cases y with
  | non => cases ry; exact PySem.EqNone.eq_str_none (fin_bl I q (by simp))
  | bl j => cases ry; exact PySem.EqMixed.eq_str_bool (fin_bl I q (by simp))
  | int j => obtain ⟨t', rfl⟩:=ry; exact PySem.EqMixed.eq_str_int (fin_bl I q (by simp))
  | str j => obtain ⟨t', rfl⟩:=ry; exact eq_str (fin_bl I q dec_str)
  | _ => exact absurd (show false = true from hs) Bool.false_ne_true
 | byt i =>
  obtain ⟨t, rfl⟩:=rx
  cases y with
  | byt j => obtain ⟨t', rfl⟩:=ry; exact PySem.W.eq_bytes (fin_bl I q dec_byt)
  | _ => exact absurd (show false = true from hs) Bool.false_ne_true
 | _ => cases y <;> exact absurd (show false = true from hs) Bool.false_ne_true
theorem op_ne : OpR X (compareOp .NotEq) rNe:=by
 intro pins s σ H x y v u Q I rx ry h
 obtain ⟨hs, q⟩:=h
 cases x with
 | non =>
  cases rx
  cases y with
  | non => cases ry; exact PySem.EqNone.ne_none_none (fin_bl I q (by simp))
  | bl j => cases ry; exact PySem.EqNone.ne_none_bool (fin_bl I q (by simp))
  | int j => obtain ⟨t', rfl⟩:=ry; exact PySem.EqNone.ne_none_int (fin_bl I q (by simp))
  | str j => obtain ⟨t', rfl⟩:=ry; exact PySem.EqNone.ne_none_str (fin_bl I q (by simp))
  | _ => exact absurd (show false = true from hs) Bool.false_ne_true
 | bl i =>
  cases rx
  cases y with
  | non => cases ry; exact PySem.EqNone.ne_bool_none (fin_bl I q (by simp))
  | bl j => cases ry; exact ne_bool (fin_bl I q (congrArg not dec_bl))
  | str j => obtain ⟨t', rfl⟩:=ry; exact PySem.EqMixed.ne_bool_str (fin_bl I q (by simp))
  | _ => exact absurd (show false = true from hs) Bool.false_ne_true
 | int i =>
  obtain ⟨t, rfl⟩:=rx
  cases y with
  | non => cases ry; exact PySem.EqNone.ne_int_none (fin_bl I q (by simp))
  | int j => obtain ⟨t', rfl⟩:=ry; exact ne_int (fin_bl I q (congrArg not dec_int))
  | str j => obtain ⟨t', rfl⟩:=ry; exact PySem.EqMixed.ne_int_str (fin_bl I q (by simp))
  | _ => exact absurd (show false = true from hs) Bool.false_ne_true
 | str i =>
  obtain ⟨t, rfl⟩:=rx
  cases y with
  | non => cases ry; exact PySem.EqNone.ne_str_none (fin_bl I q (by simp))
  | bl j => cases ry; exact PySem.EqMixed.ne_str_bool (fin_bl I q (by simp))
  | int j => obtain ⟨t', rfl⟩:=ry; exact PySem.EqMixed.ne_str_int (fin_bl I q (by simp))
  | str j => obtain ⟨t', rfl⟩:=ry; exact ne_str (fin_bl I q (congrArg not dec_str))
  | _ => exact absurd (show false = true from hs) Bool.false_ne_true
 | byt i =>
  obtain ⟨t, rfl⟩:=rx
  cases y with
  | byt j => obtain ⟨t', rfl⟩:=ry; exact PySem.W.ne_bytes (fin_bl I q (congrArg not dec_byt))
  | _ => exact absurd (show false = true from hs) Bool.false_ne_true
 | _ => cases y <;> exact absurd (show false = true from hs) Bool.false_ne_true
theorem op_lt : OpR X (compareOp .Lt) (rI0 fun i j => .bl (decide (i < j))):=opB0 fun _ _ _ _ _ _ _ q => lt_int q
theorem op_le : OpR X (compareOp .LtE) (rI0 fun i j => .bl (decide (i <= j))):=opB0 fun _ _ _ _ _ _ _ q => le_int q
theorem op_gt : OpR X (compareOp .Gt) (rI0 fun i j => .bl (decide (j < i))):=opB0 fun _ _ _ _ _ _ _ q => gt_int q
theorem op_ge : OpR X (compareOp .GtE) (rI0 fun i j => .bl (decide (j <= i))):=opB0 fun _ _ _ _ _ _ _ q => ge_int q
theorem nomark (b : Expr) {op : CmpOp} (h : op ≠ .In:=by decide) (h2 : op ≠ .NotIn:=by decide) : behindInMarks op b = false:=by
 have e1 : (op == CmpOp.In) = false:=by cases op <;> first | rfl | exact absurd rfl h
 have e2 : (op == CmpOp.NotIn) = false:=by cases op <;> first | rfl | exact absurd rfl h2
 cases b <;> simp [behindInMarks, e1, e2]
theorem pe_cmpR {op : CmpOp} {r : R2} (ho : OpR X (compareOp op) r) (ha : PE X a ta) (hb : PE X b tb) (hm : behindInMarks op b = false) : PE X (.Compare a [op] [b] pos) (tOp r ta tb):=by
 intro pins s σ H Q I h
 exact wpAny_Compare1 (binT ha hb I h fun v u s2 x y H2 I2 rx ry q => ho pins s2 σ H2 x y v u Q I2 rx ry q) hm
def tTest (t : TE) : TT:=fun σ H Q => t σ H fun x H' => ∃ k, x = .bl k /\ Q k H'
theorem pt_cmpR {op : CmpOp} {r : R2} (ho : OpR X (compareOp op) r) (ha : PE X a ta) (hb : PE X b tb) (hm : behindInMarks op b = false) : PT X (.Compare a [op] [b] pos) (tTest (tOp r ta tb)):=by
 intro pins s σ H Q I h
 refine wpAny_isTrue_Compare1 (thn (ha pins s σ H _ I h) fun v s1 ⟨x, H1, I1, r1, q1⟩ => thn (hb pins s1 σ H1 _ I1 q1) fun u s2 ⟨y, H2, I2, r2, q2⟩ =>
  thn (ho pins s2 σ H2 x y v u _ I2 r1 r2 q2) fun c s3 ⟨z, H3, I3, r3, k, e, q3⟩ => ?_) hm
 subst e
 cases r3
 exact wpAny_truthy_bool ⟨H3, I3, q3⟩
def tChain (r r' : R2) (ta tb tc : TE) : TE:=fun σ H Q => ta σ H fun x H1 => tb σ H1 fun y H2 => r x y H2 fun z H3 => ∃ k, z = .bl k /\
 (if k = true then tc σ H3 fun w' H4 => r' y w' H4 Q else Q (.bl false) H3)
theorem pe_chain {op op' : CmpOp} {r r' : R2} (ho : OpR X (compareOp op) r) (ho' : OpR X (compareOp op') r') (ha : PE X a ta) (hb : PE X b tb) (hc : PE X c tc)
  (hm : lastMarks [op, op'] [b, c] = false:=by with_unfolding_all rfl) : PE X (.Compare a [op, op'] [b, c] pos) (tChain r r' ta tb tc):=by
 intro pins s σ H Q I h
 refine Compare_chain (thn (ha pins s σ H _ I h) fun v s1 ⟨x, H1, I1, r1, q1⟩ => chain_link (thn (hb pins s1 σ H1 _ I1 q1) fun u s2 ⟨y, H2, I2, r2, q2⟩ =>
  thn (ho pins s2 σ H2 x y v u _ I2 r1 r2 q2) fun d s3 ⟨z, H3, I3, r3, k, e, q3⟩ => ?_)) hm
 subst e
 cases r3
 refine wpAny_truthy_bool ?_
 cases k with
 | false => exact ite_ff ⟨.bl false, H3, I3, rfl, q3⟩
 | true => exact ite_tt (chain_last (thn (hc pins s3 σ H3 _ I3 q3) fun w' s4 ⟨z', H4, I4, r4, q4⟩ => ho' pins s4 σ H4 y z' u w' Q I4 r2 r4 q4))
def TruV (K : PySem.W.Frag) (x : V) (H : Hp) (k : Bool) : Prop :=
 match x with
 | .non => k = false
 | .bl b => k = b
 | .int i => k = (i != 0)
 | .str y => y.length <= sizeLine /\ k = ((y.length : Int) != 0)
 | .byt y => y.size <= sizeLine /\ k = ((y.size : Int) != 0)
 | .ref p => (∃ xs, SqL K H p xs /\ k = !xs.isEmpty) \/ (∃ xs, SqT K H p xs /\ k = !xs.isEmpty) \/ ∃ kvs, H p = some (.dK kvs) /\ k = !kvs.isEmpty
 | _ => False
theorem isEmpty_kv {κ : Type} {kvs : List (κ × V)} {vs : List (κ × Value)} (r : KV kvs vs) : (!vs.isEmpty) = !kvs.isEmpty:=by
 cases r <;> rfl
theorem isEmpty_of {xs : List V} {its : List Value} (r : Vals xs its) : (!its.toArray.isEmpty) = !xs.isEmpty:=by
 cases r <;> simp
theorem line63 : (sizeLine : Nat) < 2 ^ 63:=by rw [sizeLine_eq]; decide
theorem tru_ok : TruR X (fun x H Q => ∃ k, TruV X.K x H k /\ Q k H):=by
 intro pins s σ H x v Q I rx h
 obtain ⟨k, e, q⟩:=h
 have hl:=line63
 have hs : sizeLine = 16777216:=sizeLine_eq
 cases x with
 | non =>
  cases rx
  have e' : k = false:=e
  subst e'
  exact truthy_none ⟨H, I, q⟩
 | bl b =>
  cases rx
  have e' : k = b:=e
  subst e'
  exact wpAny_truthy_bool ⟨H, I, q⟩
 | int i =>
  obtain ⟨t, rfl⟩:=rx
  have e' : k = (i != 0):=e
  subst e'
  exact PySem.P.truthy_int ⟨H, I, q⟩
 | str y =>
  obtain ⟨t, rfl⟩:=rx
  obtain ⟨hy, e'⟩ : y.length <= sizeLine /\ k = ((y.length : Int) != 0):=e
  subst e'
  exact PySem.P.truthy_str (by omega) ⟨H, I.tok _, q⟩
 | byt y =>
  obtain ⟨t, rfl⟩:=rx
  obtain ⟨hy, e'⟩ : y.size <= sizeLine /\ k = ((y.size : Int) != 0):=e
  subst e'
  exact PySem.W.truthy_bytes (by omega) ⟨H, I.tok _, q⟩
 | ref p =>
  cases rx
  have e' : (∃ xs, SqL X.K H p xs /\ k = !xs.isEmpty) \/ (∃ xs, SqT X.K H p xs /\ k = !xs.isEmpty) \/ ∃ kvs, H p = some (.dK kvs) /\ k = !kvs.isEmpty:=e
  rcases e' with ⟨xs, hx, e'⟩ | ⟨xs, hx, e'⟩ | ⟨kvs, hx, e'⟩
  ·subst e'
   obtain ⟨its, r, pl, hz⟩:=I.list hx
   have hlen:=r.length
   exact wpAny_truthy_list pl.isList (by simp only [List.size_toArray]; omega) ⟨H, I.tok _, by rw [isEmpty_of r]; exact q⟩
  ·subst e'
   obtain ⟨its, r, pl, hz⟩:=I.tuple hx
   have hlen:=r.length
   exact truthy_tuple pl (by simp only [List.size_toArray]; omega) ⟨H, I.tok _, by rw [isEmpty_of r]; exact q⟩
  ·subst e'
   obtain ⟨hz, hS, vs, r, m⟩ : kvs.length <= sizeLine /\ (p == sysModules) = false /\ ∃ vs, KV kvs vs /\ s.heap.DictOf (mixKind X.prog X.w) p vs:=I.hok p _ hx
   have hlen : kvs.length = vs.length:=Paired.length r
   exact wpAny_truthy_dict hS m (by omega) ⟨H, I.tok _, by rw [isEmpty_kv r]; exact q⟩
 | _ => exact (show False from e).elim
theorem pt_truth (ha : PE X a ta) (he : ∀ whole, isTrue a X.env whole = (do let v <- whole; standAt a.pos; holding [v] (truthy v))) :
  PT X a (fun σ H Q => ta σ H fun x H' => ∃ k, TruV X.K x H' k /\ Q k H'):=by
 intro pins s σ H Q I h
 exact isTrue_plain (thn (ha pins s σ H _ I h) fun v s1 ⟨x, H1, I1, r1, q1⟩ => tru_ok pins s1 σ H1 x v Q I1 r1 q1) (he _)
theorem vals1 {x : V} {us : List Value} (r : Vals [x] us) : ∃ u, us = [u] /\ RelV x u:=by
 cases r with
 | cons r1 r2 => cases r2; exact ⟨_, rfl, r1⟩
theorem vals2 {x y : V} {us : List Value} (r : Vals [x, y] us) : ∃ u w', us = [u, w'] /\ RelV x u /\ RelV y w':=by
 cases r with
 | cons r1 r2 =>
  cases r2 with
  | cons r3 r4 => cases r4; exact ⟨_, _, rfl, r1, r3⟩
theorem call_abs : CallR X (.builtin "abs") (fun xs H Q => ∃ i, xs = [.int i] /\ Q (.int (if i < 0 then -i else i)) H):=by
 intro pins s σ H xs us Q I r h
 obtain ⟨i, rfl, q⟩:=h
 obtain ⟨u, rfl, t, rfl⟩:=vals1 r
 exact call_abs_int fun u tk => ⟨.int (if i < 0 then -i else i), H, I.tok _, ⟨_, rfl⟩, q⟩
theorem call_max2 (hc : X.calm = true) : CallR X (.builtin "max") (fun xs H Q => ∃ i j, xs = [.int i, .int j] /\ Q (.int (if j > i then j else i)) H):=by
 intro pins s σ H xs us Q I r h
 obtain ⟨i, j, rfl, q⟩:=h
 obtain ⟨u, w', rfl, ⟨t, rfl⟩, ⟨t', rfl⟩⟩:=vals2 r
 refine max_two_ints (I.ok.hd hc) fun h' tk k => ⟨_, H, I.kept k, ?_, q⟩
 by_cases hj : j > i
 ·rw [if_pos hj, if_pos hj]; exact ⟨_, rfl⟩
 ·rw [if_neg hj, if_neg hj]; exact ⟨_, rfl⟩
end
end L2
namespace L2
open PySem PySem.Spec PyProof.Rows
theorem RelO.some_of {v : V} {o : Option Value} (r : RelO (some v) o) : ∃ u, o = some u /\ RelV v u:=by
 cases o with
 | none => exact (show False from r).elim
 | some u => exact ⟨u, rfl, r⟩
end L2
namespace L2
open PySem PySem.Spec PyProof.Rows
structure Room (k : Nat) (A : Around) : Prop where
 hd : A.handled = none
 dp : A.depth + 3 * k + 5 < recursionLimit
 un : A.units + 16 * k + 200 < cLine
theorem Room.mono {j k : Nat} {A : Around} (r : Room k A) (h : j <= k) : Room j A:=⟨r.hd, by have:=r.dp; omega, by have:=r.un; omega⟩
theorem Room.deeper {k : Nat} {A : Around} (r : Room (k + 1) A) (env : Env) : Room k (A.deeper env) :=
 ⟨r.hd, by have:=r.dp; show A.depth + 1 + 3 * k + 5 < _; omega, by have:=r.un; show A.units + 3 + 16 * k + 200 < _; omega⟩
theorem Room.depth {k : Nat} {A : Around} (r : Room k A) : A.depth < recursionLimit:=by have:=r.dp; omega
theorem Room.units {k : Nat} {A : Around} (r : Room k A) : A.units + 64 < cLine:=by have:=r.un; omega
def tNil : TA:=fun _ H Q => Q [] H
def tCons (ta : TE) (tr : TA) : TA:=fun σ H Q => ta σ H fun x H1 => tr σ H1 fun xs H2 => Q (x :: xs) H2
section
variable {X : Cx} {e : Expr} {es : List Expr} {te : TE} {t : TA} {pos : Pos}
theorem pa_nil : PA X [] tNil:=fun _ _ _ _ H Q I h => Calls.spliced_nil ⟨[], H, I, .nil, h⟩
theorem pa_cons (ha : PE X e te) (hr : PA X es t) (hs : starEach (e :: es) X.env = (false, eval e X.env) :: starEach es X.env:=by rfl) : PA X (e :: es) (tCons te t):=by
 intro pos pins s σ H Q I h
 rw [hs]
 show wpAny _ _ (spliced ((false, eval e X.env) :: backTo pos (starEach es X.env))) _ _ s
 refine Calls.spliced_cons (thn (ha pins s σ H _ I h) fun u s1 ⟨x, H1, I1, r1, q1⟩ => ?_)
 exact thn (hr pos pins s1 σ H1 _ I1 q1) fun us s2 ⟨xs, H2, I2, r2, q2⟩ => ⟨x :: xs, H2, I2, .cons r1 r2, q2⟩
def tTup (t : TA) : TE:=fun σ H Q => t σ H fun xs H1 => xs.length <= sizeLine /\ ∀ p, H1 p = none -> Q (.ref p) (upd H1 p (.tup xs))
def tLst (t : TA) : TE:=fun σ H Q => t σ H fun xs H1 => xs.length <= sizeLine /\ ∀ p, H1 p = none -> Q (.ref p) (upd H1 p (.lst xs))
theorem pe_tup {x1} (h : PA X es t) : PE X (.Tuple es x1 pos) (tTup t):=by
 intro pins s σ H Q I hq
 refine wpAny_Tuple_spliced (thn (h pos pins s σ H _ I hq) fun us s1 ⟨xs, H1, I1, r, z, q⟩ => ⟨by rw [<- r.length]; exact z, ?_⟩)
 have hf : H1 s1.heap.objs.size = none:=I1.hok.fresh (Nat.le_refl _)
 refine ⟨.ref s1.heap.objs.size, upd H1 s1.heap.objs.size (.tup xs), I1.laid (t':=s1.toks) (fun b u e => Heap.get?_push_of_some _ e) (Nat.le_refl _) ?_, rfl, q _ hf⟩
 exact ⟨z, us, r, ⟨_, Heap.get?_push_size _ rfl, rfl, _, rfl⟩⟩
theorem pe_lst (h : PA X es t) : PE X (.List es pos) (tLst t):=by
 intro pins s σ H Q I hq
 refine wpAny_List_spliced (thn (h pos pins s σ H _ I hq) fun us s1 ⟨xs, H1, I1, r, z, q⟩ => ⟨by rw [<- r.length]; exact z, ?_⟩)
 have hf : H1 s1.heap.objs.size = none:=I1.hok.fresh (Nat.le_refl _)
 refine ⟨.ref s1.heap.objs.size, upd H1 s1.heap.objs.size (.lst xs), I1.laid (t':=s1.toks) (fun b u e => Heap.get?_push_of_some _ e) (Nat.le_refl _) ?_, rfl, q _ hf⟩
 exact ⟨z, us, 0, r, Heap.get?_push_size _ rfl⟩
end
abbrev Sp:=List V -> Hp -> VK -> XK -> Prop
abbrev CXT:=List Env -> Hp -> Shared -> XK -> Value -> Shared -> Prop
structure Env0 (P : Program) (w : World) (K : PySem.W.Frag) (mg : Str -> Option Value) (base : Heap) (A : Around) (outer : List Env) (s : Shared) (H : Hp) : Prop where
 frames : A.frames = some outer
 mod : Mod K mg base
 bs : ∀ b o, base.get? b = some o -> s.heap.get? b = some o /\ H b = none
 bsz : base.objs.size <= s.heap.objs.size
 funs : s.heap.FunFrames base outer
 frf : ∀ b ∈ frs outer, H b = none
 hok : HOk P w H s.heap
 bare : AllBare s.gens
def CE (outer : List Env) (P : Program) (w : World) (H : Hp) (s : Shared) (Q : VK) (u : Value) (s' : Shared) : Prop :=
 ∃ v H', s'.os = s.os /\ AllBare s'.gens /\ Un (frs outer) [] H H' s.heap s'.heap /\ HOk P w H' s'.heap /\ RelV v u /\ Q v H'
def CR (CX : CXT) (outer : List Env) (P : Program) (w : World) (H : Hp) (s : Shared) (Q : VK) (E : XK) (r : Result) (s' : Shared) : Prop :=
 match r with
 | .ok (.ret u) => CE outer P w H s Q u s'
 | .ok _ => False
 | .error e => CX outer H s E e s'
structure FnOk (P : Program) (w : World) (K : PySem.W.Frag) (mg : Str -> Option Value) (base : Heap) (CX : CXT) (k : Nat) (f : Addr) (fd : FuncData) (ps : List Str) (sp : Sp) : Prop where
 len : ∀ vs H Q E, sp vs H Q E -> vs.length = ps.length
 run : ∀ (A : Around) (outer : List Env) (s : Shared) (H : Hp) (args : Args) (us : List Value) (vs : List V) (Q : VK) (E : XK), Room k A -> Env0 P w K mg base A outer s H -> BindsTo s fd args (ps.zip us) -> Vals vs us -> sp vs H Q E ->
  codeAny (model P w) A (.call (.ref f) args) (CR CX outer P w H s Q E) s
section
variable {X : Cx} {pins : List (Addr × Obj)} {σ : St} {H : Hp} {s s' : Shared}
theorem Inv.env0 (I : Inv X pins σ H s) : Env0 X.prog X.w X.K X.mg X.base X.A X.stack s H :=
 ⟨I.ok.frames, I.ok.mod, I.bs, Nat.le_trans I.ok.bsz I.sz, I.stack, I.stkFree, I.hok, I.bare⟩
theorem Inv.after {Q : VK} {u : Value} (I : Inv X pins σ H s) (h : CE X.stack X.prog X.w H s Q u s') : EP X pins σ Q u s':=by
 obtain ⟨v, H', os, bare, un, hok, r, q⟩:=h
 obtain ⟨hh, g, d, t, os'⟩:=s'
 obtain rfl : os' = s.os:=os
 exact ⟨v, H', I.call (h':=hh) (g':=g) (d':=d) (t':=t) (ch:=[]) un hok bare (fun b z => absurd z (by simp)), r, q⟩
end
def tCall (sp : Sp) (dvs : List V) (E : XK) (t : TA) : TE:=fun σ H Q => t σ H fun vs H1 => sp (vs ++ dvs) H1 Q E
def Binds (K : PySem.W.Frag) (fd : FuncData) (ps : List Str) (ds : List Value) : Prop :=
 ∀ (s : Shared) (us : List Value), K.In s.heap -> (us ++ ds).length = ps.length -> BindsTo s fd ⟨us, []⟩ (ps.zip (us ++ ds))
theorem Binds.all {K : PySem.W.Frag} {fd : FuncData} {ps : List Str} (h : ∀ us : List Value, us.length = ps.length -> bindArgs fd ⟨us, []⟩ = pure (ps.zip us)) : Binds K fd ps []:=fun s us _ hl => by
 rw [List.append_nil] at hl ⊢
 exact .of_eq (h us hl)
def Passes (CX : CXT) (X : Cx) (E : XK) : Prop:=∀ (pins : List (Addr × Obj)) (σ : St) (H : Hp) (s : Shared) (e : Value) (s' : Shared), Inv X pins σ H s -> CX X.stack H s E e s' -> X.xe e s'
section
variable {X : Cx} {CX : CXT} {k : Nat} {f C : Addr} {fd : FuncData} {ps : List Str} {sp : Sp} {dvs : List V} {ds : List Value} {E : XK} {x m : Str} {p pos apos : Pos} {e o : Expr} {es : List Expr} {ta : TE} {t : TA}
theorem run_fn {pins : List (Addr × Obj)} {σ : St} {H : Hp} {s : Shared} {Q : VK} {us : List Value} {vs : List V} (F : FnOk X.prog X.w X.K X.mg X.base CX k f fd ps sp) (hr : Room k X.A) (hb : Binds X.K fd ps ds) (hd : Vals dvs ds) (hx : Passes CX X E)
  (I : Inv X pins σ H s) (r : Vals vs us) (h : sp (vs ++ dvs) H Q E) : wpAny (model X.prog X.w) X.A (call (.ref f) us) (EP X pins σ Q) X.xe s:=by
 have r2 : Vals (vs ++ dvs) (us ++ ds):=r.append hd
 have hl : (us ++ ds).length = ps.length:=by rw [<- r2.length]; exact F.len _ _ _ _ h
 refine wpAny_call (codeAny_mono (F.run X.A X.stack s H ⟨us, []⟩ (us ++ ds) (vs ++ dvs) Q E hr I.env0 (hb s us I.kIn hl) r2 h) fun r s' hq => ?_)
 cases r with
 | error e => exact hx pins σ H s e s' I hq
 | ok fl =>
  cases fl with
  | ret u => exact I.after hq
  | next => exact False.elim hq
  | brk => exact False.elim hq
  | cont => exact False.elim hq
theorem pe_call (F : FnOk X.prog X.w X.K X.mg X.base CX k f fd ps sp) (hr : Room k X.A) (hg : Gl X x) (hm : X.mg x = some (.ref f)) (hk : PySem.W.keepIn X.K (.ref f) = true) (hb : Binds X.K fd ps ds) (hd : Vals dvs ds) (hx : Passes CX X E)
  (ha : PA X (e :: es) t) (hdb : (x == ("__debug__" : Str)) = false:=by decide) (he : starEach (e :: es) X.env = (false, eval e X.env) :: starEach es X.env:=by rfl) (hpl : (backTo pos (starEach es X.env)).any (·.1) = false:=by rfl) :
  PE X (.Call (.Name x p) (e :: es) [] pos) (tCall sp dvs E t):=by
 intro pins s σ H Q I h
 refine wpAny_Call_Name_kw (ld_glob I hg hm ?_ hdb)
 refine PySem.W.callWith_K (h₀:=X.base) I.ok.mod.kin hk (thn (ha pos pins s σ H _ I h) fun us s1 ⟨vs, H1, I1, r, q⟩ => ⟨I1.kIn, ?_⟩) he hpl
 exact run_fn F hr hb hd hx I1 r q
end
structure FnScope (N P : List Str) (sc : Scope) : Prop where
 kind : sc.kind = .function
 co : sc.isCoroutine = false
 gen : sc.isGenerator = false
 nd : N.Nodup
 pre : N.take P.length = P
 par : ∀ x ∈ P, sc.names.lookup x = some .local \/ sc.names.lookup x = some .cell
 nofree : ∀ y ∈ sc.names, y.2 ≠ .free
theorem bindL_out {kindOf : Str -> Option NameKind} {x : Str} : ∀ {binds : List (Str × Value)} {m : Str -> Option Value}, (∀ v, (x, v) ∉ binds) -> bindL kindOf binds m x = m x
 | [], _, _ => rfl
 | (n, v) :: r, m, h => by
  unfold bindL
  rw [bindL_out fun w hw => h w (List.mem_cons_of_mem _ hw)]
  split
  ·have : x ≠ n:=by rintro rfl; exact h v List.mem_cons_self
   simp [this]
  ·rfl
theorem bindC_out {kindOf : Str -> Option NameKind} {x : Str} : ∀ {binds : List (Str × Value)} {m : Str -> Option Value}, (∀ v, (x, v) ∉ binds) -> bindC kindOf binds m x = m x
 | [], _, _ => rfl
 | (n, v) :: r, m, h => by
  unfold bindC
  rw [bindC_out fun w hw => h w (List.mem_cons_of_mem _ hw)]
  split
  ·rfl
  ·have : x ≠ n:=by rintro rfl; exact h v List.mem_cons_self
   simp [this]
theorem bindL_get {kindOf : Str -> Option NameKind} {x : Str} {v : Value} : ∀ {P : List Str} {vs : List Value} {i : Nat} {m : Str -> Option Value}, P.Nodup -> P[i]? = some x -> vs[i]? = some v -> kindOf x = some .local ->
  bindL kindOf (P.zip vs) m x = some v
 | [], _, _, _, _, h, _, _ => by simp at h
 | _ :: _, [], _, _, _, _, h, _ => by simp at h
 | p :: P, w :: vs, 0, m, nd, h1, h2, hk => by
  simp at h1 h2; subst h1; subst h2
  show bindL kindOf ((p, w) :: P.zip vs) m p = _
  unfold bindL
  rw [bindL_out fun v hv => (List.nodup_cons.mp nd).1 (List.of_mem_zip hv).1, if_pos hk]
  simp
 | p :: P, w :: vs, i + 1, m, nd, h1, h2, hk => by
  show bindL kindOf ((p, w) :: P.zip vs) m x = _
  unfold bindL
  exact bindL_get (i:=i) (List.nodup_cons.mp nd).2 (by simpa using h1) (by simpa using h2) hk
theorem bindC_get {kindOf : Str -> Option NameKind} {x : Str} {v : Value} : ∀ {P : List Str} {vs : List Value} {i : Nat} {m : Str -> Option Value}, P.Nodup -> P[i]? = some x -> vs[i]? = some v -> kindOf x ≠ some .local ->
  bindC kindOf (P.zip vs) m x = some v
 | [], _, _, _, _, h, _, _ => by simp at h
 | _ :: _, [], _, _, _, _, h, _ => by simp at h
 | p :: P, w :: vs, 0, m, nd, h1, h2, hk => by
  simp at h1 h2; subst h1; subst h2
  show bindC kindOf ((p, w) :: P.zip vs) m p = _
  unfold bindC
  rw [bindC_out fun v hv => (List.nodup_cons.mp nd).1 (List.of_mem_zip hv).1, if_neg hk]
  simp
 | p :: P, w :: vs, i + 1, m, nd, h1, h2, hk => by
  show bindC kindOf ((p, w) :: P.zip vs) m x = _
  unfold bindC
  exact bindC_get (i:=i) (List.nodup_cons.mp nd).2 (by simpa using h1) (by simpa using h2) hk
def start (N : List Str) (vs : List V) : St:=vs.map some ++ List.replicate (N.length - vs.length) none
def cxOf (CX : CXT) (P : Program) (w : World) (K : PySem.W.Frag) (mg : Str -> Option Value) (base : Heap) (N : List Str) (qual : Str) (scope : Scope) (f : Addr) (cd : Value) (A : Around) (outer : List Env) (s : Shared) (H : Hp) (E : XK) : Cx where
 prog:=P
 w:=w
 K:=K
 mg:=mg
 base:=base
 A:=A.deeper (envOfC qual scope s.heap.objs.size f cd)
 N:=N
 s_0:=s
 H_0:=H
 env:=envOfC qual scope s.heap.objs.size f cd
 outer:=outer
 stack:=envOfC qual scope s.heap.objs.size f cd :: outer
 ex:=[]
 calm:=true
 fn:=fun _ => true
 pn:=[]
 xe:=fun e s' => wpAny (model P w) (A.deeper (envOfC qual scope s.heap.objs.size f cd)) (leaving (envOfC qual scope s.heap.objs.size f cd) e) (fun _ s'' => CX outer H s E e s'') (fun e' s'' => CX outer H s E e' s'') s'
theorem cell_has {sc : Scope} {n : Nat} {x : Str} (h : sc.names.lookup x = some .cell) : ∃ c, (cellsFrom n sc.names []).lookup x = some c:=by
 have q:=PySem.W.cellsFrom_some sc.names n [] (.inl h)
 exact Option.isSome_iff_exists.mp q
theorem inv_start {CX : CXT} {P : Program} {w : World} {K : PySem.W.Frag} {mg : Str -> Option Value} {base : Heap} {N ps : List Str} {qual : Str} {scope : Scope} {f : Addr} {cd : Value} {A : Around} {outer : List Env} {s s1 : Shared} {H : Hp} {E : XK} {us : List Value} {vs : List V}
  (S : FnScope N ps scope) (hd : A.handled = none) (e0 : Env0 P w K mg base A outer s H) (hl : vs.length = ps.length) (r : Vals vs us)
  (x : InCallC s s.heap.objs.size (bindL (envOfC qual scope s.heap.objs.size f cd).kindOf (ps.zip us) fun _ => none) (cellsFrom (s.heap.objs.size + 1) scope.names []) (bindC (envOfC qual scope s.heap.objs.size f cd).kindOf (ps.zip us) fun _ => none) s1) :
  Inv (cxOf CX P w K mg base N qual scope f cd A outer s H E) [] (start N vs) H s1:=by
 have hpl : ps.length <= N.length:=by have:=congrArg List.length S.pre; rw [List.length_take] at this; omega
 obtain ⟨h1, tk, rfl, hk⟩:=x.done
 have noA : ∀ b : Addr, b ∉ (cxOf CX P w K mg base N qual scope f cd A outer s H E).ex:=fun b z => absurd (show b ∈ ([] : List Addr) from z) (by simp)
 refine ⟨⟨e0.mod, S.kind, rfl, rfl, Nat.le_refl _, fun y z c h1 h2 => ?_, fun y hy => ?_, fun y c _ h => ?_, fun _ => hd, Around.frames_deeper e0.frames, .inr ⟨rfl, rfl⟩, fun b z => absurd z (noA b), e0.bs, e0.bsz, fun b _ _ => noA b, fun b z => absurd z (noA b), e0.funs, e0.frf⟩,
  rfl, e0.bare, Un.kept hk, ⟨_, x.toInCall.ns, fun i y v h1 h2 h3 => ?_⟩, fun y c h => ⟨_, x.cell y c h⟩, e0.hok.fresh (Nat.le_refl _), fun y c h => ?_, fun p hp => absurd (show p ∈ ([] : List (Addr × Obj)) from hp) (by simp), e0.hok.kept hk, ?_⟩
 ·exact name_of_addr x.apart (PySem.mem_of_lookup h1) (PySem.mem_of_lookup h2)
 ·have hy : scope.names.lookup y = some .cell \/ scope.names.lookup y = some .free:=hy
  rcases hy with hy | hy
  ·exact cell_has hy
  ·exact absurd rfl (S.nofree _ (PySem.mem_of_lookup hy))
 ·exact Nat.le_of_lt (x.above y c (PySem.mem_of_lookup h))
 ·have hi : i < vs.length:=by
   unfold start at h2
   by_cases hi : i < vs.length
   ·exact hi
   ·rw [List.getElem?_append_right (by simpa using hi)] at h2
    rw [List.getElem?_replicate] at h2
    split at h2 <;> cases h2
  have ha : vs[i]? = some v:=by
   unfold start at h2
   rw [List.getElem?_append_left (by simpa using hi), List.getElem?_map] at h2
   cases e : vs[i]? with
   | none => rw [e] at h2; cases h2
   | some a => rw [e] at h2; cases h2; rfl
  obtain ⟨u, hu, rv⟩:=r.get ha
  have hp : ps[i]? = some y:=by
   rw [<- S.pre, List.getElem?_take_of_lt (by omega)]; exact h1
  have ndP : ps.Nodup:=by rw [<- S.pre]; exact S.nd.sublist (List.take_sublist _ _)
  refine ⟨u, rv, ?_⟩
  rcases S.par y (List.mem_of_getElem? hp) with k | k
  ·exact .inl ⟨k, bindL_get ndP hp hu k⟩
  ·obtain ⟨c, e⟩:=cell_has (n:=s.heap.objs.size + 1) k
   refine .inr ⟨.inl k, c, e, ?_⟩
   have q:=x.cell y c e
   rw [bindC_get ndP hp hu (by show scope.names.lookup y ≠ _; rw [k]; decide)] at q
   exact q
 ·exact e0.hok.fresh (Nat.le_of_lt (x.above y c (PySem.mem_of_lookup h)))
 ·unfold start
  show _ = N.length
  rw [List.length_append, List.length_map, List.length_replicate]
  omega
theorem fn_of {CX : CXT} {P : Program} {w : World} {K : PySem.W.Frag} {mg : Str -> Option Value} {base : Heap} {k : Nat} {f : Addr} {name qual : Str} {params : Arguments} {body : List Stmt} {scope : Scope} {dV kV doc pm cdv ct oc : Value} {an od : Option Addr}
  {osl : Array (Option Value)} {N ps : List Str} {sp : Sp} (lk : K.lookup f = some ⟨oc, od, .func (PySem.W.fnOf name qual params body scope dV kV doc pm an cdv ct), osl⟩) (hcd : PySem.W.codeIn K cdv qual = true) (S : FnScope N ps scope)
  (len : ∀ vs H Q E, sp vs H Q E -> vs.length = ps.length)
  (hbody : ∀ (A : Around) (outer : List Env) (s : Shared) (H : Hp) (vs : List V) (Q : VK) (E : XK), Room k (A.deeper (envOfC qual scope s.heap.objs.size f cdv)) -> sp vs H Q E ->
   ∃ t, PSs (cxOf CX P w K mg base N qual scope f cdv A outer s H E) body t /\ t { nx:=fun _ H' => Q .non H', rt:=Q } (start N vs) H) :
  FnOk P w K mg base CX (k + 1) f (PySem.W.fnOf name qual params body scope dV kV doc pm an cdv ct) ps sp:=by
 refine ⟨len, fun A outer s H args us vs Q E hr e0 hb r hsp => ?_⟩
 have hl:=len _ _ _ _ hsp
 have KX : K.In s.heap:=e0.mod.kin.keeps fun b o e => (e0.bs b o e).1
 have lim : s.heap.NoLimit:=e0.mod.nolimit.keeps fun b o e => (e0.bs b o e).1
 have hkind : ∀ y ∈ ps.zip us, scope.names.lookup y.1 = some .local \/ (scope.names.lookup y.1 = some .cell /\ ((cellsFrom (s.heap.objs.size + 1) scope.names []).lookup y.1).isSome = true):=fun ⟨n, v⟩ hy => by
  rcases S.par n (List.of_mem_zip hy).1 with q | q
  ·exact .inl q
  ·exact .inr ⟨q, PySem.W.cellsFrom_some _ _ _ (.inl q)⟩
 refine codeAny_call_function hr.depth (KX _ _ lk) rfl S.co S.gen rfl (PySem.W.codeRec_of KX hcd) (hb _ _ _ _ ?_)
 refine wpAny_newFunctionEnv_cells S.kind hkind fun env he s1 x => ?_
 subst he
 refine ⟨lim.keeps x.toInCall.keep, codeAny_func ?_⟩
 obtain ⟨t, ht, hq⟩:=hbody A outer s H vs Q E (hr.deeper _) hsp
 have I : Inv (cxOf CX P w K mg base N qual scope f cdv A outer s H E) [] (start N vs) H s1:=inv_start S hr.hd e0 hl r x
 refine wpAny_mono (ht [] s1 (start N vs) H _ I hq) (fun fl s' hs => ?_) fun e s' hs => hs
 have fin : ∀ {σ' : St} {H' : Hp} {v : V} {u : Value}, Inv (cxOf CX P w K mg base N qual scope f cdv A outer s H E) [] σ' H' s' -> RelV v u -> Q v H' -> CE outer P w H s Q u s' :=
  fun {σ' H' v u} J rv q => ⟨v, H', J.os, J.bare, J.base, J.hok, rv, q⟩
 cases fl with
 | ret u =>
  obtain ⟨v, σ', H', J, rv, q⟩:=hs
  exact fin J rv q
 | next =>
  obtain ⟨σ', H', J, q⟩:=hs
  exact fin (v:=V.non) (u:=Value.none) J rfl q
 | brk =>
  obtain ⟨_, _, _, q⟩:=hs
  exact False.elim q
 | cont =>
  obtain ⟨_, _, _, q⟩:=hs
  exact False.elim q
end L2
namespace L2
open PySem PySem.Spec PyProof.Rows
section
variable {X : Cx} {x : Str} {p pos : Pos} {e : Expr} {es : List Expr} {t : TA} {id T : String} {r : List V -> Hp -> VK -> Prop}
def tCB (r : List V -> Hp -> VK -> Prop) (t : TA) : TE:=fun σ H Q => t σ H fun vs H1 => r vs H1 Q
theorem pe_callB (hc : CallR X (.builtin id) r) (hg : Gl X x) (hm : X.mg x = none) (hv : bootBuiltins x = some (.builtin id)) (ha : PA X (e :: es) t) (hn : x ≠ "__name__":=by decide) (hdb : (x == ("__debug__" : Str)) = false:=by decide)
  (he : starEach (e :: es) X.env = (false, eval e X.env) :: starEach es X.env:=by rfl) (hpl : (backTo pos (starEach es X.env)).any (·.1) = false:=by rfl) : PE X (.Call (.Name x p) (e :: es) [] pos) (tCB r t):=by
 intro pins s σ H Q I h
 refine wpAny_Call_Name_kw (ld_blt I hg hm hv ?_ hn hdb)
 exact PyProof.Rows.callWith_builtin1 (thn (ha pos pins s σ H _ I h) fun us s1 ⟨vs, H1, I1, r1, q1⟩ => hc pins s1 σ H1 vs us Q I1 r1 q1) he hpl
theorem pe_callTy (hc : CallR X (.type T) r) (hg : Gl X x) (hm : X.mg x = none) (hv : bootBuiltins x = some (.type T)) (ha : PA X (e :: es) t) (hn : x ≠ "__name__":=by decide) (hdb : (x == ("__debug__" : Str)) = false:=by decide)
  (he : starEach (e :: es) X.env = (false, eval e X.env) :: starEach es X.env:=by rfl) (hpl : (backTo pos (starEach es X.env)).any (·.1) = false:=by rfl) : PE X (.Call (.Name x p) (e :: es) [] pos) (tCB r t):=by
 intro pins s σ H Q I h
 refine wpAny_Call_Name_kw (ld_blt I hg hm hv ?_ hn hdb)
 exact PyProof.Rows.callWith_type1 (thn (ha pos pins s σ H _ I h) fun us s1 ⟨vs, H1, I1, r1, q1⟩ => hc pins s1 σ H1 vs us Q I1 r1 q1) he hpl
end
end L2
namespace HT
open PySem PyProof.Rows
def lexLt : List Int -> List Int -> Bool
 | [], [] => false
 | [], _ :: _ => true
 | _ :: _, [] => false
 | x :: xs, y :: ys => if x = y then lexLt xs ys else decide (x < y)
theorem lexLt_cons (x y : Int) (xs ys : List Int) : lexLt (x :: xs) (y :: ys) = if x = y then lexLt xs ys else decide (x < y):=rfl
section
variable {prog : Program} {w : World} {A : Around} {E : Value -> Shared -> Prop} {s : Shared}
theorem cat_tup {t b : Addr} {vs ws : List Value} {Q : Value -> Shared -> Prop} (ht : IsTup s.heap t vs.toArray) (hb : IsTup s.heap b ws.toArray) (hv : vs ≠ [])
  (h1 : ws = [] -> Q (.ref t) s) (h2 : ws ≠ [] -> Q (.ref s.heap.objs.size) { s with heap:=s.heap.push { cls:=.type "tuple", data:=.seq (vs ++ ws).toArray } })
  (hsz : vs.length + ws.length <= sizeLine) : wpAny (model prog w) A (binaryOp .Add (.ref t) (.ref b)) Q E s:=by
 obtain ⟨⟨cls, dd, data, sl⟩, ho, hc, n, hd⟩:=id ht
 obtain ⟨⟨cls2, dd2, data2, sl2⟩, ho2, hc2, n2, hd2⟩:=id hb
 simp only at hc hd hc2 hd2
 subst hc hd hc2 hd2
 have e : vs.toArray ++ ws.toArray = (vs ++ ws).toArray:=by simp
 by_cases hw : ws = []
 ·exact concat_meets ⟨_, ho, rfl⟩ ⟨_, ho2, rfl⟩ noFill_tuple_add seq_tuple_add PySem.F.slot_tuple_add PySem.F.entry_tuple_add (PySem.F.args_tuple_add_2 _ _)
   (tuple_addW1 t b vs.toArray ws.toArray n n2 dd dd2 sl sl2 (by simpa using hv) (by simp [hw])) ⟨ho, ho2, h1 hw⟩
 ·refine concat_meets ⟨_, ho, rfl⟩ ⟨_, ho2, rfl⟩ noFill_tuple_add seq_tuple_add PySem.F.slot_tuple_add PySem.F.entry_tuple_add (PySem.F.args_tuple_add_2 _ _)
   (tuple_addW2 t b vs.toArray ws.toArray n n2 dd dd2 sl sl2 (by simpa using hv) (by simpa using hw) (by rw [List.size_toArray, List.size_toArray]; exact hsz)) ⟨ho, ho2, ?_⟩
  rw [e]
  exact h2 hw
def sIx (n d : Nat) : Option Int -> Nat
 | none => d
 | some v => if v < 0 then (v + (n : Int)).toNat else min v.toNat n
theorem sIx_none (n d : Nat) : sIx n d none = d:=rfl
theorem sIx_nat (n d k : Nat) : sIx n d (some (k : Int)) = min k n:=by
 show (if (k : Int) < 0 then ((k : Int) + (n : Int)).toNat else min (k : Int).toNat n) = min k n
 rw [if_neg (by omega), Int.toNat_natCast]
end
end HT
namespace L2
open PySem PySem.Spec PyProof.Rows
abbrev TO:=St -> Hp -> (Option Int -> Hp -> Prop) -> Prop
def PO (X : Cx) (e : Option Expr) (t : TO) : Prop :=
 ∀ (pins : List (Addr × Obj)) (s : Shared) (σ : St) (H : Hp) (Q : Option Int -> Hp -> Prop), Inv X pins σ H s -> t σ H Q ->
  wpAny (model X.prog X.w) X.A (evalPart e X.env) (fun u s' => ∃ o H', Inv X pins σ H' s' /\ IsPart u o /\ Q o H') X.xe s
def tNoPart : TO:=fun _ H Q => Q none H
def tPart (t : TE) : TO:=fun σ H Q => t σ H fun x H1 => ∃ i, x = .int i /\ Q (some i) H1
theorem intsAre_of {ns : List Int} : ∀ {us : List Value}, Vals (ns.map V.int) us -> IntsAre us ns:=by
 induction ns with
 | nil => intro us r; rw [List.map_nil] at r; cases r; exact .nil
 | cons n ns ih =>
  intro us r
  rw [List.map_cons] at r
  cases r with
  | cons r1 r2 =>
   obtain ⟨t, e⟩:=r1
   subst e
   exact .cons n t (ih r2)
section
variable {X : Cx} {e : Expr} {te : TE} {lo hi : Option Expr} {tl th : TO} {pos p2 : Pos}
theorem po_none : PO X none tNoPart:=by
 intro pins s σ H Q I h
 rw [evalPart_none]
 exact wpAny_pure ⟨none, H, I, .none, h⟩
theorem po_some (h : PE X e te) : PO X (some e) (tPart te):=by
 intro pins s σ H Q I hw
 rw [evalPart_some]
 refine thn (h pins s σ H _ I hw) fun u s1 ⟨x, H1, I1, r1, q1⟩ => ?_
 obtain ⟨i, rfl, q⟩:=q1
 obtain ⟨t, rfl⟩:=r1
 exact ⟨some i, H1, I1, .int i t, q⟩
def SlR (X : Cx) (r : V -> Option Int -> Option Int -> Hp -> VK -> Prop) : Prop :=
 ∀ (pins : List (Addr × Obj)) (s : Shared) (σ : St) (H : Hp) (x : V) (v vl vu : Value) (lo hi : Option Int) (sl : Addr) (Q : VK), Inv X pins σ H s -> RelV x v -> s.heap.IsSliceOf sl vl vu .none -> IsPart vl lo -> IsPart vu hi -> r x lo hi H Q ->
  ∃ T id, typeLookup (.type T) "__getitem__" = pure (some (.builtin id)) /\ s.TypeIs v T /\ wpAny (model X.prog X.w) X.A (getItem v (.ref sl)) (EP X pins σ Q) X.xe s
def tSl (r : V -> Option Int -> Option Int -> Hp -> VK -> Prop) (te : TE) (tl th : TO) : TE:=fun σ H Q => te σ H fun x H1 => tl σ H1 fun l H2 => th σ H2 fun u H3 => r x l u H3 Q
theorem pe_slice {r : V -> Option Int -> Option Int -> Hp -> VK -> Prop} (hr : SlR X r) (he : PE X e te) (hl : PO X lo tl) (hu : PO X hi th) : PE X (.Subscript e (.Slice lo hi none p2) pos) (tSl r te tl th):=by
 intro pins s σ H Q I h
 refine Subscript_ (thn (he pins s σ H _ I h) fun v s1 ⟨x, H1, I1, r1, q1⟩ => ?_)
 refine wpAny_Slice (thn (hl pins s1 σ H1 _ I1 q1) fun vl s2 ⟨l, H2, I2, pl, q2⟩ => thn (hu pins s2 σ H2 _ I2 q2) fun vu s3 ⟨u, H3, I3, pu, q3⟩ => ?_)
 rw [evalPart_none]
 refine wpAny_pure ?_
 have I4 : Inv X pins σ H3 { s3 with heap:=s3.heap.push { cls:=.type "slice", data:=.fields #[vl, vu, .none] } }:=I3.kept (t':=s3.toks) fun b ob q => Heap.get?_push_of_some _ q
 obtain ⟨T, id, hT, ht, hg⟩:=hr pins { s3 with heap:=s3.heap.push { cls:=.type "slice", data:=.fields #[vl, vu, .none] } } σ H3 x v vl vu l u s3.heap.objs.size Q I4 r1 (Heap.IsSliceOf.new ..) pl pu q3
 show wpAny (model X.prog X.w) X.A (subscriptTail e (.Slice lo hi none p2) v (.ref s3.heap.objs.size)) (EP X pins σ Q) X.xe { s3 with heap:=s3.heap.push { cls:=.type "slice", data:=.fields #[vl, vu, .none] } }
 exact tail_any (ops:=[.ref s3.heap.objs.size, v]) ht hT hg (by with_unfolding_all rfl)
def cutV (xs : List V) (lo hi : Option Int) : List V:=(xs.drop (HT.sIx xs.length 0 lo)).take (HT.sIx xs.length xs.length hi - HT.sIx xs.length 0 lo)
theorem cutV_length (xs : List V) (lo hi : Option Int) : (cutV xs lo hi).length <= xs.length:=by
 unfold cutV
 rw [List.length_take, List.length_drop]
 omega
def rCatT (K : PySem.W.Frag) : R2:=fun x y H Q => ∃ a b xs ys, x = .ref a /\ y = .ref b /\ SqT K H a xs /\ SqT K H b ys /\ xs ≠ [] /\ xs.length + ys.length <= sizeLine /\
 (ys = [] -> Q (.ref a) H) /\ (ys ≠ [] -> ∀ p, H p = none -> Q (.ref p) (upd H p (.tup (xs ++ ys))))
theorem Vals.nil_iff {xs : List V} {us : List Value} (r : Vals xs us) : us = [] ↔ xs = []:=by
 cases r with
 | nil => simp
 | cons _ _ => simp
theorem op_catT : OpR X (binaryOp .Add) (rCatT X.K):=by
 intro pins s σ H x y v u Q I rx ry h
 obtain ⟨a, b, xs, ys, rfl, rfl, ha, hb, hx, hz, q1, q2⟩:=h
 cases rx
 cases ry
 obtain ⟨its, r1, p1, _⟩:=I.tuple ha
 obtain ⟨its2, r2, p2, _⟩:=I.tuple hb
 refine HT.cat_tup p1 p2 (fun z => hx (r1.nil_iff.mp z)) (fun z => ⟨.ref a, H, I, rfl, q1 (r2.nil_iff.mp z)⟩) (fun z => ?_) (by rw [<- r1.length, <- r2.length]; exact hz)
 refine ⟨.ref s.heap.objs.size, _, I.laid (t':=s.toks) (o:=.tup (xs ++ ys)) (fun b ob q => Heap.get?_push_of_some _ q) (Nat.le_refl _) ?_, rfl, q2 (fun w => z (r2.nil_iff.mpr w)) _ (I.hok.fresh (Nat.le_refl _))⟩
 exact ⟨by rw [List.length_append]; exact hz, _, r1.append r2, IsTup.new _ _⟩
end
end L2
namespace L2
open PySem PySem.Spec PyProof.Rows
def ixN (n : Nat) (i : Int) : Option Nat:=if 0 <= i then (if i < n then some i.toNat else none) else if -(n : Int) <= i then some (i + n).toNat else none
def atI {α : Type} (xs : List α) (i : Int) : Option α:=(ixN xs.length i).bind fun j => xs[j]?
theorem ixN_seq {n : Nat} {i : Int} {j : Nat} (h : ixN n i = some j) : seqIndex? i n = some j /\ j < n /\ -(n : Int) <= i /\ i < n:=by
 unfold ixN at h
 by_cases h0 : 0 <= i
 ·rw [if_pos h0] at h
  by_cases h1 : i < n
  ·rw [if_pos h1] at h
   have e : i.toNat = j:=Option.some.inj h
   exact ⟨by rw [seqIndex_of h0 h1, e], by omega, by omega, h1⟩
  ·rw [if_neg h1] at h; cases h
 ·rw [if_neg h0] at h
  by_cases h1 : -(n : Int) <= i
  ·rw [if_pos h1] at h
   have e : (i + n).toNat = j:=Option.some.inj h
   exact ⟨by rw [seqIndex_neg (by omega) h1, e], by omega, h1, by omega⟩
  ·rw [if_neg h1] at h; cases h
theorem atI_get {α : Type} {xs : List α} {i : Int} {v : α} (h : atI xs i = some v) : ∃ j, seqIndex? i xs.length = some j /\ xs[j]? = some v /\ j < xs.length /\ -(xs.length : Int) <= i /\ i < xs.length:=by
 unfold atI at h
 cases e : ixN xs.length i with
 | none => rw [e] at h; cases h
 | some j =>
  rw [e] at h
  obtain ⟨h1, h2, h3, h4⟩:=ixN_seq e
  exact ⟨j, h1, h, h2, h3, h4⟩
theorem atI_nat {α : Type} {xs : List α} {j : Nat} {v : α} (h : xs[j]? = some v) : atI xs (j : Int) = some v:=by
 have hj : j < xs.length:=(List.getElem?_eq_some_iff.mp h).1
 have e : ixN xs.length (j : Int) = some j:=by
  unfold ixN
  rw [if_pos (by omega), if_pos (by omega)]; simp
 unfold atI; rw [e]; exact h
def PlainIx (b : Expr) : Prop:=∀ o i, subscripted b false o i = operate [o, i] (getItem o i)
def IxR (X : Cx) (r : R2) : Prop :=
 ∀ (value slice : Expr) (pins : List (Addr × Obj)) (s : Shared) (σ : St) (H : Hp) (x y : V) (v u : Value) (Q : VK), Inv X pins σ H s -> RelV x v -> RelV y u -> r x y H Q ->
  subscripted slice false v u = operate [v, u] (getItem v u) -> wpAny (model X.prog X.w) X.A (subscriptTail value slice v u) (EP X pins σ Q) X.xe s
def MtR (X : Cx) (id : String) (r : V -> List V -> Hp -> VK -> Prop) : Prop :=
 ∀ (pins : List (Addr × Obj)) (s : Shared) (σ : St) (H : Hp) (x : V) (xs : List V) (v : Value) (us : List Value) (Q : VK), Inv X pins σ H s -> RelV x v -> Vals xs us -> r x xs H Q ->
  wpAny (model X.prog X.w) X.A (call (.builtin id) (v :: us)) (EP X pins σ Q) X.xe s
section
variable {X : Cx} {a b : Expr} {ta tb : TE} {pos : Pos}
theorem pe_ix {r : R2} (hr : IxR X r) (ha : PE X a ta) (hb : PE X b tb) (hs : PlainIx b) : PE X (.Subscript a b pos) (tOp r ta tb):=by
 intro pins s σ H Q I h
 exact Subscript_ (binT ha hb I h fun v u s2 x y H2 I2 rx ry q => hr a b pins s2 σ H2 x y v u Q I2 rx ry q (hs _ _))
def rIxL (K : PySem.W.Frag) : R2:=fun x y H Q => ∃ p xs i v, x = .ref p /\ y = .int i /\ SqL K H p xs /\ atI xs i = some v /\ Q v H
def rIxT (K : PySem.W.Frag) : R2:=fun x y H Q => ∃ p xs i v, x = .ref p /\ y = .int i /\ SqT K H p xs /\ atI xs i = some v /\ Q v H
theorem ix_list : IxR X (rIxL X.K):=by
 intro value slice pins s σ H x y v u Q I rx ry h hs
 obtain ⟨p, xs, i, z, rfl, rfl, hq, he, q⟩:=h
 cases rx
 obtain ⟨t, rfl⟩:=ry
 obtain ⟨its, r, pl, hz⟩:=I.list hq
 obtain ⟨j, h1, h2, h3, h4, h5⟩:=atI_get he
 obtain ⟨w, ew, rw'⟩:=r.get h2
 have hl:=r.length
 have hn:=line63
 have fin : EP X pins σ Q w s:=⟨z, H, I, rw', q⟩
 by_cases h0 : 0 <= i
 ·have hj : i.toNat = j:=by
   rw [seqIndex_of h0 h5] at h1
   exact Option.some.inj h1
  exact item_listR pl.isList h0 (by omega) (by rw [hj]; simpa using ew) fin hs
 ·have hj : (i + (its.toArray.size : Int)).toNat = j:=by
   rw [seqIndex_neg (by omega) h4] at h1
   rw [List.size_toArray, <- hl]
   exact Option.some.inj h1
  exact subscriptTail_builtinR (x:=w) pl.isList.typeIs slot_list_getitem.lookup
   (wpAny_getItem_list_neg (Q:=fun r s' => r = w /\ EP X pins σ Q r s') pl.isList (by omega) (by rw [List.size_toArray] <;> omega) (by omega) (by rw [hj]; simpa using ew) ⟨rfl, fin⟩) hs
theorem ix_tup : IxR X (rIxT X.K):=by
 intro value slice pins s σ H x y v u Q I rx ry h hs
 obtain ⟨p, xs, i, z, rfl, rfl, hq, he, q⟩:=h
 cases rx
 obtain ⟨t, rfl⟩:=ry
 obtain ⟨its, r, pl, hz⟩:=I.tuple hq
 obtain ⟨j, h1, h2, h3, h4, h5⟩:=atI_get he
 obtain ⟨w, ew, rw'⟩:=r.get h2
 have hl:=r.length
 have hn:=line63
 have fin : EP X pins σ Q w s:=⟨z, H, I, rw', q⟩
 exact subscriptTail_builtinR (x:=w) pl.typeIs slot_tuple_getitem.lookup
  (getItem_tuple (j:=j) (Q:=fun r s' => r = w /\ EP X pins σ Q r s') pl (by omega) (by omega) (by rw [List.size_toArray, <- hl]; exact h1) (by simpa using ew) ⟨rfl, fin⟩) hs
theorem mapSeq_set (its : List Value) (n j : Nat) (u : Value) : Obj.mapSeq (·.setIfInBounds j u) { cls:=.type "list", data:=.seq its.toArray n } = { cls:=.type "list", data:=.seq (its.set j u).toArray n }:=by
 simp [Obj.mapSeq]
theorem Inv.lst {pins : List (Addr × Obj)} {σ : St} {H : Hp} {s : Shared} {p : Addr} {xs : List V} (I : Inv X pins σ H s) (h : H p = some (.lst xs)) :
  ∃ (its : List Value) (n : Nat), Vals xs its /\ s.heap.get? p = some { cls:=.type "list", data:=.seq its.toArray n } /\ xs.length <= sizeLine:=by
 obtain ⟨z, its, n, r, e⟩:=I.hok p _ h
 exact ⟨its, n, r, e, z⟩
theorem Inv.lstUpd {pins : List (Addr × Obj)} {σ : St} {H : Hp} {s : Shared} {p : Addr} {xs ys : List V} {its its' : List Value} {n n' : Nat} {f : Obj -> Obj} (I : Inv X pins σ H s) (h : H p = some (.lst xs))
  (ho : s.heap.get? p = some { cls:=.type "list", data:=.seq its.toArray n }) (hf : f { cls:=.type "list", data:=.seq its.toArray n } = { cls:=.type "list", data:=.seq its'.toArray n' }) (r : Vals ys its') (hz : ys.length <= sizeLine) (t : Nat) :
  Inv X pins σ (upd H p (.lst ys)) { s with heap:=s.heap.update p f, toks:=t }:=by
 have e : (s.heap.update p f).get? p = some { cls:=.type "list", data:=.seq its'.toArray n' }:=by
  rw [Heap.get?_update_self f ho (by rw [hf] <;> rfl), hf]
 refine I.write (x:=p) (e:=p) (by rw [h]; trivial) (.inl rfl) (fun b u hb q => (Heap.get?_update_other _ _ (Ne.symm hb)).trans q) ⟨_, e⟩ ?_
 exact ⟨hz, its', n', r, e⟩
def rSetL : V -> V -> V -> Hp -> (Hp -> Prop) -> Prop:=fun o i v H Q => ∃ p xs k j, o = .ref p /\ i = .int k /\ H p = some (.lst xs) /\ ixN xs.length k = some j /\ Q (upd H p (.lst (xs.set j v)))
theorem set_list : PSet X rSetL:=by
 intro pins s σ H o i v ov iv u Q I ro ri rv h
 obtain ⟨p, xs, k, j, rfl, rfl, hp, hj, q⟩:=h
 cases ro
 obtain ⟨t, rfl⟩:=ri
 obtain ⟨its, n, r, ho, hz⟩:=I.lst hp
 obtain ⟨h1, h2, h3, h4⟩:=ixN_seq hj
 have hl:=r.length
 have hn:=line63
 have I' : Inv X pins σ (upd H p (.lst (xs.set j v))) { s with heap:=s.heap.update p (Obj.mapSeq (·.setIfInBounds j u)) } :=
  I.lstUpd hp ho (mapSeq_set its n j u) (r.set rv j) (by rw [List.length_set]; exact hz) s.toks
 by_cases h0 : 0 <= k
 ·have hk : k.toNat = j:=by
   rw [seqIndex_of h0 h4] at h1
   exact Option.some.inj h1
  exact PySem.W.ki_setAt ho h0 (by omega) (by rw [List.size_toArray, <- hl]; exact h4) (by rw [hk]; exact ⟨_, I', q⟩)
 ·have hk : (k + (its.toArray.size : Int)).toNat = j:=by
   rw [seqIndex_neg (by omega) h3] at h1
   rw [List.size_toArray, <- hl]
   exact Option.some.inj h1
  exact PySem.W.ki_setBack ho (by omega) (by rw [List.size_toArray, <- hl]; exact h3) (by omega) (by rw [hk]; exact ⟨_, I', q⟩)
theorem slice_bounds (lo hi : Option Int) (n : Nat) : (sliceBounds lo hi none n).1 = ((HT.sIx n 0 lo : Nat) : Int) /\ (sliceBounds lo hi none n).2.1 = ((HT.sIx n n hi : Nat) : Int) /\ (sliceBounds lo hi none n).2.2 = 1:=by
 refine ⟨?_, ?_, rfl⟩
 ·cases lo with
  | none => simp [sliceBounds, HT.sIx]
  | some i =>
   simp only [sliceBounds, HT.sIx, Option.getD_none, show (1 : Int) > 0 by decide, if_true]
   by_cases h : i < 0
   ·simp only [h, if_true] <;> omega
   ·simp only [h, if_false] <;> omega
 ·cases hi with
  | none => simp [sliceBounds, HT.sIx]
  | some i =>
   simp only [sliceBounds, HT.sIx, Option.getD_none, show (1 : Int) > 0 by decide, if_true]
   by_cases h : i < 0
   ·simp only [h, if_true] <;> omega
   ·simp only [h, if_false] <;> omega
theorem slicePick_cut (its : List Value) (lo hi : Option Int) : slicePick its.toArray lo hi none = ((its.drop (HT.sIx its.length 0 lo)).take (HT.sIx its.length its.length hi - HT.sIx its.length 0 lo)).toArray:=by
 obtain ⟨h1, h2, h3⟩:=slice_bounds lo hi its.toArray.size
 unfold slicePick
 rw [h1, h2, h3]
 simp only [sliceRange_one, pick_run, List.size_toArray] <;> rfl
def rSlL (K : PySem.W.Frag) : V -> Option Int -> Option Int -> Hp -> VK -> Prop:=fun x lo hi H Q => ∃ a xs, x = .ref a /\ SqL K H a xs /\ ∀ p, H p = none -> Q (.ref p) (upd H p (.lst (cutV xs lo hi)))
theorem sl_list : SlR X (rSlL X.K):=by
 intro pins s σ H x v vl vu lo hi sl Q I rx hs pl pu h
 obtain ⟨a, xs, rfl, hx, q⟩:=h
 cases rx
 obtain ⟨its, r, ht, hz⟩:=I.list hx
 have hlen:=r.length
 refine ⟨"list", _, slot_list_getitem.lookup, ht.isList.typeIs, ?_⟩
 refine wpAny_getItem_list_slice ht.isList hs pl pu .none (by simp) ?_ (by rw [List.size_toArray] <;> omega)
 rw [slicePick_cut, <- hlen]
 refine ⟨.ref s.heap.objs.size, _, I.laid (t':=s.toks) (o:=.lst (cutV xs lo hi)) (fun b ob q => Heap.get?_push_of_some _ q) (Nat.le_refl _) ?_, rfl, q _ (I.hok.fresh (Nat.le_refl _))⟩
 exact ⟨Nat.le_trans (cutV_length xs lo hi) hz, _, 0, (r.drop (HT.sIx xs.length 0 lo)).take (HT.sIx xs.length xs.length hi - HT.sIx xs.length 0 lo), Heap.get?_push_size _ rfl⟩
def flatV : V -> Bool
 | .non => true
 | .bl _ => true
 | .int _ => true
 | .str _ => true
 | _ => false
def eqV : V -> V -> Bool
 | .non, .non => true
 | .bl a, .bl b => a == b
 | .bl a, .int b => (if a then 1 else 0) == b
 | .int a, .bl b => a == (if b then 1 else 0)
 | .int a, .int b => a == b
 | .str a, .str b => a == b
 | _, _ => false
theorem eqAt_V {A : Around} {s : Shared} {y x : V} {u v : Value} (ry : RelV y u) (rx : RelV x v) (fy : flatV y = true) (fx : flatV x = true) : SeqAt.EqAt A s u v (eqV y x):=by
 cases y with
 | non =>
  cases ry
  cases x with
  | non => cases rx; exact SeqAt.EqAt.same _
  | bl b => cases rx; exact SeqAt.EqAt.none_bool b
  | int b => obtain ⟨t, rfl⟩:=rx; exact SeqAt.EqAt.none_int b t
  | str b => obtain ⟨t, rfl⟩:=rx; exact SeqAt.EqAt.none_str b t
  | _ => exact absurd (show false = true from fx) Bool.false_ne_true
 | bl a =>
  cases ry
  cases x with
  | non => cases rx; exact SeqAt.EqAt.bool_none a
  | bl b => cases rx; exact SeqAt.EqAt.bool_bool a b
  | int b => obtain ⟨t, rfl⟩:=rx; exact SeqAt.EqAt.bool_int a b t
  | str b => obtain ⟨t, rfl⟩:=rx; exact SeqAt.EqAt.bool_str a b t
  | _ => exact absurd (show false = true from fx) Bool.false_ne_true
 | int a =>
  obtain ⟨t', rfl⟩:=ry
  cases x with
  | non => cases rx; exact SeqAt.EqAt.int_none a t'
  | bl b => cases rx; exact SeqAt.EqAt.int_bool a t' b
  | int b => obtain ⟨t, rfl⟩:=rx; exact SeqAt.EqAt.int_int a t' b t
  | str b => obtain ⟨t, rfl⟩:=rx; exact SeqAt.EqAt.int_str a t' b t
  | _ => exact absurd (show false = true from fx) Bool.false_ne_true
 | str a =>
  obtain ⟨t', rfl⟩:=ry
  cases x with
  | non => cases rx; exact SeqAt.EqAt.str_none a t'
  | bl b => cases rx; exact SeqAt.EqAt.str_bool a t' b
  | int b => obtain ⟨t, rfl⟩:=rx; exact SeqAt.EqAt.str_int a t' b t
  | str b => obtain ⟨t, rfl⟩:=rx; exact SeqAt.EqAt.str_str a t' b t
  | _ => exact absurd (show false = true from fx) Bool.false_ne_true
 | _ => exact absurd (show false = true from fy) Bool.false_ne_true
def eqU (x : V) (u : Value) : Bool:=match u with
 | .none => eqV .non x
 | .bool b => eqV (.bl b) x
 | .int i _ => eqV (.int i) x
 | .str z _ => eqV (.str z) x
 | _ => false
theorem eqU_of {x y : V} {u : Value} (r : RelV y u) (f : flatV y = true) : eqU x u = eqV y x:=by
 cases y with
 | non => cases r; rfl
 | bl b => cases r; rfl
 | int i => obtain ⟨t, rfl⟩:=r; rfl
 | str z => obtain ⟨t, rfl⟩:=r; rfl
 | _ => exact absurd (show false = true from f) Bool.false_ne_true
theorem any_eqU {x : V} : ∀ {xs : List V} {us : List Value}, Vals xs us -> xs.all flatV = true -> us.any (eqU x) = xs.any fun y => eqV y x
 | _, _, .nil, _ => rfl
 | y :: xs, u :: us, .cons r t, f => by
  rw [List.all_cons, Bool.and_eq_true] at f
  rw [List.any_cons, List.any_cons, eqU_of r f.1, any_eqU t f.2]
theorem mem_eqAt {A : Around} {s : Shared} {x : V} {v : Value} (rx : RelV x v) (fx : flatV x = true) : ∀ {xs : List V} {us : List Value}, Vals xs us -> xs.all flatV = true -> ∀ u ∈ us, SeqAt.EqAt A s u v (eqU x u)
 | _, _, .nil, _ => fun u hu => by cases hu
 | y :: xs, u :: us, .cons r t, f => fun u' hu => by
  rw [List.all_cons, Bool.and_eq_true] at f
  rcases List.mem_cons.mp hu with rfl | hu
  ·rw [eqU_of r f.1]; exact eqAt_V r rx f.1 fx
  ·exact mem_eqAt rx fx t f.2 u' hu
def inV (x : V) (xs : List V) : Bool:=xs.any fun y => eqV y x
def rIn (K : PySem.W.Frag) (neg : Bool) : R2:=fun x y H Q => ∃ p xs, y = .ref p /\ (SqL K H p xs \/ SqT K H p xs) /\ flatV x = true /\ xs.all flatV = true /\ Q (.bl (if neg then !inV x xs else inV x xs)) H
theorem op_notIn_seq : OpR X (compareOp .NotIn) (rIn X.K true):=by
 intro pins s σ H x y v u Q I rx ry h
 obtain ⟨p, xs, rfl, hq, fx, fs, q⟩:=h
 cases ry
 rcases hq with hq | hq
 ·obtain ⟨its, r, pl, hz⟩:=I.list hq
  refine SeqAt.notIn_listAt (eqU x) pl.isList (fun w hw => mem_eqAt rx fx r fs w (by simpa using hw)) ⟨.bl _, H, I, rfl, ?_⟩
  rw [show its.toArray.any (eqU x) = its.any (eqU x) by simp, any_eqU r fs]
  exact q
 ·obtain ⟨its, r, pl, hz⟩:=I.tuple hq
  refine SeqAt.notIn_tupleAt (eqU x) pl (fun w hw => mem_eqAt rx fx r fs w (by simpa using hw)) ⟨.bl _, H, I, rfl, ?_⟩
  rw [show its.toArray.any (eqU x) = its.any (eqU x) by simp, any_eqU r fs]
  exact q
theorem call_len_seq : CallR X (.builtin "len") (fun xs H Q => ∃ p ys, xs = [.ref p] /\ (SqL X.K H p ys \/ SqT X.K H p ys) /\ Q (.int ys.length) H):=by
 intro pins s σ H xs us Q I r h
 obtain ⟨p, ys, rfl, hq, q⟩:=h
 obtain ⟨u, rfl, rx⟩:=vals1 r
 cases rx
 have hn:=line63
 rcases hq with hq | hq
 ·obtain ⟨its, r', pl, hz⟩:=I.list hq
  have hlen:=r'.length
  exact Calls.call_len_list pl.isList (by simp only [List.size_toArray] <;> omega) ⟨.int ys.length, H, I.tok _, ⟨s.toks + 1, by rw [List.size_toArray, hlen]⟩, q⟩
 ·obtain ⟨its, r', pl, hz⟩:=I.tuple hq
  have hlen:=r'.length
  exact len_tuple pl (by simp only [List.size_toArray] <;> omega) ⟨.int ys.length, H, I.tok _, ⟨s.toks + 1, by rw [List.size_toArray, hlen]⟩, q⟩
theorem call_list_of : CallR X (.type "list") (fun xs H Q => ∃ p ys, xs = [.ref p] /\ (SqL X.K H p ys \/ SqT X.K H p ys) /\ ∀ l, H l = none -> Q (.ref l) (upd H l (.lst ys))):=by
 intro pins s σ H xs us Q I r h
 obtain ⟨p, ys, rfl, hq, q⟩:=h
 obtain ⟨u, rfl, rx⟩:=vals1 r
 cases rx
 have fin : ∀ (its : List Value), Vals ys its -> ys.length <= sizeLine -> ∀ (h' : Heap) (c' : Nat), (∀ b o', s.heap.get? b = some o' -> h'.get? b = some o') ->
   h'.get? s.heap.objs.size = some { cls:=.type "list", dict:=none, data:=.seq its.toArray c', slots:=#[] } -> EP X pins σ Q (.ref s.heap.objs.size) { s with heap:=h' }:=fun its r' hz h' c' kp e =>
  ⟨.ref s.heap.objs.size, _, I.laid (t':=s.toks) kp (Nat.le_refl _) (show ObjOk X.prog X.w _ h' _ (.lst ys) from ⟨hz, its, c', r', e⟩), rfl, q _ (I.hok.fresh (Nat.le_refl _))⟩
 rcases hq with hq | hq
 ·obtain ⟨its, r', pl, hz⟩:=I.list hq
  have hlen:=r'.length
  obtain ⟨o, ho, hc, n, hd⟩:=pl.isList
  exact call_list_seq p (.inl rfl) ho hc hd (fun h' c' kp e => fin its r' hz h' c' kp e) (by simp only [List.size_toArray] <;> omega)
 ·obtain ⟨its, r', pl, hz⟩:=I.tuple hq
  have hlen:=r'.length
  obtain ⟨o, ho, hc, n, hd⟩:=pl
  exact call_list_seq p (.inr rfl) ho hc hd (fun h' c' kp e => fin its r' hz h' c' kp e) (by simp only [List.size_toArray] <;> omega)
theorem call_tuple_of : CallR X (.type "tuple") (fun xs H Q => ∃ p ys, xs = [.ref p] /\ ((SqL X.K H p ys /\ ∀ l, H l = none -> Q (.ref l) (upd H l (.tup ys))) \/ (SqT X.K H p ys /\ Q (.ref p) H))):=by
 intro pins s σ H xs us Q I r h
 obtain ⟨p, ys, rfl, h⟩:=h
 obtain ⟨u, rfl, rx⟩:=vals1 r
 cases rx
 rcases h with ⟨hq, q⟩ | ⟨hq, q⟩
 ·obtain ⟨its, r', pl, hz⟩:=I.list hq
  have hlen:=r'.length
  refine call_tuple_list pl.isList (fun h' kp => ?_) (by simp only [List.size_toArray] <;> omega)
  have I1 : Inv X pins σ H { s with heap:=h' }:=I.kept (t':=s.toks) kp
  have I2 : Inv X pins σ (upd H h'.objs.size (.tup ys)) { s with heap:=h'.push { cls:=.type "tuple", data:=.seq its.toArray } } :=
   I1.laid (t':=s.toks) (fun b o e => Heap.get?_push_of_some _ e) (Nat.le_refl _) (show ObjOk X.prog X.w _ _ _ (.tup ys) from ⟨hz, its, r', IsTup.new _ _⟩)
  exact ⟨.ref h'.objs.size, _, I2, rfl, q _ (I1.hok.fresh (Nat.le_refl _))⟩
 ·obtain ⟨its, r', pl, hz⟩:=I.tuple hq
  exact call_tuple_same pl ⟨.ref p, H, I, rfl, q⟩
def tyV (K : PySem.W.Frag) (T : String) (x : V) (H : Hp) : Prop:=match x with
 | .str _ => T = "str"
 | .int _ => T = "int"
 | .ref p => (T = "list" /\ ∃ xs, SqL K H p xs) \/ (T = "tuple" /\ ∃ o, K.lookup p = some o /\ o.cls = .type "tuple" /\ o.dict = none) \/
   (T = "dict" /\ ((∃ kvs, H p = some (.dK kvs)) \/ ∃ kvs, H p = some (.dT kvs))) \/ (T = "set" /\ ∃ S n, H p = some (.set S n))
 | _ => False
theorem tyV_is {pins : List (Addr × Obj)} {σ : St} {H : Hp} {s : Shared} {T : String} {x : V} {v : Value} (I : Inv X pins σ H s) (r : RelV x v) (ty : tyV X.K T x H) :
  s.TypeIs v T /\ ∀ a, v = .ref a -> ∃ ob, s.heap.get? a = some ob /\ ob.dict = none:=by
 cases x with
 | str z =>
  obtain ⟨t, rfl⟩:=r
  cases (show T = "str" from ty)
  exact ⟨typeIs_str s z t, fun _ e => nomatch e⟩
 | int i =>
  obtain ⟨t, rfl⟩:=r
  cases (show T = "int" from ty)
  exact ⟨typeIs_int s i t, fun _ e => nomatch e⟩
 | ref p =>
  cases r
  rcases ty with ⟨rfl, xs, hq⟩ | ⟨rfl, o, hk, hc, hd⟩ | ⟨rfl, hk⟩ | ⟨rfl, S, n, hk⟩
  ·obtain ⟨its, _, pl, _⟩:=I.list hq
   refine ⟨pl.isList.typeIs, fun a e => ?_⟩
   cases e
   obtain ⟨o, n, e, c, hd, _⟩:=pl
   exact ⟨o, e, hd⟩
  ·refine ⟨⟨o, I.kIn p o hk, hc⟩, fun a e => ?_⟩
   cases e
   exact ⟨o, I.kIn _ o hk, hd⟩
  ·have z : ∃ o, s.heap.get? p = some o /\ o.ExactDict:=by
    rcases hk with ⟨kvs, hk⟩ | ⟨kvs, hk⟩
    ·obtain ⟨_, _, _, _, o, _, _, e, ex, _⟩:=I.hok p _ hk
     exact ⟨o, e, ex⟩
    ·obtain ⟨_, _, _, _, o, _, _, e, ex, _⟩:=I.hok p _ hk
     exact ⟨o, e, ex⟩
   obtain ⟨o, e, ex⟩:=z
   refine ⟨⟨o, e, ex.1⟩, fun a e2 => ?_⟩
   cases e2
   exact ⟨o, e, ex.2.1⟩
  ·obtain ⟨o, _, _, _, e, ex, _⟩:=I.hok p _ hk
   refine ⟨⟨o, e, ex.1⟩, fun a e2 => ?_⟩
   cases e2
   exact ⟨o, e, ex.2.1⟩
 | _ => exact False.elim ty
def tBM0 (K : PySem.W.Frag) (T : String) (r : V -> List V -> Hp -> VK -> Prop) (to : TE) : TE:=fun σ H Q => to σ H fun x H1 => tyV K T x H1 /\ r x [] H1 Q
def tBM (K : PySem.W.Frag) (T : String) (r : V -> List V -> Hp -> VK -> Prop) (to : TE) (t : TA) : TE:=fun σ H Q => to σ H fun x H1 => tyV K T x H1 /\ t σ H1 fun xs H2 => r x xs H2 Q
variable {o e : Expr} {es : List Expr} {to : TE} {t : TA} {name : Str} {apos cpos : Pos} {T id : String} {r : V -> List V -> Hp -> VK -> Prop}
theorem pe_bm0 (pa : PlainAttrs T) (slot : Slot T name id) (hty : typeOf (.builtin id) = pure (.type "method_descriptor")) (hm : MtR X id r) (ho : PE X o to)
  (hbase : attributeBase o name X.env (eval o X.env) = eval o X.env:=by rfl) (hline : (apos.endLine == cpos.line) = true:=by rfl) : PE X (.Call (.Attribute o name apos) [] [] cpos) (tBM0 X.K T r to):=by
 intro pins s σ H Q I h
 refine wpAny_Call_method0_late hbase hline (thn (ho pins s σ H _ I h) fun v s1 ⟨x, H1, I1, r1, ty, q1⟩ => ?_)
 obtain ⟨h1, h2⟩:=tyV_is I1 r1 ty
 exact ⟨T, id, pa, slot, hty, h1, h2, Calls.callWith_builtin rfl (PySem.evalArgs_none (hm pins s1 σ H1 x [] v [] Q I1 r1 .nil q1))⟩
theorem pe_bm (pa : PlainAttrs T) (slot : Slot T name id) (hty : typeOf (.builtin id) = pure (.type "method_descriptor")) (hm : MtR X id r) (ho : PE X o to) (ha : PA X (e :: es) t)
  (hbase : attributeBase o name X.env (eval o X.env) = eval o X.env:=by rfl)
  (hfew : ((backTo cpos (starEach (e :: es) X.env)).all (fun x => !x.1) && (backToKw cpos (keywordEach [] X.env)).all (fun x => x.1.isSome)
   && decide ((e :: es).length + ([] : List Keyword).length + (if ([] : List Keyword).isEmpty then 0 else 1) < 30)) = true:=by rfl)
  (hline : (apos.endLine == cpos.line) = true:=by rfl) (hs : starEach (e :: es) X.env = (false, eval e X.env) :: starEach es X.env:=by rfl) (hplain : (backTo cpos (starEach es X.env)).any (·.1) = false:=by rfl) :
  PE X (.Call (.Attribute o name apos) (e :: es) [] cpos) (tBM X.K T r to t):=by
 intro pins s σ H Q I h
 refine wpAny_Call_method_late hbase hfew hline rfl (thn (ho pins s σ H _ I h) fun v s1 ⟨x, H1, I1, r1, ty, q1⟩ => ?_)
 obtain ⟨h1, h2⟩:=tyV_is I1 r1 ty
 refine ⟨T, id, pa, slot, hty, h1, h2, ?_⟩
 have hA:=ha cpos pins s1 σ H1 _ I1 q1
 rw [hs] at hA ⊢
 refine Calls.callWith_builtin (by show (false || (backTo cpos (starEach es X.env)).any (·.1)) = false; rw [hplain] <;> rfl) (Calls.evalArgs_plain ?_)
 exact thn hA fun us s2 ⟨vs, H2, I2, r2, q2⟩ => hm pins s2 σ H2 x vs v us Q I2 r1 r2 q2
end
end L2
namespace L2
open PySem PySem.Spec PyProof.Rows
def MtM (X : Cx) (id : String) (r : V -> List V -> Hp -> VK -> Prop) : Prop :=
 ∀ (pins : List (Addr × Obj)) (s : Shared) (σ : St) (H : Hp) (x : V) (xs : List V) (v : Value) (us : List Value) (Q : VK), Inv X pins σ H s -> RelV x v -> Vals xs us -> r x xs H Q ->
  wpAny (model X.prog X.w) X.A (call (.builtin id) (v :: us)) (EP X pins σ Q) X.xe s
theorem Vals.one : ∀ {x : V} {us : List Value}, Vals [x] us -> ∃ u, us = [u] /\ RelV x u
 | _, _, .cons r .nil => ⟨_, rfl, r⟩
theorem Vals.rep {xs : List V} {us : List Value} (h : Vals xs us) : ∀ k : Nat, Vals (List.replicate k xs).flatten (List.replicate k us).flatten
 | 0 => .nil
 | k + 1 => by
  rw [List.replicate_succ, List.replicate_succ, List.flatten_cons, List.flatten_cons]
  exact Vals.append h (Vals.rep h k)
theorem foldl_rep (its : List Value) : ∀ (k : Nat) (acc : List Value),
  List.foldl (fun x1 x2 => x1 ++ x2) acc.toArray (List.replicate k its.toArray) = (acc ++ (List.replicate k its).flatten).toArray
 | 0, acc => by simp
 | k + 1, acc => by
  have e : acc.toArray ++ its.toArray = (acc ++ its).toArray:=by simp
  have e2 : (acc ++ its) ++ (List.replicate k its).flatten = acc ++ (List.replicate (k + 1) its).flatten:=by
   rw [List.replicate_succ, List.flatten_cons, List.append_assoc]
  rw [<- e2, <- foldl_rep its k (acc ++ its), <- e, List.replicate_succ, List.foldl_cons]
section
variable {X : Cx} {pins : List (Addr × Obj)} {σ : St} {H : Hp} {s : Shared} {l b : Addr} {xs ys zs : List V}
theorem Inv.lset {its its' : List Value} {n : Nat} {f : Array Value -> Array Value} {t' : Nat} (I : Inv X pins σ H s) (hH : H l = some (.lst xs))
  (e : s.heap.get? l = some { cls:=.type "list", data:=.seq its.toArray n }) (hf : f its.toArray = its'.toArray) (hv : Vals ys its') (hz : ys.length <= sizeLine) :
  Inv X pins σ (upd H l (.lst ys)) { s with heap:=s.heap.update l (Obj.mapSeq f), toks:=t' }:=by
 have q:=PySem.IsL.update e f
 rw [hf] at q
 refine I.write (x:=l) (e:=l) (by rw [hH]; exact trivial) (.inl rfl) (fun b' u hb hu => (Heap.get?_update_other s.heap (Obj.mapSeq f) (Ne.symm hb)).trans hu) ⟨_, q⟩ ?_
 exact ⟨hz, its', _, hv, q⟩
theorem Inv.lnew {its : List Value} {t' : Nat} (I : Inv X pins σ H s) (hv : Vals ys its) (hz : ys.length <= sizeLine) :
  Inv X pins σ (upd H s.heap.objs.size (.lst ys)) { s with heap:=s.heap.push { cls:=.type "list", data:=.seq its.toArray }, toks:=t' } :=
 I.laid (fun _ _ q => Heap.get?_push_of_some _ q) (Nat.le_refl _) ⟨hz, its, 0, hv, Heap.get?_push_size _ rfl⟩
theorem Inv.fresh (I : Inv X pins σ H s) : H s.heap.objs.size = none:=I.hok.fresh (Nat.le_refl _)
theorem Inv.lstM (I : Inv X pins σ H s) (hH : H l = some (.lst xs)) : xs.length <= sizeLine /\ ∃ (its : List Value) (n : Nat), Vals xs its /\ xs.length = its.length /\ s.heap.get? l = some { cls:=.type "list", data:=.seq its.toArray n }:=by
 obtain ⟨z, its, n, r, e⟩:=I.hok l _ hH
 exact ⟨z, its, n, r, r.length, e⟩
theorem notLongL {n : Nat} (h : n <= sizeLine) : Builtin.List.listTooLong n = false:=by
 unfold Builtin.List.listTooLong
 exact decide_eq_false (by omega)
end
section
variable {X : Cx}
def rAppend : V -> List V -> Hp -> VK -> Prop:=fun x vs H Q => ∃ l xs y, x = .ref l /\ vs = [y] /\ H l = some (.lst xs) /\ xs.length < sizeLine /\ Q .non (upd H l (.lst (xs ++ [y])))
theorem mt_append : MtM X "list.append" rAppend:=by
 intro pins s σ H x vs v us Q I rx rv h
 obtain ⟨l, xs, y, rfl, rfl, hH, hz, q⟩:=h
 cases rx
 obtain ⟨u, rfl, ru⟩:=rv.one
 obtain ⟨z, its, n, r, hl, e⟩:=I.lstM hH
 refine call_meets F.slot_list_append ⟨_, e, rfl⟩ F.entry_list_append (F.args_list_append_2 _ _) (PySem.list_append l its.toArray n u (by rw [List.size_toArray]; omega)) ⟨e, ?_⟩
 refine ⟨.non, _, I.lset (its':=its ++ [u]) hH e (by simp) (r.append (.cons ru .nil)) ?_, rfl, q⟩
 rw [List.length_append, List.length_singleton]
 omega
def rExtend : V -> List V -> Hp -> VK -> Prop:=fun x vs H Q => ∃ l b xs zs, x = .ref l /\ vs = [.ref b] /\ H l = some (.lst xs) /\ H b = some (.lst zs) /\ xs.length + zs.length <= sizeLine /\ Q .non (upd H l (.lst (xs ++ zs)))
theorem mt_extend : MtM X "list.extend" rExtend:=by
 intro pins s σ H x vs v us Q I rx rv h
 obtain ⟨l, b, xs, zs, rfl, rfl, hH, hB, hz, q⟩:=h
 cases rx
 obtain ⟨u, rfl, ru⟩:=rv.one
 cases ru
 obtain ⟨z, its, n, r, hl, e⟩:=I.lstM hH
 obtain ⟨z2, its2, n2, r2, hl2, e2⟩:=I.lstM hB
 have hsz : its.toArray.size + its2.toArray.size <= sizeLine:=by rw [List.size_toArray, List.size_toArray]; omega
 have hlong : ¬ (!its.toArray.isEmpty && Builtin.List.listTooLong (its.toArray.size + its2.toArray.size)) = true:=by
  rw [notLongL hsz, Bool.and_false]
  exact Bool.false_ne_true
 refine call_meets F.slot_list_extend ⟨_, e, rfl⟩ F.entry_list_extend (F.args_list_extend_2 _ _)
  (AutoSeq1.list_extend_list_list_0 l its.toArray n b its2.toArray n2 hlong (by rw [List.size_toArray]; omega) (by omega)) ⟨e, e2, ?_⟩
 refine ⟨.non, _, I.lset (its':=its ++ its2) hH e (by simp) (r.append r2) ?_, rfl, q⟩
 rw [List.length_append]
 omega
def rCat : R2:=fun x y H Q => ∃ l b xs zs, x = .ref l /\ y = .ref b /\ H l = some (.lst xs) /\ H b = some (.lst zs) /\ xs.length + zs.length <= sizeLine /\ ∀ p, H p = none -> Q (.ref p) (upd H p (.lst (xs ++ zs)))
theorem op_cat : OpR X (binaryOp .Add) rCat:=by
 intro pins s σ H x y v u Q I rx ry h
 obtain ⟨l, b, xs, zs, rfl, rfl, hH, hB, hz, q⟩:=h
 cases rx
 cases ry
 obtain ⟨z, its, n, r, hl, e⟩:=I.lstM hH
 obtain ⟨z2, its2, n2, r2, hl2, e2⟩:=I.lstM hB
 refine PySem.P.add_list e e2 ?_ (by rw [List.size_toArray, List.size_toArray]; omega)
 have ea : its.toArray ++ its2.toArray = (its ++ its2).toArray:=by simp
 rw [ea]
 exact ⟨.ref _, _, I.lnew (t':=s.toks) (r.append r2) (by rw [List.length_append]; omega), rfl, q _ I.fresh⟩
def rRep : R2:=fun x y H Q => ∃ l k xs, x = .ref l /\ y = .int k /\ H l = some (.lst xs) /\ -(2 ^ 63) <= k /\ k < 2 ^ 63 /\ xs.length * k.toNat <= sizeLine /\
 ∀ p, H p = none -> Q (.ref p) (upd H p (.lst (List.replicate k.toNat xs).flatten))
theorem len_rep {α : Type} (xs : List α) (k : Nat) : (List.replicate k xs).flatten.length = k * xs.length:=by
 induction k with
 | zero => simp
 | succ k ih => rw [List.replicate_succ, List.flatten_cons, List.length_append, ih, Nat.succ_mul, Nat.add_comm]
theorem op_rep : OpR X (binaryOp .Mult) rRep:=by
 intro pins s σ H x y v u Q I rx ry h
 obtain ⟨l, k, xs, rfl, rfl, hH, h1, h2, hz, q⟩:=h
 cases rx
 obtain ⟨t, rfl⟩:=ry
 obtain ⟨z, its, n, r, hl, e⟩:=I.lstM hH
 have hlen : its.toArray.size * k.toNat <= sizeLine:=by rw [List.size_toArray, <- hl]; exact hz
 have hcap : ¬ its.toArray.size * k.toNat > (2 ^ 63 - 1) / 8:=by
  have : (sizeLine : Nat) <= (2 ^ 63 - 1) / 8:=by decide
  omega
 have hfit : ¬ (!Builtin.List.listFitsIndex k) = true:=by
  rw [fitsIndex_both h1 h2]
  exact Bool.false_ne_true
 have hlong : ¬ Builtin.List.listTooLong (its.toArray.size * k.toNat) = true:=by
  rw [notLongL hlen]
  exact Bool.false_ne_true
 have hnew : List.foldl (fun x1 x2 => x1 ++ x2) #[] (List.replicate (if its.toArray.isEmpty = true then 0 else k.toNat) its.toArray) = (List.replicate k.toNat its).flatten.toArray:=by
  have f0 : ∀ m : Nat, List.foldl (fun x1 x2 => x1 ++ x2) #[] (List.replicate m its.toArray) = (List.replicate m its).flatten.toArray:=fun m => by
   have:=foldl_rep its m []
   rw [List.nil_append] at this
   exact this
  rw [f0]
  cases its with
  | nil => simp
  | cons a r' => rw [if_neg (by simp)]
 refine wpAny_binaryOp_repeat_ref (T:="list") (U:="int") (by decide) ⟨_, e, rfl⟩ (fun s' => typeIs_int s' k t) noFill_list_mul F.fills_int_mul F.slot_int_rmul repeat_list F.slot_int_index.lookup
  (call_meets F.slot_int_rmul (typeIs_int s k t) F.entry_int_rmul (F.args_int_rmul_2 _ _) (int___rmul___int_list k t l its.toArray n)
   ⟨e, rfl, ⟨_, e, rfl⟩, call_meets F.slot_list_mul ⟨_, e, rfl⟩ F.entry_list_mul (F.args_list_mul_2 _ _) (AutoListH.list___mul___list_int_3 l its.toArray n k t hfit hcap hlong) ⟨e, ?_⟩⟩)
 rw [hnew]
 exact ⟨.ref _, _, I.lnew (t':=s.toks) (r.rep k.toNat) (by rw [len_rep, Nat.mul_comm]; exact hz), rfl, q _ I.fresh⟩
end
end L2
namespace L2
open PySem PySem.Spec PyProof.Rows
theorem Vals.ints : ∀ {ns : List Int} {us : List Value}, Vals (ns.map V.int) us -> IntsAre us ns
 | [], us, h => by
  rw [List.map_nil] at h
  cases h
  exact IntsAre.nil
 | n :: ns, us, h => by
  rw [List.map_cons] at h
  cases h with
  | cons r t =>
   obtain ⟨k, rfl⟩:=r
   exact IntsAre.cons n k (Vals.ints t)
theorem vals_of_ints : ∀ {us : List Value} {ns : List Int}, IntsAre us ns -> Vals (ns.map V.int) us
 | _, _, .nil => by rw [List.map_nil]; exact Paired.nil
 | _, _, .cons n t h => by rw [List.map_cons]; exact Paired.cons (show RelV (V.int n) (Value.int n t) from ⟨t, rfl⟩) (vals_of_ints h)
theorem Vals.ref1 {a : Addr} {us : List Value} (r : Vals [V.ref a] us) : us = [Value.ref a]:=by
 cases r with
 | cons r t =>
  cases t
  cases r
  rfl
section
variable {prog : Program} {w : World} {A : Around} {E : Value -> Shared -> Prop} {s : Shared} {l : Addr} {its : List Value} {ns : List Int} {Q : Value -> Shared -> Prop}
theorem sum_raw (hh : A.handled = none) (hl : s.heap.IsList l its.toArray) (hi : IntsAre its ns)
  (h : ∀ h' tk t', (∀ b o, s.heap.get? b = some o -> h'.get? b = some o) -> Q (.int ns.sum t') { s with heap:=h', toks:=tk }) : wpAny (model prog w) A (call (.builtin "sum") [.ref l]) Q E s:=by
 obtain ⟨xs, e⟩:=hi.allInts.items
 have hn : numsOf (intItems xs).toList = ns:=by rw [<- e]; exact hi.numsOf
 rw [nums_intItems] at hn
 rw [e] at hl
 refine PySem.sum_intListG hh hl fun h' tk t' hk => ?_
 have:=h h' tk t' hk
 rw [preSum_eq, List.take_of_length_le (by simp), hn]; exact this
theorem max_raw (hh : A.handled = none) (hl : s.heap.IsList l its.toArray) (hi : IntsAre its ns) (hne : 0 < ns.length)
  (h : ∀ h' tk M t', (∀ b o, s.heap.get? b = some o -> h'.get? b = some o) -> M ∈ ns -> (∀ a, a ∈ ns -> a <= M) -> Q (.int M t') { s with heap:=h', toks:=tk }) : wpAny (model prog w) A (call (.builtin "max") [.ref l]) Q E s:=by
 obtain ⟨xs, e⟩:=hi.allInts.items
 have hn : numsOf (intItems xs).toList = ns:=by rw [<- e]; exact hi.numsOf
 rw [nums_intItems] at hn
 subst hn
 rw [e] at hl
 have hsz : 0 < xs.size:=by simpa using hne
 refine PySem.max_intList hh hl hsz fun v h' tk hv hk => ?_
 obtain ⟨t, rfl⟩:=intItems_at hv
 obtain ⟨h1, h2⟩:=argBest_gt (numAt xs) (xs.size - 1)
 refine h h' tk _ t hk ?_ fun a ha => ?_
 ·rw [numAt_eq]; exact PySem.getD_mem (by rw [List.length_map, Array.length_toList]; omega)
 ·obtain ⟨j, hj, rfl⟩:=mem_getD ha
  rw [List.length_map, Array.length_toList] at hj
  rw [<- numAt_eq]; exact h2 j (by omega)
theorem min_raw (hh : A.handled = none) (hl : s.heap.IsList l its.toArray) (hi : IntsAre its ns) (hne : 0 < ns.length)
  (h : ∀ h' tk M t', (∀ b o, s.heap.get? b = some o -> h'.get? b = some o) -> M ∈ ns -> (∀ a, a ∈ ns -> M <= a) -> Q (.int M t') { s with heap:=h', toks:=tk }) : wpAny (model prog w) A (call (.builtin "min") [.ref l]) Q E s:=by
 obtain ⟨xs, e⟩:=hi.allInts.items
 have hn : numsOf (intItems xs).toList = ns:=by rw [<- e]; exact hi.numsOf
 rw [nums_intItems] at hn
 subst hn
 rw [e] at hl
 have hsz : 0 < xs.size:=by simpa using hne
 refine PySem.min_intList hh hl hsz fun v h' tk hv hk => ?_
 obtain ⟨t, rfl⟩:=intItems_at hv
 obtain ⟨h1, h2⟩:=argBest_lt (numAt xs) (xs.size - 1)
 refine h h' tk _ t hk ?_ fun a ha => ?_
 ·rw [numAt_eq]; exact PySem.getD_mem (by rw [List.length_map, Array.length_toList]; omega)
 ·obtain ⟨j, hj, rfl⟩:=mem_getD ha
  rw [List.length_map, Array.length_toList] at hj
  rw [<- numAt_eq]; exact h2 j (by omega)
end
section
variable {X : Cx}
def rSum (K : PySem.W.Frag) : List V -> Hp -> VK -> Prop:=fun vs H Q => ∃ (a : Addr) (ns : List Int), vs = [V.ref a] /\ SqL K H a (ns.map V.int) /\ Q (.int ns.sum) H
def rMax (K : PySem.W.Frag) : List V -> Hp -> VK -> Prop:=fun vs H Q => ∃ (a : Addr) (ns : List Int), vs = [V.ref a] /\ SqL K H a (ns.map V.int) /\ 0 < ns.length /\ ∀ m, m ∈ ns -> (∀ y, y ∈ ns -> y <= m) -> Q (.int m) H
def rMin (K : PySem.W.Frag) : List V -> Hp -> VK -> Prop:=fun vs H Q => ∃ (a : Addr) (ns : List Int), vs = [V.ref a] /\ SqL K H a (ns.map V.int) /\ 0 < ns.length /\ ∀ m, m ∈ ns -> (∀ y, y ∈ ns -> m <= y) -> Q (.int m) H
theorem cr_sum (hc : X.calm = true) : CallR X (.builtin "sum") (rSum X.K):=by
 intro pins s σ H vs us Q I r h
 obtain ⟨a, ns, rfl, hs, q⟩:=h
 obtain ⟨its, rv, hl, _⟩:=I.list hs
 rw [Vals.ref1 r]
 exact sum_raw (I.ok.hd hc) hl.isList rv.ints fun h' tk t' hk => ⟨.int _, H, I.kept hk, ⟨_, rfl⟩, q⟩
theorem cr_max (hc : X.calm = true) : CallR X (.builtin "max") (rMax X.K):=by
 intro pins s σ H vs us Q I r h
 obtain ⟨a, ns, rfl, hs, hne, q⟩:=h
 obtain ⟨its, rv, hl, _⟩:=I.list hs
 rw [Vals.ref1 r]
 exact max_raw (I.ok.hd hc) hl.isList rv.ints hne fun h' tk m t' hk h1 h2 => ⟨.int _, H, I.kept hk, ⟨_, rfl⟩, q m h1 h2⟩
theorem cr_min (hc : X.calm = true) : CallR X (.builtin "min") (rMin X.K):=by
 intro pins s σ H vs us Q I r h
 obtain ⟨a, ns, rfl, hs, hne, q⟩:=h
 obtain ⟨its, rv, hl, _⟩:=I.list hs
 rw [Vals.ref1 r]
 exact min_raw (I.ok.hd hc) hl.isList rv.ints hne fun h' tk m t' hk h1 h2 => ⟨.int _, H, I.kept hk, ⟨_, rfl⟩, q m h1 h2⟩
theorem small64 {n : Nat} (h : n < 64) : n <= sizeLine:=by rw [sizeLine_eq]; omega
end
mutual
inductive Dp (K : PySem.W.Frag) (H : Hp) : V -> PyData -> Prop
 | non : Dp K H .non .none
 | bl (b : Bool) : Dp K H (.bl b) (.bool b)
 | int (i : Int) : Dp K H (.int i) (.int i)
 | str (x : Str) : Dp K H (.str x) (.str x)
 | lst {a : Addr} {xs : List V} {ds : List PyData} : SqL K H a xs -> DpAll K H xs ds -> Dp K H (.ref a) (.list ds)
 | tup {a : Addr} {xs : List V} {ds : List PyData} : SqT K H a xs -> DpAll K H xs ds -> Dp K H (.ref a) (.tuple ds)
inductive DpAll (K : PySem.W.Frag) (H : Hp) : List V -> List PyData -> Prop
 | nil : DpAll K H [] []
 | cons {v : V} {vs : List V} {d : PyData} {ds : List PyData} : Dp K H v d -> DpAll K H vs ds -> DpAll K H (v :: vs) (d :: ds)
end
section
variable {X : Cx} {pins : List (Addr × Obj)} {σ : St} {H : Hp} {s : Shared}
mutual
theorem Dp.reads (I : Inv X pins σ H s) : ∀ (d : PyData) (v : V) (u : Value), Dp X.K H v d -> RelV v u -> ∃ as, Reads s.heap u d as
 | .none, _, _, h, r => by
  cases h
  cases r
  exact ⟨_, Reads.none⟩
 | .bool b, _, _, h, r => by
  cases h
  cases r
  exact ⟨_, Reads.bool b⟩
 | .int i, _, _, h, r => by
  cases h
  obtain ⟨t, rfl⟩:=r
  exact ⟨_, Reads.int i t⟩
 | .str x, _, _, h, r => by
  cases h
  obtain ⟨t, rfl⟩:=r
  exact ⟨_, Reads.str x t⟩
 | .list ds, _, _, h, r => by
  cases h with
  | lst hs ha =>
   cases r
   obtain ⟨its, rv, ⟨o, n, ho, hc, _, hd⟩, _⟩:=I.list hs
   obtain ⟨as, hr⟩:=Dp.readsAll I ds _ its ha rv
   exact ⟨_, Reads.list ho hc hd hr⟩
 | .tuple ds, _, _, h, r => by
  cases h with
  | tup hs ha =>
   cases r
   obtain ⟨its, rv, ⟨o, ho, hc, n, hd⟩, _⟩:=I.tuple hs
   obtain ⟨as, hr⟩:=Dp.readsAll I ds _ its ha rv
   exact ⟨_, Reads.tuple ho hc hd hr⟩
 | .dict _, _, _, h, _ => by cases h
theorem Dp.readsAll (I : Inv X pins σ H s) : ∀ (ds : List PyData) (vs : List V) (us : List Value), DpAll X.K H vs ds -> Vals vs us -> ∃ as, ReadsAll s.heap us ds as
 | [], _, _, h, r => by
  cases h
  cases r
  exact ⟨_, ReadsAll.nil⟩
 | d :: ds, _, _, h, r => by
  cases h with
  | cons h1 h2 =>
   cases r with
   | cons r1 r2 =>
    obtain ⟨as, q1⟩:=Dp.reads I d _ _ h1 r1
    obtain ⟨bs, q2⟩:=Dp.readsAll I ds _ _ h2 r2
    exact ⟨_, ReadsAll.cons q1 q2⟩
end
end
section
variable {X : Cx}
def rEqD (K : PySem.W.Frag) : R2:=fun x y H Q => ∃ d e, Dp K H x d /\ Dp K H y e /\ SeqAt.shaped d = true /\ SeqAt.shaped e = true /\ Q (.bl (PyData.eqv d e)) H
theorem op_eqD (hu : X.A.units + 64 < cLine) : OpR X (compareOp .Eq) (rEqD X.K):=by
 intro pins s σ H x y v u Q I rx ry h
 obtain ⟨d, e, hd, he, sd, se, q⟩:=h
 obtain ⟨as, r1⟩:=Dp.reads I d x v hd rx
 obtain ⟨bs, r2⟩:=Dp.reads I e y u he ry
 exact SeqAt.compareEq_shaped r1 r2 sd se hu ⟨.bl _, H, I, rfl, q⟩
end
end L2
namespace L2
open PySem PySem.Spec PyProof.Rows
abbrev CellAt (h : Heap) (c : Addr) (v : Option Value) : Prop:=h.IsCell c v
def relS (scope sc : Scope) : Scope :=
 { scope with names:=scope.names.map fun (n, k) => if (k == .free && sc.kind == .function && sc.names.lookup n == some .cell) then (n, .cell) else (n, k) }
def cloFrom (cells : List (Str × Addr)) : List (Str × NameKind) -> List (Str × Addr) -> List (Str × Addr)
 | [], acc => acc
 | (n, k) :: r, acc => if k == .free then cloFrom cells r ((n, (cells.lookup n).getD 0) :: acc) else cloFrom cells r acc
theorem closure_loop (env : Env) (f : Str × NameKind -> List (Str × Addr) -> Sem (ForInStep (List (Str × Addr))))
  (hf : ∀ n k c, f (n, k) c = if k == .free then (do let a <- cellOf env n; pure (.yield ((n, a) :: c))) else pure (.yield c)) :
  ∀ (names : List (Str × NameKind)) (acc : List (Str × Addr)), (∀ y ∈ names, y.2 = .free -> ∃ c, env.cells.lookup y.1 = some c) -> forIn names acc f = pure (cloFrom env.cells names acc)
 | [], acc, _ => by rw [List.forIn_nil]; rfl
 | (n, k) :: r, acc, h => by
  rw [List.forIn_cons, hf]
  have ih:=fun acc => closure_loop env f hf r acc fun y hy => h y (List.mem_cons_of_mem _ hy)
  unfold cloFrom
  by_cases hk : (k == NameKind.free) = true
  ·rw [if_pos hk, if_pos hk]
   obtain ⟨c, hc⟩:=h (n, k) List.mem_cons_self (by simpa using hk)
   have e : cellOf env n = pure c:=by unfold cellOf; rw [hc]
   rw [e]
   have e2 : (env.cells.lookup n).getD 0 = c:=by rw [hc]; rfl
   rw [e2]
   exact ih _
  ·rw [if_neg hk, if_neg hk]
   exact ih _
theorem closure_ok {scope : Scope} {env : Env} (h : ∀ y ∈ scope.names, y.2 = .free -> ∃ c, env.cells.lookup y.1 = some c) : closureFor scope env = pure (cloFrom env.cells scope.names []):=by
 simp only [closureFor]
 rw [closure_loop env _ (fun n k c => rfl) scope.names [] h]
 rfl
theorem mem_lookup {α : Type} : ∀ {l : List (Str × α)} {n : Str} {c : α}, (n, c) ∈ l -> ∃ c', l.lookup n = some c'
 | (k, v) :: r, n, c, h => by
  rw [List.lookup_cons]
  cases hb : n == k with
  | true => exact ⟨_, rfl⟩
  | false =>
   rcases List.mem_cons.mp h with e | h
   ·cases e; simp at hb
   ·exact mem_lookup h
theorem cloFrom_mem {cells : List (Str × Addr)} : ∀ {names : List (Str × NameKind)} {acc : List (Str × Addr)} {n : Str} {c : Addr}, (n, c) ∈ cloFrom cells names acc -> (n, c) ∈ acc \/ ((n, .free) ∈ names /\ c = (cells.lookup n).getD 0)
 | [], _, _, _, h => .inl h
 | (m, k) :: r, acc, n, c, h => by
  unfold cloFrom at h
  split at h
  ·rename_i hk
   have hk : k = .free:=by simpa using hk
   rcases cloFrom_mem h with h | ⟨h1, h2⟩
   ·rcases List.mem_cons.mp h with e | h
    ·cases e; exact .inr ⟨hk ▸ List.mem_cons_self, rfl⟩
    ·exact .inl h
   ·exact .inr ⟨List.mem_cons_of_mem _ h1, h2⟩
  ·rcases cloFrom_mem h with h | ⟨h1, h2⟩
   ·exact .inl h
   ·exact .inr ⟨List.mem_cons_of_mem _ h1, h2⟩
theorem cloFrom_acc {cells : List (Str × Addr)} : ∀ {names : List (Str × NameKind)} {acc : List (Str × Addr)} {p : Str × Addr}, p ∈ acc -> p ∈ cloFrom cells names acc
 | [], _, _, h => h
 | (m, k) :: r, acc, p, h => by
  unfold cloFrom
  split
  ·exact cloFrom_acc (List.mem_cons_of_mem _ h)
  ·exact cloFrom_acc h
theorem cloFrom_has {cells : List (Str × Addr)} : ∀ {names : List (Str × NameKind)} {acc : List (Str × Addr)} {n : Str}, (n, .free) ∈ names -> (n, (cells.lookup n).getD 0) ∈ cloFrom cells names acc
 | (m, k) :: r, acc, n, h => by
  unfold cloFrom
  rcases List.mem_cons.mp h with e | h
  ·cases e
   exact cloFrom_acc List.mem_cons_self
  ·split
   ·exact cloFrom_has h
   ·exact cloFrom_has h
theorem cells_mem : ∀ {names : List (Str × NameKind)} {h : Heap} {acc : List (Str × Addr)} {x : Str} {c : Addr}, (x, c) ∈ cellsFrom h.objs.size names acc ->
  (x, c) ∈ acc \/ ((x, .cell) ∈ names /\ h.objs.size <= c /\ CellAt (pushCells h names) c none)
 | [], _, _, _, _, h => .inl h
 | (n, k) :: r, h, acc, x, c, hm => by
  unfold cellsFrom at hm
  unfold pushCells
  split at hm
  ·rename_i hk
   rw [if_pos hk]
   have hk : k = .cell:=by simpa using hk
   rw [<- Heap.size_push h { cls:=.type "cell", data:=.cell none }] at hm
   rcases cells_mem hm with hm | ⟨h1, h2, h3⟩
   ·rcases List.mem_cons.mp hm with e | hm
    ·cases e
     exact .inr ⟨hk ▸ List.mem_cons_self, Nat.le_refl _, _, pushCells_keeps r _ _ _ (Heap.get?_push_size _ rfl), rfl⟩
    ·exact .inl hm
   ·rw [Heap.size_push] at h2
    exact .inr ⟨List.mem_cons_of_mem _ h1, Nat.le_of_succ_le h2, h3⟩
  ·rename_i hk
   rw [if_neg hk]
   rcases cells_mem hm with hm | ⟨h1, h2, h3⟩
   ·exact .inl hm
   ·exact .inr ⟨List.mem_cons_of_mem _ h1, h2, h3⟩
theorem cells_acc : ∀ {names : List (Str × NameKind)} {n : Nat} {acc : List (Str × Addr)} {p : Str × Addr}, p ∈ acc -> p ∈ cellsFrom n names acc
 | [], _, _, _, h => h
 | (m, k) :: r, n, acc, p, h => by
  unfold cellsFrom
  split
  ·exact cells_acc (List.mem_cons_of_mem _ h)
  ·exact cells_acc h
theorem cells_has : ∀ {names : List (Str × NameKind)} {n : Nat} {acc : List (Str × Addr)} {x : Str}, (x, .cell) ∈ names -> ∃ c, (x, c) ∈ cellsFrom n names acc
 | (m, k) :: r, n, acc, x, h => by
  unfold cellsFrom
  rcases List.mem_cons.mp h with e | h
  ·cases e
   exact ⟨n, cells_acc List.mem_cons_self⟩
  ·split
   ·exact cells_has h
   ·exact cells_has h
theorem cells_inj : ∀ {names : List (Str × NameKind)} {h : Heap} {acc : List (Str × Addr)} {x y : Str} {c : Addr}, (∀ p ∈ acc, p.2 < h.objs.size) -> (∀ x y c, (x, c) ∈ acc -> (y, c) ∈ acc -> x = y) ->
  (x, c) ∈ cellsFrom h.objs.size names acc -> (y, c) ∈ cellsFrom h.objs.size names acc -> x = y
 | [], _, _, _, _, _, _, hi, h1, h2 => hi _ _ _ h1 h2
 | (n, k) :: r, h, acc, x, y, c, hl, hi, h1, h2 => by
  unfold cellsFrom at h1 h2
  split at h1
  ·rename_i hk
   rw [if_pos hk] at h2
   rw [<- Heap.size_push h { cls:=.type "cell", data:=.cell none }] at h1 h2
   refine cells_inj (h:=h.push _) (fun p hp => ?_) (fun x y c a b => ?_) h1 h2
   ·rw [Heap.size_push]
    rcases List.mem_cons.mp hp with rfl | hp
    ·exact Nat.lt_succ_self _
    ·exact Nat.lt_succ_of_lt (hl p hp)
   ·rcases List.mem_cons.mp a with e | a <;> rcases List.mem_cons.mp b with e' | b
    ·cases e; cases e'; rfl
    ·cases e; exact absurd (hl _ b) (Nat.lt_irrefl _)
    ·cases e'; exact absurd (hl _ a) (Nat.lt_irrefl _)
    ·exact hi _ _ _ a b
  ·rename_i hk
   rw [if_neg hk] at h2
   exact cells_inj hl hi h1 h2
theorem newEnv_comp {M : Model} {A : Around} {E : Value -> Shared -> Prop} {s : Shared} {scope : Scope} {globals : Addr} {closure : List (Str × Addr)} {qual : Str} {func : Option Addr} {code : Value} {around : Env} {builtins : Addr} {Q : Env -> Shared -> Prop}
  (h : Q (newEnv scope s.heap.objs.size globals (cellsFrom (s.heap.objs.size + 1) scope.names closure) qual func code (some around) builtins)
   { s with heap:=pushCells (s.heap.push { cls:=.type "dict", data:=.dict #[] }) scope.names }) :
  wpAny M A (newFunctionEnv scope globals closure [] qual func code (some around) builtins) Q E s:=by
 simp only [newFunctionEnv, Option.isSome_some, if_true]
 refine wpAny_bind (wpAny_alloc ?_)
 refine wpAny_bind (wpAny_layCells _ (fun n k c => rfl) scope.names closure _ _ ?_)
 rw [show ({ s with heap:=s.heap.push { cls:=.type "dict", data:=.dict #[] } } : Shared).heap.objs.size = s.heap.objs.size + 1 from Heap.size_push ..]
 rw [List.forIn_nil]
 exact wpAny_bind (wpAny_pure (wpAny_pure h))
theorem lookup_relS {sc : Scope} : ∀ {names : List (Str × NameKind)} {x : Str} {k : NameKind},
  (names.map fun (n, k) => if (k == NameKind.free && sc.kind == .function && sc.names.lookup n == some .cell) then (n, NameKind.cell) else (n, k)).lookup x = some k ->
  ∃ k', names.lookup x = some k' /\ (k = k' \/ (k' = .free /\ k = .cell))
 | [], _, _, h => by simp at h
 | (n, k₀) :: r, x, k, h => by
  have ih:=@lookup_relS sc r x k
  have h' : List.lookup x ((if (k₀ == NameKind.free && sc.kind == .function && sc.names.lookup n == some .cell) = true then (n, NameKind.cell) else (n, k₀)) :: (r.map _)) = some k:=h
  cases hx : x == n with
  | true =>
   simp only [List.lookup_cons, hx]
   by_cases hc : (k₀ == NameKind.free && sc.kind == .function && sc.names.lookup n == some .cell) = true
   ·rw [if_pos hc] at h'
    simp only [List.lookup_cons, hx] at h'
    cases h'
    simp only [Bool.and_eq_true, beq_iff_eq] at hc
    exact ⟨k₀, rfl, .inr ⟨hc.1.1, rfl⟩⟩
   ·rw [if_neg hc] at h'
    simp only [List.lookup_cons, hx] at h'
    cases h'
    exact ⟨_, rfl, .inl rfl⟩
  | false =>
   simp only [List.lookup_cons, hx]
   by_cases hc : (k₀ == NameKind.free && sc.kind == .function && sc.names.lookup n == some .cell) = true
   ·rw [if_pos hc] at h'
    simp only [List.lookup_cons, hx] at h'
    exact ih h'
   ·rw [if_neg hc] at h'
    simp only [List.lookup_cons, hx] at h'
    exact ih h'
structure BlkOk (N : List Str) (sc scope : Scope) (own : List (Str × Nat)) : Prop where
 kind : scope.kind = .function
 uniq : ∀ y ∈ scope.names, scope.names.lookup y.1 = some y.2
 ix : ∀ p ∈ own, N[p.2]? = some p.1
 free : ∀ y ∈ scope.names, y.2 = .free -> sc.names.lookup y.1 = some .cell \/ sc.names.lookup y.1 = some .free
 own : ∀ y ∈ scope.names, y.2 = .local \/ y.2 = .cell -> y.1 ∈ own.map (·.1) \/ y.1 ∉ N
def wipe (σ : St) : List Nat -> St
 | [] => σ
 | v :: vs => (wipe σ vs).set v none
theorem wipe_length (σ : St) : ∀ vs : List Nat, (wipe σ vs).length = σ.length
 | [] => rfl
 | v :: vs => by unfold wipe; rw [List.length_set, wipe_length σ vs]
theorem wipe_some {σ : St} {i : Nat} {x : V} : ∀ {vs : List Nat}, (wipe σ vs)[i]? = some (some x) -> σ[i]? = some (some x) /\ i ∉ vs
 | [], h => ⟨h, by simp⟩
 | v :: vs, h => by
  unfold wipe at h
  by_cases hi : v = i
  ·subst hi
   by_cases hv : v < (wipe σ vs).length
   ·rw [List.getElem?_set_self hv] at h; cases h
   ·rw [List.getElem?_eq_none (by simpa using hv)] at h; cases h
  ·rw [List.getElem?_set_ne hi] at h
   obtain ⟨h1, h2⟩:=wipe_some h
   exact ⟨h1, by simp only [List.mem_cons, not_or]; exact ⟨fun e => hi e.symm, h2⟩⟩
abbrev Cx.blk (X : Cx) (s : Shared) (H : Hp) (scope : Scope) (cenv : Env) (fp : List Addr) : Cx:={ X with s_0:=s, H_0:=H, env:=cenv, outer:=X.stack, ex:=fp, fn:=fun x => scope.names.lookup x == some .cell, pn:=[], xe:=fun _ _ => False }
section
variable {X : Cx} {pins : List (Addr × Obj)} {σ : St} {H : Hp} {s : Shared}
theorem block_start {scope : Scope} {own : List (Str × Nat)} {fp : List Addr} (I : Inv X pins σ H s) (ok : BlkOk X.N X.env.scope scope own) (hN : X.N.Nodup) (hfp : ∀ b ∈ fp, FpOk X pins H b /\ b < s.heap.objs.size) :
  Inv (X.blk s H scope (compEnvC scope (cellsFrom (s.heap.objs.size + 1) scope.names (cloFrom X.env.cells scope.names [])) s.heap.objs.size X.env) fp) [] (wipe σ (own.map (·.2))) H { s with heap:=pushCells (s.heap.push { cls:=.type "dict", data:=.dict #[] }) scope.names }:=by
 have hfree : ∀ y ∈ scope.names, y.2 = .free -> ∃ c, X.env.cells.lookup y.1 = some c:=fun y hy e => by
  rcases ok.free y hy e with k | k
  ·exact I.ok.has _ (.inl k)
  ·exact I.ok.has _ (.inr k)
 generalize hcenv : compEnvC scope (cellsFrom (s.heap.objs.size + 1) scope.names (cloFrom X.env.cells scope.names [])) s.heap.objs.size X.env = cenv
 have kp : ∀ b o, s.heap.get? b = some o -> (pushCells (s.heap.push { cls:=.type "dict", data:=.dict #[] }) scope.names).get? b = some o:=fun b o e => pushCells_keeps _ _ _ _ (Heap.get?_push_of_some _ e)
 have hL : cenv.locals = s.heap.objs.size:=by rw [<- hcenv]; rfl
 have hcl : cenv.cells = cellsFrom (s.heap.objs.size + 1) scope.names (cloFrom X.env.cells scope.names []):=by rw [<- hcenv]; rfl
 have hsc : cenv.scope = relS scope X.env.scope:=by rw [<- hcenv]; rfl
 rw [<- Heap.size_push s.heap { cls:=.type "dict", data:=.dict #[] }] at hcl
 have cm : ∀ {y c}, (y, c) ∈ cloFrom X.env.cells scope.names [] -> X.env.cells.lookup y = some c /\ c < s.heap.objs.size:=fun {y c} hm => by
  rcases cloFrom_mem hm with hm | ⟨h1, rfl⟩
  ·cases hm
  ·obtain ⟨c, hc⟩:=hfree _ h1 rfl
   rw [hc]
   obtain ⟨w, z⟩:=I.cell _ _ hc
   exact ⟨rfl, z.lt⟩
 have mem : ∀ {y c}, cenv.cells.lookup y = some c -> (X.env.cells.lookup y = some c /\ c < s.heap.objs.size) \/ (s.heap.objs.size + 1 <= c /\ CellAt (pushCells (s.heap.push { cls:=.type "dict", data:=.dict #[] }) scope.names) c none):=fun {y c} e => by
  rw [hcl] at e
  rcases cells_mem (PySem.mem_of_lookup e) with hm | ⟨_, h2, h3⟩
  ·exact .inl (cm hm)
  ·rw [Heap.size_push] at h2; exact .inr ⟨h2, h3⟩
 have look : ∀ {y}, scope.names.lookup y = some .free -> ∃ c, cenv.cells.lookup y = some c /\ X.env.cells.lookup y = some c:=fun {y} hl => by
  have hy : (y, NameKind.free) ∈ scope.names:=PySem.mem_of_lookup hl
  obtain ⟨c', e'⟩:=mem_lookup (cells_acc (names:=scope.names) (n:=(s.heap.push { cls:=.type "dict", data:=.dict #[] }).objs.size) (cloFrom_has (cells:=X.env.cells) (acc:=[]) hy))
  rw [<- hcl] at e'
  refine ⟨c', e', ?_⟩
  rw [hcl] at e'
  rcases cells_mem (PySem.mem_of_lookup e') with hm | ⟨h1, _, _⟩
  ·exact (cm hm).1
  ·have:=ok.uniq _ h1
   rw [hl] at this; cases this
 have okB : (X.blk s H scope cenv fp).Ok:=by
  refine ⟨I.ok.mod, by show cenv.scope.kind = _; rw [hsc]; exact ok.kind, by show cenv.globals = _; rw [<- hcenv]; exact I.ok.glob, by show cenv.builtins = _; rw [<- hcenv]; exact I.ok.blt, by show s.heap.objs.size <= cenv.locals; rw [hL]; exact Nat.le_refl _,
   fun y z c e1 e2 => ?_, fun y hy => ?_, fun y c z e => ?_, I.ok.hd, I.ok.frames, .inl rfl, fun b hb => ⟨?_, fun y c e z => ?_⟩, I.bs, Nat.le_trans I.ok.bsz I.sz, fun b o e hb => ?_, fun b hb z => ?_, I.stack, I.stkFree⟩
  ·have e1 : cenv.cells.lookup y = some c:=e1
   have e2 : cenv.cells.lookup z = some c:=e2
   rw [hcl] at e1 e2
   refine cells_inj (fun p hp => ?_) (fun y z c a b => I.ok.inj y z c (cm a).1 (cm b).1) (PySem.mem_of_lookup e1) (PySem.mem_of_lookup e2)
   rw [Heap.size_push]
   exact Nat.lt_succ_of_lt (cm (y:=p.1) (c:=p.2) hp).2
  ·show ∃ c, cenv.cells.lookup y = some c
   have key : ∀ k, cenv.kindOf y = some k -> (k = .cell \/ k = .free) -> ∃ c, cenv.cells.lookup y = some c:=fun k hk hk' => by
    unfold Env.kindOf at hk
    rw [hsc] at hk
    obtain ⟨k', e, r⟩:=lookup_relS hk
    have : k' = .cell \/ k' = .free:=by
     rcases r with rfl | ⟨rfl, _⟩
     ·exact hk'
     ·exact .inr rfl
    rcases this with rfl | rfl
    ·obtain ⟨c, hm⟩:=cells_has (n:=(s.heap.push { cls:=.type "dict", data:=.dict #[] }).objs.size) (acc:=cloFrom X.env.cells scope.names []) (PySem.mem_of_lookup e)
     obtain ⟨c', e'⟩:=mem_lookup hm
     exact ⟨c', by rw [hcl]; exact e'⟩
    ·obtain ⟨c, h1, _⟩:=look e
     exact ⟨c, h1⟩
   rcases hy with hy | hy
   ·exact key _ hy (.inl rfl)
   ·exact key _ hy (.inr rfl)
  ·have z : (scope.names.lookup y == some NameKind.cell) = true:=z
   have z : scope.names.lookup y = some .cell:=by simpa using z
   have e : cenv.cells.lookup y = some c:=e
   rw [hcl] at e
   rcases cells_mem (PySem.mem_of_lookup e) with hm | ⟨_, h2, _⟩
   ·rcases cloFrom_mem hm with hm | ⟨h1, _⟩
    ·cases hm
    ·have q:=ok.uniq _ h1
     rw [z] at q; cases q
   ·rw [Heap.size_push] at h2
    exact Nat.le_of_succ_le h2
  ·show b ≠ cenv.locals
   rw [hL]; exact Nat.ne_of_lt (hfp b hb).2
  ·have e : cenv.cells.lookup y = some c:=e
   rcases mem e with ⟨h1, _⟩ | ⟨h1, _⟩
   ·exact (hfp b hb).1.2.2.2.2.1 y c h1 z
   ·have h2 : s.heap.objs.size + 1 <= b:=by rw [<- z]; exact h1
    exact absurd (Nat.lt_of_lt_of_le (hfp b hb).2 (Nat.le_of_succ_le h2)) (Nat.lt_irrefl _)
  ·rcases (hfp b hb).1.2.2.2.1 with z | z
   ·exact I.ok.noex b o e z
   ·exact absurd (Nat.lt_of_lt_of_le (Heap.lt_size e) (Nat.le_trans I.ok.bsz z)) (Nat.lt_irrefl _)
  ·rcases List.mem_cons.mp (I.stkSub b z) with z | z
   ·exact (hfp b hb).1.2.1 z
   ·exact (hfp b hb).1.2.2.1 z
 refine ⟨okB, rfl, I.bare, Un.kept kp, ⟨fun _ => none, ?_, fun i y av e1 e2 e3 => ?_⟩, fun y c e => ?_, ?_, fun y c e => ?_, fun p hp => ?_, I.hok.kept kp, by rw [wipe_length]; exact I.len⟩
 ·show Heap.Ns _ cenv.locals _
  rw [hL]
  exact Heap.Ns.keeps (Heap.Ns.new ..) fun b o e => pushCells_keeps _ _ _ _ e
 ·obtain ⟨e2, hne⟩:=wipe_some e2
  have hfr : scope.names.lookup y = some .free /\ (cenv.kindOf y = some .cell \/ cenv.kindOf y = some .free):=by
   have key : ∀ k, cenv.scope.names.lookup y = some k -> k = .local \/ k = .cell \/ k = .free -> scope.names.lookup y = some .free /\ (cenv.kindOf y = some .cell \/ cenv.kindOf y = some .free):=fun k hk hk' => by
    have hk0:=hk
    rw [hsc] at hk
    obtain ⟨k', e, r⟩:=lookup_relS hk
    have no : ¬ (k' = .local \/ k' = .cell):=fun hh => by
     rcases ok.own _ (PySem.mem_of_lookup e) hh with e' | e'
     ·obtain ⟨p, hp, hpy⟩:=List.mem_map.mp e'
      have e3:=ok.ix p hp
      have : p.1 = y:=hpy
      rw [this] at e3
      exact hne (List.mem_map.mpr ⟨p, hp, nodup_ix hN e3 e1⟩)
     ·exact e' (List.mem_of_getElem? e1)
    rcases r with rfl | ⟨rfl, rfl⟩
    ·rcases hk' with rfl | rfl | rfl
     ·exact absurd (.inl rfl) no
     ·exact absurd (.inr rfl) no
     ·exact ⟨e, .inr hk0⟩
    ·exact ⟨e, .inl hk0⟩
   have e3 : Vis cenv.scope y:=e3
   rcases e3 with e3 | e3 | e3
   ·exact key _ e3 (.inl rfl)
   ·exact key _ e3 (.inr (.inl rfl))
   ·exact key _ e3 (.inr (.inr rfl))
  obtain ⟨m, hn, hl⟩:=I.loc
  have hvis : Vis X.env.scope y:=(ok.free _ (PySem.mem_of_lookup hfr.1) rfl).elim (fun k => .inr (.inl k)) (fun k => .inr (.inr k))
  obtain ⟨w, r, q⟩:=hl i y av e1 e2 hvis
  refine ⟨w, r, .inr ⟨hfr.2, ?_⟩⟩
  obtain ⟨c, h1, h2⟩:=look hfr.1
  rcases q with ⟨k, _⟩ | ⟨_, c', e', z⟩
  ·have k : X.env.scope.names.lookup y = some .local:=k
   rcases ok.free _ (PySem.mem_of_lookup hfr.1) rfl with k' | k' <;> rw [show X.env.scope.names.lookup y = _ from k'] at k <;> cases k
  ·rw [h2] at e'; cases e'
   exact ⟨c, h1, z.keeps kp⟩
 ·have e : cenv.cells.lookup y = some c:=e
  rcases mem e with ⟨h1, _⟩ | ⟨_, z⟩
  ·obtain ⟨w, z⟩:=I.cell y c h1
   exact ⟨w, z.keeps kp⟩
  ·exact ⟨_, z⟩
 ·show H cenv.locals = none
  rw [hL]; exact I.hok.fresh (Nat.le_refl _)
 ·have e : cenv.cells.lookup y = some c:=e
  rcases mem e with ⟨h1, _⟩ | ⟨h1, _⟩
  ·exact I.freeC y c h1
  ·exact I.hok.fresh (Nat.le_of_succ_le h1)
 ·exact absurd (show p ∈ ([] : List (Addr × Obj)) ++ [] from hp) (by simp)
theorem app_ok {E : Value -> Shared -> Prop} {D : Addr} {xs : List V} {y : V} {v : Value} {Q : Value -> Shared -> Prop} (I : Inv X pins σ H s) (hD : H D = some (.lst xs)) (hz : xs.length < sizeLine) (r : RelV y v)
  (h : ∀ s', Inv X pins σ (upd H D (.lst (xs ++ [y]))) s' -> Q .none s') : wpAny (model X.prog X.w) X.A (call (.builtin "list.append") [.ref D, v]) Q E s:=by
 obtain ⟨hz', its, n, ri, e⟩:=I.hok D _ hD
 have hl:=ri.length
 refine append_at (hsz:=by rw [List.size_toArray]; omega) e fun h' sb ho' => ?_
 refine h { s with heap:=h' } (I.write (t':=s.toks) (by rw [hD]; trivial) (.inl rfl) (fun b u hb q => (sb.2 b hb).trans q) ⟨_, ho'⟩ ⟨by rw [List.length_append]; exact hz, its ++ [v], n + 1, ri.append (.cons r .nil), ?_⟩)
 rw [ho']
 simp
def PTs (X : Cx) (ifs : List Expr) (t : TT) : Prop :=
 ∀ (pins : List (Addr × Obj)) (s : Shared) (σ : St) (H : Hp) (Q : Bool -> Hp -> Prop), Inv X pins σ H s -> t σ H Q ->
  wpAny (model X.prog X.w) X.A (forIn ifs true fun c r => if r = true then do let ok <- isTrue c X.env (eval c X.env); pure (ForInStep.yield ok) else pure (ForInStep.yield r)) (TP X pins σ Q) X.xe s
def tYes : TT:=fun _ H Q => Q true H
theorem pts_nil : PTs X [] tYes:=fun _ _ _ H _ I h => wpAny_tests_nil ⟨H, I, h⟩
theorem pts_one {c : Expr} {t : TT} (h : PT X c t) : PTs X [c] t:=fun pins s σ H Q I hw => wpAny_tests_one (h pins s σ H Q I hw)
end
theorem thnF {α : Type} {t : Sem α} {Q Q' : α -> Shared -> Prop} {M : Model} {A : Around} {E : Value -> Shared -> Prop} {s : Shared} (h : wpAny M A t Q (fun _ _ => False) s) (hQ : ∀ a s, Q a s -> Q' a s) : wpAny M A t Q' E s:=wpAny_mono h hQ fun _ _ z => False.elim z
theorem compLoop_any {prog : Program} {w : World} {A : Around} {R : Result -> Shared -> Prop} {s : Shared} {elt target iter : Expr} {ifs : List Expr} {scope : Scope} {pos : Pos} {it acc : Value} {env : Env} (I : Nat -> Shared -> Prop)
  (turn : ∀ n s, I n s -> wpAny (model prog w) A (pyNext it) (fun r s₁ => match r with
   | none => R (.ok .next) s₁
   | some v => wpAny (model prog w) A (letOwnedTupleGo target it v) (fun _ s₁' => wpAny (model prog w) A (assign target env v) (fun _ s₂ =>
     wpAny (model prog w) A (forIn ifs true fun c r => if r = true then do let ok <- isTrue c env (eval c env); pure (ForInStep.yield ok) else pure (ForInStep.yield r)) (fun ok s₃ =>
      if ok = true then wpAny (model prog w) A (eval elt env) (fun x s₄ =>
       wpAny (model prog w) A (call (.builtin "list.append") [acc, x]) (fun _ s₅ => ∃ m, m < n /\ I m s₅) (notedBy (model prog w) A env fun e s' => R (.error e) s') s₄) (notedBy (model prog w) A env fun e s' => R (.error e) s') s₃
      else ∃ m, m < n /\ I m s₃) (notedBy (model prog w) A env fun e s' => R (.error e) s') s₂) (notedBy (model prog w) A env fun e s' => R (.error e) s') s₁') (notedBy (model prog w) A env fun e s' => R (.error e) s') s₁) (notedBy (model prog w) A env fun e s' => R (.error e) s') s)
  (n : Nat) (h : I n s) :
  codeAny (model prog w) A (.compLoop (.ListComp elt [⟨target, iter, ifs, 0⟩] scope pos) 0 it acc env) R s:=by
 refine codeAny_loop rfl I (fun n s hI => ?_) n h
 show wpAny _ A ((compTurn (.ListComp elt [⟨target, iter, ifs, 0⟩] scope pos) 0 it acc env).onRaise (fun x => do noteFrame x env; theTreesLotGoes x)) _ _ s
 refine wpAny_noted ?_
 rw [compTurn_list]
 refine wpAny_bind (wpAny_standAt (wpAny_bind (wpAny_mono (turn n s hI) (fun r s₁ h₁ => ?_) fun _ _ h' => h')))
 cases r with
 | none => exact wpAny_pure h₁
 | some v =>
  refine wpAny_bind (wpAny_mono h₁ (fun _ s₁' h₁' => ?_) fun _ _ h' => h')
  refine wpAny_bind (wpAny_mono h₁' (fun _ s₂ h₂ => wpAny_bind (wpAny_mono h₂ (fun ok s₃ h₃ => ?_) fun _ _ h' => h')) fun _ _ h' => h')
  cases ok with
  | false => exact wpAny_pure ⟨rfl, h₃⟩
  | true =>
   exact wpAny_bind (wpAny_bind (wpAny_mono h₃ (fun x s₄ h₄ => wpAny_bind (wpAny_mono h₄ (fun _ s₅ h₅ => wpAny_pure (wpAny_pure ⟨rfl, h₅⟩)) fun _ _ h' => h')) fun _ _ h' => h'))
section
variable {X : Cx}
def tLc (wi : TI) (g : TG) (tt : TT) (te : TE) (vs : List Nat) : TE:=fun σ H Q => wi σ H fun J H1 => ∀ D, H1 D = none -> ∃ W : Nat -> Nat -> Hp -> Prop, (∃ m, W 0 m (upd H1 D (.lst []))) /\ ∀ i m H, W i m H ->
 (J.stop i H /\ Q (.ref D) H) \/ (J.go i H /\ ∃ Nx : Hp -> Prop, (∀ H', Nx H' -> ∃ m', m' < m /\ W (i + 1) m' H') /\ ∀ x H', J.yld i H x H' -> g x (wipe σ vs) H' fun σ2 H2 => wipe σ2 vs = wipe σ vs /\ tt σ2 H2 fun b H3 =>
  if b = true then te σ2 H3 fun y H4 => ∃ acc, H4 D = some (.lst acc) /\ acc.length < sizeLine /\ Nx (upd H4 D (.lst (acc ++ [y]))) else Nx H3)
theorem lc_core {pins : List (Addr × Obj)} {s : Shared} {σ : St} {H : Hp} {Q : VK} {elt tg iter : Expr} {ifs : List Expr} {scope : Scope} {own : List (Str × Nat)} {pos pos' : Pos} {wi : TI} {g : TG} {tt : TT} {te : TE} {use : Option (Value -> Sem Unit)} {Qf : Value -> Shared -> Prop}
  (hc : X.calm = true) (hN : X.N.Nodup) (I : Inv X pins σ H s) (hi : PI X tg iter wi) (ok : BlkOk X.N X.env.scope scope own)
  (hg : ∀ (s : Shared) (H : Hp) (C : Addr) (cl : List (Str × Addr)) (fp : List Addr), PG (X.blk s H scope (compEnvC scope cl C X.env) fp) tg g) (ht : ∀ (s : Shared) (H : Hp) (C : Addr) (cl : List (Str × Addr)) (fp : List Addr), PTs (X.blk s H scope (compEnvC scope cl C X.env) fp) ifs tt)
  (he : ∀ (s : Shared) (H : Hp) (C : Addr) (cl : List (Str × Addr)) (fp : List Addr), PE (X.blk s H scope (compEnvC scope cl C X.env) fp) elt te) (hs : ∀ x, foldedSetIterable iter X.env x = pure x)
  (h : tLc wi g tt te (own.map (·.2)) σ H Q)
  (hRR : ∀ D C s' m H', Inv X pins σ H' s' -> Q (.ref D) H' -> s'.heap.Ns C m -> FpOk X pins H' C -> compPost (model X.prog X.w) X.A X.xe use Qf (.ref D) C (.ok .next) s') :
  wpAny (model X.prog X.w) X.A (comprehension (.ListComp elt [⟨tg, iter, ifs, 0⟩] scope pos) scope X.env pos' (newList []) false (eval iter X.env) use) Qf X.xe s:=by
 have hfree : ∀ y ∈ scope.names, y.2 = .free -> ∃ c, X.env.cells.lookup y.1 = some c:=fun y hy e => by
  rcases ok.free y hy e with k | k
  ·exact I.ok.has _ (.inl k)
  ·exact I.ok.has _ (.inr k)
 refine wpAny_comprehension_free (use:=use) rfl hs (closure_ok hfree) ok.kind (fun y hy e => by rw [ok.uniq y hy, e])
  (thn (hi pins s σ H _ I h) fun xv s1 hx => thn hx fun itv s2 h2 => ?_)
 obtain ⟨it, fp, tn, J, H2, e, I2, T, st2, f2, q⟩:=h2
 subst e
 refine wpAny_newObj_type (newEnv_comp ?_) (by show 0 <= sizeLine; decide)
 generalize hD : s2.heap.objs.size = D
 have hDn : H2 D = none:=I2.hok.fresh (Nat.le_of_eq hD)
 obtain ⟨W, ⟨m0, w0⟩, turn⟩:=q D hDn
 generalize hs3 : ({ s2 with heap:=s2.heap.push { cls:=.type "list", data:=.seq ([] : List Value).toArray } } : Shared) = s3
 have I3 : Inv X pins σ (upd H2 D (.lst [])) s3:=by
  rw [<- hs3]
  refine I2.laid (t':=s2.toks) (fun b o e => Heap.get?_push_of_some _ e) (Nat.le_of_eq hD) ⟨Nat.zero_le _, [], 0, .nil, ?_⟩
  rw [<- hD]
  exact Heap.get?_push_size _ rfl
 have h3 : s3.heap = s2.heap.push { cls:=.type "list", data:=.seq ([] : List Value).toArray }:=by rw [<- hs3]
 have sz : ∀ b ∈ fp, b < s2.heap.objs.size:=fun b hb => by
  obtain ⟨o, e, _⟩:=T.obj _ _ st2 b hb
  exact Heap.lt_size e
 have f3 : ∀ b ∈ fp, FpOk X pins (upd H2 D (.lst [])) b /\ b < s3.heap.objs.size:=fun b hb => by
  have hlt:=sz b hb
  refine ⟨⟨?_, (f2 b hb).2⟩, by rw [h3, Heap.size_push]; exact Nat.lt_succ_of_lt hlt⟩
  rw [upd_ne (by rw [<- hD]; exact Nat.ne_of_lt hlt)]
  exact (f2 b hb).1
 have st3 : tn 0 s3.heap:=T.keep _ _ _ st2 fun b _ o e => by rw [h3]; exact Heap.get?_push_of_some _ e
 have I4:=block_start I3 ok hN f3
 have pg:=hg s3 (upd H2 D (.lst [])) s3.heap.objs.size (cellsFrom (s3.heap.objs.size + 1) scope.names (cloFrom X.env.cells scope.names [])) fp
 have pt:=ht s3 (upd H2 D (.lst [])) s3.heap.objs.size (cellsFrom (s3.heap.objs.size + 1) scope.names (cloFrom X.env.cells scope.names [])) fp
 have pe:=he s3 (upd H2 D (.lst [])) s3.heap.objs.size (cellsFrom (s3.heap.objs.size + 1) scope.names (cloFrom X.env.cells scope.names [])) fp
 show codeAny _ _ (.compStart (.ListComp elt [⟨tg, iter, ifs, 0⟩] scope pos) 0 (.ref it) (.ref D) (compEnvC scope (cellsFrom (s3.heap.objs.size + 1) scope.names (cloFrom X.env.cells scope.names [])) s3.heap.objs.size X.env)) (compPost (model X.prog X.w) X.A X.xe use Qf (.ref D) s3.heap.objs.size) { s3 with heap:=pushCells (s3.heap.push { cls:=.type "dict", data:=.dict #[] }) scope.names }
 have nfp : ∀ b ∈ fp, (upd H2 D (.lst [])) b = none:=fun b hb => (f3 b hb).1.1
 generalize hce : compEnvC scope (cellsFrom (s3.heap.objs.size + 1) scope.names (cloFrom X.env.cells scope.names [])) s3.heap.objs.size X.env = ce at I4 pg pt pe ⊢
 have cL : ce.locals = s3.heap.objs.size:=by subst hce; rfl
 generalize hH3 : upd H2 D (.lst []) = H3 at I3 I4 pg pt pe w0 nfp f3
 generalize hs4 : ({ s3 with heap:=pushCells (s3.heap.push { cls:=.type "dict", data:=.dict #[] }) scope.names } : Shared) = s4 at I4 ⊢
 have st4 : tn 0 s4.heap:=T.keep _ _ _ st3 fun b _ o e => by rw [<- hs4]; exact pushCells_keeps _ _ _ _ (Heap.get?_push_of_some _ e)
 have stat : ∀ {σ' : St} {H' : Hp} {s' : Shared}, Inv (X.blk s3 H3 scope ce fp) [] σ' H' s' -> (∀ b ∈ fp, H' b = none) -> ∀ b ∈ fp, FpOk (X.blk s3 H3 scope ce fp) [] H' b:=fun {σ' H' s'} I' hn b hb =>
  ⟨hn b hb, (I'.ok.exf b hb).1, I'.ok.exfs b hb, .inl hb, fun x c e => (I'.ok.exf b hb).2 x c e, fun p hp => absurd (show p ∈ ([] : List (Addr × Obj)) ++ [] from hp) (by simp)⟩
 have loop : codeAny (model X.prog X.w) X.A (.compLoop (.ListComp elt [⟨tg, iter, ifs, 0⟩] scope pos) 0 (.ref it) (.ref D) ce) (compPost (model X.prog X.w) X.A X.xe use Qf (.ref D) s3.heap.objs.size) s4:=by
  refine compLoop_any (fun n s' => ∃ i H', Inv (X.blk s3 H3 scope ce fp) [] (wipe σ (own.map (·.2))) H' s' /\ tn i s'.heap /\ (∀ b ∈ fp, H' b = none) /\ W i n H') ?_ m0 ⟨0, H3, I4, st4, nfp, w0⟩
  rintro n s5 ⟨i, H5, I5, st5, n5, w5⟩
  rcases turn i n H5 w5 with ⟨stop, qq⟩ | ⟨go, Nx, hNx, step⟩
  ·have td:=T.done (X.blk s3 H3 scope ce fp) rfl rfl rfl hc i [] s5 _ H5 (fun _ _ => False) I5 (stat I5 n5) st5 stop
   refine thnF td fun r s6 ⟨hr, I6⟩ => ?_
   subst hr
   have I7 : Inv X pins σ H5 s6:=I3.call' (ch:=fp) I6.os I6.base I6.hok I6.bare fun b hb => ⟨(f3 b hb).1.2.2.2.1, (f3 b hb).1.2.1, (f3 b hb).1.2.2.2.2.1, (f3 b hb).1.2.2.2.2.2⟩
   have nC : H5 s3.heap.objs.size = none:=by
    have z : H5 ce.locals = none:=I6.free
    rw [cL] at z
    exact z
   obtain ⟨m, hn, _⟩:=I6.loc
   have hn : s6.heap.Ns ce.locals m:=hn
   rw [cL] at hn
   exact hRR D s3.heap.objs.size s6 m H5 I7 qq hn (I3.fpOk (Nat.le_refl _) nC)
  ·have ti:=T.item (X.blk s3 H3 scope ce fp) rfl rfl rfl hc i [] s5 _ H5 (fun _ _ => False) I5 (stat I5 n5) st5 go
   refine thnF ti fun r s6 ⟨u, hr, h6⟩ => ?_
   subst hr
   refine thnF h6 fun _ s7 ⟨x, H7, I7, r7, y7, st7, n7⟩ => ?_
   have I7':=I7.pinned (stat I7 n7) (T.obj _ _ st7)
   refine thnF (pg _ s7 _ H7 x u _ I7' r7 (step x H7 y7)) fun _ s8 ⟨σ8, H8, I8, hw8, q8⟩ => ?_
   refine thnF (pt _ s8 σ8 H8 _ I8 q8) fun b s9 ⟨H9, I9, q9⟩ => ?_
   have fin : ∀ {s' : Shared} {H' : Hp}, Inv (X.blk s3 H3 scope ce fp) ([] ++ pinsAt fp s7.heap) σ8 H' s' -> Nx H' -> ∃ m, m < n /\ ∃ i H', Inv (X.blk s3 H3 scope ce fp) [] (wipe σ (own.map (·.2))) H' s' /\ tn i s'.heap /\ (∀ b ∈ fp, H' b = none) /\ W i m H':=fun {s' H'} I' nx => by
    obtain ⟨m', hm, w'⟩:=hNx H' nx
    have pin' : ∀ b ∈ fp, ∀ o, s7.heap.get? b = some o -> s'.heap.get? b = some o /\ H' b = none:=fun b hb o e =>
     let z:=I'.pin (b, o) (List.mem_append_right _ (List.mem_append_right _ (mem_pinsAt hb e)))
     ⟨z.1, z.2.1⟩
    have hl : (wipe σ (own.map (·.2))).length = σ8.length:=by rw [<- hw8, wipe_length]
    refine ⟨m', hm, i + 1, H', (I'.unpinned (pins:=[])).weak hl (fun j v e => ?_), T.keep _ _ _ st7 fun b hb o e => (pin' b hb o e).1, fun b hb => ?_, w'⟩
    ·rw [<- hw8] at e
     exact (wipe_some e).1
    ·obtain ⟨o, e, _⟩:=T.obj _ _ st7 b hb
     exact (pin' b hb o e).2
   cases b with
   | false =>
    simp only [Bool.false_eq_true, if_false] at q9 ⊢
    exact fin I9 q9
   | true =>
    simp only [if_true] at q9 ⊢
    refine thnF (pe _ s9 σ8 H9 _ I9 q9) fun z s10 ⟨yv, H10, I10, r10, acc, hD10, hz10, nx⟩ => ?_
    exact app_ok (X:=X.blk s3 H3 scope ce fp) I10 hD10 hz10 r10 fun s11 I11 => fin I11 nx
 exact codeAny_compStart_list loop (T.self X.A 0 _ _ _ st4 loop)
theorem pe_lc {elt tg iter : Expr} {ifs : List Expr} {scope : Scope} {own : List (Str × Nat)} {pos : Pos} {wi : TI} {g : TG} {tt : TT} {te : TE} (hc : X.calm = true) (hN : X.N.Nodup) (hi : PI X tg iter wi) (ok : BlkOk X.N X.env.scope scope own)
  (hg : ∀ (s : Shared) (H : Hp) (C : Addr) (cl : List (Str × Addr)) (fp : List Addr), PG (X.blk s H scope (compEnvC scope cl C X.env) fp) tg g) (ht : ∀ (s : Shared) (H : Hp) (C : Addr) (cl : List (Str × Addr)) (fp : List Addr), PTs (X.blk s H scope (compEnvC scope cl C X.env) fp) ifs tt)
  (he : ∀ (s : Shared) (H : Hp) (C : Addr) (cl : List (Str × Addr)) (fp : List Addr), PE (X.blk s H scope (compEnvC scope cl C X.env) fp) elt te) (hs : ∀ x, foldedSetIterable iter X.env x = pure x:=by intro _; rfl) :
  PE X (.ListComp elt [⟨tg, iter, ifs, 0⟩] scope pos) (tLc wi g tt te (own.map (·.2))):=by
 intro pins s σ H Q I h
 rw [eval_ListComp]
 refine lc_core hc hN I hi ok hg ht he hs h fun D C s' m H' I' q hn f => ⟨m, hn, fun h'' sb => ?_⟩
 obtain ⟨f0, f1, f2, f3, f4, f5⟩:=f
 exact ⟨.ref D, H', I'.turned (t':=s'.toks) (fun b o hb e => (sb.2 b hb).trans e) f0 f1 f3 f4 f5, rfl, q⟩
theorem ps_setLc {i : Nat} {y : Str} {py : Pos} {elt tg iter : Expr} {ifs : List Expr} {scope : Scope} {own : List (Str × Nat)} {pos spos : Pos} {wi : TI} {g : TG} {tt : TT} {te : TE} (hc : X.calm = true) (hN : X.N.Nodup) (hy : X.N[i]? = some y) (hyl : X.env.scope.names.lookup y = some .local)
  (hsw : swapsWith (.ListComp elt [⟨tg, iter, ifs, 0⟩] scope pos) (some (.Name y py)) spos.line X.env = pure true) (hi : PI X tg iter wi) (ok : BlkOk X.N X.env.scope scope own)
  (hg : ∀ (s : Shared) (H : Hp) (C : Addr) (cl : List (Str × Addr)) (fp : List Addr), PG (X.blk s H scope (compEnvC scope cl C X.env) fp) tg g) (ht : ∀ (s : Shared) (H : Hp) (C : Addr) (cl : List (Str × Addr)) (fp : List Addr), PTs (X.blk s H scope (compEnvC scope cl C X.env) fp) ifs tt)
  (he : ∀ (s : Shared) (H : Hp) (C : Addr) (cl : List (Str × Addr)) (fp : List Addr), PE (X.blk s H scope (compEnvC scope cl C X.env) fp) elt te) (hs : ∀ x, foldedSetIterable iter X.env x = pure x:=by intro _; rfl) :
  PS X (.Assign [.Name y py] (.ListComp elt [⟨tg, iter, ifs, 0⟩] scope pos) spos) (tAsg (tLc wi g tt te (own.map (·.2))) (gName i)):=by
 intro pins s σ H D I h
 rw [exec_Assign_Name_used _ _ _ _ hsw]
 refine wpAny_bind (wpAny_standAt (wpAny_bind ?_))
 show wpAny _ X.A (do let _ <- comprehension (.ListComp elt [⟨tg, iter, ifs, 0⟩] scope pos) scope X.env (firstIterPos [⟨tg, iter, ifs, 0⟩] pos) (newList []) false (eval iter X.env) (some (assign (.Name y py) X.env))) _ _ s
 have h : tLc wi g tt te (own.map (·.2)) σ H (fun x H1 => gName i x σ H1 D.nx):=h
 refine wpAny_bind (thn (lc_core (Qf:=fun _ s' => SP X pins D .next s') hc hN I hi ok hg ht he hs h fun L C s' m H' I' q hn f => ?_) fun _ s' hq => wpAny_pure (wpAny_pure hq))
 show wpAny _ _ (assign (.Name y py) X.env (.ref L)) _ _ _
 refine wpAny_assign_Name (store_ok2 (v:=V.ref L) I' hN hy (.inl hyl) rfl (fun s2 I2 ⟨a, sb, ha⟩ => ?_) (.inr hyl))
 obtain ⟨f0, f1, f2, f3, f4, f5⟩:=f
 have haC : C ≠ a:=by
  rcases ha with z | z
  ·rw [z]; exact f1
  ·exact fun e => f4 y a z e.symm
 refine ⟨m, hn.sameBut sb haC, fun h3 sb3 => ?_⟩
 exact ⟨_, H', I2.turned (t':=s2.toks) (fun b o hb e => (sb3.2 b hb).trans e) f0 f1 f3 f4 f5, q⟩
theorem sw_true {elt : Expr} {gs : List Comprehension} {scope : Scope} {pos py : Pos} {y : Str} {l : Nat} {env : Env} (hk : env.scope.kind = .function) (hy : env.scope.names.lookup y = some .local) (hl : (py.line == pos.line) = true)
  (ha : (scope.names.any fun (n, k) => n == y && (k == .local || k == .cell)) = false) : swapsWith (.ListComp elt gs scope pos) (some (.Name y py)) l env = pure true:=by
 have ky : env.kindOf y = some .local:=hy
 have hb : env.blockKind = .function:=by unfold Env.blockKind; rw [hk]; rfl
 unfold swapsWith
 simp only [hb, ky, ha, Expr.pos, hl]
 rfl
end
theorem lc_range {lo : Int} {n : Nat} {g : TG} {tt : TT} {te : TE} {vs : List Nat} {σ : St} {H1 : Hp} {D : Addr} {Qd : Hp -> Prop} (Pv : Nat -> Hp -> Prop) (h0 : Pv 0 (upd H1 D (.lst [])))
  (hs : ∀ i H, i < n -> Pv i H -> g (.int (lo + i)) (wipe σ vs) H fun σ2 H2 => wipe σ2 vs = wipe σ vs /\ tt σ2 H2 fun b H3 =>
   if b = true then te σ2 H3 fun y H4 => ∃ acc, H4 D = some (.lst acc) /\ acc.length < sizeLine /\ Pv (i + 1) (upd H4 D (.lst (acc ++ [y]))) else Pv (i + 1) H3) (hd : ∀ H, Pv n H -> Qd H) :
  ∃ W : Nat -> Nat -> Hp -> Prop, (∃ m, W 0 m (upd H1 D (.lst []))) /\ ∀ i m H, W i m H ->
   ((Itr lo n).stop i H /\ Qd H) \/ ((Itr lo n).go i H /\ ∃ Nx : Hp -> Prop, (∀ H', Nx H' -> ∃ m', m' < m /\ W (i + 1) m' H') /\ ∀ x H', (Itr lo n).yld i H x H' -> g x (wipe σ vs) H' fun σ2 H2 => wipe σ2 vs = wipe σ vs /\ tt σ2 H2 fun b H3 =>
    if b = true then te σ2 H3 fun y H4 => ∃ acc, H4 D = some (.lst acc) /\ acc.length < sizeLine /\ Nx (upd H4 D (.lst (acc ++ [y]))) else Nx H3):=by
 refine ⟨fun i m H => m = n - i /\ i <= n /\ Pv i H, ⟨n, by simp, Nat.zero_le _, h0⟩, ?_⟩
 rintro i m H ⟨rfl, hi, p⟩
 by_cases hlt : i < n
 ·refine .inr ⟨hlt, Pv (i + 1), fun H' p' => ⟨n - (i + 1), by omega, rfl, hlt, p'⟩, fun x H' y => ?_⟩
  obtain ⟨e, y⟩:=y
  subst e y
  exact hs i _ hlt p
 ·have e : i = n:=by omega
  subst e
  exact .inl ⟨Nat.le_refl _, hd H p⟩
theorem lc_list {K : PySem.W.Frag} {a : Addr} {xs : List V} {g : TG} {tt : TT} {te : TE} {vs : List Nat} {σ : St} {H1 : Hp} {D : Addr} {Qd : Hp -> Prop} (Pv : Nat -> Hp -> Prop) (h0 : Pv 0 (upd H1 D (.lst []))) (hl : ∀ i H, i <= xs.length -> Pv i H -> SqL K H a xs)
  (hs : ∀ i x H, xs[i]? = some x -> Pv i H -> g x (wipe σ vs) H fun σ2 H2 => wipe σ2 vs = wipe σ vs /\ tt σ2 H2 fun b H3 =>
   if b = true then te σ2 H3 fun y H4 => ∃ acc, H4 D = some (.lst acc) /\ acc.length < sizeLine /\ Pv (i + 1) (upd H4 D (.lst (acc ++ [y]))) else Pv (i + 1) H3) (hd : ∀ H, Pv xs.length H -> Qd H) :
  ∃ W : Nat -> Nat -> Hp -> Prop, (∃ m, W 0 m (upd H1 D (.lst []))) /\ ∀ i m H, W i m H ->
   ((Itl K a).stop i H /\ Qd H) \/ ((Itl K a).go i H /\ ∃ Nx : Hp -> Prop, (∀ H', Nx H' -> ∃ m', m' < m /\ W (i + 1) m' H') /\ ∀ x H', (Itl K a).yld i H x H' -> g x (wipe σ vs) H' fun σ2 H2 => wipe σ2 vs = wipe σ vs /\ tt σ2 H2 fun b H3 =>
    if b = true then te σ2 H3 fun y H4 => ∃ acc, H4 D = some (.lst acc) /\ acc.length < sizeLine /\ Nx (upd H4 D (.lst (acc ++ [y]))) else Nx H3):=by
 refine ⟨fun i m H => m = xs.length - i /\ i <= xs.length /\ Pv i H, ⟨xs.length, by simp, Nat.zero_le _, h0⟩, ?_⟩
 rintro i m H ⟨rfl, hi, p⟩
 have q:=hl i H hi p
 by_cases hlt : i < xs.length
 ·refine .inr ⟨⟨xs, xs[i], q, by simp [hlt]⟩, Pv (i + 1), fun H' p' => ⟨xs.length - (i + 1), by omega, rfl, hlt, p'⟩, fun x H' y => ?_⟩
  obtain ⟨e, y⟩:=y
  subst e
  exact hs i x _ (y xs q) p
 ·have e : i = xs.length:=by omega
  subst e
  exact .inl ⟨⟨xs, q, Nat.le_refl _⟩, hd H p⟩
theorem lc_tup {K : PySem.W.Frag} {a : Addr} {xs : List V} {g : TG} {tt : TT} {te : TE} {vs : List Nat} {σ : St} {H1 : Hp} {D : Addr} {Qd : Hp -> Prop} (Pv : Nat -> Hp -> Prop) (h0 : Pv 0 (upd H1 D (.lst []))) (hl : ∀ i H, i <= xs.length -> Pv i H -> SqT K H a xs)
  (hs : ∀ i x H, xs[i]? = some x -> Pv i H -> g x (wipe σ vs) H fun σ2 H2 => wipe σ2 vs = wipe σ vs /\ tt σ2 H2 fun b H3 =>
   if b = true then te σ2 H3 fun y H4 => ∃ acc, H4 D = some (.lst acc) /\ acc.length < sizeLine /\ Pv (i + 1) (upd H4 D (.lst (acc ++ [y]))) else Pv (i + 1) H3) (hd : ∀ H, Pv xs.length H -> Qd H) :
  ∃ W : Nat -> Nat -> Hp -> Prop, (∃ m, W 0 m (upd H1 D (.lst []))) /\ ∀ i m H, W i m H ->
   ((Itt K a).stop i H /\ Qd H) \/ ((Itt K a).go i H /\ ∃ Nx : Hp -> Prop, (∀ H', Nx H' -> ∃ m', m' < m /\ W (i + 1) m' H') /\ ∀ x H', (Itt K a).yld i H x H' -> g x (wipe σ vs) H' fun σ2 H2 => wipe σ2 vs = wipe σ vs /\ tt σ2 H2 fun b H3 =>
    if b = true then te σ2 H3 fun y H4 => ∃ acc, H4 D = some (.lst acc) /\ acc.length < sizeLine /\ Nx (upd H4 D (.lst (acc ++ [y]))) else Nx H3):=by
 refine ⟨fun i m H => m = xs.length - i /\ i <= xs.length /\ Pv i H, ⟨xs.length, by simp, Nat.zero_le _, h0⟩, ?_⟩
 rintro i m H ⟨rfl, hi, p⟩
 have q:=hl i H hi p
 by_cases hlt : i < xs.length
 ·refine .inr ⟨⟨xs, xs[i], q, by simp [hlt]⟩, Pv (i + 1), fun H' p' => ⟨xs.length - (i + 1), by omega, rfl, hlt, p'⟩, fun x H' y => ?_⟩
  obtain ⟨e, y⟩:=y
  subst e
  exact hs i x _ (y xs q) p
 ·have e : i = xs.length:=by omega
  subst e
  exact .inl ⟨⟨xs, q, Nat.le_refl _⟩, hd H p⟩
def blkC (N : List Str) (sc scope : Scope) (own : List (Str × Nat)) : Bool :=
 (match scope.kind with | .function => true | _ => false) && (scope.names.all fun y => decide (scope.names.lookup y.1 = some y.2)) && (own.all fun p => decide (N[p.2]? = some p.1)) &&
  (scope.names.all fun y => match y.2 with
   | .free => (match sc.names.lookup y.1 with | some .cell => true | some .free => true | _ => false)
   | .local => decide (y.1 ∈ own.map (·.1)) || decide (y.1 ∉ N)
   | .cell => decide (y.1 ∈ own.map (·.1)) || decide (y.1 ∉ N)
   | _ => true)
theorem blkOk_by {N : List Str} {sc scope : Scope} {own : List (Str × Nat)} (h : blkC N sc scope own = true) : BlkOk N sc scope own:=by
 unfold blkC at h
 simp only [Bool.and_eq_true, List.all_eq_true, decide_eq_true_eq] at h
 obtain ⟨⟨⟨h1, h2⟩, h3⟩, h4⟩:=h
 refine ⟨?_, h2, h3, fun y hy e => ?_, fun y hy e => ?_⟩
 ·split at h1
  ·assumption
  ·cases h1
 ·have q:=h4 y hy
  simp only [e] at q
  split at q <;> first | exact .inl (by assumption) | exact .inr (by assumption) | cases q
 ·have q:=h4 y hy
  rcases e with e | e <;> (simp only [e, Bool.or_eq_true, decide_eq_true_eq] at q; exact q)
end L2
namespace L2
open PySem PySem.Spec PyProof.Rows
end L2
namespace L2
open PySem PySem.Spec PyProof.Rows
section
variable {κ : Type} [DecidableEq κ]
def valV (kvs : List (κ × V)) (k : κ) : Option V:=(kvs.find? fun kv => decide (kv.1 = k)).map (·.2)
def putK (kvs : List (κ × V)) (k : κ) (v : V) : List (κ × V) :=
 if (kvs.any fun kv => decide (kv.1 = k)) = true then kvs.map (fun kv => if kv.1 = k then (kv.1, v) else kv) else kvs ++ [(k, v)]
theorem valV_pos {p : κ × V} {r : List (κ × V)} {k : κ} (e : p.1 = k) : valV (p :: r) k = some p.2:=by simp [valV, List.find?_cons, e]
theorem valV_neg {p : κ × V} {r : List (κ × V)} {k : κ} (e : ¬ p.1 = k) : valV (p :: r) k = valV r k:=by simp [valV, List.find?_cons, e]
theorem valV_any (k : κ) : ∀ kvs : List (κ × V), (kvs.any fun kv => decide (kv.1 = k)) = (valV kvs k).isSome
 | [] => rfl
 | p :: r => by
  rw [List.any_cons]
  by_cases e : p.1 = k
  ·simp only [valV_pos e, decide_eq_true e, Bool.true_or, Option.isSome_some]
  ·rw [valV_neg e, decide_eq_false e, Bool.false_or]; exact valV_any k r
theorem length_putK (kvs : List (κ × V)) (k : κ) (v : V) : (putK kvs k v).length <= kvs.length + 1:=by
 unfold putK
 split
 ·rw [List.length_map]; omega
 ·rw [List.length_append, List.length_cons, List.length_nil]; omega
theorem RelO.isSome_eq {o : Option V} {u : Option Value} (r : RelO o u) : o.isSome = u.isSome:=by
 cases o with
 | none => cases u with
  | none => rfl
  | some _ => exact (show False from r).elim
 | some _ => cases u with
  | none => exact (show False from r).elim
  | some _ => rfl
theorem RelO.getD {o : Option V} {u : Option Value} {d : V} {d' : Value} (r : RelO o u) (rd : RelV d d') : RelV (o.getD d) (u.getD d'):=by
 cases o with
 | none => cases u with
  | none => exact rd
  | some _ => exact (show False from r).elim
 | some _ => cases u with
  | none => exact (show False from r).elim
  | some _ => exact r
theorem KV.val {kvs : List (κ × V)} {vs : List (κ × Value)} (r : KV kvs vs) (k : κ) : RelO (valV kvs k) (valueAt vs k):=by
 unfold KV at r
 induction r with
 | nil => exact True.intro
 | @cons p q ps qs h t ih =>
  obtain ⟨h1, h2⟩:=h
  by_cases e : p.1 = k
  ·have e' : q.1 = k:=h1.symm.trans e
   have b : valueAt (q :: qs) k = some q.2:=by simp [valueAt, List.find?_cons, e']
   rw [valV_pos e, b]; exact h2
  ·have e' : ¬ q.1 = k:=fun z => e (h1.trans z)
   have b : valueAt (q :: qs) k = valueAt qs k:=by simp [valueAt, List.find?_cons, e']
   rw [valV_neg e, b]; exact ih
theorem KV.any {kvs : List (κ × V)} {vs : List (κ × Value)} (r : KV kvs vs) (k : κ) : (kvs.any fun kv => decide (kv.1 = k)) = vs.any fun kv => decide (kv.1 = k):=by
 unfold KV at r
 induction r with
 | nil => rfl
 | cons h t ih => rw [List.any_cons, List.any_cons, ih, h.1]
theorem KV.repl {kvs : List (κ × V)} {vs : List (κ × Value)} (r : KV kvs vs) (k : κ) {y : V} {u : Value} (ry : RelV y u) :
  KV (kvs.map fun kv => if kv.1 = k then (kv.1, y) else kv) (vs.map fun kv => if kv.1 = k then (kv.1, u) else kv):=by
 unfold KV at r ⊢
 induction r with
 | nil => exact .nil
 | @cons p q ps qs h t ih =>
  rw [List.map_cons, List.map_cons]
  refine .cons ?_ ih
  obtain ⟨h1, h2⟩:=h
  by_cases e : p.1 = k
  ·rw [if_pos e, if_pos (h1.symm.trans e)]; exact ⟨h1, ry⟩
  ·rw [if_neg e, if_neg (fun z => e (h1.trans z))]; exact ⟨h1, h2⟩
theorem KV.put {kvs : List (κ × V)} {vs : List (κ × Value)} (r : KV kvs vs) (k : κ) {y : V} {u : Value} (ry : RelV y u) : KV (putK kvs k y) (stored vs k u):=by
 unfold putK stored
 rw [r.any k]
 by_cases e : (vs.any fun kv => decide (kv.1 = k)) = true
 ·rw [if_pos e, if_pos e]; exact r.repl k ry
 ·rw [if_neg e, if_neg e]; exact Paired.snoc r ⟨rfl, ry⟩
theorem KV.length {kvs : List (κ × V)} {vs : List (κ × Value)} (r : KV kvs vs) : kvs.length = vs.length:=Paired.length r
end
theorem kV_is {P : Program} {w : World} {k : Key} {u : Value} (r : RelV (kV k) u) : (mixKind P w).is k u = true:=by
 cases k with
 | inl i => obtain ⟨t, e⟩:=(show ∃ t, u = Value.int i t from r); subst e; exact mixKind_int P w i t
 | inr x => obtain ⟨t, e⟩:=(show ∃ t, u = Value.str x t from r); subst e; exact mixKind_str P w x t
theorem items_are {P : Program} {w : World} : ∀ {ks : List Key} {us : List Value}, Vals (ks.map kV) us -> ItemsAre (mixKind P w) ks us
 | [], _, r => by rw [List.map_nil] at r; cases r; exact .nil
 | k :: ks, _, r => by
  rw [List.map_cons] at r
  cases r with
  | cons h t => exact .cons (kV_is h) (items_are t)
abbrev KT (H : Hp) : List (List Key × V) -> List (List Key × Addr × Value) -> Prop:=Paired fun p q => p.1 = q.1 /\ H q.2.1 = some (.tup (p.1.map kV)) /\ RelV p.2 q.2.2
theorem KT.val {H : Hp} {kvs : List (List Key × V)} {xs : List (List Key × Addr × Value)} (r : KT H kvs xs) (k : List Key) : RelO (valV kvs k) ((atKey xs k).map (·.2)):=by
 induction r with
 | nil => exact True.intro
 | @cons p q ps qs h t ih =>
  obtain ⟨h1, _, h2⟩:=h
  by_cases e : p.1 = k
  ·have e' : q.1 = k:=h1.symm.trans e
   have b : atKey (q :: qs) k = some q.2:=by simp [atKey, List.find?_cons, e']
   rw [valV_pos e, b]; exact h2
  ·have e' : ¬ q.1 = k:=fun z => e (h1.trans z)
   have b : atKey (q :: qs) k = atKey qs k:=by simp [atKey, List.find?_cons, e']
   rw [valV_neg e, b]; exact ih
theorem KT.repl {H : Hp} {kvs : List (List Key × V)} {xs : List (List Key × Addr × Value)} (r : KT H kvs xs) (k : List Key) {y : V} {u : Value} (ry : RelV y u) :
  KT H (kvs.map fun kv => if kv.1 = k then (kv.1, y) else kv) (xs.map (putAt k u)):=by
 induction r with
 | nil => exact .nil
 | @cons p q ps qs h t ih =>
  rw [List.map_cons, List.map_cons]
  refine .cons ?_ ih
  obtain ⟨h1, h2, h3⟩:=h
  unfold putAt
  by_cases e : p.1 = k
  ·rw [if_pos e, if_pos (h1.symm.trans e)]; exact ⟨h1, h2, ry⟩
  ·rw [if_neg e, if_neg (fun z => e (h1.trans z))]; exact ⟨h1, h2, h3⟩
theorem KT.put {H : Hp} {kvs : List (List Key × V)} {xs : List (List Key × Addr × Value)} (r : KT H kvs xs) (k : List Key) {b : Addr} {y : V} {u : Value} (hb : H b = some (.tup (k.map kV))) (ry : RelV y u) :
  KT H (putK kvs k y) (storedH xs k b u):=by
 have e : (kvs.any fun kv => decide (kv.1 = k)) = (atKey xs k).isSome:=by
  rw [valV_any, (r.val k).isSome_eq, Option.isSome_map]
 unfold putK storedH
 rw [e]
 by_cases q : (atKey xs k).isSome = true
 ·rw [if_pos q, if_pos q]; exact r.repl k ry
 ·rw [if_neg q, if_neg q]; exact Paired.snoc r ⟨rfl, hb, ry⟩
theorem KT.keeps {H H' : Hp} {kvs : List (List Key × V)} {xs : List (List Key × Addr × Value)} (r : KT H kvs xs) (ht : ∀ b ys, H b = some (.tup ys) -> H' b = some (.tup ys)) : KT H' kvs xs :=
 Paired.mapP r fun _ _ z => ⟨z.1, ht _ _ z.2.1, z.2.2⟩
section
variable {P : Program} {w : World} {H : Hp} {h : Heap} {a : Addr}
theorem rd_of {u : HO} (ok : HOk P w H h) (e : Rd H a u) : ObjOk P w H h a u:=e.ok ok
theorem dk_rd {kvs : List (Key × V)} (ok : HOk P w H h) (e : Rd H a (.dK kvs)) : kvs.length <= sizeLine /\ (a == sysModules) = false /\ ∃ vs, KV kvs vs /\ h.DictOf (mixKind P w) a vs :=
 show ObjOk P w H h a (.dK kvs) from rd_of ok e
theorem dk_of {kvs : List (Key × V)} (ok : HOk P w H h) (e : H a = some (.dK kvs)) : kvs.length <= sizeLine /\ (a == sysModules) = false /\ ∃ vs, KV kvs vs /\ h.DictOf (mixKind P w) a vs:=dk_rd ok (.inl e)
theorem key_of {ks : List Key} (ok : HOk P w H h) (e : H a = some (.tup (ks.map kV))) : (tupleKind (mixKind P w)).is h ks a:=by
 obtain ⟨_, its, r, o, h1, h2, n, h3⟩:=(show ObjOk P w H h a (.tup (ks.map kV)) from ok a _ e)
 exact ⟨o, its.toArray, n, h1, h2, h3, by simpa using items_are r⟩
theorem dt_rd {kvs : List (List Key × V)} (ok : HOk P w H h) (e : Rd H a (.dT kvs)) : kvs.length <= sizeLine /\ (a == sysModules) = false /\
  ∃ xs, KT H kvs xs /\ h.DictOfH (tupleKind (mixKind P w)) a xs:=by
 obtain ⟨z, y, xs, r, o, es, ep, h1, h2, h3, h4, h5⟩:=(show ObjOk P w H h a (.dT kvs) from rd_of ok e)
 refine ⟨z, y, xs, r, o, es, ep, h1, h2, h3, h4, fun x hx => ?_, h5⟩
 have all : ∀ {l : List (List Key × V)} {m : List (List Key × Addr × Value)}, KT H l m -> ∀ x ∈ m, (tupleKind (mixKind P w)).is h x.1 x.2.1:=by
  intro l m q
  induction q with
  | nil => intro x hx; exact nomatch hx
  | @cons p q ps qs hq t ih =>
   intro x hx
   rcases List.mem_cons.mp hx with e | hx
   ·subst e
    exact key_of ok (by rw [<- hq.1]; exact hq.2.1)
   ·exact ih x hx
 exact all r x hx
theorem dt_of {kvs : List (List Key × V)} (ok : HOk P w H h) (e : H a = some (.dT kvs)) : kvs.length <= sizeLine /\ (a == sysModules) = false /\
  ∃ xs, KT H kvs xs /\ h.DictOfH (tupleKind (mixKind P w)) a xs:=dt_rd ok (.inl e)
end
def DGet (H : Hp) (a : Addr) (y : V) (r : Option V) : Prop :=
 (∃ kvs k, Rd H a (.dK kvs) /\ y = kV k /\ r = valV kvs k) \/ ∃ kvs k b, Rd H a (.dT kvs) /\ y = .ref b /\ H b = some (.tup (k.map kV)) /\ r = valV kvs k
def DPut (H : Hp) (a : Addr) (y v : V) (H' : Hp) : Prop :=
 (∃ kvs k, H a = some (.dK kvs) /\ y = kV k /\ kvs.length < sizeLine /\ H' = upd H a (.dK (putK kvs k v))) \/
 ∃ kvs k b, H a = some (.dT kvs) /\ y = .ref b /\ H b = some (.tup (k.map kV)) /\ kvs.length < sizeLine /\ H' = upd H a (.dT (putK kvs k v))
theorem DGet.k {H : Hp} {a : Addr} {kvs : List (Key × V)} {k : Key} (e : H a = some (.dK kvs)) : DGet H a (kV k) (valV kvs k):=.inl ⟨kvs, k, .inl e, rfl, rfl⟩
theorem DGet.t {H : Hp} {a b : Addr} {kvs : List (List Key × V)} {k : List Key} (e : H a = some (.dT kvs)) (eb : H b = some (.tup (k.map kV))) : DGet H a (.ref b) (valV kvs k):=.inr ⟨kvs, k, b, .inl e, rfl, eb, rfl⟩
theorem DPut.t {H : Hp} {a b : Addr} {kvs : List (List Key × V)} {k : List Key} {v : V} (e : H a = some (.dT kvs)) (eb : H b = some (.tup (k.map kV))) (hl : kvs.length < sizeLine) :
  DPut H a (.ref b) v (upd H a (.dT (putK kvs k v))):=.inr ⟨kvs, k, b, e, rfl, eb, hl, rfl⟩
section
variable {X : Cx} {pins : List (Addr × Obj)} {σ : St} {H : Hp} {s : Shared} {a : Addr} {y v : V} {u r : Value} {o : Option V} {A : Around} {E : Value -> Shared -> Prop}
theorem Inv.big (I : Inv X pins σ H s) : sysModules < s.heap.objs.size:=by
 have h : mainGlobals < s.heap.objs.size:=(I.mod.glob.keeps I.bk).lt
 exact Nat.lt_trans (by decide) h
theorem d_getItem {Q : Value -> Shared -> Prop} (hu : A.units + 1 < cLine) (I : Inv X pins σ H s) (g : DGet H a y (some v)) (ry : RelV y u) (h : ∀ w' s', Inv X pins σ H s' -> RelV v w' -> Q w' s') :
  wpAny (model X.prog X.w) A (getItem (.ref a) u) Q E s:=by
 rcases g with ⟨kvs, k, e, ey, l⟩ | ⟨kvs, k, b, e, ey, eb, l⟩
 ·subst ey
  obtain ⟨z, hd, vs, rel, dd⟩:=dk_rd I.hok e
  obtain ⟨w', hw, rw'⟩:=RelO.some_of (v:=v) (o:=valueAt vs k) (by rw [l]; exact rel.val k)
  exact wpAny_getItem_of (kV_is ry) dd.mapOf hw (h w' _ (I.tok _) rw')
 ·subst ey
  cases (show u = Value.ref b from ry)
  obtain ⟨z, hd, xs, rel, dd⟩:=dt_rd I.hok e
  obtain ⟨w', hw, rw'⟩:=RelO.some_of (v:=v) (o:=(atKey xs k).map (·.2)) (by rw [l]; exact rel.val k)
  obtain ⟨p, hp, hp2⟩:=Option.map_eq_some_iff.mp hw
  refine wpAny_getItem_heap (tupleKind_room_in1 hu) (key_of I.hok eb) dd hp ?_
  rw [hp2]
  exact h w' _ (I.tok _) rw'
theorem d_write {h' : Heap} {t' : Nat} {ob : HO} (I : Inv X pins σ H s) (mu : Mut (H a)) (hs : Heap.SameBut a s.heap h') (he : ∃ q, h'.get? a = some q) (new : ObjOk X.prog X.w (upd H a ob) h' a ob) :
  Inv X pins σ (upd H a ob) { s with heap:=h', toks:=t' } :=
 I.write (x:=a) (e:=a) mu (.inl rfl) (fun b q hb z => (hs.2 b hb).trans z) he new
theorem dk_new {P : Program} {w : World} {H' : Hp} {h' : Heap} {kvs : List (Key × V)} {vs : List (Key × Value)} (z : kvs.length <= sizeLine) (hd : (a == sysModules) = false) (rel : KV kvs vs) (dd : h'.DictOf (mixKind P w) a vs) :
  ObjOk P w H' h' a (.dK kvs):=⟨z, hd, vs, rel, dd⟩
theorem d_setItem {H' : Hp} {Q : Unit -> Shared -> Prop} (hu : A.units + 1 < cLine) (I : Inv X pins σ H s) (g : DPut H a y v H') (ry : RelV y u) (rv : RelV v r) (h : ∀ s', Inv X pins σ H' s' -> Q () s') :
  wpAny (model X.prog X.w) A (setItem (.ref a) u r) Q E s:=by
 rcases g with ⟨kvs, k, e, ey, l, eH⟩ | ⟨kvs, k, b, e, ey, eb, l, eH⟩
 ·subst ey eH
  obtain ⟨z, hd, vs, rel, dd⟩:=dk_of I.hok e
  have hz : vs.length <= sizeLine:=by rw [<- rel.length]; exact z
  have hl : (putK kvs k v).length <= sizeLine:=by have:=length_putK kvs k v; omega
  refine wpAny_setItem_pairs (hsz:=hz) (kV_is ry) dd fun h' dd' hs => h _ ?_
  have he : ∃ q, h'.get? a = some q:=let ⟨q, _, _, hq, _⟩:=dd'; ⟨q, hq⟩
  exact d_write I (by rw [e]; exact True.intro) hs he (dk_new hl hd (rel.put k rv) dd')
 ·subst ey eH
  cases (show u = Value.ref b from ry)
  obtain ⟨z, hd, xs, rel, dd⟩:=dt_of I.hok e
  have hz : xs.length <= sizeLine:=by rw [<- Paired.length rel]; exact z
  have hl : (putK kvs k v).length <= sizeLine:=by have:=length_putK kvs k v; omega
  refine wpAny_setItem_heap (hsz:=hz) (tupleKind_room_in1 hu) (key_of I.hok eb) dd fun h' dd' hs => h _ ?_
  obtain ⟨q, es, ep, hq, h2, h3, h4, _, h5⟩:=dd'
  refine d_write I (by rw [e]; exact True.intro) hs ⟨q, hq⟩ ⟨hl, hd, _, (rel.put k eb rv).keeps fun c ys ec => ?_, q, es, ep, hq, h2, h3, h4, h5⟩
  rw [upd_ne (ne_of ec e (fun z => nomatch z))]
  exact ec
end
def NoSl (i : Expr) : Prop:=∀ ov iv, subscripted i false ov iv = operate [ov, iv] (getItem ov iv)
theorem subD_of {prog : Program} {w : World} {A : Around} {E : Value -> Shared -> Prop} {s : Shared} {env : Env} {value slice : Expr} {pos : Pos} {T id : String} {Q : Value -> Shared -> Prop}
  (hl : typeLookup (.type T) "__getitem__" = pure (some (.builtin id))) (hs : NoSl slice)
  (h : wpAny (model prog w) A (eval value env) (fun o s₁ => wpAny (model prog w) A (eval slice env) (fun i s₂ => s₂.TypeIs o T /\ wpAny (model prog w) A (getItem o i) Q E s₂) E s₁) E s) :
  wpAny (model prog w) A (eval (.Subscript value slice pos) env) Q E s:=by
 refine Subscript_ (wpAny_mono h (fun o s₁ h₁ => wpAny_mono h₁ (fun i s₂ h₂ => ?_) fun _ _ x => x) fun _ _ x => x)
 obtain ⟨hT, h₂⟩:=h₂
 unfold subscriptTail
 refine wpAny_bind ?_
 rw [getitemInPython_of_ne hT.not_modules]
 refine wpAny_bind (wpAny_specialOf hT hl ?_)
 have fin : wpAny (model prog w) A (subscripted slice false o i) (fun r s₃ => wpAny (model prog w) A (letTemporaryGo value o r >>= fun _ => pure r) Q E s₃) E s₂:=by
  rw [hs o i]
  exact wpAny_operating (wpAny_mono h₂ (fun r s₃ h₃ => wpAny_bind (wpAny_letTemporaryGo (wpAny_pure h₃))) fun _ _ x => x)
 first
  | exact wpAny_pure (wpAny_bind fin)
  | exact wpAny_bind (wpAny_pure (wpAny_bind fin))
  | exact wpAny_bind fin
theorem dict_typeIs {X : Cx} {pins : List (Addr × Obj)} {σ : St} {H : Hp} {s : Shared} {a : Addr} {y : V} {o : Option V} (I : Inv X pins σ H s) (g : DGet H a y o) : s.TypeIs (.ref a) "dict":=by
 rcases g with ⟨kvs, k, e, _, _⟩ | ⟨kvs, k, b, e, _, _, _⟩
 ·obtain ⟨_, _, vs, _, dd⟩:=dk_rd I.hok e
  exact dd.typeIs
 ·obtain ⟨_, _, xs, _, dd⟩:=dt_rd I.hok e
  exact dd.typeIs
def tDGet (td ty : TE) : TE:=fun σ H Q => td σ H fun x H1 => ty σ H1 fun y H2 => ∃ a v, x = .ref a /\ DGet H2 a y (some v) /\ Q v H2
def sDPut (td ty tv : TE) : TS:=fun D σ H => tv σ H fun v H1 => td σ H1 fun x H2 => ty σ H2 fun y H3 => ∃ a H4, x = .ref a /\ DPut H3 a y v H4 /\ D.nx σ H4
section
variable {X : Cx} {o i e value : Expr} {pos pos' tpos : Pos} {td ty tv : TE}
theorem pe_dget (hu : X.A.units + 1 < cLine) (ho : PE X o td) (hi : PE X i ty) (hs : NoSl i) : PE X (.Subscript o i pos) (tDGet td ty):=by
 intro pins s σ H Q I h
 refine subD_of PySem.F.slot_dict_getitem.lookup hs (thn (ho pins s σ H _ I h) fun u s1 ⟨x, H1, I1, rx, q1⟩ => thn (hi pins s1 σ H1 _ I1 q1) fun iv s2 ⟨y, H2, I2, ry, a, v, ex, g, q2⟩ => ?_)
 subst ex
 obtain rfl : u = Value.ref a:=rx
 exact ⟨dict_typeIs I2 g, d_getItem hu I2 g ry fun w' s3 I3 rw' => ⟨v, H2, I3, rw', q2⟩⟩
theorem ps_dput (hu : X.A.units + 1 < cLine) (ho : PE X o td) (hi : PE X i ty) (hv : PE X value tv) (hs : swapsWith value (some (.Subscript o i pos')) pos.line X.env = pure false) :
  PS X (.Assign [.Subscript o i pos'] value pos) (sDPut td ty tv):=by
 intro pins s σ H D I h
 refine wpAny_Assign_Subscript (thn (hv pins s σ H _ I h) fun r s1 ⟨v, H1, I1, rv, q1⟩ => thn (ho pins s1 σ H1 _ I1 q1) fun u s2 ⟨x, H2, I2, rx, q2⟩ => thn (hi pins s2 σ H2 _ I2 q2) fun iv s3 ⟨y, H3, I3, ry, a, H4, ex, g, q3⟩ => ?_) hs
 subst ex
 obtain rfl : u = Value.ref a:=rx
 exact d_setItem hu I3 g ry rv fun s4 I4 => ⟨σ, H4, I4, q3⟩
end
theorem dk_empty {P : Program} {w : World} {H : Hp} (h : Heap) (hb : sysModules < h.objs.size) : ObjOk P w H (h.push { cls:=.type "dict", data:=.dict #[] }) h.objs.size (.dK []) :=
 ⟨Nat.zero_le _, beq_eq_false_iff_ne.mpr (Ne.symm (Nat.ne_of_lt hb)), [], .nil, Heap.DictOf.new h⟩
theorem dt_empty {P : Program} {w : World} {H : Hp} (h : Heap) (hb : sysModules < h.objs.size) : ObjOk P w H (h.push { cls:=.type "dict", data:=.dict #[] }) h.objs.size (.dT []) :=
 ⟨Nat.zero_le _, beq_eq_false_iff_ne.mpr (Ne.symm (Nat.ne_of_lt hb)), [], .nil, _, #[], 0, Heap.get?_push_size _ rfl, ⟨rfl, rfl, rfl⟩, rfl, rfl, List.nodup_nil⟩
def tDNewK : TE:=fun _ H Q => ∀ p, H p = none -> Q (.ref p) (upd H p (.dK []))
def tDNewT : TE:=fun _ H Q => ∀ p, H p = none -> Q (.ref p) (upd H p (.dT []))
section
variable {X : Cx} {pos : Pos}
theorem pe_dnewK : PE X (.Dict [] [] pos) tDNewK:=fun pins s σ H Q I h =>
 wpAny_Dict_empty ⟨.ref s.heap.objs.size, _, I.laid (a:=s.heap.objs.size) (o:=.dK []) (t':=s.toks) (fun _ _ q => Heap.get?_push_of_some _ q) (Nat.le_refl _) (dk_empty s.heap I.big), rfl, h _ (I.hok.fresh (Nat.le_refl _))⟩
theorem pe_dnewT : PE X (.Dict [] [] pos) tDNewT:=fun pins s σ H Q I h =>
 wpAny_Dict_empty ⟨.ref s.heap.objs.size, _, I.laid (a:=s.heap.objs.size) (o:=.dT []) (t':=s.toks) (fun _ _ q => Heap.get?_push_of_some _ q) (Nat.le_refl _) (dt_empty s.heap I.big), rfl, h _ (I.hok.fresh (Nat.le_refl _))⟩
end
structure M2 (X : Cx) (o : Expr) (m : Str) (apos : Pos) (e f : Expr) (cpos : Pos) : Prop where
 base : attributeBase o m X.env (eval o X.env) = eval o X.env
 few : ((backTo cpos (starEach [e, f] X.env)).all (fun x => !x.1) && (backToKw cpos (keywordEach [] X.env)).all (fun x => x.1.isSome)
  && decide (([e, f] : List Expr).length + ([] : List Keyword).length + (if ([] : List Keyword).isEmpty then 0 else 1) < 30)) = true
 line : (apos.endLine == cpos.line) = true
 trees : backTo cpos (starEach [e, f] X.env) = [(false, eval e X.env), (false, eval f X.env)]
def IsD (H : Hp) (a : Addr) : Prop:=(∃ kvs, Rd H a (.dK kvs)) \/ ∃ kvs, Rd H a (.dT kvs)
theorem isD_at {X : Cx} {pins : List (Addr × Obj)} {σ : St} {H : Hp} {s : Shared} {a : Addr} (I : Inv X pins σ H s) (d : IsD H a) :
  s.TypeIs (.ref a) "dict" /\ (∀ b, Value.ref a = .ref b -> ∃ ob, s.heap.get? b = some ob /\ ob.dict = none) /\ (a == sysModules) = false:=by
 rcases d with ⟨kvs, e⟩ | ⟨kvs, e⟩
 ·obtain ⟨_, hd, vs, _, dd⟩:=dk_rd I.hok e
  refine ⟨dd.typeIs, fun b q => ?_, hd⟩
  cases q
  obtain ⟨ob, _, _, h1, h2, _⟩:=dd
  exact ⟨ob, h1, h2.2.1⟩
 ·obtain ⟨_, hd, xs, _, dd⟩:=dt_rd I.hok e
  refine ⟨dd.typeIs, fun b q => ?_, hd⟩
  cases q
  obtain ⟨ob, _, _, h1, h2, _⟩:=dd
  exact ⟨ob, h1, h2.2.1⟩
section
variable {X : Cx} {pins : List (Addr × Obj)} {σ : St} {H : Hp} {s : Shared} {a : Addr} {y d : V} {u r : Value} {o : Option V} {A : Around} {E : Value -> Shared -> Prop}
theorem d_get2 {Q : Value -> Shared -> Prop} (hu : A.units + 1 < cLine) (I : Inv X pins σ H s) (g : DGet H a y o) (ry : RelV y u) (rd : RelV d r) (h : ∀ w' s', Inv X pins σ H s' -> RelV (o.getD d) w' -> Q w' s') :
  wpAny (model X.prog X.w) A (call (.builtin "dict.get") [.ref a, u, r]) Q E s:=by
 rcases g with ⟨kvs, k, e, ey, l⟩ | ⟨kvs, k, b, e, ey, eb, l⟩
 ·subst ey
  obtain ⟨z, hd, vs, rel, dd⟩:=dk_rd I.hok e
  refine call_meetsIn PySem.F.slot_dict_get dd.typeIs PySem.F.entry_dict_get (PySem.F.args_dict_get_3 _ _ _) (meets_dict_get_default (mixKind X.prog X.w) a (kV_is ry) hd r) ⟨_, dd.mapOf, h _ _ (I.tok _) ?_⟩
  rw [l]
  exact (rel.val k).getD rd
 ·subst ey
  cases (show u = Value.ref b from ry)
  obtain ⟨z, hd, xs, rel, dd⟩:=dt_rd I.hok e
  refine call_meetsIn PySem.F.slot_dict_get dd.typeIs PySem.F.entry_dict_get (PySem.F.args_dict_get_3 _ _ _) (meetsH_dict_get_default (tupleKind (mixKind X.prog X.w)) a b hd r) ⟨tupleKind_room_in1 hu, k, xs, key_of I.hok eb, dd, h _ _ (I.tok _) ?_⟩
  rw [l]
  exact (rel.val k).getD rd
end
def tDGet2 (td ty tx : TE) : TE:=fun σ H Q => td σ H fun x H1 => ∃ a, x = .ref a /\ IsD H1 a /\ ty σ H1 fun y H2 => tx σ H2 fun z H3 => ∃ o, DGet H3 a y o /\ Q (o.getD z) H3
section
variable {X : Cx} {o e f : Expr} {apos cpos : Pos} {td ty tx : TE}
theorem pe_dget2 (hu : X.A.units + 1 < cLine) (ho : PE X o td) (he : PE X e ty) (hf : PE X f tx) (m : M2 X o "get" apos e f cpos) : PE X (.Call (.Attribute o "get" apos) [e, f] [] cpos) (tDGet2 td ty tx):=by
 intro pins s σ H Q I h
 refine wpAny_Call_method m.base m.few m.line PySem.F.plainAttrs_dict PySem.F.slot_dict_get PySem.F.type_dict_get (thn (ho pins s σ H _ I h) fun u s1 ⟨x, H1, I1, rx, a, ex, d, q1⟩ => ?_)
 subst ex
 obtain rfl : u = Value.ref a:=rx
 obtain ⟨t1, t2, _⟩:=isD_at I1 d
 refine ⟨t1, t2, ?_⟩
 rw [m.trees]
 refine Calls.callWith_builtin rfl (Calls.evalArgs_plain (Calls.spliced_cons (thn (he pins s1 σ H1 _ I1 q1) fun iv s2 ⟨y, H2, I2, ry, q2⟩ =>
  Calls.spliced_cons (thn (hf pins s2 σ H2 _ I2 q2) fun fv s3 ⟨z, H3, I3, rz, ov, g, q3⟩ => Calls.spliced_nil ?_))))
 exact d_get2 hu I3 g ry rz fun w' s4 I4 rw' => ⟨_, H3, I4, rw', q3⟩
end
end L2
namespace L2
open PySem PySem.Spec PyProof.Rows
end L2
namespace L2
open PySem PySem.Spec PyProof.Rows
theorem boot_reversed5 : bootBuiltins "reversed" = some (.type "reversed"):=by decide +kernel
section
variable {X : Cx} {pins : List (Addr × Obj)} {σ : St} {H : Hp} {s : Shared} {h' : Heap}
theorem Inv.turnedL {t' : Nat} {ch : List Addr} (I : Inv X pins σ H s) (k : ∀ b o, b ∉ ch -> s.heap.get? b = some o -> h'.get? b = some o) (hf : ∀ b ∈ ch, FpOk X pins H b) : Inv X pins σ H { s with heap:=h', toks:=t' }:=by
 have nit : ∀ b u, H b = some u -> b ∉ ch:=fun b u e z => by
  have q:=(hf b z).1
  rw [q] at e; cases e
 refine I.step (g':=s.gens) (d':=s.drawn) (ch:=ch) (fun b hb => ⟨(hf b hb).2.2.2.1, (hf b hb).2.1, (hf b hb).2.2.2.2.1, (hf b hb).2.2.2.2.2⟩) (fun b o _ _ hc e _ => k b o hc e) (fun b o _ _ hc e _ => ⟨o.slots, k b o hc e⟩)
  (fun _ _ _ _ n => n) (fun b o hc e => ⟨o, k b o hc e⟩) (fun _ _ e => e) (fun _ _ _ e => e) (fun b ps e => ⟨#[], by rw [e]; simp⟩) (fun m hm => ?_) (fun b u e => ?_) I.bare
 ·obtain ⟨o, es, ep, ho, r⟩:=hm
  exact ⟨o, es, ep, k _ o (fun z => (hf _ z).2.1 rfl) ho, r⟩
 ·refine (I.hok b u e).stay (fun c v hc q => k c v ?_ q) (fun _ q => q) fun _ _ q => q
  rcases hc with z | z
  ·rw [z]; exact nit b u e
  ·exact nit c _ z
theorem Inv.turnedNew {t' : Nat} {ch : List Addr} {T : Addr} {ob : HO} (I : Inv X pins σ H s) (k : ∀ b o, b ∉ ch -> s.heap.get? b = some o -> h'.get? b = some o) (hf : ∀ b ∈ ch, FpOk X pins H b) (hT : s.heap.objs.size <= T)
  (new : ObjOk X.prog X.w (upd H T ob) h' T ob) : Inv X pins σ (upd H T ob) { s with heap:=h', toks:=t' }:=by
 have hn : H T = none:=I.hok.fresh hT
 have nit : ∀ b u, H b = some u -> b ∉ ch:=fun b u e z => by
  have q:=(hf b z).1
  rw [q] at e; cases e
 refine I.step (g':=s.gens) (d':=s.drawn) (ch:=ch) (fun b hb => ⟨(hf b hb).2.2.2.1, (hf b hb).2.1, (hf b hb).2.2.2.2.1, (hf b hb).2.2.2.2.2⟩) (fun b o _ _ hc e _ => k b o hc e) (fun b o _ _ hc e _ => ⟨o.slots, k b o hc e⟩)
  (fun b o _ e n => ?_) (fun b o hc e => ⟨o, k b o hc e⟩) (fun b xs e => ?_) (fun b o u e => ?_) (fun b ps e => ⟨#[], ?_⟩) (fun m hm => ?_) (fun b u e => ?_) I.bare
 ·rw [upd_ne (Nat.ne_of_lt (Nat.lt_of_lt_of_le (Heap.lt_size e) hT))]; exact n
 ·rw [upd_ne (ne_of_none e hn)]; exact e
 ·rw [upd_ne (ne_of_none e hn)]; exact e
 ·rw [upd_ne (ne_of_none e hn), e]; simp
 ·obtain ⟨o, es, ep, ho, r⟩:=hm
  exact ⟨o, es, ep, k _ o (fun z => (hf _ z).2.1 rfl) ho, r⟩
 ·by_cases hb : b = T
  ·subst hb
   rw [upd_same] at e
   cases e
   exact new
  ·rw [upd_ne hb] at e
   refine (I.hok b u e).stay (fun c v hc q => k c v ?_ q) (fun c q => by rw [upd_ne (ne_of_none q hn)]; exact q) fun c xs q => by rw [upd_ne (ne_of_none q hn)]; exact q
   rcases hc with z | z
   ·rw [z]; exact nit b u e
   ·exact nit c _ z
theorem Inv.lock {d : Addr} {u : HO} (I : Inv X pins σ H s) (h : H d = some u) (mu : Mut (some u)) : ∃ od, Inv X pins σ (upd H d (.frz od u)) s:=by
 have x:=I.hok d u h
 have ex : ∃ od, s.heap.get? d = some od:=by
  cases u with
  | lst xs => obtain ⟨_, _, _, _, e⟩:=x; exact ⟨_, e⟩
  | dK kvs => obtain ⟨_, _, _, _, o, _, _, e, _⟩:=x; exact ⟨o, e⟩
  | dT kvs => obtain ⟨_, _, _, _, o, _, _, e, _⟩:=x; exact ⟨o, e⟩
  | set S n => obtain ⟨o, _, _, _, e, _⟩:=x; exact ⟨o, e⟩
  | ins C dx fs => obtain ⟨_, _, _, e, _⟩:=x; exact ⟨_, e⟩
  | ext φ => obtain ⟨_, ⟨_, e⟩, _⟩:=x; exact ⟨_, e⟩
  | _ => exact False.elim mu
 obtain ⟨od, e⟩:=ex
 have new : ObjOk X.prog X.w (upd H d (.frz od u)) s.heap d (.frz od u):=by
  refine ⟨e, x.stay (fun b v _ q => q) (fun b q => ?_) fun b xs q => ?_⟩
  ·rw [upd_ne (fun z => by rw [z, h] at q; cases q; exact mu)]; exact q
  ·rw [upd_ne (fun z => by rw [z, h] at q; cases q; exact mu)]; exact q
 exact ⟨od, I.write (x:=d) (e:=d) (t':=s.toks) (h':=s.heap) (by rw [h]; exact mu) (.inl rfl) (fun b v _ q => q) ⟨od, e⟩ new⟩
end
section
variable {X : Cx}
theorem pi_one {tg : Expr} {pins : List (Addr × Obj)} {σ : St} {H : Hp} {s : Shared} {R : It -> Hp -> Prop} {J : It} {tn : Nat -> Heap -> Prop} {tk : Nat} (I : Inv X pins σ H s) (o : Obj)
  (T : Turn X.prog X.w X.K tg J [s.heap.objs.size] s.heap.objs.size tn) (st : tn 0 (s.heap.push o)) (q : R J H) : PIE X pins σ tg R (.ref s.heap.objs.size) { s with heap:=s.heap.push o, toks:=tk }:=by
 refine ⟨s.heap.objs.size, [s.heap.objs.size], tn, J, H, rfl, I.kept fun b ob e => Heap.get?_push_of_some _ e, T, st, fun b hb => ?_, q⟩
 have e : b = s.heap.objs.size:=by simpa using hb
 subst e
 exact I.fpOk (Nat.le_refl _) (I.hok.fresh (Nat.le_refl _))
end
def Itc (lo c : Int) (n : Nat) : It:=⟨fun i _ => i < n, fun i H x H' => H' = H /\ x = .int (lo + (i : Nat) * c), fun i _ => n <= i⟩
theorem turn_rangeC {P : Program} {w : World} {K : PySem.W.Frag} {tg : Expr} (it : Addr) (lo c : Int) (n : Nat) : Turn P w K tg (Itc lo c n) [it] it (fun i h => IsRangeIter h it (lo + (i : Nat) * c) ((n : Int) - (i : Nat)) c) where
 mem:=by simp
 obj:=fun i h st b hb => by
  have e : b = it:=by simpa using hb
  subst e
  exact ⟨_, st, fun v z => nomatch z⟩
 keep:=fun i h h' st k => k it (by simp) _ st
 item:=by
  intro X hP hw hK hc i pins s σ H E I hf st hg
  subst hP hw hK
  obtain ⟨f0, f1, f2, f3, f4, f5⟩:=hf it (by simp)
  have W:=Walks.range (prog:=X.prog) (w:=X.w) (I.ok.hd hc) it lo c n
  refine W.item i s _ _ hg st fun v h' tk hv st' kk => ?_
  obtain ⟨t, rfl⟩:=hv
  have I1 : Inv X pins σ H { s with heap:=h', toks:=tk }:=I.turned (fun b o hb e => kk b o (by simpa using hb) e) f0 f1 f3 f4 f5
  exact ⟨_, rfl, go_of (s:={ s with heap:=h', toks:=tk }) (n:="range_iterator") st' rfl rfl (by decide) ⟨.int (lo + (i : Nat) * c), H, I1, ⟨t, rfl⟩, ⟨rfl, rfl⟩, st', fun b hb => (hf b hb).1⟩⟩
 done:=by
  intro X hP hw hK hc i pins s σ H E I hf st hg
  subst hP hw hK
  obtain ⟨f0, f1, f2, f3, f4, f5⟩:=hf it (by simp)
  exact wpAny_pyNext_range_end (I.ok.hd hc) st (by have : n <= i:=hg; omega) fun h' eb => ⟨rfl, I.turned (t':=s.toks) (fun b o hb e => eb b o hb e) f0 f1 f3 f4 f5⟩
 self:=fun A i s Q E st h => wpAny_pyIter_rangeiter st h
def RgC (i j c : Int) (n : Nat) : Prop:=c ≠ 0 /\ c.natAbs < 1073741824 /\ Builtin.Range.small i j c = true /\ Builtin.Range.rangeSize i j c = n
theorem RgC.neg {i j : Int} (ha : -(2 ^ 62) <= i) (ha' : i < 2 ^ 62) (hb : -(2 ^ 62) <= j) (hb' : j < 2 ^ 62) : RgC i j (-1) (i - j).toNat :=
 ⟨by decide, by decide, PySem.W.small_down ha ha' hb hb', PySem.W.rangeSize_downNat i j⟩
def iRng3 (ta : TA) : TI:=fun σ H R => ta σ H fun vs H1 => ∃ (i j c : Int) (n : Nat), vs = [.int i, .int j, .int c] /\ RgC i j c n /\ R (Itc i c n) H1
section
variable {X : Cx} {tg : Expr}
theorem pi_range3 {a b c : Expr} {ta : TA} {p pos : Pos} (hg : Gl X "range") (hm : X.mg "range" = none) (ha : PA X [a, b, c] ta)
  (hs : starEach [a, b, c] X.env = (false, eval a X.env) :: starEach [b, c] X.env:=by rfl) (hpl : (backTo pos (starEach [b, c] X.env)).any (·.1) = false:=by rfl) :
  PI X tg (.Call (.Name "range" p) [a, b, c] [] pos) (iRng3 ta):=by
 intro pins s σ H R I h
 refine Call_ (ld_blt I hg hm boot_range (PyProof.Rows.callWith_type1 (thn (ha pos pins s σ H _ I h) fun us s1 ⟨vs, H1, I1, r1, q1⟩ => ?_) hs hpl))
 obtain ⟨i, j, k, n, e, ⟨c0, c1, c2, c3⟩, q⟩:=q1
 subst e
 cases r1 with
 | cons r rr =>
  cases rr with
  | cons r' rr =>
   cases rr with
   | cons r'' rr =>
    cases rr
    obtain ⟨t, rfl⟩:=r
    obtain ⟨t', rfl⟩:=r'
    obtain ⟨t'', rfl⟩:=r''
    refine call_range_3 c0 ?_ (.inl (PyProof.noPylong_small c1))
    refine wpAny_pyIter_range (IsRange.new ..) c2 ?_
    have I2 : Inv X pins σ H1 { s1 with heap:=s1.heap.push { cls:=.type "range", data:=.fields #[.int i t, .int j t', .int k t''] } }:=I1.kept (t':=s1.toks) fun b o e => Heap.get?_push_of_some _ e
    refine pi_one (tk:=s1.toks) I2 _ (turn_rangeC _ i k n) ?_ q
    have e1 : i + ((0 : Nat) : Int) * k = i:=by simp
    have e2 : (n : Int) - ((0 : Nat) : Int) = Builtin.Range.rangeSize i j k:=by rw [c3]; simp
    show IsRangeIter _ _ (i + ((0 : Nat) : Int) * k) ((n : Int) - ((0 : Nat) : Int)) k
    rw [e1, e2]
    exact Heap.get?_push_size _ rfl
end
theorem for_rangeC {lo c : Int} {n : Nat} {g : TG} {tb : TS} {D : Ends} {σ : St} {H : Hp} (Pv : Nat -> St -> Hp -> Prop) (h0 : Pv 0 σ H)
  (hs : ∀ i σ H, i < n -> Pv i σ H -> g (.int (lo + (i : Nat) * c)) σ H fun σ2 H2 => tb { D with nx:=Pv (i + 1), ct:=Pv (i + 1), bk:=D.nx } σ2 H2) (hd : ∀ σ H, Pv n σ H -> D.nx σ H) :
  ∃ W : Nat -> Nat -> St -> Hp -> Prop, (∃ m, W 0 m σ H) /\ ∀ i m σ H, W i m σ H ->
   ((Itc lo c n).stop i H /\ D.nx σ H) \/ ((Itc lo c n).go i H /\ ∃ N : St -> Hp -> Prop, (∀ σ' H', N σ' H' -> ∃ m', m' < m /\ W (i + 1) m' σ' H') /\ ∀ x H', (Itc lo c n).yld i H x H' -> g x σ H' fun σ2 H2 => tb { D with nx:=N, ct:=N, bk:=D.nx } σ2 H2):=by
 refine ⟨fun i m σ H => m = n - i /\ i <= n /\ Pv i σ H, ⟨n, by simp, Nat.zero_le _, h0⟩, ?_⟩
 rintro i m σ H ⟨rfl, hi, p⟩
 by_cases hlt : i < n
 ·refine .inr ⟨hlt, Pv (i + 1), fun σ' H' p' => ⟨n - (i + 1), by omega, rfl, hlt, p'⟩, fun x H' y => ?_⟩
  obtain ⟨e, y⟩:=y
  subst e y
  exact hs i σ _ hlt p
 ·have e : i = n:=by omega
  subst e
  exact .inl ⟨Nat.le_refl _, hd σ H p⟩
def Itv (K : PySem.W.Frag) (a : Addr) (n : Nat) : It :=
 ⟨fun i H => i < n /\ ∃ (xs : List V) (x : V), SqL K H a xs /\ xs[n - 1 - i]? = some x, fun i H x H' => H' = H /\ ∀ xs, SqL K H a xs -> xs[n - 1 - i]? = some x, fun i _ => n <= i⟩
theorem turn_rev {P : Program} {w : World} {K : PySem.W.Frag} {tg : Expr} (a it : Addr) (n : Nat) : Turn P w K tg (Itv K a n) [it] it (fun i h => i <= n /\ h.IsRevIter it a ((n : Int) - 1 - (i : Nat))) where
 mem:=by simp
 obj:=fun i h st b hb => by
  have e : b = it:=by simpa using hb
  subst e
  obtain ⟨_, o, e, c, d⟩:=st
  exact ⟨o, e, fun v z => by rw [d] at z; cases z⟩
 keep:=fun i h h' st k => ⟨st.1, st.2.at fun o e => k it (by simp) o e⟩
 item:=by
  intro X hP hw hK hc i pins s σ H E I hf st hg
  subst hP hw hK
  obtain ⟨hin, xs, x, hq, hx⟩:=hg
  obtain ⟨its, rv, p, hz⟩:=I.list hq
  obtain ⟨u, hu, ru⟩:=rv.get hx
  obtain ⟨f0, f1, f2, f3, f4, f5⟩:=hf it (by simp)
  obtain ⟨_, hit⟩:=st
  have e1 : (n : Int) - 1 - ((i : Nat) : Int) = ((n - 1 - i : Nat) : Int):=by omega
  rw [e1] at hit
  refine wpAny_pyNext_rev_item hit p.isList (x:=u) (by simpa using hu) fun h' st' sb => ?_
  have e2 : ((n - 1 - i : Nat) : Int) - 1 = (n : Int) - 1 - ((i + 1 : Nat) : Int):=by omega
  rw [e2] at st'
  have I1 : Inv X pins σ H { s with heap:=h' }:=I.turned (t':=s.toks) (fun b o hb e => (sb.2 b hb).trans e) f0 f1 f3 f4 f5
  obtain ⟨o, e, c, d⟩:=id st'
  exact ⟨u, rfl, go_of (s:={ s with heap:=h' }) e c d (by decide) ⟨x, H, I1, ru, ⟨rfl, fun ys hy => by rw [I.list_inj hy hq]; exact hx⟩, ⟨hin, st'⟩, fun b hb => (hf b hb).1⟩⟩
 done:=by
  intro X hP hw hK hc i pins s σ H E I hf st hg
  subst hP hw hK
  obtain ⟨f0, f1, f2, f3, f4, f5⟩:=hf it (by simp)
  obtain ⟨hin, hit⟩:=st
  have hge : n <= i:=hg
  have e1 : (n : Int) - 1 - ((i : Nat) : Int) = -1:=by omega
  rw [e1] at hit
  exact wpAny_pyNext_rev_end (I.ok.hd hc) hit fun h' eb => ⟨rfl, I.turned (t':=s.toks) (fun b o hb e => eb b o hb e) f0 f1 f3 f4 f5⟩
 self:=fun A i s Q E st h => wpAny_pyIter_revIter st.2 h
def iRev (K : PySem.W.Frag) (ta : TA) : TI:=fun σ H R => ta σ H fun vs H1 => ∃ (a : Addr) (xs : List V), vs = [.ref a] /\ SqL K H1 a xs /\ R (Itv K a xs.length) H1
section
variable {X : Cx} {tg : Expr}
theorem pi_reversed {e : Expr} {ta : TA} {p pos : Pos} (hg : Gl X "reversed") (hm : X.mg "reversed" = none) (ha : PA X [e] ta) (hs : starEach [e] X.env = [(false, eval e X.env)]:=by rfl) : PI X tg (.Call (.Name "reversed" p) [e] [] pos) (iRev X.K ta):=by
 intro pins s σ H R I h
 refine Call_ (ld_blt I hg hm boot_reversed5 (PyProof.Rows.callWith_type1 (thn (ha pos pins s σ H _ I h) fun us s1 ⟨vs, H1, I1, r1, q1⟩ => ?_) hs rfl))
 obtain ⟨a, xs, e, hq, q⟩:=q1
 subst e
 cases r1 with
 | cons r rr =>
  cases rr
  cases r
  obtain ⟨its, rv, p', hz⟩:=I1.list hq
  have hl:=rv.length
  have e1 : ((its.toArray.size : Nat) : Int) - 1 = (xs.length : Int) - 1 - ((0 : Nat) : Int):=by simp only [List.size_toArray]; omega
  refine call_reversed_list p'.isList (wpAny_pyIter_revIter (l:=a) (i:=((its.toArray.size : Nat) : Int) - 1) ⟨_, Heap.get?_push_size _ rfl, rfl, rfl⟩ ?_)
  refine pi_one (tk:=s1.toks) I1 _ (turn_rev a _ xs.length) ⟨Nat.zero_le _, ?_⟩ q
  rw [<- e1]
  exact ⟨_, Heap.get?_push_size _ rfl, rfl, rfl⟩
end
section
variable {prog : Program} {w : World} {A : Around} {E : Value -> Shared -> Prop} {s : Shared}
theorem iter_keys {d : Addr} {o : Obj} {es : Array DictEntry} {ep : Nat} {Q : Value -> Shared -> Prop} (hd : (d == sysModules) = false) (ho : s.heap.get? d = some o) (hc : o.ExactDict) (hdat : o.data = .dict es ep)
  (hQ : Q (.ref s.heap.objs.size) { s with heap:=s.heap.push { cls:=.type "dict_keyiterator", data:=.fields #[.ref d, .int 0 0, .int es.size 0, .int ep 0] } }) :
  wpAny (model prog w) A (pyIter (.ref d)) Q E s:=by
 have hT : s.TypeIs (.ref d) "dict":=⟨o, ho, hc.1⟩
 refine wpAny_pyIter_slot hT F.slot_dict_iter (wpAny_call_entry F.slot_dict_iter hT F.entry_dict_iter ?_ (F.args_dict_iter_1 _))
 unfold Builtin.«dict.__iter__»
 refine wpAny_bind ?_
 unfold Builtin.Dict.dictSlotNone
 refine wpAny_bind (wpAny_notOrdered_dict hT ?_)
 show wpAny _ _ (pure (Value.ref d)) _ _ s
 refine wpAny_pure ?_
 show wpAny _ _ (Builtin.Dict.showsAll d >>= _) _ _ s
 unfold Builtin.Dict.showsAll
 rw [if_neg (by rw [hd]; exact Bool.false_ne_true)]
 refine wpAny_bind (wpAny_pure ?_)
 refine wpAny_bind (wpAny_dictEntries ho hdat ?_)
 refine wpAny_bind (wpAny_dictEpoch ho hdat ?_)
 refine wpAny_bind (wpAny_newObj_type (wpAny_pure ⟨_, rfl, "dict_keyiterator", _, ⟨_, Heap.get?_push_size _ rfl, rfl⟩, F.slot_dict_keyiterator_next.lookup, ?_⟩))
 simpa [rawInt] using hQ
theorem next_key_item {it d : Addr} {i n ep : Nat} {od : Obj} {es : Array DictEntry} {en : DictEntry} {Q : Option Value -> Shared -> Prop} (hit : s.heap.IsKeyIter it d i n ep) (hod : s.heap.get? d = some od) (hdd : od.data = .dict es ep)
  (hsz : es.size = n) (hx : es[i]? = some en) (hQ : ∀ h', h'.IsKeyIter it d (i + 1) n ep -> Heap.SameBut it s.heap h' -> Q (some en.key) { s with heap:=h' }) : wpAny (model prog w) A (pyNext (.ref it)) Q E s:=by
 obtain ⟨o, ho, hc, hd⟩:=id hit
 unfold pyNext
 refine wpAny_bind (wpAny_attempt (wpAny_callSpecial?_slot (name:=Str.ofString "__next__") hit.typeIs F.slot_dict_keyiterator_next
  (wpAny_call_entry F.slot_dict_keyiterator_next hit.typeIs F.entry_dict_keyiterator_next ?_ (F.args_dict_keyiterator_next_1 _))))
 refine wpAny_bind (wpAny_pure ?_)
 refine wpAny_bind ?_
 refine wpAny_bind ?_
 first | refine wpAny_bind (wpAny_typeNameOfWhole_keyiter hit.typeIs (wpAny_pure ?_)) | refine wpAny_bind (wpAny_typeNameOf_keyiter hit.typeIs (wpAny_pure ?_))
 refine wpAny_bind (wpAny_fieldsOf ho hd ?_)
 have hown : Builtin.Dict_items.ownsTuple "dict_keyiterator" = false:=by decide
 simp only [hown, Bool.false_eq_true, if_false]
 show wpAny _ _ (if (Value.ref d == Value.none) = true then _ else _) _ _ s
 rw [if_neg (show ¬ ((Value.ref d == Value.none) = true) from Bool.false_ne_true)]
 refine wpAny_bind (wpAny_pure ?_)
 refine wpAny_bind (wpAny_dictEntries hod hdd ?_)
 rw [if_neg (by rw [hsz]; simp)]
 refine wpAny_bind (wpAny_pure ?_)
 refine wpAny_bind (wpAny_dictEpoch hod hdd ?_)
 rw [if_neg (by simp)]
 refine wpAny_pure ?_
 obtain ⟨hlt', hen⟩:=Array.getElem?_eq_some_iff.mp hx
 simp only [show ¬ ((i : Int) < 0) from by omega, if_false, Int.toNat_natCast, Array.getElem?_eq_getElem hlt']
 refine wpAny_bind ?_
 first | refine wpAny_bind (wpAny_typeNameOfWhole_keyiter hit.typeIs (wpAny_pure ?_)) | refine wpAny_bind (wpAny_typeNameOf_keyiter hit.typeIs (wpAny_pure ?_))
 refine wpAny_bind (wpAny_isOneOf_keyiter hit.typeIs ?_)
 show wpAny _ _ (setField (.ref it) 1 (rawInt ((i : Int) + 1)) >>= _) _ _ s
 refine wpAny_bind (wpAny_setField ho hd (by simp) ?_)
 have hit' : (s.heap.update it (Obj.mapFields (·.setIfInBounds 1 (rawInt ((i : Int) + 1))))).IsKeyIter it d (i + 1) n ep :=
  ⟨_, Heap.get?_update_self _ ho (Obj.isFreed_of_fields (Obj.data_mapFields hd _)), (Obj.cls_mapFields ..).trans hc, by rw [Obj.data_mapFields hd]; simp [rawInt]⟩
 refine wpAny_bind (wpAny_holding ?_)
 refine wpAny_bind (wpAny_isOneOf_keyiter (s:={ s with heap:=s.heap.update it (Obj.mapFields (·.setIfInBounds 1 (rawInt ((i : Int) + 1)))) }) hit'.typeIs ?_)
 show wpAny _ _ (pure es[i].key) _ _ _
 rw [hen]
 exact wpAny_pure (wpAny_pure ⟨_, rfl, wpAny_pure (hQ _ hit' (Heap.SameBut.update ..))⟩)
theorem next_key_end {it d : Addr} {i n ep : Nat} {od : Obj} {es : Array DictEntry} {Q : Option Value -> Shared -> Prop} (hh : A.handled = none) (hit : s.heap.IsKeyIter it d i n ep) (hod : s.heap.get? d = some od) (hdd : od.data = .dict es ep)
  (hsz : es.size = n) (hge : n <= i) (hQ : ∀ h', Heap.ExtBut it s.heap h' -> Q none { s with heap:=h' }) : wpAny (model prog w) A (pyNext (.ref it)) Q E s:=by
 obtain ⟨o, ho, hc, hd⟩:=id hit
 unfold pyNext
 refine wpAny_bind (wpAny_attempt (wpAny_callSpecial?_slot (name:=Str.ofString "__next__") hit.typeIs F.slot_dict_keyiterator_next
  (wpAny_call_entry F.slot_dict_keyiterator_next hit.typeIs F.entry_dict_keyiterator_next ?_ (F.args_dict_keyiterator_next_1 _))))
 refine wpAny_bind (wpAny_pure ?_)
 refine wpAny_bind ?_
 refine wpAny_bind ?_
 first | refine wpAny_bind (wpAny_typeNameOfWhole_keyiter hit.typeIs (wpAny_pure ?_)) | refine wpAny_bind (wpAny_typeNameOf_keyiter hit.typeIs (wpAny_pure ?_))
 refine wpAny_bind (wpAny_fieldsOf ho hd ?_)
 have hown : Builtin.Dict_items.ownsTuple "dict_keyiterator" = false:=by decide
 simp only [hown, Bool.false_eq_true, if_false]
 show wpAny _ _ (if (Value.ref d == Value.none) = true then _ else _) _ _ s
 rw [if_neg (show ¬ ((Value.ref d == Value.none) = true) from Bool.false_ne_true)]
 refine wpAny_bind (wpAny_pure ?_)
 refine wpAny_bind (wpAny_dictEntries hod hdd ?_)
 rw [if_neg (by rw [hsz]; simp)]
 refine wpAny_bind (wpAny_pure ?_)
 refine wpAny_bind (wpAny_dictEpoch hod hdd ?_)
 rw [if_neg (by simp)]
 refine wpAny_pure ?_
 have hge' : es.size <= i:=by rw [hsz]; exact hge
 simp only [show ¬ ((i : Int) < 0) from by omega, if_false, Int.toNat_natCast, Array.getElem?_eq_none hge']
 refine wpAny_bind ?_
 first | refine wpAny_bind (wpAny_typeNameOfWhole_keyiter hit.typeIs (wpAny_pure ?_)) | refine wpAny_bind (wpAny_typeNameOf_keyiter hit.typeIs (wpAny_pure ?_))
 show wpAny _ _ (setField (.ref it) 0 .none >>= _) _ _ s
 refine wpAny_bind (wpAny_setField ho hd (by simp) ?_)
 show wpAny _ _ (newExc (.type "StopIteration") [] >>= _) _ _ _
 refine wpAny_bind ?_
 simp only [newExc, newTuple]
 refine wpAny_bind (wpAny_newObj_type ?_ (by size_fits))
 refine wpAny_bind (m:=firstArgMember _ _) (wpAny_of_eq (a:=Value.none) (by first | rfl | (simp only [firstArgMember]; rfl)) ?_)
 refine wpAny_newObj_type ?_ (by size_fits)
 simp only [raiseNew]
 refine wpAny_bind (wpAny_handled ?_)
 rw [show A.in1.handled = none from hh]
 refine wpAny_bind (wpAny_pure (wpAny_throw ?_))
 refine wpAny_bind (wpAny_isInstance (T:="StopIteration") (b:=true) ⟨_, Heap.get?_push_size _ rfl, rfl⟩ isSubtype_stop ?_)
 exact wpAny_pure (hQ _ (((Heap.SameBut.update ..).extBut.push _).push _))
end
theorem paired_get {α β : Type} {G : α -> β -> Prop} {l₁ : List α} {l₂ : List β} (h : Paired G l₁ l₂) : ∀ {i : Nat} {a : α}, l₁[i]? = some a -> ∃ b, l₂[i]? = some b /\ G a b:=by
 induction h with
 | nil => intro i a e; simp at e
 | @cons a b l₁ l₂ r t ih =>
  intro i a' e
  cases i with
  | zero =>
   simp only [List.getElem?_cons_zero, Option.some.injEq] at e
   subst e
   exact ⟨b, rfl, r⟩
  | succ j =>
   simp only [List.getElem?_cons_succ] at e ⊢
   exact ih e
theorem dict_ep {o : Obj} {es es' : Array DictEntry} {ep ep' : Nat} (h : o.data = .dict es ep) (h' : o.data = .dict es' ep') : es' = es /\ ep' = ep:=by
 rw [h] at h'
 cases h'
 exact ⟨rfl, rfl⟩
theorem boot_zip5 : bootBuiltins "zip" = some (.type "zip"):=by decide +kernel
def Itz (K : PySem.W.Frag) (a b : Addr) : It :=
 ⟨fun i H => ∃ (xs ys : List V) (x y : V), SqL K H a xs /\ SqL K H b ys /\ xs[i]? = some x /\ ys[i]? = some y,
  fun i H v H' => ∃ T x y, v = .ref T /\ H T = none /\ H' = upd H T (.tup [x, y]) /\ (∀ xs, SqL K H a xs -> xs[i]? = some x) /\ ∀ ys, SqL K H b ys -> ys[i]? = some y,
  fun i H => ∃ xs ys : List V, SqL K H a xs /\ SqL K H b ys /\ (xs.length <= i \/ ys.length <= i)⟩
theorem turn_zip {P : Program} {w : World} {K : PySem.W.Frag} {elts : List Expr} {kk : Nat} {tpos : Pos} {a b z TI TO i1 i2 : Addr} (D : ZipApart z TI TO i1 i2 a b) :
  Turn P w K (.Tuple elts kk tpos) (Itz K a b) [z, TI, TO, i1, i2] z (fun i h => IsZip h z TI TO .none /\ IsPair h TI (.ref i1) (.ref i2) /\ (∃ x y, IsPair h TO x y) /\ h.IsListIter i1 a i /\ h.IsListIter i2 b i) where
 mem:=by simp
 obj:=fun i h st c hc => by
  obtain ⟨hz, hTI, ⟨x, y, hTO⟩, ⟨o1, e1, _, d1⟩, ⟨o2, e2, _, d2⟩⟩:=st
  have e' : c = z \/ c = TI \/ c = TO \/ c = i1 \/ c = i2:=by simpa using hc
  rcases e' with q | q | q | q | q
  ·rw [q]; exact ⟨_, hz, fun v q => nomatch q⟩
  ·rw [q]; exact ⟨_, hTI, fun v q => nomatch q⟩
  ·rw [q]; exact ⟨_, hTO, fun v q => nomatch q⟩
  ·rw [q]; exact ⟨o1, e1, fun v q => by rw [d1] at q; cases q⟩
  ·rw [q]; exact ⟨o2, e2, fun v q => by rw [d2] at q; cases q⟩
 keep:=fun i h h' st k => by
  obtain ⟨hz, hTI, ⟨x, y, hTO⟩, h1, h2⟩:=st
  exact ⟨k z (by simp) _ hz, k TI (by simp) _ hTI, ⟨x, y, k TO (by simp) _ hTO⟩, h1.at fun o q => k i1 (by simp) o q, h2.at fun o q => k i2 (by simp) o q⟩
 item:=by
  intro X hP hw hK hc i pins s σ H E I hf st hg
  subst hP hw hK
  obtain ⟨hz, hTI, ⟨x0, y0, hTO⟩, h1, h2⟩:=st
  obtain ⟨xs, ys, x, y, hqx, hqy, hx, hy⟩:=hg
  obtain ⟨its, rv, p, _⟩:=I.list hqx
  obtain ⟨its2, rv2, p2, _⟩:=I.list hqy
  obtain ⟨u, hu, ru⟩:=rv.get hx
  obtain ⟨u2, hu2, ru2⟩:=rv2.get hy
  have hzl : z < s.heap.objs.size:=Heap.lt_size hz
  refine wpAny_pyNext_zip_item D hz hTI hTO h1 h2 p.isList p2.isList (x:=u) (y:=u2) (by simpa using hu) (by simpa using hu2) fun h' z' TO' h1' h2' hT hsz hk => ?_
  refine ⟨_, rfl, wpAny_letOwnedTupleGo_zip (s:={ s with heap:=h' }) z' fun h'' z'' sb => ?_⟩
  have hT2 : h''.get? s.heap.objs.size = some { cls:=.type "tuple", data:=.seq #[u, u2] }:=(sb.2 _ (Nat.ne_of_gt hzl)).trans hT
  have new : ObjOk X.prog X.w (upd H s.heap.objs.size (.tup [x, y])) h'' s.heap.objs.size (.tup [x, y]) :=
   ⟨by show 2 <= sizeLine; decide, [u, u2], .cons ru (.cons ru2 .nil), ⟨_, hT2, rfl, _, rfl⟩⟩
  have I1 : Inv X pins σ (upd H s.heap.objs.size (.tup [x, y])) { s with heap:=h'' } :=
   I.turnedNew (t':=s.toks) (ch:=[z, TI, TO, i1, i2]) (fun c o hb q => (sb.2 c (fun q' => hb (by simp [q']))).trans (hk c o (fun q' => hb (by simp [q'])) (fun q' => hb (by simp [q'])) (fun q' => hb (by simp [q'])) (fun q' => hb (by simp [q'])) q)) hf (Nat.le_refl _) new
  refine ⟨.ref s.heap.objs.size, _, I1, rfl, ⟨_, x, y, rfl, I.hok.fresh (Nat.le_refl _), rfl, fun l hl => by rw [I.list_inj hl hqx]; exact hx, fun l hl => by rw [I.list_inj hl hqy]; exact hy⟩, ⟨z'', ?_, ⟨u, u2, ?_⟩, ?_, ?_⟩, fun c hcm => ?_⟩
  ·exact (sb.2 _ D.TIz).trans (hk _ _ D.TIz D.TITO D.TIi1 D.TIi2 hTI)
  ·exact (sb.2 _ D.TOz).trans TO'
  ·exact h1'.at fun o q => (sb.2 _ D.i1z).trans q
  ·exact h2'.at fun o q => (sb.2 _ D.i2z).trans q
  ·have hlt : c < s.heap.objs.size:=by
    have e' : c = z \/ c = TI \/ c = TO \/ c = i1 \/ c = i2:=by simpa using hcm
    rcases e' with q | q | q | q | q
    ·rw [q]; exact hzl
    ·rw [q]; exact Heap.lt_size hTI
    ·rw [q]; exact Heap.lt_size hTO
    ·rw [q]; obtain ⟨_, e1, _⟩:=h1; exact Heap.lt_size e1
    ·rw [q]; obtain ⟨_, e2, _⟩:=h2; exact Heap.lt_size e2
   rw [upd_ne (Nat.ne_of_lt hlt)]
   exact (hf c hcm).1
 done:=by
  intro X hP hw hK hc i pins s σ H E I hf st hg
  subst hP hw hK
  obtain ⟨hz, hTI, ⟨x0, y0, hTO⟩, h1, h2⟩:=st
  obtain ⟨xs, ys, hqx, hqy, hend⟩:=hg
  obtain ⟨its, rv, p, _⟩:=I.list hqx
  obtain ⟨its2, rv2, p2, _⟩:=I.list hqy
  have l1:=rv.length
  have l2:=rv2.length
  have he : its.toArray[i]? = none \/ its2.toArray[i]? = none:=by
   rcases hend with q | q
   ·exact .inl (by simp; omega)
   ·exact .inr (by simp; omega)
  exact wpAny_pyNext_zip_end (I.ok.hd hc) D hz hTI hTO h1 h2 p.isList p2.isList he fun h' hk => ⟨rfl, I.turnedL (t':=s.toks) (ch:=[z, TI, TO, i1, i2]) (fun c o hb q =>
   hk c o (fun q' => hb (by simp [q'])) (fun q' => hb (by simp [q'])) (fun q' => hb (by simp [q'])) (fun q' => hb (by simp [q'])) q) hf⟩
 self:=fun A i s Q E st h => wpAny_pyIter_zip st.1 h
def iZip (K : PySem.W.Frag) (ta : TA) : TI:=fun σ H R => ta σ H fun vs H1 => ∃ a b xs ys, vs = [.ref a, .ref b] /\ SqL K H1 a xs /\ SqL K H1 b ys /\ R (Itz K a b) H1
theorem pi_zip {X : Cx} {e e2 : Expr} {ta : TA} {p pos tpos : Pos} {elts : List Expr} {kk : Nat} (hg : Gl X "zip") (hm : X.mg "zip" = none) (ha : PA X [e, e2] ta)
  (hs : starEach [e, e2] X.env = (false, eval e X.env) :: starEach [e2] X.env:=by rfl) (hpl : (backTo pos (starEach [e2] X.env)).any (·.1) = false:=by rfl) :
  PI X (.Tuple elts kk tpos) (.Call (.Name "zip" p) [e, e2] [] pos) (iZip X.K ta):=by
 intro pins s σ H R I h
 refine Call_ (ld_blt I hg hm boot_zip5 (PyProof.Rows.callWith_type1 (thn (ha pos pins s σ H _ I h) fun us s1 ⟨vs, H1, I1, r1, q1⟩ => ?_) hs hpl))
 obtain ⟨a, b, xs, ys, ex, hqx, hqy, q⟩:=q1
 subst ex
 cases r1 with
 | cons r rr =>
  cases rr with
  | cons r' rr =>
   cases rr
   cases r
   cases r'
   obtain ⟨its, rv, p1, _⟩:=I1.list hqx
   obtain ⟨its2, rv2, p2, _⟩:=I1.list hqy
   have la : a < s1.heap.objs.size:=p1.lt
   have lb : b < s1.heap.objs.size:=p2.lt
   refine call_zip_2 p1.isList p2.isList fun h' hz hTI hTO h1 h2 hsz hk => wpAny_pyIter_zip hz ?_
   have I2 : Inv X pins σ H1 { s1 with heap:=h' }:=I1.kept (t':=s1.toks) hk
   refine ⟨s1.heap.objs.size + 4, [s1.heap.objs.size + 4, s1.heap.objs.size + 2, s1.heap.objs.size + 3, s1.heap.objs.size, s1.heap.objs.size + 1], _, _, H1, rfl, I2, turn_zip (PySem.W.ktu_apart s1.heap.objs.size a b la lb), ⟨hz, hTI, ⟨_, _, hTO⟩, h1, h2⟩, fun c hcm => ?_, q⟩
   have e' : c = s1.heap.objs.size + 4 \/ c = s1.heap.objs.size + 2 \/ c = s1.heap.objs.size + 3 \/ c = s1.heap.objs.size \/ c = s1.heap.objs.size + 1:=by simpa using hcm
   have hle : s1.heap.objs.size <= c:=by
    rcases e' with z | z | z | z | z
    ·rw [z]; exact Nat.le_add_right _ _
    ·rw [z]; exact Nat.le_add_right _ _
    ·rw [z]; exact Nat.le_add_right _ _
    ·rw [z]; exact Nat.le_refl _
    ·rw [z]; exact Nat.le_add_right _ _
   exact I1.fpOk hle (I1.hok.fresh hle)
end L2
namespace Att
open PySem PySem.W PySem.Calls PyProof.Rows
end Att
namespace L2
open PySem PySem.Spec PyProof.Rows
theorem vals_ints : ∀ {vs : List Value} {ns : List Int}, IntsAre vs ns -> Vals (ns.map V.int) vs
 | _, _, .nil => .nil
 | _, _, .cons n t h => .cons ⟨t, rfl⟩ (vals_ints h)
def Only (H : Hp) : Prop:=∀ b, H b = none \/ ∃ o xs, H b = some (.frz o (.lst xs))
theorem law_call {P : Program} {w : World} {K : PySem.W.Frag} {mg mb : Str -> Option Value} {CX : CXT} {k : Nat} {fa a : Addr} {fd : FuncData} {x : Str} {sp : Sp} {s₁ : Shared} {vs : List Value} {ns : List Int}
  (KX : K.In s₁.heap) (hns : s₁.heap.Ns mainGlobals mg) (hb : s₁.heap.Ns builtinsNs mb) (hbb : ∀ x : Str, x ≠ "__name__" -> mb x = bootBuiltins x) (hlim : s₁.heap.NoLimit) (hg : s₁.gens = #[])
  (ha : s₁.heap.get? a = some { cls:=.type "list", data:=.seq vs.toArray }) (hi : IntsAre vs ns) (hl : ns.length <= sizeLine) (hr : Room k callerA)
  (F : ∀ base : Heap, K.In base -> base.Ns mainGlobals mg -> FnOk P w K mg base CX k fa fd [x] sp) (hbind : ∀ (s : Shared) (u : Value), BindsTo s fd ⟨[u], []⟩ [(x, u)])
  (hsp : ∀ H : Hp, Only H -> SqL K H a (ns.map V.int) -> sp [.ref a] H (fun v _ => v = .bl true) fun _ _ _ => False)
  (hCX : ∀ H e s', CX [] H s₁ (fun _ _ _ => False) e s' -> False) :
  codeAny (model P w) callerA (.call (.ref fa) ⟨[.ref a], []⟩) (fun r s' => r = .ok (.ret (.bool true)) /\ OldK s₁.heap s'.heap /\ s'.os = s₁.os /\ AllBare s'.gens) s₁:=by
 have rv:=vals_ints hi
 have lenV:=hi.length
 have core : ∀ H : Hp, Only H -> SqL K H a (ns.map V.int) -> HOk P w H s₁.heap -> (∀ b, H b ≠ none -> b = a) -> (H a ≠ none -> K.lookup a = none) ->
   codeAny (model P w) callerA (.call (.ref fa) ⟨[.ref a], []⟩) (fun r s' => r = .ok (.ret (.bool true)) /\ OldK s₁.heap s'.heap /\ s'.os = s₁.os /\ AllBare s'.gens) s₁:=by
  intro H hO hS hok hA hK
  have base_of : ∀ {b : Addr} {o : Obj}, s₁.heap.get? b = some o -> H b = none -> (hidT s₁.heap H).get? b = some o:=fun e n => hidT_get e n
  have noA : ∀ {b : Addr} {o : Obj} {es : Array DictEntry} {ep : Nat}, s₁.heap.get? b = some o -> o.data = .dict es ep -> H b = none:=fun {b o es ep} e d => by
   cases q : H b with
   | none => rfl
   | some u =>
    have e' : b = a:=hA b (by rw [q]; simp)
    subst e'
    rw [ha] at e; cases e
    have d' : Data.seq vs.toArray _ = Data.dict es ep:=d
    cases d'
  have nsK : ∀ {b : Addr} {m : Str -> Option Value}, s₁.heap.Ns b m -> (hidT s₁.heap H).Ns b m:=fun {b m} ⟨o, es, ep, e, d, r⟩ => ⟨o, es, ep, base_of e (noA e d), d, r⟩
  have hKb : K.In (hidT s₁.heap H):=fun b o e => base_of (KX b o e) (by
   cases q : H b with
   | none => rfl
   | some u =>
    have e' : b = a:=hA b (by rw [q]; simp)
    subst e'
    rw [hK (by rw [q]; simp)] at e; cases e)
  have hM : Mod K mg (hidT s₁.heap H):=⟨hKb, nsK hns, ⟨mb, nsK hb, hbb⟩, let ⟨mc, h1, h2⟩:=hlim; ⟨mc, nsK h1, h2⟩⟩
  have e0 : Env0 P w K mg (hidT s₁.heap H) callerA [] s₁ H:=⟨rfl, hM, fun b o e => of_hidT e, Nat.le_of_eq (hidT_size _ _), trivial, fun b hb => absurd (show b ∈ ([] : List Addr) from hb) (by simp), hok, .of_eq hg⟩
  refine codeAny_mono ((F _ hKb (nsK hns)).run callerA [] s₁ H ⟨[.ref a], []⟩ [.ref a] [.ref a] _ _ hr e0 (hbind s₁ (.ref a)) (.cons rfl .nil) (hsp H hO hS)) fun r s' h => ?_
  cases r with
  | error e => exact (hCX H e s' h).elim
  | ok fl =>
   cases fl with
   | next => exact False.elim h
   | brk => exact False.elim h
   | cont => exact False.elim h
   | ret u =>
    obtain ⟨v, H', os, bare, un, hok', r', q⟩:=h
    have q' : v = .bl true:=q
    subst q'
    obtain rfl : u = Value.bool true:=r'
    refine ⟨rfl, OldK.of_keep fun b o e => ?_, os, bare⟩
    cases q : H b with
    | none => exact un.keep b o e q (by intro z; exact absurd (show b ∈ ([] : List Addr) from z) (by simp)) (by simp)
    | some u =>
     rcases hO b with z | ⟨ob, xs, z⟩
     ·rw [q] at z; cases z
     ·have z2:=un.frzs b ob _ z
      obtain ⟨e1, _⟩:=hok b _ z
      obtain ⟨e2, _⟩:=hok' b _ z2
      rw [e] at e1; cases e1
      exact e2
 cases hk : K.lookup a with
 | some o =>
  have e:=KX a o hk
  rw [ha] at e
  cases e
  refine core (fun _ => none) (fun _ => .inl rfl) (.inr ⟨_, vs.toArray, _, hk, rfl, rfl, rfl, by rw [List.size_toArray, lenV]; exact hl, by simpa using rv⟩) (fun b u z => by have z' : (none : Option HO) = some u:=z; cases z') (fun b z => absurd rfl z) fun z => absurd rfl z
 | none =>
  refine core (fun b => if b = a then some (.frz { cls:=.type "list", data:=.seq vs.toArray } (.lst (ns.map V.int))) else none) (fun b => ?_) (.inl (.inr ⟨{ cls:=.type "list", data:=.seq vs.toArray }, if_pos rfl⟩)) (fun b u z => ?_) (fun b z => ?_) fun _ => hk
  ·by_cases hb : b = a
   ·exact .inr ⟨_, _, if_pos hb⟩
   ·exact .inl (if_neg hb)
  ·by_cases hb : b = a
   ·have z':=(if_pos hb).symm.trans z
    cases z'
    subst hb
    exact ⟨ha, by rw [List.length_map]; exact hl, vs, _, rv, ha⟩
   ·have z':=(if_neg hb).symm.trans z
    cases z'
  ·by_cases hb : b = a
   ·exact hb
   ·exact absurd (if_neg hb) z
end L2
namespace L2
open PySem PySem.Spec PyProof.Rows
end L2
namespace L2
open PySem PySem.Spec PyProof.Rows
def defArgs (s : Stmt) : Arguments:=match s with
 | .FunctionDef _ a _ _ _ _ _ _ _ _ => a
 | _ => { posonlyargs:=[], args:=[], vararg:=none, kwonlyargs:=[], kw_defaults:=[], kwarg:=none, defaults:=[] }
def defBody (s : Stmt) : List Stmt:=match s with
 | .FunctionDef _ _ b _ _ _ _ _ _ _ => b
 | _ => []
def defScope (s : Stmt) : Scope:=match s with
 | .FunctionDef _ _ _ _ _ _ sc _ _ _ => sc
 | _ => { kind:=.function, names:=[], isGenerator:=false, isCoroutine:=false }
abbrev CX0 : CXT:=fun _ _ _ _ _ _ => False
abbrev E0 : XK:=fun _ _ _ => False
theorem pass0 {X : Cx} : Passes CX0 X E0:=fun _ _ _ _ _ _ _ h => h.elim
structure Fun (K : PySem.W.Frag) (x qual : Str) (st : Stmt) (f : Addr) (fd : FuncData) : Prop where
 ex : ∃ (oc : Value) (od : Option Addr) (kV doc pm : Value) (an : Option Addr) (cdv ct : Value) (osl : Array (Option Value)),
  fd = PySem.W.fnOf x qual (defArgs st) (defBody st) (defScope st) .none kV doc pm an cdv ct /\ K.lookup f = some ⟨oc, od, .func fd, osl⟩ /\ PySem.W.codeIn K cdv qual = true
 kp : PySem.W.keepIn K (.ref f) = true
section
variable {P : Program} {w : World} {K : PySem.W.Frag} {mg : Str -> Option Value} {base : Heap}
theorem Fun.ok {x qual : Str} {st : Stmt} {f : Addr} {fd : FuncData} {N ps : List Str} {k : Nat} {sp : Sp} (F : Fun K x qual st f fd) (S : FnScope N ps (defScope st)) (len : ∀ vs H Q E, sp vs H Q E -> vs.length = ps.length)
  (hbody : ∀ (cdv : Value) (A : Around) (outer : List Env) (s : Shared) (H : Hp) (vs : List V) (Q : VK) (E : XK), Room k (A.deeper (envOfC qual (defScope st) s.heap.objs.size f cdv)) -> sp vs H Q E ->
   ∃ t, PSs (cxOf CX0 P w K mg base N qual (defScope st) f cdv A outer s H E).nox (defBody st) t /\ t { nx:=fun _ H' => Q .non H', rt:=Q } (start N vs) H) : FnOk P w K mg base CX0 (k + 1) f fd ps sp:=by
 obtain ⟨oc, od, kV, doc, pm, an, cdv, ct, osl, rfl, lk, hcd⟩:=F.ex
 refine fn_of lk hcd S len fun A outer s H vs Q E hr hsp => ?_
 obtain ⟨t, h, q⟩:=hbody cdv A outer s H vs Q E hr hsp
 exact ⟨t, h.nox, q⟩
theorem Fun.binds {x qual : Str} {st : Stmt} {f : Addr} {fd : FuncData} {ps : List Str} (F : Fun K x qual st f fd)
  (h : ∀ (kV doc pm : Value) (an : Option Addr) (cdv ct : Value) (us : List Value), us.length = ps.length -> bindArgs (PySem.W.fnOf x qual (defArgs st) (defBody st) (defScope st) .none kV doc pm an cdv ct) ⟨us, []⟩ = pure (ps.zip us)) : Binds K fd ps []:=by
 obtain ⟨oc, od, kV, doc, pm, an, cdv, ct, osl, rfl, lk, hcd⟩:=F.ex
 exact .all (h kV doc pm an cdv ct)
theorem fun_mk {x qual : Str} {st : Stmt} {f : Addr} {oc : Value} {od an : Option Addr} {osl : Array (Option Value)} {kV doc pm cdv ct : Value} (l : K.lookup f = some ⟨oc, od, .func (PySem.W.fnOf x qual (defArgs st) (defBody st) (defScope st) .none kV doc pm an cdv ct), osl⟩)
  (c : PySem.W.codeIn K cdv qual = true) (k : PySem.W.keepIn K (.ref f) = true) : Fun K x qual st f (PySem.W.fnOf x qual (defArgs st) (defBody st) (defScope st) .none kV doc pm an cdv ct):=⟨⟨oc, od, kV, doc, pm, an, cdv, ct, osl, rfl, l, c⟩, k⟩
end
theorem hu_of {A : Around} {k : Nat} (hr : Room k A) : A.units + 1 < cLine:=Nat.lt_of_le_of_lt (Nat.add_le_add_left (by decide : 1 <= 64) _) hr.units
theorem small1000 {n : Nat} (h : n <= 1000) : n < sizeLine:=Nat.lt_of_le_of_lt h (by decide)
section
variable {X : Cx}
theorem pv (i : Nat) {x : Str} {pos : Pos} (hN : X.N[i]? = some x:=by rfl) (hv : Vis X.env.scope x:=by first | exact Or.inl rfl | exact Or.inr (Or.inl rfl) | exact Or.inr (Or.inr rfl)) (hd : (x == ("__debug__" : Str)) = false:=by decide)
  (hcd : (x == ("__classdict__" : Str)) = false:=by decide) : PE X (.Name x pos) (tVar i):=pe_var hN hv hd hcd
end
theorem iteF {A B : Prop} (h : B) : if false = true then A else B:=by
 rw [if_neg Bool.false_ne_true]
 exact h
theorem iteT {A B : Prop} (h : A) : if true = true then A else B:=by
 rw [if_pos rfl]
 exact h
theorem ite2 {c A B : Prop} [Decidable c] (h1 : c -> A) (h2 : ¬ c -> B) : if c then A else B:=by
 by_cases h : c
 ·rw [if_pos h]
  exact h1 h
 ·rw [if_neg h]
  exact h2 h
def Same (H H' : Hp) : Prop:=∀ b o, H b = some o -> H' b = some o
theorem Same.refl (H : Hp) : Same H H:=fun _ _ h => h
theorem Same.trans {H H1 H2 : Hp} (a : Same H H1) (b : Same H1 H2) : Same H H2:=fun c o h => b c o (a c o h)
theorem Same.free {H H' : Hp} (e : Same H H') {l : Addr} (h : H' l = Option.none) : H l = Option.none:=by
 cases q : H l with
 | none => rfl
 | some o =>
  rw [e l o q] at h
  cases h
theorem Same.seq {K : PySem.W.Frag} {H H' : Hp} {a : Addr} {xs : List V} (e : Same H H') (h : SqL K H a xs) : SqL K H' a xs:=by
 rcases h with (h | ⟨o, h⟩) | h
 ·exact .inl (.inl (e _ _ h))
 ·exact .inl (.inr ⟨o, e _ _ h⟩)
 ·exact .inr h
section
variable {κ : Type} [DecidableEq κ]
theorem valV_not {kvs : List (κ × V)} {k : κ} (h : valV kvs k = none) : ¬ k ∈ kvs.map (·.1):=by
 intro m
 obtain ⟨p, hp, e⟩:=List.mem_map.mp m
 have q : (kvs.any fun kv => decide (kv.1 = k)) = true:=List.any_eq_true.mpr ⟨p, hp, decide_eq_true e⟩
 rw [valV_any, h] at q
 exact absurd q (by simp)
end
theorem at_of {xs : List V} {z : Int} {j : Nat} {v : V} (e : z = (j : Int)) (h : xs[j]? = some v) : atI xs z = some v:=by
 rw [e]
 exact atI_nat h
end L2
section
set_option maxHeartbeats 2000000
namespace L2
open PySem PySem.Spec PyProof.Rows
open PySem.W (WData Codec OpenSpec Well WellAll ReadsW ReadsAllW)
mutual
inductive Dw (K : PySem.W.Frag) (H : Hp) : V -> WData -> Prop
 | non : Dw K H .non .none
 | bl (b : Bool) : Dw K H (.bl b) (.bool b)
 | int (i : Int) : Dw K H (.int i) (.int i)
 | str (x : Str) : Dw K H (.str x) (.str x)
 | byt (b : Array UInt8) : Dw K H (.byt b) (.bytes b.toList)
 | lst {a : Addr} {xs : List V} {ds : List WData} : SqL K H a xs -> DwAll K H xs ds -> Dw K H (.ref a) (.list ds)
 | tup {a : Addr} {xs : List V} {ds : List WData} : SqT K H a xs -> DwAll K H xs ds -> Dw K H (.ref a) (.tuple ds)
inductive DwAll (K : PySem.W.Frag) (H : Hp) : List V -> List WData -> Prop
 | nil : DwAll K H [] []
 | cons {v : V} {vs : List V} {d : WData} {ds : List WData} : Dw K H v d -> DwAll K H vs ds -> DwAll K H (v :: vs) (d :: ds)
end
theorem dw_ints {K : PySem.W.Frag} {H : Hp} : ∀ ns : List Int, DwAll K H (ns.map V.int) (ns.map WData.int)
 | [] => .nil
 | n :: r => .cons (.int n) (dw_ints r)
theorem ints_dw {K : PySem.W.Frag} {H : Hp} : ∀ (ns : List Int) (xs : List V), DwAll K H xs (ns.map WData.int) -> xs = ns.map V.int
 | [], xs, h => by
  cases h
  rfl
 | n :: r, xs, h => by
  cases h with
  | cons h1 h2 =>
   cases h1
   rw [ints_dw r _ h2] <;> rfl
section
variable {P : Program} {w : World} {K : PySem.W.Frag} {H : Hp} {h : Heap} {R : PySem.W.WRecords} {cl : Str -> Option Addr}
theorem sqL_at {a : Addr} {xs : List V} (hok : HOk P w H h) (KX : K.In h) (q : SqL K H a xs) : ∃ (its : List Value) (o : Obj) (n : Nat), Vals xs its /\ h.get? a = some o /\ o.cls = .type "list" /\ o.data = .seq its.toArray n:=by
 rcases q with q | ⟨o, its, n, e, hc, _, hd, _, hv⟩
 ·obtain ⟨_, its, n, hv, e⟩:=(show ObjOk P w H h a (.lst xs) from q.ok hok)
  exact ⟨its, _, n, hv, e, rfl, rfl⟩
 ·exact ⟨its.toList, o, n, hv, KX _ _ e, hc, by simp [hd]⟩
theorem sqT_at {a : Addr} {xs : List V} (hok : HOk P w H h) (KX : K.In h) (q : SqT K H a xs) : ∃ (its : List Value) (o : Obj) (n : Nat), Vals xs its /\ h.get? a = some o /\ o.cls = .type "tuple" /\ o.data = .seq its.toArray n:=by
 rcases q with q | ⟨o, its, n, e, hc, hd, _, hv⟩
 ·obtain ⟨_, its, hv, o, e, hc, n, hd⟩:=(show ObjOk P w H h a (.tup xs) from q.ok hok)
  exact ⟨its, o, n, hv, e, hc, hd⟩
 ·exact ⟨its.toList, o, n, hv, KX _ _ e, hc, by simp [hd]⟩
mutual
theorem Dw.reads (hok : HOk P w H h) (KX : K.In h) : ∀ (d : WData) (v : V) (u : Value), Dw K H v d -> RelV v u -> ∃ as, ReadsW R cl h u d as
 | .none, _, _, x, r => by
  cases x
  cases r
  exact ⟨_, ReadsW.none⟩
 | .bool b, _, _, x, r => by
  cases x
  cases r
  exact ⟨_, ReadsW.bool b⟩
 | .int i, _, _, x, r => by
  cases x
  obtain ⟨t, rfl⟩:=r
  exact ⟨_, ReadsW.int i t⟩
 | .str s, _, _, x, r => by
  cases x
  obtain ⟨t, rfl⟩:=r
  exact ⟨_, ReadsW.str s t⟩
 | .bytes b, _, _, x, r => by
  cases x
  obtain ⟨t, rfl⟩:=r
  exact ⟨_, ReadsW.bytes _ t⟩
 | .list ds, _, _, x, r => by
  cases x with
  | lst hs ha =>
   cases r
   obtain ⟨its, o, n, rv, ho, hc, hd⟩:=sqL_at hok KX hs
   obtain ⟨as, hr⟩:=Dw.readsAll hok KX ds _ its ha rv
   exact ⟨_, ReadsW.list ho hc hd hr⟩
 | .tuple ds, _, _, x, r => by
  cases x with
  | tup hs ha =>
   cases r
   obtain ⟨its, o, n, rv, ho, hc, hd⟩:=sqT_at hok KX hs
   obtain ⟨as, hr⟩:=Dw.readsAll hok KX ds _ its ha rv
   exact ⟨_, ReadsW.tuple ho hc hd hr⟩
 | .float _, _, _, x, _ => by cases x
 | .dict _, _, _, x, _ => by cases x
 | .bytearray _, _, _, x, _ => by cases x
 | .set _, _, _, x, _ => by cases x
 | .frozenset _, _, _, x, _ => by cases x
 | .obj _ _, _, _, x, _ => by cases x
theorem Dw.readsAll (hok : HOk P w H h) (KX : K.In h) : ∀ (ds : List WData) (vs : List V) (us : List Value), DwAll K H vs ds -> Vals vs us -> ∃ as, ReadsAllW R cl h us ds as
 | [], _, _, x, r => by
  cases x
  cases r
  exact ⟨_, ReadsAllW.nil⟩
 | d :: ds, _, _, x, r => by
  cases x with
  | cons h1 h2 =>
   cases r with
   | cons r1 r2 =>
    obtain ⟨as, q1⟩:=Dw.reads hok KX d _ _ h1 r1
    obtain ⟨bs, q2⟩:=Dw.readsAll hok KX ds _ _ h2 r2
    exact ⟨_, ReadsAllW.cons q1 q2⟩
end
end
mutual
def plW : WData -> Bool
 | .none => true
 | .bool _ => true
 | .int _ => true
 | .str _ => true
 | .bytes _ => true
 | .list xs => plWs xs
 | .tuple xs => plWs xs
 | _ => false
def plWs : List WData -> Bool
 | [] => true
 | x :: r => plW x && plWs r
end
theorem plWs_map {α : Type} {f : α -> WData} (h : ∀ a, plW (f a) = true) : ∀ l : List α, plWs (l.map f) = true
 | [] => rfl
 | x :: r => by
  show (plW (f x) && plWs (r.map f)) = true
  rw [h x, plWs_map h r] <;> rfl
theorem pl_enc : ∀ (c : Codec) (a : c.denote), plW (c.enc a) = true
 | .unit, _ => rfl
 | .bool, _ => rfl
 | .int _ _, _ => rfl
 | .nat _ _, _ => rfl
 | .u8, _ => rfl
 | .bytes _ _, _ => rfl
 | .text _ _ _ _, _ => rfl
 | .list _ _ c, a => plWs_map (fun x => pl_enc c x) a
 | .pair c d, a => by
  show (plW (c.enc a.1) && (plW (d.enc a.2) && true)) = true
  rw [pl_enc c a.1, pl_enc d a.2] <;> rfl
 | .triple c d e, a => by
  show (plW (c.enc a.1) && (plW (d.enc a.2.1) && (plW (e.enc a.2.2) && true))) = true
  rw [pl_enc c a.1, pl_enc d a.2.1, pl_enc e a.2.2] <;> rfl
 | .option c, none => rfl
 | .option c, some x => pl_enc c x
theorem pl_encAll : ∀ (cs : List Codec) (a : Codec.denoteAll cs), plWs (Codec.encAll cs a) = true
 | [], _ => rfl
 | c :: cs, a => by
  show (plW (c.enc a.1) && plWs (Codec.encAll cs a.2)) = true
  rw [pl_enc c a.1, pl_encAll cs a.2] <;> rfl
theorem weight_mem : ∀ {xs : List WData} {d : WData}, d ∈ xs -> d.weight <= WData.weightAll xs
 | [], d, h => absurd h (by simp)
 | x :: r, d, h => by
  show d.weight <= x.weight + 1 + WData.weightAll r
  rcases List.mem_cons.mp h with e | m
  ·rw [e]
   omega
  ·have z:=weight_mem m
   omega
def toV : Value -> V
 | .none => .non
 | .bool b => .bl b
 | .int i _ => .int i
 | .str x _ => .str x
 | .bytes b _ => .byt b
 | .ref a => .ref a
 | _ => .non
def OkU (A : List Addr) : Value -> Prop
 | .none => True
 | .bool _ => True
 | .int _ _ => True
 | .str _ _ => True
 | .bytes _ _ => True
 | .ref a => a ∈ A
 | _ => False
theorem OkU.mono {A B : List Addr} (h : ∀ a ∈ A, a ∈ B) : ∀ {u : Value}, OkU A u -> OkU B u:=fun {u} x => by
 cases u with
 | ref a => exact h a x
 | none => trivial
 | bool b => trivial
 | int i t => trivial
 | str s t => trivial
 | bytes b t => trivial
 | _ => exact False.elim x
theorem relV_toV {A : List Addr} {u : Value} (x : OkU A u) : RelV (toV u) u:=by
 cases u with
 | ref a => rfl
 | none => rfl
 | bool b => rfl
 | int i t => exact ⟨t, rfl⟩
 | str s t => exact ⟨t, rfl⟩
 | bytes b t => exact ⟨t, rfl⟩
 | _ => exact False.elim x
theorem vals_toV {A : List Addr} : ∀ {vs : List Value}, (∀ u ∈ vs, OkU A u) -> Vals (vs.map toV) vs
 | [], _ => .nil
 | u :: r, h => .cons (relV_toV (h u (List.mem_cons_self ..))) (vals_toV fun x hx => h x (List.mem_cons_of_mem _ hx))
def ArgOb (h : Heap) (A : List Addr) (a : Addr) : Prop:=∃ vs : List Value, vs.length <= sizeLine /\ (∀ u ∈ vs, OkU A u) /\
 (h.get? a = some { cls:=.type "list", data:=.seq vs.toArray } \/ h.get? a = some { cls:=.type "tuple", data:=.seq vs.toArray })
theorem ArgOb.mono {h : Heap} {A B : List Addr} {a : Addr} (k : ∀ a ∈ A, a ∈ B) (x : ArgOb h A a) : ArgOb h B a:=by
 obtain ⟨vs, h1, h2, h3⟩:=x
 exact ⟨vs, h1, fun u hu => (h2 u hu).mono k, h3⟩
theorem wellAll_len {P : Params} {h : Heap} : ∀ {vs : List Value} {ds : List WData}, WellAll P h vs ds -> vs.length = ds.length
 | _, _, .nil => rfl
 | _, _, .cons _ b => by
  show _ + 1 = _ + 1
  rw [wellAll_len b]
theorem well_list {P : Params} {h : Heap} {v : Value} {ds : List WData} (x : Well P h v (.list ds)) : ∃ (a : Addr) (vs : List Value), v = .ref a /\ h.get? a = some { cls:=.type "list", data:=.seq vs.toArray } /\ WellAll P h vs ds:=by
 cases x with
 | list ho hall => exact ⟨_, _, rfl, ho, hall⟩
theorem well_tuple {P : Params} {h : Heap} {v : Value} {ds : List WData} (x : Well P h v (.tuple ds)) : ∃ (a : Addr) (vs : List Value), v = .ref a /\ h.get? a = some { cls:=.type "tuple", data:=.seq vs.toArray } /\ WellAll P h vs ds:=by
 cases x with
 | tuple ho hall => exact ⟨_, _, rfl, ho, hall⟩
theorem well_cons {P : Params} {h : Heap} {us : List Value} {d : WData} {ds : List WData} (x : WellAll P h us (d :: ds)) : ∃ (v : Value) (vs : List Value), us = v :: vs /\ Well P h v d /\ WellAll P h vs ds:=by
 cases x with
 | cons a b => exact ⟨_, _, rfl, a, b⟩
theorem line_of {n : Nat} (h : n <= 1048576) : n <= sizeLine:=Nat.le_trans h (by decide)
section
variable {P : Params} {h : Heap}
mutual
theorem area_one : ∀ (d : WData) (v : Value), Well P h v d -> plW d = true -> d.weight <= 1048576 -> ∃ A : List Addr, OkU A v /\ ∀ a ∈ A, ArgOb h A a
 | .none, _, x, _, _ => by
  cases x
  exact ⟨[], trivial, fun a m => absurd m (by simp)⟩
 | .bool b, _, x, _, _ => by
  cases x
  exact ⟨[], trivial, fun a m => absurd m (by simp)⟩
 | .int i, _, x, _, _ => by
  cases x
  exact ⟨[], trivial, fun a m => absurd m (by simp)⟩
 | .str s, _, x, _, _ => by
  cases x
  exact ⟨[], trivial, fun a m => absurd m (by simp)⟩
 | .bytes b, _, x, _, _ => by
  cases x
  exact ⟨[], trivial, fun a m => absurd m (by simp)⟩
 | .list ds, _, x, p, z => by
  obtain ⟨a, vs, rfl, ho, hall⟩:=well_list x
  have z2 : WData.weightAll ds <= 1048576:=z
  obtain ⟨A, h1, h2⟩:=area_all ds _ hall p fun d hd => Nat.le_trans (weight_mem hd) z2
  have k : ∀ b ∈ A, b ∈ a :: A:=fun b hb => List.mem_cons_of_mem _ hb
  refine ⟨a :: A, List.mem_cons_self .., fun b hb => ?_⟩
  rcases List.mem_cons.mp hb with e | m
  ·rw [e]
   exact ⟨vs, line_of (by rw [wellAll_len hall]; exact Nat.le_trans (PySem.W.length_le_weightAllW ds) z2), fun u hu => (h1 u hu).mono k, .inl ho⟩
  ·exact (h2 b m).mono k
 | .tuple ds, _, x, p, z => by
  obtain ⟨a, vs, rfl, ho, hall⟩:=well_tuple x
  have z2 : WData.weightAll ds <= 1048576:=z
  obtain ⟨A, h1, h2⟩:=area_all ds _ hall p fun d hd => Nat.le_trans (weight_mem hd) z2
  have k : ∀ b ∈ A, b ∈ a :: A:=fun b hb => List.mem_cons_of_mem _ hb
  refine ⟨a :: A, List.mem_cons_self .., fun b hb => ?_⟩
  rcases List.mem_cons.mp hb with e | m
  ·rw [e]
   exact ⟨vs, line_of (by rw [wellAll_len hall]; exact Nat.le_trans (PySem.W.length_le_weightAllW ds) z2), fun u hu => (h1 u hu).mono k, .inr ho⟩
  ·exact (h2 b m).mono k
 | .float _, _, _, p, _ => Bool.noConfusion (show false = true from p)
 | .dict _, _, _, p, _ => Bool.noConfusion (show false = true from p)
 | .bytearray _, _, _, p, _ => Bool.noConfusion (show false = true from p)
 | .set _, _, _, p, _ => Bool.noConfusion (show false = true from p)
 | .frozenset _, _, _, p, _ => Bool.noConfusion (show false = true from p)
 | .obj _ _, _, _, p, _ => Bool.noConfusion (show false = true from p)
theorem area_all : ∀ (ds : List WData) (vs : List Value), WellAll P h vs ds -> plWs ds = true -> (∀ d ∈ ds, d.weight <= 1048576) -> ∃ A : List Addr, (∀ u ∈ vs, OkU A u) /\ ∀ a ∈ A, ArgOb h A a
 | [], _, x, _, _ => by
  cases x
  exact ⟨[], fun u m => absurd m (by simp), fun a m => absurd m (by simp)⟩
 | d :: ds, _, x, p, z => by
  obtain ⟨v, vs, rfl, x1, x2⟩:=well_cons x
  have q : plW d = true /\ plWs ds = true:=Bool.and_eq_true_iff.mp p
  obtain ⟨A, a1, a2⟩:=area_one d v x1 q.1 (z d (List.mem_cons_self ..))
  obtain ⟨B, b1, b2⟩:=area_all ds vs x2 q.2 fun e he => z e (List.mem_cons_of_mem _ he)
  have kA : ∀ b ∈ A, b ∈ A ++ B:=fun b hb => List.mem_append.mpr (.inl hb)
  have kB : ∀ b ∈ B, b ∈ A ++ B:=fun b hb => List.mem_append.mpr (.inr hb)
  refine ⟨A ++ B, fun u hu => ?_, fun b hb => ?_⟩
  ·rcases List.mem_cons.mp hu with e | m
   ·rw [e]
    exact a1.mono kA
   ·exact (b1 u m).mono kB
  ·rcases List.mem_append.mp hb with m | m
   ·exact (a2 b m).mono kA
   ·exact (b2 b m).mono kB
end
end
def hoOf (o : Obj) : Option HO:=match o.data with
 | .seq vs _ => if (o.cls == Value.type "list") = true then some (.frz o (.lst (vs.toList.map toV))) else some (.frz o (.tup (vs.toList.map toV)))
 | _ => none
def argH (K : PySem.W.Frag) (h : Heap) (A : List Addr) : Hp:=fun b => if b ∈ A then (if (K.lookup b).isNone = true then (h.get? b).bind hoOf else none) else none
def OnlyF (H : Hp) : Prop:=∀ b, H b = none \/ ∃ o u, H b = some (.frz o u)
theorem hoOf_lst (vs : List Value) : hoOf { cls:=.type "list", data:=.seq vs.toArray } = some (.frz { cls:=.type "list", data:=.seq vs.toArray } (.lst (vs.map toV))):=by
 show (if (Value.type "list" == Value.type "list") = true then some (HO.frz { cls:=.type "list", data:=.seq vs.toArray } (.lst (vs.toArray.toList.map toV))) else some (HO.frz { cls:=.type "list", data:=.seq vs.toArray } (.tup (vs.toArray.toList.map toV)))) = _
 rw [if_pos (beq_self_eq_true _)]
theorem hoOf_tup (vs : List Value) : hoOf { cls:=.type "tuple", data:=.seq vs.toArray } = some (.frz { cls:=.type "tuple", data:=.seq vs.toArray } (.tup (vs.map toV))):=by
 show (if (Value.type "tuple" == Value.type "list") = true then some (HO.frz { cls:=.type "tuple", data:=.seq vs.toArray } (.lst (vs.toArray.toList.map toV))) else some (HO.frz { cls:=.type "tuple", data:=.seq vs.toArray } (.tup (vs.toArray.toList.map toV)))) = _
 rw [if_neg (by decide)]
section
variable {P : Program} {w : World} {K : PySem.W.Frag} {h : Heap} {A : List Addr}
theorem argH_at {b : Addr} {o : Obj} (hb : b ∈ A) (hk : K.lookup b = none) (e : h.get? b = some o) : argH K h A b = hoOf o:=by
 unfold argH
 rw [if_pos hb, hk, if_pos (show (none : Option Obj).isNone = true from rfl), e] <;> rfl
theorem of_argH {b : Addr} {u : HO} (q : argH K h A b = some u) : b ∈ A /\ K.lookup b = none:=by
 unfold argH at q
 by_cases hb : b ∈ A
 ·rw [if_pos hb] at q
  cases hk : K.lookup b with
  | none => exact ⟨hb, rfl⟩
  | some o =>
   rw [hk, if_neg (by simp)] at q
   cases q
 ·rw [if_neg hb] at q
  cases q
theorem argH_is (ar : ∀ a ∈ A, ArgOb h A a) {b : Addr} {u : HO} (q : argH K h A b = some u) : K.lookup b = none /\ ∃ vs : List Value, vs.length <= sizeLine /\ (∀ u ∈ vs, OkU A u) /\
  ((h.get? b = some { cls:=.type "list", data:=.seq vs.toArray } /\ u = .frz { cls:=.type "list", data:=.seq vs.toArray } (.lst (vs.map toV))) \/
   (h.get? b = some { cls:=.type "tuple", data:=.seq vs.toArray } /\ u = .frz { cls:=.type "tuple", data:=.seq vs.toArray } (.tup (vs.map toV)))):=by
 obtain ⟨hb, hk⟩:=of_argH q
 obtain ⟨vs, h1, h2, h3⟩:=ar b hb
 refine ⟨hk, vs, h1, h2, ?_⟩
 rcases h3 with e | e
 ·rw [argH_at hb hk e, hoOf_lst] at q
  exact .inl ⟨e, (Option.some.inj q).symm⟩
 ·rw [argH_at hb hk e, hoOf_tup] at q
  exact .inr ⟨e, (Option.some.inj q).symm⟩
theorem argH_only (ar : ∀ a ∈ A, ArgOb h A a) : OnlyF (argH K h A):=fun b => by
 cases q : argH K h A b with
 | none => exact .inl rfl
 | some u =>
  obtain ⟨_, vs, _, _, ⟨_, e⟩ | ⟨_, e⟩⟩:=argH_is ar q
  ·exact .inr ⟨_, _, by rw [e]⟩
  ·exact .inr ⟨_, _, by rw [e]⟩
theorem argH_ok (ar : ∀ a ∈ A, ArgOb h A a) : HOk P w (argH K h A) h:=fun b u q => by
 obtain ⟨_, vs, h1, h2, ⟨e, rfl⟩ | ⟨e, rfl⟩⟩:=argH_is ar q
 ·exact ⟨e, by rw [List.length_map]; exact h1, vs, _, vals_toV h2, e⟩
 ·exact ⟨e, by rw [List.length_map]; exact h1, vs, vals_toV h2, _, e, rfl, _, rfl⟩
theorem seq_inj {c c' : Value} {vs us : List Value} (e : (some { cls:=c, data:=.seq vs.toArray } : Option Obj) = some { cls:=c', data:=.seq us.toArray }) : c = c' /\ vs = us:=by
 have e1:=Option.some.inj e
 have e2 : c = c':=congrArg Obj.cls e1
 have e3 : Data.seq vs.toArray = Data.seq us.toArray:=congrArg Obj.data e1
 injection e3 with e4
 refine ⟨e2, ?_⟩
 have e5:=congrArg Array.toList e4
 simpa using e5
theorem argL (KX : K.In h) (ar : ∀ a ∈ A, ArgOb h A a) {a : Addr} {vs : List Value} (ha : a ∈ A) (e : h.get? a = some { cls:=.type "list", data:=.seq vs.toArray }) : (∀ u ∈ vs, OkU A u) /\ SqL K (argH K h A) a (vs.map toV):=by
 obtain ⟨us, h1, h2, h3⟩:=ar a ha
 have hu : us = vs:=by
  rcases h3 with q | q
  ·rw [e] at q
   exact (seq_inj q).2.symm
  ·rw [e] at q
   exact absurd (Value.type.inj (seq_inj q).1) (by decide)
 subst hu
 refine ⟨h2, ?_⟩
 cases hk : K.lookup a with
 | none => exact .inl (.inr ⟨_, by rw [argH_at ha hk e, hoOf_lst]⟩)
 | some o =>
  have e2:=KX a o hk
  rw [e] at e2
  obtain rfl:=Option.some.inj e2
  exact .inr ⟨_, us.toArray, _, hk, rfl, rfl, rfl, by rw [List.size_toArray]; exact h1, by simpa using vals_toV h2⟩
theorem argT (KX : K.In h) (ar : ∀ a ∈ A, ArgOb h A a) {a : Addr} {vs : List Value} (ha : a ∈ A) (e : h.get? a = some { cls:=.type "tuple", data:=.seq vs.toArray }) : (∀ u ∈ vs, OkU A u) /\ SqT K (argH K h A) a (vs.map toV):=by
 obtain ⟨us, h1, h2, h3⟩:=ar a ha
 have hu : us = vs:=by
  rcases h3 with q | q
  ·rw [e] at q
   exact absurd (Value.type.inj (seq_inj q).1) (by decide)
  ·rw [e] at q
   exact (seq_inj q).2.symm
 subst hu
 refine ⟨h2, ?_⟩
 cases hk : K.lookup a with
 | none => exact .inl (.inr ⟨_, by rw [argH_at ha hk e, hoOf_tup]⟩)
 | some o =>
  have e2:=KX a o hk
  rw [e] at e2
  obtain rfl:=Option.some.inj e2
  exact .inr ⟨_, us.toArray, _, hk, rfl, rfl, by rw [List.size_toArray]; exact h1, by simpa using vals_toV h2⟩
mutual
theorem dw_one {Pm : Params} (KX : K.In h) (ar : ∀ a ∈ A, ArgOb h A a) : ∀ (d : WData) (v : Value), Well Pm h v d -> plW d = true -> OkU A v -> Dw K (argH K h A) (toV v) d
 | .none, _, x, _, _ => by
  cases x
  exact .non
 | .bool b, _, x, _, _ => by
  cases x
  exact .bl b
 | .int i, _, x, _, _ => by
  cases x
  exact .int i
 | .str s, _, x, _, _ => by
  cases x
  exact .str s
 | .bytes b, _, x, _, _ => by
  cases x
  have z:=Dw.byt (K:=K) (H:=argH K h A) b.toArray
  exact z
 | .list ds, _, x, p, hu => by
  obtain ⟨a, vs, rfl, ho, hall⟩:=well_list x
  obtain ⟨h2, hs⟩:=argL KX ar hu ho
  exact .lst hs (dw_all KX ar ds _ hall p h2)
 | .tuple ds, _, x, p, hu => by
  obtain ⟨a, vs, rfl, ho, hall⟩:=well_tuple x
  obtain ⟨h2, hs⟩:=argT KX ar hu ho
  exact .tup hs (dw_all KX ar ds _ hall p h2)
 | .float _, _, _, p, _ => Bool.noConfusion (show false = true from p)
 | .dict _, _, _, p, _ => Bool.noConfusion (show false = true from p)
 | .bytearray _, _, _, p, _ => Bool.noConfusion (show false = true from p)
 | .set _, _, _, p, _ => Bool.noConfusion (show false = true from p)
 | .frozenset _, _, _, p, _ => Bool.noConfusion (show false = true from p)
 | .obj _ _, _, _, p, _ => Bool.noConfusion (show false = true from p)
theorem dw_all {Pm : Params} (KX : K.In h) (ar : ∀ a ∈ A, ArgOb h A a) : ∀ (ds : List WData) (vs : List Value), WellAll Pm h vs ds -> plWs ds = true -> (∀ u ∈ vs, OkU A u) -> DwAll K (argH K h A) (vs.map toV) ds
 | [], _, x, _, _ => by
  cases x
  exact .nil
 | d :: ds, _, x, p, hu => by
  obtain ⟨v, vs, rfl, x1, x2⟩:=well_cons x
  have q : plW d = true /\ plWs ds = true:=Bool.and_eq_true_iff.mp p
  exact .cons (dw_one KX ar d v x1 q.1 (hu _ (List.mem_cons_self ..))) (dw_all KX ar ds vs x2 q.2 fun u m => hu u (List.mem_cons_of_mem _ m))
end
end
theorem spec_call {P : Program} {w : World} {K : PySem.W.Frag} {mg mb : Str -> Option Value} {CX : CXT} {k : Nat} {fa : Addr} {fd : FuncData} {ps : List Str} {sp : Sp} {s₁ : Shared} {vals : List Value} {ds : List WData} {R : PySem.W.WRecords} {cl : Str -> Option Addr} {d0 : WData}
  (KX : K.In s₁.heap) (hns : s₁.heap.Ns mainGlobals mg) (hb : s₁.heap.Ns builtinsNs mb) (hbb : ∀ x : Str, x ≠ "__name__" -> mb x = bootBuiltins x) (hlim : s₁.heap.NoLimit) (hg : s₁.gens = #[])
  (hwl : WellAll w.params s₁.heap vals ds) (hpl : plWs ds = true) (hwt : ∀ d ∈ ds, d.weight <= 1048576) (hr : Room k callerA)
  (F : ∀ base : Heap, K.In base -> base.Ns mainGlobals mg -> FnOk P w K mg base CX k fa fd ps sp) (hbind : ∀ (s : Shared) (us : List Value), us.length = ps.length -> BindsTo s fd ⟨us, []⟩ (ps.zip us)) (hlen : ds.length = ps.length)
  (hsp : ∀ (H : Hp) (xs : List V), OnlyF H -> DwAll K H xs ds -> sp xs H (fun v H' => Dw K H' v d0) fun _ _ _ => False)
  (hCX : ∀ H e s', CX [] H s₁ (fun _ _ _ => False) e s' -> False) :
  codeAny (model P w) callerA (.call (.ref fa) ⟨vals, []⟩) (fun r s' => ∃ u as, r = .ok (.ret u) /\ ReadsW R cl s'.heap u d0 as /\ OldK s₁.heap s'.heap /\ s'.os = s₁.os /\ AllBare s'.gens) s₁:=by
 obtain ⟨A, ho, ar⟩:=area_all ds vals hwl hpl hwt
 have hO : OnlyF (argH K s₁.heap A):=argH_only ar
 have hok : HOk P w (argH K s₁.heap A) s₁.heap:=argH_ok ar
 have hS:=dw_all KX ar ds vals hwl hpl ho
 have hV:=vals_toV ho
 have hK : ∀ b u, argH K s₁.heap A b = some u -> K.lookup b = none:=fun b u q => (argH_is ar q).1
 have noA : ∀ {b : Addr} {o : Obj} {es : Array DictEntry} {ep : Nat}, s₁.heap.get? b = some o -> o.data = .dict es ep -> argH K s₁.heap A b = none:=fun {b o es ep} e d => by
  cases q : argH K s₁.heap A b with
  | none => rfl
  | some u =>
   obtain ⟨_, vs, _, _, ⟨e2, _⟩ | ⟨e2, _⟩⟩:=argH_is ar q
   ·rw [e2] at e
    cases e
    have d' : Data.seq vs.toArray _ = Data.dict es ep:=d
    cases d'
   ·rw [e2] at e
    cases e
    have d' : Data.seq vs.toArray _ = Data.dict es ep:=d
    cases d'
 generalize argH K s₁.heap A = H at hO hok hS hK noA
 have base_of : ∀ {b : Addr} {o : Obj}, s₁.heap.get? b = some o -> H b = none -> (hidT s₁.heap H).get? b = some o:=fun e n => hidT_get e n
 have nsK : ∀ {b : Addr} {m : Str -> Option Value}, s₁.heap.Ns b m -> (hidT s₁.heap H).Ns b m:=fun {b m} ⟨o, es, ep, e, d, r⟩ => ⟨o, es, ep, base_of e (noA e d), d, r⟩
 have nK : ∀ b o, K.lookup b = some o -> H b = none:=fun b o e => by
  cases q : H b with
  | none => rfl
  | some u =>
   rw [hK b u q] at e
   cases e
 have hKb : K.In (hidT s₁.heap H):=fun b o e => base_of (KX b o e) (nK b o e)
 have hM : Mod K mg (hidT s₁.heap H):=⟨hKb, nsK hns, ⟨mb, nsK hb, hbb⟩, let ⟨mc, h1, h2⟩:=hlim; ⟨mc, nsK h1, h2⟩⟩
 have e0 : Env0 P w K mg (hidT s₁.heap H) callerA [] s₁ H:=⟨rfl, hM, fun b o e => of_hidT e, Nat.le_of_eq (hidT_size _ _), trivial, fun b hb => absurd (show b ∈ ([] : List Addr) from hb) (by simp), hok, .of_eq hg⟩
 have hl : vals.length = ps.length:=by rw [wellAll_len hwl]; exact hlen
 refine codeAny_mono ((F _ hKb (nsK hns)).run callerA [] s₁ H ⟨vals, []⟩ vals (vals.map toV) _ _ hr e0 (hbind s₁ vals hl) hV (hsp H _ hO hS)) fun r s' x => ?_
 cases r with
 | error e => exact (hCX H e s' x).elim
 | ok fl =>
  cases fl with
  | next => exact False.elim x
  | brk => exact False.elim x
  | cont => exact False.elim x
  | ret u =>
   obtain ⟨v, H', os, bare, un, hok', r', q⟩:=x
   have kept : ∀ b o, s₁.heap.get? b = some o -> s'.heap.get? b = some o:=fun b o e => by
    cases q2 : H b with
    | none => exact un.keep b o e q2 (by intro z; exact absurd (show b ∈ ([] : List Addr) from z) (by simp)) (by simp)
    | some u2 =>
     rcases hO b with z | ⟨ob, u3, z⟩
     ·rw [q2] at z
      cases z
     ·have z2:=un.frzs b ob _ z
      obtain ⟨e1, _⟩:=hok b _ z
      obtain ⟨e2, _⟩:=hok' b _ z2
      rw [e] at e1
      cases e1
      exact e2
   have KX' : K.In s'.heap:=fun b o e => kept b o (KX b o e)
   obtain ⟨as, hrd⟩:=Dw.reads (R:=R) (cl:=cl) hok' KX' d0 v u q r'
   exact ⟨u, as, rfl, hrd, OldK.of_keep kept, os, bare⟩
theorem layable_weight {ds : List WData} (h : WData.layableAll ds = true) : ∀ d ∈ ds, d.weight <= 1048576:=fun d hd =>
 (PySem.W.layableW_iff.mp (List.all_eq_true.mp h d hd)).2.2
theorem encAll_len : ∀ (cs : List Codec) (a : Codec.denoteAll cs), (Codec.encAll cs a).length = cs.length
 | [], _ => rfl
 | c :: cs, a => by
  show (Codec.encAll cs a.2).length + 1 = cs.length + 1
  rw [encAll_len cs a.2]
theorem walk_spec {r : OpenSpec} {k : Nat} {q : Program} {loose : List Str} {XP : (Str -> Option Value) -> Heap -> Prop} {YP : World -> Heap -> Prop} {d : DefRec} {K : Params -> PySem.W.Frag} {CX : World -> CXT} {ps : List Str} {sp : World -> Sp}
  (hwell : r.wellSaid = true) (hdf : d.params.defaults = []) (hlen : r.args.length = ps.length) (hr : Room k callerA)
  (hY : ∀ (w : World) (h : Heap), YP w h -> (K w.params).In h)
  (F : ∀ (w : World) (mg : Str -> Option Value) (fa : Addr) (h : Heap), YP w h -> (K w.params).In h -> h.Ns mainGlobals mg -> mg d.name = some (.ref fa) ->
   ∃ fd : FuncData, (∀ (s : Shared) (us : List Value), us.length = ps.length -> BindsTo s fd ⟨us, []⟩ (ps.zip us)) /\
    ∀ base : Heap, (K w.params).In base -> base.Ns mainGlobals mg -> FnOk r.prog w (K w.params) mg base (CX w) k fa fd ps (sp w))
  (hsp : ∀ (w : World) (H : Hp) (xs : List V) (a : Codec.denoteAll r.args), OnlyF H -> Codec.withinAll r.args a = true -> Codec.app r.args r.asked a = true -> DwAll (K w.params) H xs (Codec.encAll r.args a) ->
   sp w xs H (fun v H' => Dw (K w.params) H' v (r.ret.enc (Codec.app r.args r.f a))) fun _ _ _ => False)
  (hCX : ∀ (w : World) (H : Hp) (s : Shared) (e : Value) (s' : Shared), CX w [] H s (fun _ _ _ => False) e s' -> False) :
  PySem.W.WalkOS q loose XP YP r d [] (fun f vs => PySem.call f vs):=by
 intro w s_0 s₁ mg mb G Y fa o pm cd doc dV kV ho hd hcd hD hmg hg args vals as hpre hlay hrd hwl hlo
 obtain ⟨a, e1, e2⟩:=PySem.W.os_pre_some hpre
 obtain ⟨e3, hwi⟩:=Codec.encAll_of_decAll r.args args a e1
 subst e3
 have KX:=hY w _ Y
 obtain ⟨fd, hb, hF⟩:=F w mg fa _ Y KX G.T.g hmg
 refine PySem.W.enter_call (codeAny_mono (spec_call (R:=[]) (cl:=classAt s_0.heap) (d0:=r.ret.enc (Codec.app r.args r.f a)) KX G.T.g G.T.b G.T.builtins G.T.nolimit hg hwl (pl_encAll _ _) (layable_weight hlay) hr hF hb (by rw [encAll_len]; exact hlen)
  (fun H xs hO hS => hsp w H xs a hO hwi e2 hS) fun H e s' => hCX w H s₁ e s') fun r' s' hq => ?_)
 obtain ⟨u, as', rfl, h1, h2, h3, h4⟩:=hq
 exact ⟨.inl ⟨u, _, as', rfl, fun _ => rfl, h1, (OpenSpec.post_iff hwell hwi _ _).mpr rfl, fun z => Bool.noConfusion (show false = true from z)⟩, h2, h3, h4⟩
theorem walk_specK {r : OpenSpec} {k : Nat} {q : Program} {loose : List Str} {XP : (Str -> Option Value) -> Heap -> Prop} {YP : World -> Heap -> Prop} {d : DefRec} {K : Params -> PySem.W.Frag} {CX : CXT} {ps : List Str} {sp : PySem.W.Frag -> Sp}
  (hwell : r.wellSaid = true) (hdf : d.params.defaults = []) (hlen : r.args.length = ps.length) (hr : Room k callerA)
  (hY : ∀ (w : World) (h : Heap), YP w h -> (K w.params).In h)
  (F : ∀ (w : World) (mg : Str -> Option Value) (fa : Addr) (h : Heap), YP w h -> (K w.params).In h -> h.Ns mainGlobals mg -> mg d.name = some (.ref fa) ->
   ∃ fd : FuncData, (∀ (s : Shared) (us : List Value), us.length = ps.length -> BindsTo s fd ⟨us, []⟩ (ps.zip us)) /\
    ∀ base : Heap, (K w.params).In base -> base.Ns mainGlobals mg -> FnOk r.prog w (K w.params) mg base CX k fa fd ps (sp (K w.params)))
  (hsp : ∀ (K : PySem.W.Frag) (H : Hp) (xs : List V) (a : Codec.denoteAll r.args), OnlyF H -> Codec.withinAll r.args a = true -> Codec.app r.args r.asked a = true -> DwAll K H xs (Codec.encAll r.args a) ->
   sp K xs H (fun v H' => Dw K H' v (r.ret.enc (Codec.app r.args r.f a))) fun _ _ _ => False)
  (hCX : ∀ (H : Hp) (s : Shared) (e : Value) (s' : Shared), CX [] H s (fun _ _ _ => False) e s' -> False) :
  PySem.W.WalkOS q loose XP YP r d [] (fun f vs => PySem.call f vs) :=
 walk_spec (K:=K) (CX:=fun _ => CX) (sp:=fun w => sp (K w.params)) hwell hdf hlen hr hY F (fun w H xs a h1 h2 h3 h4 => hsp (K w.params) H xs a h1 h2 h3 h4) fun _ H s e s' => hCX H s e s'
end L2
end
set_option maxHeartbeats 4000000
local macro_rules | `(tactic| omega) => `(tactic| first | lia | omega +splitNatSub)
namespace Fm
def sm : Nat -> (Nat -> Int) -> Int
 | 0, _ => 0
 | n + 1, f => sm n f + f n
theorem sm_congr {f g : Nat -> Int} : ∀ (n : Nat), (∀ i, i < n -> f i = g i) -> sm n f = sm n g
 | 0, _ => rfl
 | n + 1, h => by
  rw [sm, sm, sm_congr n (fun i hi => h i (by omega)), h n (by omega)]
theorem sm_add (f g : Nat -> Int) : ∀ n, sm n (fun i => f i + g i) = sm n f + sm n g
 | 0 => rfl
 | n + 1 => by simp only [sm]; rw [sm_add f g n]; omega
theorem sm_mul (x : Int) (f : Nat -> Int) : ∀ n, sm n (fun i => x * f i) = x * sm n f
 | 0 => by simp [sm]
 | n + 1 => by simp only [sm]; rw [sm_mul x f n, Int.mul_add]
theorem sm_neg (f : Nat -> Int) : ∀ n, sm n (fun i => - f i) = - sm n f
 | 0 => by simp [sm]
 | n + 1 => by simp only [sm]; rw [sm_neg f n]; omega
theorem sm_zero : ∀ (n : Nat) {f : Nat -> Int}, (∀ i, i < n -> f i = 0) -> sm n f = 0
 | 0, _, _ => rfl
 | n + 1, _, h => by rw [sm, sm_zero n (fun i hi => h i (by omega)), h n (by omega)]; rfl
theorem sm_shift (f : Nat -> Int) : ∀ n, sm (n + 1) f = f 0 + sm n (fun i => f (i + 1))
 | 0 => by simp [sm]
 | n + 1 => by rw [sm, sm_shift f n, sm]; omega
theorem sm_list (f : Nat -> Int) : ∀ n, ((List.range n).map f).sum = sm n f
 | 0 => rfl
 | n + 1 => by rw [List.range_succ, List.map_append, List.sum_append, sm_list f n]; simp [sm]
abbrev Mat:=Nat -> Nat -> Int
def sk (j c : Nat) : Nat:=if c < j then c else c + 1
def mn (M : Mat) (j : Nat) : Mat:=fun i c => M (i + 1) (sk j c)
def sg (j : Nat) : Int:=if j % 2 = 0 then 1 else -1
theorem sg_succ (j : Nat) : sg (j + 1) = - sg j:=by
 unfold sg
 rcases Nat.mod_two_eq_zero_or_one j with h | h
 ·rw [if_neg (by omega), if_pos h]
 ·rw [if_pos (by omega), if_neg (by omega)]; rfl
theorem sg_sq (j : Nat) : sg j * sg j = 1:=by unfold sg; split <;> rfl
def dt : Nat -> Mat -> Int
 | 0, _ => 1
 | n + 1, M => sm (n + 1) fun j => sg j * M 0 j * dt n (mn M j)
theorem sk_lt {j c n : Nat} (h : c < n) : sk j c < n + 1:=by unfold sk; split <;> omega
theorem dt_congr : ∀ (n : Nat) {M N : Mat}, (∀ i j, i < n -> j < n -> M i j = N i j) -> dt n M = dt n N
 | 0, _, _, _ => rfl
 | n + 1, M, N, h => by
  rw [dt, dt]
  refine sm_congr _ fun j hj => ?_
  rw [h 0 j (by omega) hj, dt_congr n (M:=mn M j) (N:=mn N j) fun i c hi hc => h _ _ (by omega) (sk_lt hc)]
theorem at_minor (a : Ql78.Rows) (j i c : Nat) : Ql78.at_ (Ql78.minor a j) i c = mn (Ql78.at_ a) j i c:=by
 unfold Ql78.at_ Ql78.minor mn
 simp only [List.getD_eq_getElem?_getD, List.getElem?_map, List.getElem?_drop]
 rw [Nat.add_comm 1 i]
 cases e : a[i + 1]? with
 | none => simp
 | some r =>
  simp only [Option.map_some, Option.getD_some, List.getElem?_append, List.getElem?_take, List.getElem?_drop, List.length_take]
  unfold sk
  by_cases h1 : c < j
  ·by_cases h2 : c < r.length
   ·rw [if_pos (by omega), if_pos h1, if_pos h1]
   ·rw [if_neg (by omega), if_pos h1, List.getElem?_eq_none (by omega), List.getElem?_eq_none (by omega)]
  ·have e3 : (if c < j then c else c + 1) = c + 1:=if_neg h1
   rw [e3]
   by_cases h2 : j <= r.length
   ·rw [if_neg (by omega), show j + 1 + (c - min j r.length) = c + 1 by omega]
   ·by_cases h3 : c < min j r.length
    ·omega
    ·rw [if_neg h3, List.getElem?_eq_none (by omega), List.getElem?_eq_none (by omega)]
theorem det_eq : ∀ (n : Nat) (a : Ql78.Rows), Ql78.det n a = dt n (Ql78.at_ a)
 | 0, _ => rfl
 | n + 1, a => by
  rw [Ql78.det, dt, <- sm_list]
  refine congrArg List.sum (List.map_congr_left fun j _ => ?_)
  rw [det_eq n, dt_congr n fun i c _ _ => at_minor a j i c]
  rfl
def sr (M : Mat) (i : Nat) (r : Nat -> Int) : Mat:=fun k c => if k = i then r c else M k c
theorem sr_same (M : Mat) (i : Nat) (r : Nat -> Int) (c : Nat) : sr M i r i c = r c:=by unfold sr; rw [if_pos rfl]
theorem sr_ne (M : Mat) {i k : Nat} (r : Nat -> Int) (c : Nat) (h : k ≠ i) : sr M i r k c = M k c:=by unfold sr; rw [if_neg h]
theorem sr_self (M : Mat) (i : Nat) : sr M i (M i) = M:=by
 funext k c; unfold sr; split
 ·rename_i h; rw [h]
 ·rfl
theorem mn_sr (M : Mat) (i j : Nat) (r : Nat -> Int) : mn (sr M (i + 1) r) j = sr (mn M j) i (fun c => r (sk j c)):=by
 funext k c; unfold mn sr
 by_cases h : k = i
 ·rw [if_pos h, if_pos (by omega)]
 ·rw [if_neg h, if_neg (by omega)]
theorem mn_sr0 (M : Mat) (j : Nat) (r : Nat -> Int) : mn (sr M 0 r) j = mn M j:=by
 funext k c; unfold mn sr; rw [if_neg (by omega)]
theorem dt_lin : ∀ (n i : Nat) (M : Mat) (x y : Int) (r s : Nat -> Int), i < n ->
  dt n (sr M i fun c => x * r c + y * s c) = x * dt n (sr M i r) + y * dt n (sr M i s)
 | 0, _, _, _, _, _, _, h => absurd h (Nat.not_lt_zero _)
 | n + 1, 0, M, x, y, r, s, _ => by
  simp only [dt, mn_sr0]
  rw [<- sm_mul, <- sm_mul, <- sm_add]
  refine sm_congr _ fun j _ => ?_
  simp only [sr_same]
  grind
 | n + 1, i + 1, M, x, y, r, s, h => by
  simp only [dt, mn_sr]
  rw [<- sm_mul, <- sm_mul, <- sm_add]
  refine sm_congr _ fun j _ => ?_
  rw [sr_ne _ _ _ (by omega), sr_ne _ _ _ (by omega), sr_ne _ _ _ (by omega), dt_lin n i (mn M j) x y _ _ (by omega)]
  grind
theorem sm_cancel (F : Nat -> Nat -> Int) (h : ∀ j l, j <= l -> F (l + 1) j = - F j l) : ∀ n, sm (n + 1) (fun j => sm n (F j)) = 0
 | 0 => by simp [sm]
 | n + 1 => by
  have h1 : sm (n + 1 + 1) (fun j => sm (n + 1) (F j)) = sm (n + 1) (fun j => sm n (F j)) + sm (n + 1) (fun j => F j n) + sm (n + 1) (F (n + 1)):=by
   have e : sm (n + 1) (fun j => sm (n + 1) (F j)) = sm (n + 1) (fun j => sm n (F j)) + sm (n + 1) (fun j => F j n):=by
    rw [<- sm_add]
    rfl
   rw [<- e]
   rfl
  have h2 : sm (n + 1) (F (n + 1)) = - sm (n + 1) (fun j => F j n):=by
   rw [<- sm_neg]
   exact sm_congr _ fun j hj => h j n (by omega)
  rw [h1, sm_cancel F h n, h2]; omega
theorem mn_mn (M : Mat) {j l : Nat} (h : j <= l) : mn (mn M (l + 1)) j = mn (mn M j) l:=by
 funext i c; unfold mn sk
 congr 1
 split <;> split <;> split <;> (try split) <;> omega
theorem dt_top (n : Nat) (M : Mat) (h : ∀ c, M 0 c = M 1 c) : dt (n + 2) M = 0:=by
 have e : dt (n + 2) M = sm (n + 1 + 1) (fun j => sm (n + 1) (fun l => sg j * M 0 j * (sg l * M 1 (sk j l) * dt n (mn (mn M j) l)))):=by
  rw [dt]
  refine sm_congr _ fun j _ => ?_
  rw [dt, <- sm_mul]
  rfl
 rw [e]
 refine sm_cancel _ (fun j l hjl => ?_) (n + 1)
 rw [mn_mn M hjl, sg_succ, <- h, <- h]
 have e1 : sk (l + 1) j = j:=by unfold sk; rw [if_pos (by omega)]
 have e2 : sk j l = l + 1:=by unfold sk; rw [if_neg (by omega)]
 rw [e1, e2]
 grind
theorem dt_adj : ∀ (n i : Nat) (M : Mat), i + 1 < n -> (∀ c, M i c = M (i + 1) c) -> dt n M = 0
 | 0, _, _, h, _ => absurd h (Nat.not_lt_zero _)
 | 1, i, M, h, _ => absurd h (by omega)
 | n + 2, 0, M, _, e => dt_top n M e
 | n + 2, i + 1, M, h, e => by
  rw [dt]
  refine sm_zero _ fun j _ => ?_
  rw [dt_adj (n + 1) i (mn M j) (by omega) (fun c => e (sk j c))]
  exact Int.mul_zero _
def sw (M : Mat) (i k : Nat) : Mat:=sr (sr M i (M k)) k (M i)
theorem dt_swap (n i : Nat) (M : Mat) (h : i + 1 < n) : dt n (sw M i (i + 1)) = - dt n M:=by
 let G : (Nat -> Int) -> (Nat -> Int) -> Mat:=fun r s => sr (sr M i r) (i + 1) s
 have hz : ∀ r : Nat -> Int, dt n (G r r) = 0:=fun r => dt_adj n i _ h fun c => by
  show sr _ _ _ _ _ = sr _ _ _ _ _
  rw [sr_ne _ _ _ (by omega), sr_same, sr_same]
 have comm : ∀ r s : Nat -> Int, G r s = sr (sr M (i + 1) s) i r:=fun r s => by
  funext k c; show sr _ _ _ _ _ = _
  unfold sr
  by_cases h1 : k = i + 1
  ·rw [if_pos h1, if_neg (by omega), if_pos h1]
  ·rw [if_neg h1]
   by_cases h2 : k = i
   ·rw [if_pos h2, if_pos h2]
   ·rw [if_neg h2, if_neg h2, if_neg h1]
 have l2 : ∀ r s t : Nat -> Int, dt n (G r fun c => s c + t c) = dt n (G r s) + dt n (G r t):=fun r s t => by
  have z:=dt_lin n (i + 1) (sr M i r) 1 1 s t h
  simp only [Int.one_mul] at z
  exact z
 have l1 : ∀ r s t : Nat -> Int, dt n (G (fun c => r c + s c) t) = dt n (G r t) + dt n (G s t):=fun r s t => by
  have z:=dt_lin n i (sr M (i + 1) t) 1 1 r s (by omega)
  simp only [Int.one_mul] at z
  rw [comm, comm, comm]
  exact z
 have a1:=hz fun c => M i c + M (i + 1) c
 rw [l2, l1, l1, hz, hz] at a1
 have e0 : G (M i) (M (i + 1)) = M:=by
  show sr _ _ _ = _
  rw [sr_self]
  exact sr_self M (i + 1)
 rw [e0] at a1
 show dt n (G (M (i + 1)) (M i)) = _
 omega
theorem dt_alt : ∀ (d n i : Nat) (M : Mat), i + d + 1 < n -> (∀ c, M i c = M (i + d + 1) c) -> dt n M = 0
 | 0, n, i, M, h, e => dt_adj n i M h e
 | d + 1, n, i, M, h, e => by
  have z:=dt_swap n (i + d + 1) M (by omega)
  rw [dt_alt d n i (sw M (i + d + 1) (i + d + 2)) (by omega) (fun c => by
   unfold sw
   rw [sr_ne _ _ _ (by omega), sr_ne _ _ _ (by omega), sr_ne _ _ _ (by omega), sr_same]
   exact e c)] at z
  omega
theorem dt_op (n i : Nat) (M : Mat) (x y : Int) (h : i + 1 < n) : dt n (sr M (i + 1) fun c => x * M (i + 1) c + y * M 0 c) = x * dt n M:=by
 rw [dt_lin n (i + 1) M x y (M (i + 1)) (M 0) h, sr_self]
 rw [dt_alt i n 0 (sr M (i + 1) (M 0)) (by omega) fun c => by
  rw [sr_ne _ _ _ (by omega), show 0 + i + 1 = i + 1 by omega, sr_same]]
 omega
theorem dt_col0 : ∀ (n : Nat) (M : Mat), (∀ i, i < n + 1 -> M i 0 = 0) -> dt (n + 1) M = 0
 | 0, M, h => by simp [dt, sm, h 0 (by omega)]
 | n + 1, M, h => by
  rw [dt]
  refine sm_zero _ fun j _ => ?_
  cases j with
  | zero => rw [h 0 (by omega)]; simp
  | succ j =>
   rw [dt_col0 n (mn M (j + 1)) fun i hi => by
    show M (i + 1) (sk (j + 1) 0) = 0
    rw [show sk (j + 1) 0 = 0 by unfold sk; rw [if_pos (by omega)]]
    exact h _ (by omega)]
   simp
def el (M : Mat) : Mat:=fun i j => M 0 0 * M (i + 1) (j + 1) - M (i + 1) 0 * M 0 (j + 1)
def part (M : Mat) (t : Nat) : Mat:=fun i c => if 1 <= i /\ i <= t then M 0 0 * M i c - M i 0 * M 0 c else M i c
theorem dt_part (k : Nat) (M : Mat) : ∀ t, t <= k -> dt (k + 1) (part M t) = M 0 0 ^ t * dt (k + 1) M
 | 0, _ => by
  rw [Int.pow_zero, Int.one_mul]
  exact dt_congr _ fun i c _ _ => by unfold part; rw [if_neg (by omega)]
 | t + 1, h => by
  have e : part M (t + 1) = sr (part M t) (t + 1) fun c => M 0 0 * part M t (t + 1) c + (- M (t + 1) 0) * part M t 0 c:=by
   funext i c
   by_cases hi : i = t + 1
   ·subst hi
    rw [sr_same]
    unfold part
    rw [if_pos (by omega), if_neg (by omega), if_neg (by omega)]
    grind
   ·rw [sr_ne _ _ _ hi]
    unfold part
    by_cases h1 : 1 <= i /\ i <= t
    ·rw [if_pos h1, if_pos (by omega)]
    ·rw [if_neg h1, if_neg (by omega)]
  rw [e, dt_op (k + 1) t (part M t) _ _ (by omega), dt_part k M t (by omega), Int.pow_succ]
  grind
theorem chio (k : Nat) (M : Mat) : M 0 0 * dt k (el M) = M 0 0 ^ k * dt (k + 1) M:=by
 rw [<- dt_part k M k (Nat.le_refl k), dt, sm_shift]
 have z : sm k (fun i => sg (i + 1) * part M k 0 (i + 1) * dt k (mn (part M k) (i + 1))) = 0:=by
  refine sm_zero _ fun j hj => ?_
  cases k with
  | zero => omega
  | succ k =>
   rw [dt_col0 k (mn (part M (k + 1)) (j + 1)) fun i hi => by
    show part M (k + 1) (i + 1) (sk (j + 1) 0) = 0
    rw [show sk (j + 1) 0 = 0 by unfold sk; rw [if_pos (by omega)]]
    unfold part
    rw [if_pos (by omega)]
    grind]
   simp
 rw [z, Int.add_zero]
 have e1 : part M k 0 0 = M 0 0:=by unfold part; rw [if_neg (by omega)]
 have e2 : sg 0 = 1:=rfl
 rw [e1, e2, Int.one_mul]
 congr 1
 refine dt_congr _ fun i j hi hj => ?_
 unfold mn part el
 rw [show sk 0 j = j + 1 by unfold sk; rw [if_neg (by omega)], if_pos (by omega)]
def bd (k : Nat) (M : Mat) (i j : Nat) : Mat:=fun r c => M (if r < k then r else k + i) (if c < k then c else k + j)
def bm (k : Nat) (M : Mat) (i j : Nat) : Int:=dt (k + 1) (bd k M i j)
theorem bm_zero (M : Mat) (i j : Nat) : bm 0 M i j = M i j:=by
 simp [bm, dt, sm, bd, sg]
theorem bm_lead (k : Nat) (M : Mat) : bm k M 0 0 = dt (k + 1) M:=dt_congr _ fun r c hr hc => by
 unfold bd
 congr 1 <;> split <;> omega
theorem el_bd (k : Nat) (M : Mat) (i j r c : Nat) : el (bd (k + 1) M i j) r c = bd k (el M) i j r c:=by
 unfold el bd
 simp only [Nat.add_lt_add_iff_right, Nat.zero_lt_succ, if_true]
 have e1 : (if r < k then r + 1 else k + 1 + i) = (if r < k then r else k + i) + 1:=by split <;> omega
 have e2 : (if c < k then c + 1 else k + 1 + j) = (if c < k then c else k + j) + 1:=by split <;> omega
 rw [e1, e2]
theorem bm_el (k : Nat) (M : Mat) (i j : Nat) : M 0 0 * bm k (el M) i j = M 0 0 ^ (k + 1) * bm (k + 1) M i j:=by
 have z:=chio (k + 1) (bd (k + 1) M i j)
 have e : bd (k + 1) M i j 0 0 = M 0 0:=by unfold bd; simp
 rw [e] at z
 have e2 : bm k (el M) i j = dt (k + 1) (el (bd (k + 1) M i j)):=(dt_congr (k + 1) fun r c _ _ => el_bd k M i j r c).symm
 rw [e2]
 exact z
theorem mul_cancel {p x y : Int} (hp : p ≠ 0) (h : p * x = p * y) : x = y:=Int.eq_of_mul_eq_mul_left hp h
theorem dt_el (k : Nat) (M : Mat) (hp : M 0 0 ≠ 0) : dt (k + 1) (el M) = M 0 0 ^ k * dt (k + 2) M:=by
 have z:=chio (k + 1) M
 rw [Int.pow_succ] at z
 exact mul_cancel hp (by grind)
theorem bm_el' (k : Nat) (M : Mat) (i j : Nat) (hp : M 0 0 ≠ 0) : bm k (el M) i j = M 0 0 ^ k * bm (k + 1) M i j:=by
 have z:=bm_el k M i j
 rw [Int.pow_succ] at z
 exact mul_cancel hp (by grind)
theorem pow_ne {p : Int} (hp : p ≠ 0) : ∀ k : Nat, p ^ k ≠ 0
 | 0 => by simp
 | k + 1 => by rw [Int.pow_succ]; exact Int.mul_ne_zero (pow_ne hp k) hp
theorem sylvester : ∀ (k : Nat) (M : Mat) (i j : Nat), (∀ t, t < k + 1 -> dt (t + 1) M ≠ 0) ->
  dt k M * bm (k + 1) M i j = bm k M 0 0 * bm k M (i + 1) (j + 1) - bm k M (i + 1) 0 * bm k M 0 (j + 1)
 | 0, M, i, j, _ => by
  simp only [bm_zero, dt, Int.one_mul]
  simp [bm, dt, sm, bd, sg, mn, sk]
  rw [Nat.add_comm 1 i, Nat.add_comm 1 j]
  grind
 | k + 1, M, i, j, h => by
  have hp : M 0 0 ≠ 0:=by
   have z:=h 0 (by omega)
   simpa [dt, sm, sg] using z
  have ih:=sylvester k (el M) i j fun t ht => by
   rw [dt_el t M hp]
   exact Int.mul_ne_zero (pow_ne hp t) (h (t + 1) (by omega))
  simp only [bm_el' _ M _ _ hp] at ih
  have c1:=chio k M
  have hq:=pow_ne hp k
  rw [Int.pow_succ] at ih
  generalize M 0 0 ^ k = q at *
  generalize M 0 0 = p at *
  have e : p * q * q * (dt (k + 1) M * bm (k + 1 + 1) M i j) = p * q * q * (bm (k + 1) M 0 0 * bm (k + 1) M (i + 1) (j + 1) - bm (k + 1) M (i + 1) 0 * bm (k + 1) M 0 (j + 1)):=by
   generalize dt k (el M) = D at *
   generalize dt (k + 1) M = D1 at *
   generalize bm (k + 1 + 1) M i j = B2 at *
   generalize bm (k + 1) M 0 0 = b1 at *
   generalize bm (k + 1) M (i + 1) (j + 1) = b2 at *
   generalize bm (k + 1) M (i + 1) 0 = b3 at *
   generalize bm (k + 1) M 0 (j + 1) = b4 at *
   grind
  exact mul_cancel (Int.mul_ne_zero (Int.mul_ne_zero hp hq) hq) e
end Fm
namespace Fm
def fct : Nat -> Nat
 | 0 => 1
 | n + 1 => (n + 1) * fct n
theorem sm_bound {f : Nat -> Int} {C : Nat} : ∀ (n : Nat), (∀ i, i < n -> (f i).natAbs <= C) -> (sm n f).natAbs <= n * C
 | 0, _ => by simp [sm]
 | n + 1, h => by
  have h1:=sm_bound (f:=f) (C:=C) n fun i hi => h i (by omega)
  have h2:=h n (by omega)
  rw [sm, Nat.add_mul, Nat.one_mul]
  have:=Int.natAbs_add_le (sm n f) (f n)
  omega
theorem sg_abs (j : Nat) : (sg j).natAbs = 1:=by unfold sg; split <;> rfl
theorem dt_bound (B : Nat) : ∀ (n : Nat) (M : Mat), (∀ i j, i < n -> j < n -> (M i j).natAbs <= B) -> (dt n M).natAbs <= fct n * B ^ n
 | 0, _, _ => by simp [dt, fct]
 | n + 1, M, h => by
  have z : (dt (n + 1) M).natAbs <= (n + 1) * (B * (fct n * B ^ n)):=by
   rw [dt]
   refine sm_bound _ fun j hj => ?_
   rw [Int.natAbs_mul, Int.natAbs_mul, sg_abs, Nat.one_mul]
   exact Nat.mul_le_mul (h 0 j (by omega) hj) (dt_bound B n (mn M j) fun i c hi hc => h _ _ (by omega) (sk_lt hc))
  refine Nat.le_trans z (Nat.le_of_eq ?_)
  rw [fct, Nat.pow_succ]
  grind
theorem fct_mono : ∀ {m n : Nat}, m <= n -> fct m <= fct n:=by
 intro m n h
 induction h with
 | refl => exact Nat.le_refl _
 | step _ ih =>
  refine Nat.le_trans ih ?_
  rw [fct]
  exact Nat.le_mul_of_pos_left _ (by omega)
theorem bm_small {n k i j : Nat} {M : Mat} (hn : n <= 8) (h : ∀ i j, i < n -> j < n -> (M i j).natAbs <= 32) (hi : k + i < n) (hj : k + j < n) : (bm k M i j).natAbs < 2 ^ 56:=by
 have z:=dt_bound 32 (k + 1) (bd k M i j) fun r c hr hc => by
  unfold bd
  refine h _ _ ?_ ?_
  ·split <;> omega
  ·split <;> omega
 have h1 : fct (k + 1) <= fct 8:=fct_mono (by omega)
 have h2 : 32 ^ (k + 1) <= 32 ^ 8:=Nat.pow_le_pow_right (by decide) (by omega)
 have h3 : fct (k + 1) * 32 ^ (k + 1) <= fct 8 * 32 ^ 8:=Nat.mul_le_mul h1 h2
 have h4 : fct 8 * 32 ^ 8 < 2 ^ 56:=by decide
 show (dt (k + 1) (bd k M i j)).natAbs < _
 omega
def gm (n : Nat) (l : List Int) : Mat:=fun i j => l.getD (n * i + j) 0
theorem ix_lt {n i j : Nat} (hi : i < n) (hj : j < n) : n * i + j < n * n:=by
 have h : n * i + n <= n * n:=by
  have:=Nat.mul_le_mul_left n (show i + 1 <= n from hi)
  rw [Nat.mul_add, Nat.mul_one] at this
  exact this
 omega
theorem rows_get (n : Nat) (l : List Int) (i : Nat) (hi : i < n) : (Ql78.rows n l).getD i [] = (l.drop (n * i)).take n:=by
 unfold Ql78.rows
 rw [List.getD_eq_getElem?_getD, List.getElem?_map, List.getElem?_range hi]
 rfl
theorem at_rows {n : Nat} {l : List Int} {i j : Nat} (hi : i < n) (hj : j < n) : Ql78.at_ (Ql78.rows n l) i j = gm n l i j:=by
 unfold Ql78.at_ gm
 rw [rows_get n l i hi]
 simp only [List.getD_eq_getElem?_getD, List.getElem?_take, List.getElem?_drop]
 rw [if_pos hj]
theorem at_cut {a : Ql78.Rows} {k i j : Nat} (hi : i < k) (hj : j < k) : Ql78.at_ ((a.take k).map fun r => r.take k) i j = Ql78.at_ a i j:=by
 unfold Ql78.at_
 simp only [List.getD_eq_getElem?_getD, List.getElem?_map, List.getElem?_take]
 rw [if_pos hi]
 cases e : a[i]? with
 | none => simp
 | some r => simp [List.getElem?_take, hj]
theorem det_cut {n : Nat} {l : List Int} {k : Nat} (hk : k <= n) : Ql78.det k (((Ql78.rows n l).take k).map fun r => r.take k) = dt k (gm n l):=by
 rw [det_eq]
 refine dt_congr _ fun i j hi hj => ?_
 rw [at_cut hi hj, at_rows (by omega) (by omega)]
theorem det_rows (n : Nat) (l : List Int) : Ql78.det n (Ql78.rows n l) = dt n (gm n l):=by
 rw [det_eq]
 exact dt_congr _ fun i j hi hj => at_rows hi hj
theorem positive_iff (n : Nat) (l : List Int) : Ql78.positive n (Ql78.rows n l) = true ↔ ∀ t, t < n -> 0 < dt (t + 1) (gm n l):=by
 unfold Ql78.positive
 rw [List.all_eq_true]
 constructor
 ·intro h t ht
  have:=h t (List.mem_range.mpr ht)
  rw [decide_eq_true_eq, det_cut (by omega)] at this
  exact this
 ·intro h t ht
  rw [decide_eq_true_eq, det_cut (by have:=List.mem_range.mp ht; omega)]
  exact h t (List.mem_range.mp ht)
theorem symmetric_iff (n : Nat) (l : List Int) : Ql78.symmetric n (Ql78.rows n l) = true ↔ ∀ i j, i < n -> j < i -> gm n l i j = gm n l j i:=by
 unfold Ql78.symmetric
 simp only [List.all_eq_true, List.mem_range, beq_iff_eq]
 constructor
 ·intro h i j hi hj
  have:=h i hi j (by omega)
  rw [at_rows hi (by omega), at_rows (by omega) hi] at this
  exact this
 ·intro h i hi j hj
  rw [at_rows hi hj, at_rows hj hi]
  rcases Nat.lt_trichotomy i j with z | z | z
  ·exact (h j i hj z).symm
  ·rw [z]
  ·exact h i j hi z
def small (l : List Int) : Bool:=l.all fun x => decide (x.natAbs <= 32)
theorem form_eq (n : Nat) (l : List Int) : Ql78.form n l = (small l && (Ql78.symmetric n (Ql78.rows n l) && Ql78.positive n (Ql78.rows n l))):=rfl
theorem small_mt {n : Nat} {l : List Int} (h : small l = true) (i j : Nat) : (gm n l i j).natAbs <= 32:=by
 unfold gm
 rw [List.getD_eq_getElem?_getD]
 cases e : l[n * i + j]? with
 | none => simp
 | some x =>
  have:=List.all_eq_true.mp h x (List.mem_of_getElem? e)
  simpa using this
theorem next_num {k : Nat} {M : Mat} {i j : Nat} (h : ∀ t, t < k + 1 -> 0 < dt (t + 1) M) :
  (bm k M 0 0 * bm k M (i + 1) (j + 1) - bm k M (i + 1) 0 * bm k M 0 (j + 1)) / dt k M = bm (k + 1) M i j:=by
 rw [<- sylvester k M i j fun t ht => Int.ne_of_gt (h t ht)]
 refine Int.mul_ediv_cancel_left _ ?_
 cases k with
 | zero => simp [dt]
 | succ k => exact Int.ne_of_gt (h k (by omega))
theorem lead_pos {k : Nat} {M : Mat} (h : ∀ t, t < k -> 0 < dt (t + 1) M) : 0 < dt k M:=by
 cases k with
 | zero => simp [dt]
 | succ k => exact h k (by omega)
end Fm
namespace Fm
theorem lt_or_ge (a b : Int) : a < b \/ b <= a:=by omega
def cy (M : Mat) (i : Nat) : Mat:=fun r c => if r = 0 then M i c else M (sk i (r - 1)) c
theorem cy_zero (M : Mat) : cy M 0 = M:=by
 funext r c
 unfold cy sk
 by_cases h : r = 0
 ·rw [if_pos h, h]
 ·rw [if_neg h, if_neg (by omega)]
  congr 1
  omega
theorem cy_succ (M : Mat) (i : Nat) : cy M (i + 1) = cy (sw M i (i + 1)) i:=by
 funext r c
 unfold cy sw sr sk
 by_cases h : r = 0
 ·rw [if_pos h, if_pos h, if_neg (by omega), if_pos rfl]
 ·rw [if_neg h, if_neg h]
  by_cases h1 : r - 1 < i
  ·rw [if_pos (by omega), if_pos h1, if_neg (by omega), if_neg (by omega)]
  ·rw [if_neg h1]
   by_cases h2 : r - 1 = i
   ·rw [if_pos (by omega), if_pos (by omega), h2]
   ·rw [if_neg (by omega), if_neg (by omega), if_neg (by omega)]
theorem dt_cy (n : Nat) : ∀ (i : Nat) (M : Mat), i < n -> dt n (cy M i) = sg i * dt n M
 | 0, M, _ => by rw [cy_zero, show sg 0 = 1 from rfl, Int.one_mul]
 | i + 1, M, h => by
  rw [cy_succ, dt_cy n i _ (by omega), dt_swap n i M h, sg_succ]
  grind
def mij (M : Mat) (i j : Nat) : Mat:=fun r c => M (sk i r) (sk j c)
theorem mn_cy (M : Mat) (i j : Nat) : mn (cy M i) j = mij M i j:=by
 funext r c
 unfold mn cy mij
 rw [if_neg (by omega)]
 rfl
def co (n : Nat) (M : Mat) (i : Nat) : Nat -> Int:=fun j => sg i * sg j * dt n (mij M i j)
theorem laplace (n : Nat) (M : Mat) (i : Nat) (h : i < n + 1) : sm (n + 1) (fun j => M i j * co n M i j) = dt (n + 1) M:=by
 have z:=dt_cy (n + 1) i M h
 rw [dt] at z
 have e : sm (n + 1) (fun j => M i j * co n M i j) = sg i * sm (n + 1) (fun j => sg j * cy M i 0 j * dt n (mn (cy M i) j)):=by
  rw [<- sm_mul]
  refine sm_congr _ fun j _ => ?_
  rw [mn_cy]
  show M i j * (sg i * sg j * dt n (mij M i j)) = sg i * (sg j * M i j * dt n (mij M i j))
  grind
 rw [e, z, <- Int.mul_assoc, sg_sq, Int.one_mul]
theorem mij_sr (M : Mat) (i j : Nat) (r : Nat -> Int) : mij (sr M i r) i j = mij M i j:=by
 funext a c
 unfold mij sr sk
 rw [if_neg]
 split <;> omega
theorem laplace0 (n : Nat) (M : Mat) (i k : Nat) (hi : i < n + 1) (hk : k < n + 1) (h : k ≠ i) : sm (n + 1) (fun j => M k j * co n M i j) = 0:=by
 have z:=laplace n (sr M i (M k)) i hi
 have e : dt (n + 1) (sr M i (M k)) = 0:=by
  rcases Nat.lt_or_gt_of_ne h with h | h
  ·obtain ⟨d, rfl⟩ : ∃ d, i = k + d + 1:=⟨i - k - 1, by omega⟩
   refine dt_alt d (n + 1) k _ (by omega) fun c => ?_
   rw [sr_ne _ _ _ (by omega), sr_same]
  ·obtain ⟨d, rfl⟩ : ∃ d, k = i + d + 1:=⟨k - i - 1, by omega⟩
   refine dt_alt d (n + 1) i _ (by omega) fun c => ?_
   rw [sr_same, sr_ne _ _ _ (by omega)]
 rw [e] at z
 rw [<- z]
 refine sm_congr _ fun j _ => ?_
 rw [sr_same]
 unfold co
 rw [mij_sr]
def pr (n : Nat) (M : Mat) (x y : Nat -> Int) : Int:=sm n fun i => x i * sm n fun j => M i j * y j
theorem pr_congr {n : Nat} {M N : Mat} {x y x' y' : Nat -> Int} (hM : ∀ i j, i < n -> j < n -> M i j = N i j) (hx : ∀ i, i < n -> x i = x' i) (hy : ∀ i, i < n -> y i = y' i) : pr n M x y = pr n N x' y':=by
 unfold pr
 refine sm_congr _ fun i hi => ?_
 rw [hx i hi, sm_congr n (f:=fun j => M i j * y j) (g:=fun j => N i j * y' j) fun j hj => by rw [hM i j hi hj, hy j hj]]
theorem pr_lin_l (n : Nat) (M : Mat) (a b : Int) (x x' y : Nat -> Int) : pr n M (fun i => a * x i + b * x' i) y = a * pr n M x y + b * pr n M x' y:=by
 unfold pr
 rw [<- sm_mul, <- sm_mul, <- sm_add]
 refine sm_congr _ fun i _ => ?_
 grind
theorem pr_lin_r (n : Nat) (M : Mat) (a b : Int) (x y y' : Nat -> Int) : pr n M x (fun i => a * y i + b * y' i) = a * pr n M x y + b * pr n M x y':=by
 unfold pr
 rw [<- sm_mul, <- sm_mul, <- sm_add]
 refine sm_congr _ fun i _ => ?_
 have e : sm n (fun j => M i j * (a * y j + b * y' j)) = a * sm n (fun j => M i j * y j) + b * sm n (fun j => M i j * y' j):=by
  rw [<- sm_mul, <- sm_mul, <- sm_add]
  refine sm_congr _ fun j _ => ?_
  grind
 rw [e]
 grind
theorem sm_swap (f : Nat -> Nat -> Int) (m : Nat) : ∀ n, sm n (fun i => sm m fun j => f i j) = sm m (fun j => sm n fun i => f i j)
 | 0 => by
  have : sm m (fun j => sm 0 fun i => f i j) = 0:=sm_zero m fun _ _ => rfl
  rw [this]
  rfl
 | n + 1 => by
  rw [sm, sm_swap f m n, <- sm_add]
  rfl
def Symm (n : Nat) (M : Mat) : Prop:=∀ i j, i < n -> j < n -> M i j = M j i
theorem pr_symm {n : Nat} {M : Mat} (h : Symm n M) (x y : Nat -> Int) : pr n M x y = pr n M y x:=by
 have e1 : ∀ (x y : Nat -> Int), pr n M x y = sm n (fun i => sm n fun j => x i * (M i j * y j)):=fun x y => by
  unfold pr
  exact sm_congr _ fun i _ => (sm_mul _ _ _).symm
 rw [e1, e1, sm_swap]
 refine sm_congr _ fun j hj => sm_congr _ fun i hi => ?_
 rw [h i j hi hj]
 grind
theorem pr_el (n : Nat) (M : Mat) (h : Symm (n + 1) M) (x : Nat -> Int) :
  M 0 0 * pr (n + 1) M x x = sm (n + 1) (fun j => M 0 j * x j) * sm (n + 1) (fun j => M 0 j * x j) + pr n (el M) (fun i => x (i + 1)) (fun i => x (i + 1)):=by
 let S:=sm n (fun j => M 0 (j + 1) * x (j + 1))
 have e1 : sm (n + 1) (fun j => M 0 j * x j) = M 0 0 * x 0 + S:=sm_shift _ _
 have e2 : pr (n + 1) M x x = x 0 * (M 0 0 * x 0 + S) + sm n (fun i => x (i + 1) * (M (i + 1) 0 * x 0 + sm n (fun j => M (i + 1) (j + 1) * x (j + 1)))):=by
  unfold pr
  rw [sm_shift, e1]
  congr 1
  exact sm_congr _ fun i _ => by rw [sm_shift]
 have e3 : sm n (fun i => x (i + 1) * (M (i + 1) 0 * x 0 + sm n (fun j => M (i + 1) (j + 1) * x (j + 1)))) = x 0 * S + sm n (fun i => x (i + 1) * sm n (fun j => M (i + 1) (j + 1) * x (j + 1))):=by
  rw [<- sm_mul, <- sm_add]
  refine sm_congr _ fun i hi => ?_
  rw [h (i + 1) 0 (by omega) (by omega)]
  grind
 have e4 : pr n (el M) (fun i => x (i + 1)) (fun i => x (i + 1)) = M 0 0 * sm n (fun i => x (i + 1) * sm n (fun j => M (i + 1) (j + 1) * x (j + 1))) - S * S:=by
  have f1 : ∀ i, i < n -> sm n (fun j => el M i j * x (j + 1)) = M 0 0 * sm n (fun j => M (i + 1) (j + 1) * x (j + 1)) + (- M 0 (i + 1)) * S:=fun i hi => by
   rw [<- sm_mul, <- sm_mul, <- sm_add]
   refine sm_congr _ fun j _ => ?_
   unfold el
   rw [h (i + 1) 0 (by omega) (by omega)]
   grind
  unfold pr
  have f2 : sm n (fun i => x (i + 1) * sm n (fun j => el M i j * x (j + 1))) = M 0 0 * sm n (fun i => x (i + 1) * sm n (fun j => M (i + 1) (j + 1) * x (j + 1))) + (-S) * S:=by
   have f3 : (-S) * S = (-S) * sm n (fun j => M 0 (j + 1) * x (j + 1)):=rfl
   rw [f3, <- sm_mul, <- sm_mul, <- sm_add]
   refine sm_congr _ fun i hi => ?_
   rw [f1 i hi]
   grind
  rw [f2]
  grind
 rw [e2, e3, e1, e4]
 grind
def Lead (n : Nat) (M : Mat) : Prop:=∀ t, t < n -> 0 < dt (t + 1) M
theorem Lead.corner {n : Nat} {M : Mat} (h : Lead (n + 1) M) : 0 < M 0 0:=by
 have z:=h 0 (by omega)
 simpa [dt, sm, sg] using z
theorem pow_pos {p : Int} (hp : 0 < p) : ∀ k : Nat, 0 < p ^ k
 | 0 => by simp
 | k + 1 => by rw [Int.pow_succ]; exact Int.mul_pos (pow_pos hp k) hp
theorem Lead.el {n : Nat} {M : Mat} (h : Lead (n + 1) M) : Lead n (el M):=fun t ht => by
 have hp:=h.corner
 rw [dt_el t M (Int.ne_of_gt hp)]
 exact Int.mul_pos (pow_pos hp t) (h (t + 1) (by omega))
theorem Symm.el {n : Nat} {M : Mat} (h : Symm (n + 1) M) : Symm n (el M):=fun i j hi hj => by
 unfold Fm.el
 rw [h (i + 1) (j + 1) (by omega) (by omega), h (i + 1) 0 (by omega) (by omega), h (j + 1) 0 (by omega) (by omega)]
 grind
theorem sq_nn (z : Int) : 0 <= z * z:=by
 rcases Int.le_total 0 z with h | h
 ·exact Int.mul_nonneg h h
 ·have:=Int.mul_nonneg (show 0 <= -z by omega) (show 0 <= -z by omega)
  rwa [Int.neg_mul_neg] at this
theorem sq_zero {z : Int} (h : z * z <= 0) : z = 0:=by
 have:=sq_nn z
 have e : z * z = 0:=by omega
 rcases Int.mul_eq_zero.mp e with h | h <;> exact h
theorem pr_pos : ∀ (n : Nat) (M : Mat), Symm n M -> Lead n M -> ∀ x : Nat -> Int, 0 <= pr n M x x /\ (pr n M x x <= 0 -> ∀ i, i < n -> x i = 0)
 | 0, _, _, _, _ => ⟨Int.le_refl 0, fun _ i hi => by omega⟩
 | n + 1, M, hs, hl, x => by
  have hp:=hl.corner
  obtain ⟨i1, i2⟩:=pr_pos n (el M) hs.el hl.el fun i => x (i + 1)
  have e:=pr_el n M hs x
  have q:=sq_nn (sm (n + 1) fun j => M 0 j * x j)
  constructor
  ·have h0 : 0 <= M 0 0 * pr (n + 1) M x x:=by omega
   rcases lt_or_ge (pr (n + 1) M x x) 0 with h | h
   ·have:=Int.mul_neg_of_pos_of_neg hp h
    omega
   ·exact h
  ·intro h
   have h0 : M 0 0 * pr (n + 1) M x x <= 0:=Int.mul_nonpos_of_nonneg_of_nonpos (by omega) h
   have z1 : pr n (el M) (fun i => x (i + 1)) (fun i => x (i + 1)) <= 0:=by omega
   have z2:=i2 z1
   have z3 : sm (n + 1) (fun j => M 0 j * x j) = 0:=sq_zero (by omega)
   rw [sm_shift, sm_zero n (f:=fun j => M 0 (j + 1) * x (j + 1)) (fun j hj => by rw [z2 j hj, Int.mul_zero]), Int.add_zero] at z3
   have z4 : x 0 = 0:=by
    rcases Int.mul_eq_zero.mp z3 with h | h
    ·omega
    ·exact h
   intro i hi
   cases i with
   | zero => exact z4
   | succ i => exact z2 i (by omega)
theorem sm_single (n i : Nat) (f : Nat -> Int) (hi : i < n) (h : ∀ k, k < n -> k ≠ i -> f k = 0) : sm n f = f i:=by
 induction n with
 | zero => omega
 | succ n ih =>
  rw [sm]
  by_cases e : i = n
  ·subst e
   rw [sm_zero i fun k hk => h k (by omega) (by omega), Int.zero_add]
  ·rw [ih (by omega) fun k hk hne => h k (by omega) hne, h n (by omega) (by omega), Int.add_zero]
theorem unknown_le (n : Nat) (M : Mat) (hs : Symm (n + 1) M) (hl : Lead (n + 1) M) (x : Nat -> Int) (i : Nat) (hi : i < n + 1) :
  0 < dt n (mij M i i) /\ dt (n + 1) M * (x i * x i) <= pr (n + 1) M x x * dt n (mij M i i):=by
 have hD : 0 < dt (n + 1) M:=hl n (by omega)
 have row : ∀ k, k < n + 1 -> sm (n + 1) (fun j => M k j * co n M i j) = if k = i then dt (n + 1) M else 0:=fun k hk => by
  by_cases e : k = i
  ·rw [if_pos e, e]; exact laplace n M i hi
  ·rw [if_neg e]; exact laplace0 n M i k hi hk e
 have pxy : ∀ z : Nat -> Int, pr (n + 1) M z (co n M i) = z i * dt (n + 1) M:=fun z => by
  unfold pr
  rw [sm_single (n + 1) i _ hi fun k hk hne => by rw [row k hk, if_neg hne, Int.mul_zero], row i hi, if_pos rfl]
 have yi : co n M i i = dt n (mij M i i):=by
  unfold co
  rw [sg_sq, Int.one_mul]
 have ypos : 0 < co n M i i:=by
  have q:=pr_pos (n + 1) M hs hl (co n M i)
  rw [pxy] at q
  rcases lt_or_ge 0 (co n M i i) with h | h
  ·exact h
  ·exfalso
   have h0 : co n M i i * dt (n + 1) M <= 0:=Int.mul_nonpos_of_nonpos_of_nonneg h (by omega)
   have h1:=q.2 h0
   have h2:=row i hi
   rw [if_pos rfl, sm_zero _ fun j hj => by rw [h1 j hj, Int.mul_zero]] at h2
   omega
 refine ⟨by rw [<- yi]; exact ypos, ?_⟩
 have q:=(pr_pos (n + 1) M hs hl fun k => co n M i i * x k + (- x i) * co n M i k).1
 rw [pr_lin_l, pr_lin_r, pr_lin_r, pxy, pxy, pr_symm hs (co n M i) x, pxy] at q
 rw [<- yi]
 generalize co n M i i = y at *
 generalize pr (n + 1) M x x = v at *
 generalize dt (n + 1) M = D at *
 generalize x i = u at *
 have e : y * (y * v + -u * (u * D)) + -u * (y * (u * D) + -u * (y * D)) = y * (v * y - D * (u * u)):=by grind
 rw [e] at q
 rcases lt_or_ge (v * y - D * (u * u)) 0 with h | h
 ·have:=Int.mul_neg_of_pos_of_neg ypos h
  omega
 ·omega
end Fm
namespace Fm
open Ql78 (dot times pair value at_ rows form bound boxes upTo ways before firstWay diagonal least truant)
def xv (x : List Int) : Nat -> Int:=fun i => x.getD i 0
theorem dot_cons (a b : Int) (x y : List Int) : dot (a :: x) (b :: y) = a * b + dot x y:=by
 unfold Ql78.dot
 simp
theorem dot_nil_l (y : List Int) : dot [] y = 0:=by unfold Ql78.dot; simp
theorem dot_nil_r (x : List Int) : dot x [] = 0:=by unfold Ql78.dot; simp
theorem dot_sm : ∀ (k : Nat) (x y : List Int), min x.length y.length <= k -> dot x y = sm k fun i => xv x i * xv y i
 | k, [], y, _ => by rw [dot_nil_l, sm_zero k fun i _ => by simp [xv]]
 | k, x, [], _ => by rw [dot_nil_r, sm_zero k fun i _ => by simp [xv]]
 | 0, a :: x, b :: y, h => by simp at h
 | k + 1, a :: x, b :: y, h => by
  rw [dot_cons, sm_shift, dot_sm k x y (by simp at h; omega)]
  rfl
theorem times_get (a : Ql78.Rows) (y : List Int) (i : Nat) : xv (times a y) i = dot (a.getD i []) y:=by
 unfold xv Ql78.times
 simp only [List.getD_eq_getElem?_getD, List.getElem?_map]
 cases a[i]? with
 | none => simp [dot_nil_l]
 | some r => rfl
theorem pair_pr (n : Nat) (a : Ql78.Rows) (x y : List Int) (hx : x.length <= n) (hy : y.length <= n) : pair a x y = pr n (at_ a) (xv x) (xv y):=by
 unfold Ql78.pair
 rw [dot_sm n x (times a y) (by omega)]
 unfold pr
 refine sm_congr _ fun i _ => ?_
 rw [times_get, dot_sm n _ y (by omega)]
 rfl
theorem pair_rows {n : Nat} {l x y : List Int} (hx : x.length = n) (hy : y.length = n) : pair (rows n l) x y = pr n (gm n l) (xv x) (xv y):=by
 rw [pair_pr n _ x y (by omega) (by omega)]
 exact pr_congr (fun i j hi hj => at_rows hi hj) (fun _ _ => rfl) (fun _ _ => rfl)
theorem value_rows {n : Nat} {l x : List Int} (hx : x.length = n) : value (rows n l) x = pr n (gm n l) (xv x) (xv x):=pair_rows hx hx
theorem form_symm {n : Nat} {l : List Int} (h : form n l = true) : Symm n (gm n l):=fun i j hi hj => by
 rw [form_eq, Bool.and_eq_true, Bool.and_eq_true] at h
 have z:=(symmetric_iff n l).mp h.2.1
 rcases Nat.lt_trichotomy i j with q | q | q
 ·exact (z j i hj q).symm
 ·rw [q]
 ·exact z i j hi q
theorem form_lead {n : Nat} {l : List Int} (h : form n l = true) : Lead n (gm n l):=by
 rw [form_eq, Bool.and_eq_true, Bool.and_eq_true] at h
 exact (positive_iff n l).mp h.2.2
theorem form_small {n : Nat} {l : List Int} (h : form n l = true) : small l = true:=by
 rw [form_eq, Bool.and_eq_true] at h
 exact h.1
theorem cut_get {α : Type} (d : α) (r : List α) (j c : Nat) : (r.take j ++ r.drop (j + 1)).getD c d = r.getD (sk j c) d:=by
 simp only [List.getD_eq_getElem?_getD, List.getElem?_append, List.getElem?_take, List.getElem?_drop, List.length_take]
 unfold sk
 by_cases h1 : c < j
 ·by_cases h2 : c < r.length
  ·rw [if_pos (by omega), if_pos h1, if_pos h1]
  ·rw [if_neg (by omega), if_pos h1, List.getElem?_eq_none (by omega), List.getElem?_eq_none (by omega)]
 ·have e3 : (if c < j then c else c + 1) = c + 1:=if_neg h1
  rw [e3]
  by_cases h2 : j <= r.length
  ·rw [if_neg (by omega), show j + 1 + (c - min j r.length) = c + 1 by omega]
  ·by_cases h3 : c < min j r.length
   ·omega
   ·rw [if_neg h3, List.getElem?_eq_none (by omega), List.getElem?_eq_none (by omega)]
theorem at_rest (a : Ql78.Rows) (i r c : Nat) : at_ ((a.take i ++ a.drop (i + 1)).map fun r => r.take i ++ r.drop (i + 1)) r c = mij (at_ a) i i r c:=by
 unfold Ql78.at_ mij
 have e : ((a.take i ++ a.drop (i + 1)).map fun r => r.take i ++ r.drop (i + 1)).getD r [] = (fun r : List Int => r.take i ++ r.drop (i + 1)) ((a.take i ++ a.drop (i + 1)).getD r []):=by
  simp only [List.getD_eq_getElem?_getD, List.getElem?_map]
  cases (a.take i ++ a.drop (i + 1))[r]? with
  | none => simp
  | some q => rfl
 rw [e, cut_get, cut_get]
theorem sq_lt {u : Int} {k : Nat} (h : u * u < (((k + 1) * (k + 1) : Nat) : Int)) : u.natAbs <= k:=by
 rcases Nat.lt_or_ge k u.natAbs with z | z
 ·exfalso
  have h1 : (k + 1) * (k + 1) <= u.natAbs * u.natAbs:=Nat.mul_le_mul z z
  have h2 : ((u.natAbs * u.natAbs : Nat) : Int) = u * u:=Int.natAbs_mul_self
  omega
 ·exact z
theorem root_ge {top : Nat} {u : Int} (h : u * u <= (top : Int)) : u.natAbs <= ((List.range (top + 2)).find? fun (k : Nat) => decide (top < (k + 1) * (k + 1))).getD 0:=by
 cases e : (List.range (top + 2)).find? fun (k : Nat) => decide (top < (k + 1) * (k + 1)) with
 | none =>
  exfalso
  have z:=List.find?_eq_none.mp e top (List.mem_range.mpr (by omega))
  have : top < (top + 1) * (top + 1):=by
   have:=Nat.le_mul_of_pos_right (top + 1) (show 0 < top + 1 by omega)
   omega
  exact z (decide_eq_true this)
 | some k =>
  have z:=List.find?_some e
  have z : top < (k + 1) * (k + 1):=of_decide_eq_true z
  refine sq_lt (k:=k) ?_
  show u * u < (((k + 1) * (k + 1) : Nat) : Int)
  omega
theorem bound_ge {n : Nat} {l x : List Int} {m : Int} {i : Nat} (h : form n l = true) (hx : x.length = n) (hv : value (rows n l) x <= m) (hi : i < n) : (x.getD i 0).natAbs <= bound n (rows n l) m i:=by
 obtain ⟨k, rfl⟩ : ∃ k, n = k + 1:=⟨n - 1, by omega⟩
 obtain ⟨hy, hb⟩:=unknown_le k (gm (k + 1) l) (form_symm h) (form_lead h) (xv x) i hi
 have hD : 0 < dt (k + 1) (gm (k + 1) l):=form_lead h k (by omega)
 rw [value_rows hx] at hv
 unfold Ql78.bound
 have e1 : Ql78.det (k + 1 - 1) (((rows (k + 1) l).take i ++ (rows (k + 1) l).drop (i + 1)).map fun r => r.take i ++ r.drop (i + 1)) = dt k (mij (gm (k + 1) l) i i):=by
  rw [det_eq]
  refine dt_congr _ fun r c hr hc => ?_
  rw [at_rest]
  exact at_rows (sk_lt hr) (sk_lt hc)
 simp only []
 rw [e1, det_rows]
 refine root_ge ?_
 show xv x i * xv x i <= _
 generalize dt k (mij (gm (k + 1) l) i i) = y at *
 generalize dt (k + 1) (gm (k + 1) l) = D at *
 generalize xv x i = u at *
 generalize pr (k + 1) (gm (k + 1) l) (xv x) (xv x) = v at *
 have h1 : v * y <= m * y:=Int.mul_le_mul_of_nonneg_right hv (by omega)
 have h2 : u * u <= m * y / D:=by
  rw [Int.le_ediv_iff_mul_le hD, Int.mul_comm]
  omega
 have h3:=sq_nn u
 omega
theorem mem_boxes : ∀ (ks : List Nat) (x : List Int), x ∈ boxes ks ↔ x.length = ks.length /\ ∀ i, i < ks.length -> (x.getD i 0).natAbs <= ks.getD i 0
 | [], x => by
  unfold Ql78.boxes
  constructor
  ·intro h
   have : x = []:=by simpa using h
   subst this
   exact ⟨rfl, fun i hi => by simp at hi⟩
  ·rintro ⟨h, _⟩
   have : x = []:=List.eq_nil_of_length_eq_zero h
   simp [this]
 | k :: l, x => by
  unfold Ql78.boxes
  rw [List.mem_flatMap]
  constructor
  ·rintro ⟨b, hb, h⟩
   obtain ⟨v, hv, rfl⟩:=List.mem_map.mp h
   obtain ⟨h1, h2⟩:=(mem_boxes l v).mp hv
   have hb:=List.mem_range.mp hb
   refine ⟨by simp [h1], fun i hi => ?_⟩
   cases i with
   | zero =>
    show ((b : Int) - (k : Int)).natAbs <= k
    omega
   | succ i => exact h2 i (by simpa using hi)
  ·rintro ⟨h1, h2⟩
   cases x with
   | nil => simp at h1
   | cons u v =>
    have h0 : u.natAbs <= k:=h2 0 (by simp)
    refine ⟨(u + k).toNat, List.mem_range.mpr (by omega), List.mem_map.mpr ⟨v, (mem_boxes l v).mpr ⟨by simpa using h1, fun i hi => h2 (i + 1) (by simpa using hi)⟩, ?_⟩⟩
    congr 1
    omega
theorem before_irr : ∀ x : List Int, before x x = false
 | [] => rfl
 | a :: r => by
  unfold Ql78.before
  rw [before_irr r]
  simp
theorem boxes_sorted : ∀ ks : List Nat, (boxes ks).Pairwise fun x y => before x y = true
 | [] => by unfold Ql78.boxes; simp
 | k :: l => by
  unfold Ql78.boxes
  rw [List.pairwise_flatMap]
  constructor
  ·intro b _
   rw [List.pairwise_map]
   refine List.Pairwise.imp ?_ (boxes_sorted l)
   intro x y h
   unfold Ql78.before
   simp [h]
  ·refine List.Pairwise.imp ?_ List.pairwise_lt_range
   intro b c h x hx y hy
   obtain ⟨v, _, rfl⟩:=List.mem_map.mp hx
   obtain ⟨w, _, rfl⟩:=List.mem_map.mp hy
   unfold Ql78.before
   have : (b : Int) - (k : Int) < (c : Int) - (k : Int):=by omega
   simp [this]
theorem nodup_of_sorted {l : List (List Int)} (h : l.Pairwise fun x y => before x y = true) : l.Nodup:=by
 refine List.Pairwise.imp ?_ h
 intro x y hxy e
 rw [e, before_irr] at hxy
 cases hxy
theorem mem_upTo {n : Nat} {l : List Int} {m : Int} {x : List Int} (h : form n l = true) : x ∈ upTo n (rows n l) m ↔ x.length = n /\ value (rows n l) x <= m:=by
 unfold Ql78.upTo
 rw [List.mem_filter, decide_eq_true_eq, mem_boxes]
 constructor
 ·rintro ⟨⟨h1, _⟩, h2⟩
  exact ⟨by simpa using h1, h2⟩
 ·rintro ⟨h1, h2⟩
  refine ⟨⟨by simpa using h1, fun i hi => ?_⟩, h2⟩
  have hi : i < n:=by simpa using hi
  rw [List.getD_eq_getElem?_getD (l:=(List.range n).map _), List.getElem?_map, List.getElem?_range hi]
  exact bound_ge h h1 h2 hi
theorem mem_ways {n : Nat} {l : List Int} {m : Int} {x : List Int} (h : form n l = true) : x ∈ ways n (rows n l) m ↔ x.length = n /\ value (rows n l) x = m:=by
 unfold Ql78.ways
 rw [List.mem_filter, mem_upTo h, beq_iff_eq]
 constructor
 ·rintro ⟨⟨h1, _⟩, h2⟩
  exact ⟨h1, h2⟩
 ·rintro ⟨h1, h2⟩
  exact ⟨⟨h1, by omega⟩, h2⟩
theorem upTo_sorted (n : Nat) (a : Ql78.Rows) (m : Int) : (upTo n a m).Pairwise fun x y => before x y = true:=(boxes_sorted _).filter _
theorem ways_sorted (n : Nat) (a : Ql78.Rows) (m : Int) : (ways n a m).Pairwise fun x y => before x y = true:=(upTo_sorted n a m).filter _
theorem ways_nodup (n : Nat) (a : Ql78.Rows) (m : Int) : (ways n a m).Nodup:=nodup_of_sorted (ways_sorted n a m)
theorem before_asymm : ∀ x y : List Int, before x y = true -> before y x = false
 | [], _, h => by unfold Ql78.before at h; cases h
 | a :: r, [], h => by unfold Ql78.before at h; cases h
 | a :: r, b :: s, h => by
  unfold Ql78.before at h ⊢
  rw [Bool.or_eq_true, Bool.and_eq_true, decide_eq_true_eq, beq_iff_eq] at h
  rcases h with h | ⟨h1, h2⟩
  ·have e1 : ¬ b < a:=by omega
   have e2 : ¬ b = a:=by omega
   simp [e1, e2]
  ·have:=before_asymm r s h2
   have e1 : ¬ b < a:=by omega
   simp [e1, this]
end Fm
namespace Fm
structure Alt (n : Nat) (f : Mat -> Int) : Prop where
 congr : ∀ M N : Mat, (∀ i j, i < n -> j < n -> M i j = N i j) -> f M = f N
 lin : ∀ (M : Mat) (i : Nat) (x y : Int) (r s : Nat -> Int), i < n -> f (sr M i fun c => x * r c + y * s c) = x * f (sr M i r) + y * f (sr M i s)
 adj : ∀ (M : Mat) (i : Nat), i + 1 < n -> (∀ c, M i c = M (i + 1) c) -> f M = 0
theorem alt_dt (n : Nat) : Alt n (dt n):=⟨fun _ _ h => dt_congr n h, fun M i x y r s h => dt_lin n i M x y r s h, fun M i h e => dt_adj n i M h e⟩
section
variable {n : Nat} {f : Mat -> Int}
theorem Alt.zero (A : Alt n f) (M : Mat) (i : Nat) (h : i < n) : f (sr M i fun _ => 0) = 0:=by
 have z:=A.lin M i 0 0 (fun _ => 0) (fun _ => 0) h
 simpa using z
theorem Alt.swap (A : Alt n f) (i : Nat) (M : Mat) (h : i + 1 < n) : f (sw M i (i + 1)) = - f M:=by
 let G : (Nat -> Int) -> (Nat -> Int) -> Mat:=fun r s => sr (sr M i r) (i + 1) s
 have hz : ∀ r : Nat -> Int, f (G r r) = 0:=fun r => A.adj _ i h fun c => by
  show sr _ _ _ _ _ = sr _ _ _ _ _
  rw [sr_ne _ _ _ (by omega), sr_same, sr_same]
 have comm : ∀ r s : Nat -> Int, G r s = sr (sr M (i + 1) s) i r:=fun r s => by
  funext k c; show sr _ _ _ _ _ = _
  unfold sr
  by_cases h1 : k = i + 1
  ·rw [if_pos h1, if_neg (by omega), if_pos h1]
  ·rw [if_neg h1]
   by_cases h2 : k = i
   ·rw [if_pos h2, if_pos h2]
   ·rw [if_neg h2, if_neg h2, if_neg h1]
 have l2 : ∀ r s t : Nat -> Int, f (G r fun c => s c + t c) = f (G r s) + f (G r t):=fun r s t => by
  have z:=A.lin (sr M i r) (i + 1) 1 1 s t h
  simp only [Int.one_mul] at z
  exact z
 have l1 : ∀ r s t : Nat -> Int, f (G (fun c => r c + s c) t) = f (G r t) + f (G s t):=fun r s t => by
  have z:=A.lin (sr M (i + 1) t) i 1 1 r s (by omega)
  simp only [Int.one_mul] at z
  rw [comm, comm, comm]
  exact z
 have a1:=hz fun c => M i c + M (i + 1) c
 rw [l2, l1, l1, hz, hz] at a1
 have e0 : G (M i) (M (i + 1)) = M:=by
  show sr _ _ _ = _
  rw [sr_self]
  exact sr_self M (i + 1)
 rw [e0] at a1
 show f (G (M (i + 1)) (M i)) = _
 omega
theorem Alt.alt (A : Alt n f) : ∀ (d i : Nat) (M : Mat), i + d + 1 < n -> (∀ c, M i c = M (i + d + 1) c) -> f M = 0
 | 0, i, M, h, e => A.adj M i h e
 | d + 1, i, M, h, e => by
  have z:=A.swap (i + d + 1) M (by omega)
  rw [A.alt d i (sw M (i + d + 1) (i + d + 2)) (by omega) (fun c => by
   unfold sw
   rw [sr_ne _ _ _ (by omega), sr_ne _ _ _ (by omega), sr_ne _ _ _ (by omega), sr_same]
   exact e c)] at z
  omega
theorem Alt.cy (A : Alt n f) : ∀ (i : Nat) (M : Mat), i < n -> f (cy M i) = sg i * f M
 | 0, M, _ => by rw [cy_zero, show sg 0 = 1 from rfl, Int.one_mul]
 | i + 1, M, h => by
  rw [cy_succ, A.cy i _ (by omega), A.swap i M h, sg_succ]
  grind
theorem Alt.op (A : Alt n f) (i : Nat) (M : Mat) (y : Int) (h : i + 1 < n) : f (sr M (i + 1) fun c => M (i + 1) c + y * M 0 c) = f M:=by
 have z:=A.lin M (i + 1) 1 y (M (i + 1)) (M 0) h
 simp only [Int.one_mul] at z
 rw [z, sr_self, A.alt i 0 (sr M (i + 1) (M 0)) (by omega) fun c => by
  rw [sr_ne _ _ _ (by omega), show 0 + i + 1 = i + 1 by omega, sr_same]]
 omega
def ur (j : Nat) : Nat -> Int:=fun c => if c = j then 1 else 0
theorem Alt.expand (A : Alt n f) (M : Mat) (i : Nat) (h : i < n) (r : Nat -> Int) : ∀ k, f (sr M i fun c => sm k fun j => r j * ur j c) = sm k fun j => r j * f (sr M i (ur j))
 | 0 => by
  show f (sr M i fun c => 0) = 0
  exact A.zero M i h
 | k + 1 => by
  have z:=A.lin M i 1 (r k) (fun c => sm k fun j => r j * ur j c) (ur k) h
  simp only [Int.one_mul] at z
  show f (sr M i fun c => sm k (fun j => r j * ur j c) + r k * ur k c) = sm k (fun j => r j * f (sr M i (ur j))) + r k * f (sr M i (ur k))
  rw [z, A.expand M i h r k]
theorem sm_ur (k : Nat) (r : Nat -> Int) (c : Nat) (hc : c < k) : sm k (fun j => r j * ur j c) = r c:=by
 rw [sm_single k c _ hc fun j _ hne => by unfold ur; rw [if_neg (by omega), Int.mul_zero]]
 unfold ur
 rw [if_pos rfl, Int.mul_one]
theorem Alt.first (A : Alt (n + 1) f) (M : Mat) : f M = sm (n + 1) fun j => M 0 j * f (sr M 0 (ur j)):=by
 rw [<- A.expand M 0 (by omega) (M 0) (n + 1)]
 refine A.congr _ _ fun i j hi hj => ?_
 by_cases h : i = 0
 ·subst h
  rw [sr_same, sm_ur _ _ _ hj]
 ·rw [sr_ne _ _ _ h]
end
def one : Mat:=fun i j => if i = j then 1 else 0
def put (j : Nat) (N : Mat) : Mat:=fun i c => if i = 0 then ur j c else if c = j then 0 else N (i - 1) (if c < j then c else c - 1)
theorem put_sr (j : Nat) (N : Mat) (i : Nat) (r : Nat -> Int) : put j (sr N i r) = sr (put j N) (i + 1) (fun c => if c = j then 0 else r (if c < j then c else c - 1)):=by
 funext k c
 unfold put sr
 dsimp only
 grind
theorem alt_put {n : Nat} {f : Mat -> Int} (A : Alt (n + 1) f) (j : Nat) (hj : j < n + 1) : Alt n fun N => f (put j N) where
 congr:=fun M N h => A.congr _ _ fun i c hi hc => by
  unfold put
  by_cases h0 : i = 0
  ·rw [if_pos h0, if_pos h0]
  ·rw [if_neg h0, if_neg h0]
   by_cases h1 : c = j
   ·rw [if_pos h1, if_pos h1]
   ·rw [if_neg h1, if_neg h1]
    refine h _ _ (by omega) ?_
    split <;> omega
 lin:=fun M i x y r s hi => by
  show f (put j _) = x * f (put j _) + y * f (put j _)
  rw [put_sr, put_sr, put_sr]
  have z:=A.lin (put j M) (i + 1) x y (fun c => if c = j then 0 else r (if c < j then c else c - 1)) (fun c => if c = j then 0 else s (if c < j then c else c - 1)) (by omega)
  rw [<- z]
  congr 2
  funext c
  by_cases h : c = j
  ·rw [if_pos h, if_pos h, if_pos h]; omega
  ·rw [if_neg h, if_neg h, if_neg h]
 adj:=fun M i hi e => A.adj _ (i + 1) (by omega) fun c => by
  have z:=e (if c < j then c else c - 1)
  show put j M (i + 1) c = put j M (i + 1 + 1) c
  unfold put
  rw [show i + 1 - 1 = i by omega, show i + 1 + 1 - 1 = i + 1 by omega, z]
  rfl
theorem Alt.clear {n : Nat} {f : Mat -> Int} (A : Alt (n + 1) f) (M : Mat) (j : Nat) (hj : j < n + 1) : f (sr M 0 (ur j)) = f (put j (mn M j)):=by
 have step : ∀ t, t <= n -> f (fun i c => if i = 0 then ur j c else if i <= t then M i c - M i j * ur j c else M i c) = f (sr M 0 (ur j)):=by
  intro t
  induction t with
  | zero =>
   intro _
   refine A.congr _ _ fun i c _ _ => ?_
   unfold sr
   by_cases h : i = 0
   ·rw [if_pos h, if_pos h]
   ·rw [if_neg h, if_neg (by omega), if_neg h]
  | succ t ih =>
   intro ht
   rw [<- ih (by omega)]
   have z:=A.op t (fun i c => if i = 0 then ur j c else if i <= t then M i c - M i j * ur j c else M i c) (- M (t + 1) j) (by omega)
   rw [<- z]
   refine A.congr _ _ fun i c _ _ => ?_
   unfold sr
   dsimp only
   grind
 rw [<- step n (Nat.le_refl n)]
 refine A.congr _ _ fun i c hi hc => ?_
 unfold put
 by_cases h : i = 0
 ·rw [if_pos h, if_pos h]
 ·rw [if_neg h, if_neg h, if_pos (by omega)]
  obtain ⟨i, rfl⟩ : ∃ k, i = k + 1:=⟨i - 1, by omega⟩
  by_cases h2 : c = j
  ·subst h2
   rw [if_pos rfl]
   unfold ur
   rw [if_pos rfl]
   omega
  ·rw [if_neg h2]
   unfold ur mn sk
   rw [if_neg h2, Int.mul_zero, Int.sub_zero]
   have e : (if (if c < j then c else c - 1) < j then (if c < j then c else c - 1) else (if c < j then c else c - 1) + 1) = c:=by
    by_cases h3 : c < j
    ·rw [if_pos h3, if_pos h3]
    ·rw [if_neg h3, if_neg (by omega)]; omega
   rw [e]
   rfl
theorem put_one (n j : Nat) (hj : j < n + 1) : ∀ i c, i < n + 1 -> c < n + 1 -> put j one i c = cy one j i c:=fun i c hi hc => by
 unfold put cy one ur sk
 by_cases h : i = 0
 ·rw [if_pos h, if_pos h]
  by_cases h2 : c = j
  ·rw [if_pos h2, if_pos h2.symm]
  ·rw [if_neg h2, if_neg (Ne.symm h2)]
 ·rw [if_neg h, if_neg h]
  by_cases h2 : c = j
  ·rw [if_pos h2, if_neg]
   split <;> omega
  ·rw [if_neg h2]
   congr 1
   apply propext
   split <;> split <;> omega
theorem alt_is : ∀ (n : Nat) (f : Mat -> Int), Alt n f -> ∀ M, f M = f one * dt n M
 | 0, f, A, M => by
  rw [A.congr M one fun i j hi => by omega]
  simp [dt]
 | n + 1, f, A, M => by
  rw [A.first M, dt, <- sm_mul]
  refine sm_congr _ fun j hj => ?_
  rw [A.clear M j hj]
  have z:=alt_is n (fun N => f (put j N)) (alt_put A j hj) (mn M j)
  have e : f (put j one) = sg j * f one:=by
   rw [A.congr _ _ (put_one n j hj)]
   exact A.cy j one hj
  rw [z, e]
  grind
def mul (n : Nat) (A B : Mat) : Mat:=fun i j => sm n fun k => A i k * B k j
def tr (A : Mat) : Mat:=fun i j => A j i
theorem mul_one_l (n : Nat) (B : Mat) {i j : Nat} (hi : i < n) : mul n one B i j = B i j:=by
 unfold mul one
 rw [sm_single n i _ hi fun k _ hne => by rw [if_neg (Ne.symm hne), Int.zero_mul], if_pos rfl, Int.one_mul]
theorem dt_mul (n : Nat) (A B : Mat) : dt n (mul n A B) = dt n A * dt n B:=by
 have al : Alt n fun M => dt n (mul n M B):=by
  refine ⟨fun M N h => dt_congr n fun i j hi _ => sm_congr n fun k hk => by rw [h i k hi hk], fun M i x y r s hi => ?_, fun M i hi e => ?_⟩
  ·have e : ∀ r : Nat -> Int, dt n (mul n (sr M i r) B) = dt n (sr (mul n M B) i fun c => sm n fun k => r k * B k c):=fun r => by
    refine dt_congr n fun a c _ _ => ?_
    unfold mul sr
    by_cases h : a = i
    ·simp only [h, if_true]
    ·simp only [h, if_false]
   show dt n (mul n _ B) = x * dt n (mul n _ B) + y * dt n (mul n _ B)
   rw [e, e, e, <- dt_lin n i (mul n M B) x y _ _ hi]
   refine dt_congr n fun a c _ _ => ?_
   unfold sr
   by_cases h : a = i
   ·rw [if_pos h, if_pos h]
    show sm n (fun k => (x * r k + y * s k) * B k c) = x * sm n (fun k => r k * B k c) + y * sm n (fun k => s k * B k c)
    rw [<- sm_mul, <- sm_mul, <- sm_add]
    exact sm_congr n fun k _ => by grind
   ·rw [if_neg h, if_neg h]
  ·refine dt_adj n i _ hi fun c => ?_
   unfold mul
   exact sm_congr n fun k _ => by rw [e k]
 have z:=alt_is n _ al A
 rw [z, Int.mul_comm]
 congr 1
 exact dt_congr n fun i j hi _ => mul_one_l n B hi
theorem dt_one : ∀ n, dt n one = 1
 | 0 => rfl
 | n + 1 => by
  rw [dt, sm_single (n + 1) 0 _ (by omega) fun k hk hne => by
   show sg k * one 0 k * _ = 0
   unfold one
   rw [if_neg (Ne.symm hne)]; simp]
  have e : dt n (mn one 0) = dt n one:=dt_congr n fun i j _ _ => by
   unfold mn one sk
   grind
  rw [e, dt_one n]
  rfl
theorem dt_col_lin : ∀ (n i : Nat) (M : Mat) (x y : Int) (r s : Nat -> Int), i < n ->
  dt n (tr (sr (tr M) i fun c => x * r c + y * s c)) = x * dt n (tr (sr (tr M) i r)) + y * dt n (tr (sr (tr M) i s))
 | 0, _, _, _, _, _, _, h => absurd h (Nat.not_lt_zero _)
 | n + 1, i, M, x, y, r, s, h => by
  have hm1 : ∀ (q : Nat -> Int), mn (tr (sr (tr M) i q)) i = mn M i:=fun q => by
   funext a c
   unfold mn tr sr
   have : sk i c ≠ i:=by unfold sk; split <;> omega
   rw [if_neg this]
  have hm2 : ∀ (q : Nat -> Int) (j i' : Nat), sk j i' = i -> mn (tr (sr (tr M) i q)) j = tr (sr (tr (mn M j)) i' fun a => q (a + 1)):=fun q j i' e => by
   funext a c
   unfold mn tr sr
   by_cases h : c = i'
   ·rw [if_pos h, if_pos (by rw [h]; exact e)]
   ·rw [if_neg h, if_neg]
    intro z
    apply h
    unfold sk at e z
    split at e <;> split at z <;> omega
  rw [dt, dt, dt, <- sm_mul, <- sm_mul, <- sm_add]
  refine sm_congr _ fun j hj => ?_
  by_cases hji : j = i
  ·subst hji
   rw [hm1, hm1, hm1]
   have ev : ∀ q : Nat -> Int, tr (sr (tr M) j q) 0 j = q 0:=fun q => by unfold tr; rw [sr_same]
   rw [ev, ev, ev]
   grind
  ·obtain ⟨i', hi', e⟩ : ∃ i', i' < n /\ sk j i' = i:=by
    by_cases h2 : i < j
    ·exact ⟨i, by omega, by unfold sk; rw [if_pos h2]⟩
    ·exact ⟨i - 1, by omega, by unfold sk; rw [if_neg (by omega)]; omega⟩
   rw [hm2 _ j i' e, hm2 _ j i' e, hm2 _ j i' e]
   have ev : ∀ q : Nat -> Int, tr (sr (tr M) i q) 0 j = M 0 j:=fun q => by
    show sr (tr M) i q j 0 = M 0 j
    rw [sr_ne _ _ _ hji]
    rfl
   rw [ev, ev, ev]
   have z:=dt_col_lin n i' (mn M j) x y (fun a => r (a + 1)) (fun a => s (a + 1)) hi'
   rw [z]
   grind
theorem sm_two (n i : Nat) (f : Nat -> Int) (hi : i + 1 < n) (h : ∀ k, k < n -> k ≠ i -> k ≠ i + 1 -> f k = 0) : sm n f = f i + f (i + 1):=by
 induction n with
 | zero => omega
 | succ n ih =>
  rw [sm]
  by_cases e : i + 1 = n
  ·subst e
   rw [sm_single (i + 1) i _ (by omega) fun k hk hne => h k (by omega) hne (by omega)]
  ·rw [ih (by omega) fun k hk h1 h2 => h k (by omega) h1 h2, h n (by omega) (by omega) (by omega), Int.add_zero]
theorem dt_col_adj : ∀ (n i : Nat) (M : Mat), i + 1 < n -> (∀ r, M r i = M r (i + 1)) -> dt n M = 0
 | 0, _, _, h, _ => absurd h (Nat.not_lt_zero _)
 | n + 1, i, M, h, e => by
  rw [dt, sm_two (n + 1) i _ h fun k hk h1 h2 => ?_]
  ·have em : mn M i = mn M (i + 1):=by
    funext a c
    unfold mn sk
    by_cases h1 : c < i
    ·rw [if_pos h1, if_pos (by omega)]
    ·rw [if_neg h1]
     by_cases h2 : c = i
     ·subst h2
      rw [if_pos (by omega)]
      exact (e _).symm
     ·rw [if_neg (by omega)]
   rw [em, <- e 0, sg_succ]
   grind
  ·obtain ⟨i', hi', f1, f2⟩ : ∃ i', i' + 1 < n /\ sk k i' = i /\ sk k (i' + 1) = i + 1:=by
    by_cases h3 : i < k
    ·exact ⟨i, by omega, by unfold sk; rw [if_pos h3], by unfold sk; rw [if_pos (by omega)]⟩
    ·exact ⟨i - 1, by omega, by unfold sk; rw [if_neg (by omega)]; omega, by unfold sk; rw [if_neg (by omega)]; omega⟩
   rw [dt_col_adj n i' (mn M k) hi' fun r => by
    show M (r + 1) (sk k i') = M (r + 1) (sk k (i' + 1))
    rw [f1, f2]
    exact e _]
   simp
theorem dt_tr (n : Nat) (M : Mat) : dt n (tr M) = dt n M:=by
 have al : Alt n fun M => dt n (tr M):=⟨fun M N h => dt_congr n fun i j hi hj => h j i hj hi, fun M i x y r s hi => dt_col_lin n i (tr M) x y r s hi, fun M i hi e => dt_col_adj n i (tr M) hi fun r => e r⟩
 have z:=alt_is n _ al M
 rw [z]
 have e : tr one = one:=by
  funext i j
  unfold tr one
  congr 1
  exact propext eq_comm
 rw [e, dt_one, Int.one_mul]
end Fm
namespace Fm
open Ql78 (dot times pair value at_ rows form bound boxes upTo ways before firstWay diagonal least truant fitting changes changed key tuples)
def un (n i : Nat) : List Int:=(List.range n).map fun j => if j = i then 1 else 0
theorem un_length (n i : Nat) : (un n i).length = n:=by simp [un]
theorem xv_un {n i j : Nat} (hj : j < n) : xv (un n i) j = if j = i then 1 else 0:=by
 unfold xv un
 rw [List.getD_eq_getElem?_getD, List.getElem?_map, List.getElem?_range hj]
 rfl
theorem pr_un {n : Nat} (M : Mat) {i j : Nat} (hi : i < n) (hj : j < n) : pr n M (xv (un n i)) (xv (un n j)) = M i j:=by
 unfold pr
 rw [sm_single n i _ hi fun k hk hne => by rw [xv_un hk, if_neg hne, Int.zero_mul], xv_un hi, if_pos rfl, Int.one_mul,
  sm_single n j _ hj fun k hk hne => by rw [xv_un hk, if_neg hne, Int.mul_zero], xv_un hj, if_pos rfl, Int.mul_one]
theorem value_un {n i : Nat} {l : List Int} (hi : i < n) : value (rows n l) (un n i) = gm n l i i:=by
 rw [value_rows (un_length n i), pr_un _ hi hi]
theorem diag_pos {n i : Nat} {l : List Int} (h : form n l = true) (hi : i < n) : 0 < gm n l i i:=by
 have z:=pr_pos n (gm n l) (form_symm h) (form_lead h) (xv (un n i))
 rw [pr_un _ hi hi] at z
 rcases lt_or_ge 0 (gm n l i i) with q | q
 ·exact q
 ·have:=z.2 q i hi
  rw [xv_un hi, if_pos rfl] at this
  omega
theorem fold_max : ∀ (l : List Int) (s : Int), s <= l.foldl max s /\ ∀ v ∈ l, v <= l.foldl max s
 | [], s => ⟨Int.le_refl _, fun v h => by cases h⟩
 | a :: l, s => by
  obtain ⟨h1, h2⟩:=fold_max l (max s a)
  rw [List.foldl_cons]
  refine ⟨by omega, fun v hv => ?_⟩
  rcases List.mem_cons.mp hv with e | e
  ·subst e; omega
  ·exact h2 v e
def top (n : Nat) (l : List Int) : Int:=(diagonal n (rows n l)).foldl max 0
theorem top_ge {n i : Nat} {l : List Int} (hi : i < n) : gm n l i i <= top n l:=by
 refine (fold_max _ 0).2 _ ?_
 unfold Ql78.diagonal
 exact List.mem_map.mpr ⟨i, List.mem_range.mpr hi, at_rows hi hi⟩
structure Fits (n : Nat) (l : List Int) (b : Ql78.Rows) (k : Nat) (c : Ql78.Rows) : Prop where
 len : c.length = k
 row : ∀ i, i < k -> (c.getD i []).length = n
 own : ∀ i, i < k -> value (rows n l) (c.getD i []) = at_ b i i
 oth : ∀ i j, i < k -> j < i -> pair (rows n l) (c.getD j []) (c.getD i []) = at_ b j i
theorem getD_snoc_lt {α : Type} {d x : α} {c : List α} {i : Nat} (h : i < c.length) : (c ++ [x]).getD i d = c.getD i d:=by
 simp only [List.getD_eq_getElem?_getD]
 rw [List.getElem?_append_left h]
theorem getD_snoc_eq {α : Type} {d x : α} {c : List α} : (c ++ [x]).getD c.length d = x:=by
 simp only [List.getD_eq_getElem?_getD]
 simp
theorem fits_snoc {n : Nat} {l : List Int} {b : Ql78.Rows} {k : Nat} {c : Ql78.Rows} {x : List Int} (hc : c.length = k) :
  Fits n l b (k + 1) (c ++ [x]) ↔ Fits n l b k c /\ x.length = n /\ value (rows n l) x = at_ b k k /\ ∀ j, j < k -> pair (rows n l) (c.getD j []) x = at_ b j k:=by
 subst hc
 constructor
 ·intro f
  have e:=getD_snoc_eq (d:=[]) (x:=x) (c:=c)
  refine ⟨⟨rfl, fun i hi => ?_, fun i hi => ?_, fun i j hi hj => ?_⟩, ?_, ?_, fun j hj => ?_⟩
  ·have z:=f.row i (by omega); rw [getD_snoc_lt hi] at z; exact z
  ·have z:=f.own i (by omega); rw [getD_snoc_lt hi] at z; exact z
  ·have z:=f.oth i j (by omega) hj; rw [getD_snoc_lt hi, getD_snoc_lt (by omega)] at z; exact z
  ·have z:=f.row c.length (by omega); rw [e] at z; exact z
  ·have z:=f.own c.length (by omega); rw [e] at z; exact z
  ·have z:=f.oth c.length j (by omega) hj; rw [e, getD_snoc_lt hj] at z; exact z
 ·rintro ⟨f, h1, h2, h3⟩
  refine ⟨by simp, fun i hi => ?_, fun i hi => ?_, fun i j hi hj => ?_⟩
  ·by_cases e : i = c.length
   ·rw [e, getD_snoc_eq]; exact h1
   ·rw [getD_snoc_lt (by omega)]; exact f.row i (by omega)
  ·by_cases e : i = c.length
   ·rw [e, getD_snoc_eq]; exact h2
   ·rw [getD_snoc_lt (by omega)]; exact f.own i (by omega)
  ·by_cases e : i = c.length
   ·rw [e] at hj ⊢
    rw [getD_snoc_eq, getD_snoc_lt hj]; exact h3 j hj
   ·rw [getD_snoc_lt (by omega), getD_snoc_lt (by omega)]; exact f.oth i j (by omega) hj
theorem mem_fitting {n : Nat} {l : List Int} {b : Ql78.Rows} (h : form n l = true) : ∀ (k : Nat) (c : Ql78.Rows), c ∈ fitting n (rows n l) b k ↔ Fits n l b k c
 | 0, c => by
  unfold Ql78.fitting
  constructor
  ·intro hc
   have : c = []:=by simpa using hc
   subst this
   exact ⟨rfl, fun i hi => by omega, fun i hi => by omega, fun i j hi => by omega⟩
  ·intro f
   have : c = []:=List.eq_nil_of_length_eq_zero f.len
   simp [this]
 | k + 1, c => by
  unfold Ql78.fitting
  rw [List.mem_flatMap]
  constructor
  ·rintro ⟨d, hd, hc⟩
   obtain ⟨x, hx, rfl⟩:=List.mem_map.mp hc
   have f:=(mem_fitting h k d).mp hd
   rw [List.mem_filter, mem_ways h, List.all_eq_true] at hx
   refine (fits_snoc f.len).mpr ⟨f, hx.1.1, hx.1.2, fun j hj => ?_⟩
   have z:=hx.2 j (List.mem_range.mpr hj)
   simpa using z
  ·intro f
   obtain ⟨d, x, rfl⟩ : ∃ d x, c = d ++ [x]:=by
    have hne : c ≠ []:=fun e => by have:=f.len; rw [e] at this; simp at this
    exact ⟨c.dropLast, c.getLast hne, (List.dropLast_concat_getLast hne).symm⟩
   have hd : d.length = k:=by have:=f.len; simp at this; exact this
   obtain ⟨f', h1, h2, h3⟩:=(fits_snoc hd).mp f
   refine ⟨d, (mem_fitting h k d).mpr f', List.mem_map.mpr ⟨x, ?_, rfl⟩⟩
   rw [List.mem_filter, mem_ways h, List.all_eq_true]
   exact ⟨⟨h1, h2⟩, fun j hj => by rw [h3 j (List.mem_range.mp hj)]; simp⟩
theorem fitting_nodup (n : Nat) (l : List Int) (b : Ql78.Rows) : ∀ k, (fitting n (rows n l) b k).Nodup
 | 0 => by unfold Ql78.fitting; simp
 | k + 1 => by
  unfold Ql78.fitting
  unfold List.Nodup
  rw [List.pairwise_flatMap]
  constructor
  ·intro c _
   rw [List.pairwise_map]
   refine List.Pairwise.imp ?_ ((ways_nodup n (rows n l) (at_ b k k)).filter _)
   intro x y hxy e
   have:=List.append_cancel_left e
   simp at this
   exact hxy this
  ·refine List.Pairwise.imp ?_ (fitting_nodup n l b k)
   intro c d hcd x hx y hy e
   obtain ⟨u, _, rfl⟩:=List.mem_map.mp hx
   obtain ⟨v, _, rfl⟩:=List.mem_map.mp hy
   have:=List.append_inj' e rfl
   exact hcd this.1
theorem mem_changes {n : Nat} {l : List Int} {b : Ql78.Rows} {c : Ql78.Rows} (h : form n l = true) : c ∈ changes n (rows n l) b ↔ Fits n l b n c /\ (Ql78.det n c).natAbs = 1:=by
 unfold Ql78.changes
 rw [List.mem_filter, mem_fitting h, beq_iff_eq]
theorem changes_nodup (n : Nat) (l : List Int) (b : Ql78.Rows) : (changes n (rows n l) b).Nodup:=(fitting_nodup n l b n).filter _
end Fm
namespace Fm
open Ql78 (dot times pair value at_ rows form upTo ways before diagonal changed key tuples first)
theorem before_trans : ∀ x y z : List Int, before x y = true -> before y z = true -> before x z = true
 | [], _, _, h, _ => by unfold Ql78.before at h; cases h
 | _ :: _, [], _, h, _ => by unfold Ql78.before at h; cases h
 | _ :: _, _ :: _, [], _, h => by unfold Ql78.before at h; cases h
 | a :: r, b :: s, c :: t, h1, h2 => by
  unfold Ql78.before at h1 h2 ⊢
  rw [Bool.or_eq_true, Bool.and_eq_true, decide_eq_true_eq, beq_iff_eq] at h1 h2 ⊢
  rcases h1 with h1 | ⟨h1, h3⟩
  ·rcases h2 with h2 | ⟨h2, h4⟩
   ·exact .inl (by omega)
   ·exact .inl (by omega)
  ·rcases h2 with h2 | ⟨h2, h4⟩
   ·exact .inl (by omega)
   ·exact .inr ⟨by omega, before_trans r s t h3 h4⟩
theorem before_total : ∀ x y : List Int, x.length = y.length -> before x y = false -> before y x = false -> x = y
 | [], [], _, _, _ => rfl
 | [], _ :: _, h, _, _ => by simp at h
 | _ :: _, [], h, _, _ => by simp at h
 | a :: r, b :: s, h, h1, h2 => by
  unfold Ql78.before at h1 h2
  rw [Bool.or_eq_false_iff, decide_eq_false_iff_not] at h1 h2
  have e : a = b:=by omega
  subst e
  have h3 : before r s = false:=by simpa using h1.2
  have h4 : before s r = false:=by simpa using h2.2
  rw [before_total r s (by simpa using h) h3 h4]
theorem not_before_trans {x y z : List Int} (h1 : before x y = false) (h2 : before z y = true) : before x z = false:=by
 cases q : before x z with
 | false => rfl
 | true => rw [before_trans x z y q h2] at h1; cases h1
theorem fold_first (n : Nat) (a : Ql78.Rows) : ∀ (L : List Ql78.Rows) (s : Ql78.Rows),
  let R:=L.foldl (fun (m c : Ql78.Rows) => let b:=changed a c; if before (key n b) (key n m) = true then b else m) s
  (R = s \/ ∃ c ∈ L, R = changed a c) /\ (R = s \/ before (key n R) (key n s) = true) /\ ∀ c ∈ L, before (key n (changed a c)) (key n R) = false
 | [], s => ⟨.inl rfl, .inl rfl, fun c h => by cases h⟩
 | d :: L, s => by
  simp only [List.foldl_cons]
  obtain ⟨h1, h2, h3⟩:=fold_first n a L (if before (key n (changed a d)) (key n s) = true then changed a d else s)
  by_cases h : before (key n (changed a d)) (key n s) = true
  ·rw [if_pos h] at h1 h2 h3 ⊢
   refine ⟨?_, ?_, fun c hc => ?_⟩
   ·rcases h1 with h1 | ⟨c, hc, h1⟩
    ·exact .inr ⟨d, List.mem_cons_self .., h1⟩
    ·exact .inr ⟨c, List.mem_cons_of_mem _ hc, h1⟩
   ·rcases h2 with h2 | h2
    ·exact .inr (by rw [h2]; exact h)
    ·exact .inr (before_trans _ _ _ h2 h)
   ·rcases List.mem_cons.mp hc with e | e
    ·subst e
     rcases h2 with h2 | h2
     ·rw [h2]; exact before_irr _
     ·exact before_asymm _ _ h2
    ·exact h3 c e
  ·rw [if_neg h] at h1 h2 h3 ⊢
   have h:=Bool.eq_false_iff.mpr h
   refine ⟨?_, h2, fun c hc => ?_⟩
   ·rcases h1 with h1 | ⟨c, hc, h1⟩
    ·exact .inl h1
    ·exact .inr ⟨c, List.mem_cons_of_mem _ hc, h1⟩
   ·rcases List.mem_cons.mp hc with e | e
    ·subst e
     rcases h2 with h2 | h2
     ·rw [h2]; exact h
     ·exact not_before_trans h h2
    ·exact h3 c e
theorem mem_tuples (L : List (List Int)) : ∀ (k : Nat) (c : Ql78.Rows), c ∈ tuples L k ↔ c.length = k /\ ∀ r ∈ c, r ∈ L
 | 0, c => by
  unfold Ql78.tuples
  constructor
  ·intro h
   have : c = []:=by simpa using h
   subst this
   exact ⟨rfl, fun r hr => by cases hr⟩
  ·rintro ⟨h, _⟩
   simp [List.eq_nil_of_length_eq_zero h]
 | k + 1, c => by
  unfold Ql78.tuples
  rw [List.mem_flatMap]
  constructor
  ·rintro ⟨d, hd, hc⟩
   obtain ⟨x, hx, rfl⟩:=List.mem_map.mp hc
   obtain ⟨h1, h2⟩:=(mem_tuples L k d).mp hd
   refine ⟨by simp [h1], fun r hr => ?_⟩
   rcases List.mem_append.mp hr with e | e
   ·exact h2 r e
   ·rw [List.mem_singleton.mp e]; exact hx
  ·rintro ⟨h1, h2⟩
   have hne : c ≠ []:=fun e => by rw [e] at h1; simp at h1
   have ec:=(List.dropLast_concat_getLast hne).symm
   refine ⟨c.dropLast, (mem_tuples L k _).mpr ⟨by simp [h1], fun r hr => h2 r ?_⟩, List.mem_map.mpr ⟨c.getLast hne, h2 _ (List.getLast_mem hne), ec.symm⟩⟩
   rw [ec]
   exact List.mem_append_left _ hr
theorem key_inj {a b : Ql78.Rows} : ∀ {n : Nat}, key n a = key n b -> ∀ i j, i < n -> j <= i -> at_ a i j = at_ b i j
 | 0, _, i, j, hi, _ => by omega
 | n + 1, h, i, j, hi, hj => by
  unfold Ql78.key at h
  rw [List.range_succ, List.flatMap_append, List.flatMap_append] at h
  obtain ⟨h1, h2⟩:=List.append_inj' h (by simp)
  by_cases e : i = n
  ·subst e
   have h2 : (List.range (i + 1)).map (fun j => at_ a i (i - j)) = (List.range (i + 1)).map (fun j => at_ b i (i - j)):=by simpa using h2
   have z:=List.map_inj_left.mp h2 (i - j) (List.mem_range.mpr (by omega))
   rw [show i - (i - j) = j by omega] at z
   exact z
  ·exact key_inj (n:=n) h1 i j (by omega) hj
structure InS (n : Nat) (l : List Int) (c : Ql78.Rows) : Prop where
 len : c.length = n
 row : ∀ r ∈ c, r.length = n
 low : ∀ r ∈ c, value (rows n l) r <= top n l
 unit : (Ql78.det n c).natAbs = 1
theorem at_get (a : Ql78.Rows) (i j : Nat) (h1 : i < a.length) (h2 : j < (a[i]).length) : at_ a i j = a[i][j]:=by
 unfold Ql78.at_
 have e : a.getD i [] = a[i]:=by rw [List.getD_eq_getElem?_getD, List.getElem?_eq_getElem h1, Option.getD_some]
 rw [e, List.getD_eq_getElem?_getD, List.getElem?_eq_getElem h2, Option.getD_some]
theorem at_changed {n : Nat} {a c : Ql78.Rows} (hc : c.length = n) {i j : Nat} (hi : i < n) (hj : j < n) : at_ (changed a c) i j = pair a (c.getD i []) (c.getD j []):=by
 unfold Ql78.at_ Ql78.changed
 simp only [List.getD_eq_getElem?_getD, List.getElem?_map]
 rw [List.getElem?_eq_getElem (by omega : i < c.length)]
 simp only [Option.map_some, Option.getD_some, List.getElem?_map]
 rw [List.getElem?_eq_getElem (by omega : j < c.length)]
 rfl
theorem mem_S {n : Nat} {l : List Int} {c : Ql78.Rows} (h : form n l = true) : c ∈ (tuples (upTo n (rows n l) (top n l)) n).filter (fun c => (Ql78.det n c).natAbs == 1) ↔ InS n l c:=by
 rw [List.mem_filter, mem_tuples, beq_iff_eq]
 constructor
 ·rintro ⟨⟨h1, h2⟩, h3⟩
  exact ⟨h1, fun r hr => ((mem_upTo h).mp (h2 r hr)).1, fun r hr => ((mem_upTo h).mp (h2 r hr)).2, h3⟩
 ·intro s
  exact ⟨⟨s.len, fun r hr => (mem_upTo h).mpr ⟨s.row r hr, s.low r hr⟩⟩, s.unit⟩
def idc (n : Nat) : Ql78.Rows:=(List.range n).map (un n)
theorem idc_get {n i : Nat} (hi : i < n) : (idc n).getD i [] = un n i:=by
 unfold idc
 rw [List.getD_eq_getElem?_getD, List.getElem?_map, List.getElem?_range hi]
 rfl
theorem idc_in {n : Nat} {l : List Int} (h : form n l = true) : InS n l (idc n):=by
 refine ⟨by simp [idc], fun r hr => ?_, fun r hr => ?_, ?_⟩
 ·obtain ⟨i, _, rfl⟩:=List.mem_map.mp hr
  exact un_length n i
 ·obtain ⟨i, hi, rfl⟩:=List.mem_map.mp hr
  rw [value_un (List.mem_range.mp hi)]
  exact top_ge (List.mem_range.mp hi)
 ·rw [det_eq, dt_congr n (N:=one) fun i j hi hj => ?_, dt_one]
  ·rfl
  ·show ((idc n).getD i []).getD j 0 = one i j
   rw [idc_get hi]
   have z:=xv_un (n:=n) (i:=i) hj
   unfold xv at z
   rw [z]
   unfold one
   congr 1
   exact propext eq_comm
theorem rows_shape {n : Nat} {l : List Int} (hl : l.length = n * n) : (rows n l).length = n /\ ∀ i (h : i < (rows n l).length), ((rows n l)[i]).length = n:=by
 refine ⟨by simp [Ql78.rows], fun i h => ?_⟩
 have hi : i < n:=by simpa [Ql78.rows] using h
 have b : n * i + n <= n * n:=by
  have:=Nat.mul_le_mul_left n (show i + 1 <= n from hi)
  rw [Nat.mul_add, Nat.mul_one] at this
  exact this
 simp [Ql78.rows]
 omega
theorem idc_same {n : Nat} {l : List Int} (hl : l.length = n * n) : changed (rows n l) (idc n) = rows n l:=by
 obtain ⟨r1, r2⟩:=rows_shape hl
 have li : (idc n).length = n:=by simp [idc]
 apply List.ext_getElem
 ·simp [Ql78.changed, li, r1]
 ·intro i h1 h2
  have hi : i < n:=by omega
  apply List.ext_getElem
  ·rw [r2 i h2]
   simp [Ql78.changed, li]
  ·intro j h3 h4
   have hj : j < n:=by rw [r2 i h2] at h4; exact h4
   have e1 : at_ (changed (rows n l) (idc n)) i j = gm n l i j:=by
    rw [at_changed li hi hj, idc_get hi, idc_get hj, pair_rows (un_length n i) (un_length n j), pr_un _ hi hj]
   have e2 : at_ (rows n l) i j = gm n l i j:=at_rows hi hj
   have z:=e1.trans e2.symm
   rw [at_get _ _ _ h1 h3, at_get _ _ _ h2 h4] at z
   exact z
theorem first_char {n : Nat} {l : List Int} (h : form n l = true) (hl : l.length = n * n) : (∃ c, InS n l c /\ first n (rows n l) = changed (rows n l) c) /\ ∀ c, InS n l c -> before (key n (changed (rows n l) c)) (key n (first n (rows n l))) = false:=by
 obtain ⟨h1, _, h3⟩:=fold_first n (rows n l) ((tuples (upTo n (rows n l) (top n l)) n).filter (fun c => (Ql78.det n c).natAbs == 1)) (rows n l)
 refine ⟨?_, fun c hc => h3 c ((mem_S h).mpr hc)⟩
 rcases h1 with h1 | ⟨c, hc, h1⟩
 ·exact ⟨idc n, idc_in h, by rw [idc_same hl]; exact h1⟩
 ·exact ⟨c, (mem_S h).mp hc, h1⟩
theorem pair_symm {n : Nat} {l x y : List Int} (h : form n l = true) (hx : x.length = n) (hy : y.length = n) : pair (rows n l) x y = pair (rows n l) y x:=by
 rw [pair_rows hx hy, pair_rows hy hx, pr_symm (form_symm h)]
theorem InS.get {n : Nat} {l : List Int} {c : Ql78.Rows} (s : InS n l c) {i : Nat} (hi : i < n) : (c.getD i []).length = n:=by
 have hi : i < c.length:=by rw [s.len]; exact hi
 rw [List.getD_eq_getElem?_getD, List.getElem?_eq_getElem hi]
 exact s.row _ (List.getElem_mem hi)
end Fm
namespace Fm
open Ql78 (pair value at_ rows form upTo before changed key first)
theorem sq_one {D : Int} (h : D.natAbs = 1) : D * D = 1:=by
 have:=@Int.natAbs_mul_self D
 rw [h] at this
 omega
theorem coords {n : Nat} {C : Mat} (h : (dt n C).natAbs = 1) (x : Nat -> Int) : ∃ t : Nat -> Int, ∀ k, k < n -> x k = sm n fun i => t i * C i k:=by
 cases n with
 | zero => exact ⟨fun _ => 0, fun k hk => by omega⟩
 | succ m =>
  refine ⟨fun i => dt (m + 1) C * sm (m + 1) fun j => x j * co m (tr C) j i, fun k hk => ?_⟩
  have col : ∀ j, j < m + 1 -> sm (m + 1) (fun i => C i k * co m (tr C) j i) = if k = j then dt (m + 1) C else 0:=fun j hj => by
   by_cases e : k = j
   ·rw [if_pos e, <- dt_tr, <- laplace m (tr C) j hj, e]
    rfl
   ·rw [if_neg e]
    exact laplace0 m (tr C) j k hj hk e
  have e1 : sm (m + 1) (fun i => (dt (m + 1) C * sm (m + 1) fun j => x j * co m (tr C) j i) * C i k) = dt (m + 1) C * sm (m + 1) (fun i => sm (m + 1) fun j => x j * (C i k * co m (tr C) j i)):=by
   rw [<- sm_mul]
   refine sm_congr _ fun i _ => ?_
   have : sm (m + 1) (fun j => x j * (C i k * co m (tr C) j i)) = C i k * sm (m + 1) (fun j => x j * co m (tr C) j i):=by
    rw [<- sm_mul]
    exact sm_congr _ fun j _ => by grind
   rw [this]
   grind
  have e2 : sm (m + 1) (fun i => sm (m + 1) fun j => x j * (C i k * co m (tr C) j i)) = x k * dt (m + 1) C:=by
   rw [sm_swap]
   have : sm (m + 1) (fun j => sm (m + 1) fun i => x j * (C i k * co m (tr C) j i)) = sm (m + 1) (fun j => x j * if k = j then dt (m + 1) C else 0):=by
    refine sm_congr _ fun j hj => ?_
    rw [sm_mul, col j hj]
   rw [this, sm_single (m + 1) k _ hk fun j _ hne => by rw [if_neg (Ne.symm hne), Int.mul_zero], if_pos rfl]
  rw [e1, e2, Int.mul_comm (x k), <- Int.mul_assoc, sq_one h, Int.one_mul]
theorem dt_zero_row (n : Nat) (M : Mat) (i : Nat) (hi : i < n) (h : ∀ c, c < n -> M i c = 0) : dt n M = 0:=by
 rw [<- (alt_dt n).zero M i hi]
 refine dt_congr n fun a c _ hc => ?_
 unfold sr
 by_cases e : a = i
 ·rw [if_pos e, e, h c hc]
 ·rw [if_neg e]
theorem beyond {n k : Nat} {C : Mat} (hk : k < n) (T : Nat -> Nat -> Int) (hT : ∀ j, j < n -> ∀ c, c < n -> ur j c = sm n fun i => T j i * C i c) : ∃ j i, j < n /\ k <= i /\ i < n /\ T j i ≠ 0:=by
 refine Classical.byContradiction fun hno => ?_
 have hz : ∀ j i, j < n -> k <= i -> i < n -> T j i = 0:=fun j i h1 h2 h3 => Classical.byContradiction fun h4 => hno ⟨j, i, h1, h2, h3, h4⟩
 have e : dt n (mul n T C) = dt n one:=dt_congr n fun j c hj hc => by
  show sm n (fun i => T j i * C i c) = one j c
  rw [<- hT j hj c hc]
  unfold ur one
  congr 1
  exact propext eq_comm
 rw [dt_mul, dt_one, <- dt_tr n T, dt_zero_row n (tr T) (n - 1) (by omega) fun c hc => hz c (n - 1) hc (by omega) (by omega), Int.zero_mul] at e
 omega
theorem dt_add (n : Nat) (M : Mat) (i j : Nat) (s : Int) (hi : i < n) (hj : j < n) (h : i ≠ j) : dt n (sr M i fun c => M i c + s * M j c) = dt n M:=by
 have z:=dt_lin n i M 1 s (M i) (M j) hi
 simp only [Int.one_mul] at z
 rw [z, sr_self]
 have e : dt n (sr M i (M j)) = 0:=by
  rcases Nat.lt_or_gt_of_ne h with q | q
  ·obtain ⟨d, rfl⟩ : ∃ d, j = i + d + 1:=⟨j - i - 1, by omega⟩
   refine dt_alt d n i _ (by omega) fun c => ?_
   rw [sr_same, sr_ne _ _ _ (by omega)]
  ·obtain ⟨d, rfl⟩ : ∃ d, i = j + d + 1:=⟨i - j - 1, by omega⟩
   refine dt_alt d n j _ (by omega) fun c => ?_
   rw [sr_ne _ _ _ (by omega), sr_same]
 rw [e]
 omega
def Coprime (m : Nat) (w : Nat -> Int) : Prop:=∀ d : Nat, (∀ i, i < m -> (d : Int) ∣ w i) -> d = 1
def size (m : Nat) (w : Nat -> Int) : Int:=sm m fun i => ((w i).natAbs : Int)
theorem sm_nn {f : Nat -> Int} : ∀ (n : Nat), (∀ i, i < n -> 0 <= f i) -> 0 <= sm n f
 | 0, _ => Int.le_refl 0
 | n + 1, h => by
  have h1:=sm_nn (f:=f) n fun i hi => h i (by omega)
  have h2:=h n (by omega)
  rw [sm]; omega
theorem size_set {m i : Nat} {w : Nat -> Int} {v : Int} (hi : i < m) : size m (fun c => if c = i then v else w c) = size m w - ((w i).natAbs : Int) + (v.natAbs : Int):=by
 unfold size
 have e : sm m (fun c => (((if c = i then v else w c)).natAbs : Int)) = sm m (fun c => ((w c).natAbs : Int)) + sm m (fun c => if c = i then (v.natAbs : Int) - ((w i).natAbs : Int) else 0):=by
  rw [<- sm_add]
  refine sm_congr m fun c _ => ?_
  by_cases h : c = i
  ·rw [if_pos h, if_pos h, h]; omega
  ·rw [if_neg h, if_neg h]; omega
 have e2 : sm m (fun c => if c = i then (v.natAbs : Int) - ((w i).natAbs : Int) else 0) = (v.natAbs : Int) - ((w i).natAbs : Int):=by
  rw [sm_single m i (fun c => if c = i then (v.natAbs : Int) - ((w i).natAbs : Int) else 0) hi fun c _ hne => if_neg hne, if_pos rfl]
 rw [e, e2]
 omega
theorem row_change (m : Nat) : ∀ (N : Nat) (w : Nat -> Int), 1 <= m -> size m w <= N -> Coprime m w -> ∃ U : Mat, (∀ j, j < m -> U 0 j = w j) /\ (dt m U).natAbs = 1:=by
 intro N
 induction N with
 | zero =>
  intro w hm hs hc
  exfalso
  have z : ∀ i, i < m -> w i = 0:=fun i hi => by
   have h0 : size m (fun c => if c = i then 0 else w c) = size m w - ((w i).natAbs : Int) + ((0 : Int).natAbs : Int):=size_set hi
   have h1 : 0 <= size m (fun c => if c = i then 0 else w c):=sm_nn m fun _ _ => Int.natCast_nonneg _
   have h2 : ((0 : Int).natAbs : Int) = 0:=rfl
   omega
  have:=hc 2 fun i hi => by rw [z i hi]; exact Int.dvd_zero _
  omega
 | succ N ih =>
  intro w hm hs hc
  by_cases h2 : ∃ i j, i < m /\ j < m /\ i ≠ j /\ w j ≠ 0 /\ (w j).natAbs <= (w i).natAbs
  ·obtain ⟨i, j, hi, hj, hne, hw, hle⟩:=h2
   obtain ⟨s, hs1⟩ : ∃ s : Int, (w i - s * w j).natAbs + (w j).natAbs = (w i).natAbs:=by
    by_cases q : (0 <= w i /\ 0 < w j) \/ (w i <= 0 /\ w j < 0)
    ·exact ⟨1, by rw [Int.one_mul]; omega⟩
    ·exact ⟨-1, by rw [Int.neg_mul, Int.one_mul]; omega⟩
   have hs2 : size m (fun c => if c = i then w i - s * w j else w c) <= N:=by
    rw [size_set hi]
    omega
   obtain ⟨U, hU, hd⟩:=ih (fun c => if c = i then w i - s * w j else w c) hm hs2 fun d hd => hc d fun c hc' => by
    have dj : (d : Int) ∣ (if j = i then w i - s * w j else w j):=hd j hj
    rw [if_neg (Ne.symm hne)] at dj
    by_cases e : c = i
    ·have di : (d : Int) ∣ (if i = i then w i - s * w j else w i):=hd i hi
     rw [if_pos rfl] at di
     rw [e]
     have:=Int.dvd_add di (Int.dvd_mul_of_dvd_right (b:=s) dj)
     rwa [Int.sub_add_cancel] at this
    ·have : (d : Int) ∣ (if c = i then w i - s * w j else w c):=hd c hc'
     rw [if_neg e] at this
     exact this
   refine ⟨tr (sr (tr U) i fun r => tr U i r + s * tr U j r), fun c hc' => ?_, ?_⟩
   ·show sr (tr U) i _ c 0 = w c
    by_cases e : c = i
    ·subst e
     rw [sr_same]
     show U 0 c + s * U 0 j = w c
     rw [hU c hi, hU j hj, if_pos rfl, if_neg (Ne.symm hne)]
     omega
    ·rw [sr_ne _ _ _ e]
     show U 0 c = w c
     rw [hU c hc', if_neg e]
   ·rw [dt_tr, dt_add m (tr U) i j s hi hj hne, dt_tr]
    exact hd
  ·
   have hno : ∀ i j, i < m -> j < m -> i ≠ j -> w j ≠ 0 -> (w i).natAbs < (w j).natAbs:=fun i j h1 h3 h4 h5 => Classical.byContradiction fun h6 => h2 ⟨i, j, h1, h3, h4, h5, by omega⟩
   obtain ⟨j, hj, hwj⟩ : ∃ j, j < m /\ w j ≠ 0:=Classical.byContradiction fun hz => by
    have:=hc 2 fun i hi => by
     have : w i = 0:=Classical.byContradiction fun h => hz ⟨i, hi, h⟩
     rw [this]; exact Int.dvd_zero _
    omega
   have hz : ∀ i, i < m -> i ≠ j -> w i = 0:=fun i hi hne => Classical.byContradiction fun h => by
    have a:=hno i j hi hj hne hwj
    have b:=hno j i hj hi (Ne.symm hne) h
    omega
   have h1 : (w j).natAbs = 1:=hc _ fun i hi => by
    by_cases e : i = j
    ·rw [e]; exact Int.natAbs_dvd.mpr (Int.dvd_refl _)
    ·rw [hz i hi e]; exact Int.dvd_zero _
   refine ⟨sr (cy one j) 0 fun c => w j * one j c + 0 * one j c, fun c hc' => ?_, ?_⟩
   ·rw [sr_same]
    unfold one
    by_cases e : c = j
    ·rw [if_pos e.symm, e]; omega
    ·rw [if_neg (Ne.symm e), hz c hc' e]; omega
   ·rw [dt_lin m 0 (cy one j) (w j) 0 _ _ (by omega)]
    have e : sr (cy one j) 0 (one j) = cy one j:=by
     have : one j = cy one j 0:=by
      funext c
      unfold cy
      rw [if_pos rfl]
     rw [this]
     exact sr_self _ _
    rw [e, dt_cy m j one hj, dt_one, Int.zero_mul, Int.add_zero, Int.mul_one, Int.natAbs_mul, h1, sg_abs]
theorem dt_unit_rows : ∀ (k n : Nat) (M : Mat), k <= n -> (∀ i c, i < k -> c < n -> M i c = if c = i then 1 else 0) -> dt n M = dt (n - k) fun r c => M (r + k) (c + k)
 | 0, n, M, _, _ => rfl
 | k + 1, 0, M, h, _ => by omega
 | k + 1, n + 1, M, h, e => by
  rw [dt, sm_single (n + 1) 0 _ (by omega) fun c hc hne => by rw [e 0 c (by omega) hc, if_neg hne]; simp, e 0 0 (by omega) (by omega), if_pos rfl]
  have z:=dt_unit_rows k n (mn M 0) (by omega) fun i c hi hc => by
   show M (i + 1) (sk 0 c) = _
   rw [show sk 0 c = c + 1 by unfold sk; rw [if_neg (by omega)], e (i + 1) (c + 1) (by omega) (by omega)]
   congr 1
   exact propext ⟨fun h => by omega, fun h => by omega⟩
  rw [z, Nat.add_sub_add_right]
  have : sg 0 * 1 * dt (n - k) (fun r c => mn M 0 (r + k) (c + k)) = dt (n - k) (fun r c => mn M 0 (r + k) (c + k)):=by
   rw [show sg 0 = 1 from rfl]; omega
  rw [this]
  refine dt_congr _ fun r c _ _ => ?_
  show M (r + k + 1) (sk 0 (c + k)) = M (r + (k + 1)) (c + (k + 1))
  rw [show sk 0 (c + k) = c + (k + 1) by unfold sk; rw [if_neg (by omega)]; omega, show r + k + 1 = r + (k + 1) by omega]
theorem pr_add (n : Nat) (M : Mat) (hs : Symm n M) (z e : Nat -> Int) (ρ : Int) : pr n M (fun c => z c + ρ * e c) (fun c => z c + ρ * e c) = pr n M z z + 2 * ρ * pr n M z e + ρ * ρ * pr n M e e:=by
 have h1:=pr_lin_l n M 1 ρ z e (fun c => z c + ρ * e c)
 simp only [Int.one_mul] at h1
 have h2:=pr_lin_r n M 1 ρ z z e
 have h3:=pr_lin_r n M 1 ρ e z e
 simp only [Int.one_mul] at h2 h3
 rw [h1, h2, h3, pr_symm hs e z]
 grind
theorem round_step {n : Nat} {M : Mat} (hs : Symm n M) (z e : Nat -> Int) (he : 0 <= pr n M e e) (t : Int) (g : Nat) (hg : 0 < g) :
  ∃ ρ : Int, (g : Int) ∣ t + ρ /\ 4 * pr n M (fun c => z c + ρ * e c) (fun c => z c + ρ * e c) <= 4 * pr n M z z + (g : Int) * g * pr n M e e:=by
 have hr0 : 0 <= (-t) % (g : Int):=Int.emod_nonneg _ (by omega)
 have hr1 : (-t) % (g : Int) < g:=Int.emod_lt_of_pos _ (by omega)
 have hd : (g : Int) ∣ t + (-t) % (g : Int):=by
  have h:=Int.emod_add_mul_ediv (-t) (g : Int)
  refine ⟨-((-t) / (g : Int)), ?_⟩
  rw [Int.mul_neg]
  omega
 generalize (-t) % (g : Int) = r at *
 by_cases c1 : 4 * pr n M (fun c => z c + r * e c) (fun c => z c + r * e c) <= 4 * pr n M z z + (g : Int) * g * pr n M e e
 ·exact ⟨r, hd, c1⟩
 ·by_cases c2 : 4 * pr n M (fun c => z c + (r - g) * e c) (fun c => z c + (r - g) * e c) <= 4 * pr n M z z + (g : Int) * g * pr n M e e
  ·refine ⟨r - g, ?_, c2⟩
   have:=Int.dvd_sub hd (Int.dvd_refl (g : Int))
   rwa [show t + r - (g : Int) = t + (r - g) by omega] at this
  ·exfalso
   rw [pr_add n M hs] at c1 c2
   generalize pr n M z z = Z at *
   generalize pr n M z e = B at *
   generalize pr n M e e = b at *
   have hgg : (0 : Int) < (g : Int):=by omega
   generalize (g : Int) = G at *
   have k1 : 0 < 4 * (2 * r * B + r * r * b) - G * G * b:=by omega
   have k2 : 0 < 4 * (2 * (r - G) * B + (r - G) * (r - G) * b) - G * G * b:=by omega
   have k3 : 0 <= (G - r) * (4 * (2 * r * B + r * r * b) - G * G * b):=Int.mul_nonneg (by omega) (by omega)
   have k3' : 0 < (G - r) * (4 * (2 * r * B + r * r * b) - G * G * b):=Int.mul_pos (by omega) k1
   have k4 : 0 <= r * (4 * (2 * (r - G) * B + (r - G) * (r - G) * b) - G * G * b):=Int.mul_nonneg hr0 (by omega)
   have k5 : (G - r) * (4 * (2 * r * B + r * r * b) - G * G * b) + r * (4 * (2 * (r - G) * B + (r - G) * (r - G) * b) - G * G * b) = -(G * b * ((G - 2 * r) * (G - 2 * r))):=by grind
   have k6 : 0 <= G * b * ((G - 2 * r) * (G - 2 * r)):=Int.mul_nonneg (Int.mul_nonneg (by omega) he) (sq_nn _)
   omega
theorem rounding {n : Nat} {M C : Mat} (hs : Symm n M) (hp : ∀ x, 0 <= pr n M x x) (x t : Nat -> Int) (g : Nat) (hg : 0 < g) : ∀ k, ∃ ρ : Nat -> Int, (∀ i, i < k -> (g : Int) ∣ t i + ρ i) /\
  4 * pr n M (fun c => x c + sm k fun i => ρ i * C i c) (fun c => x c + sm k fun i => ρ i * C i c) <= 4 * pr n M x x + (g : Int) * g * sm k fun i => pr n M (C i) (C i)
 | 0 => ⟨fun _ => 0, fun i hi => by omega, by simp [sm]⟩
 | k + 1 => by
  obtain ⟨ρ, h1, h2⟩:=rounding (C:=C) hs hp x t g hg k
  obtain ⟨τ, h3, h4⟩:=round_step hs (fun c => x c + sm k fun i => ρ i * C i c) (C k) (hp _) (t k) g hg
  refine ⟨fun i => if i = k then τ else ρ i, fun i hi => ?_, ?_⟩
  ·show (g : Int) ∣ t i + (if i = k then τ else ρ i)
   by_cases e : i = k
   ·rw [if_pos e, e]; exact h3
   ·rw [if_neg e]; exact h1 i (by omega)
  ·have e : (fun c => x c + sm (k + 1) fun i => (if i = k then τ else ρ i) * C i c) = fun c => (x c + sm k fun i => ρ i * C i c) + τ * C k c:=by
    funext c
    rw [sm, if_pos rfl, sm_congr k (f:=fun i => (if i = k then τ else ρ i) * C i c) (g:=fun i => ρ i * C i c) fun i hi => by rw [if_neg (by omega)]]
    omega
   rw [e, sm, Int.mul_add]
   omega
theorem sm_le {f : Nat -> Int} {T : Int} : ∀ k : Nat, (∀ i, i < k -> f i <= T) -> sm k f <= k * T
 | 0, _ => by simp [sm]
 | k + 1, h => by
  have h1:=sm_le (f:=f) (T:=T) k fun i hi => h i (by omega)
  have h2:=h k (by omega)
  rw [sm, Int.natCast_add, Int.add_mul]
  omega
theorem greatest_div {m : Nat} {w : Nat -> Int} {i0 : Nat} (hi0 : i0 < m) (hw : w i0 ≠ 0) : ∃ g : Nat, 0 < g /\ (∀ i, i < m -> (g : Int) ∣ w i) /\ ∀ d : Nat, (∀ i, i < m -> (d : Int) ∣ w i) -> d <= g:=by
 have hb : ∀ d : Nat, (∀ i, i < m -> (d : Int) ∣ w i) -> d <= (w i0).natAbs:=fun d hd => Nat.le_of_dvd (by omega) (by have:=Int.natAbs_dvd_natAbs.mpr (hd i0 hi0); simpa using this)
 have key : ∀ B : Nat, (∃ d : Nat, B <= d /\ 0 < d /\ (∀ i, i < m -> (d : Int) ∣ w i)) -> B <= (w i0).natAbs -> ∃ g : Nat, 0 < g /\ (∀ i, i < m -> (g : Int) ∣ w i) /\ ∀ d : Nat, (∀ i, i < m -> (d : Int) ∣ w i) -> d <= g:=by
  intro B
  generalize hr : (w i0).natAbs - B = r
  induction r using Nat.strongRecOn generalizing B with
  | ind r ih =>
   rintro ⟨d, h1, h2, h3⟩ hB
   by_cases hmax : ∀ e : Nat, (∀ i, i < m -> (e : Int) ∣ w i) -> e <= d
   ·exact ⟨d, h2, h3, hmax⟩
   ·obtain ⟨e, he, hlt⟩ : ∃ e : Nat, (∀ i, i < m -> (e : Int) ∣ w i) /\ d < e:=Classical.byContradiction fun hno => hmax fun e he => Classical.byContradiction fun h => hno ⟨e, he, by omega⟩
    have hee:=hb e he
    exact ih ((w i0).natAbs - e) (by omega) e rfl ⟨e, Nat.le_refl _, by omega, he⟩ hee
 exact key 1 ⟨1, Nat.le_refl _, by omega, fun i _ => by simpa using Int.one_dvd _⟩ (by omega)
theorem extend_row {n k : Nat} {C : Mat} {s : Nat -> Int} (hC : (dt n C).natAbs = 1) (hk : k < n) (cop : Coprime (n - k) fun i => s (i + k)) :
  ∃ C' : Mat, (dt n C').natAbs = 1 /\ (∀ i c, i < k -> c < n -> C' i c = C i c) /\ C' k = fun c => sm n fun i => s i * C i c:=by
 obtain ⟨U, hU, hUd⟩:=row_change (n - k) (size (n - k) fun i => s (i + k)).toNat (fun i => s (i + k)) (by omega) (by omega) cop
 let D : Mat:=fun i c => if i < k then (if c = i then 1 else 0) else if i = k then s c else if c < k then 0 else U (i - k) (c - k)
 have hD : (dt n D).natAbs = 1:=by
  rw [dt_unit_rows k n D (by omega) fun i c hi _ => by show (if i < k then _ else _) = _; rw [if_pos hi]]
  rw [dt_congr (n - k) (N:=U) fun r c hr hc => ?_]
  ·exact hUd
  ·show (if r + k < k then _ else if r + k = k then s (c + k) else if c + k < k then 0 else U (r + k - k) (c + k - k)) = U r c
   rw [if_neg (by omega)]
   by_cases e : r = 0
   ·rw [if_pos (by omega), e, hU c hc]
   ·rw [if_neg (by omega), if_neg (by omega), Nat.add_sub_cancel, Nat.add_sub_cancel]
 refine ⟨mul n D C, by rw [dt_mul, Int.natAbs_mul, hD, hC], fun i c hi hc => ?_, ?_⟩
 ·show sm n (fun a => D i a * C a c) = C i c
  rw [sm_single n i _ (by omega) fun a _ hne => by show (if i < k then (if a = i then 1 else 0) else _) * _ = _; rw [if_pos hi, if_neg hne, Int.zero_mul]]
  show (if i < k then (if i = i then 1 else 0) else _) * _ = _
  rw [if_pos hi, if_pos rfl, Int.one_mul]
 ·have e : mul n D C k = fun c => sm n fun i => s i * C i c:=by
   funext c
   refine sm_congr n fun a _ => ?_
   show (if k < k then _ else if k = k then s a else _) * _ = _
   rw [if_neg (by omega), if_pos rfl]
  exact e
theorem short_beyond {n k : Nat} {M C : Mat} {T : Int} (hs : Symm n M) (hp : ∀ x, 0 <= pr n M x x) (hC : (dt n C).natAbs = 1) (hk : k < n) (hk3 : k <= 3) (z t : Nat -> Int) (hz : pr n M z z <= T) (ht : ∀ c, c < n -> z c = sm n fun i => t i * C i c) (i0 : Nat) (hk0 : k <= i0) (hi0 : i0 < n) (hne : t i0 ≠ 0) (hb : ∀ i, i < k -> pr n M (C i) (C i) <= T) :
  ∃ C' : Mat, (dt n C').natAbs = 1 /\ (∀ i c, i < k -> c < n -> C' i c = C i c) /\ pr n M (C' k) (C' k) <= T:=by
 have hT0 : 0 <= T:=by
  have h2:=hp z
  omega
 obtain ⟨g, hg, gd, gm⟩:=greatest_div (m:=n - k) (w:=fun i => t (i + k)) (i0:=i0 - k) (by omega) (by show t (i0 - k + k) ≠ 0; rw [Nat.sub_add_cancel hk0]; exact hne)
 obtain ⟨s, hs1, hs2⟩ : ∃ s : Nat -> Int, (∀ i, k <= i -> i < n -> t i = g * s i) /\ pr n M (fun c => sm n fun i => s i * C i c) (fun c => sm n fun i => s i * C i c) <= T:=by
  by_cases g1 : g = 1
  ·refine ⟨t, fun i _ _ => by rw [g1]; simp, ?_⟩
   have e : pr n M (fun c => sm n fun i => t i * C i c) (fun c => sm n fun i => t i * C i c) = pr n M z z:=pr_congr (fun _ _ _ _ => rfl) (fun c hc => (ht c hc).symm) (fun c hc => (ht c hc).symm)
   rw [e]
   exact hz
  ·obtain ⟨ρ, r1, r2⟩:=rounding (C:=C) hs hp z t g hg k
   refine ⟨fun i => if i < k then (t i + ρ i) / g else t i / g, fun i hi hn => ?_, ?_⟩
   ·show t i = (g : Int) * (if i < k then (t i + ρ i) / g else t i / g)
    rw [if_neg (by omega)]
    have:=gd (i - k) (by omega)
    rw [Nat.sub_add_cancel hi] at this
    exact (Int.mul_ediv_cancel' this).symm
   ·have e : ∀ c, c < n -> z c + sm k (fun i => ρ i * C i c) = g * sm n (fun i => (if i < k then (t i + ρ i) / g else t i / g) * C i c) + 0 * z c:=fun c hc => by
     rw [ht c hc, <- sm_mul, Int.zero_mul, Int.add_zero]
     have split : sm k (fun i => ρ i * C i c) = sm n (fun i => if i < k then ρ i * C i c else 0):=by
      have : ∀ d, sm (k + d) (fun i => if i < k then ρ i * C i c else 0) = sm k (fun i => ρ i * C i c):=by
       intro d
       induction d with
       | zero => exact sm_congr _ fun i hi => by rw [if_pos (by omega)]
       | succ d ih => rw [Nat.add_succ, sm, ih, if_neg (by omega), Int.add_zero]
      have e:=this (n - k)
      rw [Nat.add_sub_cancel' (by omega)] at e
      exact e.symm
     rw [split, <- sm_add]
     refine sm_congr n fun i hi => ?_
     by_cases q : i < k
     ·rw [if_pos q, if_pos q, <- Int.mul_assoc, Int.mul_ediv_cancel' (r1 i q)]
      grind
     ·rw [if_neg q, if_neg q, <- Int.mul_assoc]
      have:=gd (i - k) (by omega)
      rw [Nat.sub_add_cancel (by omega)] at this
      rw [Int.mul_ediv_cancel' this]
      omega
    have e2 : pr n M (fun c => z c + sm k fun i => ρ i * C i c) (fun c => z c + sm k fun i => ρ i * C i c) = (g : Int) * g * pr n M (fun c => sm n fun i => (if i < k then (t i + ρ i) / g else t i / g) * C i c) (fun c => sm n fun i => (if i < k then (t i + ρ i) / g else t i / g) * C i c):=by
     rw [pr_congr (fun _ _ _ _ => rfl) e e, pr_lin_l, pr_lin_r, Int.zero_mul, Int.zero_mul]
     grind
    rw [e2] at r2
    generalize pr n M (fun c => sm n fun i => (if i < k then (t i + ρ i) / g else t i / g) * C i c) (fun c => sm n fun i => (if i < k then (t i + ρ i) / g else t i / g) * C i c) = y at *
    have hsum:=sm_le (f:=fun i => pr n M (C i) (C i)) (T:=T) k hb
    have hx:=hz
    have hg2 : (2 : Int) <= (g : Int):=by omega
    generalize (g : Int) = G at *
    generalize sm k (fun i => pr n M (C i) (C i)) = S at *
    have hkT : (k : Int) * T <= 3 * T:=Int.mul_le_mul_of_nonneg_right (by omega) hT0
    have h1 : G * G * S <= G * G * (3 * T):=Int.mul_le_mul_of_nonneg_left (by omega) (sq_nn G)
    have h4 : 4 <= G * G:=by
     have:=Int.mul_le_mul hg2 hg2 (by omega) (by omega)
     omega
    have h2 : 4 * T <= G * G * T:=Int.mul_le_mul_of_nonneg_right h4 hT0
    have h3 : G * G * (4 * y) <= G * G * (4 * T):=by
     have a1 : 4 * (G * G * y) <= 4 * T + G * G * (3 * T):=by omega
     have a2 : G * G * (4 * T) = G * G * T + G * G * (3 * T):=by grind
     have a3 : G * G * (4 * y) = 4 * (G * G * y):=by grind
     omega
    have h5 : 4 * y <= 4 * T:=Int.le_of_mul_le_mul_left h3 (by omega)
    omega
 have cop : Coprime (n - k) fun i => s (i + k):=fun d hd => by
  have:=gm (g * d) fun i hi => by
   obtain ⟨q, hq⟩:=hd i hi
   refine ⟨q, ?_⟩
   show t (i + k) = _
   rw [hs1 (i + k) (by omega) (by omega)]
   have hq : s (i + k) = (d : Int) * q:=hq
   rw [hq, Int.natCast_mul]
   grind
  have hd0 : d ≠ 0:=fun e => by
   obtain ⟨q, hq⟩:=hd (i0 - k) (by omega)
   have hq : s (i0 - k + k) = (d : Int) * q:=hq
   rw [Nat.sub_add_cancel hk0, e] at hq
   apply hne
   rw [hs1 i0 hk0 hi0, hq]
   simp
  have h1 : g * d <= g * 1:=by omega
  have:=Nat.le_of_mul_le_mul_left h1 hg
  omega
 obtain ⟨C', h1, h2, h3⟩:=extend_row hC hk cop
 exact ⟨C', h1, h2, by rw [h3]; exact hs2⟩
theorem mink_step {n k : Nat} {M C : Mat} {T : Int} (hs : Symm n M) (hp : ∀ x, 0 <= pr n M x x) (hC : (dt n C).natAbs = 1) (hk : k < n) (hk3 : k <= 3) (hT : ∀ j, j < n -> pr n M (ur j) (ur j) <= T) (hb : ∀ i, i < k -> pr n M (C i) (C i) <= T) :
  ∃ C' : Mat, (dt n C').natAbs = 1 /\ (∀ i c, i < k -> c < n -> C' i c = C i c) /\ pr n M (C' k) (C' k) <= T:=by
 have hch : ∀ j, ∃ t : Nat -> Int, ∀ c, c < n -> ur j c = sm n fun i => t i * C i c:=fun j => coords hC (ur j)
 obtain ⟨j, i0, hj, hk0, hi0, hne⟩:=beyond (C:=C) hk (fun j => Classical.choose (hch j)) fun j _ => Classical.choose_spec (hch j)
 exact short_beyond hs hp hC hk hk3 (ur j) _ (hT j hj) (Classical.choose_spec (hch j)) i0 hk0 hi0 hne hb
end Fm
namespace Fm
open Ql78 (pair value at_ rows form upTo before changed key first)
def kf (n : Nat) (G : Mat) : List Int:=(List.range n).flatMap fun i => (List.range (i + 1)).map fun j => G i (i - j)
theorem key_kf (n : Nat) (a : Ql78.Rows) : key n a = kf n (at_ a):=rfl
theorem kf_congr {n : Nat} {G G' : Mat} (h : ∀ i j, i < n -> j < n -> G i j = G' i j) : kf n G = kf n G':=by
 unfold kf
 rw [List.flatMap_def, List.flatMap_def]
 congr 1
 refine List.map_congr_left fun i hi => List.map_congr_left fun j hj => ?_
 have hi:=List.mem_range.mp hi
 exact h _ _ hi (by omega)
theorem before_cut : ∀ (p : List Int) (x y : Int) (r s : List Int), x < y -> before (p ++ x :: r) (p ++ y :: s) = true
 | [], x, y, r, s, h => by
  show before (x :: r) (y :: s) = true
  unfold Ql78.before
  simp [h]
 | a :: p, x, y, r, s, h => by
  show before (a :: (p ++ x :: r)) (a :: (p ++ y :: s)) = true
  unfold Ql78.before
  simp [before_cut p x y r s h]
theorem kf_cut (k d : Nat) (G : Mat) : ∃ r, kf (k + 1 + d) G = kf k G ++ G k k :: r:=by
 unfold kf
 rw [List.range_add (n:=k + 1), List.range_succ, List.flatMap_append, List.flatMap_append]
 refine ⟨((List.range k).map fun j => G k (k - (j + 1))) ++ ((List.range d).map fun x => k + 1 + x).flatMap (fun i => (List.range (i + 1)).map fun j => G i (i - j)), ?_⟩
 have e : (([k] : List Nat).flatMap fun i => (List.range (i + 1)).map fun j => G i (i - j)) = G k k :: ((List.range k).map fun j => G k (k - (j + 1))):=by
  simp only [List.flatMap_cons, List.flatMap_nil, List.append_nil]
  rw [List.range_succ_eq_map, List.map_cons, List.map_map]
  rfl
 rw [e, List.append_assoc]
 rfl
def gr (n : Nat) (M C : Mat) : Mat:=fun i j => pr n M (C i) (C j)
theorem kf_less {n k : Nat} {M C C' : Mat} (hk : k < n) (h : ∀ i c, i < k -> c < n -> C' i c = C i c) (hl : pr n M (C' k) (C' k) < pr n M (C k) (C k)) : before (kf n (gr n M C')) (kf n (gr n M C)) = true:=by
 obtain ⟨d, rfl⟩ : ∃ d, n = k + 1 + d:=⟨n - k - 1, by omega⟩
 obtain ⟨r, e1⟩:=kf_cut k d (gr (k + 1 + d) M C')
 obtain ⟨s, e2⟩:=kf_cut k d (gr (k + 1 + d) M C)
 rw [e1, e2, kf_congr (n:=k) (G:=gr (k + 1 + d) M C') (G':=gr (k + 1 + d) M C) fun i j hi hj => pr_congr (fun _ _ _ _ => rfl) (fun c hc => h i c hi hc) (fun c hc => h j c hj hc)]
 exact before_cut _ _ _ _ _ hl
theorem shorten {n : Nat} {M : Mat} {T : Int} (hs : Symm n M) (hp : ∀ x, 0 <= pr n M x x) (hn : n <= 4) (hT : ∀ j, j < n -> pr n M (ur j) (ur j) <= T) (C : Mat) (hC : (dt n C).natAbs = 1) : ∀ k, k <= n ->
  ∃ C' : Mat, (dt n C').natAbs = 1 /\ (∀ i, i < k -> pr n M (C' i) (C' i) <= T) /\ (kf n (gr n M C') = kf n (gr n M C) \/ before (kf n (gr n M C')) (kf n (gr n M C)) = true)
 | 0, _ => ⟨C, hC, fun i hi => by omega, .inl rfl⟩
 | k + 1, hk => by
  obtain ⟨C1, d1, l1, b1⟩:=shorten hs hp hn hT C hC k (by omega)
  by_cases q : pr n M (C1 k) (C1 k) <= T
  ·refine ⟨C1, d1, fun i hi => ?_, b1⟩
   by_cases e : i = k
   ·rw [e]; exact q
   ·exact l1 i (by omega)
  ·obtain ⟨C2, d2, s2, l2⟩:=mink_step hs hp d1 (by omega : k < n) (by omega) hT l1
   have lt:=kf_less (M:=M) (by omega : k < n) s2 (by omega)
   refine ⟨C2, d2, fun i hi => ?_, .inr ?_⟩
   ·by_cases e : i = k
    ·rw [e]; exact l2
    ·rw [pr_congr (fun _ _ _ _ => rfl) (fun c hc => s2 i c (by omega) hc) (fun c hc => s2 i c (by omega) hc)]
     exact l1 i (by omega)
   ·rcases b1 with b1 | b1
    ·rw [<- b1]; exact lt
    ·exact before_trans _ _ _ lt b1
def toR (n : Nat) (C : Mat) : Ql78.Rows:=(List.range n).map fun i => (List.range n).map fun j => C i j
theorem toR_get {n : Nat} {C : Mat} {i : Nat} (hi : i < n) : (toR n C).getD i [] = (List.range n).map fun j => C i j:=by
 unfold toR
 rw [List.getD_eq_getElem?_getD, List.getElem?_map, List.getElem?_range hi]
 rfl
theorem xv_map {n : Nat} {f : Nat -> Int} {j : Nat} (hj : j < n) : xv ((List.range n).map f) j = f j:=by
 unfold xv
 rw [List.getD_eq_getElem?_getD, List.getElem?_map, List.getElem?_range hj]
 rfl
theorem at_toR {n : Nat} {C : Mat} {i j : Nat} (hi : i < n) (hj : j < n) : at_ (toR n C) i j = C i j:=by
 unfold Ql78.at_
 rw [toR_get hi]
 exact xv_map hj
theorem key_toR {n : Nat} {l : List Int} {C : Mat} : key n (changed (rows n l) (toR n C)) = kf n (gr n (gm n l) C):=by
 rw [key_kf]
 refine kf_congr fun i j hi hj => ?_
 rw [at_changed (by simp [toR]) hi hj, toR_get hi, toR_get hj, pair_rows (by simp) (by simp)]
 exact pr_congr (fun _ _ _ _ => rfl) (fun c hc => xv_map hc) (fun c hc => xv_map hc)
theorem key_rows {n : Nat} {l : List Int} {c : Ql78.Rows} (hc : c.length = n) (hr : ∀ r ∈ c, r.length = n) : key n (changed (rows n l) c) = kf n (gr n (gm n l) (at_ c)):=by
 have get : ∀ i, i < n -> (c.getD i []).length = n:=fun i hi => by
  have hi : i < c.length:=by omega
  rw [List.getD_eq_getElem?_getD, List.getElem?_eq_getElem hi]
  exact hr _ (List.getElem_mem hi)
 rw [key_kf]
 refine kf_congr fun i j hi hj => ?_
 rw [at_changed hc hi hj, pair_rows (get i hi) (get j hj)]
 rfl
theorem unit_le {n : Nat} {l : List Int} {j : Nat} (hj : j < n) : pr n (gm n l) (ur j) (ur j) <= top n l:=by
 have e : pr n (gm n l) (ur j) (ur j) = gm n l j j:=by
  rw [<- pr_un (gm n l) hj hj]
  exact pr_congr (fun _ _ _ _ => rfl) (fun c hc => by rw [xv_un hc]; rfl) (fun c hc => by rw [xv_un hc]; rfl)
 rw [e]
 exact top_ge hj
theorem first_all {n : Nat} {l : List Int} {c : Ql78.Rows} (h : form n l = true) (hl : l.length = n * n) (hn : n <= 4) (hc : c.length = n) (hr : ∀ r ∈ c, r.length = n) (hd : (Ql78.det n c).natAbs = 1) :
  before (key n (changed (rows n l) c)) (key n (first n (rows n l))) = false:=by
 obtain ⟨C, d, lo, b⟩:=shorten (M:=gm n l) (T:=top n l) (form_symm h) (fun x => (pr_pos n _ (form_symm h) (form_lead h) x).1) hn (fun j hj => unit_le hj) (at_ c) (by rw [<- det_eq]; exact hd) n (Nat.le_refl n)
 have inS : InS n l (toR n C):=by
  refine ⟨by simp [toR], fun r hr => ?_, fun r hr => ?_, ?_⟩
  ·obtain ⟨i, _, rfl⟩:=List.mem_map.mp hr
   simp
  ·obtain ⟨i, hi, rfl⟩:=List.mem_map.mp hr
   have hi:=List.mem_range.mp hi
   rw [value_rows (by simp)]
   rw [pr_congr (fun _ _ _ _ => rfl) (fun c hc => xv_map hc) (fun c hc => xv_map hc)]
   exact lo i hi
  ·rw [det_eq, dt_congr n fun i j hi hj => at_toR hi hj]
   exact d
 have z:=(first_char h hl).2 _ inS
 rw [key_toR] at z
 rw [key_rows hc hr]
 rcases b with b | b
 ·rw [<- b]; exact z
 ·cases q : before (kf n (gr n (gm n l) (at_ c))) (key n (first n (rows n l))) with
  | false => rfl
  | true => rw [before_trans _ _ _ b q] at z; cases z
end Fm
namespace Fm
def ins (j : Int) : List Int -> List Int
 | [] => [j]
 | a :: t => if j < a then j :: a :: t else a :: ins j t
def ups (k : List Int) (v : Int) : List (List Int × Int) -> List (List Int × Int)
 | [] => [(k, 0 + v)]
 | p :: t => if p.1 = k then (k, p.2 + v) :: t else p :: ups k v t
def beh (j : Int) (s : List Int) : Nat:=(s.filter fun c => decide (j < c)).length
def mstep (x : Nat -> Int) (p : List Int × Int) (d : List (List Int × Int)) (j : Nat) : List (List Int × Int) :=
 if (j : Int) ∈ p.1 then d else ups (ins j p.1) ((if beh j p.1 % 2 = 0 then 1 else -1) * p.2 * x j) d
def longer (n : Nat) (x : Nat -> Int) (D : List (List Int × Int)) : List (List Int × Int) :=
 D.foldl (fun d p => (List.range n).foldl (mstep x p) d) []
def subl : List Int -> Nat -> List (List Int)
 | _, 0 => [[]]
 | [], _ + 1 => []
 | a :: t, k + 1 => (subl t k).map (a :: ·) ++ subl t (k + 1)
def subs (n k : Nat) : List (List Int):=subl ((List.range n).map fun (i : Nat) => (i : Int)) k
def sub (k : Nat) (C : Mat) (S : List Int) : Int:=dt k fun i j => C i (S.getD j 0).toNat
def mset (n k : Nat) (C : Mat) : List (List Int × Int):=(subs n k).map fun S => (S, sub k C S)
theorem subs10 : subs 1 0 = [[]]:=rfl
theorem subs11 : subs 1 1 = [[0]]:=rfl
theorem subs20 : subs 2 0 = [[]]:=rfl
theorem subs21 : subs 2 1 = [[0],[1]]:=rfl
theorem subs22 : subs 2 2 = [[0,1]]:=rfl
theorem subs30 : subs 3 0 = [[]]:=rfl
theorem subs31 : subs 3 1 = [[0],[1],[2]]:=rfl
theorem subs32 : subs 3 2 = [[0,1],[0,2],[1,2]]:=rfl
theorem subs33 : subs 3 3 = [[0,1,2]]:=rfl
theorem subs40 : subs 4 0 = [[]]:=rfl
theorem subs41 : subs 4 1 = [[0],[1],[2],[3]]:=rfl
theorem subs42 : subs 4 2 = [[0,1],[0,2],[0,3],[1,2],[1,3],[2,3]]:=rfl
theorem subs43 : subs 4 3 = [[0,1,2],[0,1,3],[0,2,3],[1,2,3]]:=rfl
theorem subs44 : subs 4 4 = [[0,1,2,3]]:=rfl
theorem sub_lap (k : Nat) (C : Mat) (S : List Int) (hS : S.length = k + 1) : sub (k + 1) C S = sm (k + 1) fun p => sg (k + p) * (sub k C (S.eraseIdx p) * C k (S.getD p 0).toNat):=by
 unfold sub
 rw [<- laplace k _ k (by omega)]
 refine sm_congr _ fun p hp => ?_
 unfold co
 have e : sg (k + p) = sg k * sg p:=by
  unfold sg
  rcases Nat.mod_two_eq_zero_or_one k with h | h <;> rcases Nat.mod_two_eq_zero_or_one p with g | g <;> simp [Nat.add_mod, h, g]
 rw [e, dt_congr k (N:=fun i j => C i ((S.eraseIdx p).getD j 0).toNat) fun i j hi hj => ?_]
 ·grind
 ·unfold mij
  show C (sk k i) _ = _
  unfold sk
  rw [if_pos hi]
  congr 2
  simp only [List.getD_eq_getElem?_getD, List.getElem?_eraseIdx]
  split <;> rfl
theorem longer_10 (x : Nat -> Int) (a0 : Int) : longer 1 x [([], a0)] =
  [([0], 0 + 1 * a0 * x 0)]:=rfl
theorem mset_10 (C : Mat) : longer 1 (C 0) (mset 1 0 C) = mset 1 1 C:=by
 simp only [mset, subs10, subs11, List.map]
 rw [longer_10]
 simp only [sub_lap 0 C [_] rfl, sm, List.eraseIdx, List.getD_cons_zero, List.getD_cons_succ, sg]
 simp
 try grind
theorem longer_20 (x : Nat -> Int) (a0 : Int) : longer 2 x [([], a0)] =
  [([0], 0 + 1 * a0 * x 0), ([1], 0 + 1 * a0 * x 1)]:=rfl
theorem mset_20 (C : Mat) : longer 2 (C 0) (mset 2 0 C) = mset 2 1 C:=by
 simp only [mset, subs20, subs21, List.map]
 rw [longer_20]
 simp only [sub_lap 0 C [_] rfl, sm, List.eraseIdx, List.getD_cons_zero, List.getD_cons_succ, sg]
 simp
 try grind
theorem longer_21 (x : Nat -> Int) (a0 a1 : Int) : longer 2 x [([0], a0), ([1], a1)] =
  [([0, 1], 0 + 1 * a0 * x 1 + -1 * a1 * x 0)]:=rfl
theorem mset_21 (C : Mat) : longer 2 (C 1) (mset 2 1 C) = mset 2 2 C:=by
 simp only [mset, subs21, subs22, List.map]
 rw [longer_21]
 simp only [sub_lap 1 C [_, _] rfl, sm, List.eraseIdx, List.getD_cons_zero, List.getD_cons_succ, sg]
 simp
 try grind
theorem longer_30 (x : Nat -> Int) (a0 : Int) : longer 3 x [([], a0)] =
  [([0], 0 + 1 * a0 * x 0), ([1], 0 + 1 * a0 * x 1), ([2], 0 + 1 * a0 * x 2)]:=rfl
theorem mset_30 (C : Mat) : longer 3 (C 0) (mset 3 0 C) = mset 3 1 C:=by
 simp only [mset, subs30, subs31, List.map]
 rw [longer_30]
 simp only [sub_lap 0 C [_] rfl, sm, List.eraseIdx, List.getD_cons_zero, List.getD_cons_succ, sg]
 simp
 try grind
theorem longer_31 (x : Nat -> Int) (a0 a1 a2 : Int) : longer 3 x [([0], a0), ([1], a1), ([2], a2)] =
  [([0, 1], 0 + 1 * a0 * x 1 + -1 * a1 * x 0), ([0, 2], 0 + 1 * a0 * x 2 + -1 * a2 * x 0), ([1, 2], 0 + 1 * a1 * x 2 + -1 * a2 * x 1)]:=rfl
theorem mset_31 (C : Mat) : longer 3 (C 1) (mset 3 1 C) = mset 3 2 C:=by
 simp only [mset, subs31, subs32, List.map]
 rw [longer_31]
 simp only [sub_lap 1 C [_, _] rfl, sm, List.eraseIdx, List.getD_cons_zero, List.getD_cons_succ, sg]
 simp
 try grind
theorem longer_32 (x : Nat -> Int) (a0 a1 a2 : Int) : longer 3 x [([0, 1], a0), ([0, 2], a1), ([1, 2], a2)] =
  [([0, 1, 2], 0 + 1 * a0 * x 2 + -1 * a1 * x 1 + 1 * a2 * x 0)]:=by
 simp [longer, mstep, ups, ins, beh, List.range_succ]
theorem mset_32 (C : Mat) : longer 3 (C 2) (mset 3 2 C) = mset 3 3 C:=by
 simp only [mset, subs32, subs33, List.map]
 rw [longer_32]
 simp only [sub_lap 2 C [_, _, _] rfl, sm, List.eraseIdx, List.getD_cons_zero, List.getD_cons_succ, sg]
 simp
 try grind
theorem longer_40 (x : Nat -> Int) (a0 : Int) : longer 4 x [([], a0)] =
  [([0], 0 + 1 * a0 * x 0), ([1], 0 + 1 * a0 * x 1), ([2], 0 + 1 * a0 * x 2), ([3], 0 + 1 * a0 * x 3)]:=rfl
theorem mset_40 (C : Mat) : longer 4 (C 0) (mset 4 0 C) = mset 4 1 C:=by
 simp only [mset, subs40, subs41, List.map]
 rw [longer_40]
 simp only [sub_lap 0 C [_] rfl, sm, List.eraseIdx, List.getD_cons_zero, List.getD_cons_succ, sg]
 simp
 try grind
theorem longer_41 (x : Nat -> Int) (a0 a1 a2 a3 : Int) : longer 4 x [([0], a0), ([1], a1), ([2], a2), ([3], a3)] =
  [([0, 1], 0 + 1 * a0 * x 1 + -1 * a1 * x 0), ([0, 2], 0 + 1 * a0 * x 2 + -1 * a2 * x 0), ([0, 3], 0 + 1 * a0 * x 3 + -1 * a3 * x 0), ([1, 2], 0 + 1 * a1 * x 2 + -1 * a2 * x 1), ([1, 3], 0 + 1 * a1 * x 3 + -1 * a3 * x 1), ([2, 3], 0 + 1 * a2 * x 3 + -1 * a3 * x 2)]:=rfl
theorem mset_41 (C : Mat) : longer 4 (C 1) (mset 4 1 C) = mset 4 2 C:=by
 simp only [mset, subs41, subs42, List.map]
 rw [longer_41]
 simp only [sub_lap 1 C [_, _] rfl, sm, List.eraseIdx, List.getD_cons_zero, List.getD_cons_succ, sg]
 simp
 try grind
theorem longer_42 (x : Nat -> Int) (a0 a1 a2 a3 a4 a5 : Int) : longer 4 x [([0, 1], a0), ([0, 2], a1), ([0, 3], a2), ([1, 2], a3), ([1, 3], a4), ([2, 3], a5)] =
  [([0, 1, 2], 0 + 1 * a0 * x 2 + -1 * a1 * x 1 + 1 * a3 * x 0), ([0, 1, 3], 0 + 1 * a0 * x 3 + -1 * a2 * x 1 + 1 * a4 * x 0), ([0, 2, 3], 0 + 1 * a1 * x 3 + -1 * a2 * x 2 + 1 * a5 * x 0), ([1, 2, 3], 0 + 1 * a3 * x 3 + -1 * a4 * x 2 + 1 * a5 * x 1)]:=by
 simp [longer, mstep, ups, ins, beh, List.range_succ]
theorem mset_42 (C : Mat) : longer 4 (C 2) (mset 4 2 C) = mset 4 3 C:=by
 simp only [mset, subs42, subs43, List.map]
 rw [longer_42]
 simp only [sub_lap 2 C [_, _, _] rfl, sm, List.eraseIdx, List.getD_cons_zero, List.getD_cons_succ, sg]
 simp
 try grind
theorem longer_43 (x : Nat -> Int) (a0 a1 a2 a3 : Int) : longer 4 x [([0, 1, 2], a0), ([0, 1, 3], a1), ([0, 2, 3], a2), ([1, 2, 3], a3)] =
  [([0, 1, 2, 3], 0 + 1 * a0 * x 3 + -1 * a1 * x 2 + 1 * a2 * x 1 + -1 * a3 * x 0)]:=by
 simp [longer, mstep, ups, ins, beh, List.range_succ]
theorem mset_43 (C : Mat) : longer 4 (C 3) (mset 4 3 C) = mset 4 4 C:=by
 simp only [mset, subs43, subs44, List.map]
 rw [longer_43]
 simp only [sub_lap 3 C [_, _, _, _] rfl, sm, List.eraseIdx, List.getD_cons_zero, List.getD_cons_succ, sg]
 simp
 try grind
theorem mset_next {n k : Nat} (hn : n <= 4) (hk : k < n) (C : Mat) : longer n (C k) (mset n k C) = mset n (k + 1) C:=by
 rcases n with _ | _ | _ | _ | _ | n
 ·omega
 ·rcases k with _ | k
  ·exact mset_10 C
  ·omega
 ·rcases k with _ | _ | k
  ·exact mset_20 C
  ·exact mset_21 C
  ·omega
 ·rcases k with _ | _ | _ | k
  ·exact mset_30 C
  ·exact mset_31 C
  ·exact mset_32 C
  ·omega
 ·rcases k with _ | _ | _ | _ | k
  ·exact mset_40 C
  ·exact mset_41 C
  ·exact mset_42 C
  ·exact mset_43 C
  ·omega
 ·omega
end Fm
namespace Fm
def Prim (n k : Nat) (C : Mat) : Prop:=∃ U : Mat, (dt n U).natAbs = 1 /\ ∀ i c, i < k -> c < n -> U i c = C i c
theorem Prim.congr {n k : Nat} {C D : Mat} (h : ∀ i c, i < k -> c < n -> C i c = D i c) (p : Prim n k C) : Prim n k D:=by
 obtain ⟨U, h1, h2⟩:=p
 exact ⟨U, h1, fun i c hi hc => (h2 i c hi hc).trans (h i c hi hc)⟩
theorem Prim.less {n k m : Nat} {C : Mat} (h : m <= k) (p : Prim n k C) : Prim n m C:=by
 obtain ⟨U, h1, h2⟩:=p
 exact ⟨U, h1, fun i c hi hc => h2 i c (by omega) hc⟩
theorem Prim.zero {n : Nat} {C : Mat} : Prim n 0 C:=⟨one, by rw [dt_one]; rfl, fun i c hi => by omega⟩
theorem prim_full {n : Nat} {C : Mat} : Prim n n C ↔ (dt n C).natAbs = 1:=by
 constructor
 ·rintro ⟨U, h1, h2⟩
  rw [<- dt_congr n h2]
  exact h1
 ·exact fun h => ⟨C, h, fun _ _ _ _ => rfl⟩
def Dv (d : Int) (D : List (List Int × Int)) : Prop:=∀ p ∈ D, d ∣ p.2
theorem Dv.ups {d : Int} {k : List Int} {v : Int} (hv : d ∣ v) : ∀ {D : List (List Int × Int)}, Dv d D -> Dv d (ups k v D)
 | [], _ => by
  intro p hp
  simp only [Fm.ups, List.mem_singleton] at hp
  rw [hp]
  simpa using hv
 | q :: t, h => by
  intro p hp
  rw [Fm.ups] at hp
  split at hp
  ·rcases List.mem_cons.mp hp with e | e
   ·rw [e]
    exact Int.dvd_add (h q (List.mem_cons_self ..)) hv
   ·exact h p (List.mem_cons_of_mem _ e)
  ·rcases List.mem_cons.mp hp with e | e
   ·rw [e]
    exact h q (List.mem_cons_self ..)
   ·exact Dv.ups (D:=t) hv (fun r hr => h r (List.mem_cons_of_mem _ hr)) p e
theorem Dv.mstep {d : Int} {x : Nat -> Int} {p : List Int × Int} (hp : d ∣ p.2) {D : List (List Int × Int)} (h : Dv d D) (j : Nat) : Dv d (mstep x p D j):=by
 unfold Fm.mstep
 split
 ·exact h
 ·exact Dv.ups (Int.dvd_mul_of_dvd_left (Int.dvd_mul_of_dvd_right hp)) h
theorem fold_keeps {α β : Type} {P : β -> Prop} {f : β -> α -> β} : ∀ (L : List α) (b : β), P b -> (∀ a ∈ L, ∀ b, P b -> P (f b a)) -> P (L.foldl f b)
 | [], _, h, _ => h
 | a :: t, b, h, hs => fold_keeps t (f b a) (hs a (List.mem_cons_self ..) b h) fun c hc => hs c (List.mem_cons_of_mem _ hc)
theorem Dv.longer {d : Int} {n : Nat} {x : Nat -> Int} {D : List (List Int × Int)} (h : Dv d D) : Dv d (longer n x D) :=
 fold_keeps D [] (fun _ hp => nomatch hp) fun p hp b hb => fold_keeps (List.range n) b hb fun j _ c hc => Dv.mstep (h p hp) hc j
theorem mset_full {n : Nat} (hn : n <= 4) (h1 : 1 <= n) (C : Mat) : mset n n C = [((List.range n).map fun (i : Nat) => (i : Int), dt n C)]:=by
 rcases n with _ | _ | _ | _ | _ | n
 ·omega
 ·exact congrArg (fun z => [([0], z)]) (dt_congr 1 fun i j hi hj => by rcases j with _ | j <;> first | rfl | omega)
 ·exact congrArg (fun z => [([0, 1], z)]) (dt_congr 2 fun i j hi hj => by rcases j with _ | _ | j <;> first | rfl | omega)
 ·exact congrArg (fun z => [([0, 1, 2], z)]) (dt_congr 3 fun i j hi hj => by rcases j with _ | _ | _ | j <;> first | rfl | omega)
 ·exact congrArg (fun z => [([0, 1, 2, 3], z)]) (dt_congr 4 fun i j hi hj => by rcases j with _ | _ | _ | _ | j <;> first | rfl | omega)
 ·omega
theorem subl_mem : ∀ (L : List Int) (k : Nat) (S : List Int), S ∈ subl L k -> S.length = k /\ ∀ a ∈ S, a ∈ L
 | _, 0, S, h => by
  simp only [subl, List.mem_singleton] at h
  rw [h]
  exact ⟨rfl, fun a ha => nomatch ha⟩
 | [], k + 1, S, h => nomatch h
 | a :: t, k + 1, S, h => by
  rcases List.mem_append.mp h with e | e
  ·obtain ⟨T, hT, rfl⟩:=List.mem_map.mp e
   obtain ⟨h1, h2⟩:=subl_mem t k T hT
   refine ⟨by simp [h1], fun b hb => ?_⟩
   rcases List.mem_cons.mp hb with e | e
   ·rw [e]; exact List.mem_cons_self ..
   ·exact List.mem_cons_of_mem _ (h2 b e)
  ·obtain ⟨h1, h2⟩:=subl_mem t (k + 1) S e
   exact ⟨h1, fun b hb => List.mem_cons_of_mem _ (h2 b hb)⟩
theorem subs_mem {n k : Nat} {S : List Int} (h : S ∈ subs n k) : S.length = k /\ ∀ j, j < k -> (S.getD j 0).toNat < n:=by
 obtain ⟨h1, h2⟩:=subl_mem _ _ _ h
 refine ⟨h1, fun j hj => ?_⟩
 have hj : j < S.length:=by omega
 rw [List.getD_eq_getElem?_getD, List.getElem?_eq_getElem hj]
 obtain ⟨i, hi, e⟩:=List.mem_map.mp (h2 _ (List.getElem_mem hj))
 have:=List.mem_range.mp hi
 show (S[j]).toNat < n
 rw [<- e]
 omega
theorem mset_congr {n k : Nat} {C D : Mat} (h : ∀ i c, i < k -> c < n -> C i c = D i c) : mset n k C = mset n k D :=
 List.map_congr_left fun S hS => by
  rw [show sub k C S = sub k D S from dt_congr k fun i j hi hj => h i _ hi ((subs_mem hS).2 j hj)]
theorem Prim.cop {n k : Nat} {C : Mat} (hn : n <= 4) (h1 : 1 <= n) (hk : k <= n) (p : Prim n k C) (d : Nat) (hd : Dv d (mset n k C)) : d = 1:=by
 obtain ⟨U, hU, e⟩:=p
 rw [<- mset_congr e] at hd
 have up : ∀ m, k + m <= n -> Dv d (mset n (k + m) U):=by
  intro m
  induction m with
  | zero => exact fun _ => hd
  | succ m ih =>
   intro hm
   have:=Dv.longer (n:=n) (x:=U (k + m)) (ih (by omega))
   rw [mset_next hn (by omega)] at this
   exact this
 have z:=up (n - k) (by omega)
 rw [show k + (n - k) = n by omega, mset_full hn h1] at z
 have z:=z _ (List.mem_singleton.mpr rfl)
 have z : (d : Int).natAbs ∣ (dt n U).natAbs:=Int.natAbs_dvd_natAbs.mpr z
 rw [hU] at z
 simpa using z
theorem dt_sumr (m : Nat) (M : Mat) (i : Nat) (hi : i < m) (t : Nat -> Int) (r : Nat -> Nat -> Int) : ∀ n, dt m (sr M i fun c => sm n fun a => t a * r a c) = sm n fun a => t a * dt m (sr M i (r a))
 | 0 => (alt_dt m).zero M i hi
 | n + 1 => by
  show dt m (sr M i fun c => sm n (fun a => t a * r a c) + t n * r n c) = _
  have e : (fun c => sm n (fun a => t a * r a c) + t n * r n c) = fun c => 1 * sm n (fun a => t a * r a c) + t n * r n c:=by
   funext c; rw [Int.one_mul]
  rw [e, dt_lin m i M 1 (t n) _ _ hi, dt_sumr m M i hi t r n, Int.one_mul]
  rfl
theorem sm_dvd {d : Int} {f : Nat -> Int} : ∀ n, (∀ i, i < n -> d ∣ f i) -> d ∣ sm n f
 | 0, _ => Int.dvd_zero d
 | n + 1, h => Int.dvd_add (sm_dvd n fun i hi => h i (by omega)) (h n (by omega))
theorem Prim.add {n k : Nat} {C : Mat} (hk : k < n) (p : Prim n k C) (h : ∀ d : Nat, Dv d (mset n (k + 1) C) -> d = 1) : Prim n (k + 1) C:=by
 obtain ⟨U, hU, e⟩:=p
 obtain ⟨t, ht⟩:=coords hU (C k)
 have cop : Coprime (n - k) fun i => t (i + k):=fun d hd => h d fun p hp => by
  obtain ⟨S, hS, rfl⟩:=List.mem_map.mp hp
  obtain ⟨hl, hlt⟩:=subs_mem hS
  show (d : Int) ∣ dt (k + 1) fun i j => C i (S.getD j 0).toNat
  have e2 : dt (k + 1) (fun i j => C i (S.getD j 0).toNat) = dt (k + 1) (sr (fun i j => U i (S.getD j 0).toNat) k fun j => sm n fun a => t a * U a (S.getD j 0).toNat) :=
   dt_congr (k + 1) fun i j hi hj => by
    unfold sr
    split
    ·rename_i q
     rw [q]
     exact ht _ (hlt j hj)
    ·exact (e i _ (by omega) (hlt j hj)).symm
  rw [e2, dt_sumr (k + 1) _ k (by omega) t fun a j => U a (S.getD j 0).toNat]
  refine sm_dvd n fun a ha => ?_
  by_cases q : a < k
  ·have z:=(alt_dt (k + 1)).alt (k - a - 1) a (sr (fun i j => U i (S.getD j 0).toNat) k fun j => U a (S.getD j 0).toNat) (by omega) fun c => by
    rw [show a + (k - a - 1) + 1 = k by omega, sr_same, sr_ne _ _ _ (by omega)]
   rw [z, Int.mul_zero]
   exact Int.dvd_zero _
  ·have : (d : Int) ∣ t (a - k + k):=hd (a - k) (by omega)
   rw [show a - k + k = a by omega] at this
   exact Int.dvd_mul_of_dvd_left this
 obtain ⟨C', h1, h2, h3⟩:=extend_row hU hk cop
 refine ⟨C', h1, fun i c hi hc => ?_⟩
 by_cases q : i = k
 ·rw [q, h3]
  exact (ht c hc).symm
 ·rw [h2 i c (by omega) hc]
  exact e i c (by omega) hc
end Fm
namespace Fm
open Ql78 (pair value at_ rows form upTo before changed key first boxes)
theorem before_app : ∀ (x y r s : List Int), before x y = true -> before (x ++ r) (y ++ s) = true
 | [], y, _, _, h => by cases y <;> simp [Ql78.before] at h
 | a :: x, [], _, _, h => by simp [Ql78.before] at h
 | a :: x, b :: y, r, s, h => by
  simp only [Ql78.before, List.cons_append, Bool.or_eq_true, decide_eq_true_eq, Bool.and_eq_true, beq_iff_eq] at h ⊢
  rcases h with h | ⟨h1, h2⟩
  ·exact .inl h
  ·exact .inr ⟨h1, before_app x y r s h2⟩
theorem before_pre (x y : List Int) : ∀ p : List Int, before (p ++ x) (p ++ y) = before x y
 | [] => rfl
 | a :: p => by simp [Ql78.before, before_pre x y p]
def kr (k : Nat) (G : Mat) : List Int:=G k k :: (List.range k).reverse.map fun j => G k j
theorem kr_is (k : Nat) (G : Mat) : (List.range (k + 1)).map (fun j => G k (k - j)) = kr k G:=by
 unfold kr
 apply List.ext_getElem
 ·simp
 ·intro i h1 h2
  have h1 : i < k + 1:=by simpa using h1
  rcases i with _ | i
  ·simp
  ·simp only [List.getElem_map, List.getElem_range, List.getElem_cons_succ, List.getElem_reverse, List.length_range]
   congr 1
   omega
theorem kf_row {n k : Nat} (hk : k < n) (G : Mat) : ∃ r, kf n G = kf k G ++ (kr k G ++ r):=by
 obtain ⟨d, rfl⟩ : ∃ d, n = k + 1 + d:=⟨n - k - 1, by omega⟩
 unfold kf
 rw [List.range_add (n:=k + 1), List.range_succ, List.flatMap_append, List.flatMap_append]
 refine ⟨((List.range d).map fun x => k + 1 + x).flatMap (fun i => (List.range (i + 1)).map fun j => G i (i - j)), ?_⟩
 rw [List.append_assoc]
 congr 2
 simp only [List.flatMap_cons, List.flatMap_nil, List.append_nil]
 exact kr_is k G
theorem kf_low {k : Nat} {G G' : Mat} (h : ∀ i j, i < k -> j <= i -> G i j = G' i j) : kf k G = kf k G':=by
 unfold kf
 rw [List.flatMap_def, List.flatMap_def]
 congr 1
 refine List.map_congr_left fun i hi => List.map_congr_left fun j hj => ?_
 exact h _ _ (List.mem_range.mp hi) (by omega)
def fo (n : Nat) (l : List Int) : Ql78.Rows:=first n (rows n l)
def fm (n : Nat) (l : List Int) : Mat:=at_ (fo n l)
structure Good (n : Nat) (l : List Int) (k : Nat) (c : Ql78.Rows) : Prop where
 fit : Fits n l (fo n l) k c
 prim : Prim n k (at_ c)
def tl (n : Nat) (l : List Int) (c : Ql78.Rows) (x : List Int) : List Int:=c.reverse.map fun r => pair (rows n l) x r
def fk (n : Nat) (l : List Int) (k : Nat) : List Int:=(List.range k).reverse.map fun j => fm n l k j
section
variable {n : Nat} {l : List Int} (h : form n l = true) (hl : l.length = n * n) (hn : n <= 4)
include h hl hn
theorem first_mat {U : Mat} (hU : (dt n U).natAbs = 1) : before (kf n (gr n (gm n l) U)) (kf n (fm n l)) = false:=by
 have:=first_all h hl hn (c:=toR n U) (by simp [toR]) (fun r hr => by
  obtain ⟨i, _, rfl⟩:=List.mem_map.mp hr
  simp) (by rw [det_eq, dt_congr n fun i j hi hj => at_toR hi hj]; exact hU)
 rw [key_toR] at this
 exact this
omit hn in
theorem first_own : ∃ c0, InS n l c0 /\ fo n l = changed (rows n l) c0:=(first_char h hl).1
omit hn in
theorem first_sym : ∀ i j, i < n -> j < n -> fm n l i j = fm n l j i:=by
 intro i j hi hj
 obtain ⟨c0, s, e⟩:=first_own h hl
 unfold fm
 rw [e, at_changed s.len hi hj, at_changed s.len hj hi, pair_symm h (s.get hi) (s.get hj)]
omit hn in
theorem good_own {c0 : Ql78.Rows} (s : InS n l c0) (e : fo n l = changed (rows n l) c0) : Good n l n c0:=by
 refine ⟨⟨s.len, fun i hi => s.get hi, fun i hi => ?_, fun i j hi hj => ?_⟩, prim_full.mpr (by rw [<- det_eq]; exact s.unit)⟩
 ·rw [e, at_changed s.len hi hi]; rfl
 ·rw [e, at_changed s.len (by omega) hi]
omit h hl hn in
theorem Good.take {k m : Nat} {c : Ql78.Rows} (g : Good n l k c) (hm : m <= k) : Good n l m (c.take m):=by
 have len : (c.take m).length = m:=by rw [List.length_take, g.fit.len]; omega
 have get : ∀ i, i < m -> (c.take m).getD i [] = c.getD i []:=fun i hi => by
  rw [List.getD_eq_getElem?_getD, List.getD_eq_getElem?_getD, List.getElem?_take, if_pos hi]
 refine ⟨⟨len, fun i hi => by rw [get i hi]; exact g.fit.row i (by omega), fun i hi => by rw [get i hi]; exact g.fit.own i (by omega), fun i j hi hj => by rw [get i hi, get j (by omega)]; exact g.fit.oth i j (by omega) hj⟩, ?_⟩
 refine (g.prim.less hm).congr fun i q hi hq => ?_
 unfold Ql78.at_
 rw [get i hi]
omit hl hn in
theorem Good.gram {k : Nat} {c : Ql78.Rows} (g : Good n l k c) {i j : Nat} (hi : i < k) (hj : j <= i) (hf : ∀ i j, i < n -> j < n -> fm n l i j = fm n l j i) (hk : k <= n) : pr n (gm n l) (at_ c i) (at_ c j) = fm n l i j:=by
 have hr:=g.fit.row i hi
 have hs:=g.fit.row j (by omega)
 show pr n (gm n l) (xv (c.getD i [])) (xv (c.getD j [])) = _
 rw [<- pair_rows hr hs]
 by_cases q : j = i
 ·rw [q]; exact g.fit.own i hi
 ·rw [pair_symm h hr hs, g.fit.oth i j hi (by omega)]
  exact hf j i (by omega) (by omega)
theorem not_before {k : Nat} (hk : k < n) {C : Mat} (p : Prim n (k + 1) C) (hg : ∀ i j, i < k -> j <= i -> pr n (gm n l) (C i) (C j) = fm n l i j) : before (kr k (gr n (gm n l) C)) (kr k (fm n l)) = false:=by
 obtain ⟨U, hU, e⟩:=p
 cases q : before (kr k (gr n (gm n l) C)) (kr k (fm n l)) with
 | false => rfl
 | true =>
  have z:=first_mat h hl hn hU
  obtain ⟨r, e1⟩:=kf_row hk (gr n (gm n l) U)
  obtain ⟨s, e2⟩:=kf_row hk (fm n l)
  have gU : ∀ i j, i < k + 1 -> j < k + 1 -> gr n (gm n l) U i j = gr n (gm n l) C i j:=fun i j hi hj => pr_congr (fun _ _ _ _ => rfl) (fun c hc => e i c hi hc) (fun c hc => e j c hj hc)
  have e3 : kf k (gr n (gm n l) U) = kf k (fm n l):=kf_low fun i j hi hj => by rw [gU i j (by omega) (by omega)]; exact hg i j hi hj
  have e4 : kr k (gr n (gm n l) U) = kr k (gr n (gm n l) C):=by
   unfold kr
   rw [gU k k (by omega) (by omega)]
   congr 1
   refine List.map_congr_left fun j hj => gU k j (by omega) ?_
   have:=List.mem_range.mp (List.mem_reverse.mp hj)
   omega
  rw [e1, e2, e3, before_pre, e4, before_app _ _ _ _ q] at z
  cases z
theorem first_short {k j : Nat} (hk : k < n) (hj : j < k) : 2 * (fm n l k j).natAbs <= fm n l j j:=by
 obtain ⟨c0, s, e⟩:=first_own h hl
 have g:=good_own h hl s e
 have hU:=prim_full.mp g.prim
 have hs:=form_symm h
 have fs:=first_sym h hl
 rcases Int.lt_or_le (fm n l j j) (2 * (fm n l k j).natAbs) with q | q
 ·exfalso
  have gm1:=g.gram h (i:=k) (j:=j) hk (by omega) fs (Nat.le_refl n)
  have gm2:=g.gram h (i:=j) (j:=j) (by omega) (by omega) fs (Nat.le_refl n)
  obtain ⟨σ, hσ⟩ : ∃ σ : Int, 2 * σ * fm n l k j + σ * σ * fm n l j j < 0:=by
   rcases Int.lt_or_le (fm n l k j) 0 with w | w
   ·exact ⟨1, by omega⟩
   ·exact ⟨-1, by omega⟩
  let C' : Mat:=sr (at_ c0) k fun c => at_ c0 k c + σ * at_ c0 j c
  have d' : (dt n C').natAbs = 1:=by
   show (dt n (sr _ _ _)).natAbs = 1
   rw [dt_add n _ k j σ hk (by omega) (by omega)]
   exact hU
  have z:=first_mat h hl hn d'
  have lt:=kf_less (M:=gm n l) (C:=at_ c0) (C':=C') hk (fun i c hi _ => sr_ne _ _ _ (by omega)) (by
   have e1 : C' k = fun c => at_ c0 k c + σ * at_ c0 j c:=by funext c; exact sr_same _ _ _ _
   rw [e1, pr_add n _ hs, gm1, gm2]
   omega)
  rw [kf_low (k:=n) (G:=gr n (gm n l) (at_ c0)) (G':=fm n l) fun i j hi hj => g.gram h hi hj fs (Nat.le_refl n)] at lt
  rw [lt] at z
  cases z
 ·exact q
end
end Fm
namespace Fm
open Ql78 (pair value at_ rows form upTo before changed key first boxes)
def Cop (n k : Nat) (C : Mat) : Prop:=∀ d : Nat, Dv d (mset n k C) -> d = 1
theorem list_range {c : Ql78.Rows} {k : Nat} (hc : c.length = k) : c = (List.range k).map fun j => c.getD j []:=by
 apply List.ext_getElem
 ·simp [hc]
 ·intro i h1 h2
  simp only [List.getElem_map, List.getElem_range, List.getD_eq_getElem?_getD]
  rw [List.getElem?_eq_getElem h1, Option.getD_some]
theorem tl_is {n : Nat} {l : List Int} {c : Ql78.Rows} {k : Nat} (hc : c.length = k) (x : List Int) : tl n l c x = (List.range k).reverse.map fun j => pair (rows n l) x (c.getD j []):=by
 unfold tl
 conv => lhs; rw [list_range hc]
 rw [<- List.map_reverse, List.map_map]
 rfl
theorem at_snoc_lt {c : Ql78.Rows} {x : List Int} {i : Nat} (h : i < c.length) : at_ (c ++ [x]) i = at_ c i:=by
 funext j
 unfold Ql78.at_
 rw [getD_snoc_lt h]
theorem at_snoc_eq {c : Ql78.Rows} {x : List Int} {k : Nat} (h : c.length = k) : at_ (c ++ [x]) k = xv x:=by
 funext j
 unfold Ql78.at_ xv
 rw [<- h, getD_snoc_eq]
theorem kr_snoc {n : Nat} {l : List Int} {c : Ql78.Rows} {x : List Int} {k : Nat} (hc : c.length = k) (hr : ∀ i, i < k -> (c.getD i []).length = n) (hx : x.length = n) : kr k (gr n (gm n l) (at_ (c ++ [x]))) = value (rows n l) x :: tl n l c x:=by
 unfold kr gr
 rw [at_snoc_eq hc, value_rows hx, tl_is hc]
 congr 1
 refine List.map_congr_left fun j hj => ?_
 have hj:=List.mem_range.mp (List.mem_reverse.mp hj)
 rw [at_snoc_lt (by omega), pair_rows hx (hr j hj)]
 rfl
section
variable {n : Nat} {l : List Int} (h : form n l = true) (hl : l.length = n * n) (hn : n <= 4)
include h hl hn
theorem good_snoc {k : Nat} (hk : k < n) {c : Ql78.Rows} {x : List Int} (hc : c.length = k) :
  Good n l (k + 1) (c ++ [x]) ↔ Good n l k c /\ x.length = n /\ value (rows n l) x = fm n l k k /\ tl n l c x = fk n l k /\ Cop n (k + 1) (at_ (c ++ [x])):=by
 have fs:=first_sym h hl
 constructor
 ·intro g
  obtain ⟨f1, f2, f3, f4⟩:=(fits_snoc hc).mp g.fit
  refine ⟨⟨f1, (g.prim.less (Nat.le_succ k)).congr fun i q hi _ => by rw [at_snoc_lt (by omega)]⟩, f2, f3, ?_, fun d hd => g.prim.cop hn (by omega) (by omega) d hd⟩
  rw [tl_is hc]
  refine List.map_congr_left fun j hj => ?_
  have hj:=List.mem_range.mp (List.mem_reverse.mp hj)
  rw [pair_symm h f2 (f1.row j hj), f4 j hj]
  exact fs j k (by omega) hk
 ·rintro ⟨g, hx, hv, ht, cop⟩
  refine ⟨(fits_snoc hc).mpr ⟨g.fit, hx, hv, fun j hj => ?_⟩, ?_⟩
  ·rw [tl_is hc] at ht
   have:=List.map_inj_left.mp ht j (List.mem_reverse.mpr (List.mem_range.mpr hj))
   rw [pair_symm h (g.fit.row j hj) hx, this]
   exact fs k j hk (by omega)
  ·exact (g.prim.congr fun i q hi _ => by rw [at_snoc_lt (by omega)]).add hk cop
theorem cand_not_before {k : Nat} (hk : k < n) {c : Ql78.Rows} {x : List Int} (g : Good n l k c) (hx : x.length = n) (cop : Cop n (k + 1) (at_ (c ++ [x]))) :
  before (value (rows n l) x :: tl n l c x) (fm n l k k :: fk n l k) = false:=by
 have hc:=g.fit.len
 rw [<- kr_snoc hc g.fit.row hx]
 refine not_before h hl hn hk ((g.prim.congr fun i q hi _ => by rw [at_snoc_lt (by omega)]).add hk cop) fun i j hi hj => ?_
 rw [at_snoc_lt (by omega), at_snoc_lt (by omega)]
 exact g.gram h hi hj (first_sym h hl) (by omega)
omit hn in
theorem first_low {k : Nat} (hk : k < n) : fm n l k k <= top n l:=by
 obtain ⟨c0, s, e⟩:=first_own h hl
 have g:=good_own h hl s e
 have:=g.fit.own k hk
 have hm : c0.getD k [] ∈ c0:=by
  have hk' : k < c0.length:=by rw [s.len]; exact hk
  rw [List.getD_eq_getElem?_getD, List.getElem?_eq_getElem hk', Option.getD_some]
  exact List.getElem_mem hk'
 have:=s.low _ hm
 unfold fm
 omega
theorem cand_first {k : Nat} (hk : k < n) : ∃ c x, Good n l k c /\ x.length = n /\ value (rows n l) x = fm n l k k /\ tl n l c x = fk n l k /\ Cop n (k + 1) (at_ (c ++ [x])):=by
 obtain ⟨c0, s, e⟩:=first_own h hl
 have g:=good_own h hl s e
 have hk' : k < c0.length:=by rw [s.len]; exact hk
 refine ⟨c0.take k, c0[k], ?_⟩
 refine (good_snoc h hl hn hk (by rw [List.length_take]; omega)).mp ?_
 rw [<- List.take_succ_eq_append_getElem hk']
 exact g.take (by omega)
end
def Span (n k : Nat) (C : Mat) (z : Nat -> Int) : Prop:=∃ t : Nat -> Int, ∀ c, c < n -> z c = sm k fun i => t i * C i c
theorem sm_cutn {k n : Nat} (hk : k <= n) {f : Nat -> Int} (h : ∀ i, k <= i -> i < n -> f i = 0) : sm n f = sm k f:=by
 obtain ⟨d, rfl⟩ : ∃ d, n = k + d:=⟨n - k, by omega⟩
 clear hk
 induction d with
 | zero => rfl
 | succ d ih =>
  rw [Nat.add_succ, sm, ih fun i h1 h2 => h i h1 (by omega), h (k + d) (by omega) (by omega), Int.add_zero]
theorem Span.add {n k : Nat} {C : Mat} {y z : Nat -> Int} (a b : Int) (hy : Span n k C y) (hz : Span n k C z) : Span n k C fun c => a * y c + b * z c:=by
 obtain ⟨t, ht⟩:=hy
 obtain ⟨s, hs⟩:=hz
 refine ⟨fun i => a * t i + b * s i, fun c hc => ?_⟩
 show a * y c + b * z c = _
 rw [ht c hc, hs c hc, <- sm_mul, <- sm_mul, <- sm_add]
 exact sm_congr k fun i _ => by grind
theorem Span.congr {n k : Nat} {C : Mat} {y z : Nat -> Int} (hy : Span n k C y) (e : ∀ c, c < n -> y c = z c) : Span n k C z:=by
 obtain ⟨t, ht⟩:=hy
 exact ⟨t, fun c hc => by rw [<- e c hc]; exact ht c hc⟩
theorem pr_sum (n : Nat) (M : Mat) (x : Nat -> Int) (t : Nat -> Int) (C : Mat) : ∀ k, pr n M x (fun c => sm k fun i => t i * C i c) = sm k fun i => t i * pr n M x (C i)
 | 0 => by
  show sm n (fun i => x i * sm n fun j => M i j * 0) = 0
  refine sm_zero n fun i _ => ?_
  rw [sm_zero n fun j _ => Int.mul_zero _, Int.mul_zero]
 | k + 1 => by
  have e : (fun c => sm (k + 1) fun i => t i * C i c) = fun c => 1 * sm k (fun i => t i * C i c) + t k * C k c:=by
   funext c; rw [Int.one_mul]; rfl
  rw [e, pr_lin_r, pr_sum n M x t C k, Int.one_mul]
  rfl
section
variable {n : Nat} {l : List Int} (h : form n l = true) (hl : l.length = n * n) (hn : n <= 4)
include h hl hn
theorem below_span {k : Nat} (hk : k < n) {c : Ql78.Rows} (g : Good n l k c) {z : Nat -> Int} (hz : pr n (gm n l) z z < fm n l k k) : Span n k (at_ c) z:=by
 obtain ⟨U, hU, e⟩:=g.prim
 obtain ⟨t, ht⟩:=coords hU z
 by_cases q : ∃ i0, k <= i0 /\ i0 < n /\ t i0 ≠ 0
 ·exfalso
  obtain ⟨i0, q1, q2, q3⟩:=q
  have fs:=first_sym h hl
  have gr' : ∀ i j, i < k -> j <= i -> pr n (gm n l) (U i) (U j) = fm n l i j:=fun i j hi hj => by
   rw [<- g.gram h hi hj fs (by omega)]
   exact pr_congr (fun _ _ _ _ => rfl) (fun q hq => e i q hi hq) (fun q hq => e j q (by omega) hq)
  have up : ∀ m, m <= k + 1 -> ∀ i, i < m -> fm n l i i <= fm n l k k - 1:=by
   intro m
   induction m with
   | zero => exact fun _ i hi => by omega
   | succ m ih =>
    intro hm i hi
    by_cases em : i = m
    ·rw [em]
     rcases Int.lt_or_le (fm n l k k - 1) (fm n l m m) with w | w
     ·exfalso
      obtain ⟨C', d1, d2, d3⟩:=short_beyond (form_symm h) (fun x => (pr_pos n _ (form_symm h) (form_lead h) x).1) hU (k:=m) (T:=fm n l k k - 1) (by omega) (by omega) z t (by omega) ht i0 (by omega) q2 q3 fun i hi => by
       rw [gr' i i (by omega) (by omega)]
       exact ih (by omega) i hi
      have nb:=not_before h hl hn (k:=m) (by omega) (C:=C') ⟨C', d1, fun _ _ _ _ => rfl⟩ fun i j hi hj => by
       rw [<- gr' i j (by omega) hj]
       exact pr_congr (fun _ _ _ _ => rfl) (fun q hq => d2 i q hi hq) (fun q hq => d2 j q (by omega) hq)
      have lt : pr n (gm n l) (C' m) (C' m) < fm n l m m:=by omega
      have : before (kr m (gr n (gm n l) C')) (kr m (fm n l)) = true:=before_cut [] _ _ _ _ lt
      rw [this] at nb
      cases nb
     ·exact w
    ·exact ih (by omega) i (by omega)
  have:=up (k + 1) (Nat.le_refl _) k (by omega)
  omega
 ·refine ⟨t, fun c hc => ?_⟩
  rw [ht c hc, sm_cutn (k:=k) (by omega) fun i h1 h2 => by
   rw [Classical.byContradiction fun w => q ⟨i, h1, h2, w⟩, Int.zero_mul]]
  exact sm_congr k fun i hi => by rw [e i c hi hc]
end
end Fm
namespace Fm
open Ql78 (pair value at_ rows form upTo before changed key first boxes)
theorem nodup_three {α : Type} : ∀ (L : List α), L.Nodup -> (∀ x ∈ L, ∀ y ∈ L, ∀ z ∈ L, x = y \/ y = z \/ x = z) -> L.length <= 2
 | [], _, _ => by simp
 | [a], _, _ => by simp
 | [a, b], _, _ => by simp
 | a :: b :: c :: t, hd, hf => by
  exfalso
  have hd1:=List.nodup_cons.mp hd
  have hd2:=List.nodup_cons.mp hd1.2
  rcases hf a (by simp) b (by simp) c (by simp) with e | e | e
  ·exact hd1.1 (by rw [e]; simp)
  ·exact hd2.1 (by rw [e]; simp)
  ·exact hd1.1 (by rw [e]; simp)
theorem filter_split {α : Type} (p : α -> Bool) : ∀ L : List α, L.length = (L.filter p).length + (L.filter fun x => !p x).length
 | [] => rfl
 | a :: t => by
  have ih:=filter_split p t
  cases q : p a <;> simp [q] <;> omega
theorem count_classes {α β : Type} [DecidableEq β] (f : α -> β) : ∀ (K : List β) (L : List α), L.Nodup -> (∀ x ∈ L, f x ∈ K) -> (∀ x ∈ L, ∀ y ∈ L, ∀ z ∈ L, f x = f y -> f y = f z -> x = y \/ y = z \/ x = z) -> L.length <= 2 * K.length
 | [], [], _, _, _ => by simp
 | [], a :: t, _, hf, _ => nomatch hf a (List.mem_cons_self ..)
 | κ :: K, L, hd, hf, h3 => by
  have h1:=nodup_three (L.filter fun x => decide (f x = κ)) (hd.filter _) fun x hx y hy z hz => by
   simp only [List.mem_filter, decide_eq_true_eq] at hx hy hz
   exact h3 x hx.1 y hy.1 z hz.1 (by rw [hx.2, hy.2]) (by rw [hy.2, hz.2])
  have h2:=count_classes f K (L.filter fun x => !decide (f x = κ)) (hd.filter _) (fun x hx => by
   simp only [List.mem_filter, Bool.not_eq_true', decide_eq_false_iff_not] at hx
   exact (List.mem_cons.mp (hf x hx.1)).resolve_left hx.2) fun x hx y hy z hz => h3 x (List.mem_filter.mp hx).1 y (List.mem_filter.mp hy).1 z (List.mem_filter.mp hz).1
  have h4:=filter_split (fun x => decide (f x = κ)) L
  simp only [List.length_cons]
  omega
def bits : Nat -> List (List Int)
 | 0 => [[]]
 | n + 1 => (bits n).map (0 :: ·) ++ (bits n).map (1 :: ·)
theorem bits_len : ∀ n, (bits n).length = 2 ^ n
 | 0 => rfl
 | n + 1 => by simp [bits, bits_len n]; omega
theorem mem_bits : ∀ (x : List Int), x.map (· % 2) ∈ bits x.length
 | [] => by simp [bits]
 | a :: t => by
  have ih:=mem_bits t
  simp only [List.map_cons, List.length_cons, bits, List.mem_append, List.mem_map]
  rcases (by omega : a % 2 = 0 \/ a % 2 = 1) with e | e
  ·exact .inl ⟨_, ih, by rw [e]⟩
  ·exact .inr ⟨_, ih, by rw [e]⟩
theorem xv_ext {n : Nat} {x y : List Int} (hx : x.length = n) (hy : y.length = n) (e : ∀ c, c < n -> xv x c = xv y c) : x = y:=by
 apply List.ext_getElem
 ·omega
 ·intro i h1 h2
  have:=e i (by omega)
  unfold xv at this
  simp only [List.getD_eq_getElem?_getD] at this
  rw [List.getElem?_eq_getElem h1, List.getElem?_eq_getElem h2] at this
  exact this
section
variable {n : Nat} {l : List Int} (h : form n l = true) (hl : l.length = n * n) (hn : n <= 4)
include h hl hn
theorem alike {k : Nat} (hk : k < n) {c : Ql78.Rows} (g : Good n l k c) {x y : List Int} (hx : x.length = n) (hy : y.length = n) (vx : value (rows n l) x = fm n l k k) (vy : value (rows n l) y = fm n l k k)
  (sx : ¬ Span n k (at_ c) (xv x)) (e : x.map (· % 2) = y.map (· % 2)) : (∀ c, c < n -> xv y c = xv x c) \/ ∀ c, c < n -> xv y c = - xv x c:=by
 have e2 : ∀ c, c < n -> xv x c % 2 = xv y c % 2:=fun q hq => by
  have:=congrArg (fun z => z.getD q 0) e
  simp only [List.getD_eq_getElem?_getD, List.getElem?_map] at this
  unfold xv
  simp only [List.getD_eq_getElem?_getD]
  rw [List.getElem?_eq_getElem (by omega : q < x.length), List.getElem?_eq_getElem (by omega : q < y.length)] at this ⊢
  exact this
 rw [value_rows hx] at vx
 rw [value_rows hy] at vy
 have hs:=form_symm h
 let u : Nat -> Int:=fun c => (xv x c + xv y c) / 2
 let w : Nat -> Int:=fun c => (xv x c - xv y c) / 2
 have ex : ∀ c, c < n -> xv x c = 1 * u c + 1 * w c:=fun c hc => by
  have:=e2 c hc
  show _ = 1 * ((xv x c + xv y c) / 2) + 1 * ((xv x c - xv y c) / 2)
  omega
 have ey : ∀ c, c < n -> xv y c = 1 * u c + (-1) * w c:=fun c hc => by
  have:=e2 c hc
  show _ = 1 * ((xv x c + xv y c) / 2) + (-1) * ((xv x c - xv y c) / 2)
  omega
 have sum : pr n (gm n l) u u + pr n (gm n l) w w = fm n l k k:=by
  have q1 : pr n (gm n l) (xv x) (xv x) = pr n (gm n l) (fun c => 1 * u c + 1 * w c) (fun c => 1 * u c + 1 * w c):=pr_congr (fun _ _ _ _ => rfl) ex ex
  have q2 : pr n (gm n l) (xv y) (xv y) = pr n (gm n l) (fun c => 1 * u c + (-1) * w c) (fun c => 1 * u c + (-1) * w c):=pr_congr (fun _ _ _ _ => rfl) ey ey
  rw [pr_lin_l, pr_lin_r, pr_lin_r] at q1 q2
  have q3:=pr_symm hs u w
  omega
 have pu:=pr_pos n _ hs (form_lead h) u
 have pw:=pr_pos n _ hs (form_lead h) w
 by_cases zu : pr n (gm n l) u u <= 0
 ·right
  intro c hc
  have:=pu.2 zu c hc
  rw [ex c hc, ey c hc, this]
  omega
 ·by_cases zw : pr n (gm n l) w w <= 0
  ·left
   intro c hc
   have:=pw.2 zw c hc
   rw [ex c hc, ey c hc, this]
   omega
  ·exact absurd (((below_span h hl hn hk g (z:=u) (by omega)).add 1 1 (below_span h hl hn hk g (z:=w) (by omega))).congr fun c hc => (ex c hc).symm) sx
theorem many_beyond {k : Nat} (hk : k < n) {c : Ql78.Rows} (g : Good n l k c) (L : List (List Int)) (hd : L.Nodup) (hL : ∀ x ∈ L, x.length = n /\ value (rows n l) x = fm n l k k /\ ¬ Span n k (at_ c) (xv x)) : L.length <= 32:=by
 have hb:=count_classes (fun x : List Int => x.map (· % 2)) (bits n) L hd (fun x hx => by
  have:=mem_bits x
  rw [(hL x hx).1] at this
  exact this) fun x hx y hy z hz exy eyz => by
   obtain ⟨x1, x2, x3⟩:=hL x hx
   obtain ⟨y1, y2, y3⟩:=hL y hy
   obtain ⟨z1, z2, z3⟩:=hL z hz
   rcases alike h hl hn hk g x1 y1 x2 y2 x3 exy with a | a
   ·exact .inl (xv_ext x1 y1 fun c hc => (a c hc).symm)
   ·rcases alike h hl hn hk g x1 z1 x2 z2 x3 (exy.trans eyz) with b | b
    ·exact .inr (.inr (xv_ext x1 z1 fun c hc => (b c hc).symm))
    ·exact .inr (.inl (xv_ext y1 z1 fun c hc => by rw [a c hc, b c hc]))
 rw [bits_len] at hb
 have : 2 ^ n <= 2 ^ 4:=Nat.pow_le_pow_right (by omega) hn
 omega
omit hl hn in
theorem one_span {k : Nat} {c : Ql78.Rows} (hc : c.length = k) (hr : ∀ i, i < k -> (c.getD i []).length = n) {x y : List Int} (hx : x.length = n) (hy : y.length = n) (e : tl n l c x = tl n l c y) (sx : Span n k (at_ c) (xv x)) (sy : Span n k (at_ c) (xv y)) : x = y:=by
 obtain ⟨t, ht⟩:=sx.add 1 (-1) sy
 rw [tl_is hc, tl_is hc] at e
 have e1 : ∀ j, j < k -> pr n (gm n l) (xv x) (at_ c j) = pr n (gm n l) (xv y) (at_ c j):=fun j hj => by
  have:=List.map_inj_left.mp e j (List.mem_reverse.mpr (List.mem_range.mpr hj))
  rw [pair_rows hx (hr j hj), pair_rows hy (hr j hj)] at this
  exact this
 have z : pr n (gm n l) (fun c => 1 * xv x c + (-1) * xv y c) (fun c => 1 * xv x c + (-1) * xv y c) <= 0:=by
  rw [pr_congr (n:=n) (M:=gm n l) (x:=fun c => 1 * xv x c + (-1) * xv y c) (fun _ _ _ _ => rfl) (fun _ _ => rfl) ht, pr_sum]
  rw [sm_zero k fun i hi => by rw [pr_lin_l, e1 i hi]; grind]
  omega
 have:=(pr_pos n _ (form_symm h) (form_lead h) _).2 z
 refine xv_ext hx hy fun c hc => ?_
 have:=this c hc
 omega
theorem many_tail {k : Nat} (hk : k < n) {c : Ql78.Rows} (g : Good n l k c) {v : Int} (hv : v <= fm n l k k) {t : List Int} (L : List (List Int)) (hd : L.Nodup) (hL : ∀ x ∈ L, x.length = n /\ value (rows n l) x = v /\ tl n l c x = t) : L.length <= 33:=by
 classical
 have h1:=many_beyond h hl hn hk g (L.filter fun x => !decide (Span n k (at_ c) (xv x))) (hd.filter _) fun x hx => by
  simp only [List.mem_filter, Bool.not_eq_true', decide_eq_false_iff_not] at hx
  obtain ⟨a1, a2, a3⟩:=hL x hx.1
  refine ⟨a1, ?_, hx.2⟩
  rcases Int.lt_or_le v (fm n l k k) with q | q
  ·exact absurd (below_span h hl hn hk g (by rw [<- value_rows a1, a2]; exact q)) hx.2
  ·omega
 have h2 : (L.filter fun x => decide (Span n k (at_ c) (xv x))).length <= 1:=by
  have key : ∀ x ∈ L.filter (fun x => decide (Span n k (at_ c) (xv x))), ∀ y ∈ L.filter (fun x => decide (Span n k (at_ c) (xv x))), x = y:=fun x hx y hy => by
   simp only [List.mem_filter, decide_eq_true_eq] at hx hy
   obtain ⟨a1, a2, a3⟩:=hL x hx.1
   obtain ⟨b1, b2, b3⟩:=hL y hy.1
   exact one_span h g.fit.len g.fit.row a1 b1 (by rw [a3, b3]) hx.2 hy.2
  have nd : (L.filter fun x => decide (Span n k (at_ c) (xv x))).Nodup:=hd.filter _
  generalize (L.filter fun x => decide (Span n k (at_ c) (xv x))) = K at *
  match K, key, nd with
  | [], _, _ => simp
  | [a], _, _ => simp
  | a :: b :: t, key, nd => exact absurd (key a (by simp) b (by simp)) (fun e => (List.nodup_cons.mp nd).1 (by rw [e]; simp))
 have:=filter_split (fun x => decide (Span n k (at_ c) (xv x))) L
 omega
end
end Fm
namespace Fm
open Ql78 (pair value at_ rows form upTo before changed key first boxes changes)
def gcdl (vs : List Int) : Nat:=vs.foldl (fun g v => Nat.gcd g v.natAbs) 0
theorem gcd_fold : ∀ (vs : List Int) (g d : Nat), d ∣ vs.foldl (fun g v => Nat.gcd g v.natAbs) g ↔ d ∣ g /\ ∀ v ∈ vs, (d : Int) ∣ v
 | [], g, d => by simp
 | v :: vs, g, d => by
  rw [List.foldl_cons, gcd_fold vs _ d, Nat.dvd_gcd_iff]
  simp only [List.mem_cons, forall_eq_or_imp, and_assoc]
  rw [show (d ∣ v.natAbs) ↔ ((d : Int) ∣ v) from by rw [<- Int.natAbs_dvd_natAbs (a:=(d : Int))]; rfl]
theorem gcdl_one (vs : List Int) : gcdl vs = 1 ↔ ∀ d : Nat, (∀ v ∈ vs, (d : Int) ∣ v) -> d = 1:=by
 constructor
 ·intro h d hd
  have:=(gcd_fold vs 0 d).mpr ⟨Nat.dvd_zero d, hd⟩
  rw [show vs.foldl (fun g v => Nat.gcd g v.natAbs) 0 = 1 from h] at this
  exact Nat.dvd_one.mp this
 ·intro h
  exact h _ ((gcd_fold vs 0 (gcdl vs)).mp (Nat.dvd_refl _)).2
def copB (n k : Nat) (C : Mat) : Bool:=decide (gcdl ((mset n k C).map (·.2)) = 1)
theorem copB_iff {n k : Nat} {C : Mat} : copB n k C = true ↔ Cop n k C:=by
 unfold copB Cop
 rw [decide_eq_true_eq, gcdl_one]
 constructor
 ·exact fun h d hd => h d fun v hv => by
   obtain ⟨p, hp, rfl⟩:=List.mem_map.mp hv
   exact hd p hp
 ·exact fun h d hd => h d fun p hp => hd p.2 (List.mem_map.mpr ⟨p, hp, rfl⟩)
theorem nodup_map {α β : Type} {f : α -> β} (inj : ∀ x y, f x = f y -> x = y) : ∀ {L : List α}, L.Nodup -> (L.map f).Nodup
 | [], _ => by simp
 | a :: t, h => by
  obtain ⟨h1, h2⟩:=List.nodup_cons.mp h
  rw [List.map_cons, List.nodup_cons]
  refine ⟨fun hm => ?_, nodup_map inj h2⟩
  obtain ⟨b, hb, e⟩:=List.mem_map.mp hm
  exact h1 (by rw [<- inj _ _ e]; exact hb)
def shortB (t owns : List Int) : Bool:=(t.zip owns).all fun p => decide (2 * (p.1.natAbs : Int) <= p.2)
def owns (n : Nat) (l : List Int) (k : Nat) : List Int:=(List.range k).reverse.map fun j => fm n l j j
abbrev Join:=Ql78.Rows × List Int
def joins (n : Nat) (l : List Int) (k : Nat) (S : List Ql78.Rows) (X : List (List Int)) : List (List Int × Join) :=
 S.flatMap fun c => (X.filter fun x => shortB (tl n l c x) (owns n l k)).map fun x => (tl n l c x, (c, x))
def grp (J : List (List Int × Join)) (t : List Int) : List Join:=(J.filter fun p => decide (p.1 = t)).map (·.2)
def joined (n k : Nat) (P : List Join) : List Ql78.Rows:=(P.filter fun p => copB n (k + 1) (at_ (p.1 ++ [p.2]))).map fun p => p.1 ++ [p.2]
theorem mem_joins {n : Nat} {l : List Int} {k : Nat} {S : List Ql78.Rows} {X : List (List Int)} {t : List Int} {c : Ql78.Rows} {x : List Int} :
  (t, (c, x)) ∈ joins n l k S X ↔ c ∈ S /\ x ∈ X /\ shortB t (owns n l k) = true /\ tl n l c x = t:=by
 unfold joins
 simp only [List.mem_flatMap, List.mem_map, List.mem_filter, Prod.mk.injEq]
 constructor
 ·rintro ⟨c', hc', x', ⟨hx, hs⟩, rfl, rfl, rfl⟩
  exact ⟨hc', hx, hs, rfl⟩
 ·rintro ⟨hc, hx, hs, rfl⟩
  exact ⟨c, hc, x, ⟨hx, hs⟩, rfl, rfl, rfl⟩
theorem mem_grp {J : List (List Int × Join)} {t : List Int} {p : Join} : p ∈ grp J t ↔ (t, p) ∈ J:=by
 unfold grp
 simp only [List.mem_map, List.mem_filter, decide_eq_true_eq]
 constructor
 ·rintro ⟨⟨t', p'⟩, ⟨h1, h2⟩, h3⟩
  cases h2; cases h3
  exact h1
 ·exact fun h => ⟨(t, p), ⟨h, rfl⟩, rfl⟩
theorem grp_joins {n : Nat} {l : List Int} {k : Nat} {X : List (List Int)} {t : List Int} (ht : shortB t (owns n l k) = true) : ∀ S : List Ql78.Rows, grp (joins n l k S X) t = S.flatMap fun c => (X.filter fun x => decide (tl n l c x = t)).map fun x => (c, x)
 | [] => rfl
 | c :: S => by
  have ih:=grp_joins (X:=X) ht S
  unfold grp joins at ih ⊢
  rw [List.flatMap_cons, List.flatMap_cons, List.filter_append, List.map_append, ih]
  congr 1
  rw [List.filter_map, List.map_map, List.filter_filter]
  show ((X.filter _).map fun x => (c, x)) = _
  congr 1
  refine List.filter_congr fun x _ => ?_
  show (decide (tl n l c x = t) && shortB (tl n l c x) (owns n l k)) = decide (tl n l c x = t)
  by_cases q : tl n l c x = t
  ·rw [q, ht]; simp
  ·simp [q]
theorem flat_len {α β : Type} {f : α -> List β} {B : Nat} : ∀ (S : List α), (∀ c ∈ S, (f c).length <= B) -> (S.flatMap f).length <= B * S.length
 | [], _ => by simp
 | c :: S, h => by
  rw [List.flatMap_cons, List.length_append, List.length_cons, Nat.mul_succ]
  have:=h c (List.mem_cons_self ..)
  have:=flat_len S fun d hd => h d (List.mem_cons_of_mem _ hd)
  omega
theorem flat_nodup {α β γ : Type} {f : α -> List β} (g : β -> γ) : ∀ (S : List α), S.Nodup -> (∀ c ∈ S, (f c).Nodup) -> (∀ c ∈ S, ∀ d ∈ S, ∀ x ∈ f c, ∀ y ∈ f d, x = y -> c = d) -> (S.flatMap f).Nodup
 | [], _, _, _ => by simp
 | c :: S, h1, h2, h3 => by
  rw [List.flatMap_cons, List.nodup_append]
  obtain ⟨a, b⟩:=List.nodup_cons.mp h1
  refine ⟨h2 c (List.mem_cons_self ..), flat_nodup g S b (fun d hd => h2 d (List.mem_cons_of_mem _ hd)) (fun d hd e he => h3 d (List.mem_cons_of_mem _ hd) e (List.mem_cons_of_mem _ he)), fun x hx y hy e => ?_⟩
  obtain ⟨d, hd, hyd⟩:=List.mem_flatMap.mp hy
  exact a (by rw [h3 c (List.mem_cons_self ..) d (List.mem_cons_of_mem _ hd) x hx y hyd e]; exact hd)
structure Lines (n : Nat) (l : List Int) (X : Int -> List (List Int)) : Prop where
 mem : ∀ v, v <= top n l -> ∀ x, x ∈ X v ↔ x.length = n /\ value (rows n l) x = v
 nodup : ∀ v, (X v).Nodup
structure Starts (n : Nat) (l : List Int) (k : Nat) (S : List Ql78.Rows) : Prop where
 mem : ∀ c, c ∈ S ↔ Good n l k c
 nodup : S.Nodup
 len : S.length <= 33 ^ k
theorem Starts.zero (n : Nat) (l : List Int) : Starts n l 0 [[]]:=by
 refine ⟨fun c => ?_, by simp, by simp⟩
 constructor
 ·intro h
  rw [List.mem_singleton.mp h]
  exact ⟨⟨rfl, fun i hi => by omega, fun i hi => by omega, fun i j hi => by omega⟩, Prim.zero⟩
 ·intro g
  have:=g.fit.len
  rw [List.length_eq_zero_iff.mp this]
  simp
section
variable {n : Nat} {l : List Int} (h : form n l = true) (hl : l.length = n * n) (hn : n <= 4)
include h hl hn
theorem fk_short {k : Nat} (hk : k < n) : shortB (fk n l k) (owns n l k) = true:=by
 unfold shortB fk owns
 rw [List.all_eq_true]
 intro p hp
 rw [List.zip_map'] at hp
 obtain ⟨j, hj, rfl⟩:=List.mem_map.mp hp
 have hj:=List.mem_range.mp (List.mem_reverse.mp hj)
 have:=first_short h hl hn hk hj
 simpa using this
theorem joins_key {k : Nat} (hk : k < n) {S : List Ql78.Rows} (s : Starts n l k S) {X : List (List Int)} {t : List Int} {p : Join} (hp : (t, p) ∈ joins n l k S X) : t ∈ boxes (List.replicate k 16):=by
 obtain ⟨c, x⟩:=p
 obtain ⟨hc, hx, hs, rfl⟩:=mem_joins.mp hp
 have g:=(s.mem c).mp hc
 rw [mem_boxes]
 have len : (tl n l c x).length = k:=by simp [tl, g.fit.len]
 refine ⟨by simp [len], fun i hi => ?_⟩
 have hi : i < k:=by simpa using hi
 have e1 : (tl n l c x).getD i 0 = (tl n l c x)[i]'(by omega):=by
  rw [List.getD_eq_getElem?_getD, List.getElem?_eq_getElem (by omega), Option.getD_some]
 rw [e1]
 have e2 : (List.replicate k 16).getD i 0 = 16:=by
  rw [List.getD_eq_getElem?_getD, List.getElem?_eq_getElem (by simpa using hi), Option.getD_some, List.getElem_replicate]
 rw [e2]
 unfold shortB at hs
 rw [List.all_eq_true] at hs
 have lo : (owns n l k).length = k:=by simp [owns]
 have:=hs ((tl n l c x)[i]'(by omega), (owns n l k)[i]'(by omega)) (by
  rw [<- List.getElem_zip (h:=by simp; omega)]
  exact List.getElem_mem _)
 have this:=of_decide_eq_true this
 have o : (owns n l k)[i]'(by omega) <= 32:=by
  simp only [owns, List.getElem_map, List.getElem_reverse, List.length_range, List.getElem_range]
  have h1:=first_low h hl (k:=k - 1 - i) (by omega)
  have h2 : top n l <= 32:=by
   unfold top
   have : ∀ (L : List Int) (s : Int), s <= 32 -> (∀ v ∈ L, v <= 32) -> L.foldl max s <= 32:=by
    intro L
    induction L with
    | nil => exact fun s hs _ => hs
    | cons a L ih => exact fun s hs hL => ih _ (by have:=hL a (List.mem_cons_self ..); omega) fun v hv => hL v (List.mem_cons_of_mem _ hv)
   refine this _ 0 (by omega) fun v hv => ?_
   unfold Ql78.diagonal at hv
   obtain ⟨i, hi, rfl⟩:=List.mem_map.mp hv
   have hi:=List.mem_range.mp hi
   rw [at_rows hi hi]
   have:=small_mt (n:=n) (form_small h) i i
   omega
  omega
 omega
theorem grp_len {k : Nat} (hk : k < n) {S : List Ql78.Rows} (s : Starts n l k S) {X : Int -> List (List Int)} (lx : Lines n l X) {v : Int} (hv : v <= fm n l k k) (t : List Int) : (grp (joins n l k S (X v)) t).length <= 33 * 33 ^ k:=by
 by_cases ht : shortB t (owns n l k) = true
 ·rw [grp_joins ht]
  refine Nat.le_trans (flat_len S fun c hc => ?_) (Nat.mul_le_mul_left 33 s.len)
  rw [List.length_map]
  have low:=first_low h hl hk
  exact many_tail h hl hn hk ((s.mem c).mp hc) hv _ ((lx.nodup v).filter _) fun x hx => by
   simp only [List.mem_filter, decide_eq_true_eq] at hx
   have:=(lx.mem v (by omega) x).mp hx.1
   exact ⟨this.1, this.2, hx.2⟩
 ·have e : grp (joins n l k S (X v)) t = []:=by
   rw [List.eq_nil_iff_forall_not_mem]
   intro p hp
   obtain ⟨c, x⟩:=p
   exact ht (mem_joins.mp (mem_grp.mp hp)).2.2.1
  rw [e]
  simp
theorem joined_none {k : Nat} (hk : k < n) {S : List Ql78.Rows} (s : Starts n l k S) {X : Int -> List (List Int)} (lx : Lines n l X) {v : Int} {t : List Int} (hv : v <= top n l) (hb : before (v :: t) (fm n l k k :: fk n l k) = true) : joined n k (grp (joins n l k S (X v)) t) = []:=by
 rw [List.eq_nil_iff_forall_not_mem]
 intro d hd
 unfold joined at hd
 obtain ⟨⟨c, x⟩, hp, rfl⟩:=List.mem_map.mp hd
 obtain ⟨h1, h2⟩:=List.mem_filter.mp hp
 obtain ⟨hc, hx, hs, e⟩:=mem_joins.mp (mem_grp.mp h1)
 obtain ⟨x1, x2⟩:=(lx.mem v hv x).mp hx
 have:=cand_not_before h hl hn hk ((s.mem c).mp hc) x1 (copB_iff.mp h2)
 rw [x2, e, hb] at this
 cases this
theorem joined_some {k : Nat} (hk : k < n) {S : List Ql78.Rows} (s : Starts n l k S) {X : Int -> List (List Int)} (lx : Lines n l X) : Starts n l (k + 1) (joined n k (grp (joins n l k S (X (fm n l k k))) (fk n l k))) /\ joined n k (grp (joins n l k S (X (fm n l k k))) (fk n l k)) ≠ []:=by
 have low:=first_low h hl hk
 have mem : ∀ c, c ∈ joined n k (grp (joins n l k S (X (fm n l k k))) (fk n l k)) ↔ Good n l (k + 1) c:=by
  intro d
  unfold joined
  simp only [List.mem_map, List.mem_filter]
  constructor
  ·rintro ⟨⟨c, x⟩, ⟨h1, h2⟩, rfl⟩
   obtain ⟨hc, hx, hs, e⟩:=mem_joins.mp (mem_grp.mp h1)
   obtain ⟨x1, x2⟩:=(lx.mem _ low x).mp hx
   have g:=(s.mem c).mp hc
   exact (good_snoc h hl hn hk g.fit.len).mpr ⟨g, x1, x2, e, copB_iff.mp h2⟩
  ·intro g
   have hd : d ≠ []:=fun e => by have:=g.fit.len; rw [e] at this; simp at this
   have hd2:=List.dropLast_concat_getLast hd
   have hc : d.dropLast.length = k:=by rw [List.length_dropLast, g.fit.len]; rfl
   rw [<- hd2] at g
   obtain ⟨g1, g2, g3, g4, g5⟩:=(good_snoc h hl hn hk hc).mp g
   refine ⟨(d.dropLast, d.getLast hd), ⟨mem_grp.mpr (mem_joins.mpr ⟨(s.mem _).mpr g1, (lx.mem _ low _).mpr ⟨g2, g3⟩, fk_short h hl hn hk, g4⟩), copB_iff.mpr g5⟩, hd2⟩
 refine ⟨⟨mem, ?_, ?_⟩, ?_⟩
 ·rw [grp_joins (fk_short h hl hn hk)]
  unfold joined
  have inj : ∀ p q : Join, p.1 ++ [p.2] = q.1 ++ [q.2] -> p = q:=fun p q e => by
   obtain ⟨e1, e2⟩:=List.append_inj' e rfl
   exact Prod.ext e1 (List.cons.inj e2).1
  refine nodup_map (f:=fun p : Join => p.1 ++ [p.2]) inj (List.Pairwise.filter _ ?_)
  refine flat_nodup (fun p : Join => p) S s.nodup (fun c hc => ?_) fun c hc d hd x hx y hy e => ?_
  ·refine nodup_map (f:=fun x : List Int => ((c, x) : Join)) (fun a b e => (Prod.ext_iff.mp e).2) ((lx.nodup _).filter _)
  ·obtain ⟨_, _, rfl⟩:=List.mem_map.mp hx
   obtain ⟨_, _, rfl⟩:=List.mem_map.mp hy
   exact (Prod.ext_iff.mp e).1
 ·unfold joined
  rw [List.length_map, Nat.pow_succ, Nat.mul_comm]
  exact Nat.le_trans (List.length_filter_le _ _) (grp_len h hl hn hk s lx (Int.le_refl _) _)
 ·obtain ⟨c, x, g1, g2, g3, g4, g5⟩:=cand_first h hl hn hk
  have : c ++ [x] ∈ joined n k (grp (joins n l k S (X (fm n l k k))) (fk n l k)):=(mem _).mpr ((good_snoc h hl hn hk g1.fit.len).mpr ⟨g1, g2, g3, g4, g5⟩)
  exact List.ne_nil_of_mem this
end
end Fm
namespace Fm
theorem bm_symm {n k : Nat} {M : Mat} (h : Symm n M) : ∀ i j, k + i < n -> k + j < n -> bm k M i j = bm k M j i:=fun i j hi hj => by
 unfold bm
 rw [<- dt_tr]
 refine dt_congr _ fun r c hr hc => ?_
 show bd k M i j c r = bd k M j i r c
 unfold bd
 refine h _ _ ?_ ?_
 ·split <;> omega
 ·split <;> omega
theorem pr_scale (n : Nat) (M : Mat) (a : Int) (x : Nat -> Int) : pr n (fun i j => a * M i j) x x = a * pr n M x x:=by
 unfold pr
 rw [<- sm_mul]
 refine sm_congr _ fun i _ => ?_
 have : sm n (fun j => a * M i j * x j) = a * sm n (fun j => M i j * x j):=by
  rw [<- sm_mul]
  exact sm_congr _ fun j _ => by grind
 rw [this]
 grind
theorem chol_step {n k : Nat} {M : Mat} (hk : k < n) (hs : Symm n M) (hl : Lead n M) (x : Nat -> Int) :
  dt (k + 1) M * pr (n - k) (bm k M) x x = sm (n - k) (fun j => bm k M 0 j * x j) * sm (n - k) (fun j => bm k M 0 j * x j) + dt k M * pr (n - (k + 1)) (bm (k + 1) M) (fun i => x (i + 1)) (fun i => x (i + 1)):=by
 obtain ⟨m, hm⟩ : ∃ m, n - k = m + 1:=⟨n - k - 1, by omega⟩
 have hm' : n - (k + 1) = m:=by omega
 rw [hm, hm']
 have z:=pr_el m (bm k M) (fun i j hi hj => bm_symm hs i j (by omega) (by omega)) x
 rw [bm_lead] at z
 rw [z, <- pr_scale]
 congr 1
 refine pr_congr (fun i j hi hj => ?_) (fun _ _ => rfl) (fun _ _ => rfl)
 rw [sylvester k M i j fun t ht => Int.ne_of_gt (hl t (by omega))]
 rfl
theorem pr_bm0 (n : Nat) (M : Mat) (x : Nat -> Int) : pr n (bm 0 M) x x = pr n M x x:=pr_congr (fun i j _ _ => bm_zero M i j) (fun _ _ => rfl) (fun _ _ => rfl)
theorem bm_nn {n : Nat} {M : Mat} (hs : Symm n M) (hl : Lead n M) : ∀ (d k : Nat), n - k = d -> k <= n -> ∀ x : Nat -> Int, 0 <= pr (n - k) (bm k M) x x
 | 0, k, e, _, x => by rw [e]; exact Int.le_refl 0
 | d + 1, k, e, hk, x => by
  have z:=chol_step (k:=k) (by omega) hs hl x
  have q:=bm_nn hs hl d (k + 1) (by omega) (by omega) fun i => x (i + 1)
  have hD : 0 < dt (k + 1) M:=hl k (by omega)
  have hD0 : 0 < dt k M:=lead_pos fun t ht => hl t (by omega)
  have h1:=sq_nn (sm (n - k) fun j => bm k M 0 j * x j)
  have h2 : 0 <= dt k M * pr (n - (k + 1)) (bm (k + 1) M) (fun i => x (i + 1)) (fun i => x (i + 1)):=Int.mul_nonneg (by omega) q
  rcases lt_or_ge (pr (n - k) (bm k M) x x) 0 with h | h
  ·have:=Int.mul_neg_of_pos_of_neg hD h
   omega
  ·exact h
end Fm
namespace Fm
def Pos (n : Nat) (M : Mat) : Prop:=∀ x : Nat -> Int, 0 <= pr n M x x /\ (pr n M x x <= 0 -> ∀ i, i < n -> x i = 0)
theorem lead_of_pos : ∀ (n : Nat) (M : Mat), Symm n M -> Pos n M -> Lead n M
 | 0, _, _, _ => fun t ht => by omega
 | n + 1, M, hs, hp => by
  have h0 : 0 < M 0 0:=by
   have e : pr (n + 1) M (ur 0) (ur 0) = M 0 0:=by
    unfold pr ur
    rw [sm_single (n + 1) 0 _ (by omega) fun k hk hne => by rw [if_neg hne, Int.zero_mul], if_pos rfl, Int.one_mul,
     sm_single (n + 1) 0 _ (by omega) fun k hk hne => by rw [if_neg hne, Int.mul_zero], if_pos rfl, Int.mul_one]
   have q:=hp (ur 0)
   rw [e] at q
   rcases lt_or_ge 0 (M 0 0) with h | h
   ·exact h
   ·have:=q.2 h 0 (by omega)
    simp [ur] at this
  have hel : Pos n (el M):=by
   have key : ∀ y : Nat -> Int, ∃ x : Nat -> Int, (∀ i, x (i + 1) = M 0 0 * y i) /\ M 0 0 * pr (n + 1) M x x = M 0 0 * M 0 0 * pr n (el M) y y:=fun y => by
    refine ⟨fun i => match i with | 0 => - sm n (fun j => M 0 (j + 1) * y j) | i + 1 => M 0 0 * y i, fun i => rfl, ?_⟩
    rw [pr_el n M hs, sm_shift]
    have e1 : sm n (fun i => M 0 (i + 1) * (M 0 0 * y i)) = M 0 0 * sm n (fun j => M 0 (j + 1) * y j):=by
     rw [<- sm_mul]
     exact sm_congr n fun j _ => by grind
    have e2 : pr n (el M) (fun i => M 0 0 * y i) (fun i => M 0 0 * y i) = M 0 0 * M 0 0 * pr n (el M) y y:=by
     have z1:=pr_lin_l n (el M) (M 0 0) 0 y y (fun i => M 0 0 * y i)
     have z2:=pr_lin_r n (el M) (M 0 0) 0 y y y
     simp only [Int.zero_mul, Int.add_zero] at z1 z2
     rw [z1, z2]
     grind
    show (M 0 0 * (- sm n fun j => M 0 (j + 1) * y j) + sm n fun i => M 0 (i + 1) * (M 0 0 * y i)) * (M 0 0 * (- sm n fun j => M 0 (j + 1) * y j) + sm n fun i => M 0 (i + 1) * (M 0 0 * y i)) + pr n (el M) (fun i => M 0 0 * y i) (fun i => M 0 0 * y i) = _
    rw [e1, e2]
    grind
   intro y
   obtain ⟨x, hx, e⟩:=key y
   have q:=hp x
   have hpos : 0 < M 0 0 * M 0 0:=Int.mul_pos h0 h0
   constructor
   ·rcases lt_or_ge (pr n (el M) y y) 0 with h | h
    ·have h1:=Int.mul_neg_of_pos_of_neg hpos h
     have h2:=Int.mul_nonneg (show 0 <= M 0 0 by omega) q.1
     omega
    ·exact h
   ·intro h i hi
    have h1 : M 0 0 * pr (n + 1) M x x <= 0:=by
     rw [e]
     exact Int.mul_nonpos_of_nonneg_of_nonpos (by omega) h
    have h2 : pr (n + 1) M x x <= 0:=by
     rcases lt_or_ge 0 (pr (n + 1) M x x) with h | h
     ·have:=Int.mul_pos h0 h
      omega
     ·exact h
    have h3:=q.2 h2 (i + 1) (by omega)
    rw [hx i] at h3
    rcases Int.mul_eq_zero.mp h3 with h | h
    ·omega
    ·exact h
  have ih:=lead_of_pos n (el M) hs.el hel
  intro t ht
  cases t with
  | zero => simpa [dt, sm, sg] using h0
  | succ t =>
   have z:=ih t (by omega)
   rw [dt_el t M (Int.ne_of_gt h0)] at z
   rcases lt_or_ge 0 (dt (t + 1 + 1) M) with h | h
   ·exact h
   ·have:=Int.mul_nonpos_of_nonneg_of_nonpos (show 0 <= M 0 0 ^ t from Int.le_of_lt (pow_pos h0 t)) h
    have e : dt (t + 1 + 1) M = dt (t + 2) M:=rfl
    rw [e] at this
    omega
def xc (n : Nat) (C : Mat) (y : Nat -> Int) : Nat -> Int:=fun c => sm n fun j => y j * C j c
theorem pr_sm_l (n : Nat) (M : Mat) (y : Nat -> Int) (C : Mat) (v : Nat -> Int) : ∀ k, pr n M (fun c => sm k fun j => y j * C j c) v = sm k fun j => y j * pr n M (C j) v
 | 0 => by
  unfold pr
  exact sm_zero n fun i _ => by simp [sm]
 | k + 1 => by
  have z:=pr_lin_l n M 1 (y k) (fun c => sm k fun j => y j * C j c) (C k) v
  simp only [Int.one_mul] at z
  rw [sm, <- pr_sm_l n M y C v k, <- z]
  rfl
theorem pr_sm_r (n : Nat) (M : Mat) (y : Nat -> Int) (C : Mat) (v : Nat -> Int) : ∀ k, pr n M v (fun c => sm k fun j => y j * C j c) = sm k fun j => y j * pr n M v (C j)
 | 0 => by
  unfold pr
  exact sm_zero n fun i _ => by
   have : sm n (fun j => M i j * sm 0 (fun j_1 => y j_1 * C j_1 j)) = 0:=sm_zero n fun j _ => by simp [sm]
   rw [this, Int.mul_zero]
 | k + 1 => by
  have z:=pr_lin_r n M 1 (y k) v (fun c => sm k fun j => y j * C j c) (C k)
  simp only [Int.one_mul] at z
  rw [sm, <- pr_sm_r n M y C v k, <- z]
  rfl
theorem pr_gr (n : Nat) (M C : Mat) (y z : Nat -> Int) : pr n (gr n M C) y z = pr n M (xc n C y) (xc n C z):=by
 have e : pr n M (xc n C y) (xc n C z) = sm n fun i => y i * sm n fun j => z j * pr n M (C i) (C j):=by
  unfold xc
  rw [pr_sm_l]
  exact sm_congr n fun i _ => by rw [pr_sm_r]
 rw [e]
 unfold pr gr
 refine sm_congr n fun i _ => ?_
 congr 1
 exact sm_congr n fun j _ => Int.mul_comm _ _
theorem gr_symm {n : Nat} {M C : Mat} (hs : Symm n M) : Symm n (gr n M C):=fun i j _ _ => pr_symm hs _ _
theorem xc_zero {n : Nat} {C : Mat} (hC : (dt n C).natAbs = 1) {y : Nat -> Int} (h : ∀ c, c < n -> xc n C y c = 0) : ∀ i, i < n -> y i = 0:=fun i hi => by
 have hn : dt n (tr C) = dt n C:=dt_tr n C
 obtain ⟨t, ht⟩:=coords (C:=tr C) (by rw [hn]; exact hC) (ur i)
 have e1 : sm n (fun k => y k * ur i k) = y i:=by
  rw [sm_single n i _ hi fun k _ hne => by unfold ur; rw [if_neg hne, Int.mul_zero]]
  unfold ur
  rw [if_pos rfl, Int.mul_one]
 have e2 : sm n (fun k => y k * ur i k) = sm n (fun k => sm n fun j => y k * (t j * C k j)):=by
  refine sm_congr n fun k hk => ?_
  rw [ht k hk, <- sm_mul]
  rfl
 rw [<- e1, e2, sm_swap]
 refine sm_zero n fun j hj => ?_
 have z:=h j hj
 unfold xc at z
 have : sm n (fun k => y k * (t j * C k j)) = t j * sm n (fun k => y k * C k j):=by
  rw [<- sm_mul]
  exact sm_congr n fun k _ => by grind
 rw [this, z, Int.mul_zero]
theorem gr_pos {n : Nat} {M C : Mat} (hp : Pos n M) (hC : (dt n C).natAbs = 1) : Pos n (gr n M C):=fun y => by
 rw [pr_gr]
 exact ⟨(hp _).1, fun h => xc_zero hC ((hp _).2 h)⟩
theorem xc_lin (n : Nat) (C : Mat) (a b : Int) (y z : Nat -> Int) (c : Nat) : xc n C (fun i => a * y i + b * z i) c = a * xc n C y c + b * xc n C z c:=by
 unfold xc
 rw [<- sm_mul, <- sm_mul, <- sm_add]
 exact sm_congr n fun i _ => by grind
theorem xc_ur (n : Nat) (C : Mat) (j c : Nat) (hj : j < n) : xc n C (ur j) c = C j c:=by
 unfold xc ur
 rw [sm_single n j _ hj fun k _ hne => by rw [if_neg hne, Int.zero_mul], if_pos rfl, Int.one_mul]
def tp (G : Mat) (i j : Nat) : Int:=if j < i then 0 else bm i G 0 (j - i)
theorem tp_own (G : Mat) (i : Nat) : tp G i i = dt (i + 1) G:=by
 unfold tp
 rw [if_neg (Nat.lt_irrefl i), Nat.sub_self, bm_lead]
def side (n : Nat) (G : Mat) (i : Nat) (y : Nat -> Int) : Int:=sm n fun j => tp G i j * y j
def sp (n : Nat) (G : Mat) (k : Nat) (y : Nat -> Int) : Int:=pr (n - k) (bm k G) (fun i => y (k + i)) (fun i => y (k + i))
theorem sm_from {f : Nat -> Int} (k : Nat) (h : ∀ j, j < k -> f j = 0) : ∀ d, sm (k + d) f = sm d fun j => f (k + j)
 | 0 => sm_zero k h
 | d + 1 => by
  show sm (k + d) f + f (k + d) = _
  rw [sm_from k h d]
  rfl
theorem side_eq {n : Nat} {G : Mat} {k : Nat} (hk : k <= n) (y : Nat -> Int) : side n G k y = sm (n - k) fun j => bm k G 0 j * y (k + j):=by
 obtain ⟨d, rfl⟩ : ∃ d, n = k + d:=⟨n - k, by omega⟩
 unfold side
 rw [sm_from k (fun j hj => by unfold tp; rw [if_pos hj, Int.zero_mul]) d, Nat.add_sub_cancel_left]
 refine sm_congr d fun j _ => ?_
 unfold tp
 rw [if_neg (by omega), Nat.add_sub_cancel_left]
theorem sp_step {n : Nat} {G : Mat} {k : Nat} (hk : k < n) (hs : Symm n G) (hl : Lead n G) (y : Nat -> Int) :
  dt (k + 1) G * sp n G k y = side n G k y * side n G k y + dt k G * sp n G (k + 1) y:=by
 have z:=chol_step hk hs hl fun i => y (k + i)
 rw [side_eq (by omega)]
 unfold sp
 rw [z]
 congr 2
 refine pr_congr (fun _ _ _ _ => rfl) (fun i _ => ?_) (fun i _ => ?_) <;> exact congrArg y (by omega)
theorem sp_zero (n : Nat) (G : Mat) (y : Nat -> Int) : sp n G 0 y = pr n G y y:=by
 rw [<- pr_bm0 n G y]
 exact pr_congr (fun _ _ _ _ => rfl) (fun i _ => congrArg y (Nat.zero_add i)) (fun i _ => congrArg y (Nat.zero_add i))
theorem sp_end (n : Nat) (G : Mat) (y : Nat -> Int) : sp n G n y = 0:=by
 unfold sp
 rw [Nat.sub_self]
 rfl
theorem sp_nn {n : Nat} {G : Mat} {k : Nat} (hk : k <= n) (hs : Symm n G) (hl : Lead n G) (y : Nat -> Int) : 0 <= sp n G k y:=bm_nn hs hl (n - k) k rfl hk _
theorem sp_congr {n : Nat} {G : Mat} {k : Nat} {y z : Nat -> Int} (h : ∀ c, k <= c -> c < n -> y c = z c) : sp n G k y = sp n G k z :=
 pr_congr (fun _ _ _ _ => rfl) (fun i hi => h _ (by omega) (by omega)) (fun i hi => h _ (by omega) (by omega))
theorem side_congr {n : Nat} {G : Mat} {k : Nat} {y z : Nat -> Int} (h : ∀ c, k <= c -> c < n -> y c = z c) : side n G k y = side n G k z:=by
 unfold side
 refine sm_congr n fun j hj => ?_
 by_cases q : j < k
 ·unfold tp; rw [if_pos q, Int.zero_mul, Int.zero_mul]
 ·rw [h j (by omega) hj]
theorem side_lin (n : Nat) (G : Mat) (k : Nat) (a b : Int) (y z : Nat -> Int) : side n G k (fun i => a * y i + b * z i) = a * side n G k y + b * side n G k z:=by
 unfold side
 rw [<- sm_mul, <- sm_mul, <- sm_add]
 exact sm_congr n fun i _ => by grind
theorem side_ur (n : Nat) (G : Mat) (k j : Nat) (hj : j < n) : side n G k (ur j) = tp G k j:=by
 unfold side ur
 rw [sm_single n j _ hj fun c _ hne => by rw [if_neg hne, Int.mul_zero], if_pos rfl, Int.mul_one]
theorem lead_dt {n : Nat} {G : Mat} (hl : Lead n G) {k : Nat} (hk : k <= n) : 0 < dt k G:=lead_pos fun t ht => hl t (by omega)
theorem le_cancel {d a b : Int} (hd : 0 < d) (h : d * a <= d * b) : a <= b:=Int.le_of_mul_le_mul_left h hd
theorem sp_le_step {n : Nat} {G : Mat} {k : Nat} (hk : k < n) (hs : Symm n G) (hl : Lead n G) {y : Nat -> Int} {m : Int} (h : sp n G k y <= dt k G * m) : sp n G (k + 1) y <= dt (k + 1) G * m:=by
 have z:=sp_step hk hs hl y
 have q:=sq_nn (side n G k y)
 have h0:=lead_dt hl (show k <= n by omega)
 have h1:=lead_dt hl (show k + 1 <= n by omega)
 refine le_cancel h0 ?_
 have:=Int.mul_le_mul_of_nonneg_left h (show 0 <= dt (k + 1) G by omega)
 have e : dt (k + 1) G * (dt k G * m) = dt k G * (dt (k + 1) G * m):=by grind
 omega
theorem sp_le {n : Nat} {G : Mat} {k : Nat} (hs : Symm n G) (hl : Lead n G) {y : Nat -> Int} {m : Int} (h : sp n G k y <= dt k G * m) : ∀ d, k + d <= n -> sp n G (k + d) y <= dt (k + d) G * m
 | 0, _ => h
 | d + 1, hd => sp_le_step (k:=k + d) (Nat.lt_of_lt_of_le (Nat.lt_succ_self _) hd) hs hl (sp_le hs hl h d (by omega))
theorem sp_iff {n : Nat} {G : Mat} {k : Nat} (hk : k < n) (hs : Symm n G) (hl : Lead n G) (y : Nat -> Int) (m : Int) :
  sp n G k y <= dt k G * m ↔ side n G k y * side n G k y <= dt k G * (dt (k + 1) G * m - sp n G (k + 1) y):=by
 have z:=sp_step hk hs hl y
 have h1:=lead_dt hl (show k + 1 <= n by omega)
 have e : dt k G * (dt (k + 1) G * m - sp n G (k + 1) y) = dt (k + 1) G * (dt k G * m) - dt k G * sp n G (k + 1) y:=by grind
 rw [e]
 constructor
 ·intro h
  have:=Int.mul_le_mul_of_nonneg_left h (show 0 <= dt (k + 1) G by omega)
  omega
 ·intro h
  refine le_cancel h1 ?_
  omega
end Fm
namespace Fm
theorem dt_sum (n i : Nat) (M : Mat) (hi : i < n) (r : Nat -> Int) (R : Mat) : ∀ k, dt n (sr M i fun c => sm k fun j => r j * R j c) = sm k fun j => r j * dt n (sr M i (R j))
 | 0 => (alt_dt n).zero M i hi
 | k + 1 => by
  have z:=dt_lin n i M 1 (r k) (fun c => sm k fun j => r j * R j c) (R k) hi
  simp only [Int.one_mul] at z
  rw [sm, <- dt_sum n i M hi r R k, <- z]
  rfl
theorem dt_same (n : Nat) (M : Mat) (i j : Nat) (hi : i < n) (hj : j < n) (h : i ≠ j) (e : ∀ c, c < n -> M i c = M j c) : dt n M = 0:=by
 have e2 : dt n M = dt n (sr M i (M j)):=dt_congr n fun a c _ hc => by
  unfold sr
  by_cases q : a = i
  ·rw [if_pos q, q, e c hc]
  ·rw [if_neg q]
 rw [e2]
 rcases Nat.lt_or_gt_of_ne h with q | q
 ·obtain ⟨d, rfl⟩ : ∃ d, j = i + d + 1:=⟨j - i - 1, by omega⟩
  refine dt_alt d n i _ (by omega) fun c => ?_
  rw [sr_same, sr_ne _ _ _ (by omega)]
 ·obtain ⟨d, rfl⟩ : ∃ d, i = j + d + 1:=⟨i - j - 1, by omega⟩
  refine dt_alt d n j _ (by omega) fun c => ?_
  rw [sr_ne _ _ _ (by omega), sr_same]
theorem dt_row_op {k at' : Nat} {M N : Mat} {y : Nat -> Int} (hat : at' < k) (h1 : ∀ i c, i < k -> c < k -> i ≠ at' -> N i c = M i c) (h2 : ∀ c, c < k -> N at' c = sm (at' + 1) fun j => y j * M j c) (hy : y at' = 1) : dt k N = dt k M:=by
 have e : dt k N = dt k (sr M at' fun c => sm (at' + 1) fun j => y j * M j c):=dt_congr k fun i c hi hc => by
  unfold sr
  by_cases q : i = at'
  ·rw [if_pos q, q, h2 c hc]
  ·rw [if_neg q, h1 i c hi hc q]
 rw [e, dt_sum k at' M hat y M, sm_single (at' + 1) at' _ (by omega) fun j hj hne => ?_, hy, sr_self, Int.one_mul]
 rw [dt_same k (sr M at' (M j)) at' j hat (by omega) (Ne.symm hne) fun c _ => by rw [sr_same, sr_ne _ _ _ hne], Int.mul_zero]
def dv (n : Nat) (G : Mat) (k : Nat) (u v : Nat -> Int) : Int:=dt (k + 1) fun r c => pr n G (if r < k then ur r else u) (if c < k then ur c else v)
theorem pr_ur {n : Nat} (G : Mat) {i j : Nat} (hi : i < n) (hj : j < n) : pr n G (ur i) (ur j) = G i j:=by
 unfold pr ur
 rw [sm_single n i _ hi fun k hk hne => by rw [if_neg hne, Int.zero_mul], if_pos rfl, Int.one_mul, sm_single n j _ hj fun k hk hne => by rw [if_neg hne, Int.mul_zero], if_pos rfl, Int.mul_one]
theorem pr_expand_l (n : Nat) (G : Mat) (u v : Nat -> Int) : pr n G u v = sm n fun j => u j * pr n G (ur j) v:=by
 rw [<- pr_sm_l n G u (fun j => ur j) v n]
 refine pr_congr (fun _ _ _ _ => rfl) (fun i hi => ?_) (fun _ _ => rfl)
 exact (sm_ur n u i hi).symm
theorem dv_symm {n : Nat} {G : Mat} (hs : Symm n G) (k : Nat) (u v : Nat -> Int) : dv n G k u v = dv n G k v u:=by
 unfold dv
 rw [<- dt_tr]
 exact dt_congr _ fun r c _ _ => pr_symm hs _ _
theorem dv_expand (n : Nat) (G : Mat) (k : Nat) (u v : Nat -> Int) : dv n G k u v = sm n fun j => u j * dv n G k (ur j) v:=by
 unfold dv
 let R : Mat:=fun j c => pr n G (ur j) (if c < k then ur c else v)
 let N : Mat:=fun r c => pr n G (if r < k then ur r else u) (if c < k then ur c else v)
 have e1 : dt (k + 1) N = dt (k + 1) (sr N k fun c => sm n fun j => u j * R j c):=dt_congr _ fun r c hr _ => by
  unfold sr
  by_cases q : r = k
  ·rw [if_pos q, q]
   show pr n G (if k < k then ur k else u) _ = _
   rw [if_neg (Nat.lt_irrefl k)]
   exact pr_expand_l n G u _
  ·rw [if_neg q]
 show dt (k + 1) N = _
 rw [e1, dt_sum (k + 1) k N (by omega) u R n]
 refine sm_congr n fun j _ => ?_
 congr 1
 refine dt_congr _ fun r c hr _ => ?_
 unfold sr
 by_cases q : r = k
 ·rw [if_pos q, q, if_neg (Nat.lt_irrefl k)]
 ·rw [if_neg q]
  show pr n G (if r < k then ur r else u) _ = pr n G (if r < k then ur r else ur j) _
  rw [if_pos (show r < k by omega), if_pos (show r < k by omega)]
theorem dv_low (n : Nat) (G : Mat) (k j : Nat) (v : Nat -> Int) (hj : j < k) : dv n G k (ur j) v = 0:=by
 unfold dv
 refine dt_same (k + 1) _ k j (by omega) (by omega) (by omega) fun c _ => ?_
 rw [if_neg (Nat.lt_irrefl k), if_pos hj]
theorem dv_bm {n : Nat} (G : Mat) (k i j : Nat) (hi : k + i < n) (hj : k + j < n) : dv n G k (ur (k + i)) (ur (k + j)) = bm k G i j:=by
 unfold dv bm
 refine dt_congr _ fun r c hr hc => ?_
 unfold bd
 have e : ∀ a b : Nat, (if a < k then ur a else ur (k + b)) = ur (if a < k then a else k + b):=fun a b => by split <;> rfl
 rw [e, e]
 exact pr_ur G (by split <;> omega) (by split <;> omega)
theorem dv_sp {n : Nat} {G : Mat} (hs : Symm n G) {k : Nat} (hk : k <= n) (y : Nat -> Int) : dv n G k y y = sp n G k y:=by
 obtain ⟨d, rfl⟩ : ∃ d, n = k + d:=⟨n - k, by omega⟩
 have lowr : ∀ (u : Nat -> Int) j, j < k -> dv (k + d) G k u (ur j) = 0:=fun u j hj => by rw [dv_symm hs]; exact dv_low _ G k j u hj
 have er : ∀ u : Nat -> Int, dv (k + d) G k u y = sm d fun j => dv (k + d) G k u (ur (k + j)) * y (k + j):=fun u => by
  rw [dv_symm hs, dv_expand, sm_from k (fun j hj => by rw [dv_low _ G k j _ hj, Int.mul_zero]) d]
  exact sm_congr d fun j _ => by rw [dv_symm hs, Int.mul_comm]
 rw [dv_expand, sm_from k (fun j hj => by rw [dv_low _ G k j _ hj, Int.mul_zero]) d]
 unfold sp pr
 rw [Nat.add_sub_cancel_left]
 refine sm_congr d fun i hi => ?_
 rw [er]
 congr 1
 exact sm_congr d fun j hj => by rw [dv_bm G k i j (by omega) (by omega)]
theorem pr_xc {n : Nat} {M C : Mat} {i j : Nat} (C' : Mat) (E : Mat) (hi : i < n) (hj : j < n) (h : ∀ i c, i < n -> c < n -> C' i c = xc n C (E i) c) : gr n M C' i j = pr n (gr n M C) (E i) (E j):=by
 rw [pr_gr]
 exact pr_congr (fun _ _ _ _ => rfl) (fun c hc => h i c hi hc) (fun c hc => h j c hj hc)
structure Own (at' : Nat) (y : Nat -> Int) : Prop where
 one : y at' = 1
 up : ∀ j, at' < j -> y j = 0
structure Made (n : Nat) (C : Mat) (at' : Nat) (y : Nat -> Int) (C' : Mat) : Prop where
 oth : ∀ i c, i < n -> c < n -> i ≠ at' -> C' i c = C i c
 own : ∀ c, c < n -> C' at' c = xc n C y c
theorem Made.rows {n : Nat} {C C' : Mat} {at' : Nat} {y : Nat -> Int} (h : Made n C at' y C') : ∀ i c, i < n -> c < n -> C' i c = xc n C (if i = at' then y else ur i) c:=fun i c hi hc => by
 by_cases q : i = at'
 ·rw [if_pos q, q]; exact h.own c hc
 ·rw [if_neg q, xc_ur n C i c hi]; exact h.oth i c hi hc q
theorem sm_cut {f : Nat -> Int} {k n : Nat} (hk : k <= n) (h : ∀ j, k <= j -> f j = 0) : sm n f = sm k f:=by
 obtain ⟨d, rfl⟩ : ∃ d, n = k + d:=⟨n - k, by omega⟩
 clear hk
 induction d with
 | zero => rfl
 | succ d ih =>
  show sm (k + d) f + f (k + d) = _
  rw [ih, h _ (by omega), Int.add_zero]
theorem Made.lead {n : Nat} {M C C' : Mat} {at' : Nat} {y : Nat -> Int} (h : Made n C at' y C') (hat : at' < n) (hy : Own at' y) {k : Nat} (hk : k <= n) : dt k (gr n M C') = dt k (gr n M C):=by
 by_cases q : k <= at'
 ·refine dt_congr k fun i j hi hj => pr_congr (fun _ _ _ _ => rfl) (fun c hc => h.oth i c (by omega) hc (by omega)) (fun c hc => h.oth j c (by omega) hc (by omega))
 let E : Mat:=fun i => if i = at' then y else ur i
 let G:=gr n M C
 have e0 : dt k (gr n M C') = dt k fun i j => pr n G (E i) (E j):=dt_congr k fun i j hi hj => pr_xc C' E (by omega) (by omega) h.rows
 let G1 : Mat:=fun i j => pr n G (E i) (ur j)
 have e1 : dt k G1 = dt k G:=by
  refine dt_row_op (at':=at') (y:=y) (by omega) (fun i c hi hc hne => ?_) (fun c hc => ?_) hy.one
  ·show pr n G (if i = at' then y else ur i) (ur c) = G i c
   rw [if_neg hne]
   exact pr_ur G (by omega) (by omega)
  ·show pr n G (if at' = at' then y else ur at') (ur c) = _
   rw [if_pos rfl, pr_expand_l, sm_cut (k:=at' + 1) (by omega) fun j hj => by rw [hy.up j (by omega), Int.zero_mul]]
   exact sm_congr _ fun j hj => by rw [pr_ur G (by omega) (by omega)]
 have e2 : dt k (tr fun i j => pr n G (E i) (E j)) = dt k (tr G1):=by
  refine dt_row_op (at':=at') (y:=y) (by omega) (fun i c hi hc hne => ?_) (fun c hc => ?_) hy.one
  ·show pr n G (E c) (if i = at' then y else ur i) = pr n G (E c) (ur i)
   rw [if_neg hne]
  ·show pr n G (E c) (if at' = at' then y else ur at') = sm (at' + 1) fun j => y j * pr n G (E c) (ur j)
   rw [if_pos rfl]
   have z:=pr_sm_r n G y (fun j => ur j) (E c) n
   have z2 : pr n G (E c) y = pr n G (E c) (fun c => sm n fun j => y j * ur j c):=pr_congr (fun _ _ _ _ => rfl) (fun _ _ => rfl) (fun i hi => (sm_ur n y i hi).symm)
   rw [z2, z]
   exact sm_cut (by omega) fun j hj => by rw [hy.up j (by omega), Int.zero_mul]
 rw [e0, <- dt_tr, e2, dt_tr, e1]
theorem Made.unit {n : Nat} {C C' : Mat} {at' : Nat} {y : Nat -> Int} (h : Made n C at' y C') (hat : at' < n) (hy : Own at' y) : dt n C' = dt n C:=by
 refine dt_row_op (at':=at') (y:=y) hat (fun i c hi hc hne => h.oth i c hi hc hne) (fun c hc => ?_) hy.one
 rw [h.own c hc]
 exact sm_cut (by omega) fun j hj => by rw [hy.up j (by omega), Int.zero_mul]
structure Swapped (n : Nat) (C : Mat) (i : Nat) (C' : Mat) : Prop where
 oth : ∀ r c, r < n -> c < n -> r ≠ i -> r ≠ i + 1 -> C' r c = C r c
 lo : ∀ c, c < n -> C' i c = C (i + 1) c
 hi : ∀ c, c < n -> C' (i + 1) c = C i c
theorem dt_swapped {n i : Nat} {C C' : Mat} (h : Swapped n C i C') (hi : i + 1 < n) : dt n C' = - dt n C:=by
 rw [<- dt_swap n i C hi]
 refine dt_congr n fun r c hr hc => ?_
 unfold sw sr
 by_cases q : r = i + 1
 ·rw [if_pos q, q]; exact h.hi c hc
 ·rw [if_neg q]
  by_cases q2 : r = i
  ·rw [if_pos q2, q2]; exact h.lo c hc
  ·rw [if_neg q2]; exact h.oth r c hr hc q2 q
theorem Swapped.gram {n i : Nat} {M C C' : Mat} (h : Swapped n C i C') {r c : Nat} (hr : r < n) (hc : c < n) (hin : i + 1 < n) (v : Nat -> Int) :
  pr n M (C' r) v = pr n M (C (if r = i then i + 1 else if r = i + 1 then i else r)) v:=by
 refine pr_congr (fun _ _ _ _ => rfl) (fun k hk => ?_) (fun _ _ => rfl)
 by_cases q : r = i
 ·rw [if_pos q, q]; exact h.lo k hk
 ·rw [if_neg q]
  by_cases q2 : r = i + 1
  ·rw [if_pos q2, q2]; exact h.hi k hk
  ·rw [if_neg q2]; exact h.oth r k hr hk q q2
theorem Swapped.lead {n i : Nat} {M C C' : Mat} (h : Swapped n C i C') (hs : Symm n M) (hin : i + 1 < n) {k : Nat} (hk : k <= n) (hne : k ≠ i + 1) : dt k (gr n M C') = dt k (gr n M C):=by
 rcases Nat.lt_or_ge k (i + 1) with q | q
 ·refine dt_congr k fun r c hr hc => ?_
  exact pr_congr (fun _ _ _ _ => rfl) (fun z hz => h.oth r z (by omega) hz (by omega) (by omega)) (fun z hz => h.oth c z (by omega) hz (by omega) (by omega))
 ·let N : Mat:=fun r c => pr n M (C' r) (C c)
  have e1 : dt k N = - dt k (gr n M C):=by
   refine dt_swapped (i:=i) ⟨fun r c hr hc h1 h2 => ?_, fun c hc => ?_, fun c hc => ?_⟩ (by omega)
   ·exact pr_congr (fun _ _ _ _ => rfl) (fun z hz => h.oth r z (by omega) hz h1 h2) (fun _ _ => rfl)
   ·exact pr_congr (fun _ _ _ _ => rfl) (fun z hz => h.lo z hz) (fun _ _ => rfl)
   ·exact pr_congr (fun _ _ _ _ => rfl) (fun z hz => h.hi z hz) (fun _ _ => rfl)
  have e2 : dt k (tr (gr n M C')) = - dt k (tr N):=by
   refine dt_swapped (i:=i) ⟨fun r c hr hc h1 h2 => ?_, fun c hc => ?_, fun c hc => ?_⟩ (by omega)
   ·exact pr_congr (fun _ _ _ _ => rfl) (fun _ _ => rfl) (fun z hz => h.oth r z (by omega) hz h1 h2)
   ·exact pr_congr (fun _ _ _ _ => rfl) (fun _ _ => rfl) (fun z hz => h.lo z hz)
   ·exact pr_congr (fun _ _ _ _ => rfl) (fun _ _ => rfl) (fun z hz => h.hi z hz)
  rw [<- dt_tr, e2, dt_tr, e1]
  omega
theorem swapped_minor {n at' : Nat} {M C C1 C2 : Mat} {y : Nat -> Int} (hs : Symm n M) (m : Made n C (at' + 1) y C1) (s : Swapped n C1 at' C2) (hin : at' + 1 < n) : dt (at' + 1) (gr n M C2) = sp n (gr n M C) at' y:=by
 rw [<- dv_sp (gr_symm hs) (by omega)]
 unfold dv
 refine dt_congr _ fun r c hr hc => ?_
 have row : ∀ r z, r < at' + 1 -> z < n -> C2 r z = xc n C (if r < at' then ur r else y) z:=fun r z hr hz => by
  by_cases q : r < at'
  ·rw [if_pos q, xc_ur n C r z (by omega), s.oth r z (by omega) hz (by omega) (by omega), m.oth r z (by omega) hz (by omega)]
  ·rw [if_neg q, show r = at' by omega, s.lo z hz, m.own z hz]
 rw [pr_gr]
 exact pr_congr (fun _ _ _ _ => rfl) (fun z hz => row r z hr hz) (fun z hz => row c z hc hz)
theorem sp_own {n : Nat} {G : Mat} {at' : Nat} {y : Nat -> Int} (hat : at' < n) (hy : Own at' y) : sp n G at' y = dt (at' + 1) G:=by
 rw [sp_congr (z:=ur at') fun c h1 h2 => ?_]
 ·unfold sp
  have e : pr (n - at') (bm at' G) (fun i => ur at' (at' + i)) (fun i => ur at' (at' + i)) = pr (n - at') (bm at' G) (ur 0) (ur 0):=by
   refine pr_congr (fun _ _ _ _ => rfl) (fun i _ => ?_) (fun i _ => ?_) <;> (unfold ur; congr 1; exact propext ⟨fun h => by omega, fun h => by omega⟩)
  rw [e, pr_ur _ (by omega) (by omega), bm_lead]
 ·unfold ur
  by_cases q : c = at'
  ·rw [if_pos q, q, hy.one]
  ·rw [if_neg q, hy.up c (by omega)]
end Fm
namespace Fm
structure Bas (n : Nat) (M C : Mat) : Prop where
 unit : (dt n C).natAbs = 1
 len : ∀ i, i < n -> pr n M (C i) (C i) <= 88
 rat : ∀ j, j < n -> dt (j + 1) (gr n M C) <= 32 * dt j (gr n M C)
structure Frm (n : Nat) (M : Mat) : Prop where
 sym : Symm n M
 pos : Pos n M
 low : n <= 8
 own : ∀ i j, i < n -> j < n -> (M i j).natAbs <= 32
theorem Bas.lead {n : Nat} {M C : Mat} (f : Frm n M) (b : Bas n M C) : Lead n (gr n M C):=lead_of_pos n _ (gr_symm f.sym) (gr_pos f.pos b.unit)
theorem own_ur (j : Nat) : Own j (ur j):=⟨by simp [ur], fun i hi => by unfold ur; rw [if_neg (by omega)]⟩
theorem gr_one {n : Nat} {M : Mat} {i j : Nat} (hi : i < n) (hj : j < n) : gr n M one i j = M i j:=by
 unfold gr
 rw [<- pr_ur M hi hj]
 refine pr_congr (fun _ _ _ _ => rfl) (fun c _ => ?_) (fun c _ => ?_) <;> (unfold one ur; congr 1; exact propext eq_comm)
theorem own_le {n : Nat} {M : Mat} (f : Frm n M) {i : Nat} (hi : i < n) : M i i <= 32:=by
 have:=f.own i i hi hi
 omega
theorem Bas.start {n : Nat} {M C : Mat} (f : Frm n M) (h : ∀ i c, i < n -> c < n -> C i c = one i c) : Bas n M C:=by
 have hu : dt n C = 1:=by rw [dt_congr n h, dt_one]
 have hg : ∀ i j, i < n -> j < n -> gr n M C i j = M i j:=fun i j hi hj => by
  rw [<- gr_one (M:=M) hi hj]
  exact pr_congr (fun _ _ _ _ => rfl) (fun c hc => h i c hi hc) (fun c hc => h j c hj hc)
 refine ⟨by rw [hu]; rfl, fun i hi => ?_, fun j hj => ?_⟩
 ·have:=hg i i hi hi
  have:=own_le f hi
  show gr n M C i i <= 88
  omega
 ·have hl : Lead n M:=lead_of_pos n M f.sym f.pos
  rw [dt_congr (j + 1) (N:=M) fun i c hi hc => hg i c (by omega) (by omega), dt_congr j (N:=M) fun i c hi hc => hg i c (by omega) (by omega), <- sp_own (G:=M) hj (own_ur j)]
  have z:=sp_le f.sym hl (k:=0) (y:=ur j) (m:=32) (by rw [sp_zero, pr_ur M hj hj]; show M j j <= 1 * 32; have:=own_le f hj; omega) j (by omega)
  rw [Nat.zero_add] at z
  omega
structure Settled (n : Nat) (G : Mat) (at' : Nat) (y : Nat -> Int) : Prop where
 own : Own at' y
 half : ∀ k, k < at' -> - dt (k + 1) G <= 2 * side n G k y /\ 2 * side n G k y <= dt (k + 1) G
theorem sq_half {x d : Int} (h1 : - d <= 2 * x) (h2 : 2 * x <= d) : 4 * (x * x) <= d * d:=by
 have:=Int.mul_nonneg (show 0 <= d - 2 * x by omega) (show 0 <= d + 2 * x by omega)
 have e : (d - 2 * x) * (d + 2 * x) = d * d - 4 * (x * x):=by grind
 omega
theorem settled_sp {n : Nat} {G : Mat} {at' : Nat} {y : Nat -> Int} (hs : Symm n G) (hl : Lead n G) (hat : at' < n) (rat : ∀ j, j < n -> dt (j + 1) G <= 32 * dt j G) (h : Settled n G at' y) : ∀ d : Nat, d <= at' -> sp n G (at' - d) y <= dt (at' - d) G * (32 + 8 * (d : Int))
 | 0, _ => by
  rw [Nat.sub_zero, sp_own hat h.own]
  have:=rat at' hat
  have e : dt at' G * (32 + 8 * ((0 : Nat) : Int)) = 32 * dt at' G:=by simp; exact Int.mul_comm _ _
  omega
 | d + 1, hd => by
  have ih:=settled_sp hs hl hat rat h d (by omega)
  obtain ⟨k, hk⟩ : ∃ k, at' - (d + 1) = k:=⟨_, rfl⟩
  have hk1 : at' - d = k + 1:=by omega
  rw [hk1] at ih
  rw [hk]
  have st:=sp_step (k:=k) (by omega) hs hl y
  have hh:=h.half k (by omega)
  have q:=sq_half hh.1 hh.2
  have r:=rat k (by omega)
  have p1 : 0 < dt (k + 1) G:=lead_dt hl (by omega)
  have p0 : 0 < dt k G:=lead_dt hl (by omega)
  refine le_cancel (d:=4 * dt (k + 1) G) (by omega) ?_
  generalize dt (k + 1) G = B at *
  generalize dt k G = A at *
  generalize sp n G (k + 1) y = S1 at *
  generalize sp n G k y = S0 at *
  generalize side n G k y = x at *
  have i1:=Int.mul_le_mul_of_nonneg_left ih (show 0 <= 4 * A by omega)
  have i2:=Int.mul_le_mul_of_nonneg_left r (show 0 <= B by omega)
  have e1 : 4 * A * (B * (32 + 8 * (d : Int))) = 4 * B * (A * (32 + 8 * (d : Int))):=by grind
  have e2 : 4 * B * (A * (32 + 8 * ((d + 1 : Nat) : Int))) = 4 * B * (A * (32 + 8 * (d : Int))) + B * (32 * A):=by
   have : ((d + 1 : Nat) : Int) = (d : Int) + 1:=rfl
   rw [this]
   grind
  have e3 : 4 * B * S0 = 4 * (x * x) + 4 * A * S1:=by grind
  omega
theorem settled_len {n : Nat} {M C : Mat} {at' : Nat} {y : Nat -> Int} (f : Frm n M) (b : Bas n M C) (hat : at' < n) (h : Settled n (gr n M C) at' y) : pr n M (xc n C y) (xc n C y) <= 88:=by
 have z:=settled_sp (gr_symm f.sym) (b.lead f) hat b.rat h at' (Nat.le_refl _)
 rw [Nat.sub_self, sp_zero, pr_gr] at z
 have e : dt 0 (gr n M C) = 1:=rfl
 rw [e, Int.one_mul] at z
 have:=f.low
 omega
theorem Bas.made {n : Nat} {M C C' : Mat} {at' : Nat} {y : Nat -> Int} (f : Frm n M) (b : Bas n M C) (hat : at' < n) (h : Settled n (gr n M C) at' y) (m : Made n C at' y C') : Bas n M C':=by
 refine ⟨by rw [m.unit hat h.own]; exact b.unit, fun i hi => ?_, fun j hj => ?_⟩
 ·by_cases q : i = at'
  ·rw [q, pr_congr (fun _ _ _ _ => rfl) (fun c hc => m.own c hc) (fun c hc => m.own c hc)]
   exact settled_len f b hat h
  ·rw [pr_congr (fun _ _ _ _ => rfl) (fun c hc => m.oth i c hi hc q) (fun c hc => m.oth i c hi hc q)]
   exact b.len i hi
 ·rw [m.lead hat h.own (show j + 1 <= n by omega), m.lead hat h.own (show j <= n by omega)]
  exact b.rat j hj
theorem swap_num {n : Nat} {M C : Mat} {a : Nat} {y : Nat -> Int} (f : Frm n M) (b : Bas n M C) (ha : a + 1 < n) (h : Settled n (gr n M C) (a + 1) y) :
  dt (a + 1) (gr n M C) * sp n (gr n M C) a y = side n (gr n M C) a y * side n (gr n M C) a y + dt a (gr n M C) * dt (a + 2) (gr n M C):=by
 rw [sp_step (by omega) (gr_symm f.sym) (b.lead f) y, sp_own ha h.own]
theorem Bas.swap {n : Nat} {M C C1 C2 : Mat} {a : Nat} {y : Nat -> Int} (f : Frm n M) (b : Bas n M C) (ha : a + 1 < n) (h : Settled n (gr n M C) (a + 1) y) (m : Made n C (a + 1) y C1) (s : Swapped n C1 a C2)
  (less : side n (gr n M C) a y * side n (gr n M C) a y + dt a (gr n M C) * dt (a + 2) (gr n M C) < dt (a + 1) (gr n M C) * dt (a + 1) (gr n M C)) :
  Bas n M C2 /\ (∀ k, k <= n -> k ≠ a + 1 -> dt k (gr n M C2) = dt k (gr n M C)) /\ dt (a + 1) (gr n M C2) < dt (a + 1) (gr n M C):=by
 have b1:=b.made f ha h m
 have same : ∀ k, k <= n -> k ≠ a + 1 -> dt k (gr n M C2) = dt k (gr n M C):=fun k hk hne => (s.lead f.sym ha hk hne).trans (m.lead ha h.own hk)
 have new:=swapped_minor f.sym m s ha
 have num:=swap_num f b ha h
 rw [<- new] at num
 have p1 : 0 < dt (a + 1) (gr n M C):=lead_dt (b.lead f) (by omega)
 have p0 : 0 < dt a (gr n M C):=lead_dt (b.lead f) (by omega)
 have lt : dt (a + 1) (gr n M C2) < dt (a + 1) (gr n M C):=by
  rcases lt_or_ge (dt (a + 1) (gr n M C2)) (dt (a + 1) (gr n M C)) with q | q
  ·exact q
  ·have:=Int.mul_le_mul_of_nonneg_left q (show 0 <= dt (a + 1) (gr n M C) by omega)
   omega
 refine ⟨⟨?_, fun i hi => ?_, fun j hj => ?_⟩, same, lt⟩
 ·rw [dt_swapped s ha, Int.natAbs_neg]; exact b1.unit
 ·rw [s.gram hi hi ha, pr_symm f.sym, s.gram hi hi ha]
  refine b1.len _ ?_
  split
  ·omega
  ·split <;> omega
 ·by_cases q1 : j = a
  ·rw [q1, same a (by omega) (by omega)]
   have:=b.rat a (by omega)
   omega
  ·by_cases q2 : j = a + 1
   ·subst q2
    rw [same (a + 1 + 1) (by omega) (by omega)]
    have r:=b.rat a (by omega)
    have q:=sq_nn (side n (gr n M C) a y)
    refine le_cancel p0 ?_
    have i1 : 0 <= dt (a + 1) (gr n M C2):=by
     rw [new]
     exact sp_nn (by omega) (gr_symm f.sym) (b.lead f) y
    have i2:=Int.mul_le_mul_of_nonneg_right r i1
    have e : 32 * dt a (gr n M C) * dt (a + 1) (gr n M C2) = dt a (gr n M C) * (32 * dt (a + 1) (gr n M C2)):=by grind
    have e2 : dt (a + 2) (gr n M C) = dt (a + 1 + 1) (gr n M C):=rfl
    rw [e2] at num
    omega
   ·rw [same (j + 1) (by omega) (by omega), same j (by omega) q2]
    exact b.rat j hj
theorem not_swap {x d b a : Int} (h1 : - d <= 2 * x) (h2 : 2 * x <= d) (h : ¬ x * x + b * a < d * d) : 3 * (d * d) <= 4 * (b * a):=by
 have:=sq_half h1 h2
 omega
theorem Bas.dt_le {n : Nat} {M C : Mat} (f : Frm n M) (b : Bas n M C) : ∀ k : Nat, k <= n -> dt k (gr n M C) <= 32 ^ k
 | 0, _ => by show (1 : Int) <= 1; decide
 | k + 1, hk => by
  have ih:=b.dt_le f k (by omega)
  have r:=b.rat k (by omega)
  rw [Int.pow_succ]
  omega
theorem pow32 {k : Nat} (hk : k <= 8) : (32 : Int) ^ k <= 2 ^ 40:=by
 have : k = 0 \/ k = 1 \/ k = 2 \/ k = 3 \/ k = 4 \/ k = 5 \/ k = 6 \/ k = 7 \/ k = 8:=by omega
 rcases this with h | h | h | h | h | h | h | h | h <;> (subst h; decide)
theorem Bas.dt_small {n : Nat} {M C : Mat} (f : Frm n M) (b : Bas n M C) {k : Nat} (hk : k <= n) : 0 < dt k (gr n M C) /\ dt k (gr n M C) <= 2 ^ 40 :=
 ⟨lead_dt (b.lead f) hk, Int.le_trans (b.dt_le f k hk) (pow32 (by have:=f.low; omega))⟩
theorem abs_lt_of_sq {x : Int} {B : Nat} (h : x * x < (B * B : Nat)) : x.natAbs < B:=by
 have e : ((x.natAbs * x.natAbs : Nat) : Int) = x * x:=by rw [Int.natCast_mul]; exact Int.natAbs_mul_self' x
 rcases Nat.lt_or_ge x.natAbs B with q | q
 ·exact q
 ·have:=Nat.mul_le_mul q q
  omega
theorem Bas.tp_small {n : Nat} {M C : Mat} (f : Frm n M) (b : Bas n M C) {i j : Nat} (hi : i < n) (hj : j < n) : (tp (gr n M C) i j).natAbs < 2 ^ 44:=by
 have hs:=gr_symm (C:=C) f.sym
 have hl:=b.lead f
 rw [<- side_ur n _ i j hj]
 have st:=sp_step (k:=i) hi hs hl (ur j)
 have nn:=sp_nn (k:=i + 1) (by omega) hs hl (ur j)
 have h0 : sp n (gr n M C) 0 (ur j) <= dt 0 (gr n M C) * 88:=by
  rw [sp_zero, pr_ur _ hj hj]
  show pr n M (C j) (C j) <= 1 * 88
  have:=b.len j hj
  omega
 have le:=sp_le hs hl h0 i (by omega)
 rw [Nat.zero_add] at le
 have d1:=b.dt_small f (show i + 1 <= n by omega)
 have d0:=b.dt_small f (show i <= n by omega)
 refine abs_lt_of_sq ?_
 have nn2:=Int.mul_nonneg (Int.le_of_lt d0.1) nn
 generalize side n (gr n M C) i (ur j) = x at *
 generalize sp n (gr n M C) i (ur j) = S at *
 generalize dt (i + 1) (gr n M C) = B at *
 generalize dt i (gr n M C) = A at *
 have i1:=Int.mul_le_mul_of_nonneg_left le (show 0 <= B by omega)
 have i2 : B * (A * 88) <= 2 ^ 40 * (2 ^ 40 * 88):=Int.mul_le_mul d1.2 (by omega) (by omega) (by decide)
 have e : ((2 ^ 44 * 2 ^ 44 : Nat) : Int) = 2 ^ 88:=by decide
 rw [e]
 have e2 : (2 : Int) ^ 40 * (2 ^ 40 * 88) < 2 ^ 88:=by decide
 omega
theorem rest_small {n : Nat} {M : Mat} (hn : n + 1 <= 8) (h : ∀ i j, i < n + 1 -> j < n + 1 -> (M i j).natAbs <= 32) {i : Nat} : (dt n (mij M i i)).natAbs <= 2 ^ 48:=by
 refine Nat.le_trans (dt_bound 32 n (mij M i i) fun r c hr hc => h _ _ (sk_lt hr) (sk_lt hc)) ?_
 have : n = 0 \/ n = 1 \/ n = 2 \/ n = 3 \/ n = 4 \/ n = 5 \/ n = 6 \/ n = 7:=by omega
 rcases this with h | h | h | h | h | h | h | h <;> (subst h; decide)
theorem small_of_value {n : Nat} {M : Mat} (f : Frm n M) {x : Nat -> Int} (h : pr n M x x <= 88) {i : Nat} (hi : i < n) : (x i).natAbs < 2 ^ 32:=by
 obtain ⟨k, rfl⟩ : ∃ k, n = k + 1:=⟨n - 1, by omega⟩
 have hl : Lead (k + 1) M:=lead_of_pos _ M f.sym f.pos
 have z:=unknown_le k M f.sym hl x i hi
 have r:=rest_small (i:=i) f.low f.own
 have d1 : 0 < dt (k + 1) M:=hl k (by omega)
 refine abs_lt_of_sq ?_
 have nn:=sq_nn (x i)
 have pp:=(f.pos x).1
 generalize x i * x i = X at *
 generalize dt k (mij M i i) = R at *
 generalize pr (k + 1) M x x = V at *
 generalize dt (k + 1) M = D at *
 have hR : R <= 2 ^ 48:=by omega
 have i1 : X <= D * X:=by
  have:=Int.mul_le_mul_of_nonneg_right (show 1 <= D by omega) nn
  omega
 have i2 : V * R <= 88 * 2 ^ 48:=Int.mul_le_mul h hR (by omega) (by decide)
 have e : ((2 ^ 32 * 2 ^ 32 : Nat) : Int) = 2 ^ 64:=by decide
 rw [e]
 have : (88 : Int) * 2 ^ 48 < 2 ^ 64:=by decide
 omega
theorem Bas.row_small {n : Nat} {M C : Mat} (f : Frm n M) (b : Bas n M C) {i c : Nat} (hi : i < n) (hc : c < n) : (C i c).natAbs < 2 ^ 32:=small_of_value f (b.len i hi) hc
def Slow (n : Nat) (G : Mat) : Prop:=∀ i, i + 1 < n -> 3 * (dt (i + 1) G * dt (i + 1) G) <= 4 * (dt i G * dt (i + 2) G)
theorem Slow.ratio {n : Nat} {G : Mat} (hl : Lead n G) (h : Slow n G) : ∀ k : Nat, k < n -> 3 ^ k * dt k G <= 4 ^ k * dt (k + 1) G
 | 0, hk => by
  have:=hl 0 hk
  show (1 : Int) * 1 <= 1 * dt (0 + 1) G
  omega
 | k + 1, hk => by
  have ih:=Slow.ratio hl h k (by omega)
  have s:=h k hk
  have p1 : 0 < dt (k + 1) G:=hl k (by omega)
  have p2 : 0 < dt (k + 2) G:=hl (k + 1) (by omega)
  have t3 : (0 : Int) < 3 ^ k:=pow_pos (by decide) k
  refine le_cancel p1 ?_
  rw [Int.pow_succ, Int.pow_succ]
  have e0 : dt (k + 1 + 1) G = dt (k + 2) G:=rfl
  rw [e0]
  generalize (3 : Int) ^ k = a at *
  generalize (4 : Int) ^ k = b at *
  generalize dt k G = D0 at *
  generalize dt (k + 1) G = D1 at *
  generalize dt (k + 2) G = D2 at *
  have i1:=Int.mul_le_mul_of_nonneg_left s (show 0 <= a by omega)
  have i2:=Int.mul_le_mul_of_nonneg_right ih (show 0 <= 4 * D2 by omega)
  have e1 : a * (3 * (D1 * D1)) = D1 * (a * 3 * D1):=by grind
  have e2 : a * (4 * (D0 * D2)) = a * D0 * (4 * D2):=by grind
  have e3 : b * D1 * (4 * D2) = D1 * (b * 4 * D2):=by grind
  omega
theorem ratio_up {b c : Int} (hb : 0 < b) (hc : 0 < c) {k K : Nat} (hk : k <= K) (h : 3 ^ k * b <= 4 ^ k * c) : 3 ^ K * b <= 4 ^ K * c:=by
 obtain ⟨d, rfl⟩ : ∃ d, K = k + d:=⟨K - k, by omega⟩
 clear hk
 induction d with
 | zero => exact h
 | succ d ih =>
  rw [<- Nat.add_assoc, Int.pow_succ, Int.pow_succ]
  have : 0 < (3 : Int) ^ (k + d) * b:=Int.mul_pos (pow_pos (by decide) _) hb
  have e1 : (3 : Int) ^ (k + d) * 3 * b = 3 * (3 ^ (k + d) * b):=by grind
  have e2 : (4 : Int) ^ (k + d) * 4 * c = 4 * (4 ^ (k + d) * c):=by grind
  omega
def zl (c r s : Int) : List Int:=(List.range ((r - s) / c + (r + s) / c + 1).toNat).map fun (t : Nat) => -((r + s) / c) + (t : Int)
theorem mem_zl {c r s z : Int} (hc : 0 < c) : z ∈ zl c r s ↔ - r <= c * z + s /\ c * z + s <= r:=by
 unfold zl
 rw [List.mem_map]
 have a1 : z <= (r - s) / c ↔ c * z + s <= r:=by
  rw [Int.le_ediv_iff_mul_le hc, Int.mul_comm]
  omega
 have a2 : -z <= (r + s) / c ↔ - r <= c * z + s:=by
  rw [Int.le_ediv_iff_mul_le hc, Int.neg_mul, Int.mul_comm]
  omega
 constructor
 ·rintro ⟨t, ht, rfl⟩
  have ht:=List.mem_range.mp ht
  exact ⟨a2.mp (by omega), a1.mp (by omega)⟩
 ·rintro ⟨h1, h2⟩
  have h1:=a2.mpr h1
  have h2:=a1.mpr h2
  exact ⟨(z + (r + s) / c).toNat, List.mem_range.mpr (by omega), by omega⟩
theorem zl_nodup (c r s : Int) : (zl c r s).Nodup:=by
 unfold zl
 refine List.pairwise_map.mpr (List.Pairwise.imp (fun {a b} (h : a ≠ b) => ?_) List.nodup_range)
 intro e
 apply h
 omega
theorem zl_len {c r s : Int} (hc : 0 < c) {K : Nat} (h : 2 * r < c * (K + 1 : Nat)) : (zl c r s).length <= K + 1:=by
 unfold zl
 rw [List.length_map, List.length_range]
 have h1 : (r - s) / c * c <= r - s:=Int.ediv_mul_le _ (by omega)
 have h2 : (r + s) / c * c <= r + s:=Int.ediv_mul_le _ (by omega)
 have h3 : ((r - s) / c + (r + s) / c) * c < c * (K + 1 : Nat):=by
  rw [Int.add_mul]
  omega
 have h4 : (r - s) / c + (r + s) / c < (K + 1 : Nat):=by
  rcases lt_or_ge ((r - s) / c + (r + s) / c) (K + 1 : Nat) with q | q
  ·exact q
  ·have:=Int.mul_le_mul_of_nonneg_left q (show 0 <= c by omega)
   rw [Int.mul_comm c ((r - s) / c + (r + s) / c)] at this
   omega
 omega
theorem reach44 {b c m S r : Int} (hb : 0 < b) (hc : 0 < c) (hm : 0 <= m) (hm2 : m <= 64) (hS : 0 <= S) (hr : 0 <= r) (h : 2187 * b <= 16384 * c) (hq : r * r <= b * (c * m - S)) : 2 * r < c * (43 + 1 : Nat):=by
 rcases lt_or_ge (2 * r) (c * (43 + 1 : Nat)) with q | q
 ·exact q
 ·exfalso
  have h22 : 22 * c <= r:=by omega
  have i1 : 22 * c * (22 * c) <= r * r:=Int.mul_le_mul h22 h22 (by omega) hr
  have i2 : b * (c * m - S) <= b * (c * 64):=Int.mul_le_mul_of_nonneg_left (by have:=Int.mul_le_mul_of_nonneg_left hm2 (show 0 <= c by omega); omega) (by omega)
  have i3:=Int.mul_le_mul_of_nonneg_right h (show 0 <= c * 64 by omega)
  have e1 : 22 * c * (22 * c) = 484 * (c * c):=by grind
  have e2 : 2187 * b * (c * 64) = 2187 * (b * (c * 64)):=by grind
  have e3 : 16384 * c * (c * 64) = 1048576 * (c * c):=by grind
  have p:=Int.mul_pos hc hc
  omega
end Fm
namespace Fm
open Ql78 (value rows form before ways firstWay)
def rtN : Nat -> Nat
 | 0 => 0
 | n + 1 => if (rtN n + 1) * (rtN n + 1) <= n + 1 then rtN n + 1 else rtN n
theorem rtN_spec : ∀ n, rtN n * rtN n <= n /\ n < (rtN n + 1) * (rtN n + 1)
 | 0 => by decide
 | n + 1 => by
  obtain ⟨h1, h2⟩:=rtN_spec n
  rw [rtN]
  by_cases q : (rtN n + 1) * (rtN n + 1) <= n + 1
  ·rw [if_pos q]
   refine ⟨q, ?_⟩
   have e : (rtN n + 1 + 1) * (rtN n + 1 + 1) = (rtN n + 1) * (rtN n + 1) + 2 * (rtN n + 1) + 1:=by grind
   omega
  ·rw [if_neg q]
   omega
def rt (N : Int) : Int:=(rtN N.toNat : Int)
def IsRt (N r : Int) : Prop:=0 <= r /\ r * r <= N /\ N < (r + 1) * (r + 1)
theorem rt_is {N : Int} (h : 0 <= N) : IsRt N (rt N):=by
 obtain ⟨h1, h2⟩:=rtN_spec N.toNat
 unfold rt
 refine ⟨by omega, ?_, ?_⟩
 ·have : ((rtN N.toNat * rtN N.toNat : Nat) : Int) <= (N.toNat : Int):=by omega
  rw [Int.natCast_mul] at this
  omega
 ·have : (N.toNat : Int) < (((rtN N.toNat + 1) * (rtN N.toNat + 1) : Nat) : Int):=by omega
  have e : ((rtN N.toNat + 1 : Nat) : Int) = (rtN N.toNat : Int) + 1:=rfl
  rw [Int.natCast_mul, e] at this
  omega
theorem sq_le_iff {N r v : Int} (h : IsRt N r) : v * v <= N ↔ - r <= v /\ v <= r:=by
 obtain ⟨h0, h1, h2⟩:=h
 constructor
 ·intro hv
  constructor
  ·rcases lt_or_ge v (-r) with q | q
   ·have : (r + 1) * (r + 1) <= (-v) * (-v):=Int.mul_le_mul (by omega) (by omega) (by omega) (by omega)
    rw [Int.neg_mul_neg] at this
    omega
   ·exact q
  ·rcases lt_or_ge r v with q | q
   ·have : (r + 1) * (r + 1) <= v * v:=Int.mul_le_mul (by omega) (by omega) (by omega) (by omega)
    omega
   ·exact q
 ·rintro ⟨a, b⟩
  have:=Int.mul_nonneg (show 0 <= r - v by omega) (show 0 <= r + v by omega)
  have e : (r - v) * (r + v) = r * r - v * v:=by grind
  omega
theorem rt_unique {N r : Int} (h : IsRt N r) : rt N = r:=by
 have hN : 0 <= N:=Int.le_trans (sq_nn r) h.2.1
 have h':=rt_is hN
 have a:=(sq_le_iff h).mp h'.2.1
 have b:=(sq_le_iff h').mp h.2.1
 omega
def addz (y : Nat -> Int) (j : Nat) (z : Int) : Nat -> Int:=fun c => if c = j then y c + z else y c
def zs (n : Nat) (G : Mat) (m : Int) (k : Nat) (y : Nat -> Int) : List Int:=zl (dt (k + 1) G) (rt (dt k G * (dt (k + 1) G * m - sp n G (k + 1) y))) (side n G k y)
def chs (n : Nat) (G : Mat) (m : Int) (k : Nat) (y0 : Nat -> Int) : Nat -> List (Nat -> Int)
 | 0 => [y0]
 | i + 1 => (chs n G m k y0 i).flatMap fun y => (zs n G m (k - 1 - i) y).map (addz y (k - 1 - i))
theorem addz_lin (y : Nat -> Int) (j : Nat) (z : Int) : addz y j z = fun c => 1 * y c + z * ur j c:=by
 funext c
 unfold addz ur
 by_cases q : c = j
 ·rw [if_pos q, if_pos q]; omega
 ·rw [if_neg q, if_neg q]; omega
theorem side_addz {n : Nat} {G : Mat} {i j : Nat} (hj : j < n) (y : Nat -> Int) (z : Int) : side n G i (addz y j z) = side n G i y + z * tp G i j:=by
 rw [addz_lin, side_lin, side_ur n G i j hj, Int.one_mul]
theorem xc_addz {n : Nat} {C : Mat} {j : Nat} (hj : j < n) (y : Nat -> Int) (z : Int) (c : Nat) : xc n C (addz y j z) c = xc n C y c + z * C j c:=by
 rw [addz_lin, xc_lin, xc_ur n C j c hj, Int.one_mul]
theorem sp_addz {n : Nat} {G : Mat} {k j : Nat} (hj : j < k) (y : Nat -> Int) (z : Int) : sp n G k (addz y j z) = sp n G k y :=
 sp_congr fun c h1 _ => by unfold addz; rw [if_neg (by omega)]
section
variable {n : Nat} {G : Mat} {m : Int} {k : Nat} {y0 : Nat -> Int}
theorem mem_zs (hs : Symm n G) (hl : Lead n G) {k : Nat} (hk : k < n) {y : Nat -> Int} (h : sp n G (k + 1) y <= dt (k + 1) G * m) {z : Int} : z ∈ zs n G m k y ↔ sp n G k (addz y k z) <= dt k G * m:=by
 unfold zs
 have p0 : 0 < dt k G:=lead_dt hl (by omega)
 have hN : 0 <= dt k G * (dt (k + 1) G * m - sp n G (k + 1) y):=Int.mul_nonneg (by omega) (by omega)
 rw [mem_zl (lead_dt hl (by omega)), <- sq_le_iff (rt_is hN), sp_iff hk hs hl, sp_addz (by omega), side_addz hk, tp_own]
 rw [Int.add_comm (side n G k y), Int.mul_comm z]
theorem mem_chs (hs : Symm n G) (hl : Lead n G) (hk : k <= n) (h0 : sp n G k y0 <= dt k G * m) : ∀ i, i <= k -> ∀ y, y ∈ chs n G m k y0 i ↔ (∀ c, c < k - i \/ k <= c -> y c = y0 c) /\ sp n G (k - i) y <= dt (k - i) G * m
 | 0, _, y => by
  rw [chs, List.mem_singleton, Nat.sub_zero]
  constructor
  ·rintro rfl
   exact ⟨fun _ _ => rfl, h0⟩
  ·rintro ⟨h, _⟩
   funext c
   exact h c (by omega)
 | i + 1, hi, y => by
  obtain ⟨j, hj⟩ : ∃ j, k - 1 - i = j:=⟨_, rfl⟩
  have e1 : k - i = j + 1:=by omega
  have e2 : k - (i + 1) = j:=by omega
  have ih:=mem_chs hs hl hk h0 i (by omega)
  rw [e1] at ih
  rw [chs, List.mem_flatMap, e2, hj]
  constructor
  ·rintro ⟨y', hy', hz⟩
   obtain ⟨z, hz2, rfl⟩:=List.mem_map.mp hz
   obtain ⟨a, b⟩:=(ih y').mp hy'
   refine ⟨fun c hc => ?_, (mem_zs hs hl (by omega) b).mp hz2⟩
   unfold addz
   rw [if_neg (by omega)]
   exact a c (by omega)
  ·rintro ⟨a, b⟩
   let y' : Nat -> Int:=fun c => if c = j then y0 c else y c
   have ey : y = addz y' j (y j - y0 j):=by
    funext c
    show y c = if c = j then (if c = j then y0 c else y c) + (y j - y0 j) else if c = j then y0 c else y c
    by_cases q : c = j
    ·rw [if_pos q, if_pos q, q]; omega
    ·rw [if_neg q, if_neg q]
   have sy : sp n G (j + 1) y' = sp n G (j + 1) y:=sp_congr fun c h1 _ => by
    show (if c = j then y0 c else y c) = y c
    rw [if_neg (by omega)]
   have b' : sp n G (j + 1) y' <= dt (j + 1) G * m:=by
    rw [sy]
    exact sp_le_step (by omega) hs hl b
   refine ⟨y', (ih y').mpr ⟨fun c hc => ?_, b'⟩, List.mem_map.mpr ⟨y j - y0 j, (mem_zs hs hl (by omega) b').mpr (by rw [<- ey]; exact b), ey.symm⟩⟩
   show (if c = j then y0 c else y c) = y0 c
   by_cases q : c = j
   ·rw [if_pos q]
   ·rw [if_neg q]; exact a c (by omega)
theorem nodup_chs (hs : Symm n G) (hl : Lead n G) (hk : k <= n) (h0 : sp n G k y0 <= dt k G * m) : ∀ i, i <= k -> (chs n G m k y0 i).Nodup
 | 0, _ => by rw [chs]; simp
 | i + 1, hi => by
  obtain ⟨j, hj⟩ : ∃ j, k - 1 - i = j:=⟨_, rfl⟩
  have e1 : k - i = j + 1:=by omega
  have ih:=nodup_chs hs hl hk h0 i (by omega)
  rw [chs, hj]
  refine List.pairwise_flatMap.mpr ⟨fun y _ => ?_, ?_⟩
  ·have nd : (zs n G m j y).Pairwise (· ≠ ·):=zl_nodup _ _ _
   refine List.pairwise_map.mpr (nd.imp fun {a b} (h : a ≠ b) (e : addz y j a = addz y j b) => h ?_)
   have:=congrFun e j
   unfold addz at this
   rw [if_pos rfl, if_pos rfl] at this
   omega
  ·have two : ∀ {l : List (Nat -> Int)}, (∀ y ∈ l, y j = y0 j) -> l.Nodup -> l.Pairwise fun a₁ a₂ => ∀ x ∈ (zs n G m j a₁).map (addz a₁ j), ∀ y ∈ (zs n G m j a₂).map (addz a₂ j), x ≠ y:=by
    intro l
    induction l with
    | nil => intro _ _; exact .nil
    | cons a l il =>
     intro h1 h2
     obtain ⟨h3, h4⟩:=List.pairwise_cons.mp h2
     refine List.pairwise_cons.mpr ⟨fun b hb x hx y hy e => ?_, il (fun y hy => h1 y (List.mem_cons_of_mem _ hy)) h4⟩
     obtain ⟨z1, _, rfl⟩:=List.mem_map.mp hx
     obtain ⟨z2, _, rfl⟩:=List.mem_map.mp hy
     refine h3 b hb ?_
     funext c
     by_cases q : c = j
     ·rw [q, h1 a (List.mem_cons_self ..), h1 b (List.mem_cons_of_mem _ hb)]
     ·have:=congrFun e c
      unfold addz at this
      rwa [if_neg q, if_neg q] at this
   refine two (fun y hy => ?_) ih
   have:=(mem_chs hs hl hk h0 i (by omega) y).mp hy
   rw [e1] at this
   exact this.1 j (by omega)
theorem len_chs (hk : k <= n) {K : Nat} (hz : ∀ j y, j < k -> sp n G (j + 1) y <= dt (j + 1) G * m -> (zs n G m j y).length <= K) (hs : Symm n G) (hl : Lead n G) (h0 : sp n G k y0 <= dt k G * m) : ∀ i, i <= k -> (chs n G m k y0 i).length <= K ^ i
 | 0, _ => by rw [chs]; simp
 | i + 1, hi => by
  obtain ⟨j, hj⟩ : ∃ j, k - 1 - i = j:=⟨_, rfl⟩
  have e1 : k - i = j + 1:=by omega
  have ih:=len_chs hk hz hs hl h0 i (by omega)
  rw [chs, hj]
  have two : ∀ {l : List (Nat -> Int)}, (∀ y ∈ l, (zs n G m j y).length <= K) -> (l.flatMap fun y => (zs n G m j y).map (addz y j)).length <= l.length * K:=by
   intro l
   induction l with
   | nil => intro _; simp
   | cons a l il =>
    intro h
    rw [List.flatMap_cons, List.length_append, List.length_map, List.length_cons]
    have h1:=h a (List.mem_cons_self ..)
    have h2:=il fun y hy => h y (List.mem_cons_of_mem _ hy)
    have : (l.length + 1) * K = l.length * K + K:=by rw [Nat.add_mul, Nat.one_mul]
    omega
  refine Nat.le_trans (two fun y hy => hz j y (by omega) ?_) ?_
  ·have:=(mem_chs hs hl hk h0 i (by omega) y).mp hy
   rw [e1] at this
   exact this.2
  ·rw [Nat.pow_succ]
   exact Nat.mul_le_mul_right K ih
end
theorem zs44 {n : Nat} {G : Mat} {m : Int} (hn : n <= 8) (hm : 0 <= m) (hm2 : m <= 64) (hs : Symm n G) (hl : Lead n G) (hw : Slow n G) {j : Nat} (hj : j < n) {y : Nat -> Int} (h : sp n G (j + 1) y <= dt (j + 1) G * m) : (zs n G m j y).length <= 44:=by
 have p0 : 0 < dt j G:=lead_dt hl (by omega)
 have p1 : 0 < dt (j + 1) G:=lead_dt hl (by omega)
 have hN : 0 <= dt j G * (dt (j + 1) G * m - sp n G (j + 1) y):=Int.mul_nonneg (by omega) (by omega)
 obtain ⟨r0, r1, r2⟩:=rt_is hN
 refine zl_len (K:=43) p1 (reach44 p0 p1 hm hm2 (sp_nn (by omega) hs hl y) r0 ?_ r1)
 have z:=ratio_up p0 p1 (show j <= 7 by omega) (hw.ratio hl j hj)
 have e3 : (3 : Int) ^ 7 = 2187:=by decide
 have e4 : (4 : Int) ^ 7 = 16384:=by decide
 rwa [e3, e4] at z
end Fm
namespace Fm
open Ql78 (value rows form before ways firstWay)
def vec (n : Nat) (x : Nat -> Int) : List Int:=(List.range n).map x
theorem vec_length (n : Nat) (x : Nat -> Int) : (vec n x).length = n:=by unfold vec; simp
theorem vec_get {n : Nat} {x : Nat -> Int} {i : Nat} (hi : i < n) : (vec n x)[i]? = some (x i):=by
 unfold vec
 rw [List.getElem?_map, List.getElem?_range hi]
 rfl
theorem vec_congr {n : Nat} {x y : Nat -> Int} (h : ∀ i, i < n -> x i = y i) : vec n x = vec n y :=
 List.map_congr_left fun i hi => h i (List.mem_range.mp hi)
theorem vec_inj {n : Nat} {x y : Nat -> Int} (h : vec n x = vec n y) {i : Nat} (hi : i < n) : x i = y i:=by
 have e:=vec_get (x:=x) hi
 rw [h, vec_get hi] at e
 exact (Option.some.inj e).symm
section
variable {n : Nat} {l : List Int} {C : Mat} {m : Int} {mid : Nat}
theorem xc_inj (hC : (dt n C).natAbs = 1) {u v : Nat -> Int} (h : ∀ c, c < n -> xc n C u c = xc n C v c) : ∀ i, i < n -> u i = v i:=fun i hi => by
 have z:=xc_zero hC (y:=fun i => 1 * u i + (-1) * v i) (fun c hc => by rw [xc_lin, h c hc]; omega) i hi
 have z : 1 * u i + (-1) * v i = 0:=z
 omega
end
end Fm
namespace Fm
theorem dv_side {n : Nat} {G : Mat} (hs : Symm n G) {k : Nat} (hk : k < n) (y : Nat -> Int) : dv n G k (ur k) y = side n G k y:=by
 obtain ⟨d, rfl⟩ : ∃ d, n = k + d:=⟨n - k, by omega⟩
 rw [dv_symm hs, dv_expand, sm_from k (fun j hj => by rw [dv_low _ G k j _ hj, Int.mul_zero]) d, side_eq (by omega), Nat.add_sub_cancel_left]
 refine sm_congr d fun j hj => ?_
 rw [dv_symm hs, Int.mul_comm]
 have z:=dv_bm G k 0 j (show k + 0 < k + d by omega) (show k + j < k + d by omega)
 rw [Nat.add_zero] at z
 rw [z]
theorem tp_congr {n : Nat} {M C C' : Mat} {i j : Nat} (hj : j < n) (hij : i <= j) (h : ∀ r c, r <= j -> c < n -> C r c = C' r c) : tp (gr n M C) i j = tp (gr n M C') i j:=by
 unfold tp
 rw [if_neg (by omega), if_neg (by omega)]
 unfold bm
 refine dt_congr _ fun r c hr hc => ?_
 unfold bd
 refine pr_congr (fun _ _ _ _ => rfl) (fun z hz => h _ z ?_ hz) (fun z hz => h _ z ?_ hz)
 ·split <;> omega
 ·split <;> omega
theorem made_tp {n : Nat} {M C C' : Mat} {at' : Nat} {y : Nat -> Int} (hs : Symm n M) (m : Made n C at' y C') (hat : at' < n) {i : Nat} (hi : i < at') : tp (gr n M C') i at' = side n (gr n M C) i y:=by
 rw [<- dv_side (gr_symm hs) (by omega)]
 unfold tp bm dv
 rw [if_neg (by omega)]
 refine dt_congr _ fun r c hr hc => ?_
 unfold bd
 rw [pr_gr]
 refine pr_congr (fun _ _ _ _ => rfl) (fun z hz => ?_) (fun z hz => ?_)
 ·by_cases q : r < i
  ·rw [if_pos q, if_pos q, xc_ur n C r z (by omega)]
   exact m.oth r z (by omega) hz (by omega)
  ·rw [if_neg q, if_neg q, xc_ur n C i z (by omega)]
   exact m.oth i z (by omega) hz (by omega)
 ·by_cases q : c < i
  ·rw [if_pos q, if_pos q, xc_ur n C c z (by omega)]
   exact m.oth c z (by omega) hz (by omega)
  ·rw [if_neg q, if_neg q, show i + (at' - i) = at' by omega]
   exact m.own z hz
structure Lll (n : Nat) (M C : Mat) (a : Nat) : Prop where
 bas : Bas n M C
 slow : ∀ i, i + 1 < a -> 3 * (dt (i + 1) (gr n M C) * dt (i + 1) (gr n M C)) <= 4 * (dt i (gr n M C) * dt (i + 2) (gr n M C))
 half : ∀ i j, i < j -> j < a -> - dt (i + 1) (gr n M C) <= 2 * tp (gr n M C) i j /\ 2 * tp (gr n M C) i j <= dt (i + 1) (gr n M C)
theorem Lll.start {n : Nat} {M C : Mat} (f : Frm n M) (h : ∀ i c, i < n -> c < n -> C i c = one i c) : Lll n M C 1 :=
 ⟨Bas.start f h, fun i hi => by omega, fun i j hi hj => by omega⟩
def todo (n : Nat) (M C : Mat) (a : Nat) : Nat:=2 * (sm (n + 1) fun k => dt k (gr n M C)).toNat + (n - a)
theorem sm_lt {f g : Nat -> Int} {n i : Nat} (hi : i < n) (h : ∀ k, k < n -> k ≠ i -> f k = g k) (hl : f i < g i) : sm n f < sm n g:=by
 induction n with
 | zero => omega
 | succ n ih =>
  rw [sm, sm]
  by_cases q : i = n
  ·subst q
   rw [sm_congr i fun k hk => h k (by omega) (by omega)]
   omega
  ·have:=ih (by omega) fun k hk hne => h k (by omega) hne
   have:=h n (by omega) (by omega)
   omega
theorem Lll.stay {n : Nat} {M C C1 : Mat} {a : Nat} {y : Nat -> Int} (f : Frm n M) (l : Lll n M C (a + 1)) (ha : a + 1 < n) (h : Settled n (gr n M C) (a + 1) y) (m : Made n C (a + 1) y C1)
  (less : ¬ side n (gr n M C) a y * side n (gr n M C) a y + dt a (gr n M C) * dt (a + 2) (gr n M C) < dt (a + 1) (gr n M C) * dt (a + 1) (gr n M C)) :
  Lll n M C1 (a + 2) /\ todo n M C1 (a + 2) < todo n M C (a + 1):=by
 have same : ∀ k, k <= n -> dt k (gr n M C1) = dt k (gr n M C):=fun k hk => m.lead ha h.own hk
 refine ⟨⟨l.bas.made f ha h m, fun i hi => ?_, fun i j hij hj => ?_⟩, ?_⟩
 ·rw [same (i + 1) (by omega), same i (by omega), same (i + 2) (by omega)]
  by_cases q : i = a
  ·subst q
   have hh:=h.half i (by omega)
   exact not_swap hh.1 hh.2 less
  ·exact l.slow i (by omega)
 ·rw [same (i + 1) (by omega)]
  by_cases q : j = a + 1
  ·subst q
   rw [made_tp f.sym m ha hij]
   exact h.half i hij
  ·rw [tp_congr (C':=C) (by omega) (by omega) fun r c hr hc => m.oth r c (by omega) hc (by omega)]
   exact l.half i j hij (by omega)
 ·unfold todo
  rw [sm_congr (n + 1) fun k hk => same k (by omega)]
  omega
theorem Lll.back {n : Nat} {M C C1 C2 : Mat} {a : Nat} {y : Nat -> Int} (f : Frm n M) (l : Lll n M C (a + 1)) (ha : a + 1 < n) (h : Settled n (gr n M C) (a + 1) y) (m : Made n C (a + 1) y C1) (s : Swapped n C1 a C2)
  (less : side n (gr n M C) a y * side n (gr n M C) a y + dt a (gr n M C) * dt (a + 2) (gr n M C) < dt (a + 1) (gr n M C) * dt (a + 1) (gr n M C)) :
  Lll n M C2 (max a 1) /\ todo n M C2 (max a 1) < todo n M C (a + 1):=by
 obtain ⟨b2, same, lt⟩:=l.bas.swap f ha h m s less
 refine ⟨⟨b2, fun i hi => ?_, fun i j hij hj => ?_⟩, ?_⟩
 ·rw [same (i + 1) (by omega) (by omega), same i (by omega) (by omega), same (i + 2) (by omega) (by omega)]
  exact l.slow i (by omega)
 ·rw [same (i + 1) (by omega) (by omega), tp_congr (C':=C) (by omega) (by omega) fun r c hr hc => (s.oth r c (by omega) hc (by omega) (by omega)).trans (m.oth r c (by omega) hc (by omega))]
  exact l.half i j hij (by omega)
 ·unfold todo
  have nn : 0 <= sm (n + 1) fun k => dt k (gr n M C2):=sm_nn (n + 1) fun k hk => Int.le_of_lt (lead_dt (b2.lead f) (by omega))
  have less:=sm_lt (f:=fun k => dt k (gr n M C2)) (g:=fun k => dt k (gr n M C)) (n:=n + 1) (i:=a + 1) (by omega) (fun k hk hne => same k (by omega) hne) lt
  omega
theorem Lll.slowAll {n : Nat} {M C : Mat} (l : Lll n M C n) : Slow n (gr n M C):=fun i hi => l.slow i hi
def Halves (n : Nat) (G : Mat) : Prop:=∀ i j, i < j -> j < n -> - dt (i + 1) G <= 2 * tp G i j /\ 2 * tp G i j <= dt (i + 1) G
theorem abs_mul_le {z t d : Int} {B : Nat} (hz : z.natAbs <= B) (h1 : - d <= 2 * t) (h2 : 2 * t <= d) : - (d * (B : Int)) <= 2 * (z * t) /\ 2 * (z * t) <= d * (B : Int):=by
 have hd : 0 <= d:=by omega
 have e : 2 * (z * t) = z * (2 * t):=by grind
 rw [e]
 have hB : -(B : Int) <= z /\ z <= (B : Int):=by omega
 generalize 2 * t = u at *
 generalize (B : Int) = b at *
 have b0 : 0 <= b:=by omega
 have i1:=Int.mul_nonneg (show 0 <= b - z by omega) (show 0 <= d + u by omega)
 have i2:=Int.mul_nonneg (show 0 <= b + z by omega) (show 0 <= d - u by omega)
 have i3:=Int.mul_nonneg (show 0 <= b - z by omega) (show 0 <= d - u by omega)
 have i4:=Int.mul_nonneg (show 0 <= b + z by omega) (show 0 <= d + u by omega)
 have e1 : (b - z) * (d + u) = b * d + b * u - z * d - z * u:=by grind
 have e2 : (b + z) * (d - u) = b * d - b * u + z * d - z * u:=by grind
 have e3 : (b - z) * (d - u) = b * d - b * u - z * d + z * u:=by grind
 have e4 : (b + z) * (d + u) = b * d + b * u + z * d + z * u:=by grind
 have e5 : d * b = b * d:=Int.mul_comm _ _
 omega
theorem rt_lt22 {n : Nat} {G : Mat} {m : Int} (hn : n <= 8) (hm : 0 <= m) (hm2 : m <= 64) (hs : Symm n G) (hl : Lead n G) (hw : Slow n G) {j : Nat} (hj : j < n) {y : Nat -> Int} (h : sp n G (j + 1) y <= dt (j + 1) G * m) :
  0 <= rt (dt j G * (dt (j + 1) G * m - sp n G (j + 1) y)) /\ rt (dt j G * (dt (j + 1) G * m - sp n G (j + 1) y)) < 22 * dt (j + 1) G:=by
 have p0 : 0 < dt j G:=lead_dt hl (by omega)
 have p1 : 0 < dt (j + 1) G:=lead_dt hl (by omega)
 have hN : 0 <= dt j G * (dt (j + 1) G * m - sp n G (j + 1) y):=Int.mul_nonneg (by omega) (by omega)
 obtain ⟨r0, r1, r2⟩:=rt_is hN
 have z:=ratio_up p0 p1 (show j <= 7 by omega) (hw.ratio hl j hj)
 have e3 : (3 : Int) ^ 7 = 2187:=by decide
 have e4 : (4 : Int) ^ 7 = 16384:=by decide
 rw [e3, e4] at z
 have:=reach44 p0 p1 hm hm2 (sp_nn (by omega) hs hl y) r0 z r1
 exact ⟨r0, by omega⟩
theorem side_chs {n : Nat} {G : Mat} {m : Int} {k : Nat} {y0 : Nat -> Int} (hn : n <= 8) (hm : 0 <= m) (hm2 : m <= 64) (hs : Symm n G) (hl : Lead n G) (hw : Slow n G) (hh : Halves n G) (hk : k <= n) (h0 : sp n G k y0 <= dt k G * m)
  (hy : ∀ c, c < k -> - dt (c + 1) G <= 2 * side n G c y0 /\ 2 * side n G c y0 <= dt (c + 1) G) : ∀ i, i <= k -> ∀ y, y ∈ chs n G m k y0 i -> ∀ c, c < k - i -> - (dt (c + 1) G * (46 * 2 ^ i : Nat)) <= 2 * side n G c y /\ 2 * side n G c y <= dt (c + 1) G * (46 * 2 ^ i : Nat)
 | 0, _, y, h, c, hc => by
  rw [chs, List.mem_singleton] at h
  subst h
  have p : 0 < dt (c + 1) G:=lead_dt hl (by omega)
  have:=hy c (by omega)
  have e : dt (c + 1) G * ((46 * 2 ^ 0 : Nat) : Int) = 46 * dt (c + 1) G:=by
   rw [Int.mul_comm]
   rfl
  rw [e]
  omega
 | i + 1, hi, y, h, c, hc => by
  obtain ⟨j, hj⟩ : ∃ j, k - 1 - i = j:=⟨_, rfl⟩
  have e1 : k - i = j + 1:=by omega
  have ih:=side_chs hn hm hm2 hs hl hw hh hk h0 hy i (by omega)
  have mem:=mem_chs hs hl hk h0 i (by omega)
  rw [e1] at ih mem
  rw [chs, List.mem_flatMap, hj] at h
  obtain ⟨y', hy', hz⟩:=h
  obtain ⟨z, hz2, rfl⟩:=List.mem_map.mp hz
  have sp1:=((mem y').mp hy').2
  obtain ⟨r0, r1⟩:=rt_lt22 hn hm hm2 hs hl hw (show j < n by omega) sp1
  have p1 : 0 < dt (j + 1) G:=lead_dt hl (by omega)
  unfold zs at hz2
  have hz:=(mem_zl p1).mp hz2
  have sj:=ih y' hy' j (by omega)
  have sc:=ih y' hy' c (by omega)
  have hzB : z.natAbs <= 45 * 2 ^ i:=by
   have pw : 1 <= 2 ^ i:=Nat.one_le_two_pow
   generalize 2 ^ i = w at *
   generalize dt (j + 1) G = D at *
   generalize side n G j y' = s at *
   generalize rt _ = r at *
   have e46 : D * ((46 * w : Nat) : Int) = 2 * (D * ((23 * w : Nat) : Int)):=by
    have : ((46 * w : Nat) : Int) = 2 * ((23 * w : Nat) : Int):=by omega
    rw [this]
    grind
   rw [e46] at sj
   have u1 : D * z < D * (22 + (23 * w : Nat) : Int):=by
    have : D * (22 + (23 * w : Nat) : Int) = 22 * D + D * ((23 * w : Nat) : Int):=by grind
    omega
   have u2 : D * (-(22 + (23 * w : Nat)) : Int) < D * z:=by
    have : D * (-(22 + (23 * w : Nat)) : Int) = -(22 * D + D * ((23 * w : Nat) : Int)):=by grind
    omega
   have v1:=Int.lt_of_mul_lt_mul_left u1 (by omega)
   have v2:=Int.lt_of_mul_lt_mul_left u2 (by omega)
   omega
  rw [side_addz (by omega)]
  have hcj:=hh c j (by omega) (by omega)
  have t:=abs_mul_le hzB hcj.1 hcj.2
  have pc : 0 < dt (c + 1) G:=lead_dt hl (by omega)
  generalize dt (c + 1) G = D at *
  have e : D * ((46 * 2 ^ (i + 1) : Nat) : Int) = D * ((46 * 2 ^ i : Nat) : Int) + D * ((46 * 2 ^ i : Nat) : Int):=by
   have : ((46 * 2 ^ (i + 1) : Nat) : Int) = ((46 * 2 ^ i : Nat) : Int) + ((46 * 2 ^ i : Nat) : Int):=by rw [Nat.pow_succ]; omega
   rw [this, Int.mul_add]
  have le : D * ((45 * 2 ^ i : Nat) : Int) <= D * ((46 * 2 ^ i : Nat) : Int):=Int.mul_le_mul_of_nonneg_left (by omega) (by omega)
  rw [e]
  omega
theorem side_small {d s : Int} {i : Nat} (hd : 0 < d) (hd2 : d <= 2 ^ 40) (hi : i <= 8) (h1 : - (d * (46 * 2 ^ i : Nat)) <= 2 * s) (h2 : 2 * s <= d * (46 * 2 ^ i : Nat)) : s.natAbs < 2 ^ 56:=by
 have w : 46 * 2 ^ i <= 46 * 2 ^ 8:=Nat.mul_le_mul_left _ (Nat.pow_le_pow_right (by decide) hi)
 have e : d * ((46 * 2 ^ i : Nat) : Int) <= 2 ^ 40 * (46 * 2 ^ 8):=Int.mul_le_mul hd2 (by omega) (by omega) (by decide)
 have : (2 : Int) ^ 40 * (46 * 2 ^ 8) < 2 ^ 56:=by decide
 omega
end Fm
namespace Fm
def ck (n : Nat) (C G : Mat) (j : Nat) : Nat -> Int:=fun i => if i < n then C j i else tp G (i - n) j
def colL (n : Nat) (C G : Mat) (j : Nat) : List Int:=vec (n + j + 1) (ck n C G j)
def colsL (n : Nat) (C G : Mat) (k : Nat) : List (List Int):=(List.range k).map (colL n C G)
def mk (n : Nat) (C G : Mat) (w y : Nat -> Int) : Nat -> Int:=fun i => if i < n then w i + xc n C y i else side n G (i - n) y
def chL (n : Nat) (C G : Mat) (k : Nat) (w y : Nat -> Int) : Int × List Int:=(sp n G k y, vec (n + k) (mk n C G w y))
theorem mk_addz {n : Nat} {C G : Mat} {w y : Nat -> Int} {j : Nat} (hj : j < n) (z : Int) (i : Nat) : mk n C G w (addz y j z) i = mk n C G w y i + z * ck n C G j i:=by
 unfold mk ck
 by_cases h : i < n
 ·rw [if_pos h, if_pos h, if_pos h, xc_addz hj]
  omega
 ·rw [if_neg h, if_neg h, if_neg h, side_addz hj]
theorem ck_corner (n : Nat) (C G : Mat) (j : Nat) : ck n C G j (n + j) = dt (j + 1) G:=by
 unfold ck
 rw [if_neg (by omega), Nat.add_sub_cancel_left, tp_own]
theorem mk_side (n : Nat) (C G : Mat) (w y : Nat -> Int) (i : Nat) : mk n C G w y (n + i) = side n G i y:=by
 unfold mk
 rw [if_neg (by omega), Nat.add_sub_cancel_left]
theorem mk_low {n : Nat} {C G : Mat} {w y : Nat -> Int} {i : Nat} (h : i < n) : mk n C G w y i = w i + xc n C y i:=by
 unfold mk
 rw [if_pos h]
theorem mk_ur {n : Nat} {C G : Mat} {j : Nat} (hj : j < n) (i : Nat) : mk n C G (fun _ => 0) (ur j) i = ck n C G j i:=by
 unfold mk ck
 by_cases h : i < n
 ·rw [if_pos h, if_pos h, xc_ur n C j i hj, Int.zero_add]
 ·rw [if_neg h, if_neg h, side_ur n G _ j hj]
theorem mk_zero (n : Nat) (C G : Mat) (i : Nat) : mk n C G (fun _ => 0) (fun _ => 0) i = 0:=by
 unfold mk
 by_cases h : i < n
 ·rw [if_pos h, Int.zero_add]
  unfold xc
  exact sm_zero n fun j _ => Int.zero_mul _
 ·rw [if_neg h]
  unfold side
  exact sm_zero n fun j _ => Int.mul_zero _
theorem sp_next {n : Nat} {G : Mat} {k : Nat} (hk : k < n) (hs : Symm n G) (hl : Lead n G) (y : Nat -> Int) (z : Int) :
  ((dt (k + 1) G * z + side n G k y) * (dt (k + 1) G * z + side n G k y) + dt k G * sp n G (k + 1) y) / dt (k + 1) G = sp n G k (addz y k z):=by
 have st:=sp_step hk hs hl (addz y k z)
 rw [side_addz hk, tp_own, sp_addz (k:=k + 1) (Nat.lt_succ_self k)] at st
 have e : side n G k y + z * dt (k + 1) G = dt (k + 1) G * z + side n G k y:=by rw [Int.mul_comm]; omega
 rw [e] at st
 rw [<- st, Int.mul_ediv_cancel_left _ (Int.ne_of_gt (lead_dt hl (by omega)))]
def stl (n : Nat) (G : Mat) : Nat -> (Nat -> Int) -> (Nat -> Int)
 | 0, y => y
 | j + 1, y => stl n G j (addz y j (-((2 * side n G j y + dt (j + 1) G) / (2 * dt (j + 1) G))))
theorem stl_up (n : Nat) (G : Mat) : ∀ (k : Nat) (y : Nat -> Int) (c : Nat), k <= c -> stl n G k y c = y c
 | 0, _, _, _ => rfl
 | j + 1, y, c, h => by
  rw [stl, stl_up n G j _ c (by omega)]
  unfold addz
  rw [if_neg (by omega)]
theorem side_low {n : Nat} {G : Mat} {i : Nat} {y y' : Nat -> Int} (h : ∀ c, i <= c -> y c = y' c) : side n G i y = side n G i y':=side_congr fun c h1 _ => h c h1
theorem half_div {s d : Int} (hd : 0 < d) : - d <= 2 * (s + -((2 * s + d) / (2 * d)) * d) /\ 2 * (s + -((2 * s + d) / (2 * d)) * d) <= d:=by
 have h1:=Int.emod_nonneg (2 * s + d) (show 2 * d ≠ 0 by omega)
 have h2:=Int.emod_lt_of_pos (2 * s + d) (show 0 < 2 * d by omega)
 have h3:=Int.mul_ediv_add_emod (2 * s + d) (2 * d)
 generalize (2 * s + d) / (2 * d) = t at *
 generalize (2 * s + d) % (2 * d) = r at *
 have e : 2 * d * t = 2 * (t * d):=by grind
 have e2 : -t * d = -(t * d):=Int.neg_mul _ _
 rw [e2]
 omega
theorem stl_half {n : Nat} {G : Mat} (hl : Lead n G) : ∀ (k : Nat) (y : Nat -> Int), k <= n -> ∀ i, i < k -> - dt (i + 1) G <= 2 * side n G i (stl n G k y) /\ 2 * side n G i (stl n G k y) <= dt (i + 1) G
 | 0, _, _, i, hi => by omega
 | j + 1, y, hk, i, hi => by
  rw [stl]
  by_cases q : i < j
  ·exact stl_half hl j _ (by omega) i q
  ·have e : i = j:=by omega
   subst e
   rw [side_low (y':=addz y i (-((2 * side n G i y + dt (i + 1) G) / (2 * dt (i + 1) G)))) fun c hc => stl_up n G i _ c hc, side_addz (by omega), tp_own]
   exact half_div (lead_dt hl (by omega))
structure Latt (n : Nat) (M C : Mat) : Prop where
 frm : Frm n M
 lll : Lll n M C n
theorem Latt.sym {n : Nat} {M C : Mat} (t : Latt n M C) : Symm n (gr n M C):=gr_symm t.frm.sym
theorem Latt.lead {n : Nat} {M C : Mat} (t : Latt n M C) : Lead n (gr n M C):=t.lll.bas.lead t.frm
theorem Latt.slow {n : Nat} {M C : Mat} (t : Latt n M C) : Slow n (gr n M C):=t.lll.slowAll
theorem Latt.half {n : Nat} {M C : Mat} (t : Latt n M C) : Halves n (gr n M C):=fun i j h1 h2 => t.lll.half i j h1 h2
theorem Latt.dt_small {n : Nat} {M C : Mat} (t : Latt n M C) {k : Nat} (hk : k <= n) : 0 < dt k (gr n M C) /\ dt k (gr n M C) <= 2 ^ 40:=t.lll.bas.dt_small t.frm hk
theorem Bas.ck_small {n : Nat} {M C : Mat} (f : Frm n M) (b : Bas n M C) {j : Nat} (hj : j < n) {i : Nat} (hi : i < n + j + 1) : (ck n C (gr n M C) j i).natAbs < 2 ^ 56:=by
 unfold ck
 by_cases h : i < n
 ·rw [if_pos h]
  exact Nat.lt_of_lt_of_le (b.row_small f hj h) (by decide)
 ·rw [if_neg h]
  exact Nat.lt_of_lt_of_le (b.tp_small f (show i - n < n by omega) hj) (by decide)
theorem reach_small {n : Nat} {M C : Mat} (t : Latt n M C) {m : Int} (hm : 0 <= m) (hm2 : m <= 64) {k : Nat} (hk : k < n) {y : Nat -> Int} (h : sp n (gr n M C) (k + 1) y <= dt (k + 1) (gr n M C) * m) :
  0 <= dt k (gr n M C) * (dt (k + 1) (gr n M C) * m - sp n (gr n M C) (k + 1) y) /\ dt k (gr n M C) * (dt (k + 1) (gr n M C) * m - sp n (gr n M C) (k + 1) y) < 2 ^ 100:=by
 have d0:=t.dt_small (show k <= n by omega)
 have d1:=t.dt_small (show k + 1 <= n by omega)
 have nn:=sp_nn (show k + 1 <= n by omega) t.sym t.lead y
 refine ⟨Int.mul_nonneg (by omega) (by omega), ?_⟩
 generalize sp n (gr n M C) (k + 1) y = S at *
 generalize dt (k + 1) (gr n M C) = B at *
 generalize dt k (gr n M C) = A at *
 have i1 : B * m <= 2 ^ 40 * 64:=Int.mul_le_mul d1.2 hm2 hm (by decide)
 have i2 : A * (B * m - S) <= 2 ^ 40 * (2 ^ 40 * 64):=Int.mul_le_mul d0.2 (by omega) (by omega) (by decide)
 have : (2 : Int) ^ 40 * (2 ^ 40 * 64) < 2 ^ 100:=by decide
 omega
end Fm
namespace Fm
open Ql78 (value rows form before ways firstWay)
end Fm
namespace Fm
open Ql78 (pair value at_ rows form upTo before changed key first boxes changes)
theorem sub_len {α : Type} [DecidableEq α] : ∀ {L K : List α}, L.Nodup -> (∀ x ∈ L, x ∈ K) -> L.length <= K.length
 | [], _, _, _ => Nat.zero_le _
 | a :: t, K, hd, hs => by
  obtain ⟨h1, h2⟩:=List.nodup_cons.mp hd
  have ha:=hs a (List.mem_cons_self ..)
  have:=sub_len (L:=t) (K:=K.erase a) h2 fun x hx => (List.mem_erase_of_ne (fun e => h1 (by rw [<- e]; exact hx))).mpr (hs x (List.mem_cons_of_mem _ hx))
  rw [List.length_erase_of_mem ha] at this
  have : 0 < K.length:=List.length_pos_of_mem ha
  simp only [List.length_cons]
  omega
theorem inj_len {α : Type} [DecidableEq α] {L K : List α} {f : α -> α} (hd : L.Nodup) (hs : ∀ x ∈ L, f x ∈ K) (inj : ∀ x ∈ L, ∀ y ∈ L, f x = f y -> x = y) : L.length <= K.length:=by
 have nd : (L.map f).Nodup:=by
  unfold List.Nodup
  rw [List.pairwise_map]
  exact List.Pairwise.imp_of_mem (fun {a b} ha hb hne e => hne (inj a ha b hb e)) hd
 have:=sub_len (K:=K) nd fun y hy => by
  obtain ⟨x, hx, rfl⟩:=List.mem_map.mp hy
  exact hs x hx
 rwa [List.length_map] at this
theorem gr_mul (n : Nat) (M A C : Mat) (i j : Nat) : gr n M (mul n A C) i j = gr n (gr n M C) A i j:=(pr_gr n M C (A i) (A j)).symm
theorem gr_congr {n : Nat} {M N C D : Mat} (h : ∀ i j, i < n -> j < n -> M i j = N i j) (e : ∀ i c, i < n -> c < n -> C i c = D i c) {i j : Nat} (hi : i < n) (hj : j < n) : gr n M C i j = gr n N D i j :=
 pr_congr (fun a b ha hb => h a b ha hb) (fun c hc => e i c hi hc) (fun c hc => e j c hj hc)
theorem inv_l {n : Nat} {C : Mat} (hC : (dt n C).natAbs = 1) : ∃ V : Mat, (dt n V).natAbs = 1 /\ ∀ i c, i < n -> c < n -> mul n V C i c = one i c:=by
 have hx : ∀ i, ∃ t : Nat -> Int, ∀ k, k < n -> one i k = sm n fun a => t a * C a k:=fun i => coords hC (one i)
 let V : Mat:=fun i => Classical.choose (hx i)
 have hV : ∀ i c, i < n -> c < n -> mul n V C i c = one i c:=fun i c _ hc => (Classical.choose_spec (hx i) c hc).symm
 refine ⟨V, ?_, hV⟩
 have z:=dt_congr n hV
 rw [dt_mul, dt_one] at z
 have z:=congrArg Int.natAbs z
 rw [Int.natAbs_mul, hC, Nat.mul_one] at z
 exact z
theorem unit_mul {n : Nat} {A C : Mat} (hA : (dt n A).natAbs = 1) (hC : (dt n C).natAbs = 1) : (dt n (mul n A C)).natAbs = 1:=by
 rw [dt_mul, Int.natAbs_mul, hA, hC]
theorem mul_inj {n : Nat} {A C D : Mat} (hA : (dt n A).natAbs = 1) (e : ∀ i c, i < n -> c < n -> mul n A C i c = mul n A D i c) : ∀ i c, i < n -> c < n -> C i c = D i c:=by
 obtain ⟨V, hV, eV⟩:=inv_l hA
 have key : ∀ (X : Mat) i c, i < n -> c < n -> sm n (fun k => V i k * mul n A X k c) = X i c:=fun X i c hi hc => by
  have h1 : sm n (fun k => V i k * mul n A X k c) = sm n fun k => sm n fun a => V i k * (A k a * X a c):=sm_congr n fun k _ => (sm_mul _ _ n).symm
  rw [h1, sm_swap]
  have h2 : (sm n fun a => sm n fun k => V i k * (A k a * X a c)) = sm n fun a => mul n V A i a * X a c:=sm_congr n fun a _ => by
   unfold mul
   rw [Int.mul_comm _ (X a c), <- sm_mul]
   exact sm_congr n fun k _ => by grind
  rw [h2]
  have h3 : (sm n fun a => mul n V A i a * X a c) = sm n fun a => one i a * X a c:=sm_congr n fun a ha => by rw [eV i a hi ha]
  rw [h3]
  exact mul_one_l n X hi
 intro i c hi hc
 rw [<- key C i c hi hc, <- key D i c hi hc]
 exact sm_congr n fun k hk => by rw [e k c hk hc]
theorem fits_iff {n : Nat} {l : List Int} {b c : Ql78.Rows} (h : form n l = true) (hb : ∀ i j, i < n -> j < n -> at_ b i j = at_ b j i) (hc : c.length = n) (hr : ∀ i, i < n -> (c.getD i []).length = n) :
  Fits n l b n c ↔ ∀ i j, i < n -> j < n -> gr n (gm n l) (at_ c) i j = at_ b i j:=by
 have e : ∀ i j, i < n -> j < n -> pair (rows n l) (c.getD i []) (c.getD j []) = gr n (gm n l) (at_ c) i j:=fun i j hi hj => pair_rows (hr i hi) (hr j hj)
 constructor
 ·intro f i j hi hj
  rw [<- e i j hi hj]
  rcases Nat.lt_trichotomy i j with q | q | q
  ·exact f.oth j i hj q
  ·subst q
   exact f.own i hi
  ·rw [pair_symm h (hr i hi) (hr j hj), f.oth i j hi q, hb j i hj hi]
 ·intro f
  refine ⟨hc, hr, fun i hi => ?_, fun i j hi hj => ?_⟩
  ·exact (e i i hi hi).trans (f i i hi hi)
  ·exact (e j i (by omega) hi).trans (f j i (by omega) hi)
theorem rows_ext {n : Nat} {c d : Ql78.Rows} (hc : c.length = n) (hd : d.length = n) (rc : ∀ i, i < n -> (c.getD i []).length = n) (rd : ∀ i, i < n -> (d.getD i []).length = n) (e : ∀ i j, i < n -> j < n -> at_ c i j = at_ d i j) : c = d:=by
 rw [list_range hc, list_range hd]
 refine List.map_congr_left fun i hi => ?_
 have hi:=List.mem_range.mp hi
 exact xv_ext (rc i hi) (rd i hi) fun j hj => e i j hi hj
theorem toR_row {n : Nat} {C : Mat} {i : Nat} (hi : i < n) : ((toR n C).getD i []).length = n:=by rw [toR_get hi]; simp
theorem at_rows_symm {n : Nat} {l : List Int} (h : form n l = true) : ∀ i j, i < n -> j < n -> at_ (rows n l) i j = at_ (rows n l) j i:=fun i j hi hj => by
 rw [at_rows hi hj, at_rows hj hi]
 exact form_symm h i j hi hj
section
variable {n : Nat} {l : List Int} (h : form n l = true) (hl : l.length = n * n)
include h hl
theorem fo_shape : (fo n l).length = n /\ ∀ i, i < n -> ((fo n l).getD i []).length = n:=by
 obtain ⟨c0, s, e⟩:=first_own h hl
 rw [e]
 unfold Ql78.changed
 refine ⟨by rw [List.length_map, s.len], fun i hi => ?_⟩
 rw [List.getD_eq_getElem?_getD, List.getElem?_map, List.getElem?_eq_getElem (by rw [s.len]; exact hi), Option.map_some, Option.getD_some, List.length_map, s.len]
theorem fo_mat : ∃ C0 : Mat, (dt n C0).natAbs = 1 /\ ∀ i j, i < n -> j < n -> gr n (gm n l) C0 i j = fm n l i j:=by
 obtain ⟨c0, s, e⟩:=first_own h hl
 have g:=good_own h hl s e
 exact ⟨at_ c0, prim_full.mp g.prim, (fits_iff h (first_sym h hl) g.fit.len g.fit.row).mp g.fit⟩
theorem fo_flat : (List.range n).flatMap (fun i => (List.range n).map fun j => fm n l i j) = (fo n l).flatten:=by
 obtain ⟨h1, h2⟩:=fo_shape h hl
 rw [List.flatMap_def]
 conv => rhs; rw [list_range h1]
 congr 1
 refine List.map_congr_left fun i hi => ?_
 have hi:=List.mem_range.mp hi
 refine xv_ext (by simp) (h2 i hi) fun j hj => ?_
 rw [xv_map hj]
 rfl
theorem turns_len {S : List Ql78.Rows} (s : Starts n l n S) : S.length = (changes n (rows n l) (rows n l)).length:=by
 obtain ⟨C0, u0, e0⟩:=fo_mat h hl
 obtain ⟨V, uV, eV⟩:=inv_l u0
 have back : ∀ i j, i < n -> j < n -> gr n (fm n l) V i j = gm n l i j:=fun i j hi hj => by
  rw [gr_congr (N:=gr n (gm n l) C0) (D:=V) (fun i j hi hj => (e0 i j hi hj).symm) (fun _ _ _ _ => rfl) hi hj, <- gr_mul, gr_congr (N:=gm n l) (D:=one) (fun _ _ _ _ => rfl) eV hi hj, gr_one hi hj]
 have good : ∀ c, Good n l n c -> c.length = n /\ (∀ i, i < n -> (c.getD i []).length = n) /\ (dt n (at_ c)).natAbs = 1 /\ ∀ i j, i < n -> j < n -> gr n (gm n l) (at_ c) i j = fm n l i j:=fun c g =>
  ⟨g.fit.len, g.fit.row, prim_full.mp g.prim, (fits_iff h (first_sym h hl) g.fit.len g.fit.row).mp g.fit⟩
 have turn : ∀ c, c ∈ changes n (rows n l) (rows n l) ↔ c.length = n /\ (∀ i, i < n -> (c.getD i []).length = n) /\ (dt n (at_ c)).natAbs = 1 /\ ∀ i j, i < n -> j < n -> gr n (gm n l) (at_ c) i j = gm n l i j:=fun c => by
  rw [mem_changes h, det_eq]
  constructor
  ·rintro ⟨f, d⟩
   refine ⟨f.len, f.row, d, fun i j hi hj => ?_⟩
   rw [<- at_rows hi hj]
   exact (fits_iff h (at_rows_symm h) f.len f.row).mp f i j hi hj
  ·rintro ⟨h1, h2, h3, h4⟩
   refine ⟨(fits_iff h (at_rows_symm h) h1 h2).mpr fun i j hi hj => ?_, h3⟩
   rw [at_rows hi hj]
   exact h4 i j hi hj
 have up : ∀ A c, (toR n (mul n A (at_ c))).length = n:=fun A c => by simp [toR]
 have inj : ∀ A : Mat, (dt n A).natAbs = 1 -> ∀ c d : Ql78.Rows, c.length = n -> d.length = n -> (∀ i, i < n -> (c.getD i []).length = n) -> (∀ i, i < n -> (d.getD i []).length = n) -> toR n (mul n A (at_ c)) = toR n (mul n A (at_ d)) -> c = d:=fun A hA c d hc hd rc rd e =>
  rows_ext hc hd rc rd (mul_inj hA fun i j hi hj => by rw [<- at_toR (n:=n) (C:=mul n A (at_ c)) hi hj, e, at_toR hi hj])
 apply Nat.le_antisymm
 ·refine inj_len (f:=fun c => toR n (mul n V (at_ c))) s.nodup (fun c hc => ?_) fun c hc d hd e => ?_
  ·obtain ⟨g1, g2, g3, g4⟩:=good c ((s.mem c).mp hc)
   refine (turn _).mpr ⟨up _ _, fun i hi => toR_row hi, ?_, fun i j hi hj => ?_⟩
   ·rw [dt_congr n fun i j hi hj => at_toR hi hj]
    exact unit_mul uV g3
   ·rw [gr_congr (N:=gm n l) (D:=mul n V (at_ c)) (fun _ _ _ _ => rfl) (fun i j hi hj => at_toR hi hj) hi hj, gr_mul, gr_congr (N:=fm n l) (D:=V) g4 (fun _ _ _ _ => rfl) hi hj]
    exact back i j hi hj
  ·obtain ⟨g1, g2, g3, g4⟩:=good c ((s.mem c).mp hc)
   obtain ⟨q1, q2, q3, q4⟩:=good d ((s.mem d).mp hd)
   exact inj V uV c d g1 q1 g2 q2 e
 ·refine inj_len (f:=fun c => toR n (mul n C0 (at_ c))) (changes_nodup n l _) (fun c hc => ?_) fun c hc d hd e => ?_
  ·obtain ⟨g1, g2, g3, g4⟩:=(turn c).mp hc
   refine (s.mem _).mpr ⟨(fits_iff h (first_sym h hl) (up _ _) fun i hi => toR_row hi).mpr fun i j hi hj => ?_, prim_full.mpr ?_⟩
   ·rw [gr_congr (N:=gm n l) (D:=mul n C0 (at_ c)) (fun _ _ _ _ => rfl) (fun i j hi hj => at_toR hi hj) hi hj, gr_mul, gr_congr (N:=gm n l) (D:=C0) g4 (fun _ _ _ _ => rfl) hi hj]
    exact e0 i j hi hj
   ·rw [dt_congr n fun i j hi hj => at_toR hi hj]
    exact unit_mul u0 g3
  ·obtain ⟨g1, g2, g3, g4⟩:=(turn c).mp hc
   obtain ⟨q1, q2, q3, q4⟩:=(turn d).mp hd
   exact inj C0 u0 c d g1 q1 g2 q2 e
variable (hn : n <= 4) {k : List Int} (h' : form n k = true) (hl' : k.length = n * n)
include hn h' hl'
omit hl in
theorem same_low {C : Mat} (hC : (dt n C).natAbs = 1) (hl : l.length = n * n) (e : ∀ i j, i < n -> j < n -> gr n (gm n l) C i j = gm n k i j) : before (kf n (fm n k)) (kf n (fm n l)) = false:=by
 obtain ⟨C1, u1, e1⟩:=fo_mat h' hl'
 have z:=first_mat h hl hn (unit_mul u1 hC)
 rw [kf_congr (G:=gr n (gm n l) (mul n C1 C)) (G':=fm n k) fun i j hi hj => by
  rw [gr_mul, gr_congr (N:=gm n k) (D:=C1) e (fun _ _ _ _ => rfl) hi hj]
  exact e1 i j hi hj] at z
 exact z
theorem same_iff : (fo n l).flatten = (fo n k).flatten ↔ changes n (rows n l) (rows n k) ≠ []:=by
 have len : ∀ (G H : Mat), (kf n G).length = (kf n H).length:=fun G H => by
  unfold kf
  simp only [List.length_flatMap, List.length_map]
 constructor
 ·intro e
  rw [<- fo_flat h hl, <- fo_flat h' hl'] at e
  have e : ∀ i j, i < n -> j < n -> fm n l i j = fm n k i j:=by
   have key : ∀ m, (List.range m).flatMap (fun i => (List.range n).map fun j => fm n l i j) = (List.range m).flatMap (fun i => (List.range n).map fun j => fm n k i j) -> ∀ i j, i < m -> j < n -> fm n l i j = fm n k i j:=by
    intro m
    induction m with
    | zero => exact fun _ i j hi => by omega
    | succ m ih =>
     intro e i j hi hj
     rw [List.range_succ, List.flatMap_append, List.flatMap_append] at e
     obtain ⟨e1, e2⟩:=List.append_inj' e (by simp)
     by_cases q : i = m
     ·subst q
      simp only [List.flatMap_cons, List.flatMap_nil, List.append_nil] at e2
      exact List.map_inj_left.mp e2 j (List.mem_range.mpr hj)
     ·exact ih e1 i j (by omega) hj
   exact key n e
  obtain ⟨C0, u0, e0⟩:=fo_mat h hl
  obtain ⟨C1, u1, e1⟩:=fo_mat h' hl'
  obtain ⟨V, uV, eV⟩:=inv_l u1
  have mem : toR n (mul n V C0) ∈ changes n (rows n l) (rows n k):=by
   rw [mem_changes h, det_eq]
   refine ⟨(fits_iff h (at_rows_symm h') (by simp [toR]) fun i hi => toR_row hi).mpr fun i j hi hj => ?_, ?_⟩
   ·rw [at_rows hi hj, gr_congr (N:=gm n l) (D:=mul n V C0) (fun _ _ _ _ => rfl) (fun i j hi hj => at_toR hi hj) hi hj, gr_mul,
     gr_congr (N:=gr n (gm n k) C1) (D:=V) (fun i j hi hj => by rw [e0 i j hi hj, e i j hi hj, e1 i j hi hj]) (fun _ _ _ _ => rfl) hi hj, <- gr_mul,
     gr_congr (N:=gm n k) (D:=one) (fun _ _ _ _ => rfl) eV hi hj, gr_one hi hj]
   ·rw [dt_congr n fun i j hi hj => at_toR hi hj]
    exact unit_mul uV u0
  exact List.ne_nil_of_mem mem
 ·intro e
  obtain ⟨c, hc⟩:=List.exists_mem_of_ne_nil _ e
  rw [mem_changes h, det_eq] at hc
  obtain ⟨f, d⟩:=hc
  have eC : ∀ i j, i < n -> j < n -> gr n (gm n l) (at_ c) i j = gm n k i j:=fun i j hi hj => by
   rw [<- at_rows hi hj]
   exact (fits_iff h (at_rows_symm h') f.len f.row).mp f i j hi hj
  obtain ⟨V, uV, eV⟩:=inv_l d
  have eB : ∀ i j, i < n -> j < n -> gr n (gm n k) V i j = gm n l i j:=fun i j hi hj => by
   rw [gr_congr (N:=gr n (gm n l) (at_ c)) (D:=V) (fun i j hi hj => (eC i j hi hj).symm) (fun _ _ _ _ => rfl) hi hj, <- gr_mul, gr_congr (N:=gm n l) (D:=one) (fun _ _ _ _ => rfl) eV hi hj, gr_one hi hj]
  have b1:=same_low h hn h' hl' d hl eC
  have b2:=same_low h' hn h hl uV hl' eB
  have kk:=before_total _ _ (len _ _) b2 b1
  have low : ∀ i j, i < n -> j <= i -> fm n l i j = fm n k i j:=key_inj (a:=fo n l) (b:=fo n k) kk
  rw [<- fo_flat h hl, <- fo_flat h' hl', List.flatMap_def, List.flatMap_def]
  congr 1
  refine List.map_congr_left fun i hi => List.map_congr_left fun j hj => ?_
  have hi:=List.mem_range.mp hi
  have hj:=List.mem_range.mp hj
  rcases Nat.lt_or_ge i j with q | q
  ·rw [first_sym h hl i j hi hj, first_sym h' hl' i j hi hj]
   exact low j i hj (by omega)
  ·exact low i j hi q
end
end Fm
namespace Fm
open Ql78 (pair value at_ rows form)
def lineL (n : Nat) (C G : Mat) (m : Int) : List (Int × List Int):=(chs n G m n (fun _ => 0) n).map fun y => (sp n G 0 y, vec n (xc n C y))
def byV (L : List (Int × List Int)) (v : Int) : List (List Int):=(L.filter fun q => decide (q.1 = v)).map (·.2)
theorem xv_vec {n : Nat} {x : Nat -> Int} {i : Nat} (hi : i < n) : xv (vec n x) i = x i:=by
 unfold vec
 exact xv_map hi
theorem line_val {n : Nat} {l : List Int} {C : Mat} (y : Nat -> Int) : value (rows n l) (vec n (xc n C y)) = sp n (gr n (gm n l) C) 0 y:=by
 rw [sp_zero, pr_gr, value_rows (vec_length _ _)]
 exact pr_congr (fun _ _ _ _ => rfl) (fun c hc => xv_vec hc) (fun c hc => xv_vec hc)
theorem mem_lineL {n : Nat} {l : List Int} {C : Mat} (t : Latt n (gm n l) C) {m : Int} (hm : 0 <= m) (v : Int) (x : List Int) : (v, x) ∈ lineL n C (gr n (gm n l) C) m ↔ x.length = n /\ value (rows n l) x = v /\ v <= m:=by
 have h0 : sp n (gr n (gm n l) C) n (fun _ => 0) <= dt n (gr n (gm n l) C) * m:=by
  rw [sp_end]
  exact Int.mul_nonneg (Int.le_of_lt (t.dt_small (Nat.le_refl n)).1) hm
 have mc:=mem_chs (m:=m) (y0:=fun _ => 0) t.sym t.lead (Nat.le_refl n) h0 n (Nat.le_refl n)
 unfold lineL
 rw [List.mem_map]
 constructor
 ·rintro ⟨y, hy, e⟩
  have e1 : sp n (gr n (gm n l) C) 0 y = v:=congrArg Prod.fst e
  have e2 : vec n (xc n C y) = x:=congrArg Prod.snd e
  have hle:=((mc y).mp hy).2
  rw [Nat.sub_self] at hle
  have d0 : dt 0 (gr n (gm n l) C) = 1:=rfl
  rw [d0, Int.one_mul] at hle
  subst e1 e2
  exact ⟨vec_length _ _, line_val y, hle⟩
 ·rintro ⟨hx, hv, hle⟩
  obtain ⟨u, hu⟩:=coords t.lll.bas.unit (xv x)
  let y : Nat -> Int:=fun c => if c < n then u c else 0
  have ey : vec n (xc n C y) = x:=by
   refine xv_ext (vec_length _ _) hx fun c hc => ?_
   rw [xv_vec hc, hu c hc]
   exact sm_congr n fun i hi => by show (if i < n then u i else 0) * _ = _; rw [if_pos hi]
  refine ⟨y, (mc y).mpr ⟨fun c hc => ?_, ?_⟩, ?_⟩
  ·show (if c < n then u c else 0) = 0
   rw [if_neg (by omega)]
  ·rw [Nat.sub_self, <- line_val y, ey, hv]
   show v <= 1 * m
   omega
  ·rw [<- line_val y, ey, hv]
theorem nodup_lineL {n : Nat} {l : List Int} {C : Mat} (t : Latt n (gm n l) C) {m : Int} (hm : 0 <= m) : (lineL n C (gr n (gm n l) C) m).Nodup:=by
 have h0 : sp n (gr n (gm n l) C) n (fun _ => 0) <= dt n (gr n (gm n l) C) * m:=by
  rw [sp_end]
  exact Int.mul_nonneg (Int.le_of_lt (t.dt_small (Nat.le_refl n)).1) hm
 have mc:=mem_chs (m:=m) (y0:=fun _ => 0) t.sym t.lead (Nat.le_refl n) h0 n (Nat.le_refl n)
 have nd:=nodup_chs (m:=m) (y0:=fun _ => 0) t.sym t.lead (Nat.le_refl n) h0 n (Nat.le_refl n)
 unfold lineL List.Nodup
 rw [List.pairwise_map]
 refine List.Pairwise.imp_of_mem (fun {a b} ha hb hne e => hne ?_) nd
 have e2 : vec n (xc n C a) = vec n (xc n C b):=congrArg Prod.snd e
 have inj:=xc_inj t.lll.bas.unit fun c hc => vec_inj e2 hc
 funext c
 by_cases hc : c < n
 ·exact inj c hc
 ·rw [((mc a).mp ha).1 c (.inr (by omega)), ((mc b).mp hb).1 c (.inr (by omega))]
theorem lines_of {n : Nat} {l : List Int} {C : Mat} (t : Latt n (gm n l) C) (hm : 0 <= top n l) : Lines n l (byV (lineL n C (gr n (gm n l) C) (top n l))):=by
 refine ⟨fun v hv x => ?_, fun v => ?_⟩
 ·unfold byV
  rw [List.mem_map]
  constructor
  ·rintro ⟨q, hq, rfl⟩
   obtain ⟨h1, h2⟩:=List.mem_filter.mp hq
   obtain ⟨v', x'⟩:=q
   have h2 : v' = v:=of_decide_eq_true h2
   subst h2
   have:=(mem_lineL t hm _ _).mp h1
   exact ⟨this.1, this.2.1⟩
  ·rintro ⟨h1, h2⟩
   exact ⟨(v, x), List.mem_filter.mpr ⟨(mem_lineL t hm _ _).mpr ⟨h1, h2, hv⟩, decide_eq_true rfl⟩, rfl⟩
 ·unfold byV List.Nodup
  rw [List.pairwise_map]
  refine List.Pairwise.imp_of_mem (fun {a b} ha hb hne e => hne ?_) ((nodup_lineL t hm).filter _)
  have h1 : a.1 = v:=of_decide_eq_true (List.mem_filter.mp ha).2
  have h2 : b.1 = v:=of_decide_eq_true (List.mem_filter.mp hb).2
  exact Prod.ext (h1.trans h2.symm) e
theorem top_is {n : Nat} {l : List Int} (h : form n l = true) {m : Int} (h1 : m ∈ (List.range n).map fun i => gm n l i i) (h2 : ∀ y ∈ (List.range n).map (fun i => gm n l i i), y <= m) : m = top n l:=by
 obtain ⟨i, hi, rfl⟩:=List.mem_map.mp h1
 have hi:=List.mem_range.mp hi
 refine Int.le_antisymm (top_ge hi) ?_
 unfold top
 have key : ∀ (L : List Int) (s m : Int), s <= m -> (∀ v ∈ L, v <= m) -> L.foldl max s <= m:=by
  intro L
  induction L with
  | nil => exact fun s m hs _ => hs
  | cons a L ih => exact fun s m hs hL => ih _ m (by have:=hL a (List.mem_cons_self ..); omega) fun v hv => hL v (List.mem_cons_of_mem _ hv)
 refine key _ 0 _ (Int.le_of_lt (diag_pos h hi)) fun v hv => ?_
 unfold Ql78.diagonal at hv
 obtain ⟨j, hj, rfl⟩:=List.mem_map.mp hv
 rw [at_rows (List.mem_range.mp hj) (List.mem_range.mp hj)]
 exact h2 _ (List.mem_map.mpr ⟨j, hj, rfl⟩)
theorem top_pos {n : Nat} {l : List Int} (h : form n l = true) (h1 : 1 <= n) : 0 < top n l:=by
 have:=diag_pos h (show 0 < n by omega)
 have:=top_ge (n:=n) (l:=l) (show 0 < n by omega)
 omega
end Fm
namespace Pr
open PySem PySem.Spec PyProof.Rows L2
section
variable {X : Cx}
def CDivB (i j : Int) : Prop:=0 < j /\ j < 2 ^ 64
theorem log_small {j : Int} (h1 : 0 < j) (h2 : j < 2 ^ 64) : j.natAbs.log2 < 9000:=by
 refine Nat.lt_of_lt_of_le ((Nat.log2_lt (by omega)).mpr (show j.natAbs < 2 ^ 64 by omega)) (by decide)
theorem op_fdivB : OpR X (binaryOp .FloorDiv) (rI CDivB fun i j => .int (i / j)):=opI fun i j _ _ _ _ _ hc q => by
 have h1 : (0 : Int) < j:=hc.1
 have h2 : j < 2 ^ 64:=hc.2
 exact floordiv_int (by omega) (by rw [Int.fdiv_eq_ediv_of_nonneg i (by omega)]; exact q) (.inl (PyProof.noPylong_of_log2 (log_small h1 h2)))
end
theorem getV {ns : List Int} {k : Nat} (h : k < ns.length) : (ns.map V.int)[k]? = some (V.int (ns.getD k 0)):=by
 rw [List.getElem?_map, List.getD_eq_getElem?_getD, List.getElem?_eq_getElem h]
 rfl
theorem mem_ix {α : Type} {l : List α} {x : α} (h : x ∈ l) : ∃ i : Nat, l[i]? = some x:=by
 obtain ⟨i, hi, e⟩:=List.mem_iff_getElem.mp h
 exact ⟨i, by rw [List.getElem?_eq_getElem hi, e]⟩
theorem cut_nat (ns : List V) (lo hi : Nat) : cutV ns (some (lo : Int)) (some (hi : Int)) = (ns.drop (min lo ns.length)).take (min hi ns.length - min lo ns.length):=by
 unfold cutV
 rw [HT.sIx_nat, HT.sIx_nat]
theorem cut_from (ns : List V) (lo : Nat) : cutV ns (some (lo : Int)) none = ns.drop lo:=by
 unfold cutV
 rw [HT.sIx_nat, HT.sIx_none]
 by_cases h : lo <= ns.length
 ·rw [Nat.min_eq_left h]
  exact List.take_of_length_le (by rw [List.length_drop]; exact Nat.le_refl _)
 ·rw [Nat.min_eq_right (by omega), List.drop_eq_nil_of_le (by omega), List.drop_eq_nil_of_le (by omega)]
  simp
theorem same_new {H : Hp} {l : Addr} {o : HO} (h : H l = Option.none) : Same H (upd H l o):=fun b u e => by
 rw [upd_ne (ne_of_none e h)]; exact e
theorem same_upd {H H' : Hp} {l : Addr} {o : HO} (h : H l = Option.none) (s : Same H H') : Same H (upd H' l o):=fun b u e => by
 rw [upd_ne (ne_of_none e h)]; exact s b u e
end Pr
namespace Pr
open PySem PySem.Spec PyProof.Rows L2
structure Ext (F H F' H' : Hp) : Prop where
 s0 : Same F H
 hh : Same H H'
 ff : Same F F'
 inn : Same F' H'
 new : ∀ b, F b = Option.none -> F' b ≠ Option.none -> H b = Option.none
theorem Ext.refl {F H : Hp} (s : Same F H) : Ext F H F H:=⟨s, .refl _, .refl _, s, fun b h1 h2 => absurd h1 h2⟩
theorem Ext.trans {F H F1 H1 F2 H2 : Hp} (a : Ext F H F1 H1) (b : Ext F1 H1 F2 H2) : Ext F H F2 H2 :=
 ⟨a.s0, a.hh.trans b.hh, a.ff.trans b.ff, b.inn, fun c h1 h2 => by
  cases q : F1 c with
  | none => exact a.hh.free (b.new c q h2)
  | some o => exact a.new c h1 (by rw [q]; exact fun z => nomatch z)⟩
theorem Ext.put {F0 H0 F H : Hp} {q : Addr} {o : HO} (e : Ext F0 H0 F H) (hq : H q = Option.none) : Ext F0 H0 (upd F q o) (upd H q o) :=
 ⟨e.s0, e.hh.trans (same_new hq), e.ff.trans (same_new (e.inn.free hq)), fun b u h => by
  unfold upd at h ⊢
  split at h
  ·rename_i z; rw [if_pos z]; exact h
  ·rename_i z; rw [if_neg z]; exact e.inn b u h, fun b h1 h2 => by
  by_cases z : b = q
  ·rw [z]; exact e.hh.free hq
  ·rw [upd_ne z] at h2; exact e.new b h1 h2⟩
theorem Ext.loc {F0 H0 F H : Hp} {p : Addr} {o : HO} (e : Ext F0 H0 F H) (h0 : H0 p = Option.none) (hF : F p = Option.none) : Ext F0 H0 F (upd H p o) :=
 ⟨e.s0, same_upd h0 e.hh, e.ff, same_upd hF e.inn, e.new⟩
theorem Ext.freeze {F0 H0 F H : Hp} {p : Addr} {o : HO} (e : Ext F0 H0 F H) (hp : H p = some o) (h0 : H0 p = Option.none) (hF : F p = Option.none) : Ext F0 H0 (upd F p o) H :=
 ⟨e.s0, e.hh, e.ff.trans (same_new hF), fun b u h => by
  by_cases z : b = p
  ·rw [z, upd_same] at h; cases h; rw [z]; exact hp
  ·rw [upd_ne z] at h; exact e.inn b u h, fun b h1 h2 => by
  by_cases z : b = p
  ·rw [z]; exact h0
  ·rw [upd_ne z] at h2; exact e.new b h1 h2⟩
theorem Ext.out {F H F' H' : Hp} {p : Addr} {o : HO} (e : Ext F H F' H') (hp : H p = some o) (hF : F p = Option.none) : F' p = Option.none:=by
 cases q : F' p with
 | none => rfl
 | some u =>
  have:=e.new p hF (by rw [q]; exact fun z => nomatch z)
  rw [hp] at this
  cases this
theorem same_put {F : Hp} {p : Addr} {o : HO} (hF : F p = Option.none) : Same F (upd F p o):=same_new hF
structure Mono {α : Type} (P : Hp -> V -> α -> Prop) : Prop where
 up : ∀ {F F' : Hp} {v : V} {x : α}, Same F F' -> P F v x -> P F' v x
def IsI : Hp -> V -> Int -> Prop:=fun _ v i => v = .int i
def IsRow : Hp -> V -> List Int -> Prop:=fun F v ns => ∃ a, v = .ref a /\ F a = some (.lst (ns.map V.int))
def LOf {α : Type} (P : Hp -> V -> α -> Prop) : Hp -> V -> List α -> Prop:=fun F v l => ∃ a vs, v = .ref a /\ F a = some (.lst vs) /\ Paired (P F) vs l
def T2 {α β : Type} (P : Hp -> V -> α -> Prop) (R : Hp -> V -> β -> Prop) : Hp -> V -> α × β -> Prop:=fun F v x => ∃ a v1 v2, v = .ref a /\ F a = some (.tup [v1, v2]) /\ P F v1 x.1 /\ R F v2 x.2
theorem mono_i : Mono IsI:=⟨fun _ h => h⟩
theorem mono_row : Mono IsRow:=⟨fun s ⟨a, e, h⟩ => ⟨a, e, s _ _ h⟩⟩
theorem Paired.up {α : Type} {P : Hp -> V -> α -> Prop} (m : Mono P) {F F' : Hp} (s : Same F F') {vs : List V} {l : List α} (h : Paired (P F) vs l) : Paired (P F') vs l:=Paired.mapP h fun _ _ z => m.up s z
theorem mono_l {α : Type} {P : Hp -> V -> α -> Prop} (m : Mono P) : Mono (LOf P):=⟨fun s ⟨a, vs, e, h, r⟩ => ⟨a, vs, e, s _ _ h, Paired.up m s r⟩⟩
theorem mono_t2 {α β : Type} {P : Hp -> V -> α -> Prop} {R : Hp -> V -> β -> Prop} (m : Mono P) (k : Mono R) : Mono (T2 P R):=⟨fun s ⟨a, v1, v2, e, h, r, q⟩ => ⟨a, v1, v2, e, s _ _ h, m.up s r, k.up s q⟩⟩
abbrev IsRows : Hp -> V -> List (List Int) -> Prop:=LOf IsRow
theorem mono_rows : Mono IsRows:=mono_l mono_row
abbrev IsCh : Hp -> V -> Int × List Int -> Prop:=T2 IsI IsRow
theorem mono_ch : Mono IsCh:=mono_t2 mono_i mono_row
abbrev IsChs : Hp -> V -> List (Int × List Int) -> Prop:=LOf IsCh
theorem pget {α : Type} {P : V -> α -> Prop} {vs : List V} {l : List α} (h : Paired P vs l) {i : Nat} {v : V} (e : vs[i]? = some v) : ∃ x, l[i]? = some x /\ P v x:=paired_get h e
theorem pget' {α : Type} {P : V -> α -> Prop} {vs : List V} {l : List α} (h : Paired P vs l) {i : Nat} {x : α} (e : l[i]? = some x) : ∃ v, vs[i]? = some v /\ P v x:=by
 have hl:=Paired.length h
 have hi : i < l.length:=(List.getElem?_eq_some_iff.mp e).1
 have hv : vs[i]? = some vs[i]:=List.getElem?_eq_getElem (by omega)
 obtain ⟨y, hy, hp⟩:=pget h hv
 rw [e] at hy
 cases hy
 exact ⟨_, hv, hp⟩
theorem ptake {α : Type} {P : V -> α -> Prop} : ∀ {vs : List V} {l : List α} (k : Nat), Paired P vs l -> Paired P (vs.take k) (l.take k)
 | _, _, 0, _ => .nil
 | _, _, _ + 1, .nil => .nil
 | _, _, k + 1, .cons r t => .cons r (ptake k t)
theorem pdrop {α : Type} {P : V -> α -> Prop} : ∀ {vs : List V} {l : List α} (k : Nat), Paired P vs l -> Paired P (vs.drop k) (l.drop k)
 | _, _, 0, r => r
 | _, _, _ + 1, .nil => .nil
 | _, _, k + 1, .cons _ t => pdrop k t
theorem pset {α : Type} {P : V -> α -> Prop} {v : V} {x : α} (r : P v x) : ∀ {vs : List V} {l : List α} (i : Nat), Paired P vs l -> Paired P (vs.set i v) (l.set i x)
 | _, _, _, .nil => .nil
 | _, _, 0, .cons _ t => .cons r t
 | _, _, i + 1, .cons q t => .cons q (pset r i t)
theorem papp {α : Type} {P : V -> α -> Prop} : ∀ {vs ws : List V} {l k : List α}, Paired P vs l -> Paired P ws k -> Paired P (vs ++ ws) (l ++ k)
 | _, _, _, _, .nil, s => s
 | _, _, _, _, .cons r t, s => .cons r (papp t s)
theorem pints_eq {F : Hp} : ∀ {vs : List V} {ns : List Int}, Paired (IsI F) vs ns -> vs = ns.map V.int
 | _, _, .nil => rfl
 | _, _, .cons (h : _ = V.int _) t => by rw [h, pints_eq t]; rfl
theorem row_of {F : Hp} {v : V} {ns : List Int} (h : LOf IsI F v ns) : IsRow F v ns:=by
 obtain ⟨a, vs, e, hF, r⟩:=h
 rw [pints_eq r] at hF
 exact ⟨a, e, hF⟩
structure Acc {α : Type} (P : Hp -> V -> α -> Prop) (F0 H0 : Hp) (D : Addr) (l : List α) (F H : Hp) (vs : List V) : Prop where
 ext : Ext F0 H0 F H
 h0 : H0 D = Option.none
 at_ : H D = some (.lst vs)
 out : F D = Option.none
 rel : Paired (P F) vs l
theorem Acc.start {α : Type} {P : Hp -> V -> α -> Prop} {F0 H0 F H : Hp} {D : Addr} (e : Ext F0 H0 F H) (hD : H D = Option.none) : Acc P F0 H0 D [] F (upd H D (.lst [])) [] :=
 ⟨e.loc (e.hh.free hD) (e.inn.free hD), e.hh.free hD, upd_same, e.inn.free hD, .nil⟩
theorem Acc.step {α : Type} {P : Hp -> V -> α -> Prop} (m : Mono P) {F0 H0 F H F1 H1 : Hp} {D : Addr} {l : List α} {vs : List V} {y : V} {x : α} (a : Acc P F0 H0 D l F H vs) (e : Ext F H F1 H1) (h : P F1 y x) :
  H1 D = some (.lst vs) /\ Acc P F0 H0 D (l ++ [x]) F1 (upd H1 D (.lst (vs ++ [y]))) (vs ++ [y]):=by
 have o:=e.out a.at_ a.out
 exact ⟨e.hh _ _ a.at_, (a.ext.trans e).loc a.h0 o, a.h0, upd_same, o, Paired.snoc (Paired.up m e.ff a.rel) h⟩
theorem Acc.pass {α : Type} {P : Hp -> V -> α -> Prop} (m : Mono P) {F0 H0 F H F1 H1 : Hp} {D : Addr} {l : List α} {vs : List V} (a : Acc P F0 H0 D l F H vs) (e : Ext F H F1 H1) : Acc P F0 H0 D l F1 H1 vs :=
 ⟨a.ext.trans e, a.h0, e.hh _ _ a.at_, e.out a.at_ a.out, Paired.up m e.ff a.rel⟩
theorem Acc.len {α : Type} {P : Hp -> V -> α -> Prop} {F0 H0 F H : Hp} {D : Addr} {l : List α} {vs : List V} (a : Acc P F0 H0 D l F H vs) : vs.length = l.length:=Paired.length a.rel
theorem Acc.same {α : Type} {P : Hp -> V -> α -> Prop} {F0 H0 F H : Hp} {D : Addr} {l : List α} {vs : List V} (a : Acc P F0 H0 D l F H vs) : Same F H:=a.ext.inn
theorem Acc.done {α : Type} {P : Hp -> V -> α -> Prop} (m : Mono P) {F0 H0 F H : Hp} {D : Addr} {l : List α} {vs : List V} (a : Acc P F0 H0 D l F H vs) : Ext F0 H0 (upd F D (.lst vs)) H /\ LOf P (upd F D (.lst vs)) (.ref D) l /\ Same F (upd F D (.lst vs)) :=
 ⟨a.ext.freeze a.at_ a.h0 a.out, ⟨D, vs, rfl, upd_same, Paired.up m (same_put a.out) a.rel⟩, same_put a.out⟩
theorem row_seq {K : PySem.W.Frag} {F H : Hp} {a : Addr} {xs : List V} (h : F a = some (.lst xs)) (s : Same F H) : SqL K H a xs:=SqL.of (s _ _ h)
theorem atI_end {α : Type} {xs : List α} {v : α} {k : Nat} (hl : xs.length = k + 1) (h : xs[k]? = some v) : atI xs (-1) = some v:=by
 unfold atI ixN
 rw [hl, if_neg (by decide), if_pos (by omega)]
 show xs[(-1 + ((k + 1 : Nat) : Int)).toNat]? = some v
 rw [show (-1 + ((k + 1 : Nat) : Int)).toNat = k by omega]
 exact h
theorem cut_to (ns : List V) (hi : Nat) : cutV ns none (some (hi : Int)) = ns.take hi:=by
 unfold cutV
 rw [HT.sIx_none, HT.sIx_nat, List.drop_zero, Nat.sub_zero]
 by_cases h : hi <= ns.length
 ·rw [Nat.min_eq_left h]
 ·rw [Nat.min_eq_right (by omega), List.take_of_length_le (by omega), List.take_of_length_le (by omega)]
theorem small24 {n : Nat} (h : n < 16777216) : n < sizeLine:=by rw [sizeLine_eq]; exact h
end Pr
namespace Pr
open PySem PySem.Spec PyProof.Rows L2
def AccP {α : Type} (P : Hp -> V -> α -> Prop) (F0 H0 : Hp) (D : Addr) (l : List α) (i : Nat) (H : Hp) : Prop:=∃ F vs, Acc P F0 H0 D (l.take i) F H vs
theorem Acc.p0 {α : Type} {P : Hp -> V -> α -> Prop} {F0 H0 F H : Hp} {D : Addr} {l : List α} (e : Ext F0 H0 F H) (hD : H D = Option.none) : AccP P F0 H0 D l 0 (upd H D (.lst [])):=⟨F, [], Acc.start e hD⟩
theorem Acc.next {α : Type} {P : Hp -> V -> α -> Prop} (m : Mono P) {F0 H0 F H F1 H1 : Hp} {D : Addr} {l : List α} {i : Nat} {vs : List V} {y : V} {x : α} (a : Acc P F0 H0 D (l.take i) F H vs) (hx : l[i]? = some x) (hl : l.length < 16777216) (e : Ext F H F1 H1) (h : P F1 y x) :
  ∃ acc, H1 D = some (.lst acc) /\ acc.length < sizeLine /\ AccP P F0 H0 D l (i + 1) (upd H1 D (.lst (acc ++ [y]))):=by
 obtain ⟨q1, q2⟩:=a.step m e h
 refine ⟨vs, q1, small24 ?_, F1, vs ++ [y], ?_⟩
 ·rw [a.len, List.length_take]; omega
 ·rw [List.take_add_one, hx]; exact q2
theorem AccP.done {α : Type} {P : Hp -> V -> α -> Prop} (m : Mono P) {F0 H0 H : Hp} {D : Addr} {l : List α} {n : Nat} (a : AccP P F0 H0 D l n H) (hn : n = l.length) : ∃ F', Ext F0 H0 F' H /\ LOf P F' (.ref D) l:=by
 obtain ⟨F, vs, a⟩:=a
 rw [hn, List.take_length] at a
 obtain ⟨e, h, _⟩:=a.done m
 exact ⟨_, e, h⟩
theorem get_map_range {α : Type} {f : Nat -> α} {n i : Nat} (h : i < n) : ((List.range n).map f)[i]? = some (f i):=by
 rw [List.getElem?_map, List.getElem?_range h]
 rfl
end Pr
namespace Pr
open PySem PySem.Spec PyProof.Rows L2
theorem lc_zip {K : PySem.W.Frag} {a b : Addr} {xs ys : List V} {g : TG} {tt : TT} {te : TE} {vs : List Nat} {σ : L2.St} {H1 : Hp} {D : Addr} {Qd : Hp -> Prop} (Pv : Nat -> Hp -> Prop) (h0 : Pv 0 (upd H1 D (.lst []))) (hl : ∀ i H, Pv i H -> SqL K H a xs /\ SqL K H b ys)
  (hs : ∀ i x y T H, xs[i]? = some x -> ys[i]? = some y -> Pv i H -> H T = none -> g (.ref T) (wipe σ vs) (upd H T (.tup [x, y])) fun σ2 H2 => wipe σ2 vs = wipe σ vs /\ tt σ2 H2 fun c H3 =>
   if c = true then te σ2 H3 fun z H4 => ∃ acc, H4 D = some (.lst acc) /\ acc.length < sizeLine /\ Pv (i + 1) (upd H4 D (.lst (acc ++ [z]))) else Pv (i + 1) H3) (hd : ∀ H, Pv (min xs.length ys.length) H -> Qd H) :
  ∃ W : Nat -> Nat -> Hp -> Prop, (∃ m, W 0 m (upd H1 D (.lst []))) /\ ∀ i m H, W i m H ->
   ((Itz K a b).stop i H /\ Qd H) \/ ((Itz K a b).go i H /\ ∃ Nx : Hp -> Prop, (∀ H', Nx H' -> ∃ m', m' < m /\ W (i + 1) m' H') /\ ∀ x H', (Itz K a b).yld i H x H' -> g x (wipe σ vs) H' fun σ2 H2 => wipe σ2 vs = wipe σ vs /\ tt σ2 H2 fun c H3 =>
    if c = true then te σ2 H3 fun z H4 => ∃ acc, H4 D = some (.lst acc) /\ acc.length < sizeLine /\ Nx (upd H4 D (.lst (acc ++ [z]))) else Nx H3):=by
 refine ⟨fun i m H => m = min xs.length ys.length - i /\ i <= min xs.length ys.length /\ Pv i H, ⟨_, rfl, Nat.zero_le _, h0⟩, ?_⟩
 rintro i m H ⟨rfl, hi, p⟩
 obtain ⟨q1, q2⟩:=hl i H p
 by_cases hlt : i < min xs.length ys.length
 ·have hx : xs[i]? = some xs[i]:=List.getElem?_eq_getElem (by omega)
  have hy : ys[i]? = some ys[i]:=List.getElem?_eq_getElem (by omega)
  refine .inr ⟨⟨xs, ys, _, _, q1, q2, hx, hy⟩, Pv (i + 1), fun H' p' => ⟨_, by omega, rfl, hlt, p'⟩, fun x H' z => ?_⟩
  obtain ⟨T, x1, y1, e1, hT, e2, w1, w2⟩:=z
  subst e1 e2
  exact hs i x1 y1 T H (w1 xs q1) (w2 ys q2) p hT
 ·have e : i = min xs.length ys.length:=by omega
  subst e
  exact .inl ⟨⟨xs, ys, q1, q2, by omega⟩, hd H p⟩
theorem for_rev {K : PySem.W.Frag} {a : Addr} {xs : List V} {g : TG} {tb : TS} {D : Ends} {σ : L2.St} {H : Hp} (Pv : Nat -> L2.St -> Hp -> Prop) (h0 : Pv 0 σ H) (hl : ∀ i σ H, Pv i σ H -> SqL K H a xs)
  (hs : ∀ i x σ H, i < xs.length -> xs[xs.length - 1 - i]? = some x -> Pv i σ H -> g x σ H fun σ2 H2 => tb { D with nx:=Pv (i + 1), ct:=Pv (i + 1), bk:=D.nx } σ2 H2) (hd : ∀ σ H, Pv xs.length σ H -> D.nx σ H) :
  ∃ W : Nat -> Nat -> L2.St -> Hp -> Prop, (∃ m, W 0 m σ H) /\ ∀ i m σ H, W i m σ H ->
   ((Itv K a xs.length).stop i H /\ D.nx σ H) \/ ((Itv K a xs.length).go i H /\ ∃ N : L2.St -> Hp -> Prop, (∀ σ' H', N σ' H' -> ∃ m', m' < m /\ W (i + 1) m' σ' H') /\ ∀ x H', (Itv K a xs.length).yld i H x H' -> g x σ H' fun σ2 H2 => tb { D with nx:=N, ct:=N, bk:=D.nx } σ2 H2):=by
 refine ⟨fun i m σ H => m = xs.length - i /\ i <= xs.length /\ Pv i σ H, ⟨_, rfl, Nat.zero_le _, h0⟩, ?_⟩
 rintro i m σ H ⟨rfl, hi, p⟩
 have q:=hl i σ H p
 by_cases hlt : i < xs.length
 ·have hx : xs[xs.length - 1 - i]? = some xs[xs.length - 1 - i]:=List.getElem?_eq_getElem (by omega)
  refine .inr ⟨⟨hlt, xs, _, q, hx⟩, Pv (i + 1), fun σ' H' p' => ⟨_, by omega, rfl, hlt, p'⟩, fun x H' y => ?_⟩
  obtain ⟨e, y⟩:=y
  subst e
  exact hs i x σ _ hlt (y xs q) p
 ·have e : i = xs.length:=by omega
  subst e
  exact .inl ⟨Nat.le_refl _, hd σ H p⟩
theorem lc_rev {K : PySem.W.Frag} {a : Addr} {xs : List V} {g : TG} {tt : TT} {te : TE} {vs : List Nat} {σ : L2.St} {H1 : Hp} {D : Addr} {Qd : Hp -> Prop} (Pv : Nat -> Hp -> Prop) (h0 : Pv 0 (upd H1 D (.lst []))) (hl : ∀ i H, Pv i H -> SqL K H a xs)
  (hs : ∀ i x H, i < xs.length -> xs[xs.length - 1 - i]? = some x -> Pv i H -> g x (wipe σ vs) H fun σ2 H2 => wipe σ2 vs = wipe σ vs /\ tt σ2 H2 fun c H3 =>
   if c = true then te σ2 H3 fun z H4 => ∃ acc, H4 D = some (.lst acc) /\ acc.length < sizeLine /\ Pv (i + 1) (upd H4 D (.lst (acc ++ [z]))) else Pv (i + 1) H3) (hd : ∀ H, Pv xs.length H -> Qd H) :
  ∃ W : Nat -> Nat -> Hp -> Prop, (∃ m, W 0 m (upd H1 D (.lst []))) /\ ∀ i m H, W i m H ->
   ((Itv K a xs.length).stop i H /\ Qd H) \/ ((Itv K a xs.length).go i H /\ ∃ Nx : Hp -> Prop, (∀ H', Nx H' -> ∃ m', m' < m /\ W (i + 1) m' H') /\ ∀ x H', (Itv K a xs.length).yld i H x H' -> g x (wipe σ vs) H' fun σ2 H2 => wipe σ2 vs = wipe σ vs /\ tt σ2 H2 fun c H3 =>
    if c = true then te σ2 H3 fun z H4 => ∃ acc, H4 D = some (.lst acc) /\ acc.length < sizeLine /\ Nx (upd H4 D (.lst (acc ++ [z]))) else Nx H3):=by
 refine ⟨fun i m H => m = xs.length - i /\ i <= xs.length /\ Pv i H, ⟨_, rfl, Nat.zero_le _, h0⟩, ?_⟩
 rintro i m H ⟨rfl, hi, p⟩
 have q:=hl i H p
 by_cases hlt : i < xs.length
 ·have hx : xs[xs.length - 1 - i]? = some xs[xs.length - 1 - i]:=List.getElem?_eq_getElem (by omega)
  refine .inr ⟨⟨hlt, xs, _, q, hx⟩, Pv (i + 1), fun H' p' => ⟨_, by omega, rfl, hlt, p'⟩, fun x H' y => ?_⟩
  obtain ⟨e, y⟩:=y
  subst e
  exact hs i x _ hlt (y xs q) p
 ·have e : i = xs.length:=by omega
  subst e
  exact .inl ⟨Nat.le_refl _, hd H p⟩
end Pr
namespace Pr
open PySem PySem.Spec PyProof.Rows L2
theorem pg_pair {X : Cx} (K : PySem.W.Frag) {i j kk : Nat} {x y : Str} {p1 p2 pos : Pos} (hc : X.calm = true) (hN : X.N.Nodup) (hi : X.N[i]? = some x) (hj : X.N[j]? = some y) (hx : Loc X.env.scope x) (hy : Loc X.env.scope y)
  (hf : X.fn x = true \/ X.env.scope.names.lookup x = some .local:=by first | exact .inl rfl | exact .inr rfl | assumption) (hf' : X.fn y = true \/ X.env.scope.names.lookup y = some .local:=by first | exact .inl rfl | exact .inr rfl | assumption)
  (hn : (assignEach [.Name x p1, .Name y p2] X.env).length = 2:=by rfl) (hst : (assignEach [.Name x p1, .Name y p2] X.env).findIdx? (·.1) = none:=by rfl)
  (h1 : (assignEach (.Name x p1 :: [.Name y p2]) X.env).map (·.2) = assign (.Name x p1) X.env :: (assignEach [.Name y p2] X.env).map (·.2):=by rfl) (h2 : (assignEach (.Name y p2 :: []) X.env).map (·.2) = assign (.Name y p2) X.env :: (assignEach [] X.env).map (·.2):=by rfl) (hK : X.K = K:=by rfl) :
  PG X (.Tuple [.Name x p1, .Name y p2] kk pos) (gTup K 2 (gCons (gName i) (gCons (gName j) gNil))):=hK ▸
 pg_tup hc (pgs_cons (pg_name hN hi hx hf) (pgs_cons (pg_name hN hj hy hf') pgs_nil h2) h1) hn hst
end Pr
namespace Pr
open PySem PySem.Spec PyProof.Rows L2
theorem pi_listK {X : Cx} {tg l : Expr} {tl : TE} (K : PySem.W.Frag) (hl : PE X l tl) (hK : X.K = K:=by rfl) : PI X tg l (iList K tl):=hK ▸ pi_list hl
theorem Acc.set {α : Type} {P : Hp -> V -> α -> Prop} {F0 H0 F H : Hp} {D : Addr} {l : List α} {vs : List V} {y : V} {x : α} {i : Nat} (a : Acc P F0 H0 D l F H vs) (h : P F y x) : Acc P F0 H0 D (l.set i x) F (upd H D (.lst (vs.set i y))) (vs.set i y) :=
 ⟨a.ext.loc a.h0 a.out, a.h0, upd_same, a.out, pset h i a.rel⟩
theorem ixN_nat {n j : Nat} (h : j < n) : ixN n (j : Int) = some j:=by
 unfold ixN
 rw [if_pos (by omega), if_pos (by omega)]
 simp
end Pr
namespace Pr
open PySem PySem.Spec PyProof.Rows L2
section
variable {X : Cx}
theorem mt_bitlen : MtR X "int.bit_length" (fun x xs H Q => ∃ i : Int, x = .int i /\ xs = [] /\ Q (.int ((Builtin.Int.intBits i : Nat) : Int)) H):=by
 intro pins s σ H x xs v us Q I rx rxs h
 obtain ⟨i, rfl, rfl, q⟩:=h
 obtain ⟨t, rfl⟩:=rx
 cases rxs
 exact call_gives F.slot_int_bit_length (typeIs_int s i t) F.entry_int_bit_length (F.args_int_bit_length_1 _) (AutoIntG2.int_bit_length_int_0 i t) ⟨.int _, H, I.tok _, ⟨_, rfl⟩, q⟩
theorem bits_lt {N : Int} (h : 0 <= N) : N < 2 ^ Builtin.Int.intBits N:=by
 unfold Builtin.Int.intBits
 by_cases q : N = 0
 ·subst q; decide
 ·have e : (N == 0) = false:=by simpa using q
  rw [e]
  have z : N.natAbs < 2 ^ (N.natAbs.log2 + 1):=Nat.lt_log2_self
  have e2 : ((2 ^ (N.natAbs.log2 + 1) : Nat) : Int) = (2 : Int) ^ (N.natAbs.log2 + 1):=by rw [Int.natCast_pow]; rfl
  show N < (2 : Int) ^ (N.natAbs.log2 + 1)
  omega
theorem bits_le {N : Int} {B : Nat} (h : N.natAbs < 2 ^ B) : Builtin.Int.intBits N <= B:=by
 unfold Builtin.Int.intBits
 by_cases q : N = 0
 ·subst q; exact Nat.zero_le _
 ·have e : (N == 0) = false:=by simpa using q
  rw [e]
  exact (Nat.log2_lt (by omega)).mpr h
end
section
variable {X : Cx}
end
theorem lex_before : ∀ (x y : List Int), x.length = y.length -> HT.lexLt x y = Ql78.before x y
 | [], [], _ => rfl
 | a :: x, b :: y, h => by
  rw [HT.lexLt_cons, lex_before x y (by simpa using h)]
  show _ = (decide (a < b) || (a == b && Ql78.before x y))
  by_cases q : a = b
  ·subst q; simp
  ·rw [if_neg q]
   have e : (a == b) = false:=by simpa using q
   rw [e, Bool.false_and, Bool.or_false]
end Pr
namespace Pr
open PySem PySem.Spec PyProof.Rows L2
section
variable {prog : Program} {w : World} {κ : Type} [DecidableEq κ] {knd : HeapKind prog w κ} {A : Around} {E : Value -> Shared -> Prop} {s : Shared} {d a : Addr} {k : κ} {xs : List (κ × Addr × Value)}
theorem sdef_heap {v : Value} {Q : Value -> Shared -> Prop} (hu : knd.room A) (hkey : knd.is s.heap k a) (hm : s.heap.DictOfH knd d xs) (h1 : ∀ p : Addr × Value, atKey xs k = some p -> Q p.2 { s with toks:=s.toks + knd.draws k })
  (h2 : atKey xs k = none -> ∀ h', h'.DictOfH knd d (xs ++ [(k, a, v)]) -> Heap.SameBut d s.heap h' -> Q v { s with heap:=h', toks:=s.toks + knd.draws k }) (hsz : xs.length <= sizeLine) : wpAny (model prog w) A (dictSetDefault d (.ref a) v) Q E s:=by
 obtain ⟨o, es, ep, ho, hc, hd, he, hi, hn⟩:=hm
 unfold dictSetDefault
 try with_reducible refine wpAny_holding ?_
 refine wpAny_bind (knd.pyHash hu hkey (wpAny_bind (wpAny_dictFind_heap (s:={ s with toks:=s.toks + knd.draws k }) hu hkey ho hd he hi hn (fun hno => ?_) fun j p hj => ?_)))
 ·have q:=atKey_none_of_get hno
  refine wpAny_bind (wpAny_rule (wpAny_bind (wpAny_updateDictKeys (hz:=by have e:=size_of_entries he; omega) (s:={ s with toks:=s.toks + knd.draws k }) ho hd (wpAny_pure (h2 q _ ⟨_, _, ep + 1, Heap.get?_update_self _ ho (Obj.isFreed_of_dict (Obj.data_mapDictKeys hd _)), hc.mapDictKeys _, Obj.data_mapDictKeys hd _, by simp [he, entryOfKey], fun x hx => ?_, ?_⟩ (Heap.SameBut.update ..))))))
  ·rcases List.mem_append.mp hx with hx | hx
   ·exact knd.keeps (hi x hx) ho hd (Heap.SameBut.update ..)
   ·rw [List.mem_singleton.mp hx]
    exact knd.keeps hkey ho hd (Heap.SameBut.update ..)
  ·rw [List.map_append, List.nodup_append]
   refine ⟨hn, by simp, fun x hx y hy e => ?_⟩
   simp only [List.map_cons, List.map_nil, List.mem_singleton] at hy
   rw [e, hy] at hx
   exact not_mem_keys_of_get hno hx
 ·refine wpAny_bind (wpAny_dictEntries (s:={ s with toks:=s.toks + knd.draws k }) ho hd ?_)
  rw [entry_at he j, hj]
  exact wpAny_bind (wpAny_rule (wpAny_pure (h1 p (atKey_of_get hn hj))))
theorem meets_sdefH (knd : HeapKind prog w κ) (d a : Addr) (hd : (d == sysModules) = false) (v : Value) :
  MeetsIn prog w (Builtin.«dict.setdefault» ⟨[.ref d, .ref a, v], []⟩) (fun A R s => knd.room A.in1 /\ ∃ k xs, knd.is s.heap k a /\ s.heap.DictOfH knd d xs /\ xs.length <= sizeLine /\
   (∀ p : Addr × Value, atKey xs k = some p -> R (.ok (.ret p.2)) { s with toks:=s.toks + knd.draws k }) /\
   (atKey xs k = none -> ∀ h', h'.DictOfH knd d (xs ++ [(k, a, v)]) -> Heap.SameBut d s.heap h' -> R (.ok (.ret v)) { s with heap:=h', toks:=s.toks + knd.draws k })) :=
 .of_wp fun A R s ⟨hu, k, xs, hkey, hm, hsz, h1, h2⟩ => by
  have hT : s.TypeIs (.ref d) "dict":=by
   obtain ⟨o, es, ep, ho, hc, _⟩:=hm
   exact ⟨o, ho, hc.1⟩
  unfold Builtin.«dict.setdefault»
  refine wpAny_bind ?_
  unfold Builtin.Dict.keyAndDefault
  refine wpAny_bind (wpAny_notOrdered_dict hT ?_)
  show wpAny _ _ (pure (d, Value.ref a, some v)) _ _ s
  refine wpAny_pure ?_
  show wpAny _ _ (if (d == sysModules) = true then _ else (dictSetDefault d (.ref a) v >>= _)) _ _ s
  rw [if_neg (by rw [hd]; exact Bool.false_ne_true)]
  exact wpAny_bind (sdef_heap hu hkey hm (fun p hp => wpAny_pure ⟨p.2, rfl, h1 p hp⟩) (fun hn h' dd hs => wpAny_pure ⟨v, rfl, h2 hn h' dd hs⟩) hsz)
end
section
variable {X : Cx}
def rSdefT : V -> List V -> Hp -> VK -> Prop:=fun x xs H Q => ∃ (d b : Addr) (v : V) (kvs : List (List Key × V)) (k : List Key), x = .ref d /\ xs = [.ref b, v] /\ H d = some (.dT kvs) /\ H b = some (.tup (k.map kV)) /\ kvs.length < sizeLine /\
 (∀ u, valV kvs k = some u -> Q u H) /\ (valV kvs k = none -> Q v (upd H d (.dT (kvs ++ [(k, v)]))))
theorem mt_sdefT (hu : X.A.units + 1 < cLine) : MtR X "dict.setdefault" rSdefT:=by
 intro pins s σ H x xs v us Q I rx rxs h
 obtain ⟨d, b, u, kvs, k, rfl, rfl, hd, hb, hz, q1, q2⟩:=h
 cases rx
 obtain ⟨r1, r2, rfl, rb, ru⟩:=vals2 rxs
 cases rb
 obtain ⟨z, hs, ys, rel, dd⟩:=dt_of I.hok hd
 have hl : kvs.length = ys.length:=Paired.length rel
 have hT : s.TypeIs (.ref d) "dict":=by
  obtain ⟨o, es, ep, ho, hc, _⟩:=dd
  exact ⟨o, ho, hc.1⟩
 have rv:=rel.val k
 refine call_meetsIn PySem.F.slot_dict_setdefault hT PySem.F.entry_dict_setdefault (PySem.F.args_dict_setdefault_3 _ _ _) (meets_sdefH (tupleKind (mixKind X.prog X.w)) d b hs r2) ⟨tupleKind_room_in1 hu, k, ys, key_of I.hok hb, dd, by omega, fun p hp => ?_, fun hn h' dd' sb => ?_⟩
 ·rw [hp] at rv
  cases e : valV kvs k with
  | none => rw [e] at rv; exact (show False from rv).elim
  | some y =>
   rw [e] at rv
   exact ⟨y, H, I.tok _, rv, q1 y e⟩
 ·rw [hn] at rv
  have e : valV kvs k = none:=by
   cases e : valV kvs k with
   | none => rfl
   | some y => rw [e] at rv; exact (show False from rv).elim
  obtain ⟨o, es, ep, ho, g2, g3, g4, _, g5⟩:=dd'
  refine ⟨u, _, d_write (ob:=.dT (kvs ++ [(k, u)])) I (by rw [hd]; exact True.intro) sb ⟨o, ho⟩ ⟨by rw [List.length_append]; exact hz, hs, _, ?_, o, es, ep, ho, g2, g3, g4, g5⟩, ru, q2 e⟩
  have rel2 : KT H (kvs ++ [(k, u)]) (ys ++ [(k, b, r2)]):=Paired.snoc (a:=(k, u)) (b:=(k, b, r2)) rel ⟨rfl, hb, ru⟩
  refine KT.keeps rel2 fun c zs ec => ?_
  rw [upd_ne (ne_of ec hd (fun z => nomatch z))]
  exact ec
end
section
variable {prog : Program} {w : World} {A : Around} {E : Value -> Shared -> Prop} {s : Shared}
theorem meets_itemsR (d : Addr) (hd : (d == sysModules) = false) : MeetsIn prog w (Builtin.«dict.items» ⟨[.ref d], []⟩) (fun _ R s => s.TypeIs (.ref d) "dict" /\
   R (.ok (.ret (.ref s.heap.objs.size))) { s with heap:=s.heap.push { cls:=.type "dict_items", data:=.fields #[.ref d] } }) :=
 .of_wp fun A R s ⟨hT, h⟩ => by
  unfold Builtin.«dict.items»
  refine wpAny_bind ?_
  unfold Builtin.Dict.noArgs
  refine wpAny_bind (wpAny_notOrdered_dict hT ?_)
  show wpAny _ _ (pure d) _ _ s
  refine wpAny_pure ?_
  show wpAny _ _ (Builtin.Dict.showsAll d >>= _) _ _ s
  unfold Builtin.Dict.showsAll
  rw [if_neg (by rw [hd]; exact Bool.false_ne_true)]
  exact wpAny_bind (wpAny_pure (wpAny_bind (wpAny_newObj_type (wpAny_pure ⟨_, rfl, h⟩))))
theorem iter_items {v d : Addr} {o : Obj} {es : Array DictEntry} {ep : Nat} {Q : Value -> Shared -> Prop} (hv : s.heap.IsItemsView v d) (ho : s.heap.get? d = some o) (hdat : o.data = .dict es ep)
  (hQ : Q (.ref s.heap.objs.size) { s with heap:=s.heap.push { cls:=.type "dict_itemiterator", data:=.fields #[.none, .bool false, .ref d, .int 0 0, .int es.size 0, .int ep 0, .none, .none] } }) : wpAny (model prog w) A (pyIter (.ref v)) Q E s:=by
 obtain ⟨ov, hov, hcv, hdv⟩:=id hv
 refine wpAny_pyIter_slot hv.typeIs F.slot_dict_items_iter (wpAny_call_entry F.slot_dict_items_iter hv.typeIs F.entry_dict_items_iter ?_ (F.args_dict_items_iter_1 _))
 unfold Builtin.«dict_items.__iter__»
 refine wpAny_bind (wpAny_pure (wpAny_bind ?_))
 unfold Builtin.Dict_items.dictOf
 refine wpAny_bind (wpAny_field hov hdv (x:=.ref d) rfl (wpAny_pure (wpAny_bind ?_)))
 unfold Builtin.Dict_items.newIterator
 refine wpAny_bind (wpAny_dictEntries ho hdat (wpAny_bind (wpAny_dictEpoch ho hdat ?_)))
 have hown : Builtin.Dict_items.ownsTuple "dict_itemiterator" = true:=by decide
 simp only [hown, if_true]
 refine wpAny_newObj_type (wpAny_pure ⟨_, rfl, "dict_itemiterator", _, ⟨_, Heap.get?_push_size _ rfl, rfl⟩, F.slot_dict_itemiterator_next.lookup, ?_⟩) (by simp only [sizeOk, Builtin.Dict_items.ownedTupleFields, List.size_toArray, List.length_append, List.length_cons, List.length_nil, sizeLine_eq]; omega)
 simpa [rawInt, Builtin.Dict_items.ownedTupleFields] using hQ
theorem next_item {it d : Addr} {i n ep : Nat} {ok ov : Value} {od : Obj} {es : Array DictEntry} {en : DictEntry} {Q : Option Value -> Shared -> Prop} (hit : IsItemIter s.heap it d i n ep ok ov) (hod : s.heap.get? d = some od) (hdd : od.data = .dict es ep) (hsz : es.size = n) (hx : es[i]? = some en)
  (hQ : ∀ h', IsItemIterOut h' it d (i + 1) n ep en.key en.val s.heap.objs.size -> h'.get? s.heap.objs.size = some { cls:=.type "tuple", data:=.seq #[en.key, en.val] } -> (∀ b o, b ≠ it -> s.heap.get? b = some o -> h'.get? b = some o) -> Q (some (.ref s.heap.objs.size)) { s with heap:=h' }) :
  wpAny (model prog w) A (pyNext (.ref it)) Q E s:=by
 obtain ⟨hp, g, dr, tk, os⟩:=s
 have hT : Shared.TypeIs ⟨hp, g, dr, tk, os⟩ (.ref it) "dict_itemiterator":=⟨_, hit, rfl⟩
 obtain ⟨hlt', hen⟩:=Array.getElem?_eq_some_iff.mp hx
 unfold pyNext
 refine wpAny_bind (wpAny_attempt (wpAny_callSpecial?_slot (name:=Str.ofString "__next__") hT F.slot_dict_itemiterator_next (wpAny_call_entry F.slot_dict_itemiterator_next hT F.entry_dict_itemiterator_next ?_ (F.args_dict_itemiterator_next_1 _))))
 refine wpAny_bind (wpAny_pure (wpAny_bind (wpAny_bind ?_)))
 first | refine wpAny_bind (wpAny_typeNameOfWhole_itemiter hT (wpAny_pure ?_)) | refine wpAny_bind (wpAny_typeNameOf_itemiter hT (wpAny_pure ?_))
 refine wpAny_bind (wpAny_fieldsOf hit rfl ?_)
 have hown : Builtin.Dict_items.ownsTuple "dict_itemiterator" = true:=by decide
 simp only [hown, if_true]
 show wpAny _ _ (if (Value.ref d == Value.none) = true then _ else _) _ _ _
 rw [if_neg (show ¬ ((Value.ref d == Value.none) = true) from Bool.false_ne_true)]
 refine wpAny_bind (wpAny_pure (wpAny_bind (wpAny_dictEntries hod hdd ?_)))
 rw [if_neg (by rw [hsz]; simp)]
 refine wpAny_bind (wpAny_pure (wpAny_bind (wpAny_dictEpoch hod hdd ?_)))
 rw [if_neg (by simp)]
 refine wpAny_pure ?_
 simp only [show ¬ ((i : Int) < 0) from by omega, if_false, Int.toNat_natCast, Array.getElem?_eq_getElem hlt']
 refine wpAny_bind ?_
 first | refine wpAny_bind (wpAny_typeNameOfWhole_itemiter hT (wpAny_pure ?_)) | refine wpAny_bind (wpAny_typeNameOf_itemiter hT (wpAny_pure ?_))
 refine wpAny_bind (wpAny_isOneOf_itemiter hT ?_)
 show wpAny _ _ (setField (.ref it) 3 (rawInt ((i : Int) + 1)) >>= _) _ _ ⟨hp, g, dr, tk, os⟩
 refine wpAny_bind (wpAny_setField_rec hit (by simp) fun h1 he1 hs1 => ?_)
 replace hs1 : Heap.SameBut it hp h1:=hs1
 replace he1 : IsItemIter h1 it d (i + 1) n ep ok ov:=by
  have e : ((i + 1 : Nat) : Int) = (i : Int) + 1:=by omega
  unfold IsItemIter; rw [e]; simpa [rawInt] using he1
 have hT1 : Shared.TypeIs ⟨h1, g, dr, tk, os⟩ (.ref it) "dict_itemiterator":=⟨_, he1, rfl⟩
 refine wpAny_bind (wpAny_holding (wpAny_bind (wpAny_isOneOf_itemiter hT1 (wpAny_bind (wpAny_isOneOf_itemiter hT1 ?_)))))
 rw [hen]
 show wpAny _ _ (Builtin.Dict_items.pairFromOwner (.ref it) 6 en.key en.val) _ _ ⟨h1, g, dr, tk, os⟩
 unfold Builtin.Dict_items.pairFromOwner
 refine wpAny_bind (wpAny_newTuple ?_)
 have he2 : IsItemIter (h1.push { cls:=.type "tuple", data:=.seq #[en.key, en.val] }) it d (i + 1) n ep ok ov:=Heap.get?_push_of_some _ he1
 generalize hh2 : h1.push { cls:=.type "tuple", data:=.seq #[en.key, en.val] } = h2 at he2
 have hz1 : h1.objs.size = hp.objs.size:=hs1.1
 have hil : it < hp.objs.size:=Heap.lt_size hit
 have ht2 : h2.get? hp.objs.size = some { cls:=.type "tuple", data:=.seq #[en.key, en.val] }:=by rw [<- hh2, <- hz1]; exact Heap.get?_push_size _ rfl
 have hk2 : ∀ b o, b ≠ it -> hp.get? b = some o -> h2.get? b = some o:=fun b o hb e => by rw [<- hh2]; exact Heap.get?_push_of_some _ (hs1.extBut b o hb e)
 show wpAny _ _ (Builtin.Dict_items.ownedTupleIsFree (.ref it) >>= _) _ _ ⟨h2, g, dr, tk, os⟩
 rw [hz1]
 clear hh2 he1 hs1 hT1 hz1 h1
 refine wpAny_bind ?_
 unfold Builtin.Dict_items.ownedTupleIsFree
 refine wpAny_bind (wpAny_field he2 rfl (x:=.none) rfl (wpAny_pure ?_))
 simp only [if_true]
 refine wpAny_bind (wpAny_field he2 rfl (x:=ok) rfl (wpAny_bind (wpAny_field he2 rfl (x:=ov) rfl ?_)))
 refine wpAny_bind (wpAny_setField_rec he2 (by simp) fun h3 he3 hs3 => ?_)
 replace hs3 : Heap.SameBut it h2 h3:=hs3
 replace he3 : IsItemIter h3 it d (i + 1) n ep en.key ov:=he3
 refine wpAny_bind (wpAny_setField_rec he3 (by simp) fun h4 he4 hs4 => ?_)
 replace hs4 : Heap.SameBut it h3 h4:=hs4
 replace he4 : IsItemIter h4 it d (i + 1) n ep en.key en.val:=he4
 refine wpAny_bind (wpAny_setField_rec he4 (by simp) fun h5 he5 hs5 => ?_)
 replace hs5 : Heap.SameBut it h4 h5:=hs5
 replace he5 : IsItemIterOut h5 it d (i + 1) n ep en.key en.val hp.objs.size:=he5
 refine wpAny_bind (wpAny_setField_rec he5 (by simp) fun h6 he6 hs6 => ?_)
 replace hs6 : Heap.SameBut it h5 h6:=hs6
 replace he6 : IsItemIterOut h6 it d (i + 1) n ep en.key en.val hp.objs.size:=he6
 refine wpAny_bind (wpAny_letGo (wpAny_pure (wpAny_pure ⟨_, rfl, wpAny_pure (hQ h6 he6 ?_ ?_)⟩)))
 ·exact hs6.extBut _ _ (Nat.ne_of_gt hil) (hs5.extBut _ _ (Nat.ne_of_gt hil) (hs4.extBut _ _ (Nat.ne_of_gt hil) (hs3.extBut _ _ (Nat.ne_of_gt hil) ht2)))
 ·exact fun b o hb e => hs6.extBut b o hb (hs5.extBut b o hb (hs4.extBut b o hb (hs3.extBut b o hb (hk2 b o hb e))))
theorem next_item_end {it d : Addr} {i n ep : Nat} {ok ov : Value} {od : Obj} {es : Array DictEntry} {Q : Option Value -> Shared -> Prop} (hh : A.handled = none) (hit : IsItemIter s.heap it d i n ep ok ov) (hod : s.heap.get? d = some od) (hdd : od.data = .dict es ep) (hsz : es.size = n) (hge : n <= i)
  (hQ : ∀ h', Heap.ExtBut it s.heap h' -> Q none { s with heap:=h' }) : wpAny (model prog w) A (pyNext (.ref it)) Q E s:=by
 have hT : s.TypeIs (.ref it) "dict_itemiterator":=⟨_, hit, rfl⟩
 unfold pyNext
 refine wpAny_bind (wpAny_attempt (wpAny_callSpecial?_slot (name:=Str.ofString "__next__") hT F.slot_dict_itemiterator_next (wpAny_call_entry F.slot_dict_itemiterator_next hT F.entry_dict_itemiterator_next ?_ (F.args_dict_itemiterator_next_1 _))))
 refine wpAny_bind (wpAny_pure (wpAny_bind (wpAny_bind ?_)))
 first | refine wpAny_bind (wpAny_typeNameOfWhole_itemiter hT (wpAny_pure ?_)) | refine wpAny_bind (wpAny_typeNameOf_itemiter hT (wpAny_pure ?_))
 refine wpAny_bind (wpAny_fieldsOf hit rfl ?_)
 have hown : Builtin.Dict_items.ownsTuple "dict_itemiterator" = true:=by decide
 simp only [hown, if_true]
 show wpAny _ _ (if (Value.ref d == Value.none) = true then _ else _) _ _ s
 rw [if_neg (show ¬ ((Value.ref d == Value.none) = true) from Bool.false_ne_true)]
 refine wpAny_bind (wpAny_pure (wpAny_bind (wpAny_dictEntries hod hdd ?_)))
 rw [if_neg (by rw [hsz]; simp)]
 refine wpAny_bind (wpAny_pure (wpAny_bind (wpAny_dictEpoch hod hdd ?_)))
 rw [if_neg (by simp)]
 refine wpAny_pure ?_
 have hge' : es.size <= i:=by omega
 simp only [show ¬ ((i : Int) < 0) from by omega, if_false, Int.toNat_natCast, Array.getElem?_eq_none hge']
 refine wpAny_bind ?_
 first | refine wpAny_bind (wpAny_typeNameOfWhole_itemiter hT (wpAny_pure ?_)) | refine wpAny_bind (wpAny_typeNameOf_itemiter hT (wpAny_pure ?_))
 show wpAny _ _ (setField (.ref it) 2 .none >>= _) _ _ s
 refine wpAny_bind (wpAny_setField hit rfl (by simp) ?_)
 show wpAny _ _ (newExc (.type "StopIteration") [] >>= _) _ _ _
 refine wpAny_bind ?_
 simp only [newExc, newTuple]
 refine wpAny_bind (wpAny_newObj_type ?_ (by size_fits))
 refine wpAny_bind (m:=firstArgMember _ _) (wpAny_of_eq (a:=Value.none) (by first | rfl | (simp only [firstArgMember]; rfl)) ?_)
 refine wpAny_newObj_type ?_ (by size_fits)
 simp only [raiseNew]
 refine wpAny_bind (wpAny_handled ?_)
 rw [show A.in1.handled = none from hh]
 refine wpAny_bind (wpAny_pure (wpAny_throw ?_))
 refine wpAny_bind (wpAny_isInstance (T:="StopIteration") (b:=true) ⟨_, Heap.get?_push_size _ rfl, rfl⟩ isSubtype_stop ?_)
 exact wpAny_pure (hQ _ (((Heap.SameBut.update ..).extBut.push _).push _))
end
def Itit (d : Addr) (o : Obj) (kvs : List (List Key × V)) : It :=
 ⟨fun i H => H d = some (.frz o (.dT kvs)) /\ i < kvs.length, fun i H x H' => ∃ (T q : Addr) (k : List Key) (v : V), kvs[i]? = some (k, v) /\ x = .ref T /\ H T = none /\ H q = some (.tup (k.map kV)) /\ H' = upd H T (.tup [.ref q, v]), fun i H => H d = some (.frz o (.dT kvs)) /\ kvs.length <= i⟩
theorem frzT_all {X : Cx} {pins : List (Addr × Obj)} {σ : L2.St} {H : Hp} {s : Shared} {d : Addr} {o : Obj} {kvs : List (List Key × V)} (I : Inv X pins σ H s) (h : H d = some (.frz o (.dT kvs))) :
  (d == sysModules) = false /\ s.heap.get? d = some o /\ o.ExactDict /\ ∃ (es : Array DictEntry) (ep : Nat), o.data = .dict es ep /\ es.size = kvs.length /\
   ∀ (i : Nat) (k : List Key) (v : V), kvs[i]? = some (k, v) -> ∃ (en : DictEntry) (q : Addr), es[i]? = some en /\ en.key = .ref q /\ H q = some (.tup (k.map kV)) /\ RelV v en.val:=by
 obtain ⟨hd, z, hs, xs, pr, o', es, ep, ho, hx, hdt, he, _⟩:=I.hok d _ h
 rw [hd] at ho
 cases ho
 refine ⟨hs, hd, hx, es, ep, hdt, ?_, fun i k v e => ?_⟩
 ·have l1 : es.size = xs.length:=size_of_entries he
  have l2 : kvs.length = xs.length:=Paired.length pr
  omega
 ·obtain ⟨b, hb, e1, e2, e3⟩:=paired_get pr e
  have q:=entry_at he i
  rw [hb] at q
  exact ⟨_, b.2.1, q, rfl, e2, e3⟩
theorem turn_itemsT {P : Program} {w : World} {K : PySem.W.Frag} {d : Addr} {o : Obj} {es : Array DictEntry} {ep : Nat} {kvs : List (List Key × V)} {elts : List Expr} {kk : Nat} {tpos : Pos} (it : Addr) (hod : o.data = .dict es ep) :
  Turn P w K (.Tuple elts kk tpos) (Itit d o kvs) [it] it (fun i h => ∃ ok ov, IsItemIter h it d i kvs.length ep ok ov) where
 mem:=by simp
 obj:=fun i h st b hb => by
  have e : b = it:=by simpa using hb
  subst e
  obtain ⟨ok, ov, e⟩:=st
  exact ⟨_, e, fun v z => nomatch z⟩
 keep:=fun i h h' st k => let ⟨ok, ov, e⟩:=st; ⟨ok, ov, k it (by simp) _ e⟩
 item:=by
  intro X hP hw hK hc i pins s σ H E I hf st hg
  subst hP hw hK
  obtain ⟨hd, hi⟩:=hg
  obtain ⟨hs, hgd, hx, es', ep', hdt, hsz, ent⟩:=frzT_all I hd
  obtain ⟨rfl, rfl⟩:=dict_ep hod hdt
  obtain ⟨⟨k, v⟩, hkv⟩ : ∃ p, kvs[i]? = some p:=⟨kvs[i], List.getElem?_eq_getElem hi⟩
  obtain ⟨en, q, hen, hkey, hq, rv⟩:=ent i k v hkv
  obtain ⟨ok, ov, he⟩:=st
  have hlt : it < s.heap.objs.size:=Heap.lt_size he
  refine next_item he hgd hdt hsz hen fun h' ho hT hk => ?_
  refine ⟨_, rfl, wpAny_letOwnedTupleGo_items (s:={ s with heap:=h' }) ho fun h'' he' sb => ?_⟩
  have hT2 : h''.get? s.heap.objs.size = some { cls:=.type "tuple", data:=.seq #[en.key, en.val] }:=(sb.2 _ (Nat.ne_of_gt hlt)).trans hT
  have new : ObjOk X.prog X.w (upd H s.heap.objs.size (.tup [.ref q, v])) h'' s.heap.objs.size (.tup [.ref q, v]) :=
   ⟨by show 2 <= sizeLine; decide, [en.key, en.val], .cons hkey (.cons rv .nil), ⟨_, hT2, rfl, _, rfl⟩⟩
  have I1 : Inv X pins σ (upd H s.heap.objs.size (.tup [.ref q, v])) { s with heap:=h'' } :=
   I.turnedNew (t':=s.toks) (ch:=[it]) (fun b ob hb e => (sb.2 b (by simpa using hb)).trans (hk b ob (by simpa using hb) e)) hf (Nat.le_refl _) new
  refine ⟨.ref s.heap.objs.size, _, I1, rfl, ⟨_, q, k, v, hkv, rfl, I.hok.fresh (Nat.le_refl _), hq, rfl⟩, ⟨en.key, en.val, he'⟩, fun b hb => ?_⟩
  have e : b = it:=by simpa using hb
  rw [e, upd_ne (Nat.ne_of_lt hlt)]
  exact (hf it (by simp)).1
 done:=by
  intro X hP hw hK hc i pins s σ H E I hf st hg
  subst hP hw hK
  obtain ⟨hd, hi⟩:=hg
  obtain ⟨f0, f1, f2, f3, f4, f5⟩:=hf it (by simp)
  obtain ⟨hs, hgd, hx, es', ep', hdt, hsz, ent⟩:=frzT_all I hd
  obtain ⟨rfl, rfl⟩:=dict_ep hod hdt
  obtain ⟨ok, ov, he⟩:=st
  exact next_item_end (I.ok.hd hc) he hgd hdt hsz hi fun h' eb => ⟨rfl, I.turned (t':=s.toks) (fun b ob hb e => eb b ob hb e) f0 f1 f3 f4 f5⟩
 self:=fun A i s Q E st h => let ⟨_, _, e⟩:=st; PySem.W.kcp_self e h
def iItemsT (td : TE) : TI:=fun σ H R => td σ H fun x H1 => ∃ d o kvs, x = .ref d /\ H1 d = some (.frz o (.dT kvs)) /\ R (Itit d o kvs) H1
theorem pi_itemsT {X : Cx} {e : Expr} {td : TE} {apos cpos : Pos} {elts : List Expr} {kk : Nat} {tpos : Pos} (he : PE X e td) (hbase : attributeBase e "items" X.env (eval e X.env) = eval e X.env:=by rfl) (hline : (apos.endLine == cpos.line) = true:=by rfl) :
  PI X (.Tuple elts kk tpos) (.Call (.Attribute e "items" apos) [] [] cpos) (iItemsT td):=by
 intro pins s σ H R I h
 refine wpAny_Call_method (T:="dict") (id:="dict.items") hbase rfl hline F.plainAttrs_dict F.slot_dict_items F.type_dict_items (thn (he pins s σ H _ I h) fun u s1 ⟨x, H1, I1, rx, d, o, kvs, ex, hd, q⟩ => ?_)
 subst ex
 obtain rfl : u = Value.ref d:=rx
 obtain ⟨hs, hgd, hx, es, ep, hdt, hsz, ent⟩:=frzT_all I1 hd
 have hT : s1.TypeIs (.ref d) "dict":=⟨o, hgd, hx.1⟩
 refine ⟨hT, fun b q => ?_, ?_⟩
 ·cases q
  exact ⟨o, hgd, hx.2.1⟩
 have I2 : Inv X pins σ H1 { s1 with heap:=s1.heap.push { cls:=.type "dict_items", data:=.fields #[.ref d] } }:=I1.kept (t':=s1.toks) fun b ob q => Heap.get?_push_of_some _ q
 have fin : wpAny (model X.prog X.w) X.A (pyIter (.ref s1.heap.objs.size)) (PIE X pins σ (.Tuple elts kk tpos) R) X.xe { s1 with heap:=s1.heap.push { cls:=.type "dict_items", data:=.fields #[.ref d] } }:=by
  refine iter_items (d:=d) (o:=o) ⟨_, Heap.get?_push_size _ rfl, rfl, rfl⟩ (Heap.get?_push_of_some _ hgd) hdt (pi_one (tk:=s1.toks) I2 _ (turn_itemsT _ hdt) ⟨.none, .none, ?_⟩ q)
  rw [hsz]
  exact Heap.get?_push_size _ rfl
 show wpAny _ _ (callWith cpos (.builtin "dict.items") [.ref d] [] []) _ X.xe s1
 exact method_meetsIn F.slot_dict_items F.entry_dict_items rfl (PySem.evalArgs_none ⟨rfl, hT, F.args_dict_items_1 _, _, meets_itemsR d hs, hT, fin⟩)
theorem for_itemsT {d : Addr} {o : Obj} {kvs : List (List Key × V)} {g : TG} {tb : TS} {D : Ends} {σ : L2.St} {H : Hp} (Pv : Nat -> L2.St -> Hp -> Prop) (h0 : Pv 0 σ H) (hl : ∀ i σ H, Pv i σ H -> H d = some (.frz o (.dT kvs)))
  (hs : ∀ i k v T q σ H, kvs[i]? = some (k, v) -> Pv i σ H -> H T = none -> H q = some (.tup (k.map kV)) -> g (.ref T) σ (upd H T (.tup [.ref q, v])) fun σ2 H2 => tb { D with nx:=Pv (i + 1), ct:=Pv (i + 1), bk:=D.nx } σ2 H2) (hd : ∀ σ H, Pv kvs.length σ H -> D.nx σ H) :
  ∃ W : Nat -> Nat -> L2.St -> Hp -> Prop, (∃ m, W 0 m σ H) /\ ∀ i m σ H, W i m σ H ->
   ((Itit d o kvs).stop i H /\ D.nx σ H) \/ ((Itit d o kvs).go i H /\ ∃ N : L2.St -> Hp -> Prop, (∀ σ' H', N σ' H' -> ∃ m', m' < m /\ W (i + 1) m' σ' H') /\ ∀ x H', (Itit d o kvs).yld i H x H' -> g x σ H' fun σ2 H2 => tb { D with nx:=N, ct:=N, bk:=D.nx } σ2 H2):=by
 refine ⟨fun i m σ H => m = kvs.length - i /\ i <= kvs.length /\ Pv i σ H, ⟨_, rfl, Nat.zero_le _, h0⟩, ?_⟩
 rintro i m σ H ⟨rfl, hi, p⟩
 have q:=hl i σ H p
 by_cases hlt : i < kvs.length
 ·refine .inr ⟨⟨q, hlt⟩, Pv (i + 1), fun σ' H' p' => ⟨_, by omega, rfl, hlt, p'⟩, fun x H' y => ?_⟩
  obtain ⟨T, r, k, v, e1, e2, e3, e4, e5⟩:=y
  subst e2 e5
  exact hs i k v T r σ H e1 p e3 e4
 ·have e : i = kvs.length:=by omega
  subst e
  exact .inl ⟨⟨q, Nat.le_refl _⟩, hd σ H p⟩
end Pr
namespace Pr
open PySem PySem.Spec PyProof.Rows L2
theorem valV_at {κ : Type} [DecidableEq κ] {kvs : List (κ × V)} {k : κ} {v : V} (h : valV kvs k = some v) : ∃ j : Nat, kvs[j]? = some (k, v):=by
 unfold valV at h
 obtain ⟨p, hp, rfl⟩:=Option.map_eq_some_iff.mp h
 have h1:=List.find?_some hp
 have h2:=List.mem_of_find?_eq_some hp
 obtain ⟨j, hj⟩:=mem_ix h2
 refine ⟨j, ?_⟩
 rw [hj, <- of_decide_eq_true h1]
structure Grp (α κ : Type) where
 ks : κ
 ys : List α
 b : Addr
 us : List V
structure Many {α β κ : Type} (P : Hp -> V -> β -> Prop) (ent : α -> β) (obj : List (κ × V) -> HO) (F0 H0 : Hp) (d : Addr) (gs : List (Grp α κ)) (F H : Hp) : Prop where
 ext : Ext F0 H0 F H
 hd : H d = some (obj (gs.map fun g => (g.ks, V.ref g.b)))
 d0 : H0 d = Option.none
 dF : F d = Option.none
 at_ : ∀ g ∈ gs, H g.b = some (.lst g.us) /\ F g.b = Option.none /\ H0 g.b = Option.none /\ Paired (P F) g.us (g.ys.map ent)
 nd : (gs.map (·.b)).Nodup
 nl : ∀ l us, obj l ≠ .lst us
section
variable {α β κ : Type} {P : Hp -> V -> β -> Prop} {ent : α -> β} {obj : List (κ × V) -> HO} {F0 H0 : Hp} {d : Addr} {gs : List (Grp α κ)} {F H : Hp}
theorem Many.ne (a : Many P ent obj F0 H0 d gs F H) {b : Addr} {us : List V} (hb : H b = some (.lst us)) : b ≠ d:=fun z => by
 rw [z, a.hd] at hb
 exact a.nl _ _ (Option.some.inj hb)
theorem Many.pass (m : Mono P) {F1 H1 : Hp} (a : Many P ent obj F0 H0 d gs F H) (e : Ext F H F1 H1) : Many P ent obj F0 H0 d gs F1 H1 :=
 ⟨a.ext.trans e, e.hh _ _ a.hd, a.d0, e.out a.hd a.dF, fun g hg => by
  obtain ⟨h1, h2, h3, h4⟩:=a.at_ g hg
  exact ⟨e.hh _ _ h1, e.out h1 h2, h3, Paired.up m e.ff h4⟩, a.nd, a.nl⟩
theorem Many.add {b : Addr} {k : κ} (a : Many P ent obj F0 H0 d gs F H) (hb : H b = some (.lst [])) (hF : F b = Option.none) (h0 : H0 b = Option.none) (hn : ∀ g ∈ gs, g.b ≠ b) :
  Many P ent obj F0 H0 d (gs ++ [⟨k, [], b, []⟩]) F (upd H d (obj ((gs.map fun g => (g.ks, V.ref g.b)) ++ [(k, .ref b)]))):=by
 refine ⟨a.ext.loc a.d0 a.dF, by rw [upd_same, List.map_append]; rfl, a.d0, a.dF, fun g hg => ?_, ?_, a.nl⟩
 ·rcases List.mem_append.mp hg with hg | hg
  ·obtain ⟨h1, h2, h3, h4⟩:=a.at_ g hg
   exact ⟨by rw [upd_ne (a.ne h1)]; exact h1, h2, h3, h4⟩
  ·rw [List.mem_singleton.mp hg]
   exact ⟨by rw [upd_ne (a.ne hb)]; exact hb, hF, h0, .nil⟩
 ·rw [List.map_append, List.nodup_append]
  refine ⟨a.nd, by simp, fun x hx y hy e => ?_⟩
  obtain ⟨g, hg, rfl⟩:=List.mem_map.mp hx
  simp at hy
  exact hn g hg (e.trans hy)
theorem nd_get {l : List (Grp α κ)} (h : (l.map (·.b)).Nodup) {i j : Nat} {g g' : Grp α κ} (hi : l[i]? = some g) (hj : l[j]? = some g') (e : g.b = g'.b) : i = j:=by
 have h1 : (l.map (·.b))[i]? = some g.b:=by rw [List.getElem?_map, hi]; rfl
 have h2 : (l.map (·.b))[j]? = some g.b:=by rw [List.getElem?_map, hj, e]; rfl
 exact (List.getElem?_inj (List.getElem?_eq_some_iff.mp h1).1 h).mp (h1.trans h2.symm)
theorem Many.push {j : Nat} {g : Grp α κ} {r : V} {x : α} (a : Many P ent obj F0 H0 d gs F H) (hj : gs[j]? = some g) (hr : P F r (ent x)) :
  Many P ent obj F0 H0 d (gs.set j ⟨g.ks, g.ys ++ [x], g.b, g.us ++ [r]⟩) F (upd H g.b (.lst (g.us ++ [r]))):=by
 have hjl : j < gs.length:=(List.getElem?_eq_some_iff.mp hj).1
 have hgm : g ∈ gs:=List.mem_of_getElem? hj
 obtain ⟨g1, g2, g3, g4⟩:=a.at_ g hgm
 have same : ∀ {γ : Type} (f : Grp α κ -> γ), f ⟨g.ks, g.ys ++ [x], g.b, g.us ++ [r]⟩ = f g -> (gs.set j ⟨g.ks, g.ys ++ [x], g.b, g.us ++ [r]⟩).map f = gs.map f:=fun f hf => by
  apply List.ext_getElem?
  intro i
  rw [List.getElem?_map, List.getElem?_map, List.getElem?_set]
  by_cases q : j = i
  ·subst q
   rw [if_pos rfl, if_pos hjl, hj]
   exact congrArg some hf
  ·rw [if_neg q]
 refine ⟨a.ext.loc g3 g2, ?_, a.d0, a.dF, fun g' hg' => ?_, by rw [same (·.b) rfl]; exact a.nd, a.nl⟩
 ·rw [upd_ne (Ne.symm (a.ne g1)), same (fun g => (g.ks, V.ref g.b)) rfl]
  exact a.hd
 ·obtain ⟨i, hi⟩:=mem_ix hg'
  rw [List.getElem?_set] at hi
  by_cases q : j = i
  ·subst q
   rw [if_pos rfl, if_pos hjl] at hi
   cases hi
   exact ⟨upd_same, g2, g3, by rw [List.map_append]; exact Paired.snoc g4 hr⟩
  ·rw [if_neg q] at hi
   obtain ⟨h1, h2, h3, h4⟩:=a.at_ g' (List.mem_of_getElem? hi)
   refine ⟨?_, h2, h3, h4⟩
   rw [upd_ne fun e => q (nd_get a.nd hj hi e.symm)]
   exact h1
theorem Many.done (m : Mono P) (a : Many P ent obj F0 H0 d gs F H) : ∃ F', Ext F0 H0 F' H /\ Same F F' /\ F' d = Option.none /\ ∀ g ∈ gs, LOf P F' (.ref g.b) (g.ys.map ent):=by
 classical
 let F' : Hp:=fun b => if b ∈ gs.map (·.b) then H b else F b
 have ff : Same F F':=fun b o h => by
  show (if b ∈ gs.map (·.b) then H b else F b) = some o
  by_cases q : b ∈ gs.map (·.b)
  ·rw [if_pos q]; exact a.ext.inn b o h
  ·rw [if_neg q]; exact h
 refine ⟨F', ⟨a.ext.s0, a.ext.hh, a.ext.ff.trans ff, fun b o h => ?_, fun b h1 h2 => ?_⟩, ff, ?_, fun g hg => ?_⟩
 ·have h : (if b ∈ gs.map (·.b) then H b else F b) = some o:=h
  by_cases q : b ∈ gs.map (·.b)
  ·rw [if_pos q] at h; exact h
  ·rw [if_neg q] at h; exact a.ext.inn b o h
 ·have h2 : (if b ∈ gs.map (·.b) then H b else F b) ≠ Option.none:=h2
  by_cases q : b ∈ gs.map (·.b)
  ·obtain ⟨g, hg, rfl⟩:=List.mem_map.mp q
   exact (a.at_ g hg).2.2.1
  ·rw [if_neg q] at h2; exact a.ext.new b h1 h2
 ·show (if d ∈ gs.map (·.b) then H d else F d) = Option.none
  rw [if_neg]
  ·exact a.dF
  ·intro q
   obtain ⟨g, hg, e⟩:=List.mem_map.mp q
   exact a.ne (a.at_ g hg).1 e
 ·obtain ⟨h1, h2, h3, h4⟩:=a.at_ g hg
  refine ⟨g.b, g.us, rfl, ?_, Paired.up m ff h4⟩
  show (if g.b ∈ gs.map (·.b) then H g.b else F g.b) = some (.lst g.us)
  rw [if_pos (List.mem_map.mpr ⟨g, hg, rfl⟩)]
  exact h1
end
end Pr
namespace Pr
open PySem PySem.Spec PyProof.Rows L2
section
variable {prog : Program} {w : World} {A : Around} {E : Value -> Shared -> Prop} {s : Shared}
theorem next_val_item {it d : Addr} {i n ep : Nat} {od : Obj} {es : Array DictEntry} {en : DictEntry} {Q : Option Value -> Shared -> Prop} (hit : s.heap.IsValIter it d i n ep) (hod : s.heap.get? d = some od) (hdd : od.data = .dict es ep)
  (hsz : es.size = n) (hx : es[i]? = some en) (hQ : ∀ h', h'.IsValIter it d (i + 1) n ep -> Heap.SameBut it s.heap h' -> Q (some en.val) { s with heap:=h' }) : wpAny (model prog w) A (pyNext (.ref it)) Q E s:=by
 obtain ⟨o, ho, hc, hd⟩:=id hit
 unfold pyNext
 refine wpAny_bind (wpAny_attempt (wpAny_callSpecial?_slot (name:=Str.ofString "__next__") hit.typeIs F.slot_dict_valueiterator_next
  (wpAny_call_entry F.slot_dict_valueiterator_next hit.typeIs F.entry_dict_valueiterator_next ?_ (F.args_dict_valueiterator_next_1 _))))
 refine wpAny_bind (wpAny_pure ?_)
 refine wpAny_bind ?_
 refine wpAny_bind ?_
 first | refine wpAny_bind (wpAny_typeNameOfWhole_valiter hit.typeIs (wpAny_pure ?_)) | refine wpAny_bind (wpAny_typeNameOf_valiter hit.typeIs (wpAny_pure ?_))
 refine wpAny_bind (wpAny_fieldsOf ho hd ?_)
 have hown : Builtin.Dict_items.ownsTuple "dict_valueiterator" = false:=by decide
 simp only [hown, Bool.false_eq_true, if_false]
 show wpAny _ _ (if (Value.ref d == Value.none) = true then _ else _) _ _ s
 rw [if_neg (show ¬ ((Value.ref d == Value.none) = true) from Bool.false_ne_true)]
 refine wpAny_bind (wpAny_pure ?_)
 refine wpAny_bind (wpAny_dictEntries hod hdd ?_)
 rw [if_neg (by rw [hsz]; simp)]
 refine wpAny_bind (wpAny_pure ?_)
 refine wpAny_bind (wpAny_dictEpoch hod hdd ?_)
 rw [if_neg (by simp)]
 refine wpAny_pure ?_
 obtain ⟨hlt', hen⟩:=Array.getElem?_eq_some_iff.mp hx
 simp only [show ¬ ((i : Int) < 0) from by omega, if_false, Int.toNat_natCast, Array.getElem?_eq_getElem hlt']
 refine wpAny_bind ?_
 first | refine wpAny_bind (wpAny_typeNameOfWhole_valiter hit.typeIs (wpAny_pure ?_)) | refine wpAny_bind (wpAny_typeNameOf_valiter hit.typeIs (wpAny_pure ?_))
 refine wpAny_bind (wpAny_isOneOf_valiter hit.typeIs ?_)
 show wpAny _ _ (setField (.ref it) 1 (rawInt ((i : Int) + 1)) >>= _) _ _ s
 refine wpAny_bind (wpAny_setField ho hd (by simp) ?_)
 have hit' : (s.heap.update it (Obj.mapFields (·.setIfInBounds 1 (rawInt ((i : Int) + 1))))).IsValIter it d (i + 1) n ep :=
  ⟨_, Heap.get?_update_self _ ho (Obj.isFreed_of_fields (Obj.data_mapFields hd _)), (Obj.cls_mapFields ..).trans hc, by rw [Obj.data_mapFields hd]; simp [rawInt]⟩
 refine wpAny_bind (wpAny_holding ?_)
 refine wpAny_bind (wpAny_isOneOf_valiter (s:={ s with heap:=s.heap.update it (Obj.mapFields (·.setIfInBounds 1 (rawInt ((i : Int) + 1)))) }) hit'.typeIs ?_)
 rw [if_neg (by decide)]
 refine wpAny_bind (wpAny_isOneOf_valiter (s:={ s with heap:=s.heap.update it (Obj.mapFields (·.setIfInBounds 1 (rawInt ((i : Int) + 1)))) }) hit'.typeIs ?_)
 rw [if_pos (by decide)]
 show wpAny _ _ (pure es[i].val) _ _ _
 rw [hen]
 exact wpAny_pure (wpAny_pure ⟨_, rfl, wpAny_pure (hQ _ hit' (Heap.SameBut.update ..))⟩)
theorem next_val_end {it d : Addr} {i n ep : Nat} {od : Obj} {es : Array DictEntry} {Q : Option Value -> Shared -> Prop} (hh : A.handled = none) (hit : s.heap.IsValIter it d i n ep) (hod : s.heap.get? d = some od) (hdd : od.data = .dict es ep)
  (hsz : es.size = n) (hge : n <= i) (hQ : ∀ h', Heap.ExtBut it s.heap h' -> Q none { s with heap:=h' }) : wpAny (model prog w) A (pyNext (.ref it)) Q E s:=by
 obtain ⟨o, ho, hc, hd⟩:=id hit
 unfold pyNext
 refine wpAny_bind (wpAny_attempt (wpAny_callSpecial?_slot (name:=Str.ofString "__next__") hit.typeIs F.slot_dict_valueiterator_next
  (wpAny_call_entry F.slot_dict_valueiterator_next hit.typeIs F.entry_dict_valueiterator_next ?_ (F.args_dict_valueiterator_next_1 _))))
 refine wpAny_bind (wpAny_pure ?_)
 refine wpAny_bind ?_
 refine wpAny_bind ?_
 first | refine wpAny_bind (wpAny_typeNameOfWhole_valiter hit.typeIs (wpAny_pure ?_)) | refine wpAny_bind (wpAny_typeNameOf_valiter hit.typeIs (wpAny_pure ?_))
 refine wpAny_bind (wpAny_fieldsOf ho hd ?_)
 have hown : Builtin.Dict_items.ownsTuple "dict_valueiterator" = false:=by decide
 simp only [hown, Bool.false_eq_true, if_false]
 show wpAny _ _ (if (Value.ref d == Value.none) = true then _ else _) _ _ s
 rw [if_neg (show ¬ ((Value.ref d == Value.none) = true) from Bool.false_ne_true)]
 refine wpAny_bind (wpAny_pure ?_)
 refine wpAny_bind (wpAny_dictEntries hod hdd ?_)
 rw [if_neg (by rw [hsz]; simp)]
 refine wpAny_bind (wpAny_pure ?_)
 refine wpAny_bind (wpAny_dictEpoch hod hdd ?_)
 rw [if_neg (by simp)]
 refine wpAny_pure ?_
 have hge' : es.size <= i:=by rw [hsz]; exact hge
 simp only [show ¬ ((i : Int) < 0) from by omega, if_false, Int.toNat_natCast, Array.getElem?_eq_none hge']
 refine wpAny_bind ?_
 first | refine wpAny_bind (wpAny_typeNameOfWhole_valiter hit.typeIs (wpAny_pure ?_)) | refine wpAny_bind (wpAny_typeNameOf_valiter hit.typeIs (wpAny_pure ?_))
 show wpAny _ _ (setField (.ref it) 0 .none >>= _) _ _ s
 refine wpAny_bind (wpAny_setField ho hd (by simp) ?_)
 show wpAny _ _ (newExc (.type "StopIteration") [] >>= _) _ _ _
 refine wpAny_bind ?_
 simp only [newExc, newTuple]
 refine wpAny_bind (wpAny_newObj_type ?_ (by size_fits))
 refine wpAny_bind (m:=firstArgMember _ _) (wpAny_of_eq (a:=Value.none) (by first | rfl | (simp only [firstArgMember]; rfl)) ?_)
 refine wpAny_newObj_type ?_ (by size_fits)
 simp only [raiseNew]
 refine wpAny_bind (wpAny_handled ?_)
 rw [show A.in1.handled = none from hh]
 refine wpAny_bind (wpAny_pure (wpAny_throw ?_))
 refine wpAny_bind (wpAny_isInstance (T:="StopIteration") (b:=true) ⟨_, Heap.get?_push_size _ rfl, rfl⟩ isSubtype_stop ?_)
 exact wpAny_pure (hQ _ (((Heap.SameBut.update ..).extBut.push _).push _))
def EntAt (h : Heap) (d : Addr) (es : Array DictEntry) (ep : Nat) : Prop:=∃ o, h.get? d = some o /\ o.ExactDict /\ o.data = .dict es ep
theorem EntAt.at' {h h' : Heap} {d : Addr} {es : Array DictEntry} {ep : Nat} (x : EntAt h d es ep) (e : ∀ o, h.get? d = some o -> h'.get? d = some o) : EntAt h' d es ep:=let ⟨o, ho, r⟩:=x; ⟨o, e _ ho, r⟩
theorem EntAt.but {h h' : Heap} {it d : Addr} {es : Array DictEntry} {ep : Nat} (x : EntAt h d es ep) (e : Heap.ExtBut it h h') (hne : d ≠ it) : EntAt h' d es ep:=x.at' fun o q => e d o hne q
theorem EntAt.lt {h : Heap} {d : Addr} {es : Array DictEntry} {ep : Nat} (x : EntAt h d es ep) : d < h.objs.size:=let ⟨_, ho, _⟩:=x; Heap.lt_size ho
theorem EntAt.typeIs {s : Shared} {d : Addr} {es : Array DictEntry} {ep : Nat} (x : EntAt s.heap d es ep) : s.TypeIs (.ref d) "dict":=let ⟨o, ho, hc, _⟩:=x; ⟨o, ho, hc.1⟩
theorem walks_keysE (hh : A.handled = none) (I d : Addr) (hne : d ≠ I) (es : Array DictEntry) (ep : Nat) :
  Walks prog w A I [I, d] [I] es.size (fun i v => ∃ en, es[i]? = some en /\ v = en.key) (fun i h => h.IsKeyIter I d i es.size ep /\ EntAt h d es ep) where
 sub:=fun b hb => by simp at hb; simp [hb]
 frame:=fun _ _ _ st hk => ⟨st.1.at fun o e => hk I (by simp) o e, st.2.at' fun o e => hk d (by simp) o e⟩
 item:=fun i s Q E hi st hQ => by
  obtain ⟨en, hx⟩ : ∃ p, es[i]? = some p:=⟨es[i], by simp [hi]⟩
  obtain ⟨o, ho, _, hd⟩:=id st.2
  refine next_key_item st.1 ho hd rfl hx fun h' hit' hs' => ?_
  exact hQ _ h' s.toks ⟨en, hx, rfl⟩ ⟨hit', st.2.but hs'.extBut hne⟩ fun b o hb e => hs'.extBut b o (fun h => hb (by simp [h])) e
 done:=fun s Q E st hQ => by
  obtain ⟨o, ho, _, hd⟩:=id st.2
  exact next_key_end hh st.1 ho hd rfl (Nat.le_refl _) fun h' he' => hQ h' s.toks fun b o hb e => he' b o (fun h => hb (by simp [h])) e
 self:=fun _ _ _ _ st hQ => wpAny_pyIter_keyiter st.1 hQ
theorem walks_valsE (hh : A.handled = none) (I d : Addr) (hne : d ≠ I) (es : Array DictEntry) (ep : Nat) :
  Walks prog w A I [I, d] [I] es.size (fun i v => ∃ en, es[i]? = some en /\ v = en.val) (fun i h => h.IsValIter I d i es.size ep /\ EntAt h d es ep) where
 sub:=fun b hb => by simp at hb; simp [hb]
 frame:=fun _ _ _ st hk => ⟨st.1.at fun o e => hk I (by simp) o e, st.2.at' fun o e => hk d (by simp) o e⟩
 item:=fun i s Q E hi st hQ => by
  obtain ⟨en, hx⟩ : ∃ p, es[i]? = some p:=⟨es[i], by simp [hi]⟩
  obtain ⟨o, ho, _, hd⟩:=id st.2
  refine next_val_item st.1 ho hd rfl hx fun h' hit' hs' => ?_
  exact hQ _ h' s.toks ⟨en, hx, rfl⟩ ⟨hit', st.2.but hs'.extBut hne⟩ fun b o hb e => hs'.extBut b o (fun h => hb (by simp [h])) e
 done:=fun s Q E st hQ => by
  obtain ⟨o, ho, _, hd⟩:=id st.2
  exact next_val_end hh st.1 ho hd rfl (Nat.le_refl _) fun h' he' => hQ h' s.toks fun b o hb e => he' b o (fun h => hb (by simp [h])) e
 self:=fun _ _ _ _ st hQ => wpAny_pyIter_valiter st.1 hQ
theorem src_keysE {d : Addr} {es : Array DictEntry} {ep : Nat} (lo : (d == sysModules) = false) : PySem.W.KdlSrc prog w "dict" d d es.size (fun i v => ∃ en, es[i]? = some en /\ v = en.key) (fun h => EntAt h d es ep) where
 type:=fun _ hm => hm.typeIs
 there:=fun _ hm => ⟨hm.lt, hm.lt⟩
 keep:=fun _ _ hm hk => hm.at' fun o e => hk d (.inl rfl) o e
 notList:=by decide
 notTuple:=by decide
 hint:=fun _ _ _ _ hm hq => PySem.W.kdl_hint_dict hm.typeIs hq
 iter:=fun _ s hh hm => by
  obtain ⟨o, ho, hx, hd⟩:=id hm
  exact ⟨_, _, (fun _ _ hq => iter_keys lo ho hx hd hq), walks_keysE hh _ d (Nat.ne_of_lt hm.lt) es ep, ⟨⟨_, Heap.get?_push_size _ rfl, rfl, rfl⟩, hm.at' fun o e => Heap.get?_push_of_some _ e⟩⟩
theorem iter_valsE {v d : Addr} {o : Obj} {es : Array DictEntry} {ep : Nat} {Q : Value -> Shared -> Prop} (hv : s.heap.IsValuesView v d) (ho : s.heap.get? d = some o) (hdat : o.data = .dict es ep)
  (hQ : Q (.ref s.heap.objs.size) { s with heap:=s.heap.push { cls:=.type "dict_valueiterator", data:=.fields #[.ref d, .int 0 0, .int es.size 0, .int ep 0] } }) : wpAny (model prog w) A (pyIter (.ref v)) Q E s:=by
 obtain ⟨ov, hov, hcv, hdv⟩:=id hv
 refine wpAny_pyIter_slot hv.typeIs F.slot_dict_values_iter (wpAny_call_entry F.slot_dict_values_iter hv.typeIs F.entry_dict_values_iter ?_ (F.args_dict_values_iter_1 _))
 unfold Builtin.«dict_values.__iter__»
 refine wpAny_bind (wpAny_pure (wpAny_bind ?_))
 unfold Builtin.Dict_items.dictOf
 refine wpAny_bind (wpAny_field hov hdv (x:=.ref d) rfl (wpAny_pure (wpAny_bind ?_)))
 unfold Builtin.Dict_items.newIterator
 refine wpAny_bind (wpAny_dictEntries ho hdat (wpAny_bind (wpAny_dictEpoch ho hdat ?_)))
 have hown : Builtin.Dict_items.ownsTuple "dict_valueiterator" = false:=by decide
 simp only [hown, Bool.false_eq_true, if_false]
 refine wpAny_newObj_type (wpAny_pure ⟨_, rfl, "dict_valueiterator", _, ⟨_, Heap.get?_push_size _ rfl, rfl⟩, PySem.F.slot_dict_valueiterator_next.lookup, ?_⟩)
 simpa [rawInt] using hQ
theorem src_valsE {r d : Addr} {es : Array DictEntry} {ep : Nat} : PySem.W.KdlSrc prog w "dict_values" r d es.size (fun i v => ∃ en, es[i]? = some en /\ v = en.val) (fun h => h.IsValuesView r d /\ EntAt h d es ep) where
 type:=fun _ hm => hm.1.typeIs
 there:=fun _ hm => ⟨let ⟨_, ho, _⟩:=hm.1; Heap.lt_size ho, hm.2.lt⟩
 keep:=fun _ _ hm hk => ⟨let ⟨o, ho, x⟩:=hm.1; ⟨o, hk r (.inl rfl) o ho, x⟩, hm.2.at' fun o e => hk d (.inr rfl) o e⟩
 notList:=by decide
 notTuple:=by decide
 hint:=fun _ _ _ _ hm hq => PySem.W.kdl_hint_values hm.1.typeIs hq
 iter:=fun _ s hh hm => by
  obtain ⟨o, ho, hx, hd⟩:=id hm.2
  exact ⟨_, _, (fun _ _ hq => iter_valsE hm.1 ho hd hq), walks_valsE hh _ d (Nat.ne_of_lt hm.2.lt) es ep, ⟨⟨_, Heap.get?_push_size _ rfl, rfl, rfl⟩, hm.2.at' fun o e => Heap.get?_push_of_some _ e⟩⟩
theorem sorted_src {T : String} {r d : Addr} {n : Nat} {P : Nat -> Value -> Prop} {OK : Heap -> Prop} {Q : Value -> Shared -> Prop} (K : PySem.W.KdlSrc prog w T r d n P OK) (hh : A.handled = none) (hok : OK s.heap) (hn : n <= sizeLine)
  (h : ∀ (A1 : Around) (h' : Heap) (tk : Nat) (vs : List Value), (∀ b o, s.heap.get? b = some o -> h'.get? b = some o) -> vs.length = n -> (∀ (j : Nat) (v : Value), vs[j]? = some v -> P j v) ->
   wpAny (model prog w) A1 (Builtin.«list.sort» ⟨[.ref h'.objs.size], []⟩) (fun f s' => f = .done (.ret .none) /\ Q (.ref h'.objs.size) s') E { s with heap:=h'.push (seqObj "list" vs.toArray 0), toks:=tk }) :
  wpAny (model prog w) A (call (.builtin "sorted") [.ref r]) Q E s:=by
 refine Calls.call_function_entry kind_sorted plain_sorted entry_sorted (args_sorted1 _) ?_
 unfold Builtin.«sorted»
 refine wpAny_bind (m:=checkCount "sorted" 1 1 _) (wpAny_pure ?_)
 refine wpAny_bind (PySem.W.kdu_collect (A:=A.in1) K hh hok hn fun h' tk acc hk hacc => ?_)
 have hl : acc.toList.length = n:=by rw [Array.length_toList]; exact hacc.1
 refine wpAny_bind (wpAny_newList ?_ (by rw [hl]; exact hn))
 have hoL : (h'.push (seqObj "list" acc.toList.toArray 0)).get? h'.objs.size = some (seqObj "list" acc.toList.toArray 0):=Heap.get?_push_size _ rfl
 refine wpAny_bind (wpAny_holding (wpAny_call_entry slot_list_sort ⟨_, hoL, rfl⟩ entry_list_sort (wpAny_mono (h _ h' tk acc.toList hk hl fun j v e => hacc.2 j v (by rw [<- Array.getElem?_toList]; exact e)) (fun f s' q => ?_) fun _ _ e => e) (args_list_sort _)))
 obtain ⟨rfl, q⟩:=q
 exact ⟨_, rfl, wpAny_pure ⟨_, rfl, q⟩⟩
end
end Pr
namespace Pr
open PySem PySem.Spec PyProof.Rows L2
section
variable {X : Cx}
theorem ints_by : ∀ {us : List Value} {ns : List Int}, us.length = ns.length -> (∀ (j : Nat) (v : Value), us[j]? = some v -> ∃ i t, ns[j]? = some i /\ v = .int i t) -> IntsAre us ns
 | [], [], _, _ => .nil
 | [], _ :: _, h, _ => by simp at h
 | _ :: _, [], h, _ => by simp at h
 | u :: us, n :: ns, h, k => by
  obtain ⟨i, t, e, rfl⟩:=k 0 u rfl
  simp only [List.getElem?_cons_zero, Option.some.injEq] at e
  subst e
  exact .cons _ t (ints_by (by simpa using h) fun j v hv => by simpa using k (j + 1) v (by simpa using hv))
def rSortedDK : List V -> Hp -> VK -> Prop:=fun vs H Q => ∃ (d : Addr) (kvs : List (Key × V)) (ns : List Int), vs = [V.ref d] /\ Rd H d (.dK kvs) /\ kvs.map (·.1) = ns.map Sum.inl /\
 ∀ (ns' : List Int) (p : Addr), ns'.Perm ns -> ns'.Pairwise (· <= ·) -> H p = none -> Q (.ref p) (upd H p (.lst (ns'.map V.int)))
theorem laid_sorted {pins : List (Addr × Obj)} {σ : L2.St} {H : Hp} {s : Shared} {h' : Heap} {tk : Nat} {us : List Value} {out : Array Value} {ys : List V} (I : Inv X pins σ H s) (hk : ∀ b o, s.heap.get? b = some o -> h'.get? b = some o) (hz : ys.length <= sizeLine) (rv : Vals ys out.toList) :
  H h'.objs.size = none /\ Inv X pins σ (upd H h'.objs.size (.lst ys)) { s with heap:=sortedHeap (h'.push (seqObj "list" us.toArray 0)) h'.objs.size us out, toks:=tk }:=by
 have I1 : Inv X pins σ H { s with heap:=h', toks:=s.toks }:=I.kept hk
 have hoL : (h'.push (seqObj "list" us.toArray 0)).get? h'.objs.size = some (seqObj "list" us.toArray 0):=Heap.get?_push_size _ rfl
 obtain ⟨ep, he⟩:=sortedHeap_at (vs:=us) (out:=out) hoL
 refine ⟨I1.hok.fresh (Nat.le_refl _), I1.laid (h':=sortedHeap (h'.push (seqObj "list" us.toArray 0)) h'.objs.size us out) (t':=tk) (fun b u hu => ?_) (Nat.le_refl _) ⟨hz, out.toList, ep, rv, by rw [Array.toArray_toList]; exact he⟩⟩
 have hlt : b < h'.objs.size:=Heap.lt_size hu
 rw [sortedHeap_old (Nat.ne_of_lt hlt) (by rw [size_push']; exact Nat.lt_succ_of_lt hlt)]
 exact Heap.get?_push_of_some _ hu
theorem cr_sortedDK (hc : X.calm = true) : CallR X (.builtin "sorted") rSortedDK:=by
 intro pins s σ H vs us Q I r h
 obtain ⟨d, kvs, ns, rfl, hd, hks, q⟩:=h
 obtain ⟨z, hs, xs, kv, dd⟩:=dk_rd I.hok hd
 rw [Vals.ref1 r]
 obtain ⟨ep, hat⟩:=dd.dictAt
 have hl : kvs.length = xs.length:=Paired.length kv
 have hln : kvs.length = ns.length:=by rw [<- List.length_map (f:=(·.1)), hks, List.length_map]
 refine sorted_src (PySem.W.kdl_dict (knd:=mixKind X.prog X.w) (kvs:=xs) (ep:=ep) hs) (I.ok.hd hc) hat (by omega) fun A1 h' tk us' hk hlen hP => ?_
 have hI : IntsAre us' ns:=ints_by (by omega) fun j v hv => by
  obtain ⟨k, x, hx, hkv⟩:=hP j v hv
  have hj : j < kvs.length:=by
   have:=(List.getElem?_eq_some_iff.mp hx).1
   omega
  obtain ⟨b, hb, e1, _⟩:=paired_get kv (List.getElem?_eq_getElem hj)
  rw [hx] at hb
  cases hb
  have e2 : (kvs.map (·.1))[j]? = some k:=by rw [List.getElem?_map, List.getElem?_eq_getElem hj]; exact congrArg some e1
  rw [hks, List.getElem?_map] at e2
  obtain ⟨i, hi, rfl⟩:=Option.map_eq_some_iff.mp e2
  obtain ⟨t, rfl⟩:=Value.isInt_shape (show Value.isInt i v = true from hkv)
  exact ⟨i, t, hi, rfl⟩
 refine list_sort_treeAny (n:=0) (vs:=us') (Heap.get?_push_size _ rfl) hI (by omega) fun out ns' h1 h2 h3 => ⟨rfl, ?_⟩
 obtain ⟨f, I2⟩:=laid_sorted (tk:=tk) (us:=us') (out:=out) (ys:=ns'.map V.int) I hk (by rw [List.length_map, h2.length_eq]; omega) (vals_of_ints h1)
 exact ⟨.ref _, _, I2, rfl, q ns' _ h2 h3 f⟩
theorem perm_lift {α β : Type} {f : α -> β} {L R : List β} (p : L.Perm R) : ∀ {P : List α}, R = P.map f -> ∃ P' : List α, P'.Perm P /\ L = P'.map f:=by
 induction p with
 | nil => intro P e; exact ⟨[], by rw [List.map_eq_nil_iff.mp e.symm], rfl⟩
 | cons x p ih =>
  intro P e
  cases P with
  | nil => simp at e
  | cons a P =>
   obtain ⟨e1, e2⟩:=List.cons.inj e
   obtain ⟨P', hp, rfl⟩:=ih e2
   exact ⟨a :: P', hp.cons a, by rw [List.map_cons, e1]⟩
 | swap x y l =>
  intro P e
  match P, e with
  | a :: b :: P, e =>
   obtain ⟨e1, e2⟩:=List.cons.inj e
   obtain ⟨e2, e3⟩:=List.cons.inj e2
   exact ⟨b :: a :: P, List.Perm.swap .., by rw [e1, e2, e3]; rfl⟩
 | trans p1 p2 ih1 ih2 =>
  intro P e
  obtain ⟨P1, hp1, e1⟩:=ih2 e
  obtain ⟨P2, hp2, e2⟩:=ih1 e1
  exact ⟨P2, hp2.trans hp1, e2⟩
theorem lex_same : ∀ a b : List Int, PyProof.Rows.lexLt itemOrd (a.map Sum.inl) (b.map Sum.inl) = HT.lexLt a b
 | [], [] => rfl
 | [], _ :: _ => rfl
 | _ :: _, [] => rfl
 | x :: a, y :: b => by
  rw [List.map_cons, List.map_cons, lex_cons, lex_same a b, HT.lexLt_cons]
  show (decide (x < y) || (!decide (y < x) && HT.lexLt a b)) = _
  by_cases e : x = y
  ·subst e; simp
  ·rw [if_neg e]
   by_cases g : x < y
   ·simp [g]
   ·have : y < x:=by omega
    simp [g, this]
theorem items_inl : ∀ {us : List Value} {ns : List Int} (i : Nat), IntsAre us ns -> tupItems (fun _ => false) i us = some (ns.map Sum.inl)
 | _, _, _, .nil => rfl
 | _, _, i, .cons n t r => by
  show (if (false = true) then none else (tupItems (fun _ => false) (i + 1) _).map (Sum.inl n :: ·)) = _
  rw [items_inl (i + 1) r]
  rfl
def rSortedDT : List V -> Hp -> VK -> Prop:=fun vs H Q => ∃ (d : Addr) (kvs : List (List Key × V)) (ts : List (List Int)), vs = [V.ref d] /\ Rd H d (.dT kvs) /\ kvs.map (·.1) = ts.map (fun t => t.map Sum.inl) /\ (2 <= ts.length -> ∀ t ∈ ts, t ≠ []) /\
 ∀ (ps : List (Addr × List Int)) (p : Addr), (ps.map (·.2)).Perm ts -> (∀ x ∈ ps, H x.1 = some (.tup (x.2.map V.int))) -> ps.Pairwise (fun a b => HT.lexLt b.2 a.2 = false) -> H p = none -> Q (.ref p) (upd H p (.lst (ps.map fun x => V.ref x.1)))
theorem kV_inl (t : List Int) : (t.map Sum.inl).map kV = t.map V.int:=by rw [List.map_map]; rfl
theorem cr_sortedDT (hc : X.calm = true) : CallR X (.builtin "sorted") rSortedDT:=by
 intro pins s σ H vs us Q I r h
 obtain ⟨d, kvs, ts, rfl, hd, hks, hne, q⟩:=h
 obtain ⟨z, hs, xs, kv, o, es, ep, ho, hx, hdat, he, _, _⟩:=dt_rd I.hok hd
 rw [Vals.ref1 r]
 have hl : kvs.length = xs.length:=Paired.length kv
 have hln : kvs.length = ts.length:=by rw [<- List.length_map (f:=(·.1)), hks, List.length_map]
 have hsz : es.size = xs.length:=size_of_entries he
 let P0 : List (Addr × List Int):=(xs.map (·.2.1)).zip ts
 have hP0 : P0.length = ts.length:=by show ((xs.map (·.2.1)).zip ts).length = _; rw [List.length_zip, List.length_map]; omega
 have at0 : ∀ j, j < ts.length -> ∃ b t, P0[j]? = some (b, t) /\ ts[j]? = some t /\ H b = some (.tup (t.map V.int)) /\ ∃ k v, xs[j]? = some (k, b, v):=fun j hj => by
  have hjk : j < kvs.length:=by omega
  obtain ⟨b, hb, e1, e2, _⟩:=paired_get kv (List.getElem?_eq_getElem hjk)
  have ht : ts[j]? = some ts[j]:=List.getElem?_eq_getElem hj
  have e3 : (kvs.map (·.1))[j]? = some (kvs[j].1):=by rw [List.getElem?_map, List.getElem?_eq_getElem hjk]; rfl
  rw [hks, List.getElem?_map, ht] at e3
  have e3:=Option.some.inj e3
  refine ⟨b.2.1, ts[j], ?_, ht, ?_, b.1, b.2.2, hb⟩
  ·show ((xs.map (·.2.1)).zip ts)[j]? = _
   rw [List.getElem?_zip_eq_some]
   exact ⟨by rw [List.getElem?_map, hb]; rfl, ht⟩
  ·rw [<- e3, kV_inl] at e2
   exact e2
 have mem0 : ∀ x ∈ P0, H x.1 = some (.tup (x.2.map V.int)) /\ x.2 ∈ ts:=fun x hxm => by
  obtain ⟨j, hj⟩:=mem_ix hxm
  have hjl : j < ts.length:=by
   have:=(List.getElem?_eq_some_iff.mp hj).1
   omega
  obtain ⟨b, t, e1, e2, e3, _⟩:=at0 j hjl
  rw [hj] at e1
  cases e1
  exact ⟨e3, List.mem_of_getElem? e2⟩
 have snd0 : P0.map (·.2) = ts:=by
  show ((xs.map (·.2.1)).zip ts).map Prod.snd = ts
  exact List.map_snd_zip (by rw [List.length_map]; omega)
 refine sorted_src (src_keysE (es:=es) (ep:=ep) hs) (I.ok.hd hc) ⟨o, ho, hx, hdat⟩ (by omega) fun A1 h' tk us' hk hlen hP => ?_
 have hus : us' = P0.map fun x => Value.ref x.1:=by
  apply List.ext_getElem?
  intro j
  by_cases hj : j < ts.length
  ·obtain ⟨b, t, e1, e2, e3, k, v, e4⟩:=at0 j hj
   have hju : us'[j]? = some us'[j]:=List.getElem?_eq_getElem (by omega)
   obtain ⟨en, hen, hv⟩:=hP j _ hju
   rw [entry_at he j, e4] at hen
   have hen:=Option.some.inj hen
   rw [List.getElem?_map, e1, hju, hv, <- hen]
   rfl
  ·rw [List.getElem?_eq_none (by omega), List.getElem?_eq_none (by rw [List.length_map]; omega)]
 have I1 : Inv X pins σ H { s with heap:=h', toks:=tk }:=I.kept hk
 have keyAt : ∀ x ∈ P0, ∀ h2 : Heap, (∀ b o, h'.get? b = some o -> h2.get? b = some o) -> G.tupKeyC h2 (fun _ => false) (.ref x.1) = some (x.2.map Sum.inl) /\ (x.2 ≠ [] -> ∃ f, TupOf h2 (fun _ => false) (.ref x.1) f):=fun x hxm h2 hk2 => by
  obtain ⟨_, its, rv, ob, ho1, ho2, n, ho3⟩:=(show ObjOk X.prog X.w H h' x.1 (.tup (x.2.map V.int)) from I1.hok _ _ (mem0 x hxm).1)
  have hints:=intsAre_of rv
  have g:=hk2 _ _ ho1
  constructor
  ·unfold G.tupKeyC
   have e1 : G.isTupObj h2 (.ref x.1) = true:=by simp [G.isTupObj, g, ho2]
   rw [if_pos e1]
   simp only [tupKey, g, ho3]
   exact items_inl 0 hints
  ·intro hx2
   obtain ⟨b, t⟩:=x
   have hints : IntsAre its t:=hints
   cases hints with
   | nil => exact absurd rfl hx2
   | cons n t r => exact ⟨_, b, ob, _, _, rfl, g, ho2, ho3, rfl, fun _ => ⟨_, _, rfl⟩, fun e => absurd e (by decide)⟩
 have hk2 : ∀ b o, h'.get? b = some o -> (h'.push (seqObj "list" us'.toArray 0)).get? b = some o:=fun b o e => Heap.get?_push_of_some _ e
 have hoL : (h'.push (seqObj "list" us'.toArray 0)).get? h'.objs.size = some (seqObj "list" us'.toArray 0):=Heap.get?_push_size _ rfl
 have k6:=G.keeps_sort6 (vs:=us') hoL
 have tofs : ∀ P1 : List (Addr × List Int), (∀ x ∈ P1, x ∈ P0) -> (∀ x ∈ P1, x.2 ≠ []) -> ∃ fs, TupsOf (h'.push (seqObj "list" us'.toArray 0)) (fun _ => false) (P1.map fun x => Value.ref x.1) fs:=by
  intro P1
  induction P1 with
  | nil => exact fun _ _ => ⟨[], .nil⟩
  | cons x P1 ih =>
   intro h1 h2
   obtain ⟨fs, hfs⟩:=ih (fun y hy => h1 y (List.mem_cons_of_mem _ hy)) fun y hy => h2 y (List.mem_cons_of_mem _ hy)
   obtain ⟨f, hf⟩:=(keyAt x (h1 x (List.mem_cons_self ..)) _ hk2).2 (h2 x (List.mem_cons_self ..))
   exact ⟨f :: fs, .cons hf hfs⟩
 have hkeys : ∀ v, v ∈ us' -> ∃ l, G.tupKeyC (h'.push (seqObj "list" us'.toArray 0)) (fun _ => false) v = some l:=fun v hv => by
  rw [hus] at hv
  obtain ⟨x, hxm, rfl⟩:=List.mem_map.mp hv
  exact ⟨_, (keyAt x hxm _ hk2).1⟩
 refine G.list_sort_treeG (s:={ s with heap:=h'.push (seqObj "list" us'.toArray 0), toks:=tk }) (κ:=G.tupKindC (h'.push (seqObj "list" us'.toArray 0)) fun _ => false) (kd:=tuples' true) (n:=0) (vs:=us') hoL (G.tupKeys hkeys)
  (G.tupC_ltAt true k6) (fun h2 R hq => ?_) (by omega) fun st' hp hsrt _ => ⟨rfl, ?_⟩
 ·have hlen2 : 2 <= ts.length:=by omega
  obtain ⟨fs, hfs⟩:=tofs P0 (fun _ hx => hx) fun x hxm => hne hlen2 _ (mem0 x hxm).2
  rw [<- hus] at hfs
  exact tup_kind (by rw [G.TupsOf.length hfs]; omega) (G.TupsOf.keep k6 hfs) hq
 ·have hperm : (arrOf st').toList.Perm (P0.map fun x => ((Value.ref x.1, Value.ref x.1) : Keyed)):=by
   have e:=Array.perm_iff_toList_perm.mp hp
   rw [pairsOf_toList, hus] at e
   rw [show (P0.map fun x => ((Value.ref x.1, Value.ref x.1) : Keyed)) = ((P0.map fun x => Value.ref x.1).zip (P0.map fun x => Value.ref x.1)) from by rw [List.zip_map']]
   exact e
  obtain ⟨ps, hps, earr⟩:=perm_lift hperm rfl
  have hmem : ∀ x ∈ ps, x ∈ P0:=fun x hx => hps.mem_iff.mp hx
  have hout : ((arrOf st').map (·.2)).toList = ps.map fun x => Value.ref x.1:=by
   rw [Array.toList_map, earr, List.map_map]
   rfl
  have rv : Vals (ps.map fun x => V.ref x.1) ((arrOf st').map (·.2)).toList:=by
   rw [hout]
   clear hps earr hmem hout
   induction ps with
   | nil => exact .nil
   | cons x ps ih => exact .cons rfl ih
  obtain ⟨f, I2⟩:=laid_sorted (tk:=tk) (us:=us') (out:=(arrOf st').map (·.2)) (ys:=ps.map fun x => V.ref x.1) I hk (by rw [List.length_map, hps.length_eq, hP0]; omega) rv
  refine ⟨.ref _, _, I2, rfl, q ps _ (by rw [<- snd0]; exact hps.map _) (fun x hx => (mem0 x (hmem x hx)).1) ?_ f⟩
  rw [List.pairwise_iff_getElem]
  intro i j hi hj hij
  have hsize : (pairsOf us').size = ps.length:=by rw [pairsOf_size, hus, List.length_map, hps.length_eq]
  have z:=hsrt i j (Nat.le_of_lt hij) (by rw [hsize]; exact hj)
  have KKi : ∀ i (hi : i < ps.length), KK (G.tupKindC (h'.push (seqObj "list" us'.toArray 0)) fun _ => false) (arrOf st') i = (ps[i].2.map Sum.inl : List (Int ⊕ List Nat)):=fun i hi => by
   unfold KK
   have : (arrOf st')[i]? = some (Value.ref ps[i].1, Value.ref ps[i].1):=by
    rw [<- Array.getElem?_toList, earr, List.getElem?_map, List.getElem?_eq_getElem hi]
    rfl
   rw [this]
   show (G.tupKeyC _ _ (Value.ref ps[i].1)).getD [] = _
   rw [(keyAt ps[i] (hmem _ (List.getElem_mem hi)) _ hk2).1]
   rfl
  rw [KKi i hi, KKi j hj] at z
  have z : PyProof.Rows.lexLt itemOrd (ps[j].2.map Sum.inl) (ps[i].2.map Sum.inl) = false:=z
  rw [lex_same] at z
  exact z
end
end Pr
namespace Pr
open PySem PySem.Spec PyProof.Rows L2
section
variable {prog : Program} {w : World} {κ : Type} [DecidableEq κ] {knd : KeyKind prog w κ} {A : Around} {E : Value -> Shared -> Prop} {s : Shared} {d : Addr} {k : κ} {key : Value} {kvs : List (κ × Value)}
theorem sdef_pairs {v : Value} {Q : Value -> Shared -> Prop} (hkey : knd.is k key = true) (hm : s.heap.DictOf knd d kvs) (h1 : ∀ u, valueAt kvs k = some u -> Q u { s with toks:=s.toks + 1 })
  (h2 : valueAt kvs k = none -> ∀ h', h'.DictOf knd d (kvs ++ [(k, v)]) -> Heap.SameBut d s.heap h' -> Q v { s with heap:=h', toks:=s.toks + 1 }) (hsz : kvs.length <= sizeLine) : wpAny (model prog w) A (dictSetDefault d key v) Q E s:=by
 obtain ⟨o, es, ep, ho, hc, hd, hk, hp, hn⟩:=hm
 have hes : es.size <= sizeLine:=by
  have e1:=hp.length
  have e2 : es.toList.length = es.size:=by simp
  omega
 unfold dictSetDefault
 try with_reducible refine wpAny_holding ?_
 refine wpAny_bind (knd.pyHash hkey ?_)
 refine wpAny_bind (wpAny_dictFind_of (s:={ s with toks:=s.toks + 1 }) hkey ho hd hk ?_)
 have hidx : (es.findIdx? fun e => knd.is k e.key) = kvs.findIdx? fun kv => decide (kv.1 = k):=by
  rw [<- hp.findIdx k]; obtain ⟨l⟩:=es; simp
 have hfind : (es.toList.find? fun e => knd.is k e.key).map (·.val) = valueAt kvs k:=hp.find k
 cases hi : es.findIdx? fun e => knd.is k e.key with
 | some i =>
  refine wpAny_bind (wpAny_dictEntries (s:={ s with toks:=s.toks + 1 }) ho hd ?_)
  have hlt : i < es.size:=(Array.findIdx?_eq_some_iff_findIdx_eq.mp hi).1
  rw [Array.getElem?_eq_getElem hlt]
  refine wpAny_bind (wpAny_rule (wpAny_pure (h1 _ ?_)))
  rw [<- hfind]
  have hl : (es.toList.findIdx? fun e => knd.is k e.key) = some i:=by rw [<- hi]; obtain ⟨l⟩:=es; simp
  obtain ⟨hi1, hi2, hi3⟩:=List.findIdx?_eq_some_iff_getElem.mp hl
  have : (es.toList.find? fun e => knd.is k e.key) = some es[i]:=by
   rw [List.find?_eq_some_iff_getElem]
   refine ⟨by simpa using hi2, i, by simpa using hi1, by simp, fun j hj => by simpa using hi3 j hj⟩
  rw [this]
  rfl
 | none =>
  have hnot : k ∉ kvs.map (·.1):=not_mem_of_findIdx_none (hidx ▸ hi)
  have hva : valueAt kvs k = none:=by
   unfold valueAt
   rw [Option.map_eq_none_iff, List.find?_eq_none]
   intro x hx e
   exact hnot (List.mem_map.mpr ⟨x, hx, of_decide_eq_true e⟩)
  refine wpAny_bind (wpAny_rule (wpAny_bind (wpAny_updateDictKeys (hz:=hes) (s:={ s with toks:=s.toks + 1 }) ho hd (wpAny_pure (h2 hva _ ⟨_, _, ep + 1, Heap.get?_update_self _ ho (Obj.isFreed_of_dict (Obj.data_mapDictKeys hd _)),
   hc.mapDictKeys _, Obj.data_mapDictKeys hd _, hk.push hkey _, ?_, ?_⟩ (Heap.SameBut.update ..))))))
  ·have:=hp.append hkey (knd.hash k) v
   obtain ⟨l⟩:=es
   simpa using this
  ·rw [List.map_append, List.nodup_append]
   refine ⟨hn, by simp, ?_⟩
   intro a ha b hb
   simp only [List.map_cons, List.map_nil, List.mem_singleton] at hb
   subst hb
   exact fun e => hnot (e ▸ ha)
theorem meets_sdefK (knd : KeyKind prog w κ) (d : Addr) (key : Value) (hd : (d == sysModules) = false) (v : Value) :
  MeetsIn prog w (Builtin.«dict.setdefault» ⟨[.ref d, key, v], []⟩) (fun A R s => ∃ k kvs, knd.is k key = true /\ s.heap.DictOf knd d kvs /\ kvs.length <= sizeLine /\
   (∀ u, valueAt kvs k = some u -> R (.ok (.ret u)) { s with toks:=s.toks + 1 }) /\
   (valueAt kvs k = none -> ∀ h', h'.DictOf knd d (kvs ++ [(k, v)]) -> Heap.SameBut d s.heap h' -> R (.ok (.ret v)) { s with heap:=h', toks:=s.toks + 1 })) :=
 .of_wp fun A R s ⟨k, kvs, hkey, hm, hsz, h1, h2⟩ => by
  unfold Builtin.«dict.setdefault»
  refine wpAny_bind ?_
  unfold Builtin.Dict.keyAndDefault
  refine wpAny_bind (wpAny_notOrdered_dict hm.typeIs ?_)
  show wpAny _ _ (pure (d, key, some v)) _ _ s
  refine wpAny_pure ?_
  show wpAny _ _ (if (d == sysModules) = true then _ else (dictSetDefault d key v >>= _)) _ _ s
  rw [if_neg (by rw [hd]; exact Bool.false_ne_true)]
  exact wpAny_bind (sdef_pairs hkey hm (fun u hu => wpAny_pure ⟨u, rfl, h1 u hu⟩) (fun hn h' dd hs => wpAny_pure ⟨v, rfl, h2 hn h' dd hs⟩) hsz)
theorem meets_valuesR (d : Addr) (hd : (d == sysModules) = false) : MeetsIn prog w (Builtin.«dict.values» ⟨[.ref d], []⟩) (fun _ R s => s.TypeIs (.ref d) "dict" /\
   R (.ok (.ret (.ref s.heap.objs.size))) { s with heap:=s.heap.push { cls:=.type "dict_values", data:=.fields #[.ref d] } }) :=
 .of_wp fun A R s ⟨hT, h⟩ => by
  unfold Builtin.«dict.values»
  refine wpAny_bind ?_
  unfold Builtin.Dict.noArgs
  refine wpAny_bind (wpAny_notOrdered_dict hT ?_)
  show wpAny _ _ (pure d) _ _ s
  refine wpAny_pure ?_
  show wpAny _ _ (Builtin.Dict.showsAll d >>= _) _ _ s
  unfold Builtin.Dict.showsAll
  rw [if_neg (by rw [hd]; exact Bool.false_ne_true)]
  exact wpAny_bind (wpAny_pure (wpAny_bind (wpAny_newObj_type (wpAny_pure ⟨_, rfl, h⟩))))
end
section
variable {X : Cx}
def rSdefK : V -> List V -> Hp -> VK -> Prop:=fun x xs H Q => ∃ (d : Addr) (i : Int) (v : V) (kvs : List (Key × V)), x = .ref d /\ xs = [.int i, v] /\ H d = some (.dK kvs) /\ kvs.length < sizeLine /\
 (∀ u, valV kvs (Sum.inl i) = some u -> Q u H) /\ (valV kvs (Sum.inl i) = none -> Q v (upd H d (.dK (kvs ++ [(Sum.inl i, v)]))))
theorem mt_sdefK : MtR X "dict.setdefault" rSdefK:=by
 intro pins s σ H x xs v us Q I rx rxs h
 obtain ⟨d, i, u, kvs, rfl, rfl, hd, hz, q1, q2⟩:=h
 cases rx
 obtain ⟨r1, r2, rfl, rb, ru⟩:=vals2 rxs
 obtain ⟨t, rfl⟩:=rb
 obtain ⟨z, hs, ys, rel, dd⟩:=dk_of I.hok hd
 have hl : kvs.length = ys.length:=Paired.length rel
 have rv:=rel.val (Sum.inl i)
 refine call_meetsIn PySem.F.slot_dict_setdefault dd.typeIs PySem.F.entry_dict_setdefault (PySem.F.args_dict_setdefault_3 _ _ _) (meets_sdefK (mixKind X.prog X.w) d (.int i t) hs r2) ⟨Sum.inl i, ys, kV_is (k:=Sum.inl i) ⟨t, rfl⟩, dd, by omega, fun p hp => ?_, fun hn h' dd' sb => ?_⟩
 ·rw [hp] at rv
  cases e : valV kvs (Sum.inl i) with
  | none => rw [e] at rv; exact (show False from rv).elim
  | some y =>
   rw [e] at rv
   exact ⟨y, H, I.tok _, rv, q1 y e⟩
 ·rw [hn] at rv
  have e : valV kvs (Sum.inl i) = none:=by
   cases e : valV kvs (Sum.inl i) with
   | none => rfl
   | some y => rw [e] at rv; exact (show False from rv).elim
  have he : ∃ q, h'.get? d = some q:=let ⟨q, _, _, hq, _⟩:=dd'; ⟨q, hq⟩
  exact ⟨u, _, d_write (ob:=.dK (kvs ++ [(Sum.inl i, u)])) I (by rw [hd]; exact True.intro) sb he (dk_new (by rw [List.length_append]; exact hz) hs (Paired.snoc (a:=(Sum.inl i, u)) (b:=(Sum.inl i, r2)) rel ⟨rfl, ru⟩) dd'), ru, q2 e⟩
def ViewO (v d : Addr) : HO:=.ext fun h => h.get? v = some { cls:=.type "dict_values", data:=.fields #[.ref d] }
def rValsT : V -> List V -> Hp -> VK -> Prop:=fun x xs H Q => ∃ (d : Addr) (kvs : List (List Key × V)), x = .ref d /\ xs = [] /\ Rd H d (.dT kvs) /\ ∀ p, H p = none -> Q (.ref p) (upd H p (ViewO p d))
theorem mt_valsT : MtR X "dict.values" rValsT:=by
 intro pins s σ H x xs v us Q I rx rxs h
 obtain ⟨d, kvs, rfl, rfl, hd, q⟩:=h
 cases rx
 cases rxs
 obtain ⟨z, hs, ys, rel, o, es, ep, ho, hx, _⟩:=dt_rd I.hok hd
 have hT : s.TypeIs (.ref d) "dict":=⟨o, ho, hx.1⟩
 refine call_meetsIn PySem.F.slot_dict_values hT PySem.F.entry_dict_values (PySem.F.args_dict_values_1 _) (meets_valuesR d hs) ⟨hT, ?_⟩
 refine ⟨.ref s.heap.objs.size, _, I.laid (a:=s.heap.objs.size) (o:=ViewO s.heap.objs.size d) (t':=s.toks) (fun b u e => Heap.get?_push_of_some _ e) (Nat.le_refl _) ?_, rfl, q _ (I.hok.fresh (Nat.le_refl _))⟩
 exact ⟨Heap.get?_push_size _ rfl, ⟨_, Heap.get?_push_size _ rfl⟩, fun h1 h2 e k => k _ e⟩
def rListView : List V -> Hp -> VK -> Prop:=fun vs H Q => ∃ (v d : Addr) (kvs : List (List Key × V)), vs = [V.ref v] /\ H v = some (ViewO v d) /\ Rd H d (.dT kvs) /\ ∀ p, H p = none -> Q (.ref p) (upd H p (.lst (kvs.map (·.2))))
theorem call_listView (hc : X.calm = true) : CallR X (.type "list") rListView:=by
 intro pins s σ H vs us Q I r h
 obtain ⟨v, d, kvs, rfl, hv, hd, q⟩:=h
 rw [Vals.ref1 r]
 obtain ⟨z, hs, xs, kv, o, es, ep, ho, hx, hdat, he, _, _⟩:=dt_rd I.hok hd
 obtain ⟨hv1, _⟩:=(show ObjOk X.prog X.w H s.heap v (ViewO v d) from I.hok _ _ hv)
 have hl : kvs.length = xs.length:=Paired.length kv
 have hsz : es.size = xs.length:=size_of_entries he
 refine PySem.W.kdl_call (src_valsE (r:=v) (d:=d) (es:=es) (ep:=ep)) (I.ok.hd hc) ⟨⟨_, hv1, rfl, rfl⟩, o, ho, hx, hdat⟩ (by omega) fun h' tk acc c hk hD hacc => ?_
 have rv : Vals (kvs.map (·.2)) acc.toList:=by
  have key : ∀ {l : List (List Key × V)} {m : List (List Key × Addr × Value)}, KT H l m -> Vals (l.map (·.2)) (m.map (·.2.2)):=by
   intro l m r
   induction r with
   | nil => exact .nil
   | cons a _ ih => exact .cons a.2.2 ih
  have e : acc.toList = xs.map (·.2.2):=by
   apply List.ext_getElem?
   intro j
   by_cases hj : j < xs.length
   ·have hjl : j < acc.toList.length:=by rw [Array.length_toList, hacc.1]; omega
    have hja : acc.toList[j]? = some acc.toList[j]:=List.getElem?_eq_getElem hjl
    obtain ⟨en, hen, hve⟩:=hacc.2 j _ (by rw [<- Array.getElem?_toList]; exact hja)
    rw [entry_at he j, List.getElem?_eq_getElem hj] at hen
    have hen:=Option.some.inj hen
    rw [hja, hve, <- hen, List.getElem?_map, List.getElem?_eq_getElem hj]
    rfl
   ·rw [List.getElem?_eq_none (by rw [Array.length_toList, hacc.1]; omega), List.getElem?_eq_none (by rw [List.length_map]; omega)]
  rw [e]
  exact key kv
 exact ⟨.ref _, upd H s.heap.objs.size (.lst (kvs.map (·.2))), I.laid (t':=tk) (fun b u e => hk b u e) (Nat.le_refl _) ⟨by rw [List.length_map]; exact z, acc.toList, c, rv, by rw [Array.toArray_toList]; exact hD⟩, rfl, q _ (I.hok.fresh (Nat.le_refl _))⟩
def rCatS (K : PySem.W.Frag) : R2:=fun x y H Q => ∃ a b xs y0, x = .ref a /\ y = .ref b /\ SqT K H a xs /\ SqT K H b [y0] /\ xs.length < sizeLine /\ (xs = [] -> Q (.ref b) H) /\ (xs ≠ [] -> ∀ p, H p = none -> Q (.ref p) (upd H p (.tup (xs ++ [y0]))))
theorem op_catS : OpR X (binaryOp .Add) (rCatS X.K):=by
 intro pins s σ H x y v u Q I rx ry h
 obtain ⟨a, b, xs, y0, rfl, rfl, ha, hb, hz, q0, q1⟩:=h
 by_cases e : xs = []
 ·subst e
  cases rx
  cases ry
  obtain ⟨its, r1, p1, _⟩:=I.tuple ha
  obtain ⟨its2, r2, p2, _⟩:=I.tuple hb
  have he : its = []:=r1.nil_iff.mpr rfl
  subst he
  obtain ⟨⟨cls, dd, data, sl⟩, ho, hc, n, hd⟩:=id p1
  obtain ⟨⟨cls2, dd2, data2, sl2⟩, ho2, hc2, n2, hd2⟩:=id p2
  simp only at hc hd hc2 hd2
  subst hc hd hc2 hd2
  exact concat_meets ⟨_, ho, rfl⟩ ⟨_, ho2, rfl⟩ noFill_tuple_add seq_tuple_add PySem.F.slot_tuple_add PySem.F.entry_tuple_add (PySem.F.args_tuple_add_2 _ _)
   (tuple_addW0 a b _ _ n n2 dd dd2 sl sl2 (by simp)) ⟨ho, ho2, ⟨.ref b, H, I, rfl, q0 rfl⟩⟩
 ·exact op_catT pins s σ H (.ref a) (.ref b) v u Q I rx ry ⟨a, b, xs, [y0], rfl, rfl, ha, hb, e, by show xs.length + 1 <= sizeLine; exact hz, fun z => by simp at z, fun _ p hp => q1 e p hp⟩
end
section
variable {prog : Program} {w : World} {A : Around} {E : Value -> Shared -> Prop} {s : Shared}
theorem collect_tup {l : Addr} {vs : List Value} {Q : List Value -> Shared -> Prop} (hl : IsTup s.heap l vs.toArray)
  (h : Q vs { s with heap:=(s.heap.push (seqObj "list" #[] 0)).update s.heap.objs.size (Obj.mapSeq (· ++ vs.toArray)) }) (hsz : vs.length <= sizeLine:=by size_fits) :
  wpAny (model prog w) A (collect (.ref l)) Q E s:=by
 obtain ⟨o, ho, hc, n, hd⟩:=id hl
 unfold collect
 refine wpAny_bind (wpAny_runValue (codeAny_builtin entry_proto_collect' ?_))
 show wpAny _ _ (do again (.builtin "list.__iadd__" ⟨[<- newList [], .ref l], []⟩)) _ _ s
 refine wpAny_bind (wpAny_newList (wpAny_pure ⟨Code.quiet_builtin _ (by decide +kernel), codeAny_builtin entry_list_iadd' ?_⟩))
 show wpAny _ _ (Builtin.List.listExtendWith (.ref s.heap.objs.size) (.ref l) (.ref s.heap.objs.size)) _ _ { s with heap:=s.heap.push (seqObj "list" #[] 0) }
 unfold Builtin.List.listExtendWith
 have ho' : (s.heap.push (seqObj "list" #[] 0)).get? l = some o:=Heap.get?_push_of_some _ ho
 refine wpAny_bind (wpAny_typeOf (T:="tuple") ⟨o, ho', hc⟩ ?_)
 have ht : (Value.type "tuple" == Value.type "tuple") = true:=by rfl
 rw [if_pos (by rw [ht]; simp)]
 refine wpAny_bind (listItems_at ho' hd ?_)
 refine wpAny_bind (listItems_at (xs:=#[]) (n:=0) (Heap.get?_push_size _ rfl) rfl ?_)
 rw [if_neg (by simp)]
 refine wpAny_bind (listUpdate_at (xs:=#[]) (n:=0) (Heap.get?_push_size _ rfl) rfl ?_ (Nat.zero_le _) (by show (#[] ++ vs.toArray).size <= sizeLine + 1; simp only [Array.size_append, List.size_toArray, List.length_nil]; omega))
 refine wpAny_pure ?_
 show wpAny (model prog w) A (do
   let o <- load s.heap.objs.size
   match o.data with
   | .seq xs _ => pure xs.toList
   | _ => unsupported "internal:collect") Q E { s with heap:=(s.heap.push (seqObj "list" #[] 0)).update s.heap.objs.size (Obj.mapSeq (· ++ vs.toArray)) }
 refine wpAny_bind (wpAny_load (get?_update_seq (Heap.get?_push_size _ rfl) _) ?_)
 show wpAny _ _ (pure ((#[] : Array Value) ++ vs.toArray).toList) Q E _
 rw [show ((#[] : Array Value) ++ vs.toArray).toList = vs by simp]
 exact wpAny_pure h
theorem sorted_tupI {l : Addr} {vs : List Value} {ns : List Int} {Q : Value -> Shared -> Prop} (hl : IsTup s.heap l vs.toArray) (hI : IntsAre vs ns) (h64 : vs.length < 64)
  (h : ∀ (out : Array Value) (ns' : List Int), IntsAre out.toList ns' -> ns'.Perm ns -> ns'.Pairwise (· <= ·) -> Q (.ref (s.heap.objs.size + 1)) { s with heap:=sortedAll s.heap vs out }) :
  wpAny (model prog w) A (call (.builtin "sorted") [.ref l]) Q E s:=by
 refine Calls.call_function_entry kind_sorted plain_sorted entry_sorted (args_sorted1 _) ?_
 unfold Builtin.«sorted»
 refine wpAny_bind (m:=checkCount "sorted" 1 1 _) (wpAny_pure ?_)
 refine wpAny_bind (collect_tup hl ?_ (by rw [sizeLine_eq]; omega))
 refine wpAny_bind (wpAny_newList ?_ (by rw [sizeLine_eq]; omega))
 have hsz : ((s.heap.push (seqObj "list" #[] 0)).update s.heap.objs.size (Obj.mapSeq (· ++ vs.toArray))).objs.size = s.heap.objs.size + 1:=by
  rw [Heap.size_update, size_push']
 have hoL : (((s.heap.push (seqObj "list" #[] 0)).update s.heap.objs.size (Obj.mapSeq (· ++ vs.toArray))).push (seqObj "list" vs.toArray 0)).get? (s.heap.objs.size + 1) = some (seqObj "list" vs.toArray 0):=by
  rw [<- hsz]; exact Heap.get?_push_size _ rfl
 show wpAny _ _ _ _ _ { s with heap:=((s.heap.push (seqObj "list" #[] 0)).update s.heap.objs.size (Obj.mapSeq (· ++ vs.toArray))).push (seqObj "list" vs.toArray 0) }
 rw [hsz]
 refine wpAny_bind (wpAny_holding (wpAny_call_entry slot_list_sort ⟨_, hoL, rfl⟩ entry_list_sort (list_sort_tree hoL hI h64 fun out ns' a1 a2 a3 => ⟨_, rfl, ?_⟩) (args_list_sort _)))
 exact wpAny_pure ⟨_, rfl, h out ns' a1 a2 a3⟩
end
section
variable {X : Cx}
def rSortedT (K : PySem.W.Frag) : List V -> Hp -> VK -> Prop:=fun vs H Q => ∃ (a : Addr) (ns : List Int), vs = [V.ref a] /\ SqT K H a (ns.map V.int) /\ ns.length < 64 /\
 ∀ (ns' : List Int) (p : Addr), ns'.Perm ns -> ns'.Pairwise (· <= ·) -> H p = none -> Q (.ref p) (upd H p (.lst (ns'.map V.int)))
theorem cr_sortedT : CallR X (.builtin "sorted") (rSortedT X.K):=by
 intro pins s σ H vs us Q I r h
 obtain ⟨a, ns, rfl, hs, h64, q⟩:=h
 obtain ⟨its, rv, hl, _⟩:=I.tuple hs
 rw [Vals.ref1 r]
 have hi:=intsAre_of rv
 refine sorted_tupI hl hi (by rw [hi.length]; exact h64) fun out ns' h1 h2 h3 => ?_
 obtain ⟨ep, he'⟩:=PyProof.Rows.sortedAll_at s.heap its out
 have hlen : (ns'.map V.int).length <= sizeLine:=by rw [List.length_map, h2.length_eq]; exact small64 h64
 exact ⟨.ref _, upd H (s.heap.objs.size + 1) (.lst (ns'.map V.int)), I.laid (t':=s.toks) (fun _ _ => PyProof.Rows.sortedAll_old) (Nat.le_succ _) ⟨hlen, out.toList, ep, vals_of_ints h1, he'⟩, rfl, q ns' _ h2 h3 (I.hok.fresh (Nat.le_succ _))⟩
def tDisp1T (tk tv : TE) : TE:=fun σ H Q => ∀ p, H p = none -> tk σ (upd H p (.dT [])) fun x H1 => tv σ H1 fun y H2 => ∃ b k, x = .ref b /\ H2 p = some (.dT []) /\ H2 b = some (.tup (k.map kV)) /\ Q (.ref p) (upd H2 p (.dT [(k, y)]))
theorem pe_disp1T {k v : Expr} {tk tv : TE} {pos : Pos} (hu : X.A.units + 1 < cLine) (hk : PE X k tk) (hv : PE X v tv) : PE X (.Dict [some k] [v] pos) (tDisp1T tk tv):=by
 intro pins s σ H Q I q
 have hn:=I.hok.fresh (Nat.le_refl s.heap.objs.size)
 have I1:=I.laid (a:=s.heap.objs.size) (o:=.dT []) (h':=s.heap.push { cls:=.type "dict", data:=.dict #[] }) (t':=s.toks) (fun _ _ q => Heap.get?_push_of_some _ q) (Nat.le_refl _) (dt_empty s.heap I.big)
 rw [arm_eval_Dict, zip_pairTrees [some k] [v] X.env pos rfl rfl, dictDisplay_pairs _ (by simp [pairTrees]) (by simp [pairTrees])]
 refine wpAny_bind (wpAny_standAt (wpAny_bind ?_))
 unfold subDict
 refine wpAny_bind (wpAny_alloc ?_)
 refine wpAny_bind (wpAny_holding ?_)
 rw [if_pos (by simp [pairTrees])]
 refine wpAny_bind (pairTrees_cons_walk (thn (hk pins _ σ _ _ I1 (q _ hn)) fun u s1 ⟨x, H1, I2, rx, q1⟩ => thn (hv pins s1 σ H1 _ I2 q1) fun w2 s2 ⟨y, H2, I3, ry, b, ks, ex, hp, hb, q2⟩ => pairTrees_nil_walk ?_))
 subst ex
 cases rx
 obtain ⟨z, hs, ys, rel, dd⟩:=dt_of I3.hok hp
 cases rel
 refine wpAny_holding (wpAny_bind ?_)
 rw [List.forIn_cons]
 refine wpAny_bind (wpAny_bind (wpAny_dictSet_heap (knd:=tupleKind (mixKind X.prog X.w)) (hsz:=Nat.zero_le _) (show X.A.units < cLine from Nat.lt_of_succ_lt hu) (key_of I3.hok hb) dd fun h' dd' sb => wpAny_pure ?_))
 show wpAny _ _ (forIn [] PUnit.unit _) _ _ _
 rw [List.forIn_nil]
 refine wpAny_pure (wpAny_pure (wpAny_pure (wpAny_pure ?_)))
 obtain ⟨o, es, ep, ho, g2, g3, g4, _, g5⟩:=dd'
 have e : storedH ([] : List (List Key × Addr × Value)) ks b w2 = [(ks, b, w2)]:=rfl
 rw [e] at g4 g5
 refine ⟨.ref s.heap.objs.size, _, d_write (ob:=.dT [(ks, y)]) I3 (by rw [hp]; exact True.intro) sb ⟨o, ho⟩ ⟨by show 1 <= sizeLine; decide, hs, _, ?_, o, es, ep, ho, g2, g3, g4, g5⟩, rfl, q2⟩
 have rel2 : KT H2 [(ks, y)] [(ks, b, w2)]:=.cons ⟨rfl, hb, ry⟩ .nil
 refine KT.keeps rel2 fun c zs ec => ?_
 rw [upd_ne (ne_of ec hp (fun z => nomatch z))]
 exact ec
def tKeep (t : TE) : TE:=fun σ H Q => t σ H fun x H1 => ∃ d u, x = .ref d /\ H1 d = some u /\ Mut (some u) /\ ∀ o, Q x (upd H1 d (.frz o u))
theorem pe_keep {e : Expr} {t : TE} (he : PE X e t) : PE X e (tKeep t):=fun pins s σ H Q I h =>
 thn (he pins s σ H _ I h) fun u s1 ⟨x, H1, I1, rx, d, w, ex, hd, mu, q⟩ => by
  obtain ⟨o, I2⟩:=I1.lock hd mu
  exact ⟨x, _, I2, rx, q o⟩
end
end Pr
local macro_rules | `(tactic| obtain $p:rcasesPatMed:=$e:term) => `(tactic| (refine Classical.byContradiction fun hG => ?_; rcases $e:term with $p:rcasesPatMed <;> (refine hG ?_; clear hG)))
namespace Pr
open PySem PySem.Spec PyProof.Rows L2
open Fm (gm dt bm small)
def top (i : Nat) : Stmt:=PySem.Challenge.pw_formkeepdesk_s06_fm_same.main.body.getD i (.Pass ⟨0, 0, 0, 0⟩)
abbrev sSplit : Stmt:=top 1
abbrev sTop : Stmt:=top 2
abbrev sRed : Stmt:=top 3
def mat (m : Nat) (M : Fm.Mat) : List (List Int):=(List.range m).map fun i => (List.range m).map fun j => M i j
def bmR (m k : Nat) (M : Fm.Mat) : List (List Int):=mat (m - k) (bm k M)
def topsL (m : Nat) (M : Fm.Mat) (k : Nat) : List (List Int):=(List.range k).map fun i => (List.range (m - i)).map fun j => bm i M 0 j
def spSplit (K : PySem.W.Frag) : Sp:=fun vs H Q _ => ∃ (n : Nat) (a : Addr) (ns : List Int) (F : Hp), vs = [.int n, .ref a] /\ SqL K H a (ns.map V.int) /\ n <= 8 /\ ns.length = n * n /\ Same F H /\
 ∀ (F' H' : Hp) (v : V), Ext F H F' H' -> IsRows F' v (mat n (gm n ns)) -> Q v H'
def red (tp rw' : List Int) (d : Int) : List Int:=(List.range (rw'.length - 1)).map fun j => (tp.getD 0 0 * rw'.getD (j + 1) 0 - rw'.getD 0 0 * tp.getD (j + 1) 0) / d
def spRed : Sp:=fun vs H Q _ => ∃ (t r : V) (d : Int) (ts rs : List Int) (F : Hp), vs = [t, r, .int d] /\ Same F H /\ IsRow F t ts /\ IsRow F r rs /\ ts.length = rs.length /\ 0 < rs.length /\ rs.length <= 8 /\
 (∀ x ∈ ts, x.natAbs < 2 ^ 56) /\ 0 < d /\ d < 2 ^ 64 /\ ∀ (F' H' : Hp) (v : V), Ext F H F' H' -> IsRow F' v (red ts rs d) -> Q v H'
def Tame (m : Nat) (M : Fm.Mat) : Prop:=∀ k, k < m -> (∀ t, t < k -> 0 < dt (t + 1) M) -> ∀ j, k + j < m -> (bm k M 0 j).natAbs < 2 ^ 56
def spTop : Sp:=fun vs H Q _ => ∃ (v : V) (m : Nat) (M : Fm.Mat) (F : Hp), vs = [v] /\ Same F H /\ IsRows F v (mat m M) /\ 1 <= m /\ m <= 8 /\ Tame m M /\
 ∀ (F' H' : Hp) (v' : V) (k : Nat), Ext F H F' H' -> IsRows F' v' (topsL m M (k + 1)) -> k < m -> (∀ t, t < k -> 0 < dt (t + 1) M) -> (k + 1 = m \/ dt (k + 1) M <= 0) -> Q v' H'
section
variable {P : Program} {w : World} {K : PySem.W.Frag} {mg : Str -> Option Value} {base : Heap}
theorem scSplit : FnScope ["n", "a", "i"] ["n", "a"] (defScope sSplit):=⟨rfl, rfl, rfl, by decide +kernel, rfl, by decide +kernel, by decide +kernel⟩
theorem cut_row {n : Nat} {ns : List Int} {i : Nat} (hi : i < n) (hl : ns.length = n * n) : cutV (ns.map V.int) (some ((i : Int) * (n : Int))) (some ((i : Int) * (n : Int) + (n : Int))) = ((ns.drop (n * i)).take n).map V.int:=by
 have b : n * i + n <= n * n:=by
  have:=Nat.mul_le_mul_left n (show i + 1 <= n from hi)
  rw [Nat.mul_add, Nat.mul_one] at this
  exact this
 have e1 : (i : Int) * (n : Int) = ((n * i : Nat) : Int):=by rw [Int.natCast_mul, Int.mul_comm]
 have e2 : (i : Int) * (n : Int) + (n : Int) = ((n * i + n : Nat) : Int):=by rw [Int.natCast_add, Int.natCast_mul, Int.mul_comm]
 rw [e2, e1, cut_nat, List.length_map, hl, Nat.min_eq_left b, Nat.min_eq_left (show n * i <= n * n by omega), Nat.add_sub_cancel_left, List.map_take, List.map_drop]
theorem row_gm {n : Nat} {ns : List Int} {i : Nat} (hi : i < n) (hl : ns.length = n * n) : (ns.drop (n * i)).take n = (List.range n).map fun j => gm n ns i j:=by
 apply List.ext_getElem?
 intro j
 rw [List.getElem?_take, List.getElem?_drop]
 by_cases hj : j < n
 ·rw [if_pos hj, get_map_range hj]
  have b:=Fm.ix_lt hi hj
  unfold gm
  rw [List.getD_eq_getElem?_getD, List.getElem?_eq_getElem (by omega)]
  rfl
 ·rw [if_neg hj, List.getElem?_eq_none (by simp; omega)]
theorem ok_split {f : Addr} {fd : FuncData} (F : Fun K "split_rows" "split_rows" sSplit f fd) (hrng : mg "range" = none) : FnOk P w K mg base CX0 1 f fd ["n", "a"] (spSplit K):=by
 refine F.ok scSplit (fun vs H Q E h => ?_) (fun cdv A outer s H vs Q E hr h => ?_)
 ·obtain ⟨n, a, ns, F, rfl, _⟩:=h
  rfl
 ·obtain ⟨n, a, ns, F, rfl, hs, hn, hl, s0, k⟩:=h
  have nd:=scSplit.nd
  refine ⟨_, pss_one (ps_ret (pe_lc rfl nd (pi_range1 rfl hrng (pa_cons (pv 0) pa_nil)) (blkOk_by (own:=[("i", 2)]) (by kernel_rfl)) (fun _ _ _ _ _ => pg_name (i:=2) nd rfl (Or.inl rfl)) (fun _ _ _ _ _ => pts_nil)
   (fun _ _ _ _ _ => pe_slice (r:=rSlL K) sl_list (pv 1) (po_some (pe_op op_mul (pv 2) (pv 0))) (po_some (pe_op op_add (pe_op op_mul (pv 2) (pv 0)) (pv 0)))))), ?_⟩
  refine ⟨_, rfl, (n : Int), rfl, by omega, by omega, ?_⟩
  rw [Int.toNat_natCast]
  intro D hD
  refine lc_range (lo:=0) (n:=n) (AccP IsRow F H D (mat n (gm n ns))) (Acc.p0 (Ext.refl s0) hD) ?_ ?_
  ·intro i H' hi hI
   obtain ⟨F1, us, a1⟩:=hI
   refine ⟨rfl, ?_⟩
   refine ⟨_, rfl, _, rfl, _, rfl, (0 + (i : Int)), (n : Int), rfl, rfl, .inl ⟨by omega, by omega⟩, _, rfl, _, rfl, _, rfl, (0 + (i : Int)), (n : Int), rfl, rfl, .inl ⟨by omega, by omega⟩, _, rfl, _, _, rfl, rfl, _, rfl, a, _, rfl, a1.ext.hh.seq hs, fun p hp => ?_⟩
   rw [Int.zero_add, cut_row hi hl, row_gm hi hl]
   exact a1.next mono_row (get_map_range hi) (by simp [mat]; omega) ((Ext.refl a1.same).put hp) ⟨p, rfl, upd_same⟩
  ·rintro H' a1
   obtain ⟨F', e, h⟩:=a1.done mono_row (by simp [mat])
   exact k F' H' _ e h
theorem scRed : FnScope ["top", "row", "divisor", "j"] ["top", "row", "divisor"] (defScope sRed):=⟨rfl, rfl, rfl, by decide +kernel, rfl, by decide +kernel, by decide +kernel⟩
theorem getD_small {ts : List Int} {B : Nat} (hB : 0 < B) (h : ∀ x ∈ ts, x.natAbs < B) (j : Nat) : (ts.getD j 0).natAbs < B:=by
 rw [List.getD_eq_getElem?_getD]
 cases e : ts[j]? with
 | none => exact hB
 | some x => exact h x (List.mem_of_getElem? e)
theorem mul_ok {x y : Int} (h : x.natAbs < 2 ^ 56) : CMul x y:=.inl ⟨by omega, by omega⟩
theorem mul_ok' {x y : Int} (h : y.natAbs < 2 ^ 56) : CMul x y:=.inr ⟨by omega, by omega⟩
theorem ok_red {f : Addr} {fd : FuncData} (F : Fun K "reduced_row" "reduced_row" sRed f fd) (hrng : mg "range" = none) (hlen : mg "len" = none) : FnOk P w K mg base CX0 1 f fd ["top", "row", "divisor"] spRed:=by
 refine F.ok scRed (fun vs H Q E h => ?_) (fun cdv A outer s H vs Q E hr h => ?_)
 ·obtain ⟨t, r, d, ts, rs, F, rfl, _⟩:=h
  rfl
 ·obtain ⟨t, r, d, ts, rs, F, rfl, s0, ⟨ta, rfl, ht⟩, ⟨ra, rfl, hr'⟩, hlen', h0, h8, hb, hd0, hd1, k⟩:=h
  have nd:=scRed.nd
  refine ⟨_, pss_one (ps_ret (pe_lc rfl nd (pi_range2 rfl hrng (pa_cons pe_int (pa_cons (pe_callB call_len_seq rfl hlen PySem.boot_len (pa_cons (pv 1) pa_nil)) pa_nil))) (blkOk_by (own:=[("j", 3)]) (by kernel_rfl)) (fun _ _ _ _ _ => pg_name (i:=3) nd rfl (Or.inl rfl)) (fun _ _ _ _ _ => pts_nil)
   (fun _ _ _ _ _ => pe_op op_fdivB (pe_op op_sub (pe_op op_mul (pe_ix (r:=rIxL K) ix_list (pv 0) pe_int (fun _ _ => rfl)) (pe_ix (r:=rIxL K) ix_list (pv 1) (pv 3) (fun _ _ => rfl)))
    (pe_op op_mul (pe_ix (r:=rIxL K) ix_list (pv 1) pe_int (fun _ _ => rfl)) (pe_ix (r:=rIxL K) ix_list (pv 0) (pv 3) (fun _ _ => rfl)))) (pv 2)))), ?_⟩
  refine ⟨_, rfl, ra, _, rfl, .inl (row_seq hr' s0), 1, _, rfl, ⟨by omega, by omega, by rw [List.length_map]; omega, by rw [List.length_map]; omega⟩, ?_⟩
  have em : ((((rs.map V.int).length : Nat) : Int) - 1).toNat = rs.length - 1:=by rw [List.length_map]; omega
  rw [em]
  intro D hD
  refine lc_range (lo:=1) (n:=rs.length - 1) (AccP IsI F H D (red ts rs d)) (Acc.p0 (Ext.refl s0) hD) ?_ ?_
  ·intro j H' hj hI
   obtain ⟨F1, us, a1⟩:=hI
   have e0 : (0 : Int) = ((0 : Nat) : Int):=rfl
   have ej : (1 : Int) + (j : Int) = ((j + 1 : Nat) : Int):=by omega
   have qt : SqL K H' ta (ts.map V.int):=row_seq ht (a1.ext.ff.trans a1.same)
   have qr : SqL K H' ra (rs.map V.int):=row_seq hr' (a1.ext.ff.trans a1.same)
   have sm:=getD_small (by decide) hb
   refine ⟨rfl, ?_⟩
   refine ⟨_, rfl, ta, _, _, _, rfl, rfl, qt, at_of (j:=0) e0 (getV (by omega)), ?_⟩
   refine ⟨_, rfl, _, rfl, ra, _, _, _, rfl, rfl, qr, at_of (j:=j + 1) ej (getV (by omega)), _, _, rfl, rfl, mul_ok (sm 0), ?_⟩
   refine ⟨_, rfl, ra, _, _, _, rfl, rfl, qr, at_of (j:=0) e0 (getV (by omega)), ?_⟩
   refine ⟨_, rfl, _, rfl, ta, _, _, _, rfl, rfl, qt, at_of (j:=j + 1) ej (getV (by omega)), _, _, rfl, rfl, mul_ok' (sm (j + 1)), ?_⟩
   refine ⟨_, _, rfl, rfl, _, rfl, _, _, rfl, rfl, ⟨hd0, hd1⟩, ?_⟩
   exact a1.next mono_i (get_map_range hj) (by simp [red]; omega) (Ext.refl a1.same) rfl
  ·rintro H' a1
   obtain ⟨F', e, h⟩:=a1.done mono_i (by simp [red])
   exact k F' H' _ e (row_of h)
theorem mat_row {m : Nat} {M : Fm.Mat} {i : Nat} (hi : i < m) : (mat m M)[i]? = some ((List.range m).map fun j => M i j):=get_map_range hi
theorem row_at {m : Nat} {f : Nat -> Int} {j : Nat} (hj : j < m) : ((List.range m).map f).getD j 0 = f j:=by
 rw [List.getD_eq_getElem?_getD, get_map_range hj]
 rfl
theorem red_next {m k : Nat} {M : Fm.Mat} {i : Nat} (hk : k < m) (hi : i + 1 < m - k) (h : ∀ t, t < k + 1 -> 0 < dt (t + 1) M) :
  red ((List.range (m - k)).map fun j => bm k M 0 j) ((List.range (m - k)).map fun j => bm k M (i + 1) j) (dt k M) = (List.range (m - (k + 1))).map fun j => bm (k + 1) M i j:=by
 unfold red
 rw [List.length_map, List.length_range, Nat.sub_sub]
 refine List.map_congr_left fun j hj => ?_
 have hj:=List.mem_range.mp hj
 rw [row_at (by omega), row_at (by omega), row_at (by omega), row_at (by omega)]
 exact Fm.next_num h
theorem scTop : FnScope ["rows", "tops", "divisor", "top", "row"] ["rows"] (defScope sTop):=⟨rfl, rfl, rfl, by decide +kernel, rfl, by decide +kernel, by decide +kernel⟩
def TopW (F H : Hp) (m : Nat) (M : Fm.Mat) (q : Addr) (c : Nat) (σ : L2.St) (H' : Hp) : Prop :=
 ∃ (k : Nat) (v : V) (vt vr : Option V) (F' : Hp) (us : List V), c = m - k /\ k <= m /\ σ = [some v, some (.ref q), some (.int (dt k M)), vt, vr] /\ (∀ t, t < k -> 0 < dt (t + 1) M) /\ IsRows F' v (bmR m k M) /\ Acc IsRow F H q (topsL m M k) F' H' us
theorem topsL_succ (m : Nat) (M : Fm.Mat) (k : Nat) : topsL m M k ++ [(List.range (m - k)).map fun j => bm k M 0 j] = topsL m M (k + 1):=by
 unfold topsL
 rw [List.range_succ, List.map_append]
 rfl
theorem mat_len (m : Nat) (M : Fm.Mat) : (mat m M).length = m:=by unfold mat; simp
theorem ok_top {f fR : Addr} {fd fdR : FuncData} (F : Fun K "top_rows" "top_rows" sTop f fd) (hrng : mg "range" = none) (hlen : mg "len" = none)
  (FR : Fun K "reduced_row" "reduced_row" sRed fR fdR) (bR : Binds K fdR ["top", "row", "divisor"] []) (mR : mg "reduced_row" = some (.ref fR)) : FnOk P w K mg base CX0 2 f fd ["rows"] spTop:=by
 have GR : FnOk P w K mg base CX0 1 fR fdR ["top", "row", "divisor"] spRed:=ok_red FR hrng hlen
 refine F.ok scTop (fun vs H Q E h => ?_) (fun cdv A outer s H vs Q E hr h => ?_)
 ·obtain ⟨v, m, M, F, rfl, _⟩:=h
  rfl
 ·obtain ⟨v, m, M, F, rfl, s0, hv, h1, h8, tame, k⟩:=h
  have nd:=scTop.nd
  refine ⟨_, pss_cons (ps_set (i:=1) nd rfl (Or.inl rfl) (pe_lst pa_nil))
   (pss_cons (ps_set (i:=2) nd rfl (Or.inr rfl) pe_int)
   (pss_cons (ps_while PassesOwn.never (pt_truth (pv 0) (fun _ => rfl))
    (pss_cons (ps_set (i:=3) nd rfl (Or.inr rfl) (pe_ix ix_list (pv 0) pe_int (fun _ _ => rfl)))
    (pss_cons (ps_expr (pe_bm PySem.F.plainAttrs_list PySem.F.slot_list_append PySem.F.type_list_append mt_append (pv 1) (pa_cons (pv 3) pa_nil)))
    (pss_cons (ps_if (pt_cmpR op_le (pe_ix ix_list (pv 3) pe_int (fun _ _ => rfl)) pe_int (nomark _)) (pss_one (ps_ret (pv 1))) pss_nil)
    (pss_cons (ps_setLc (i:=0) rfl nd rfl rfl (sw_true rfl rfl rfl rfl) (pi_list (pe_slice sl_list (pv 0) (po_some pe_int) po_none)) (blkOk_by (own:=[("row", 4)]) (by kernel_rfl)) (fun _ _ _ _ _ => pg_name (i:=4) nd rfl (Or.inl rfl)) (fun _ _ _ _ _ => pts_nil)
     (fun _ _ _ _ _ => pe_call GR hr rfl mR FR.kp bR .nil pass0 (pa_cons (pv 3) (pa_cons (pv 4) (pa_cons (pv 2) pa_nil)))))
    (pss_one (ps_set (i:=2) nd rfl (Or.inr rfl) (pe_ix ix_list (pv 3) pe_int (fun _ _ => rfl)))))))))
   (pss_one (ps_ret (pv 1))))), ?_⟩
  refine ⟨Nat.zero_le _, fun q hq => ?_⟩
  have mz : mat m M = bmR m 0 M:=by
   unfold bmR
   rw [Nat.sub_zero]
   unfold mat
   exact List.map_congr_left fun i _ => List.map_congr_left fun j _ => (Fm.bm_zero M i j).symm
  rw [mz] at hv
  refine ⟨TopW F H m M q, ⟨m, 0, v, none, none, F, [], by omega, Nat.zero_le _, rfl, fun t ht => by omega, hv, Acc.start (Ext.refl s0) hq⟩, ?_⟩
  intro c σ H2 hI
  obtain ⟨j, v, vt, vr, F2, us, rfl, hj, rfl, hpos, ⟨p, xs, rfl, hp, rel⟩, acc⟩:=hI
  have lenX : xs.length = m - j:=by rw [Paired.length rel]; exact mat_len _ _
  refine ⟨_, rfl, _, .inl ⟨_, row_seq hp acc.same, rfl⟩, ?_⟩
  by_cases hjm : j = m
  ·
   have e0 : xs = []:=List.eq_nil_of_length_eq_zero (by omega)
   subst e0
   refine iteF ?_
   obtain ⟨e, h, _⟩:=acc.done mono_row
   obtain ⟨j', rfl⟩ : ∃ j', j = j' + 1:=⟨j - 1, by omega⟩
   exact ⟨_, rfl, k _ H2 _ j' e h (by omega) (fun t ht => hpos t (by omega)) (.inl hjm)⟩
  ·have hlt : j < m:=by omega
   obtain ⟨x0, xs', rfl⟩ : ∃ x0 xs', xs = x0 :: xs':=by
    cases xs with
    | nil => simp at lenX; omega
    | cons x y => exact ⟨x, y, rfl⟩
   refine iteT ?_
   refine ⟨TopW F H m M q (m - (j + 1)), fun σ' H' z => ⟨m - (j + 1), by omega, z⟩, ?_⟩
   obtain ⟨r0, hr0, ⟨t0, rfl, ht0⟩⟩:=pget rel (i:=0) (v:=x0) rfl
   have hr0' : r0 = (List.range (m - j)).map fun c => bm j M 0 c:=by
    have z:=mat_row (M:=bm j M) (show 0 < m - j by omega)
    exact Option.some.inj (hr0.symm.trans z)
   subst hr0'
   have len0 : ((List.range (m - j)).map fun c => bm j M 0 c).length = m - j:=by simp
   have hcorner : ((List.range (m - j)).map fun c => bm j M 0 c).getD 0 0 = dt (j + 1) M:=by rw [row_at (by omega), Fm.bm_lead]
   refine ⟨_, rfl, p, _, 0, _, rfl, rfl, row_seq hp acc.same, at_of (j:=0) rfl rfl, ?_⟩
   refine ⟨_, rfl, .inl ⟨rfl, _, SqL.of acc.at_⟩, _, rfl, q, _, _, rfl, rfl, acc.at_, ?_, ?_⟩
   ·rw [acc.len]; exact small1000 (by simp [topsL]; omega)
   obtain ⟨_, acc2⟩:=acc.step mono_row (Ext.refl acc.same) (y:=.ref t0) ⟨t0, rfl, ht0⟩
   rw [topsL_succ] at acc2
   generalize upd H2 q (.lst (us ++ [.ref t0])) = H3 at acc2
   generalize us ++ [V.ref t0] = us3 at acc2
   refine ⟨_, rfl, t0, _, 0, _, rfl, rfl, row_seq ht0 acc2.same, at_of (j:=0) rfl (getV (by omega)), ?_⟩
   rw [hcorner]
   refine ⟨_, 0, rfl, rfl, _, rfl, ite2 (fun hc => ?_) (fun hc => ?_)⟩
   ·have hc : dt (j + 1) M <= 0:=of_decide_eq_true hc
    obtain ⟨e, h, _⟩:=acc2.done mono_row
    exact ⟨_, rfl, k _ H3 _ j e h hlt (fun t ht => hpos t ht) (.inr hc)⟩
   have hc : 0 < dt (j + 1) M:=by
    have : ¬ dt (j + 1) M <= 0:=fun z => hc (decide_eq_true z)
    omega
   have hpos' : ∀ t, t < j + 1 -> 0 < dt (t + 1) M:=fun t ht => by
    by_cases e : t = j
    ·subst e; exact hc
    ·exact hpos t (by omega)
   refine ⟨_, rfl, _, rfl, p, _, rfl, row_seq hp acc2.same, fun p2 hp2 => ?_⟩
   have ec : cutV (V.ref t0 :: xs') (some 1) none = xs':=cut_from (V.ref t0 :: xs') 1
   rw [ec]
   have e5 : Ext F2 H3 (upd F2 p2 (.lst xs')) (upd H3 p2 (.lst xs')):=(Ext.refl acc2.same).put hp2
   have f5 : (upd F2 p2 (.lst xs')) p2 = some (.lst xs'):=upd_same
   have acc5:=acc2.pass mono_row e5
   have ht5:=e5.ff _ _ ht0
   have rel5 : Paired (IsRow (upd F2 p2 (.lst xs'))) xs' ((bmR m j M).drop 1):=pdrop 1 (Paired.up mono_row e5.ff rel)
   generalize upd F2 p2 (.lst xs') = F5 at e5 f5 acc5 ht5 rel5
   generalize upd H3 p2 (.lst xs') = H5 at e5 acc5
   refine ⟨p2, rfl, ⟨_, row_seq f5 acc5.same⟩, fun D hD => ?_⟩
   have lenA : xs'.length = m - (j + 1):=by
    simp at lenX
    omega
   refine lc_list (K:=K) (a:=p2) (xs:=xs') (AccP IsRow F5 H5 D (bmR m (j + 1) M)) (Acc.p0 (Ext.refl acc5.same) hD) (fun i H' _ ⟨F6, us6, a6⟩ => row_seq (a6.ext.ff _ _ f5) a6.same) ?_ ?_
   ·intro i x H' hx hI
    obtain ⟨F6, us6, a6⟩:=hI
    have hi : i < m - (j + 1):=by
     have:=(List.getElem?_eq_some_iff.mp hx).1
     omega
    obtain ⟨r, hr1, hrow⟩:=pget rel5 hx
    have er : r = (List.range (m - j)).map fun c => bm j M (i + 1) c:=by
     rw [List.getElem?_drop, Nat.add_comm 1 i] at hr1
     exact Option.some.inj (hr1.symm.trans (mat_row (by omega)))
    subst er
    refine ⟨rfl, ?_⟩
    refine ⟨_, rfl, _, rfl, _, rfl, .ref t0, x, _, _, _, F6, rfl, a6.same, ⟨t0, rfl, a6.ext.ff _ _ ht5⟩, mono_row.up a6.ext.ff hrow, ?_, ?_, ?_, ?_, ?_, ?_, fun F7 H7 v7 e7 h7 => ?_⟩
    ·simp
    ·simp; omega
    ·simp; omega
    ·intro x hx
     obtain ⟨c, hc1, rfl⟩:=List.mem_map.mp hx
     exact tame j hlt hpos c (by have:=List.mem_range.mp hc1; omega)
    ·exact Fm.lead_pos hpos
    ·cases j with
     | zero => show (1 : Int) < 2 ^ 64; decide
     | succ j =>
      have:=tame j (by omega) (fun t ht => hpos t (by omega)) 0 (by omega)
      rw [Fm.bm_lead] at this
      omega
    ·rw [red_next hlt (by omega) hpos'] at h7
     exact a6.next mono_row (mat_row hi) (by rw [show bmR m (j + 1) M = mat _ _ from rfl, mat_len]; omega) e7 h7
   ·rintro H6 a6
    obtain ⟨F7, e7, h7⟩:=a6.done mono_row (by rw [lenA]; exact (mat_len _ _).symm)
    have acc7:=acc5.pass mono_row e7
    have ht7:=e7.ff _ _ ht5
    refine ⟨_, rfl, t0, _, 0, _, rfl, rfl, row_seq ht7 acc7.same, at_of (j:=0) rfl (getV (by omega)), ?_⟩
    rw [hcorner]
    exact ⟨j + 1, _, _, _, F7, us3, rfl, hlt, rfl, hpos', h7, acc7⟩
end
end Pr
namespace Pr
open PySem PySem.Spec PyProof.Rows L2
open Fm (gm dt bm small)
abbrev sSize : Stmt:=top 33
abbrev sForm : Stmt:=top 34
abbrev sBounds : Stmt:=top 35
abbrev sMirror : Stmt:=top 36
abbrev sAbove : Stmt:=top 37
abbrev sCorner : Stmt:=top 38
def spSize : Sp:=fun vs H Q _ => ∃ n : Int, vs = [.int n] /\ Q (.bl (decide (1 <= n /\ n <= 4))) H
def spBounds (K : PySem.W.Frag) : Sp:=fun vs H Q _ => ∃ (a : Addr) (ns : List Int), vs = [.ref a] /\ SqL K H a (ns.map V.int) /\ 0 < ns.length /\ Q (.bl (small ns)) H
def spMirror (K : PySem.W.Frag) : Sp:=fun vs H Q _ => ∃ (n : Nat) (a : Addr) (ns : List Int), vs = [.int n, .ref a] /\ SqL K H a (ns.map V.int) /\ n <= 8 /\ ns.length = n * n /\ Q (.bl (Ql78.symmetric n (Ql78.rows n ns))) H
def spCorner (K : PySem.W.Frag) : Sp:=fun vs H Q _ => ∃ (n : Nat) (a : Addr) (ns : List Int), vs = [.int n, .ref a] /\ SqL K H a (ns.map V.int) /\ 1 <= n /\ n <= 8 /\ ns.length = n * n /\ small ns = true /\
 ∀ (H' : Hp) (x : Int), Same H H' -> (0 < x ↔ ∀ t, t < n -> 0 < dt (t + 1) (gm n ns)) -> (0 < x -> x = dt n (gm n ns)) -> Q (.int x) H'
def spAbove (K : PySem.W.Frag) : Sp:=fun vs H Q _ => ∃ (n : Nat) (a : Addr) (ns : List Int), vs = [.int n, .ref a] /\ SqL K H a (ns.map V.int) /\ 1 <= n /\ n <= 8 /\ ns.length = n * n /\ small ns = true /\
 ∀ H' : Hp, Same H H' -> Q (.bl (Ql78.positive n (Ql78.rows n ns))) H'
def spForm (K : PySem.W.Frag) : Sp:=fun vs H Q _ => ∃ (n : Nat) (a : Addr) (ns : List Int), vs = [.int n, .ref a] /\ SqL K H a (ns.map V.int) /\ 1 <= n /\ n <= 8 /\ ns.length = n * n /\
 ∀ H' : Hp, Same H H' -> Q (.bl (Ql78.form n ns)) H'
section
variable {P : Program} {w : World} {K : PySem.W.Frag} {mg : Str -> Option Value} {base : Heap}
theorem scSize : FnScope ["n"] ["n"] (defScope sSize):=⟨rfl, rfl, rfl, by decide +kernel, rfl, by decide +kernel, by decide +kernel⟩
theorem ok_size {f : Addr} {fd : FuncData} (F : Fun K "is_size_changed" "is_size_changed" sSize f fd) (hmost : ∃ t, mg "MOST_UNKNOWNS_CHANGED" = some (.int 4 t)) : FnOk P w K mg base CX0 1 f fd ["n"] spSize:=by
 obtain ⟨t, ht⟩:=hmost
 refine F.ok scSize (fun vs H Q E h => ?_) (fun cdv A outer s H vs Q E hr h => ?_)
 ·obtain ⟨n, rfl, _⟩:=h
  rfl
 ·obtain ⟨n, rfl, k⟩:=h
  refine ⟨_, pss_one (ps_ret (pe_chain op_le op_le pe_int (pv 0) (pe_glob (v:=.int 4) rfl ht ⟨t, rfl⟩))), ?_⟩
  refine ⟨_, rfl, 1, n, rfl, rfl, _, rfl, ite2 (fun h1 => ⟨n, 4, rfl, rfl, ?_⟩) (fun h1 => ?_)⟩
  ·have h1 : 1 <= n:=of_decide_eq_true h1
   have e : decide (1 <= n /\ n <= 4) = decide (n <= 4):=by simp [h1]
   rw [e] at k
   exact k
  ·have h1 : ¬ 1 <= n:=fun z => h1 (decide_eq_true z)
   have e : decide (1 <= n /\ n <= 4) = false:=by simp [h1]
   rw [e] at k
   exact k
theorem scBounds : FnScope ["a"] ["a"] (defScope sBounds):=⟨rfl, rfl, rfl, by decide +kernel, rfl, by decide +kernel, by decide +kernel⟩
theorem ok_bounds {f : Addr} {fd : FuncData} (F : Fun K "is_in_bounds" "is_in_bounds" sBounds f fd) (hgreat : ∃ t, mg "GREATEST_NUMBER" = some (.int 32 t)) (hmin : mg "min" = none) (hmax : mg "max" = none) : FnOk P w K mg base CX0 1 f fd ["a"] (spBounds K):=by
 obtain ⟨t, ht⟩:=hgreat
 refine F.ok scBounds (fun vs H Q E h => ?_) (fun cdv A outer s H vs Q E hr h => ?_)
 ·obtain ⟨a, ns, rfl, _⟩:=h
  rfl
 ·obtain ⟨a, ns, rfl, hs, hne, k⟩:=h
  refine ⟨_, pss_one (ps_ret (pe_and (pe_cmpR op_ge (pe_callB (cr_min rfl) rfl hmin PyProof.Rows.boot_min (pa_cons (pv 0) pa_nil)) (pe_un un_neg (pe_glob (v:=.int 32) rfl ht ⟨t, rfl⟩)) (nomark _))
   (pe_one (pe_cmpR op_le (pe_callB (cr_max rfl) rfl hmax PyProof.Rows.boot_max (pa_cons (pv 0) pa_nil)) (pe_glob (v:=.int 32) rfl ht ⟨t, rfl⟩) (nomark _))))), ?_⟩
  refine ⟨_, rfl, a, ns, rfl, hs, hne, fun m hm hmn => ⟨32, rfl, m, -32, rfl, rfl, _, rfl, ite2 (fun h1 => ?_) (fun h1 => ?_)⟩⟩
  ·have h1 : -32 <= m:=of_decide_eq_true h1
   refine ⟨_, rfl, a, ns, rfl, hs, hne, fun g hg hmx => ⟨g, 32, rfl, rfl, ?_⟩⟩
   have e : small ns = decide (g <= 32):=by
    rw [Bool.eq_iff_iff]
    simp only [small, List.all_eq_true, decide_eq_true_eq]
    constructor
    ·intro z
     have:=z g hg
     omega
    ·intro z x hx
     have h2:=hmn x hx
     have h3:=hmx x hx
     omega
   rw [e] at k
   exact k
  ·have h1 : ¬ -32 <= m:=fun z => h1 (decide_eq_true z)
   have e : small ns = false:=by
    rw [Bool.eq_false_iff]
    intro z
    simp only [small, List.all_eq_true, decide_eq_true_eq] at z
    have:=z m hm
    omega
   rw [e] at k
   exact k
theorem scMirror : FnScope ["n", "a", "i", "j"] ["n", "a"] (defScope sMirror):=⟨rfl, rfl, rfl, by decide +kernel, rfl, by decide +kernel, by decide +kernel⟩
theorem ok_mirror {f : Addr} {fd : FuncData} (F : Fun K "is_mirrored" "is_mirrored" sMirror f fd) (hrng : mg "range" = none) : FnOk P w K mg base CX0 1 f fd ["n", "a"] (spMirror K):=by
 refine F.ok scMirror (fun vs H Q E h => ?_) (fun cdv A outer s H vs Q E hr h => ?_)
 ·obtain ⟨n, a, ns, rfl, _⟩:=h
  rfl
 ·obtain ⟨n, a, ns, rfl, hs, hn, hl, k⟩:=h
  have nd:=scMirror.nd
  refine ⟨_, pss_cons (ps_for PassesOwn.never rfl (pi_range1 rfl hrng (pa_cons (pv 0) pa_nil)) (pg_name (i:=2) nd rfl (Or.inl rfl))
    (pss_one (ps_for PassesOwn.never rfl (pi_range1 rfl hrng (pa_cons (pv 2) pa_nil)) (pg_name (i:=3) nd rfl (Or.inl rfl))
     (pss_one (ps_if (pt_cmpR op_ne (pe_ix ix_list (pv 1) (pe_op op_add (pe_op op_mul (pv 2) (pv 0)) (pv 3)) (fun _ _ => rfl))
      (pe_ix ix_list (pv 1) (pe_op op_add (pe_op op_mul (pv 3) (pv 0)) (pv 2)) (fun _ _ => rfl)) (nomark _)) (pss_one (ps_ret pe_bl)) pss_nil)))))
   (pss_one (ps_ret pe_bl)), ?_⟩
  refine ⟨_, rfl, (n : Int), rfl, by omega, by omega, ?_⟩
  rw [Int.toNat_natCast]
  refine for_range (lo:=0) (n:=n) (fun i σ H' => ∃ vi vj, σ = [some (.int n), some (.ref a), vi, vj] /\ H' = H /\ ∀ i' j', i' < i -> j' < i' -> gm n ns i' j' = gm n ns j' i') ⟨none, none, rfl, rfl, fun i' j' h => by omega⟩ ?_ ?_
  ·intro i σ H' hi hI
   obtain ⟨vi, vj, rfl, rfl, hyp⟩:=hI
   refine ⟨_, rfl, (0 + (i : Int)), rfl, by omega, by omega, ?_⟩
   rw [Int.zero_add, Int.toNat_natCast]
   refine for_range (lo:=0) (n:=i) (fun j σ H'' => ∃ vj, σ = [some (.int n), some (.ref a), some (.int i), vj] /\ H'' = H' /\ ∀ j', j' < j -> gm n ns i j' = gm n ns j' i) ⟨vj, by simp, rfl, fun j' h => by omega⟩ ?_ ?_
   ·intro j σ H'' hj hI
    obtain ⟨vj, rfl, rfl, hyp2⟩:=hI
    have b1:=Fm.ix_lt (n:=n) (i:=i) (j:=j) hi (by omega)
    have b2:=Fm.ix_lt (n:=n) (i:=j) (j:=i) (by omega) hi
    refine ⟨_, rfl, _, rfl, _, rfl, (i : Int), (n : Int), rfl, rfl, .inl ⟨by omega, by omega⟩, _, rfl, _, _, rfl, rfl, a, _, _, _, rfl, rfl, hs, at_of (j:=n * i + j) ?_ (getV (by rw [hl]; exact b1)), ?_⟩
    ·rw [Int.zero_add, Int.natCast_add, Int.natCast_mul, Int.mul_comm]
    refine ⟨_, rfl, _, rfl, _, rfl, (0 + (j : Int)), (n : Int), rfl, rfl, .inl ⟨by omega, by omega⟩, _, rfl, _, _, rfl, rfl, a, _, _, _, rfl, rfl, hs, at_of (j:=n * j + i) ?_ (getV (by rw [hl]; exact b2)), rfl, _, rfl, ?_⟩
    ·rw [Int.zero_add, Int.natCast_add, Int.natCast_mul, Int.mul_comm]
    refine ite2 (fun hne => ?_) (fun heq => ?_)
    ·
     have hne : ¬ gm n ns i j = gm n ns j i:=fun z => by
      have z' : ns.getD (n * i + j) 0 = ns.getD (n * j + i) 0:=z
      rw [z'] at hne
      simp at hne
     have e : Ql78.symmetric n (Ql78.rows n ns) = false:=by
      rw [Bool.eq_false_iff]
      intro z
      exact hne ((Fm.symmetric_iff n ns).mp z i j hi hj)
     rw [e] at k
     exact k
    ·have heq : gm n ns i j = gm n ns j i:=by
      have : decide (V.int (ns.getD (n * i + j) 0) = V.int (ns.getD (n * j + i) 0)) = true:=by
       cases q : decide (V.int (ns.getD (n * i + j) 0) = V.int (ns.getD (n * j + i) 0)) with
       | true => rfl
       | false => rw [q] at heq; exact absurd rfl heq
      have:=of_decide_eq_true this
      injection this
     refine ⟨_, rfl, rfl, fun j' hj' => ?_⟩
     by_cases e : j' = j
     ·subst e; exact heq
     ·exact hyp2 j' (by omega)
   ·intro σ H'' hI
    obtain ⟨vj, rfl, rfl, hyp2⟩:=hI
    refine ⟨_, _, rfl, rfl, fun i' j' h1 h2 => ?_⟩
    by_cases e : i' = i
    ·subst e; exact hyp2 j' h2
    ·exact hyp i' j' (by omega) h2
  ·intro σ H' hI
   obtain ⟨vi, vj, rfl, rfl, hyp⟩:=hI
   have e : Ql78.symmetric n (Ql78.rows n ns) = true:=(Fm.symmetric_iff n ns).mpr hyp
   rw [e] at k
   exact k
theorem tame_small {n : Nat} {ns : List Int} (h8 : n <= 8) (h : small ns = true) : Tame n (gm n ns):=fun k hk _ j hj => Fm.bm_small h8 (fun i j _ _ => Fm.small_mt h i j) (by omega) hj
theorem scCorner : FnScope ["n", "a"] ["n", "a"] (defScope sCorner):=⟨rfl, rfl, rfl, by decide +kernel, rfl, by decide +kernel, by decide +kernel⟩
theorem ok_corner {f fS fT : Addr} {fd fdS fdT : FuncData} (F : Fun K "last_corner" "last_corner" sCorner f fd)
  (GS : FnOk P w K mg base CX0 1 fS fdS ["n", "a"] (spSplit K)) (kS : PySem.W.keepIn K (.ref fS) = true) (bS : Binds K fdS ["n", "a"] []) (mS : mg "split_rows" = some (.ref fS))
  (GT : FnOk P w K mg base CX0 2 fT fdT ["rows"] spTop) (kT : PySem.W.keepIn K (.ref fT) = true) (bT : Binds K fdT ["rows"] []) (mT : mg "top_rows" = some (.ref fT)) : FnOk P w K mg base CX0 3 f fd ["n", "a"] (spCorner K):=by
 refine F.ok scCorner (fun vs H Q E h => ?_) (fun cdv A outer s H vs Q E hr h => ?_)
 ·obtain ⟨n, a, ns, rfl, _⟩:=h
  rfl
 ·obtain ⟨n, a, ns, rfl, hs, h1, h8, hl, hsm, k⟩:=h
  have hr1 : Room 1 _:=hr.mono (by decide)
  refine ⟨_, pss_one (ps_ret (pe_ix ix_list (pe_ix ix_list (pe_call GT hr rfl mT kT bT .nil pass0 (pa_cons (pe_call GS hr1 rfl mS kS bS .nil pass0 (pa_cons (pv 0) (pa_cons (pv 1) pa_nil))) pa_nil)) (pe_un un_neg pe_int) (fun _ _ => rfl)) pe_int (fun _ _ => rfl))), ?_⟩
  refine ⟨_, rfl, _, rfl, n, a, ns, H, rfl, hs, h8, hl, .refl H, fun F1 H1 v1 e1 hv1 => ?_⟩
  refine ⟨v1, n, gm n ns, F1, rfl, e1.inn, hv1, h1, h8, tame_small h8 hsm, fun F2 H2 v2 j e2 hv2 hj hpos hend => ?_⟩
  obtain ⟨p, xs, rfl, hp, rel⟩:=hv2
  have hrow : (topsL n (gm n ns) (j + 1))[j]? = some ((List.range (n - j)).map fun c => bm j (gm n ns) 0 c):=get_map_range (by omega)
  obtain ⟨x, hx, ⟨t, rfl, ht⟩⟩:=pget' rel hrow
  have hlen : xs.length = j + 1:=by rw [Paired.length rel]; simp [topsL]
  refine ⟨1, rfl, p, _, _, _, rfl, rfl, row_seq hp e2.inn, atI_end hlen hx, t, _, 0, _, rfl, rfl, row_seq ht e2.inn, at_of (j:=0) rfl (getV (by simp; omega)), ?_⟩
  rw [row_at (by omega), Fm.bm_lead]
  refine k H2 _ (e1.hh.trans e2.hh) ⟨fun h t ht => ?_, fun h => h j hj⟩ fun h => ?_
  ·rcases hend with q | q
   ·by_cases z : t = j
    ·rw [z]; exact h
    ·exact hpos t (by omega)
   ·omega
  ·rcases hend with q | q
   ·rw [q]
   ·omega
theorem scAbove : FnScope ["n", "a"] ["n", "a"] (defScope sAbove):=⟨rfl, rfl, rfl, by decide +kernel, rfl, by decide +kernel, by decide +kernel⟩
theorem ok_above {f fL : Addr} {fd fdL : FuncData} (F : Fun K "is_above_zero" "is_above_zero" sAbove f fd)
  (GL : FnOk P w K mg base CX0 3 fL fdL ["n", "a"] (spCorner K)) (kL : PySem.W.keepIn K (.ref fL) = true) (bL : Binds K fdL ["n", "a"] []) (mL : mg "last_corner" = some (.ref fL)) : FnOk P w K mg base CX0 4 f fd ["n", "a"] (spAbove K):=by
 refine F.ok scAbove (fun vs H Q E h => ?_) (fun cdv A outer s H vs Q E hr h => ?_)
 ·obtain ⟨n, a, ns, rfl, _⟩:=h
  rfl
 ·obtain ⟨n, a, ns, rfl, hs, h1, h8, hl, hsm, k⟩:=h
  refine ⟨_, pss_one (ps_ret (pe_cmpR op_gt (pe_call GL hr rfl mL kL bL .nil pass0 (pa_cons (pv 0) (pa_cons (pv 1) pa_nil))) pe_int (nomark _))), ?_⟩
  refine ⟨_, rfl, _, rfl, n, a, ns, rfl, hs, h1, h8, hl, hsm, fun H1 x s1 hx _ => ⟨x, 0, rfl, rfl, ?_⟩⟩
  have e : Ql78.positive n (Ql78.rows n ns) = decide (0 < x):=by
   rw [Bool.eq_iff_iff, Fm.positive_iff, decide_eq_true_eq]
   exact hx.symm
  have z:=k H1 s1
  rw [e] at z
  exact z
theorem scForm : FnScope ["n", "a"] ["n", "a"] (defScope sForm):=⟨rfl, rfl, rfl, by decide +kernel, rfl, by decide +kernel, by decide +kernel⟩
theorem ok_form {f fB fM fA : Addr} {fd fdB fdM fdA : FuncData} (F : Fun K "is_form" "is_form" sForm f fd)
  (GB : FnOk P w K mg base CX0 1 fB fdB ["a"] (spBounds K)) (kB : PySem.W.keepIn K (.ref fB) = true) (bB : Binds K fdB ["a"] []) (mB : mg "is_in_bounds" = some (.ref fB))
  (GM : FnOk P w K mg base CX0 1 fM fdM ["n", "a"] (spMirror K)) (kM : PySem.W.keepIn K (.ref fM) = true) (bM : Binds K fdM ["n", "a"] []) (mM : mg "is_mirrored" = some (.ref fM))
  (GA : FnOk P w K mg base CX0 4 fA fdA ["n", "a"] (spAbove K)) (kA : PySem.W.keepIn K (.ref fA) = true) (bA : Binds K fdA ["n", "a"] []) (mA : mg "is_above_zero" = some (.ref fA)) : FnOk P w K mg base CX0 5 f fd ["n", "a"] (spForm K):=by
 refine F.ok scForm (fun vs H Q E h => ?_) (fun cdv A outer s H vs Q E hr h => ?_)
 ·obtain ⟨n, a, ns, rfl, _⟩:=h
  rfl
 ·obtain ⟨n, a, ns, rfl, hs, h1, h8, hl, k⟩:=h
  have hr1 : Room 1 _:=hr.mono (by decide)
  have hpos : 0 < ns.length:=by
   rw [hl]
   exact Nat.mul_pos h1 h1
  rw [Fm.form_eq] at k
  refine ⟨_, pss_one (ps_ret (pe_and (pe_call GB hr1 rfl mB kB bB .nil pass0 (pa_cons (pv 1) pa_nil)) (pe_and (pe_call GM hr1 rfl mM kM bM .nil pass0 (pa_cons (pv 0) (pa_cons (pv 1) pa_nil)))
   (pe_one (pe_call GA hr rfl mA kA bA .nil pass0 (pa_cons (pv 0) (pa_cons (pv 1) pa_nil))))))), ?_⟩
  refine ⟨_, rfl, a, ns, rfl, hs, hpos, _, rfl, ite2 (fun h2 => ?_) (fun h2 => ?_)⟩
  ·rw [h2, Bool.true_and] at k
   refine ⟨_, rfl, _, rfl, n, a, ns, rfl, hs, h8, hl, _, rfl, ite2 (fun h3 => ?_) (fun h3 => ?_)⟩
   ·rw [h3, Bool.true_and] at k
    exact ⟨_, rfl, _, rfl, n, a, ns, rfl, hs, h1, h8, hl, h2, k⟩
   ·rw [Bool.eq_false_iff.mpr h3, Bool.false_and] at k
    exact k H (Same.refl H)
  ·rw [Bool.eq_false_iff.mpr h2, Bool.false_and] at k
   exact k H (Same.refl H)
end
end Pr
namespace Pr
open PySem PySem.Spec PyProof.Rows L2
open Fm (gm dt bm small vec rt zl zs chs chL colL colsL ck mk Latt gr)
abbrev sEmpty : Stmt:=top 5
abbrev sGrowns : Stmt:=top 6
abbrev sGrow : Stmt:=top 7
abbrev sRoot : Stmt:=top 8
def spRoot : Sp:=fun vs H Q _ => ∃ N : Int, vs = [.int N] /\ 0 <= N /\ N < 2 ^ 100 /\ Q (.int (rt N)) H
section
variable {P : Program} {w : World} {K : PySem.W.Frag} {mg : Str -> Option Value} {base : Heap}
theorem scRoot : FnScope ["number", "root"] ["number"] (defScope sRoot):=⟨rfl, rfl, rfl, by decide +kernel, rfl, by decide +kernel, by decide +kernel⟩
theorem root_start {N : Int} (h : 0 <= N) : N < (1 * 2 ^ (((Builtin.Int.intBits N : Nat) : Int) + 1).toNat.div 2) * (1 * 2 ^ (((Builtin.Int.intBits N : Nat) : Int) + 1).toNat.div 2):=by
 have z:=bits_lt h
 generalize Builtin.Int.intBits N = b at *
 have e : (((b : Nat) : Int) + 1).toNat = b + 1:=by omega
 rw [e, Int.one_mul, <- Int.pow_add]
 have : (2 : Int) ^ b <= 2 ^ ((b + 1).div 2 + (b + 1).div 2):=by
  have l : b <= (b + 1).div 2 + (b + 1).div 2:=by
   have : (b + 1).div 2 = (b + 1) / 2:=rfl
   omega
  have q:=Nat.pow_le_pow_right (show 0 < 2 by decide) l
  have c : ∀ k : Nat, (2 : Int) ^ k = ((2 ^ k : Nat) : Int):=fun k => by rw [Int.natCast_pow]; rfl
  rw [c, c]
  exact Int.ofNat_le.mpr q
 omega
theorem newton {N r : Int} (hN : 0 <= N) (hr : 0 <= r) (h : N < r * r) : 0 < r /\ 0 <= (r + N / r) / 2 /\ (r + N / r) / 2 < r /\ N < ((r + N / r) / 2 + 1) * ((r + N / r) / 2 + 1):=by
 have r0 : 0 < r:=by
  rcases Int.lt_or_eq_of_le hr with q | q
  ·exact q
  ·subst q; omega
 have q0 : 0 <= N / r:=Int.ediv_nonneg hN hr
 have q1 : N / r < r:=Int.ediv_lt_of_lt_mul r0 h
 have q2 : N < r * (N / r + 1):=by
  have:=Int.lt_ediv_add_one_mul_self N r0
  rw [Int.mul_comm]
  exact this
 generalize N / r = q at *
 have a1 : 2 * ((r + q) / 2) <= r + q:=by omega
 have a2 : r + q <= 2 * ((r + q) / 2) + 1:=by omega
 refine ⟨r0, by omega, by omega, ?_⟩
 generalize (r + q) / 2 = t at *
 have s:=Fm.sq_nn (r - (q + 1))
 have e1 : (r - (q + 1)) * (r - (q + 1)) = (r + q + 1) * (r + q + 1) - 4 * (r * (q + 1)):=by grind
 have e2 : (r + q + 1) * (r + q + 1) <= (2 * (t + 1)) * (2 * (t + 1)):=Int.mul_le_mul (by omega) (by omega) (by omega) (by omega)
 have e3 : (2 * (t + 1)) * (2 * (t + 1)) = 4 * ((t + 1) * (t + 1)):=by grind
 omega
theorem ok_root {f : Addr} {fd : FuncData} (F : Fun K "whole_root" "whole_root" sRoot f fd) : FnOk P w K mg base CX0 1 f fd ["number"] spRoot:=by
 refine F.ok scRoot (fun vs H Q E h => ?_) (fun cdv A outer s H vs Q E hr h => ?_)
 ·obtain ⟨N, rfl, _⟩:=h
  rfl
 ·obtain ⟨N, rfl, h0, h1, k⟩:=h
  have nd:=scRoot.nd
  refine ⟨_, pss_cons (ps_set (i:=1) nd rfl (Or.inl rfl) (pe_op op_shl pe_int (pe_op op_fdivB (pe_op op_add (pe_bm0 PySem.F.plainAttrs_int PySem.F.slot_int_bit_length PySem.F.type_int_bit_length mt_bitlen (pv 0)) pe_int) pe_int)))
   (pss_cons (ps_while PassesOwn.never (pt_cmpR op_gt (pe_op op_mul (pv 1) (pv 1)) (pv 0) (nomark _))
    (pss_one (ps_set (i:=1) nd rfl (Or.inl rfl) (pe_op op_fdivB (pe_op op_add (pv 1) (pe_op op_fdivB (pv 0) (pv 1))) pe_int))))
   (pss_one (ps_ret (pv 1)))), ?_⟩
  have hb : Builtin.Int.intBits N <= 100:=bits_le (by omega)
  refine ⟨_, rfl, rfl, N, rfl, rfl, _, _, rfl, rfl, _, _, rfl, rfl, ⟨by decide, by decide⟩, _, _, rfl, rfl, ⟨by omega, by omega, by decide⟩, ?_⟩
  have hs:=root_start h0
  have e0 : (((Builtin.Int.intBits N : Nat) : Int) + 1).toNat.div 2 = ((((Builtin.Int.intBits N : Nat) : Int) + 1) / 2).toNat:=by
   show (((Builtin.Int.intBits N : Nat) : Int) + 1).toNat / 2 = _
   omega
  rw [e0] at hs
  have hle : (1 : Int) * 2 ^ ((((Builtin.Int.intBits N : Nat) : Int) + 1) / 2).toNat <= 2 ^ 51:=by
   rw [Int.one_mul]
   have l : ((((Builtin.Int.intBits N : Nat) : Int) + 1) / 2).toNat <= 51:=by omega
   have q:=Nat.pow_le_pow_right (show 0 < 2 by decide) l
   have c : ∀ k : Nat, (2 : Int) ^ k = ((2 ^ k : Nat) : Int):=fun k => by rw [Int.natCast_pow]; rfl
   rw [c, c]
   exact Int.ofNat_le.mpr q
  have hnn : (0 : Int) <= 1 * 2 ^ ((((Builtin.Int.intBits N : Nat) : Int) + 1) / 2).toNat:=by
   rw [Int.one_mul]
   exact Int.le_of_lt (Fm.pow_pos (by decide) _)
  refine ⟨fun c σ H' => ∃ r : Int, σ = [some (.int N), some (.int r)] /\ c = r.toNat /\ H' = H /\ 0 <= r /\ r <= 2 ^ 51 /\ N < (r + 1) * (r + 1), ⟨_, _, rfl, rfl, rfl, hnn, hle, ?_⟩, ?_⟩
  ·generalize (1 : Int) * 2 ^ ((((Builtin.Int.intBits N : Nat) : Int) + 1) / 2).toNat = r0 at *
   have : (r0 + 1) * (r0 + 1) = r0 * r0 + 2 * r0 + 1:=by grind
   omega
  ·intro c σ H' hI
   obtain ⟨r, rfl, rfl, rfl, hr0, hr1, hN⟩:=hI
   refine ⟨_, rfl, _, rfl, r, r, rfl, rfl, .inl ⟨by omega, by omega⟩, _, rfl, _, _, rfl, rfl, _, rfl, ite2 (fun hc => ?_) (fun hc => ?_)⟩
   ·have hc : N < r * r:=of_decide_eq_true hc
    obtain ⟨n1, n2, n3, n4⟩:=newton h0 hr0 hc
    refine ⟨fun σ' H'' => ∃ r' : Int, σ' = [some (.int N), some (.int r')] /\ r'.toNat < r.toNat /\ H'' = H' /\ 0 <= r' /\ r' <= 2 ^ 51 /\ N < (r' + 1) * (r' + 1), fun σ' H'' ⟨r', e1, e2, e3, e4, e5, e6⟩ => ⟨r'.toNat, e2, r', e1, rfl, e3, e4, e5, e6⟩, ?_⟩
    exact ⟨_, rfl, _, rfl, _, rfl, N, r, rfl, rfl, ⟨n1, by omega⟩, r, N / r, rfl, rfl, _, 2, rfl, rfl, ⟨by decide, by decide⟩, _, rfl, by omega, rfl, n2, by omega, n4⟩
   ·have hc : ¬ N < r * r:=fun z => hc (decide_eq_true z)
    refine ⟨_, rfl, ?_⟩
    have e : rt N = r:=Fm.rt_unique ⟨hr0, by omega, hN⟩
    rw [<- e]
    exact k
theorem scEmpty : FnScope ["n"] ["n"] (defScope sEmpty):=⟨rfl, rfl, rfl, by decide +kernel, rfl, by decide +kernel, by decide +kernel⟩
def spEmpty : Sp:=fun vs H Q _ => ∃ (n : Nat) (F : Hp), vs = [.int n] /\ n <= 8 /\ Same F H /\ ∀ (F' H' : Hp) (v : V), Ext F H F' H' -> IsCh F' v (0, vec (n + n) fun _ => 0) -> Q v H'
theorem rep_zero (n : Nat) : (List.replicate n [V.int 0]).flatten = (vec n fun _ => 0).map V.int:=by
 unfold vec
 rw [List.map_map]
 apply List.ext_getElem?
 intro i
 by_cases h : i < n
 ·rw [get_map_range h]
  rw [List.flatten_replicate_singleton, List.getElem?_replicate, if_pos h]
  rfl
 ·rw [List.flatten_replicate_singleton, List.getElem?_replicate, if_neg h, List.getElem?_eq_none (by simp; omega)]
theorem ok_empty {f : Addr} {fd : FuncData} (F : Fun K "empty_choice" "empty_choice" sEmpty f fd) : FnOk P w K mg base CX0 1 f fd ["n"] spEmpty:=by
 refine F.ok scEmpty (fun vs H Q E h => ?_) (fun cdv A outer s H vs Q E hr h => ?_)
 ·obtain ⟨n, F, rfl, _⟩:=h
  rfl
 ·obtain ⟨n, F, rfl, h8, s0, k⟩:=h
  refine ⟨_, pss_one (ps_ret (pe_tup (pa_cons pe_int (pa_cons (pe_op op_rep (pe_lst (pa_cons pe_int pa_nil)) (pe_op op_mul pe_int (pv 0))) pa_nil)))), ?_⟩
  refine ⟨(by show 1 <= sizeLine; decide), fun p hp => ?_⟩
  refine ⟨_, rfl, _, _, rfl, rfl, .inl ⟨by decide, by decide⟩, p, _, _, rfl, rfl, upd_same, by omega, by omega, ?_, fun q hq => ?_⟩
  ·show 1 * (2 * (n : Int)).toNat <= sizeLine
   rw [sizeLine_eq]; omega
  have e : (2 * (n : Int)).toNat = n + n:=by omega
  rw [e, rep_zero]
  refine ⟨(by show 2 <= sizeLine; decide), fun r hr2 => ?_⟩
  have e1 : Ext F H F (upd H p (.lst [V.int 0])):=(Ext.refl s0).loc hp (s0.free hp)
  have e2:=e1.put (o:=.lst ((vec (n + n) fun _ => 0).map V.int)) hq
  have e3:=e2.put (o:=.tup [.int 0, .ref q]) hr2
  refine k _ _ _ e3 ⟨r, _, _, rfl, upd_same, rfl, q, rfl, ?_⟩
  rw [upd_ne (fun z => by rw [z, upd_same] at hr2; cases hr2), upd_same]
theorem scGrow : FnScope ["choice", "column", "before", "most", "grown", "spent", "marks", "corner", "beside", "reach", "number", "side", "more", "x", "y"] ["choice", "column", "before", "most", "grown"] (defScope sGrow):=⟨rfl, rfl, rfl, by decide +kernel, rfl, by decide +kernel, by decide +kernel⟩
def grL (p : Nat) (S b m : Int) (f h : Nat -> Int) : List (Int × List Int):=(zl (h p) (rt (b * (h p * m - S))) (f p)).map fun z => (((h p * z + f p) * (h p * z + f p) + b * S) / h p, vec p fun i => f i + z * h i)
def spGrow : Sp:=fun vs H Q _ => ∃ (vc vl : V) (g : Addr) (p : Nat) (S b m : Int) (f h : Nat -> Int) (F0 H0 F : Hp) (us : List V) (l : List (Int × List Int)), vs = [vc, vl, .int b, .int m, .ref g] /\
 IsCh F vc (S, vec (p + 1) f) /\ IsRow F vl (vec (p + 1) h) /\ Acc IsCh F0 H0 g l F H us /\ p <= 15 /\ 0 < h p /\ h p < 2 ^ 56 /\ 0 < b /\ b < 2 ^ 56 /\ 0 <= b * (h p * m - S) /\ b * (h p * m - S) < 2 ^ 100 /\ (f p).natAbs < 2 ^ 58 /\ (∀ i, i < p -> (h i).natAbs < 2 ^ 56) /\
 l.length + (grL p S b m f h).length < 16777216 /\ ∀ (F' H' : Hp) (us' : List V), Acc IsCh F0 H0 g (l ++ grL p S b m f h) F' H' us' -> Same F F' -> Q .non H'
theorem rt_bound {N : Int} (h0 : 0 <= N) (h1 : N < 2 ^ 100) : 0 <= rt N /\ rt N < 2 ^ 51:=by
 obtain ⟨a, b, c⟩:=Fm.rt_is h0
 refine ⟨a, ?_⟩
 rcases Fm.lt_or_ge (rt N) (2 ^ 51) with q | q
 ·exact q
 ·have:=Int.mul_le_mul q q (by decide) a
  have e : (2 : Int) ^ 51 * 2 ^ 51 = 2 ^ 102:=by decide
  omega
theorem vec_cut (p : Nat) (f : Nat -> Int) : cutV ((vec (p + 1) f).map V.int) none (some (-1)) = (vec p f).map V.int:=by
 unfold cutV
 have e : HT.sIx ((vec (p + 1) f).map V.int).length ((vec (p + 1) f).map V.int).length (some (-1)) = p:=by
  rw [List.length_map, Fm.vec_length]
  show (if (-1 : Int) < 0 then ((-1 : Int) + ((p + 1 : Nat) : Int)).toNat else min (-1 : Int).toNat (p + 1)) = p
  rw [if_pos (by decide)]
  omega
 rw [e, HT.sIx_none, List.drop_zero, Nat.sub_zero]
 unfold vec
 rw [<- List.map_take, <- List.map_take, List.take_range, Nat.min_eq_left (by omega)]
theorem vecV {p : Nat} {f : Nat -> Int} {i : Nat} (h : i < p) : ((vec p f).map V.int)[i]? = some (.int (f i)):=by
 rw [List.getElem?_map, Fm.vec_get h]
 rfl
theorem vec_i {p : Nat} {f : Nat -> Int} {i : Nat} {x : V} (h : ((vec p f).map V.int)[i]? = some x) : i < p /\ x = .int (f i):=by
 have hi : i < p:=by
  have:=(List.getElem?_eq_some_iff.mp h).1
  rw [List.length_map, Fm.vec_length] at this
  exact this
 rw [vecV hi] at h
 exact ⟨hi, (Option.some.inj h).symm⟩
theorem div_in {c x : Int} {B : Nat} (hc : 0 < c) (hx : x.natAbs < B) : (x / c).natAbs <= B:=by
 have h1 : x / c * c <= x:=Int.ediv_mul_le _ (by omega)
 have h2 : x < (x / c + 1) * c:=Int.lt_ediv_add_one_mul_self x hc
 generalize x / c = q at *
 rcases Fm.lt_or_ge q 0 with n | n
 ·have : (q + 1) * c <= (q + 1) * 1:=Int.mul_le_mul_of_nonpos_left (by omega) (by omega)
  omega
 ·have : q * 1 <= q * c:=Int.mul_le_mul_of_nonneg_left (by omega) n
  omega
theorem ok_grow {f fR : Addr} {fd fdR : FuncData} (F : Fun K "grow" "grow" sGrow f fd) (hrng : mg "range" = none) (hzip : mg "zip" = none)
  (GR : FnOk P w K mg base CX0 1 fR fdR ["number"] spRoot) (kR : PySem.W.keepIn K (.ref fR) = true) (bR : Binds K fdR ["number"] []) (mR : mg "whole_root" = some (.ref fR)) : FnOk P w K mg base CX0 2 f fd ["choice", "column", "before", "most", "grown"] spGrow:=by
 refine F.ok scGrow (fun vs H Q E h => ?_) (fun cdv A outer s H vs Q E hr h => ?_)
 ·obtain ⟨vc, vl, g, p, S, b, m, f, h, F0, H0, F, us, l, rfl, _⟩:=h
  rfl
 ·obtain ⟨vc, vl, g, p, S, b, m, f, h, F0, H0, F, us, l, rfl, ⟨ca, v1, v2, rfl, hca, (rfl : v1 = .int S), ma, rfl, hma⟩, ⟨la, rfl, hla⟩, acc, h15, c0, c1, b0, b1, n0, n1, f1, hs, hlen, k⟩:=h
  have nd:=scGrow.nd
  refine ⟨_, pss_cons (ps_set (i:=5) nd rfl (Or.inl rfl) (pe_ix ix_tup (pv 0) pe_int (fun _ _ => rfl)))
   (pss_cons (ps_set (i:=6) nd rfl (Or.inl rfl) (pe_ix ix_tup (pv 0) pe_int (fun _ _ => rfl)))
   (pss_cons (ps_set (i:=7) nd rfl (Or.inl rfl) (pe_ix ix_list (pv 1) (pe_un un_neg pe_int) (fun _ _ => rfl)))
   (pss_cons (ps_set (i:=8) nd rfl (Or.inl rfl) (pe_ix ix_list (pv 6) (pe_un un_neg pe_int) (fun _ _ => rfl)))
   (pss_cons (ps_set (i:=9) nd rfl (Or.inl rfl) (pe_call GR hr rfl mR kR bR .nil pass0 (pa_cons (pe_op op_mul (pv 2) (pe_op op_sub (pe_op op_mul (pv 7) (pv 3)) (pv 5))) pa_nil)))
   (pss_one (ps_for PassesOwn.never rfl (pi_range2 rfl hrng (pa_cons (pe_un un_neg (pe_op op_fdivB (pe_op op_add (pv 9) (pv 8)) (pv 7))) (pa_cons (pe_op op_add (pe_op op_fdivB (pe_op op_sub (pv 9) (pv 8)) (pv 7)) pe_int) pa_nil))) (pg_name (i:=10) nd rfl (Or.inr rfl))
    (pss_cons (ps_set (i:=11) nd rfl (Or.inl rfl) (pe_op op_add (pe_op op_mul (pv 7) (pv 10)) (pv 8)))
    (pss_cons (ps_setLc (i:=12) rfl nd rfl rfl (sw_true rfl rfl rfl rfl) (pi_zip rfl hzip (pa_cons (pe_slice sl_list (pv 6) po_none (po_some (pe_un un_neg pe_int))) (pa_cons (pv 1) pa_nil))) (blkOk_by (own:=[("x", 13), ("y", 14)]) (by kernel_rfl))
     (fun _ _ _ _ _ => pg_pair K (i:=13) (j:=14) rfl nd rfl rfl (Or.inl rfl) (Or.inl rfl)) (fun _ _ _ _ _ => pts_nil)
     (fun _ _ _ _ _ => pe_op op_add (pv 13) (pe_op op_mul (pv 10) (pv 14))))
    (pss_one (ps_expr (pe_bm PySem.F.plainAttrs_list PySem.F.slot_list_append PySem.F.type_list_append mt_append (pv 4) (pa_cons (pe_tup (pa_cons (pe_op op_fdivB (pe_op op_add (pe_op op_mul (pv 11) (pv 11)) (pe_op op_mul (pv 2) (pv 5))) (pv 7)) (pa_cons (pv 12) pa_nil))) pa_nil)))))))))))), ?_⟩
  have sFH:=acc.same
  refine ⟨_, rfl, ca, _, 0, _, rfl, rfl, SqT.of (sFH _ _ hca), at_of (j:=0) rfl rfl, ?_⟩
  refine ⟨_, rfl, ca, _, 1, _, rfl, rfl, SqT.of (sFH _ _ hca), at_of (j:=1) rfl rfl, ?_⟩
  refine ⟨_, rfl, 1, rfl, la, _, _, _, rfl, rfl, row_seq hla sFH, atI_end (k:=p) (by rw [List.length_map, Fm.vec_length]) (vecV (by omega)), ?_⟩
  refine ⟨_, rfl, 1, rfl, ma, _, _, _, rfl, rfl, row_seq hma sFH, atI_end (k:=p) (by rw [List.length_map, Fm.vec_length]) (vecV (by omega)), ?_⟩
  refine ⟨_, rfl, _, rfl, _, rfl, h p, m, rfl, rfl, .inl ⟨by omega, by omega⟩, _, rfl, _, _, rfl, rfl, _, _, rfl, rfl, .inl ⟨by omega, by omega⟩, b * (h p * m - S), rfl, n0, n1, ?_⟩
  obtain ⟨r0, r1⟩:=rt_bound n0 n1
  have hgr : grL p S b m f h = (zl (h p) (rt (b * (h p * m - S))) (f p)).map fun z => (((h p * z + f p) * (h p * z + f p) + b * S) / h p, vec p fun i => f i + z * h i):=rfl
  generalize hR : rt (b * (h p * m - S)) = r at r0 r1 hgr
  have d1:=div_in (x:=r + f p) (B:=2 ^ 59) c0 (by omega)
  have d2:=div_in (x:=r - f p) (B:=2 ^ 59) c0 (by omega)
  have elo : zl (h p) r (f p) = (List.range ((r - f p) / h p + (r + f p) / h p + 1).toNat).map fun (t : Nat) => -((r + f p) / h p) + (t : Int):=rfl
  have hcl : (grL p S b m f h).length = ((r - f p) / h p + (r + f p) / h p + 1).toNat:=by rw [hgr, List.length_map, elo, List.length_map, List.length_range]
  refine ⟨_, rfl, _, rfl, _, _, rfl, rfl, _, rfl, _, _, rfl, rfl, ⟨c0, by omega⟩, _, rfl, _, rfl, _, rfl, _, _, rfl, rfl, _, rfl, _, _, rfl, rfl, ⟨c0, by omega⟩, _, _, rfl, rfl, _, _, rfl, ⟨by omega, by omega, by omega, by omega⟩, ?_⟩
  have ecnt : ((r - f p) / h p + 1 - -((r + f p) / h p)).toNat = (grL p S b m f h).length:=by rw [hcl]; congr 1; omega
  rw [ecnt]
  refine for_range (lo:=-((r + f p) / h p)) (n:=(grL p S b m f h).length) (fun i σ H' => ∃ (F' : Hp) (us' : List V) (o1 o2 o3 o4 o5 : Option V), σ = [some (.ref ca), some (.ref la), some (.int b), some (.int m), some (.ref g), some (.int S), some (.ref ma), some (.int (h p)), some (.int (f p)), some (.int r), o1, o2, o3, o4, o5] /\ Acc IsCh F0 H0 g (l ++ (grL p S b m f h).take i) F' H' us' /\ Same F F') ⟨F, us, none, none, none, none, none, rfl, by simpa using acc, .refl F⟩ ?_ ?_
  ·intro i σ H' hi hI
   obtain ⟨F1, us1, o1, o2, o3, o4, o5, rfl, acc1, s1⟩:=hI
   have hz : (grL p S b m f h)[i]? = some (((h p * (-((r + f p) / h p) + (i : Int)) + f p) * (h p * (-((r + f p) / h p) + (i : Int)) + f p) + b * S) / h p, vec p fun j => f j + (-((r + f p) / h p) + (i : Int)) * h j):=by
    rw [hgr, List.getElem?_map, elo, List.getElem?_map, List.getElem?_range (by omega)]
    rfl
   have zin : -((r + f p) / h p) + (i : Int) ∈ zl (h p) r (f p):=by
    rw [elo]
    exact List.mem_map.mpr ⟨i, List.mem_range.mpr (by omega), rfl⟩
   have zin:=(Fm.mem_zl c0).mp zin
   generalize -((r + f p) / h p) + (i : Int) = z at hz zin
   have hma1:=s1 _ _ hma
   have hla1:=s1 _ _ hla
   refine ⟨_, rfl, _, rfl, h p, z, rfl, rfl, .inl ⟨by omega, by omega⟩, _, rfl, _, _, rfl, rfl, ?_⟩
   refine ⟨_, rfl, 1, rfl, _, rfl, ma, _, rfl, row_seq hma1 acc1.same, fun p2 hp2 => ?_⟩
   rw [vec_cut]
   have e2 : Ext F1 H' (upd F1 p2 (.lst ((vec p f).map V.int))) (upd H' p2 (.lst ((vec p f).map V.int))):=(Ext.refl acc1.same).put hp2
   have f2 : (upd F1 p2 (.lst ((vec p f).map V.int))) p2 = some (.lst ((vec p f).map V.int)):=upd_same
   have acc2:=acc1.pass mono_ch e2
   have hla2:=e2.ff _ _ hla1
   have s2:=s1.trans e2.ff
   generalize upd F1 p2 (.lst ((vec p f).map V.int)) = F2 at e2 f2 acc2 hla2 s2
   generalize upd H' p2 (.lst ((vec p f).map V.int)) = H2 at e2 acc2
   refine ⟨_, rfl, p2, la, _, _, rfl, row_seq f2 acc2.same, row_seq hla2 acc2.same, fun D hD => ?_⟩
   refine lc_zip (K:=K) (a:=p2) (b:=la) (xs:=(vec p f).map V.int) (ys:=(vec (p + 1) h).map V.int) (AccP IsI F2 H2 D (vec p fun j => f j + z * h j)) (Acc.p0 (Ext.refl acc2.same) hD) (fun j H' ⟨F3, us3, a3⟩ => ⟨row_seq (a3.ext.ff _ _ f2) a3.same, row_seq (a3.ext.ff _ _ hla2) a3.same⟩) ?_ ?_
   ·rintro j x y T H3 hx hy ⟨F3, us3, a3⟩ hT
    obtain ⟨hj, rfl⟩:=vec_i hx
    obtain ⟨hj2, rfl⟩:=vec_i hy
    refine ⟨T, _, rfl, SqT.of upd_same, rfl, _, _, rfl, _, _, rfl, rfl, rfl, ?_⟩
    have e4 : Ext F3 H3 (upd F3 T (.tup [.int (f j), .int (h j)])) (upd H3 T (.tup [.int (f j), .int (h j)])):=(Ext.refl a3.same).put hT
    refine ⟨_, rfl, _, rfl, _, rfl, z, h j, rfl, rfl, mul_ok' (hs j hj), f j, z * h j, rfl, rfl, ?_⟩
    exact a3.next mono_i (Fm.vec_get hj) (by rw [Fm.vec_length]; omega) e4 rfl
   ·rintro H3 a3
    obtain ⟨F4, e4, h4⟩:=a3.done mono_i (by rw [List.length_map, List.length_map, Fm.vec_length, Fm.vec_length, Fm.vec_length]; omega)
    have acc4:=acc2.pass mono_ch e4
    refine ⟨_, rfl, .inl ⟨rfl, _, SqL.of acc4.at_⟩, _, rfl, _, rfl, _, _, rfl, rfl, .inl ⟨by omega, by omega⟩, _, rfl, _, rfl, b, S, rfl, rfl, .inl ⟨by omega, by omega⟩, _, _, rfl, rfl, _, rfl, _, _, rfl, rfl, ⟨c0, by omega⟩, _, rfl, (by show 2 <= sizeLine; decide), fun q hq => ?_⟩
    have e5 : Ext F4 H3 _ _:=(Ext.refl acc4.same).put (o:=.tup [.int (((h p * z + f p) * (h p * z + f p) + b * S) / h p), .ref D]) hq
    obtain ⟨g5, acc5⟩:=acc4.step mono_ch e5 (y:=.ref q) (x:=(((h p * z + f p) * (h p * z + f p) + b * S) / h p, vec p fun j => f j + z * h j)) ⟨q, _, _, rfl, upd_same, rfl, mono_row.up e5.ff (row_of h4)⟩
    refine ⟨g, _, _, rfl, rfl, g5, ?_, ?_⟩
    ·rw [acc4.len, List.length_append, List.length_take]
     exact small24 (by omega)
    ·refine ⟨_, us1 ++ [.ref q], _, _, _, _, _, rfl, ?_, s2.trans (e4.ff.trans e5.ff)⟩
     rw [List.take_add_one, hz, <- List.append_assoc]
     exact acc5
  ·intro σ H' hI
   obtain ⟨F1, us1, o1, o2, o3, o4, o5, rfl, acc1, s1⟩:=hI
   rw [List.take_length] at acc1
   exact k F1 H' us1 acc1 s1
end
end Pr
namespace Pr
open PySem PySem.Spec PyProof.Rows L2
open Fm (gm dt bm small vec rt zl zs chs chL colL colsL ck mk Latt gr sp side addz Mat)
theorem grL_is {n : Nat} {M C : Mat} (t : Latt n M C) {m : Int} {a : Nat} (ha : a < n) (w y : Nat -> Int) :
  grL (n + a) (sp n (gr n M C) (a + 1) y) (dt a (gr n M C)) m (mk n C (gr n M C) w y) (ck n C (gr n M C) a) = (zs n (gr n M C) m a y).map fun z => chL n C (gr n M C) a w (addz y a z):=by
 unfold grL zs
 rw [Fm.ck_corner, Fm.mk_side]
 refine List.map_congr_left fun z _ => ?_
 unfold chL
 rw [Fm.sp_next ha t.sym t.lead y z]
 congr 1
 exact Fm.vec_congr fun i _ => (Fm.mk_addz ha z i).symm
structure StartOk (n : Nat) (M C : Mat) (m : Int) (k : Nat) (y0 : Nat -> Int) : Prop where
 latt : Latt n M C
 m0 : 0 <= m
 m1 : m <= 64
 le : sp n (gr n M C) k y0 <= dt k (gr n M C) * m
 half : ∀ c, c < k -> - dt (c + 1) (gr n M C) <= 2 * side n (gr n M C) c y0 /\ 2 * side n (gr n M C) c y0 <= dt (c + 1) (gr n M C)
def spGrowns : Sp:=fun vs H Q _ => ∃ (n : Nat) (M C : Mat) (k kc to' : Nat) (m : Int) (w' y0 : Nat -> Int) (F : Hp) (vl vs' : V), vs = [.int n, vl, vs', .int to', .int m] /\ Same F H /\
 IsRows F vl (colsL n C (gr n M C) kc) /\ IsCh F vs' (chL n C (gr n M C) k w' y0) /\ StartOk n M C m k y0 /\ k <= kc /\ kc <= n /\ to' <= k /\ k - to' <= 4 /\
 ∀ (F' H' : Hp) (v : V), Ext F H F' H' -> IsChs F' v ((chs n (gr n M C) m k y0 (k - to')).map (chL n C (gr n M C) to' w')) -> Q v H'
section
variable {P : Program} {w : World} {K : PySem.W.Frag} {mg : Str -> Option Value} {base : Heap}
theorem scGrowns : FnScope ["n", "columns", "start", "to", "most", "last", "choices", "at", "before", "grown", "choice"] ["n", "columns", "start", "to", "most"] (defScope sGrowns):=⟨rfl, rfl, rfl, by decide +kernel, rfl, by decide +kernel, by decide +kernel⟩
theorem take_flat {α β : Type} {l : List α} {f : α -> List β} {i : Nat} {x : α} (h : l[i]? = some x) : (l.take (i + 1)).flatMap f = (l.take i).flatMap f ++ f x:=by
 rw [List.take_add_one, h, List.flatMap_append]
 simp
theorem take_flat_len {α β : Type} (l : List α) (f : α -> List β) (i : Nat) : ((l.take i).flatMap f).length <= (l.flatMap f).length:=by
 conv => rhs; rw [<- List.take_append_drop i l, List.flatMap_append, List.length_append]
 omega
theorem col_at {n : Nat} {C G : Mat} {kc j : Nat} (h : j < kc) : (colsL n C G kc)[j]? = some (vec (n + j + 1) (ck n C G j)):=get_map_range h
theorem len44 {n : Nat} {M C : Mat} {m : Int} {k : Nat} {y0 : Nat -> Int} (st : StartOk n M C m k y0) (hk : k <= n) {i : Nat} (hi : i <= k) (h4 : i <= 4) : (chs n (gr n M C) m k y0 i).length < 16777216:=by
 have z:=Fm.len_chs (K:=44) hk (fun j y hj h => Fm.zs44 st.latt.frm.low st.m0 st.m1 st.latt.sym st.latt.lead st.latt.slow (by omega) h) st.latt.sym st.latt.lead st.le i hi
 have : (44 : Nat) ^ i <= 44 ^ 4:=Nat.pow_le_pow_right (by decide) h4
 have e : (44 : Nat) ^ 4 = 3748096:=by decide
 omega
theorem ok_growns {f fG : Addr} {fd fdG : FuncData} (F : Fun K "grown_choices" "grown_choices" sGrowns f fd) (hrng : mg "range" = none) (hlen : mg "len" = none)
  (GG : FnOk P w K mg base CX0 2 fG fdG ["choice", "column", "before", "most", "grown"] spGrow) (kG : PySem.W.keepIn K (.ref fG) = true) (bG : Binds K fdG ["choice", "column", "before", "most", "grown"] []) (mG : mg "grow" = some (.ref fG)) :
  FnOk P w K mg base CX0 3 f fd ["n", "columns", "start", "to", "most"] spGrowns:=by
 refine F.ok scGrowns (fun vs H Q E h => ?_) (fun cdv A outer s H vs Q E hr h => ?_)
 ·obtain ⟨n, M, C, k, kc, to', m, w', y0, F, vl, vs', rfl, _⟩:=h
  rfl
 ·obtain ⟨n, M, C, k, kc, to', m, w', y0, F, vl, vs', rfl, s0, ⟨la, xl, rfl, hla, rel⟩, hst, st, hkc, hkn, hto, h4, kk⟩:=h
  have nd:=scGrowns.nd
  have t:=st.latt
  have h8:=t.frm.low
  generalize hG : gr n M C = G at *
  have hst0:=hst
  obtain ⟨sa, v1, v2, rfl, hsa, (rfl : v1 = .int _), ma, rfl, hma⟩:=hst0
  refine ⟨_, pss_cons (ps_set (i:=5) nd rfl (Or.inl rfl) (pe_op op_sub (pe_op op_sub (pe_callB call_len_seq rfl hlen PySem.boot_len (pa_cons (pe_ix ix_tup (pv 2) pe_int (fun _ _ => rfl)) pa_nil)) (pv 0)) pe_int))
   (pss_cons (ps_set (i:=6) nd rfl (Or.inl rfl) (pe_lst (pa_cons (pv 2) pa_nil)))
   (pss_cons (ps_for PassesOwn.never rfl (pi_range3 rfl hrng (pa_cons (pv 5) (pa_cons (pe_op op_sub (pv 3) pe_int) (pa_cons (pe_un un_neg pe_int) pa_nil)))) (pg_name (i:=7) nd rfl (Or.inl rfl))
    (pss_cons (ps_set (i:=8) nd rfl (Or.inl rfl) (pe_ifExp (pt_cmpR op_gt (pv 7) pe_int (nomark _)) (pe_ix ix_list (pe_ix ix_list (pv 1) (pe_op op_sub (pv 7) pe_int) (fun _ _ => rfl)) (pe_un un_neg pe_int) (fun _ _ => rfl)) pe_int))
    (pss_cons (ps_set (i:=9) nd rfl (Or.inl rfl) (pe_lst pa_nil))
    (pss_cons (ps_for PassesOwn.never rfl (pi_list (pv 6)) (pg_name (i:=10) nd rfl (Or.inl rfl))
     (pss_one (ps_expr (pe_call GG hr rfl mG kG bG .nil pass0 (pa_cons (pv 10) (pa_cons (pe_ix ix_list (pv 1) (pv 7) (fun _ _ => rfl)) (pa_cons (pv 8) (pa_cons (pv 4) (pa_cons (pv 9) pa_nil)))))))))
    (pss_one (ps_set (i:=6) nd rfl (Or.inl rfl) (pv 9)))))))
   (pss_one (ps_ret (pv 6))))), ?_⟩
  refine ⟨_, rfl, sa, _, 1, _, rfl, rfl, SqT.of (s0 _ _ hsa), at_of (j:=1) rfl rfl, ma, _, rfl, .inl (row_seq hma s0), _, rfl, _, _, rfl, rfl, _, _, rfl, rfl, ?_⟩
  refine ⟨_, rfl, (by show 1 <= sizeLine; decide), fun q hq => ?_⟩
  have e1 : Ext F H (upd F q (.lst [.ref sa])) (upd H q (.lst [.ref sa])):=(Ext.refl s0).put hq
  have c1 : IsChs (upd F q (.lst [.ref sa])) (.ref q) ((chs n G m k y0 0).map (chL n C G k w')):=⟨q, _, rfl, upd_same, .cons (mono_ch.up e1.ff hst) .nil⟩
  generalize upd F q (.lst [.ref sa]) = F1 at e1 c1
  generalize upd H q (.lst [.ref sa]) = H1 at e1
  refine ⟨_, rfl, _, rfl, _, _, rfl, rfl, 1, rfl, (k : Int) - 1, (to' : Int) - 1, -1, k - to', ?_, ?_, ?_⟩
  ·have el : ((chL n C G k w' y0).snd.map V.int).length = n + k:=by rw [List.length_map]; exact Fm.vec_length _ _
   rw [el]
   show [V.int (((n + k : Nat) : Int) - n - 1), V.int ((to' : Int) - 1), V.int (-1)] = _
   rw [show ((n + k : Nat) : Int) - n - 1 = (k : Int) - 1 by omega]
  ·have z:=RgC.neg (i:=(k : Int) - 1) (j:=(to' : Int) - 1) (by omega) (by omega) (by omega) (by omega)
   rwa [show ((k : Int) - 1 - ((to' : Int) - 1)).toNat = k - to' by omega] at z
  refine for_rangeC (lo:=(k : Int) - 1) (c:=-1) (n:=k - to') (fun i σ H' => ∃ (F' : Hp) (v : V) (o0 o1 o2 o3 o4 : Option V), σ = [some (.int n), some (.ref la), some (.ref sa), some (.int to'), some (.int m), o0, some v, o1, o2, o3, o4] /\ Ext F H F' H' /\ IsChs F' v ((chs n G m k y0 i).map (chL n C G (k - i) w'))) ⟨F1, .ref q, _, none, none, none, none, rfl, e1, c1⟩ ?_ ?_
  ·intro i σ H2 hi hI
   obtain ⟨F2, v, o0, o1, o2, o3, o4, rfl, e2, ⟨qa, xs, rfl, hqa, relx⟩⟩:=hI
   obtain ⟨a, ha⟩ : ∃ a, k - 1 - i = a:=⟨_, rfl⟩
   have ea : (k : Int) - 1 + (i : Int) * -1 = (a : Int):=by omega
   rw [ea]
   have e3 : k - i = a + 1:=by omega
   rw [e3] at relx
   have hla2:=e2.ff _ _ hla
   have rel2:=Paired.up mono_row e2.ff rel
   have d0:=t.dt_small (show a <= n by omega)
   have d1:=t.dt_small (show a + 1 <= n by omega)
   rw [hG] at d0 d1
   have bef : ∀ Q' : V -> Hp -> Prop, Q' (.int (dt a G)) H2 -> tIf (tTest (tOp (rI0 fun i j => V.bl (decide (j < i))) (tVar 7) (tC (V.int 0)))) (tOp (rIxL K) (tOp (rIxL K) (tVar 1) (tOp (rI0 fun i j => V.int (i - j)) (tVar 7) (tC (V.int 1)))) (tUn (rU fun i => V.int (-i)) (tC (V.int 1)))) (tC (V.int 1)) [some (.int n), some (.ref la), some (.ref sa), some (.int to'), some (.int m), o0, some (.ref qa), some (.int a), o2, o3, o4] H2 Q':=fun Q' hq' => by
    refine ⟨_, rfl, _, 0, rfl, rfl, _, rfl, ite2 (fun hc => ?_) (fun hc => ?_)⟩
    ·have hc : (0 : Int) < a:=of_decide_eq_true hc
     obtain ⟨b, rfl⟩ : ∃ b, a = b + 1:=⟨a - 1, by omega⟩
     obtain ⟨x, hx, ⟨xa, rfl, hxa⟩⟩:=pget' rel2 (col_at (show b < kc by omega))
     refine ⟨_, rfl, _, rfl, _, _, rfl, rfl, la, _, _, _, rfl, rfl, row_seq hla2 e2.inn, at_of (j:=b) (by omega) hx, 1, rfl, xa, _, _, _, rfl, rfl, row_seq hxa e2.inn, atI_end (k:=n + b) (by rw [List.length_map, Fm.vec_length]) (vecV (by omega)), ?_⟩
     rw [Fm.ck_corner]
     exact hq'
    ·have hc : a = 0:=by
      have : ¬ (0 : Int) < a:=fun z => hc (decide_eq_true z)
      omega
     subst hc
     exact hq'
   refine bef _ ?_
   refine ⟨Nat.zero_le _, fun g hg => ?_⟩
   have acc0 : Acc IsCh F2 H2 g ([] : List (Int × List Int)) F2 (upd H2 g (.lst [])) []:=Acc.start (Ext.refl e2.inn) hg
   refine ⟨_, rfl, qa, rfl, ⟨_, row_seq hqa acc0.same⟩, ?_⟩
   have lenx : xs.length = (chs n G m k y0 i).length:=by rw [Paired.length relx, List.length_map]
   have hnext : chs n G m k y0 (i + 1) = (chs n G m k y0 i).flatMap fun y => (zs n G m a y).map (addz y a):=by rw [chs, ha]
   have l44 : (chs n G m k y0 (i + 1)).length < 16777216:=by
    have:=len44 st (by omega) (show i + 1 <= k by omega) (by omega)
    rwa [hG] at this
   have lflat : ((chs n G m k y0 i).flatMap fun y => (zs n G m a y).map fun z => chL n C G a w' (addz y a z)).length = (chs n G m k y0 (i + 1)).length:=by
    rw [hnext, List.length_flatMap, List.length_flatMap]
    simp
   refine for_list (K:=K) (a:=qa) (xs:=xs) (fun j σ H' => ∃ (F' : Hp) (us : List V) (o4 : Option V), σ = [some (.int n), some (.ref la), some (.ref sa), some (.int to'), some (.int m), o0, some (.ref qa), some (.int a), some (.int (dt a G)), some (.ref g), o4] /\
    Acc IsCh F2 H2 g (((chs n G m k y0 i).take j).flatMap fun y => (zs n G m a y).map fun z => chL n C G a w' (addz y a z)) F' H' us /\ Same F2 F') ⟨F2, [], o4, rfl, acc0, .refl _⟩ (fun j σ H' _ ⟨F', us, o4, _, acc, s'⟩ => row_seq (s' _ _ hqa) acc.same) ?_ ?_
   ·intro j x σ H3 hx hI
    obtain ⟨F3, us, o4, rfl, acc, s3⟩:=hI
    obtain ⟨ch, hch, hxc⟩:=pget relx hx
    obtain ⟨y, hy, rfl⟩ : ∃ y, (chs n G m k y0 i)[j]? = some y /\ ch = chL n C G (a + 1) w' y:=by
     rw [List.getElem?_map] at hch
     cases e : (chs n G m k y0 i)[j]? with
     | none => rw [e] at hch; cases hch
     | some y => rw [e] at hch; exact ⟨y, rfl, (Option.some.inj hch).symm⟩
    have ymem:=List.mem_of_getElem? hy
    have hsp:=((Fm.mem_chs (hG ▸ t.sym) (hG ▸ t.lead) (by omega) (hG ▸ st.le) i (by omega) y).mp ymem).2
    rw [e3] at hsp
    have sd:=Fm.side_chs h8 st.m0 st.m1 (hG ▸ t.sym) (hG ▸ t.lead) (hG ▸ t.slow) (hG ▸ t.half) (by omega) (hG ▸ st.le) (hG ▸ st.half) i (by omega) y ymem a (by omega)
    have sm:=Fm.side_small d1.1 d1.2 (by omega) sd.1 sd.2
    have rs:=Fm.reach_small t st.m0 st.m1 (show a < n by omega) (y:=y) (by rw [hG]; exact hsp)
    rw [hG] at rs
    have gis:=grL_is t (m:=m) (show a < n by omega) w' y
    rw [hG] at gis
    obtain ⟨cl, hcl, hclr⟩:=pget' rel2 (col_at (show a < kc by omega))
    refine ⟨_, rfl, _, rfl, _, rfl, la, _, _, _, rfl, rfl, row_seq (s3 _ _ hla2) acc.same, at_of (j:=a) rfl hcl, _, rfl, _, rfl, _, rfl, ?_⟩
    refine ⟨x, cl, g, n + a, sp n G (a + 1) y, dt a G, m, mk n C G w' y, ck n C G a, F2, H2, F3, us, _, rfl, mono_ch.up s3 hxc, mono_row.up s3 hclr, acc, by omega, ?_, ?_, d0.1, by omega, ?_, ?_, ?_, ?_, ?_, fun F4 H4 us4 acc4 s4 => ?_⟩
    ·rw [Fm.ck_corner]; exact d1.1
    ·rw [Fm.ck_corner]; omega
    ·rw [Fm.ck_corner]; exact rs.1
    ·rw [Fm.ck_corner]; exact rs.2
    ·rw [Fm.mk_side]; omega
    ·intro c hc
     have:=t.lll.bas.ck_small t.frm (show a < n by omega) (show c < n + a + 1 by omega)
     rwa [hG] at this
    ·rw [gis, <- List.length_append, <- take_flat (f:=fun y => (zs n G m a y).map fun z => chL n C G a w' (addz y a z)) hy]
     exact Nat.lt_of_le_of_lt (take_flat_len _ _ _) (by rw [lflat]; exact l44)
    ·rw [gis, <- take_flat (f:=fun y => (zs n G m a y).map fun z => chL n C G a w' (addz y a z)) hy] at acc4
     exact ⟨F4, us4, _, rfl, acc4, s3.trans s4⟩
   ·intro σ H3 hI
    obtain ⟨F3, us, o4, rfl, acc, s3⟩:=hI
    rw [lenx, List.take_length] at acc
    obtain ⟨e5, h5, _⟩:=acc.done mono_ch
    refine ⟨_, rfl, ?_⟩
    refine ⟨_, .ref g, _, _, _, _, _, rfl, e2.trans e5, ?_⟩
    have e6 : k - (i + 1) = a:=by omega
    rw [e6, hnext, List.map_flatMap]
    simp only [List.map_map]
    exact h5
  ·intro σ H2 hI
   obtain ⟨F2, v, o0, o1, o2, o3, o4, rfl, e2, h2⟩:=hI
   rw [show k - (k - to') = to' by omega] at h2
   exact ⟨_, rfl, kk F2 H2 v e2 h2⟩
end
end Pr
namespace Pr
open PySem PySem.Spec PyProof.Rows L2
open Fm (gm dt bm small vec chL colL colsL ck mk Latt gr sp side addz Mat sm pr tp stl Bas Frm Lll one xc ur)
abbrev sProd : Stmt:=top 14
abbrev sUnit : Stmt:=top 11
abbrev sChg : Stmt:=top 13
abbrev sCols : Stmt:=top 12
abbrev sSettle : Stmt:=top 15
abbrev sLess : Stmt:=top 16
abbrev sReduced : Stmt:=top 10
def rowsL (n k : Nat) (C : Mat) : List (List Int):=(List.range k).map fun i => vec n (C i)
theorem rowsL_at {n k : Nat} {C : Mat} {i : Nat} (h : i < k) : (rowsL n k C)[i]? = some (vec n (C i)):=get_map_range h
theorem rowsL_len (n k : Nat) (C : Mat) : (rowsL n k C).length = k:=by unfold rowsL; simp
theorem mat_rows (m : Nat) (M : Mat) : mat m M = rowsL m m M:=rfl
def spProd : Sp:=fun vs H Q _ => ∃ (v1 v2 : V) (n : Nat) (f g : Nat -> Int) (F : Hp), vs = [v1, v2] /\ Same F H /\ IsRow F v1 (vec n f) /\ IsRow F v2 (vec n g) /\ n <= 8 /\ ((∀ i, i < n -> (f i).natAbs < 2 ^ 56) \/ ∀ i, i < n -> (g i).natAbs < 2 ^ 56) /\
 ∀ F' H' : Hp, Ext F H F' H' -> Q (.int (sm n fun i => f i * g i)) H'
def spUnit : Sp:=fun vs H Q _ => ∃ (n : Nat) (F : Hp), vs = [.int n] /\ n <= 8 /\ Same F H /\ ∀ (F' H' : Hp) (p : Addr) (us : List V), Acc IsRow F H p (rowsL n n one) F' H' us -> Q (.ref p) H'
def spChg : Sp:=fun vs H Q _ => ∃ (v1 v2 : V) (n k : Nat) (M C : Mat) (F : Hp), vs = [v1, v2] /\ Same F H /\ IsRows F v1 (mat n M) /\ IsRows F v2 (rowsL n k C) /\ n <= 8 /\ k <= n /\ Fm.Symm n M /\ (∀ i c, i < k -> c < n -> (C i c).natAbs < 2 ^ 56) /\
 ∀ (F' H' : Hp) (v : V), Ext F H F' H' -> IsRows F' v (mat k (gr n M C)) -> Q v H'
def spCols : Sp:=fun vs H Q _ => ∃ (v1 v2 : V) (n k : Nat) (M C : Mat) (F : Hp), vs = [v1, v2] /\ Same F H /\ IsRows F v1 (mat n M) /\ IsRows F v2 (rowsL n k C) /\ Frm n M /\ Bas n M C /\ 1 <= k /\ k <= n /\
 ∀ (F' H' : Hp) (v : V), Ext F H F' H' -> IsRows F' v (colsL n C (gr n M C) k) -> Q v H'
section
variable {P : Program} {w : World} {K : PySem.W.Frag} {mg : Str -> Option Value} {base : Heap}
theorem scProd : FnScope ["left", "right", "x", "y"] ["left", "right"] (defScope sProd):=⟨rfl, rfl, rfl, by decide +kernel, rfl, by decide +kernel, by decide +kernel⟩
theorem ok_prod {f : Addr} {fd : FuncData} (F : Fun K "product_sum" "product_sum" sProd f fd) (hzip : mg "zip" = none) (hsum : mg "sum" = none) : FnOk P w K mg base CX0 1 f fd ["left", "right"] spProd:=by
 refine F.ok scProd (fun vs H Q E h => ?_) (fun cdv A outer s H vs Q E hr h => ?_)
 ·obtain ⟨v1, v2, n, f, g, F, rfl, _⟩:=h
  rfl
 ·obtain ⟨v1, v2, n, f, g, F, rfl, s0, ⟨a, rfl, ha⟩, ⟨b, rfl, hb⟩, h8, hs, k⟩:=h
  have nd:=scProd.nd
  refine ⟨_, pss_one (ps_ret (pe_callB (cr_sum rfl) rfl hsum PyProof.Rows.boot_sum (pa_cons (pe_lc rfl nd (pi_zip rfl hzip (pa_cons (pv 0) (pa_cons (pv 1) pa_nil))) (blkOk_by (own:=[("x", 2), ("y", 3)]) (by kernel_rfl))
   (fun _ _ _ _ _ => pg_pair K (i:=2) (j:=3) rfl nd rfl rfl (Or.inl rfl) (Or.inl rfl)) (fun _ _ _ _ _ => pts_nil) (fun _ _ _ _ _ => pe_op op_mul (pv 2) (pv 3))) pa_nil))), ?_⟩
  refine ⟨_, rfl, _, rfl, a, b, _, _, rfl, row_seq ha s0, row_seq hb s0, fun D hD => ?_⟩
  refine lc_zip (K:=K) (a:=a) (b:=b) (xs:=(vec n f).map V.int) (ys:=(vec n g).map V.int) (AccP IsI F H D (vec n fun i => f i * g i)) (Acc.p0 (Ext.refl s0) hD) (fun j H' ⟨F3, us3, a3⟩ => ⟨row_seq (a3.ext.ff _ _ ha) a3.same, row_seq (a3.ext.ff _ _ hb) a3.same⟩) ?_ ?_
  ·rintro j x y T H3 hx hy ⟨F3, us3, a3⟩ hT
   obtain ⟨hj, rfl⟩:=vec_i hx
   obtain ⟨hj2, rfl⟩:=vec_i hy
   refine ⟨T, _, rfl, SqT.of upd_same, rfl, _, _, rfl, _, _, rfl, rfl, rfl, ?_⟩
   refine ⟨_, rfl, _, rfl, f j, g j, rfl, rfl, ?_, ?_⟩
   ·rcases hs with q | q
    ·exact mul_ok (q j hj)
    ·exact mul_ok' (q j hj)
   ·exact a3.next mono_i (Fm.vec_get hj) (by rw [Fm.vec_length]; omega) ((Ext.refl a3.same).put hT) rfl
  ·rintro H3 a3
   obtain ⟨F4, e4, h4⟩:=a3.done mono_i (by rw [List.length_map, List.length_map, Fm.vec_length, Fm.vec_length, Fm.vec_length]; omega)
   obtain ⟨d, hd, hd2⟩:=row_of h4
   cases hd
   refine ⟨D, _, rfl, row_seq hd2 e4.inn, ?_⟩
   have e : (vec n fun i => f i * g i).sum = sm n fun i => f i * g i:=Fm.sm_list _ n
   rw [e]
   exact k F4 H3 e4
theorem scUnit : FnScope ["n", "i", "j"] ["n"] (defScope sUnit):=⟨rfl, rfl, rfl, by decide +kernel, rfl, by decide +kernel, by decide +kernel⟩
theorem ok_unit {f : Addr} {fd : FuncData} (F : Fun K "unit_rows" "unit_rows" sUnit f fd) (hrng : mg "range" = none) : FnOk P w K mg base CX0 1 f fd ["n"] spUnit:=by
 refine F.ok scUnit (fun vs H Q E h => ?_) (fun cdv A outer s H vs Q E hr h => ?_)
 ·obtain ⟨n, F, rfl, _⟩:=h
  rfl
 ·obtain ⟨n, F, rfl, h8, s0, k⟩:=h
  have nd:=scUnit.nd
  refine ⟨_, pss_one (ps_ret (pe_lc rfl nd (pi_range1 rfl hrng (pa_cons (pv 0) pa_nil)) (blkOk_by (own:=[("i", 1)]) (by kernel_rfl)) (fun _ _ _ _ _ => pg_name (i:=1) nd rfl (Or.inr rfl)) (fun _ _ _ _ _ => pts_nil)
   (fun _ _ _ _ _ => pe_lc rfl nd (pi_range1 rfl hrng (pa_cons (pv 0) pa_nil)) (blkOk_by (own:=[("j", 2)]) (by kernel_rfl)) (fun _ _ _ _ _ => pg_name (i:=2) nd rfl (Or.inl rfl)) (fun _ _ _ _ _ => pts_nil)
    (fun _ _ _ _ _ => pe_ifExp (pt_cmpR op_eq (pv 1) (pv 2) (nomark _)) pe_int pe_int)))), ?_⟩
  refine ⟨_, rfl, (n : Int), rfl, by omega, by omega, ?_⟩
  rw [Int.toNat_natCast]
  intro D hD
  refine lc_range (lo:=0) (n:=n) (AccP IsRow F H D (rowsL n n one)) (Acc.p0 (Ext.refl s0) hD) ?_ ?_
  ·intro i H' hi hI
   obtain ⟨F1, us, a1⟩:=hI
   refine ⟨rfl, ?_⟩
   refine ⟨_, rfl, (n : Int), rfl, by omega, by omega, ?_⟩
   rw [Int.toNat_natCast]
   intro D2 hD2
   refine lc_range (lo:=0) (n:=n) (AccP IsI F1 H' D2 (vec n (one i))) (Acc.p0 (Ext.refl a1.same) hD2) ?_ ?_
   ·intro j H2 hj hI
    obtain ⟨F2, us2, a2⟩:=hI
    refine ⟨rfl, ?_⟩
    refine ⟨_, rfl, _, rfl, rfl, _, rfl, ite2 (fun hc => ?_) (fun hc => ?_)⟩
    ·have hc:=of_decide_eq_true hc
     have e : i = j:=by
      injection hc with hc
      omega
     refine a2.next mono_i (x:=1) ?_ (by rw [Fm.vec_length]; omega) (Ext.refl a2.same) rfl
     rw [Fm.vec_get hj]
     unfold one
     rw [if_pos e]
    ·have e : ¬ i = j:=fun z => hc (decide_eq_true (by rw [z]))
     refine a2.next mono_i (x:=0) ?_ (by rw [Fm.vec_length]; omega) (Ext.refl a2.same) rfl
     rw [Fm.vec_get hj]
     unfold one
     rw [if_neg e]
   ·rintro H2 a2
    obtain ⟨F3, e3, h3⟩:=a2.done mono_i (by rw [Fm.vec_length])
    exact a1.next mono_row (rowsL_at hi) (by rw [rowsL_len]; omega) e3 (row_of h3)
  ·intro H' hI
   obtain ⟨F1, us, a1⟩:=hI
   rw [List.take_of_length_le (by rw [rowsL_len]; omega)] at a1
   exact k F1 H' D us a1
theorem scChg : FnScope ["rows", "basis", "halves", "line", "row", "half"] ["rows", "basis"] (defScope sChg):=⟨rfl, rfl, rfl, by decide +kernel, rfl, by decide +kernel, by decide +kernel⟩
theorem ok_chg {f fP : Addr} {fd fdP : FuncData} (F : Fun K "changed_rows" "changed_rows" sChg f fd)
  (GP : FnOk P w K mg base CX0 1 fP fdP ["left", "right"] spProd) (kP : PySem.W.keepIn K (.ref fP) = true) (bP : Binds K fdP ["left", "right"] []) (mP : mg "product_sum" = some (.ref fP)) : FnOk P w K mg base CX0 2 f fd ["rows", "basis"] spChg:=by
 refine F.ok scChg (fun vs H Q E h => ?_) (fun cdv A outer s H vs Q E hr h => ?_)
 ·obtain ⟨v1, v2, n, k, M, C, F, rfl, _⟩:=h
  rfl
 ·obtain ⟨v1, v2, n, k, M, C, F, rfl, s0, ⟨a, xs, rfl, ha, relM⟩, ⟨b, ys, rfl, hb, relC⟩, h8, hk, sym, small, kk⟩:=h
  have nd:=scChg.nd
  refine ⟨_, pss_cons (ps_setLc (i:=2) rfl nd rfl rfl (sw_true rfl rfl rfl rfl) (pi_list (pv 1)) (blkOk_by (own:=[("line", 3)]) (by kernel_rfl)) (fun _ _ _ _ _ => pg_name (i:=3) nd rfl (Or.inr rfl)) (fun _ _ _ _ _ => pts_nil)
    (fun _ _ _ _ _ => pe_lc rfl nd (pi_listK K (pv 0)) (blkOk_by (own:=[("row", 4)]) (by kernel_rfl)) (fun _ _ _ _ _ => pg_name (i:=4) nd rfl (Or.inl rfl)) (fun _ _ _ _ _ => pts_nil)
     (fun _ _ _ _ _ => pe_call GP hr rfl mP kP bP .nil pass0 (pa_cons (pv 3) (pa_cons (pv 4) pa_nil)))))
   (pss_one (ps_ret (pe_lc rfl nd (pi_list (pv 2)) (blkOk_by (own:=[("half", 5)]) (by kernel_rfl)) (fun _ _ _ _ _ => pg_name (i:=5) nd rfl (Or.inr rfl)) (fun _ _ _ _ _ => pts_nil)
    (fun _ _ _ _ _ => pe_lc rfl nd (pi_listK K (pv 1)) (blkOk_by (own:=[("line", 3)]) (by kernel_rfl)) (fun _ _ _ _ _ => pg_name (i:=3) nd rfl (Or.inl rfl)) (fun _ _ _ _ _ => pts_nil)
     (fun _ _ _ _ _ => pe_call GP hr rfl mP kP bP .nil pass0 (pa_cons (pv 5) (pa_cons (pv 3) pa_nil))))))), ?_⟩
  have lenX : xs.length = n:=by rw [Paired.length relM]; exact mat_len _ _
  have lenY : ys.length = k:=by rw [Paired.length relC]; exact rowsL_len _ _ _
  let hf : Mat:=fun i r => sm n fun c => C i c * M r c
  refine ⟨_, rfl, b, rfl, ⟨_, row_seq hb s0⟩, fun D hD => ?_⟩
  refine lc_list (K:=K) (a:=b) (xs:=ys) (AccP IsRow F H D (rowsL n k hf)) (Acc.p0 (Ext.refl s0) hD) (fun i H' _ ⟨F1, us, a1⟩ => row_seq (a1.ext.ff _ _ hb) a1.same) ?_ ?_
  ·intro i x H1 hx hI
   obtain ⟨F1, us, a1⟩:=hI
   have hi : i < k:=by
    have:=(List.getElem?_eq_some_iff.mp hx).1
    omega
   obtain ⟨r, hr1, hrow⟩:=pget relC hx
   rw [rowsL_at hi] at hr1
   cases hr1
   refine ⟨rfl, ?_⟩
   refine ⟨_, rfl, a, rfl, ⟨_, row_seq (a1.ext.ff _ _ ha) a1.same⟩, fun D2 hD2 => ?_⟩
   refine lc_list (K:=K) (a:=a) (xs:=xs) (AccP IsI F1 H1 D2 (vec n (hf i))) (Acc.p0 (Ext.refl a1.same) hD2) (fun j H' _ ⟨F2, us2, a2⟩ => row_seq (a2.ext.ff _ _ (a1.ext.ff _ _ ha)) a2.same) ?_ ?_
   ·intro j y H2 hy hI
    obtain ⟨F2, us2, a2⟩:=hI
    have hj : j < n:=by
     have:=(List.getElem?_eq_some_iff.mp hy).1
     omega
    obtain ⟨r, hr1, hrow2⟩:=pget relM hy
    rw [mat_rows, rowsL_at hj] at hr1
    cases hr1
    refine ⟨rfl, ?_⟩
    have s2:=a1.ext.ff.trans a2.ext.ff
    refine ⟨_, rfl, _, rfl, x, y, n, C i, M j, F2, rfl, a2.same, mono_row.up s2 hrow, mono_row.up s2 hrow2, h8, .inl fun c hc => small i c hi hc, fun F3 H3 e3 => ?_⟩
    exact a2.next mono_i (Fm.vec_get hj) (by rw [Fm.vec_length]; omega) e3 rfl
   ·rintro H2 a2
    obtain ⟨F3, e3, h3⟩:=a2.done mono_i (by rw [Fm.vec_length, lenX])
    exact a1.next mono_row (rowsL_at hi) (by rw [rowsL_len]; omega) e3 (row_of h3)
  ·rintro H1 a1
   obtain ⟨F2, e2, ⟨q, zs, hq, hD2, relH⟩⟩:=a1.done mono_row (by rw [rowsL_len, lenY])
   cases hq
   have lenZ : zs.length = k:=by rw [Paired.length relH]; exact rowsL_len _ _ _
   refine ⟨_, rfl, D, rfl, ⟨_, row_seq hD2 e2.inn⟩, fun D3 hD3 => ?_⟩
   refine lc_list (K:=K) (a:=D) (xs:=zs) (AccP IsRow F2 H1 D3 (mat k (gr n M C))) (Acc.p0 (Ext.refl e2.inn) hD3) (fun i H' _ ⟨F1, us, a1⟩ => row_seq (a1.ext.ff _ _ hD2) a1.same) ?_ ?_
   ·intro i x H3 hx hI
    obtain ⟨F3, us, a3⟩:=hI
    have hi : i < k:=by
     have:=(List.getElem?_eq_some_iff.mp hx).1
     omega
    obtain ⟨r, hr1, hrow⟩:=pget relH hx
    rw [rowsL_at hi] at hr1
    cases hr1
    refine ⟨rfl, ?_⟩
    refine ⟨_, rfl, b, rfl, ⟨_, row_seq (a3.ext.ff _ _ (e2.ff _ _ hb)) a3.same⟩, fun D4 hD4 => ?_⟩
    refine lc_list (K:=K) (a:=b) (xs:=ys) (AccP IsI F3 H3 D4 (vec k (gr n M C i))) (Acc.p0 (Ext.refl a3.same) hD4) (fun j H' _ ⟨F2, us2, a2⟩ => row_seq (a2.ext.ff _ _ (a3.ext.ff _ _ (e2.ff _ _ hb))) a2.same) ?_ ?_
    ·intro j y H4 hy hI
     obtain ⟨F4, us4, a4⟩:=hI
     have hj : j < k:=by
      have:=(List.getElem?_eq_some_iff.mp hy).1
      omega
     obtain ⟨r, hr1, hrow2⟩:=pget relC hy
     rw [rowsL_at hj] at hr1
     cases hr1
     refine ⟨rfl, ?_⟩
     refine ⟨_, rfl, _, rfl, x, y, n, hf i, C j, F4, rfl, a4.same, mono_row.up (a3.ext.ff.trans a4.ext.ff) hrow, mono_row.up (e2.ff.trans (a3.ext.ff.trans a4.ext.ff)) hrow2, h8, .inr fun c hc => small j c hj hc, fun F5 H5 e5 => ?_⟩
     refine a4.next mono_i (x:=gr n M C i j) (Fm.vec_get hj) (by rw [Fm.vec_length]; omega) e5 ?_
     show V.int _ = V.int _
     congr 1
     show sm n (fun r => (sm n fun c => C i c * M r c) * C j r) = pr n M (C i) (C j)
     rw [Fm.pr_symm sym]
     unfold pr
     refine Fm.sm_congr n fun r _ => ?_
     rw [Int.mul_comm]
     congr 1
     exact Fm.sm_congr n fun c _ => Int.mul_comm _ _
    ·rintro H4 a4
     obtain ⟨F5, e5, h5⟩:=a4.done mono_i (by rw [Fm.vec_length, lenY])
     exact a3.next mono_row (mat_row hi) (by rw [mat_len]; omega) e5 (row_of h5)
   ·rintro H3 a3
    obtain ⟨F5, e5, h5⟩:=a3.done mono_row (by rw [mat_len, lenZ])
    exact kk F5 H3 _ (e2.trans e5) h5
end
end Pr
namespace Pr
open PySem PySem.Spec PyProof.Rows L2
open Fm (gm dt bm small vec chL colL colsL ck mk Latt gr sp side addz Mat sm pr tp stl Bas Frm Lll one xc ur)
def spSettle : Sp:=fun vs H Q _ => ∃ (v1 v2 : V) (n k : Nat) (M C : Mat) (w' y : Nat -> Int) (F : Hp), vs = [v1, v2] /\ Same F H /\ IsRows F v1 (colsL n C (gr n M C) k) /\ IsRow F v2 (vec (n + k) (mk n C (gr n M C) w' y)) /\ Frm n M /\ Bas n M C /\ k <= n /\
 ∀ (F' H' : Hp) (v : V), Ext F H F' H' -> IsRow F' v (vec (n + k) (mk n C (gr n M C) w' (stl n (gr n M C) k y))) -> Q v H'
def spLess : Sp:=fun vs H Q _ => ∃ (v : V) (n a : Nat) (M C : Mat) (b : Int) (F : Hp), vs = [v, .int b] /\ Same F H /\ IsRows F v (colsL n C (gr n M C) (a + 2)) /\ Frm n M /\ Bas n M C /\ a + 2 <= n /\ b.natAbs < 2 ^ 56 /\
 Q (.bl (decide (b * b + dt a (gr n M C) * dt (a + 2) (gr n M C) < dt (a + 1) (gr n M C) * dt (a + 1) (gr n M C)))) H
section
variable {P : Program} {w : World} {K : PySem.W.Frag} {mg : Str -> Option Value} {base : Heap}
theorem scCols : FnScope ["rows", "basis", "tops", "j", "i"] ["rows", "basis"] (defScope sCols):=⟨rfl, rfl, rfl, by decide +kernel, rfl, by decide +kernel, by decide +kernel⟩
theorem tame_bas {n : Nat} {M C : Mat} (f : Frm n M) (b : Bas n M C) {k : Nat} (hk : k <= n) : Tame k (gr n M C):=fun j hj _ i hi => by
 have z:=b.tp_small f (i:=j) (j:=j + i) (by omega) (by omega)
 unfold tp at z
 rw [if_neg (by omega), Nat.add_sub_cancel_left] at z
 exact Nat.lt_of_lt_of_le z (by decide)
theorem col_split {n : Nat} {C G : Mat} {j : Nat} : (vec n (C j)) ++ (vec (j + 1) fun i => tp G i j) = vec (n + j + 1) (ck n C G j):=by
 apply List.ext_getElem?
 intro i
 rw [List.getElem?_append, Fm.vec_length]
 by_cases h : i < n
 ·rw [if_pos h, Fm.vec_get h, Fm.vec_get (by omega)]
  unfold ck
  rw [if_pos h]
 ·rw [if_neg h]
  by_cases h2 : i < n + j + 1
  ·rw [Fm.vec_get (by omega), Fm.vec_get h2]
   unfold ck
   rw [if_neg h]
  ·rw [List.getElem?_eq_none (by rw [Fm.vec_length]; omega), List.getElem?_eq_none (by rw [Fm.vec_length]; omega)]
theorem ok_cols {f fC fT : Addr} {fd fdC fdT : FuncData} (F : Fun K "columns_of" "columns_of" sCols f fd) (hrng : mg "range" = none) (hlen : mg "len" = none)
  (GC : FnOk P w K mg base CX0 2 fC fdC ["rows", "basis"] spChg) (kC : PySem.W.keepIn K (.ref fC) = true) (bC : Binds K fdC ["rows", "basis"] []) (mC : mg "changed_rows" = some (.ref fC))
  (GT : FnOk P w K mg base CX0 2 fT fdT ["rows"] spTop) (kT : PySem.W.keepIn K (.ref fT) = true) (bT : Binds K fdT ["rows"] []) (mT : mg "top_rows" = some (.ref fT)) : FnOk P w K mg base CX0 3 f fd ["rows", "basis"] spCols:=by
 refine F.ok scCols (fun vs H Q E h => ?_) (fun cdv A outer s H vs Q E hr h => ?_)
 ·obtain ⟨v1, v2, n, k, M, C, F, rfl, _⟩:=h
  rfl
 ·obtain ⟨v1, v2, n, k, M, C, F, rfl, s0, hv1, hv2, frm, bas, hk1, hk, kk⟩:=h
  have nd:=scCols.nd
  refine ⟨_, pss_cons (ps_set (i:=2) nd rfl (Or.inr rfl) (pe_call GT hr rfl mT kT bT .nil pass0 (pa_cons (pe_call GC hr rfl mC kC bC .nil pass0 (pa_cons (pv 0) (pa_cons (pv 1) pa_nil))) pa_nil)))
   (pss_one (ps_ret (pe_lc rfl nd (pi_range1 rfl hrng (pa_cons (pe_callB call_len_seq rfl hlen PySem.boot_len (pa_cons (pv 1) pa_nil)) pa_nil)) (blkOk_by (own:=[("j", 3)]) (by kernel_rfl)) (fun _ _ _ _ _ => pg_name (i:=3) nd rfl (Or.inr rfl)) (fun _ _ _ _ _ => pts_nil)
    (fun _ _ _ _ _ => pe_op op_cat (pe_ix (r:=rIxL K) ix_list (pv 1) (pv 3) (fun _ _ => rfl))
     (pe_lc rfl nd (pi_range1 rfl hrng (pa_cons (pe_op op_add (pv 3) pe_int) pa_nil)) (blkOk_by (own:=[("i", 4)]) (by kernel_rfl)) (fun _ _ _ _ _ => pg_name (i:=4) nd rfl (Or.inl rfl)) (fun _ _ _ _ _ => pts_nil)
      (fun _ _ _ _ _ => pe_ix (r:=rIxL K) ix_list (pe_ix (r:=rIxL K) ix_list (pv 2) (pv 4) (fun _ _ => rfl)) (pe_op op_sub (pv 3) (pv 4)) (fun _ _ => rfl))))))), ?_⟩
  generalize hG : gr n M C = G at *
  have hlead : Fm.Lead n G:=hG ▸ bas.lead frm
  refine ⟨_, rfl, _, rfl, v1, v2, n, k, M, C, F, rfl, s0, hv1, hv2, frm.low, hk, frm.sym, fun i c hi hc => Nat.lt_of_lt_of_le (bas.row_small frm (by omega) hc) (by decide), fun F1 H1 v3 e1 hv3 => ?_⟩
  rw [hG] at hv3
  refine ⟨v3, k, G, F1, rfl, e1.inn, hv3, hk1, by have:=frm.low; omega, hG ▸ tame_bas frm bas hk, fun F2 H2 v4 q e2 hv4 hq hpos hend => ?_⟩
  have eq : q + 1 = k:=by
   rcases hend with z | z
   ·exact z
   ·have:=hlead q (by omega)
    omega
  rw [eq] at hv4
  obtain ⟨t, ts, rfl, ht, relT⟩:=hv4
  obtain ⟨b, ys, rfl, hb, relC⟩:=hv2
  have e12:=e1.trans e2
  have hb2:=e12.ff _ _ hb
  have relC2:=Paired.up mono_row e12.ff relC
  have lenY : ys.length = k:=by rw [Paired.length relC]; exact rowsL_len _ _ _
  have h8:=frm.low
  refine ⟨_, rfl, b, _, rfl, .inl (row_seq hb2 e2.inn), _, rfl, by rw [lenY]; omega, by rw [lenY]; omega, ?_⟩
  rw [lenY, Int.toNat_natCast]
  intro D hD
  refine lc_range (lo:=0) (n:=k) (AccP IsRow F2 H2 D (colsL n C G k)) (Acc.p0 (Ext.refl e2.inn) hD) ?_ ?_
  ·intro j H3 hj hI
   obtain ⟨F3, us, a3⟩:=hI
   refine ⟨rfl, ?_⟩
   obtain ⟨y, hy, ⟨ya, rfl, hya⟩⟩:=pget' relC2 (rowsL_at hj)
   refine ⟨_, rfl, _, rfl, b, _, _, _, rfl, rfl, row_seq (a3.ext.ff _ _ hb2) a3.same, at_of (j:=j) (by omega) hy, ?_⟩
   refine ⟨_, rfl, _, _, rfl, rfl, _, rfl, by omega, by omega, ?_⟩
   have en : ((0 : Int) + (j : Int) + 1).toNat = j + 1:=by omega
   rw [en]
   intro D2 hD2
   refine lc_range (lo:=0) (n:=j + 1) (AccP IsI F3 H3 D2 (vec (j + 1) fun i => tp G i j)) (Acc.p0 (Ext.refl a3.same) hD2) ?_ ?_
   ·intro i H4 hi hI
    obtain ⟨F4, us4, a4⟩:=hI
    refine ⟨rfl, ?_⟩
    have s4:=a3.ext.ff.trans a4.ext.ff
    have htop : (topsL k G k)[i]? = some ((List.range (k - i)).map fun c => bm i G 0 c):=get_map_range (by omega)
    obtain ⟨tv, htv, ⟨ta, rfl, hta⟩⟩:=pget' relT htop
    refine ⟨_, rfl, _, rfl, t, _, _, _, rfl, rfl, row_seq (s4 _ _ ht) a4.same, at_of (j:=i) (by omega) htv, _, rfl, _, rfl, _, _, rfl, rfl, ta, _, _, _, rfl, rfl, row_seq (s4 _ _ hta) a4.same, at_of (j:=j - i) (by omega) (getV (by simp; omega)), ?_⟩
    rw [row_at (by omega)]
    refine a4.next mono_i (x:=bm i G 0 (j - i)) ?_ (by rw [Fm.vec_length]; omega) (Ext.refl a4.same) rfl
    rw [Fm.vec_get hi]
    unfold tp
    rw [if_neg (by omega)]
   ·rintro H4 a4
    obtain ⟨F5, e5, h5⟩:=a4.done mono_i (by rw [Fm.vec_length])
    obtain ⟨d, hd, hd2⟩:=row_of h5
    cases hd
    have hya5:=e5.hh _ _ (a3.same _ _ (a3.ext.ff _ _ hya))
    refine ⟨ya, D2, _, _, rfl, rfl, hya5, e5.inn _ _ hd2, ?_, fun p hp => ?_⟩
    ·rw [List.length_map, List.length_map, Fm.vec_length, Fm.vec_length, sizeLine_eq]; omega
    ·rw [<- List.map_append, col_split]
     have e6:=e5.put (o:=.lst ((vec (n + j + 1) (ck n C G j)).map V.int)) hp
     exact a3.next mono_row (col_at hj) (by unfold colsL; simp; omega) e6 ⟨p, rfl, upd_same⟩
  ·rintro H3 a3
   obtain ⟨F4, e4, h4⟩:=a3.done mono_row (by unfold colsL; simp)
   exact kk F4 H3 _ (e12.trans e4) h4
theorem scSettle : FnScope ["columns", "marks", "column", "corner", "size", "times", "x", "y"] ["columns", "marks"] (defScope sSettle):=⟨rfl, rfl, rfl, by decide +kernel, rfl, by decide +kernel, by decide +kernel⟩
theorem vec_drop {p k : Nat} {f : Nat -> Int} : (vec p f).drop k = vec (p - k) fun i => f (k + i):=by
 apply List.ext_getElem?
 intro i
 rw [List.getElem?_drop]
 by_cases h : i < p - k
 ·rw [Fm.vec_get (by omega), Fm.vec_get h]
 ·rw [List.getElem?_eq_none (by rw [Fm.vec_length]; omega), List.getElem?_eq_none (by rw [Fm.vec_length]; omega)]
theorem vec_take {p k : Nat} {f : Nat -> Int} (h : k <= p) : (vec p f).take k = vec k f:=by
 unfold vec
 rw [<- List.map_take, List.take_range, Nat.min_eq_left h]
theorem vec_app {p k : Nat} {f g : Nat -> Int} : vec p f ++ vec k g = vec (p + k) fun i => if i < p then f i else g (i - p):=by
 apply List.ext_getElem?
 intro i
 rw [List.getElem?_append, Fm.vec_length]
 by_cases h : i < p
 ·rw [if_pos h, Fm.vec_get h, Fm.vec_get (by omega), if_pos h]
 ·rw [if_neg h]
  by_cases h2 : i < p + k
  ·rw [Fm.vec_get (by omega), Fm.vec_get h2, if_neg h]
  ·rw [List.getElem?_eq_none (by rw [Fm.vec_length]; omega), List.getElem?_eq_none (by rw [Fm.vec_length]; omega)]
theorem ck_high {n : Nat} {C G : Mat} {j i : Nat} (h : n + j < i) : ck n C G j i = 0:=by
 unfold ck tp
 rw [if_neg (by omega), if_pos (by omega)]
theorem ok_settle {f : Addr} {fd : FuncData} (F : Fun K "settle" "settle" sSettle f fd) (hlen : mg "len" = none) (hzip : mg "zip" = none) (hrev : mg "reversed" = none) : FnOk P w K mg base CX0 1 f fd ["columns", "marks"] spSettle:=by
 refine F.ok scSettle (fun vs H Q E h => ?_) (fun cdv A outer s H vs Q E hr h => ?_)
 ·obtain ⟨v1, v2, n, k, M, C, w', y, F, rfl, _⟩:=h
  rfl
 ·obtain ⟨v1, v2, n, k, M, C, w', y, F, rfl, s0, ⟨b, xs, rfl, hb, rel⟩, hv2, frm, bas, hk, kk⟩:=h
  have nd:=scSettle.nd
  have h8:=frm.low
  generalize hG : gr n M C = G at *
  have hlead : Fm.Lead n G:=hG ▸ bas.lead frm
  have lenX : xs.length = k:=by rw [Paired.length rel]; simp [colsL]
  refine ⟨_, pss_cons (ps_for PassesOwn.never rfl (pi_reversed rfl hrev (pa_cons (pv 0) pa_nil)) (pg_name (i:=2) nd rfl (Or.inl rfl))
    (pss_cons (ps_set (i:=3) nd rfl (Or.inl rfl) (pe_ix ix_list (pv 2) (pe_un un_neg pe_int) (fun _ _ => rfl)))
    (pss_cons (ps_set (i:=4) nd rfl (Or.inl rfl) (pe_callB call_len_seq rfl hlen PySem.boot_len (pa_cons (pv 2) pa_nil)))
    (pss_cons (ps_set (i:=5) nd rfl (Or.inr rfl) (pe_op op_fdivB (pe_op op_add (pe_op op_mul pe_int (pe_ix ix_list (pv 1) (pe_op op_sub (pv 4) pe_int) (fun _ _ => rfl))) (pv 3)) (pe_op op_mul pe_int (pv 3))))
    (pss_one (ps_set (i:=1) nd rfl (Or.inl rfl) (pe_op op_cat (pe_lc rfl nd (pi_zip rfl hzip (pa_cons (pv 1) (pa_cons (pv 2) pa_nil))) (blkOk_by (own:=[("x", 6), ("y", 7)]) (by kernel_rfl))
     (fun _ _ _ _ _ => pg_pair K (i:=6) (j:=7) rfl nd rfl rfl (Or.inl rfl) (Or.inl rfl)) (fun _ _ _ _ _ => pts_nil) (fun _ _ _ _ _ => pe_op op_sub (pv 6) (pe_op op_mul (pv 5) (pv 7)))) (pe_slice sl_list (pv 1) (po_some (pv 4)) po_none))))))))
   (pss_one (ps_ret (pv 1))), ?_⟩
  refine ⟨_, rfl, b, xs, rfl, row_seq hb s0, ?_⟩
  refine for_rev (K:=K) (a:=b) (xs:=xs) (fun i σ H' => ∃ (F' : Hp) (v : V) (y' : Nat -> Int) (o2 o3 o4 o5 o6 o7 : Option V), σ = [some (.ref b), some v, o2, o3, o4, o5, o6, o7] /\ Ext F H F' H' /\ IsRow F' v (vec (n + k) (mk n C G w' y')) /\ stl n G (k - i) y' = stl n G k y) ⟨F, v2, y, none, none, none, none, none, none, rfl, Ext.refl s0, hv2, rfl⟩ (fun i σ H' ⟨F', v, y', o2, o3, o4, o5, o6, o7, _, e, _, _⟩ => row_seq (e.ff _ _ hb) e.inn) ?_ ?_
  ·intro i x σ H1 hi hx hI
   obtain ⟨F1, v, y', o2, o3, o4, o5, o6, o7, rfl, e1, ⟨va, rfl, hva⟩, hstl⟩:=hI
   obtain ⟨j, hj⟩ : ∃ j, k - 1 - i = j:=⟨_, rfl⟩
   rw [lenX, hj] at hx
   have hjk : j < k:=by omega
   obtain ⟨cl, hcl, hrow⟩:=pget rel hx
   rw [col_at hjk] at hcl
   cases hcl
   obtain ⟨xa, rfl, hxa⟩:=hrow
   have hxa1:=e1.ff _ _ hxa
   have d:=bas.dt_small frm (show j + 1 <= n by omega)
   rw [hG] at d
   refine ⟨_, rfl, 1, rfl, xa, _, _, _, rfl, rfl, row_seq hxa1 e1.inn, atI_end (k:=n + j) (by rw [List.length_map, Fm.vec_length]) (vecV (by omega)), ?_⟩
   rw [Fm.ck_corner]
   refine ⟨_, rfl, xa, _, rfl, .inl (row_seq hxa1 e1.inn), ?_⟩
   rw [List.length_map, Fm.vec_length]
   refine ⟨_, rfl, _, rfl, _, _, rfl, rfl, va, _, _, _, rfl, rfl, row_seq hva e1.inn, at_of (j:=n + j) (by omega) (vecV (by omega)), _, _, rfl, rfl, .inl ⟨by decide, by decide⟩, _, rfl, _, _, rfl, rfl, _, rfl, _, _, rfl, rfl, .inl ⟨by decide, by decide⟩, _, _, rfl, rfl, ⟨by omega, by omega⟩, ?_⟩
   rw [Fm.mk_side]
   generalize ht : (2 * side n G j y' + dt (j + 1) G) / (2 * dt (j + 1) G) = t
   refine ⟨_, rfl, _, rfl, va, xa, _, _, rfl, row_seq hva e1.inn, row_seq hxa1 e1.inn, fun D hD => ?_⟩
   refine lc_zip (K:=K) (a:=va) (b:=xa) (xs:=(vec (n + k) (mk n C G w' y')).map V.int) (ys:=(vec (n + j + 1) (ck n C G j)).map V.int) (AccP IsI F1 H1 D (vec (n + j + 1) (mk n C G w' (addz y' j (-t))))) (Acc.p0 (Ext.refl e1.inn) hD) (fun c H' ⟨F3, us3, a3⟩ => ⟨row_seq (a3.ext.ff _ _ hva) a3.same, row_seq (a3.ext.ff _ _ hxa1) a3.same⟩) ?_ ?_
   ·rintro c x1 x2 T H3 hx1 hx2 ⟨F3, us3, a3⟩ hT
    obtain ⟨hc, rfl⟩:=vec_i hx1
    obtain ⟨hc2, rfl⟩:=vec_i hx2
    refine ⟨T, _, rfl, SqT.of upd_same, rfl, _, _, rfl, _, _, rfl, rfl, rfl, ?_⟩
    have sm:=bas.ck_small frm (show j < n by omega) (show c < n + j + 1 by omega)
    rw [hG] at sm
    refine ⟨_, rfl, _, rfl, _, rfl, t, _, congrArg V.int ht, rfl, mul_ok' sm, _, _, rfl, rfl, ?_⟩
    refine a3.next mono_i (Fm.vec_get hc2) (by rw [Fm.vec_length]; omega) ((Ext.refl a3.same).put hT) ?_
    show V.int _ = V.int _
    rw [Fm.mk_addz (by omega)]
    congr 1
    rw [Int.neg_mul]
    omega
   ·rintro H3 a3
    obtain ⟨F4, e4, h4⟩:=a3.done mono_i (by rw [List.length_map, List.length_map, Fm.vec_length, Fm.vec_length, Fm.vec_length]; omega)
    obtain ⟨d4, hd4, hd4'⟩:=row_of h4
    cases hd4
    have hva4:=e4.ff _ _ hva
    have ecut : cutV ((vec (n + k) (mk n C G w' y')).map V.int) (some ((n + j + 1 : Nat) : Int)) none = (vec (n + k - (n + j + 1)) fun i => mk n C G w' y' (n + j + 1 + i)).map V.int:=by rw [cut_from, <- List.map_drop, vec_drop]
    refine ⟨_, rfl, _, rfl, _, rfl, va, _, rfl, row_seq hva4 e4.inn, fun p hp => ?_⟩
    rw [ecut]
    have e5:=e4.put (o:=.lst ((vec (n + k - (n + j + 1)) fun i => mk n C G w' y' (n + j + 1 + i)).map V.int)) hp
    have np : D ≠ p:=fun z => by
     rw [<- z] at hp
     rw [e4.inn _ _ hd4'] at hp
     cases hp
    refine ⟨D, p, _, _, rfl, rfl, (by rw [upd_ne np]; exact e4.inn _ _ hd4'), upd_same, ?_, fun q hq => ?_⟩
    ·rw [List.length_map, List.length_map, Fm.vec_length, Fm.vec_length, sizeLine_eq]; omega
    have e6:=e5.put (o:=.lst ((vec (n + k) (mk n C G w' (addz y' j (-t)))).map V.int)) hq
    have ejoin : (vec (n + j + 1) (mk n C G w' (addz y' j (-t)))).map V.int ++ ((vec (n + k - (n + j + 1)) fun i => mk n C G w' y' (n + j + 1 + i)).map V.int) = (vec (n + k) (mk n C G w' (addz y' j (-t)))).map V.int:=by
     rw [<- List.map_append, vec_app, show n + j + 1 + (n + k - (n + j + 1)) = n + k by omega]
     congr 1
     refine Fm.vec_congr fun c hc => ?_
     by_cases q : c < n + j + 1
     ·rw [if_pos q]
     ·rw [if_neg q, show n + j + 1 + (c - (n + j + 1)) = c by omega, Fm.mk_addz (by omega), ck_high (by omega), Int.mul_zero, Int.add_zero]
    rw [ejoin]
    refine ⟨_, _, addz y' j (-t), _, _, _, _, _, _, rfl, e1.trans e6, ⟨q, rfl, upd_same⟩, ?_⟩
    rw [<- hstl, show k - i = j + 1 by omega, show k - (i + 1) = j by omega, stl, ht]
  ·intro σ H1 hI
   obtain ⟨F1, v, y', o2, o3, o4, o5, o6, o7, rfl, e1, hv, hstl⟩:=hI
   rw [lenX, Nat.sub_self] at hstl
   have hstl : y' = stl n G k y:=hstl
   rw [hstl] at hv
   exact ⟨_, rfl, kk F1 H1 v e1 hv⟩
theorem scLess : FnScope ["columns", "beside", "at", "before", "corner"] ["columns", "beside"] (defScope sLess):=⟨rfl, rfl, rfl, by decide +kernel, rfl, by decide +kernel, by decide +kernel⟩
theorem ok_less {f : Addr} {fd : FuncData} (F : Fun K "is_less_swapped" "is_less_swapped" sLess f fd) (hlen : mg "len" = none) : FnOk P w K mg base CX0 1 f fd ["columns", "beside"] spLess:=by
 refine F.ok scLess (fun vs H Q E h => ?_) (fun cdv A outer s H vs Q E hr h => ?_)
 ·obtain ⟨v, n, a, M, C, b, F, rfl, _⟩:=h
  rfl
 ·obtain ⟨v, n, a, M, C, b, F, rfl, s0, ⟨la, xs, rfl, hla, rel⟩, frm, bas, ha, hb, k⟩:=h
  have nd:=scLess.nd
  have h8:=frm.low
  generalize hG : gr n M C = G at *
  have lenX : xs.length = a + 2:=by rw [Paired.length rel]; simp [colsL]
  refine ⟨_, pss_cons (ps_set (i:=2) nd rfl (Or.inl rfl) (pe_op op_sub (pe_callB call_len_seq rfl hlen PySem.boot_len (pa_cons (pv 0) pa_nil)) pe_int))
   (pss_cons (ps_set (i:=3) nd rfl (Or.inl rfl) (pe_ifExp (pt_cmpR op_gt (pv 2) pe_int (nomark _)) (pe_ix ix_list (pe_ix ix_list (pv 0) (pe_op op_sub (pv 2) pe_int) (fun _ _ => rfl)) (pe_un un_neg pe_int) (fun _ _ => rfl)) pe_int))
   (pss_cons (ps_set (i:=4) nd rfl (Or.inl rfl) (pe_ix ix_list (pe_ix ix_list (pv 0) (pe_op op_sub (pv 2) pe_int) (fun _ _ => rfl)) (pe_un un_neg pe_int) (fun _ _ => rfl)))
   (pss_one (ps_ret (pe_cmpR op_lt (pe_op op_add (pe_op op_mul (pv 1) (pv 1)) (pe_op op_mul (pv 3) (pe_ix ix_list (pe_ix ix_list (pv 0) (pv 2) (fun _ _ => rfl)) (pe_un un_neg pe_int) (fun _ _ => rfl)))) (pe_op op_mul (pv 4) (pv 4)) (nomark _)))))), ?_⟩
  refine ⟨_, rfl, la, _, rfl, .inl (row_seq hla s0), _, _, rfl, rfl, ?_⟩
  rw [lenX]
  have ea : (((a + 2 : Nat) : Int) - 1) = ((a + 1 : Nat) : Int):=by omega
  have col : ∀ j, j < a + 2 -> ∃ xa, xs[j]? = some (V.ref xa) /\ F xa = some (.lst ((vec (n + j + 1) (ck n C G j)).map V.int)):=fun j hj => by
   obtain ⟨x, hx, ⟨xa, rfl, hxa⟩⟩:=pget' rel (col_at hj)
   exact ⟨xa, hx, hxa⟩
  have last : ∀ j, atI ((vec (n + j + 1) (ck n C G j)).map V.int) (-1) = some (.int (dt (j + 1) G)):=fun j => by
   rw [<- Fm.ck_corner n C G j]
   exact atI_end (k:=n + j) (by rw [List.length_map, Fm.vec_length]) (vecV (by omega))
  have d1:=bas.dt_small frm (show a + 1 <= n by omega)
  have d0:=bas.dt_small frm (show a <= n by omega)
  rw [hG] at d0 d1
  have bef : ∀ Q' : V -> Hp -> Prop, Q' (.int (dt a G)) H -> tIf (tTest (tOp (rI0 fun i j => V.bl (decide (j < i))) (tVar 2) (tC (V.int 1)))) (tOp (rIxL K) (tOp (rIxL K) (tVar 0) (tOp (rI0 fun i j => V.int (i - j)) (tVar 2) (tC (V.int 2)))) (tUn (rU fun i => V.int (-i)) (tC (V.int 1)))) (tC (V.int 1)) [some (.ref la), some (.int b), some (.int (((a + 2 : Nat) : Int) - 1)), none, none] H Q':=fun Q' hq' => by
   refine ⟨_, rfl, _, 1, rfl, rfl, _, rfl, ite2 (fun hc => ?_) (fun hc => ?_)⟩
   ·have hc : (1 : Int) < ((a + 2 : Nat) : Int) - 1:=of_decide_eq_true hc
    obtain ⟨c, rfl⟩ : ∃ c, a = c + 1:=⟨a - 1, by omega⟩
    obtain ⟨xa, hx, hxa⟩:=col c (by omega)
    refine ⟨_, rfl, _, rfl, _, _, rfl, rfl, la, _, _, _, rfl, rfl, row_seq hla s0, at_of (j:=c) (by omega) hx, 1, rfl, xa, _, _, _, rfl, rfl, row_seq hxa s0, last c, ?_⟩
    exact hq'
   ·have hc : a = 0:=by
     have : ¬ (1 : Int) < ((a + 2 : Nat) : Int) - 1:=fun z => hc (decide_eq_true z)
     omega
    subst hc
    exact hq'
  refine bef _ ?_
  obtain ⟨x1, hx1, hxa1⟩:=col a (by omega)
  obtain ⟨x2, hx2, hxa2⟩:=col (a + 1) (by omega)
  refine ⟨_, rfl, _, rfl, _, _, rfl, rfl, la, _, _, _, rfl, rfl, row_seq hla s0, at_of (j:=a) (by omega) hx1, 1, rfl, x1, _, _, _, rfl, rfl, row_seq hxa1 s0, last a, ?_⟩
  refine ⟨_, rfl, _, rfl, b, b, rfl, rfl, mul_ok hb, _, rfl, _, rfl, _, rfl, la, _, _, _, rfl, rfl, row_seq hla s0, at_of (j:=a + 1) ea hx2, 1, rfl, x2, _, _, _, rfl, rfl, row_seq hxa2 s0, last (a + 1), _, _, rfl, rfl, .inl ⟨by omega, by omega⟩, _, _, rfl, rfl, _, rfl, _, rfl, _, _, rfl, rfl, .inl ⟨by omega, by omega⟩, _, _, rfl, rfl, ?_⟩
  exact k
end
end Pr
namespace Pr
open PySem PySem.Spec PyProof.Rows L2
open Fm (gm dt bm small vec chL colL colsL ck mk Latt gr sp side addz Mat sm pr tp stl Bas Frm Lll one xc ur sr)
theorem frm_of {n : Nat} {ns : List Int} (h8 : n <= 8) (h : Ql78.form n ns = true) : Frm n (gm n ns) :=
 ⟨Fm.form_symm h, fun x => Fm.pr_pos n _ (Fm.form_symm h) (Fm.form_lead h) x, h8, fun i j _ _ => Fm.small_mt (Fm.form_small h) i j⟩
def spReduced (K : PySem.W.Frag) : Sp:=fun vs H Q _ => ∃ (n : Nat) (a : Addr) (ns : List Int) (F : Hp), vs = [.int n, .ref a] /\ SqL K H a (ns.map V.int) /\ 1 <= n /\ n <= 8 /\ ns.length = n * n /\ Ql78.form n ns = true /\ Same F H /\
 ∀ (F' H' : Hp) (v : V) (C : Mat), Ext F H F' H' -> Latt n (gm n ns) C -> IsRows F' v (colsL n C (gr n (gm n ns) C) n) -> Q v H'
section
variable {P : Program} {w : World} {K : PySem.W.Frag} {mg : Str -> Option Value} {base : Heap}
theorem scReduced : FnScope ["n", "a", "rows", "basis", "at", "columns", "settled"] ["n", "a"] (defScope sReduced):=⟨rfl, rfl, rfl, by decide +kernel, rfl, by decide +kernel, by decide +kernel⟩
theorem rowsL_set {n k : Nat} {C : Mat} {i : Nat} {r : Nat -> Int} : (rowsL n k C).set i (vec n r) = rowsL n k (sr C i r):=by
 apply List.ext_getElem?
 intro j
 rw [List.getElem?_set]
 by_cases hj : j < k
 ·rw [rowsL_len]
  by_cases q : i = j
  ·subst q
   rw [if_pos rfl, if_pos hj, rowsL_at hj]
   congr 1
   exact Fm.vec_congr fun c _ => (Fm.sr_same C i r c).symm
  ·rw [if_neg q, rowsL_at hj, rowsL_at hj]
   congr 1
   exact Fm.vec_congr fun c _ => (Fm.sr_ne C r c (fun z => q z.symm)).symm
 ·rw [List.getElem?_eq_none (l:=rowsL n k (sr C i r)) (by rw [rowsL_len]; omega)]
  split
  ·rw [if_neg (by rw [rowsL_len]; omega)]
  ·exact List.getElem?_eq_none (by rw [rowsL_len]; omega)
theorem rowsL_take {n k j : Nat} {C : Mat} (h : j <= k) : (rowsL n k C).take j = rowsL n j C:=by
 unfold rowsL
 rw [<- List.map_take, List.take_range, Nat.min_eq_left h]
theorem colsL_take {n k j : Nat} {C G : Mat} (h : j <= k) : (colsL n C G k).take j = colsL n C G j:=by
 unfold colsL
 rw [<- List.map_take, List.take_range, Nat.min_eq_left h]
def RedW (F1 H1 : Hp) (n : Nat) (M : Mat) (a : Addr) (vr : V) (b : Addr) (c : Nat) (σ : L2.St) (H' : Hp) : Prop :=
 ∃ (at' : Nat) (C : Mat) (F' : Hp) (us : List V) (o5 o6 : Option V), c = Fm.todo n M C at' /\ σ = [some (.int n), some (.ref a), some vr, some (.ref b), some (.int at'), o5, o6] /\ Lll n M C at' /\ 1 <= at' /\ at' <= n /\ Acc IsRow F1 H1 b (rowsL n n C) F' H' us
theorem ok_reduced {f fS fU fC fT fL : Addr} {fd fdS fdU fdC fdT fdL : FuncData} (F : Fun K "reduced_columns" "reduced_columns" sReduced f fd) (hmax : mg "max" = none)
  (GS : FnOk P w K mg base CX0 1 fS fdS ["n", "a"] (spSplit K)) (kS : PySem.W.keepIn K (.ref fS) = true) (bS : Binds K fdS ["n", "a"] []) (mS : mg "split_rows" = some (.ref fS))
  (GU : FnOk P w K mg base CX0 1 fU fdU ["n"] spUnit) (kU : PySem.W.keepIn K (.ref fU) = true) (bU : Binds K fdU ["n"] []) (mU : mg "unit_rows" = some (.ref fU))
  (GC : FnOk P w K mg base CX0 3 fC fdC ["rows", "basis"] spCols) (kC : PySem.W.keepIn K (.ref fC) = true) (bC : Binds K fdC ["rows", "basis"] []) (mC : mg "columns_of" = some (.ref fC))
  (GT : FnOk P w K mg base CX0 1 fT fdT ["columns", "marks"] spSettle) (kT : PySem.W.keepIn K (.ref fT) = true) (bT : Binds K fdT ["columns", "marks"] []) (mT : mg "settle" = some (.ref fT))
  (GL : FnOk P w K mg base CX0 1 fL fdL ["columns", "beside"] spLess) (kL : PySem.W.keepIn K (.ref fL) = true) (bL : Binds K fdL ["columns", "beside"] []) (mL : mg "is_less_swapped" = some (.ref fL)) :
  FnOk P w K mg base CX0 4 f fd ["n", "a"] (spReduced K):=by
 refine F.ok scReduced (fun vs H Q E h => ?_) (fun cdv A outer s H vs Q E hr h => ?_)
 ·obtain ⟨n, a, ns, F, rfl, _⟩:=h
  rfl
 ·obtain ⟨n, a, ns, F, rfl, hs, h1, h8, hl, hform, s0, kk⟩:=h
  have nd:=scReduced.nd
  have hr1 : Room 1 _:=hr.mono (by decide)
  have frm:=frm_of h8 hform
  generalize hM : gm n ns = M at *
  refine ⟨_, pss_cons (ps_set (i:=2) nd rfl (Or.inl rfl) (pe_call GS hr1 rfl mS kS bS .nil pass0 (pa_cons (pv 0) (pa_cons (pv 1) pa_nil))))
   (pss_cons (ps_set (i:=3) nd rfl (Or.inl rfl) (pe_call GU hr1 rfl mU kU bU .nil pass0 (pa_cons (pv 0) pa_nil)))
   (pss_cons (ps_set (i:=4) nd rfl (Or.inl rfl) pe_int)
   (pss_cons (ps_while PassesOwn.never (pt_cmpR op_lt (pv 4) (pv 0) (nomark _))
    (pss_cons (ps_set (i:=5) nd rfl (Or.inl rfl) (pe_call GC hr rfl mC kC bC .nil pass0 (pa_cons (pv 2) (pa_cons (pe_slice sl_list (pv 3) po_none (po_some (pe_op op_add (pv 4) pe_int))) pa_nil))))
    (pss_cons (ps_set (i:=6) nd rfl (Or.inl rfl) (pe_call GT hr1 rfl mT kT bT .nil pass0 (pa_cons (pe_slice sl_list (pv 5) po_none (po_some (pv 4))) (pa_cons (pe_slice sl_list (pe_ix ix_list (pv 5) (pv 4) (fun _ _ => rfl)) po_none (po_some (pe_un un_neg pe_int))) pa_nil))))
    (pss_cons (ps_asg (pe_slice sl_list (pv 6) po_none (po_some (pv 0))) (pg_sub (pv 3) (pv 4) set_list))
    (pss_one (ps_if (pt_val (pe_call GL hr1 rfl mL kL bL .nil pass0 (pa_cons (pv 5) (pa_cons (pe_ix ix_list (pv 6) (pe_un un_neg pe_int) (fun _ _ => rfl)) pa_nil))))
     (pss_cons (ps_asg (pe_ix ix_list (pv 3) (pe_op op_sub (pv 4) pe_int) (fun _ _ => rfl)) (pg_sub (pv 3) (pv 4) set_list))
     (pss_cons (ps_asg (pe_slice sl_list (pv 6) po_none (po_some (pv 0))) (pg_sub (pv 3) (pe_op op_sub (pv 4) pe_int) set_list))
     (pss_one (ps_set (i:=4) nd rfl (Or.inl rfl) (pe_callB (call_max2 rfl) rfl hmax PyProof.Rows.boot_max (pa_cons (pe_op op_sub (pv 4) pe_int) (pa_cons pe_int pa_nil)))))))
     (pss_one (ps_aug (i:=4) nd rfl (Or.inl rfl) pe_int ip_add))))))))
   (pss_one (ps_ret (pe_call GC hr rfl mC kC bC .nil pass0 (pa_cons (pv 2) (pa_cons (pv 3) pa_nil)))))))), ?_⟩
  refine ⟨_, rfl, _, rfl, n, a, ns, F, rfl, hs, h8, hl, s0, fun F1 H1 vr e1 hvr => ?_⟩
  rw [hM] at hvr
  refine ⟨_, rfl, n, F1, rfl, h8, e1.inn, fun F2 H2 b us2 acc0 => ?_⟩
  refine ⟨RedW F1 H1 n M a vr b, ⟨_, 1, one, F2, us2, none, none, rfl, rfl, Lll.start frm (fun _ _ _ _ => rfl), Nat.le_refl _, h1, acc0⟩, ?_⟩
  intro c σ H3 hI
  obtain ⟨at', C, F3, us, o5, o6, rfl, rfl, lll, a1, an, acc⟩:=hI
  refine ⟨_, rfl, _, rfl, _, _, rfl, rfl, _, rfl, ite2 (fun hc => ?_) (fun hc => ?_)⟩
  ·have hc : (at' : Int) < n:=of_decide_eq_true hc
   have hlt : at' < n:=by omega
   obtain ⟨a0, rfl⟩ : ∃ a0, at' = a0 + 1:=⟨at' - 1, by omega⟩
   refine ⟨fun σ' H' => ∃ c', c' < Fm.todo n M C (a0 + 1) /\ RedW F1 H1 n M a vr b c' σ' H', fun σ' H' ⟨c', hlt', z⟩ => ⟨c', hlt', z⟩, ?_⟩
   have hlead:=lll.bas.lead frm
   have lenU : us.length = n:=by rw [acc.len, rowsL_len]
   refine ⟨_, rfl, _, rfl, _, rfl, _, _, rfl, rfl, _, rfl, b, _, rfl, SqL.of acc.at_, fun p hp => ?_⟩
   have ecut : cutV us none (some (((a0 + 1 : Nat) : Int) + 1)) = us.take (a0 + 2):=cut_to us (a0 + 2)
   rw [ecut]
   have e4 : Ext F3 H3 (upd F3 p (.lst (us.take (a0 + 2)))) (upd H3 p (.lst (us.take (a0 + 2)))):=(Ext.refl acc.same).put hp
   have acc4:=acc.pass mono_row e4
   have rows4 : IsRows (upd F3 p (.lst (us.take (a0 + 2)))) (.ref p) (rowsL n (a0 + 2) C):=⟨p, _, rfl, upd_same, by rw [<- rowsL_take (show a0 + 2 <= n by omega)]; exact ptake _ (Paired.up mono_row e4.ff acc.rel)⟩
   generalize upd F3 p (.lst (us.take (a0 + 2))) = F4 at e4 acc4 rows4
   generalize upd H3 p (.lst (us.take (a0 + 2))) = H4 at e4 acc4
   refine ⟨vr, .ref p, n, a0 + 2, M, C, F4, rfl, acc4.same, mono_rows.up acc4.ext.ff hvr, rows4, frm, lll.bas, by omega, by omega, fun F5 H5 vc e5 hvc => ?_⟩
   have acc5:=acc4.pass mono_row e5
   generalize hG : gr n M C = G at *
   have hvc0:=hvc
   obtain ⟨ca, xs, rfl, hca, relC⟩:=hvc0
   have lenX : xs.length = a0 + 2:=by rw [Paired.length relC]; simp [colsL]
   refine ⟨_, rfl, _, rfl, _, rfl, ca, _, rfl, row_seq hca acc5.same, fun p6 hp6 => ?_⟩
   rw [cut_to xs (a0 + 1)]
   have e6 : Ext F5 H5 (upd F5 p6 (.lst (xs.take (a0 + 1)))) (upd H5 p6 (.lst (xs.take (a0 + 1)))):=(Ext.refl acc5.same).put hp6
   have acc6:=acc5.pass mono_row e6
   have cols6 : IsRows (upd F5 p6 (.lst (xs.take (a0 + 1)))) (.ref p6) (colsL n C G (a0 + 1)):=⟨p6, _, rfl, upd_same, by rw [<- colsL_take (show a0 + 1 <= a0 + 2 by omega)]; exact ptake _ (Paired.up mono_row e6.ff relC)⟩
   have hca6:=e6.ff _ _ hca
   have relC6:=Paired.up mono_row e6.ff relC
   have hvc6:=mono_rows.up e6.ff hvc
   generalize upd F5 p6 (.lst (xs.take (a0 + 1))) = F6 at e6 acc6 cols6 hca6 relC6 hvc6
   generalize upd H5 p6 (.lst (xs.take (a0 + 1))) = H6 at e6 acc6
   obtain ⟨x, hx, ⟨xa, rfl, hxa⟩⟩:=pget' relC6 (col_at (show a0 + 1 < a0 + 2 by omega))
   refine ⟨_, rfl, _, rfl, ca, _, _, _, rfl, rfl, row_seq hca6 acc6.same, at_of (j:=a0 + 1) rfl hx, 1, rfl, _, rfl, xa, _, rfl, row_seq hxa acc6.same, fun p7 hp7 => ?_⟩
   rw [vec_cut]
   have e7 : Ext F6 H6 (upd F6 p7 (.lst ((vec (n + (a0 + 1)) (ck n C G (a0 + 1))).map V.int))) (upd H6 p7 (.lst ((vec (n + (a0 + 1)) (ck n C G (a0 + 1))).map V.int))):=(Ext.refl acc6.same).put hp7
   have acc7:=acc6.pass mono_row e7
   have row7 : IsRow (upd F6 p7 (.lst ((vec (n + (a0 + 1)) (ck n C G (a0 + 1))).map V.int))) (.ref p7) (vec (n + (a0 + 1)) (mk n C G (fun _ => 0) (ur (a0 + 1)))):=⟨p7, rfl, by rw [upd_same, Fm.vec_congr fun i _ => Fm.mk_ur (C:=C) (G:=G) hlt i]⟩
   have cols7:=mono_rows.up e7.ff cols6
   have hvc7:=mono_rows.up e7.ff hvc6
   generalize upd F6 p7 (.lst ((vec (n + (a0 + 1)) (ck n C G (a0 + 1))).map V.int)) = F7 at e7 acc7 row7 cols7 hvc7
   generalize upd H6 p7 (.lst ((vec (n + (a0 + 1)) (ck n C G (a0 + 1))).map V.int)) = H7 at e7 acc7
   refine ⟨.ref p6, .ref p7, n, a0 + 1, M, C, fun _ => 0, ur (a0 + 1), F7, rfl, acc7.same, hG ▸ cols7, hG ▸ row7, frm, lll.bas, by omega, fun F8 H8 vt e8 hvt => ?_⟩
   rw [hG] at hvt
   have acc8:=acc7.pass mono_row e8
   have hvc8:=mono_rows.up e8.ff hvc7
   generalize hy : stl n G (a0 + 1) (ur (a0 + 1)) = y at *
   have own : Fm.Own (a0 + 1) y:=by
    have up:=fun c hc => Fm.stl_up n G (a0 + 1) (ur (a0 + 1)) c hc
    rw [hy] at up
    exact ⟨by rw [up _ (Nat.le_refl _)]; simp [ur], fun j hj => by rw [up j (by omega)]; unfold ur; rw [if_neg (by omega)]⟩
   have settled : Fm.Settled n G (a0 + 1) y:=⟨own, fun k hk => by
    have:=Fm.stl_half hlead (a0 + 1) (ur (a0 + 1)) (by omega) k hk
    rwa [hy] at this⟩
   obtain ⟨ta, rfl, hta⟩:=hvt
   have elow : (vec (n + (a0 + 1)) (mk n C G (fun _ => 0) y)).take n = vec n (xc n C y):=by
    rw [vec_take (by omega)]
    exact Fm.vec_congr fun c hc => by rw [Fm.mk_low hc, Int.zero_add]
   have ecut2 : cutV ((vec (n + (a0 + 1)) (mk n C G (fun _ => 0) y)).map V.int) none (some (n : Int)) = (vec n (xc n C y)).map V.int:=by rw [cut_to, <- List.map_take, elow]
   refine ⟨_, rfl, _, rfl, _, rfl, ta, _, rfl, row_seq hta acc8.same, fun p9 hp9 => ?_⟩
   rw [ecut2]
   have e9 : Ext F8 H8 (upd F8 p9 (.lst ((vec n (xc n C y)).map V.int))) (upd H8 p9 (.lst ((vec n (xc n C y)).map V.int))):=(Ext.refl acc8.same).put hp9
   have acc9:=acc8.pass mono_row e9
   have row9 : IsRow (upd F8 p9 (.lst ((vec n (xc n C y)).map V.int))) (.ref p9) (vec n (xc n C y)):=⟨p9, rfl, upd_same⟩
   have hta9:=e9.ff _ _ hta
   have hvc9:=mono_rows.up e9.ff hvc8
   generalize upd F8 p9 (.lst ((vec n (xc n C y)).map V.int)) = F9 at e9 acc9 row9 hta9 hvc9
   generalize upd H8 p9 (.lst ((vec n (xc n C y)).map V.int)) = H9 at e9 acc9
   refine ⟨_, rfl, _, rfl, b, us, _, a0 + 1, rfl, rfl, acc9.at_, ixN_nat (by omega), ?_⟩
   have acc10:=acc9.set (i:=a0 + 1) row9
   rw [rowsL_set] at acc10
   generalize hus : us.set (a0 + 1) (.ref p9) = us' at acc10
   generalize upd H9 b (.lst us') = H10 at acc10
   have lenU' : us'.length = n:=by rw [acc10.len, rowsL_len]
   have made : Fm.Made n C (a0 + 1) y (sr C (a0 + 1) (xc n C y)):=⟨fun i c _ _ hne => Fm.sr_ne _ _ _ hne, fun c _ => Fm.sr_same _ _ _ _⟩
   have hh:=settled.half a0 (by omega)
   have d1:=lll.bas.dt_small frm (show a0 + 1 <= n by omega)
   rw [hG] at d1
   refine ⟨_, rfl, _, rfl, 1, rfl, ta, _, _, _, rfl, rfl, row_seq hta9 acc10.same, atI_end (k:=n + a0) (by rw [List.length_map, Fm.vec_length]; omega) (vecV (by omega)), ?_⟩
   rw [Fm.mk_side]
   refine ⟨.ref ca, n, a0, M, C, side n G a0 y, F9, rfl, acc10.same, hG ▸ hvc9, frm, lll.bas, by omega, by omega, ?_⟩
   rw [hG]
   refine ⟨_, rfl, ite2 (fun hless => ?_) (fun hless => ?_)⟩
   ·have hless:=of_decide_eq_true hless
    have sw : Fm.Swapped n (sr C (a0 + 1) (xc n C y)) a0 (sr (sr (sr C (a0 + 1) (xc n C y)) (a0 + 1) (C a0)) a0 (xc n C y)) :=
     ⟨fun r c _ _ h1 h2 => by rw [Fm.sr_ne _ _ _ h1, Fm.sr_ne _ _ _ h2], fun c _ => by rw [Fm.sr_same, Fm.sr_same], fun c _ => by rw [Fm.sr_ne _ _ _ (by omega), Fm.sr_same, Fm.sr_ne _ _ _ (by omega)]⟩
    obtain ⟨lll2, lt2⟩:=lll.back frm hlt (hG ▸ settled) made sw (hG ▸ hless)
    obtain ⟨xb, hxb, hxrow⟩:=pget' acc10.rel (rowsL_at (show a0 < n by omega))
    refine ⟨_, rfl, _, rfl, _, _, rfl, rfl, b, _, _, _, rfl, rfl, SqL.of acc10.at_, at_of (j:=a0) (by omega) hxb, _, rfl, _, rfl, b, us', _, a0 + 1, rfl, rfl, acc10.at_, ixN_nat (by omega), ?_⟩
    have acc11:=acc10.set (i:=a0 + 1) hxrow
    rw [Fm.vec_congr (y:=C a0) fun c _ => Fm.sr_ne _ _ _ (by omega), rowsL_set] at acc11
    generalize hus2 : us'.set (a0 + 1) xb = us2' at acc11
    generalize upd H10 b (.lst us2') = H11 at acc11
    have lenU2 : us2'.length = n:=by rw [acc11.len, rowsL_len]
    refine ⟨_, rfl, _, rfl, _, rfl, ta, _, rfl, row_seq hta9 acc11.same, fun p12 hp12 => ?_⟩
    rw [ecut2]
    have e12 : Ext F9 H11 (upd F9 p12 (.lst ((vec n (xc n C y)).map V.int))) (upd H11 p12 (.lst ((vec n (xc n C y)).map V.int))):=(Ext.refl acc11.same).put hp12
    have acc12:=acc11.pass mono_row e12
    refine ⟨_, rfl, _, rfl, _, _, rfl, rfl, b, us2', _, a0, rfl, rfl, acc12.at_, ?_, ?_⟩
    ·rw [show (((a0 + 1 : Nat) : Int) - 1) = (a0 : Int) by omega]
     exact ixN_nat (by omega)
    have acc13:=acc12.set (i:=a0) (y:=.ref p12) (x:=vec n (xc n C y)) ⟨p12, rfl, upd_same⟩
    rw [rowsL_set] at acc13
    refine ⟨_, rfl, _, _, rfl, rfl, _, _, rfl, ?_⟩
    refine ⟨_, lt2, max a0 1, _, _, _, some (.ref ca), some (.ref ta), rfl, ?_, lll2, by omega, by omega, acc13⟩
    have em : (if (1 : Int) > ((a0 + 1 : Nat) : Int) - 1 then (1 : Int) else ((a0 + 1 : Nat) : Int) - 1) = ((max a0 1 : Nat) : Int):=by
     split <;> omega
    rw [<- em]
    rfl
   ·have hless : ¬ _:=fun z => hless (decide_eq_true z)
    obtain ⟨lll2, lt2⟩:=lll.stay frm hlt (hG ▸ settled) made (hG ▸ hless)
    refine ⟨_, rfl, _, _, rfl, rfl, _, lt2, a0 + 2, _, _, _, _, _, rfl, rfl, lll2, by omega, by omega, acc10⟩
  ·have hc : ¬ (at' : Int) < n:=fun z => hc (decide_eq_true z)
   have e : at' = n:=by omega
   subst e
   obtain ⟨e4, h4, _⟩:=acc.done mono_row
   refine ⟨_, rfl, _, rfl, vr, .ref b, at', at', M, C, _, rfl, e4.inn, mono_rows.up e4.ff hvr, h4, frm, lll.bas, h1, Nat.le_refl _, fun F5 H5 vc e5 hvc => ?_⟩
   exact kk F5 H5 vc C ((e1.trans e4).trans e5) ⟨frm, lll⟩ hvc
end
end Pr
namespace Pr
open PySem PySem.Spec PyProof.Rows L2
def AskN (n : Int) (ns : List Int) : Prop:=1 <= n -> n <= 8 -> ((ns.length : Int) = n * n)
theorem askN_nat {n : Int} {ns : List Int} (h : AskN n ns) (h1 : 1 <= n) (h8 : n <= 8) : ∃ k : Nat, n = (k : Int) /\ n.toNat = k /\ 1 <= k /\ k <= 8 /\ ns.length = k * k:=by
 refine ⟨n.toNat, by omega, rfl, by omega, by omega, ?_⟩
 have z:=h h1 h8
 have e : n = (n.toNat : Int):=by omega
 rw [e, <- Int.natCast_mul] at z
 exact Int.ofNat.inj z
theorem between_iff (n lo hi : Int) : Ql78.between n lo hi = decide (lo <= n /\ n <= hi):=by
 unfold Ql78.between
 rw [Bool.eq_iff_iff]
 simp
theorem asked_n {n : Int} {l : List Int} (h : (Ql78Neutral.whole32 n && Ql78Neutral.square l n) = true) : AskN n l:=fun h1 h8 => by
 have q:=(Bool.and_eq_true_iff.mp h).2
 have q:=of_decide_eq_true (Bool.and_eq_true_iff.mp q).2
 rw [if_pos ⟨h1, h8⟩] at q
 exact q
end Pr
namespace Pr
open PySem PySem.Spec PyProof.Rows L2
open Fm (gm vec gr Mat gcdl shortB ins ups beh mstep longer mset)
theorem for_zip {K : PySem.W.Frag} {a b : Addr} {xs ys : List V} {g : TG} {tb : TS} {D : Ends} {σ : L2.St} {H : Hp} (Pv : Nat -> L2.St -> Hp -> Prop) (h0 : Pv 0 σ H) (hl : ∀ i σ H, Pv i σ H -> SqL K H a xs /\ SqL K H b ys)
  (hs : ∀ i x y T σ H, xs[i]? = some x -> ys[i]? = some y -> Pv i σ H -> H T = none -> g (.ref T) σ (upd H T (.tup [x, y])) fun σ2 H2 => tb { D with nx:=Pv (i + 1), ct:=Pv (i + 1), bk:=D.nx } σ2 H2) (hd : ∀ σ H, Pv (min xs.length ys.length) σ H -> D.nx σ H) :
  ∃ W : Nat -> Nat -> L2.St -> Hp -> Prop, (∃ m, W 0 m σ H) /\ ∀ i m σ H, W i m σ H ->
   ((Itz K a b).stop i H /\ D.nx σ H) \/ ((Itz K a b).go i H /\ ∃ N : L2.St -> Hp -> Prop, (∀ σ' H', N σ' H' -> ∃ m', m' < m /\ W (i + 1) m' σ' H') /\ ∀ x H', (Itz K a b).yld i H x H' -> g x σ H' fun σ2 H2 => tb { D with nx:=N, ct:=N, bk:=D.nx } σ2 H2):=by
 refine ⟨fun i m σ H => m = min xs.length ys.length - i /\ i <= min xs.length ys.length /\ Pv i σ H, ⟨_, rfl, Nat.zero_le _, h0⟩, ?_⟩
 intro i m σ H hI
 obtain ⟨rfl, hi, p⟩:=hI
 obtain ⟨q1, q2⟩:=hl i σ H p
 by_cases hlt : i < min xs.length ys.length
 ·have hx : xs[i]? = some xs[i]:=List.getElem?_eq_getElem (by omega)
  have hy : ys[i]? = some ys[i]:=List.getElem?_eq_getElem (by omega)
  refine .inr ⟨⟨xs, ys, _, _, q1, q2, hx, hy⟩, Pv (i + 1), fun σ' H' p' => ⟨_, by omega, rfl, hlt, p'⟩, fun x H' z => ?_⟩
  obtain ⟨T, x1, y1, e1, hT, e2, w1, w2⟩:=z
  subst e1 e2
  exact hs i x1 y1 T σ H (w1 xs q1) (w2 ys q2) p hT
 ·have e : i = min xs.length ys.length:=by omega
  subst e
  exact .inl ⟨⟨xs, ys, q1, q2, by omega⟩, hd σ H p⟩
abbrev sGcd : Stmt:=top 25
abbrev sShort : Stmt:=top 22
def spGcd : Sp:=fun vs H Q _ => ∃ (v : V) (ns : List Int) (F : Hp), vs = [v] /\ Same F H /\ IsRow F v ns /\ Q (.int (gcdl ns : Nat)) H
def spShort : Sp:=fun vs H Q _ => ∃ (v1 v2 : V) (t o : List Int) (F : Hp), vs = [v1, v2] /\ Same F H /\ IsRow F v1 t /\ IsRow F v2 o /\ ∀ F' H' : Hp, Ext F H F' H' -> Q (.bl (shortB t o)) H'
section
variable {P : Program} {w : World} {K : PySem.W.Frag} {mg : Str -> Option Value} {base : Heap}
theorem scGcd : FnScope ["numbers", "found", "number", "other", "rest"] ["numbers"] (defScope sGcd):=⟨rfl, rfl, rfl, by decide +kernel, rfl, by decide +kernel, by decide +kernel⟩
theorem abs_if (i : Int) : (if i < 0 then -i else i) = (i.natAbs : Int):=by split <;> omega
theorem ok_gcd {f : Addr} {fd : FuncData} (F : Fun K "common_divisor" "common_divisor" sGcd f fd) (habs : mg "abs" = none) : FnOk P w K mg base CX0 1 f fd ["numbers"] spGcd:=by
 refine F.ok scGcd (fun vs H Q E h => ?_) (fun cdv A outer s H vs Q E hr h => ?_)
 ·obtain ⟨v, ns, F, rfl, _⟩:=h
  rfl
 ·obtain ⟨v, ns, F, rfl, s0, ⟨a, rfl, ha⟩, k⟩:=h
  have nd:=scGcd.nd
  refine ⟨_, pss_cons (ps_set (i:=1) nd rfl (Or.inl rfl) pe_int)
   (pss_cons (ps_for PassesOwn.never rfl (pi_list (pv 0)) (pg_name (i:=2) nd rfl (Or.inl rfl))
    (pss_cons (ps_set (i:=3) nd rfl (Or.inl rfl) (pe_callB call_abs rfl habs PyProof.Rows.boot_abs (pa_cons (pv 2) pa_nil)))
    (pss_one (ps_while PassesOwn.never (pt_cmpR op_gt (pv 3) pe_int (nomark _))
     (pss_cons (ps_set (i:=4) nd rfl (Or.inl rfl) (pe_op op_mod (pv 1) (pv 3)))
     (pss_cons (ps_set (i:=1) nd rfl (Or.inl rfl) (pv 3))
     (pss_one (ps_set (i:=3) nd rfl (Or.inl rfl) (pv 4)))))))))
   (pss_one (ps_ret (pv 1)))), ?_⟩
  refine ⟨_, rfl, a, rfl, ⟨_, row_seq ha s0⟩, ?_⟩
  refine for_list (K:=K) (a:=a) (xs:=ns.map V.int) (fun i σ H' => ∃ (o2 o3 o4 : Option V), σ = [some (.ref a), some (.int (gcdl (ns.take i) : Nat)), o2, o3, o4] /\ H' = H) ⟨none, none, none, rfl, rfl⟩ (fun i σ H' _ ⟨_, _, _, _, e⟩ => by rw [e]; exact row_seq ha s0) ?_ ?_
  ·intro i x σ H' hx hI
   obtain ⟨o2, o3, o4, rfl, rfl⟩:=hI
   rw [List.getElem?_map] at hx
   obtain ⟨n, hn, rfl⟩:=Option.map_eq_some_iff.mp hx
   refine ⟨_, rfl, n, rfl, ?_⟩
   rw [abs_if]
   refine ⟨fun c σ H'' => ∃ (g t : Nat) (o4 : Option V), σ = [some (.ref a), some (.int (g : Nat)), some (.int n), some (.int (t : Nat)), o4] /\ c = t /\ H'' = H' /\ Nat.gcd g t = gcdl (ns.take (i + 1)), ⟨_, gcdl (ns.take i), n.natAbs, _, rfl, rfl, rfl, ?_⟩, ?_⟩
   ·unfold gcdl
    rw [List.take_add_one, hn, List.foldl_append]
    rfl
   ·intro c σ H'' hI
    obtain ⟨g, t, o4, rfl, rfl, rfl, hg⟩:=hI
    refine ⟨_, rfl, _, _, rfl, rfl, _, rfl, ite2 (fun hc => ?_) (fun hc => ?_)⟩
    ·have hc : (0 : Int) < (c : Int):=of_decide_eq_true hc
     refine ⟨fun σ' H3 => ∃ (g' t' : Nat) (o4 : Option V), σ' = [some (.ref a), some (.int (g' : Nat)), some (.int n), some (.int (t' : Nat)), o4] /\ t' < c /\ H3 = H'' /\ Nat.gcd g' t' = gcdl (ns.take (i + 1)), fun σ' H3 ⟨g', t', o4, e1, e2, e3, e4⟩ => ⟨t', e2, g', t', o4, e1, rfl, e3, e4⟩, ?_⟩
     refine ⟨_, rfl, _, rfl, _, _, rfl, rfl, hc, ?_⟩
     refine ⟨_, rfl, _, rfl, c, g % c, _, rfl, Nat.mod_lt _ (by omega), rfl, ?_⟩
     rw [<- hg, Nat.gcd_comm g c, Nat.gcd_rec c g, Nat.gcd_comm]
    ·have hc : ¬ (0 : Int) < (c : Int):=fun z => hc (decide_eq_true z)
     have e : c = 0:=by omega
     subst e
     rw [Nat.gcd_zero_right] at hg
     exact ⟨_, _, _, by rw [hg], rfl⟩
  ·intro σ H' hI
   obtain ⟨o2, o3, o4, rfl, rfl⟩:=hI
   rw [List.length_map, List.take_length]
   exact ⟨_, rfl, k⟩
theorem scShort : FnScope ["tail", "owns", "number", "own"] ["tail", "owns"] (defScope sShort):=⟨rfl, rfl, rfl, by decide +kernel, rfl, by decide +kernel, by decide +kernel⟩
theorem ok_short {f : Addr} {fd : FuncData} (F : Fun K "is_short" "is_short" sShort f fd) (hzip : mg "zip" = none) (habs : mg "abs" = none) : FnOk P w K mg base CX0 1 f fd ["tail", "owns"] spShort:=by
 refine F.ok scShort (fun vs H Q E h => ?_) (fun cdv A outer s H vs Q E hr h => ?_)
 ·obtain ⟨v1, v2, t, o, F, rfl, _⟩:=h
  rfl
 ·obtain ⟨v1, v2, t, o, F, rfl, s0, ⟨a, rfl, ha⟩, ⟨b, rfl, hb⟩, k⟩:=h
  have nd:=scShort.nd
  refine ⟨_, pss_cons (ps_for PassesOwn.never rfl (pi_zip rfl hzip (pa_cons (pv 0) (pa_cons (pv 1) pa_nil))) (pg_pair K (i:=2) (j:=3) rfl nd rfl rfl (Or.inl rfl) (Or.inl rfl))
    (pss_one (ps_if (pt_cmpR op_gt (pe_op op_mul pe_int (pe_callB call_abs rfl habs PyProof.Rows.boot_abs (pa_cons (pv 2) pa_nil))) (pv 3) (nomark _)) (pss_one (ps_ret pe_bl)) pss_nil)))
   (pss_one (ps_ret pe_bl)), ?_⟩
  refine ⟨_, rfl, _, rfl, a, b, _, _, rfl, row_seq ha s0, row_seq hb s0, ?_⟩
  refine for_zip (K:=K) (a:=a) (b:=b) (xs:=t.map V.int) (ys:=o.map V.int) (fun i σ H' => ∃ (F' : Hp) (o2 o3 : Option V), σ = [some (.ref a), some (.ref b), o2, o3] /\ Ext F H F' H' /\ ((t.zip o).take i).all (fun p => decide (2 * (p.1.natAbs : Int) <= p.2)) = true)
   ⟨F, none, none, rfl, Ext.refl s0, rfl⟩ (fun i σ H' ⟨F', _, _, _, e, _⟩ => ⟨row_seq (e.ff _ _ ha) e.inn, row_seq (e.ff _ _ hb) e.inn⟩) ?_ ?_
  ·rintro i x y T σ H' hx hy ⟨F', o2, o3, rfl, e, hall⟩ hT
   rw [List.getElem?_map] at hx hy
   obtain ⟨n, hn, rfl⟩:=Option.map_eq_some_iff.mp hx
   obtain ⟨w', hw, rfl⟩:=Option.map_eq_some_iff.mp hy
   have hz : (t.zip o)[i]? = some (n, w'):=by rw [List.getElem?_zip_eq_some]; exact ⟨hn, hw⟩
   refine ⟨T, _, rfl, SqT.of upd_same, rfl, _, _, rfl, _, _, rfl, rfl, ?_⟩
   have e2:=e.put (o:=.tup [.int n, .int w']) hT
   refine ⟨_, rfl, n, rfl, ?_⟩
   rw [abs_if]
   refine ⟨_, _, rfl, rfl, .inl ⟨by decide, by decide⟩, _, rfl, _, _, rfl, rfl, _, rfl, ite2 (fun hc => ?_) (fun hc => ?_)⟩
   ·have hc : w' < 2 * (n.natAbs : Int):=of_decide_eq_true hc
    have ef : shortB t o = false:=by
     unfold shortB
     rw [Bool.eq_false_iff]
     intro z
     have:=List.all_eq_true.mp z _ (List.mem_of_getElem? hz)
     have:=of_decide_eq_true this
     have : 2 * (n.natAbs : Int) <= w':=this
     omega
    rw [<- ef]
    exact k _ _ e2
   ·have hc : ¬ w' < 2 * (n.natAbs : Int):=fun z => hc (decide_eq_true z)
    refine ⟨_, _, _, rfl, e2, ?_⟩
    rw [List.take_add_one, hz, List.all_append, hall]
    simp
    omega
  ·intro σ H' hI
   obtain ⟨F', o2, o3, rfl, e, hall⟩:=hI
   have ef : shortB t o = true:=by
    unfold shortB
    rw [List.length_map, List.length_map, <- List.length_zip, List.take_length] at hall
    exact hall
   rw [<- ef]
   exact k _ _ e
end
end Pr
namespace Pr
open PySem PySem.Spec PyProof.Rows L2
open Fm (gm vec gr Mat gcdl shortB ins ups beh mstep longer mset)
abbrev sLong : Stmt:=top 24
def encM (D : List (List Int × Int)) : List (List Key × V):=D.map fun p => (p.1.map Sum.inl, V.int p.2)
def IsMin : Hp -> V -> List (List Int × Int) -> Prop:=fun F v D => ∃ d o, v = .ref d /\ F d = some (.frz o (.dT (encM D)))
theorem mono_min : Mono IsMin:=⟨fun s ⟨d, o, e, h⟩ => ⟨d, o, e, s _ _ h⟩⟩
structure MinOk (D : List (List Int × Int)) : Prop where
 up : ∀ p ∈ D, p.1.Pairwise (· < ·) /\ p.1.length <= 8
 few : D.length <= 64
def spLong : Sp:=fun vs H Q _ => ∃ (n : Nat) (D : List (List Int × Int)) (x : Nat -> Int) (F : Hp) (vm vl : V), vs = [.int n, vm, vl] /\ n <= 8 /\ Same F H /\ IsMin F vm D /\ IsRow F vl (vec n x) /\ MinOk D /\ (∀ i, i < n -> (x i).natAbs < 2 ^ 56) /\
 ∀ (F' H' : Hp) (v : V), Ext F H F' H' -> IsMin F' v (longer n x D) -> Q v H'
theorem in_ints (j : Int) : ∀ S : List Int, inV (.int j) (S.map V.int) = decide (j ∈ S)
 | [] => rfl
 | a :: S => by
  have ih:=in_ints j S
  unfold inV at ih ⊢
  rw [List.map_cons, List.any_cons, ih]
  show ((a == j) || decide (j ∈ S)) = decide (j ∈ a :: S)
  by_cases e : a = j
  ·subst e; simp
  ·have : j ≠ a:=fun z => e z.symm
   have e2 : (a == j) = false:=by simpa using e
   rw [e2, Bool.false_or]
   simp [this]
theorem flat_ints (S : List Int) : (S.map V.int).all flatV = true:=by
 rw [List.all_eq_true]
 intro v hv
 obtain ⟨i, _, rfl⟩:=List.mem_map.mp hv
 rfl
theorem ins_perm (j : Int) : ∀ S : List Int, (ins j S).Perm (S ++ [j])
 | [] => List.Perm.refl _
 | a :: S => by
  unfold ins
  split
  ·exact (List.perm_append_singleton j (a :: S)).symm
  ·exact (ins_perm j S).cons a
theorem ins_up (j : Int) : ∀ {S : List Int}, S.Pairwise (· < ·) -> j ∉ S -> (ins j S).Pairwise (· < ·)
 | [], _, _ => by simp [ins]
 | a :: S, h, hn => by
  obtain ⟨h1, h2⟩:=List.pairwise_cons.mp h
  have hne : j ≠ a:=fun e => hn (by rw [e]; exact List.mem_cons_self ..)
  unfold ins
  split
  ·rename_i q
   exact List.pairwise_cons.mpr ⟨fun b hb => by
    rcases List.mem_cons.mp hb with e | e
    ·rw [e]; exact q
    ·have:=h1 b e; omega, h⟩
  ·rename_i q
   refine List.pairwise_cons.mpr ⟨fun b hb => ?_, ins_up j h2 fun z => hn (List.mem_cons_of_mem _ z)⟩
   have:=(ins_perm j S).mem_iff.mp hb
   rcases List.mem_append.mp this with e | e
   ·exact h1 b e
   ·rw [List.mem_singleton.mp e]; omega
theorem sorted_is {ns : List Int} {j : Int} {S : List Int} (hp : ns.Perm (S ++ [j])) (hs : ns.Pairwise (· <= ·)) (hS : S.Pairwise (· < ·)) (hj : j ∉ S) : ns = ins j S :=
 (hp.trans (ins_perm j S).symm).eq_of_pairwise (le:=(· <= ·)) (fun a b _ _ h1 h2 => Int.le_antisymm h1 h2) hs ((ins_up j hS hj).imp fun h => Int.le_of_lt h)
theorem inl_inj {a b : List Int} (h : (a.map Sum.inl : List Key) = b.map Sum.inl) : a = b:=by
 have:=congrArg (List.map fun k : Key => match k with | .inl i => i | .inr _ => 0) h
 simpa [List.map_map, Function.comp_def] using this
theorem ups_enc {k : List Int} {v : Int} : ∀ {D : List (List Int × Int)}, (D.map (·.1)).Nodup -> ∃ o, o = valV (encM D) (k.map Sum.inl) /\ ∃ i, o.getD (.int 0) = .int i /\ putK (encM D) (k.map Sum.inl) (.int (i + v)) = encM (ups k v D)
 | [], _ => ⟨_, rfl, 0, rfl, rfl⟩
 | p :: D, h => by
  rw [List.map_cons, List.nodup_cons] at h
  by_cases e : p.1 = k
  ·refine ⟨_, rfl, p.2, ?_, ?_⟩
   ·show (valV ((p.1.map Sum.inl, V.int p.2) :: encM D) _).getD _ = _
    rw [valV_pos (by rw [e])]
    rfl
   ·unfold ups
    rw [if_pos e]
    show putK ((p.1.map Sum.inl, V.int p.2) :: encM D) _ _ = (k.map Sum.inl, V.int (p.2 + v)) :: encM D
    unfold putK
    rw [if_pos (by rw [List.any_cons, decide_eq_true (by rw [e])]; rfl), List.map_cons, if_pos (by rw [e]), e]
    congr 1
    refine (List.map_congr_left fun q hq => ?_).trans (List.map_id _)
    unfold encM at hq
    obtain ⟨r, hr, rfl⟩:=List.mem_map.mp hq
    rw [if_neg fun z => h.1 (List.mem_map.mpr ⟨r, hr, ?_⟩)]
    ·rfl
    ·rw [inl_inj z, e]
  ·obtain ⟨o, ho, i, hi, hput⟩:=ups_enc (k:=k) (v:=v) (D:=D) h.2
   have ne : ¬ (p.1.map Sum.inl : List Key) = k.map Sum.inl:=fun z => e (inl_inj z)
   refine ⟨_, rfl, i, ?_, ?_⟩
   ·show (valV ((p.1.map Sum.inl, V.int p.2) :: encM D) _).getD _ = _
    rw [valV_neg ne, <- ho]
    exact hi
   ·unfold ups
    rw [if_neg e]
    show putK ((p.1.map Sum.inl, V.int p.2) :: encM D) _ _ = (p.1.map Sum.inl, V.int p.2) :: encM (ups k v D)
    rw [<- hput]
    unfold putK
    rw [List.any_cons, decide_eq_false ne, Bool.false_or]
    by_cases q : ((encM D).any fun kv => decide (kv.1 = k.map Sum.inl)) = true
    ·rw [if_pos q, if_pos q, List.map_cons, if_neg ne]
    ·rw [if_neg q, if_neg q]
     rfl
theorem ups_keys {k : List Int} {v : Int} : ∀ {D : List (List Int × Int)}, (D.map (·.1)).Nodup -> ((ups k v D).map (·.1)).Nodup /\ (ups k v D).length <= D.length + 1 /\ ∀ p ∈ ups k v D, p.1 = k \/ p.1 ∈ D.map (·.1)
 | [], _ => by simp [ups]
 | p :: D, h => by
  rw [List.map_cons, List.nodup_cons] at h
  unfold ups
  split
  ·rename_i e
   refine ⟨by rw [List.map_cons, List.nodup_cons, <- e]; exact h, by simp, fun q hq => ?_⟩
   rcases List.mem_cons.mp hq with z | z
   ·rw [z]; exact .inl rfl
   ·exact .inr (List.mem_cons_of_mem _ (List.mem_map.mpr ⟨q, z, rfl⟩))
  ·rename_i e
   obtain ⟨h1, h2, h3⟩:=ups_keys (k:=k) (v:=v) (D:=D) h.2
   refine ⟨?_, by simp; omega, fun q hq => ?_⟩
   ·rw [List.map_cons, List.nodup_cons]
    refine ⟨fun hm => ?_, h1⟩
    obtain ⟨q, hq, eq⟩:=List.mem_map.mp hm
    rcases h3 q hq with z | z
    ·exact e (eq.symm.trans z)
    ·rw [eq] at z; exact h.1 z
   ·rcases List.mem_cons.mp hq with z | z
    ·rw [z]; exact .inr (List.mem_cons_self ..)
    ·rcases h3 q z with y | y
     ·exact .inl y
     ·exact .inr (List.mem_cons_of_mem _ y)
section
variable {P : Program} {w : World} {K : PySem.W.Frag} {mg : Str -> Option Value} {base : Heap}
theorem scLong : FnScope ["n", "minors", "line", "found", "columns", "minor", "j", "behind", "column", "wider"] ["n", "minors", "line"] (defScope sLong):=⟨rfl, rfl, rfl, by decide +kernel, rfl, by decide +kernel, by decide +kernel⟩
end
end Pr
namespace Pr
open PySem PySem.Spec PyProof.Rows L2
open Fm (gm vec gr Mat gcdl shortB ins ups beh mstep longer mset)
section
variable {P : Program} {w : World} {K : PySem.W.Frag} {mg : Str -> Option Value} {base : Heap}
theorem filter_take {α : Type} {l : List α} {p : α -> Bool} {i : Nat} {x : α} (h : l[i]? = some x) : (l.take (i + 1)).filter p = (l.take i).filter p ++ if p x = true then [x] else []:=by
 rw [List.take_add_one, h, List.filter_append]
 congr 1
 show [x].filter p = _
 rw [List.filter_cons]
 rfl
theorem fold_next {α : Type} {f : α -> Nat -> α} {a : α} {j : Nat} : (List.range (j + 1)).foldl f a = f ((List.range j).foldl f a) j:=by
 rw [List.range_succ, List.foldl_append]
 rfl
def CatTo (H : Hp) (b : Addr) (xs : List V) (y0 : V) (p : Addr) (H' : Hp) : Prop:=(xs = [] /\ p = b /\ H' = H) \/ (H p = none /\ H' = upd H p (.tup (xs ++ [y0])))
def rCatU (K : PySem.W.Frag) : R2:=fun x y H Q => ∃ a b xs y0, x = .ref a /\ y = .ref b /\ SqT K H a xs /\ SqT K H b [y0] /\ xs.length < sizeLine /\ ∀ p H', CatTo H b xs y0 p H' -> Q (.ref p) H'
theorem op_catU {X : Cx} : OpR X (binaryOp .Add) (rCatU X.K):=by
 intro pins s σ H x y v u Q I rx ry h
 obtain ⟨a, b, xs, y0, e1, e2, ha, hb, hz, q⟩:=h
 exact op_catS pins s σ H x y v u Q I rx ry ⟨a, b, xs, y0, e1, e2, ha, hb, hz, fun e => q b H (.inl ⟨e, rfl, rfl⟩), fun _ p hp => q p _ (.inr ⟨hp, rfl⟩)⟩
theorem CatTo.ext {F7 H6 H8 : Hp} {p1 a8 : Addr} {S : List Int} {j : Int} (c : CatTo H6 p1 (S.map V.int) (.int j) a8 H8) (same : Same F7 H6) (hp1 : H6 p1 = some (.tup [.int j])) : ∃ F8, Ext F7 H6 F8 H8 /\ H8 a8 = some (.tup ((S ++ [j]).map V.int)):=by
 rcases c with ⟨e, rfl, rfl⟩ | ⟨hp, rfl⟩
 ·exact ⟨F7, Ext.refl same, by rw [hp1, List.map_append, e]; rfl⟩
 ·exact ⟨_, (Ext.refl same).put hp, by rw [upd_same, List.map_append]; rfl⟩
theorem ok_long {f : Addr} {fd : FuncData} (F : Fun K "longer_minors" "longer_minors" sLong f fd) (hrng : mg "range" = none) (hlen : mg "len" = none) (hsort : mg "sorted" = none) (htup : mg "tuple" = none) : FnOk P w K mg base CX0 1 f fd ["n", "minors", "line"] spLong:=by
 refine F.ok scLong (fun vs H Q E h => ?_) (fun cdv A outer s H vs Q E hr h => ?_)
 ·obtain ⟨n, D, x, F, vm, vl, rfl, _⟩:=h
  rfl
 ·obtain ⟨n, D, x, F, vm, vl, rfl, h8, s0, ⟨dm, om, rfl, hdm⟩, ⟨la, rfl, hla⟩, ok, hx, k⟩:=h
  have nd:=scLong.nd
  have hu:=hu_of hr
  refine ⟨_, pss_cons (ps_set (i:=3) nd rfl (Or.inl rfl) pe_dnewT)
   (pss_cons (ps_for PassesOwn.never rfl (pi_itemsT (pv 1)) (pg_pair K (i:=4) (j:=5) rfl nd rfl rfl (Or.inl rfl) (Or.inl rfl))
    (pss_one (ps_for PassesOwn.never rfl (pi_range1 rfl hrng (pa_cons (pv 0) pa_nil)) (pg_name (i:=6) nd rfl (Or.inr rfl))
     (pss_one (ps_if (pt_cmpR op_notIn_seq (pv 6) (pv 4) (by with_unfolding_all rfl))
      (pss_cons (ps_set (i:=7) nd rfl (Or.inl rfl) (pe_callB call_len_seq rfl hlen PySem.boot_len (pa_cons (pe_lc rfl nd (pi_tup (pv 4)) (blkOk_by (own:=[("column", 8)]) (by kernel_rfl)) (fun _ _ _ _ _ => pg_name (i:=8) nd rfl (Or.inl rfl))
       (fun _ _ _ _ _ => pts_one (pt_cmpR op_gt (pv 8) (pv 6) (nomark _))) (fun _ _ _ _ _ => pv 8)) pa_nil)))
      (pss_cons (ps_set (i:=9) nd rfl (Or.inl rfl) (pe_callTy call_tuple_of rfl htup PyProof.Rows.boot_tuple (pa_cons (pe_callB cr_sortedT rfl hsort PyProof.Rows.boot_sorted (pa_cons (pe_op op_catU (pv 4) (pe_tup (pa_cons (pv 6) pa_nil))) pa_nil)) pa_nil)))
      (pss_one (ps_dput hu (pv 3) (pv 9) (pe_op op_add (pe_dget2 hu (pv 3) (pv 9) pe_int ⟨rfl, rfl, rfl, rfl⟩)
       (pe_op op_mul (pe_op op_mul (pe_ifExp (pt_truth (pe_op op_mod (pv 7) pe_int) (fun _ => rfl)) (pe_un un_neg pe_int) pe_int) (pv 5)) (pe_ix ix_list (pv 2) (pv 6) (fun _ _ => rfl)))) rfl)))) pss_nil)))))
   (pss_one (ps_ret (pe_keep (pv 3))))), ?_⟩
  intro d hd
  have e1 : Ext F H F (upd H d (.dT [])):=(Ext.refl s0).loc hd (s0.free hd)
  have hd1 : (upd H d (.dT [])) d = some (.dT (encM [])):=upd_same
  generalize upd H d (.dT []) = H1 at e1 hd1
  refine ⟨_, rfl, dm, om, encM D, rfl, e1.inn _ _ hdm, ?_⟩
  refine for_itemsT (d:=dm) (o:=om) (kvs:=encM D) (fun i σ H' => ∃ (F' : Hp) (fnd : List (List Int × Int)) (o4 o5 o6 o7 o8 o9 : Option V), σ = [some (.int n), some (.ref dm), some (.ref la), some (.ref d), o4, o5, o6, o7, o8, o9] /\ Ext F H F' H' /\ H' d = some (.dT (encM fnd)) /\ F' d = Option.none /\
    fnd = (D.take i).foldl (fun d p => (List.range n).foldl (mstep x p) d) [] /\ (fnd.map (·.1)).Nodup /\ fnd.length <= 8 * i /\ i <= 64)
   ⟨F, [], none, none, none, none, none, none, rfl, e1, hd1, s0.free hd, rfl, List.nodup_nil, Nat.zero_le _, Nat.zero_le _⟩ (fun i σ H' ⟨F', fnd, o4, o5, o6, o7, o8, o9, _, e, _⟩ => e.inn _ _ (e.ff _ _ hdm)) ?_ ?_
  ·rintro i ks v T q σ H2 hkv ⟨F2, fnd, o4, o5, o6, o7, o8, o9, rfl, e2, hd2, dF2, hf, nd2, len2, i64⟩ hT hq
   unfold encM at hkv
   rw [List.getElem?_map] at hkv
   obtain ⟨p, hp, ekv⟩:=Option.map_eq_some_iff.mp hkv
   have ek : p.1.map Sum.inl = ks:=congrArg Prod.fst ekv
   have ev : V.int p.2 = v:=congrArg Prod.snd ekv
   subst ek ev
   rw [kV_inl] at hq
   obtain ⟨pup, plen⟩:=ok.up p (List.mem_of_getElem? hp)
   have i63 : i < 64:=by
    have:=(List.getElem?_eq_some_iff.mp hp).1
    have:=ok.few
    omega
   refine ⟨T, _, rfl, SqT.of upd_same, rfl, _, _, rfl, _, _, rfl, rfl, ?_⟩
   have e3:=e2.put (o:=.tup [.ref q, .int p.2]) hT
   have hd3 : (upd H2 T (.tup [.ref q, .int p.2])) d = some (.dT (encM fnd)):=by rw [upd_ne (ne_of_none hd2 hT)]; exact hd2
   have hq3 : (upd H2 T (.tup [.ref q, .int p.2])) q = some (.tup (p.1.map V.int)):=by rw [upd_ne (ne_of_none hq hT)]; exact hq
   have dF3 : (upd F2 T (.tup [.ref q, .int p.2])) d = Option.none:=by rw [upd_ne (ne_of_none hd2 hT)]; exact dF2
   generalize upd F2 T (.tup [.ref q, .int p.2]) = F3 at e3 dF3
   generalize upd H2 T (.tup [.ref q, .int p.2]) = H3 at e3 hd3 hq3
   refine ⟨_, rfl, (n : Int), rfl, by omega, by omega, ?_⟩
   rw [Int.toNat_natCast]
   refine for_range (lo:=0) (n:=n) (fun j σ H' => ∃ (F' : Hp) (fnd' : List (List Int × Int)) (o6 o7 o8 o9 : Option V), σ = [some (.int n), some (.ref dm), some (.ref la), some (.ref d), some (.ref q), some (.int p.2), o6, o7, o8, o9] /\ Ext F H F' H' /\ H' d = some (.dT (encM fnd')) /\ F' d = Option.none /\ H' q = some (.tup (p.1.map V.int)) /\
     fnd' = (List.range j).foldl (mstep x p) fnd /\ (fnd'.map (·.1)).Nodup /\ fnd'.length <= 8 * i + j)
    ⟨F3, fnd, o6, o7, o8, o9, rfl, e3, hd3, dF3, hq3, rfl, nd2, by omega⟩ ?_ ?_
   ·intro j σ H4 hj hI
    obtain ⟨F4, fnd', o6, o7, o8, o9, rfl, e4, hd4, dF4, hq4, hf4, nd4, len4⟩:=hI
    have hj8 : j < 8:=by omega
    refine ⟨_, rfl, _, rfl, q, p.1.map V.int, rfl, .inr (SqT.of hq4), rfl, flat_ints _, _, rfl, ?_⟩
    show if (!inV (V.int (0 + (j : Int))) (p.1.map V.int)) = true then _ else _
    rw [in_ints, Int.zero_add]
    have ms : mstep x p fnd' j = if (j : Int) ∈ p.1 then fnd' else ups (ins j p.1) ((if beh j p.1 % 2 = 0 then 1 else -1) * p.2 * x j) fnd':=rfl
    by_cases hin : (j : Int) ∈ p.1
    ·rw [if_pos hin] at ms
     rw [decide_eq_true hin]
     refine iteF ?_
     refine ⟨F4, fnd', _, _, _, _, rfl, e4, hd4, dF4, hq4, ?_, nd4, by omega⟩
     rw [fold_next, <- hf4, ms]
    ·rw [if_neg hin] at ms
     rw [decide_eq_false hin]
     refine iteT ?_
     refine ⟨_, rfl, q, rfl, ⟨_, SqT.of hq4⟩, fun D4 hD4 => ?_⟩
     refine lc_tup (K:=K) (a:=q) (xs:=p.1.map V.int) (fun i H' => ∃ F' vs, Acc IsI F4 H4 D4 ((p.1.take i).filter fun c => decide ((j : Int) < c)) F' H' vs) ⟨F4, [], Acc.start (Ext.refl e4.inn) hD4⟩ (fun i H' _ ⟨F', vs, a⟩ => SqT.of (a.ext.hh _ _ hq4)) ?_ ?_
     ·intro c u H5 hu5 hI
      obtain ⟨F5, vs5, a5⟩:=hI
      rw [List.getElem?_map] at hu5
      obtain ⟨z, hz, rfl⟩:=Option.map_eq_some_iff.mp hu5
      refine ⟨rfl, _, rfl, _, rfl, z, (j : Int), rfl, rfl, _, rfl, ?_⟩
      have ft:=filter_take (p:=fun c => decide ((j : Int) < c)) hz
      by_cases g : (j : Int) < z
      ·rw [if_pos (decide_eq_true g)] at ft
       rw [decide_eq_true g]
       refine iteT ?_
       obtain ⟨q1, q2⟩:=a5.step mono_i (Ext.refl a5.same) (show IsI F5 (.int z) z from rfl)
       refine ⟨_, rfl, vs5, q1, ?_, F5, _, by rw [ft]; exact q2⟩
       rw [a5.len]
       have h1:=List.length_filter_le (fun c => decide ((j : Int) < c)) (p.1.take c)
       rw [List.length_take] at h1
       rw [sizeLine_eq]; omega
      ·rw [if_neg (fun z => g (of_decide_eq_true z)), List.append_nil] at ft
       rw [decide_eq_false g]
       refine iteF ?_
       exact ⟨F5, vs5, by rw [ft]; exact a5⟩
     ·intro H5 hI
      obtain ⟨F5, vs5, a5⟩:=hI
      rw [List.length_map, List.take_length] at a5
      obtain ⟨e5, ⟨aa, ws, hws, hD5, rel5⟩, _⟩:=a5.done mono_i
      cases hws
      have hb : ws.length = beh j p.1:=by rw [Paired.length rel5]; rfl
      refine ⟨D4, ws, rfl, .inl (row_seq hD5 e5.inn), ?_⟩
      rw [hb]
      have e45:=e4.trans e5
      have hd5:=e5.hh _ _ hd4
      have hq5:=e5.hh _ _ hq4
      have dF5:=e5.out hd4 dF4
      generalize upd F5 D4 (.lst vs5) = F6 at e5 e45 dF5 hD5
      refine ⟨_, rfl, _, rfl, (by show 1 <= sizeLine; decide), fun p1 hp1 => ?_⟩
      have e6:=(Ext.refl e45.inn).put (o:=.tup [.int (j : Int)]) hp1
      have hd6:=e6.hh _ _ hd5
      have hq6:=e6.hh _ _ hq5
      have dF6:=e6.out hd5 dF5
      have hp6 : (upd H5 p1 (.tup [.int (j : Int)])) p1 = some (.tup [.int (j : Int)]):=upd_same
      have e46:=e45.trans e6
      generalize upd F6 p1 (.tup [.int (j : Int)]) = F7 at e6 e46 dF6
      generalize upd H5 p1 (.tup [.int (j : Int)]) = H6 at e6 e46 hd6 hq6 hp6
      refine ⟨q, p1, p.1.map V.int, .int (j : Int), rfl, rfl, SqT.of hq6, SqT.of hp6, by rw [List.length_map, sizeLine_eq]; omega, fun a8 H8 hcat => ?_⟩
      obtain ⟨F8, e8, h8⟩:=hcat.ext e46.inn hp6
      have hd8:=e8.hh _ _ hd6
      have hq8:=e8.hh _ _ hq6
      have dF8:=e8.out hd6 dF6
      have e48:=e46.trans e8
      refine ⟨a8, p.1 ++ [(j : Int)], rfl, SqT.of h8, by rw [List.length_append]; show p.1.length + 1 < 64; omega, fun ns' p9 hperm hsrt hp9 => ?_⟩
      have hns:=sorted_is hperm hsrt pup hin
      subst hns
      have e9:=(Ext.refl e48.inn).put (o:=.lst ((ins (j : Int) p.1).map V.int)) hp9
      have hd9:=e9.hh _ _ hd8
      have hq9:=e9.hh _ _ hq8
      have dF9:=e9.out hd8 dF8
      have e49:=e48.trans e9
      refine ⟨p9, (ins (j : Int) p.1).map V.int, rfl, .inl ⟨SqL.of upd_same, fun p10 hp10 => ?_⟩⟩
      generalize upd F8 p9 (.lst ((ins (j : Int) p.1).map V.int)) = F9 at e9 e49 dF9
      generalize upd H8 p9 (.lst ((ins (j : Int) p.1).map V.int)) = H9 at e9 e49 hd9 hq9 hp10
      have e10':=(Ext.refl e49.inn).put (o:=.tup ((ins (j : Int) p.1).map V.int)) hp10
      have hd10:=e10'.hh _ _ hd9
      have hq10:=e10'.hh _ _ hq9
      have dF10:=e10'.out hd9 dF9
      have e10:=e49.trans e10'
      have hp10' : (upd H9 p10 (.tup ((ins (j : Int) p.1).map V.int))) p10 = some (.tup ((ins (j : Int) p.1).map V.int)):=upd_same
      generalize upd F9 p10 (.tup ((ins (j : Int) p.1).map V.int)) = F10 at e10' e10 dF10
      generalize upd H9 p10 (.tup ((ins (j : Int) p.1).map V.int)) = H10 at e10' e10 hd10 hq10 hp10'
      obtain ⟨o, ho, i0, hi, hput⟩:=ups_enc (k:=ins (j : Int) p.1) (v:=(if beh j p.1 % 2 = 0 then 1 else -1) * p.2 * x j) nd4
      refine ⟨_, rfl, d, rfl, .inr ⟨_, .inl hd10⟩, _, rfl, o, ho ▸ DGet.t hd10 (by rw [kV_inl]; exact hp10'), ?_⟩
      have done : ∀ v : Int, v = (if beh j p.1 % 2 = 0 then 1 else -1) * p.2 * x j -> ∃ (F' : Hp) (fnd'' : List (List Int × Int)) (o6' o7' o8' o9' : Option V), [some (.int n), some (.ref dm), some (.ref la), some (.ref d), some (.ref q), some (.int p.2), some (.int (j : Int)), some (.int (beh j p.1 : Nat)), o8, some (.ref p10)] = [some (.int n), some (.ref dm), some (.ref la), some (.ref d), some (.ref q), some (.int p.2), o6', o7', o8', o9'] /\ Ext F H F' (upd H10 d (.dT (putK (encM fnd') ((ins (j : Int) p.1).map Sum.inl) (.int (i0 + v))))) /\ (upd H10 d (.dT (putK (encM fnd') ((ins (j : Int) p.1).map Sum.inl) (.int (i0 + v))))) d = some (.dT (encM fnd'')) /\ F' d = Option.none /\ (upd H10 d (.dT (putK (encM fnd') ((ins (j : Int) p.1).map Sum.inl) (.int (i0 + v))))) q = some (.tup (p.1.map V.int)) /\
        fnd'' = (List.range (j + 1)).foldl (mstep x p) fnd /\ (fnd''.map (·.1)).Nodup /\ fnd''.length <= 8 * i + (j + 1):=fun v hv => by
       subst hv
       obtain ⟨u1, u2, _⟩:=ups_keys (k:=ins (j : Int) p.1) (v:=(if beh j p.1 % 2 = 0 then 1 else -1) * p.2 * x j) nd4
       refine ⟨F10, ups (ins (j : Int) p.1) ((if beh j p.1 % 2 = 0 then 1 else -1) * p.2 * x j) fnd', _, _, _, _, rfl, e10.loc hd dF10, by rw [upd_same, hput], dF10, by rw [upd_ne (ne_of hq10 hd10 (fun z => nomatch z))]; exact hq10, ?_, u1, by omega⟩
       rw [fold_next, <- hf4, ms]
      have hz : (encM fnd').length < sizeLine:=by
       unfold encM
       rw [List.length_map, sizeLine_eq]; omega
      refine ⟨_, rfl, _, _, rfl, rfl, (show (0 : Int) < 2 by decide), _, rfl, ite2 (fun hc => ?_) (fun hc => ?_)⟩
      ·have hb2 : ¬ beh j p.1 % 2 = 0:=fun z => by
        have : ((beh (j : Int) p.1 : Nat) : Int) % 2 = 0:=by omega
        rw [this] at hc
        exact absurd hc (by decide)
       refine ⟨_, rfl, _, rfl, _, _, rfl, rfl, .inl ⟨by decide, by decide⟩, ?_⟩
       refine ⟨_, rfl, _, rfl, la, (vec n x).map V.int, (j : Int), V.int (x j), rfl, rfl, row_seq (e10.ff _ _ hla) e10.inn, at_of (j:=j) rfl (by rw [List.getElem?_map, Fm.vec_get hj]; rfl), _, _, rfl, rfl, mul_ok' (hx j hj), ?_⟩
       refine ⟨i0, _, hi, rfl, ?_⟩
       refine ⟨_, rfl, _, rfl, d, _, rfl, DPut.t hd10 (by rw [kV_inl]; exact hp10') hz, ?_⟩
       exact done _ (by rw [if_neg hb2])
      ·have hb2 : beh j p.1 % 2 = 0:=Classical.byContradiction fun z => hc (by
        have : ((beh (j : Int) p.1 : Nat) : Int) % 2 = 1:=by omega
        rw [this]
        rfl)
       refine ⟨_, rfl, _, _, rfl, rfl, .inl ⟨by decide, by decide⟩, ?_⟩
       refine ⟨_, rfl, _, rfl, la, (vec n x).map V.int, (j : Int), V.int (x j), rfl, rfl, row_seq (e10.ff _ _ hla) e10.inn, at_of (j:=j) rfl (by rw [List.getElem?_map, Fm.vec_get hj]; rfl), _, _, rfl, rfl, mul_ok' (hx j hj), ?_⟩
       refine ⟨i0, _, hi, rfl, ?_⟩
       refine ⟨_, rfl, _, rfl, d, _, rfl, DPut.t hd10 (by rw [kV_inl]; exact hp10') hz, ?_⟩
       exact done _ (by rw [if_pos hb2])
   ·intro σ H4 hI
    obtain ⟨F4, fnd', o6, o7, o8, o9, rfl, e4, hd4, dF4, hq4, hf4, nd4, len4⟩:=hI
    refine ⟨F4, fnd', _, _, _, _, _, _, rfl, e4, hd4, dF4, ?_, nd4, by omega, by omega⟩
    rw [List.take_add_one, hp, List.foldl_append, <- hf, hf4]
    rfl
  ·intro σ H2 hI
   obtain ⟨F2, fnd, o4, o5, o6, o7, o8, o9, rfl, e2, hd2, dF2, hf, nd2, len2, i64⟩:=hI
   refine ⟨_, rfl, d, _, rfl, hd2, trivial, fun o => ?_⟩
   have e3 : Ext F H F2 (upd H2 d (.frz o (.dT (encM fnd)))):=e2.loc hd dF2
   refine k _ _ _ (e3.freeze upd_same hd dF2) ⟨d, o, rfl, ?_⟩
   rw [upd_same]
   have : fnd = longer n x D:=by
    rw [hf]
    unfold encM
    rw [List.length_map, List.take_length]
    rfl
   rw [this]
end
end Pr
namespace Pr
open PySem PySem.Spec PyProof.Rows L2
open Fm (gm vec gr Mat gcdl shortB ins ups beh mstep longer mset xv sm pr joined copB Join)
def tValsT (te : TE) : TE:=fun σ H Q => te σ H fun x H1 => ∃ d kvs, x = .ref d /\ Rd H1 d (.dT kvs) /\ ∀ p, H1 p = none -> Q (.ref p) (upd H1 p (ViewO p d))
theorem pe_valsT {X : Cx} {e : Expr} {te : TE} {apos cpos : Pos} (ho : PE X e te) (hbase : attributeBase e "values" X.env (eval e X.env) = eval e X.env:=by rfl) (hline : (apos.endLine == cpos.line) = true:=by rfl) : PE X (.Call (.Attribute e "values" apos) [] [] cpos) (tValsT te):=by
 intro pins s σ H Q I h
 refine wpAny_Call_method0_late hbase hline (thn (ho pins s σ H _ I h) fun v s1 ⟨x, H1, I1, r1, d, kvs, ex, hd, q⟩ => ?_)
 subst ex
 obtain rfl : v = Value.ref d:=r1
 obtain ⟨z, hs, ys, rel, o, es, ep, ho, hx, _⟩:=dt_rd I1.hok hd
 exact ⟨"dict", "dict.values", PySem.F.plainAttrs_dict, PySem.F.slot_dict_values, PySem.F.type_dict_values, ⟨o, ho, hx.1⟩, fun a e => by cases e; exact ⟨o, ho, hx.2.1⟩,
  Calls.callWith_builtin rfl (PySem.evalArgs_none (mt_valsT pins s1 σ H1 (.ref d) [] (.ref d) [] Q I1 rfl .nil ⟨d, kvs, rfl, rfl, hd, q⟩))⟩
theorem vec_xv {n : Nat} {x : List Int} (h : x.length = n) : x = vec n (xv x):=by
 apply List.ext_getElem?
 intro i
 by_cases hi : i < n
 ·rw [Fm.vec_get hi, List.getElem?_eq_getElem (by omega)]
  unfold xv
  rw [List.getD_eq_getElem?_getD, List.getElem?_eq_getElem (by omega)]
  rfl
 ·rw [List.getElem?_eq_none (by omega), List.getElem?_eq_none (by rw [Fm.vec_length]; omega)]
def img (n : Nat) (l : List Int) (x : List Int) : List Int:=vec n fun i => sm n fun j => xv x j * gm n l i j
def IsSt (n : Nat) (l : List Int) : Hp -> V -> Ql78.Rows -> Prop:=fun F v c => T2 IsRows IsMin F v (c.map (img n l), mset n c.length (Ql78.at_ c))
def IsJoin (n : Nat) (l : List Int) : Hp -> V -> Join -> Prop:=T2 (IsSt n l) IsRow
theorem mono_st (n : Nat) (l : List Int) : Mono (IsSt n l):=⟨fun s h => (mono_t2 mono_rows mono_min).up s h⟩
theorem mono_join (n : Nat) (l : List Int) : Mono (IsJoin n l):=mono_t2 (mono_st n l) mono_row
theorem subs_ok {n k : Nat} (hn : n <= 4) (hk : k <= n) : (∀ S ∈ Fm.subs n k, S.Pairwise (· < ·) /\ S.length <= 8) /\ (Fm.subs n k).length <= 64:=by
 have : ∀ n, n < 5 -> ∀ k, k < 5 -> (∀ S ∈ Fm.subs n k, S.Pairwise (· < ·) /\ S.length <= 8) /\ (Fm.subs n k).length <= 64:=by decide
 exact this n (by omega) k (by omega)
theorem mset_ok {n k : Nat} (hn : n <= 4) (hk : k <= n) (C : Mat) : MinOk (mset n k C):=by
 obtain ⟨h1, h2⟩:=subs_ok hn hk
 refine ⟨fun p hp => ?_, by unfold mset; rw [List.length_map]; exact h2⟩
 obtain ⟨S, hS, rfl⟩:=List.mem_map.mp hp
 exact h1 S hS
abbrev sJoined : Stmt:=top 23
structure JoinOk (n k : Nat) (p : Join) : Prop where
 len : p.1.length = k
 row : p.2.length = n
 low : ∀ i, i < n -> (xv p.2 i).natAbs < 2 ^ 56
def spJoined : Sp:=fun vs H Q _ => ∃ (n k : Nat) (l : List Int) (P : List Join) (F : Hp) (vr vj : V), vs = [vr, vj] /\ 1 <= n /\ n <= 4 /\ k < n /\ Same F H /\ IsRows F vr (mat n (gm n l)) /\ LOf (IsJoin n l) F vj P /\ (∀ p ∈ P, JoinOk n k p) /\ P.length < 16777216 /\
 ∀ (F' H' : Hp) (v : V), Ext F H F' H' -> LOf (IsSt n l) F' v (joined n k P) -> Q v H'
theorem joined_take {n k : Nat} {P : List Join} {i : Nat} {p : Join} (h : P[i]? = some p) : joined n k (P.take (i + 1)) = joined n k (P.take i) ++ if copB n (k + 1) (Ql78.at_ (p.1 ++ [p.2])) = true then [p.1 ++ [p.2]] else []:=by
 unfold joined
 rw [filter_take h, List.map_append]
 congr 1
 split <;> rfl
theorem long_is {n k : Nat} (h4 : n <= 4) (hk : k < n) {p : Join} (ok : JoinOk n k p) : longer n (xv p.2) (mset n p.1.length (Ql78.at_ p.1)) = mset n (k + 1) (Ql78.at_ (p.1 ++ [p.2])):=by
 rw [<- Fm.mset_next h4 hk, Fm.at_snoc_eq ok.len, ok.len]
 congr 1
 exact Fm.mset_congr fun i c hi _ => by rw [Fm.at_snoc_lt (by rw [ok.len]; exact hi)]
theorem joined_len {n k : Nat} (P : List Join) : (joined n k P).length <= P.length:=by
 unfold joined
 rw [List.length_map]
 exact List.length_filter_le _ _
section
variable {P : Program} {w : World} {K : PySem.W.Frag} {mg : Str -> Option Value} {base : Heap}
theorem scJoined : FnScope ["rows", "joins", "found", "start", "line", "minors", "image", "row"] ["rows", "joins"] (defScope sJoined):=⟨rfl, rfl, rfl, by decide +kernel, rfl, by decide +kernel, by decide +kernel⟩
theorem ok_joined {f fP fG fL : Addr} {fd fdP fdG fdL : FuncData} (F : Fun K "joined_starts" "joined_starts" sJoined f fd) (hlen : mg "len" = none) (hlist : mg "list" = none)
  (GP : FnOk P w K mg base CX0 1 fP fdP ["left", "right"] spProd) (kP : PySem.W.keepIn K (.ref fP) = true) (bP : Binds K fdP ["left", "right"] []) (mP : mg "product_sum" = some (.ref fP))
  (GG : FnOk P w K mg base CX0 1 fG fdG ["numbers"] spGcd) (kG : PySem.W.keepIn K (.ref fG) = true) (bG : Binds K fdG ["numbers"] []) (mG : mg "common_divisor" = some (.ref fG))
  (GL : FnOk P w K mg base CX0 1 fL fdL ["n", "minors", "line"] spLong) (kL : PySem.W.keepIn K (.ref fL) = true) (bL : Binds K fdL ["n", "minors", "line"] []) (mL : mg "longer_minors" = some (.ref fL)) :
  FnOk P w K mg base CX0 2 f fd ["rows", "joins"] spJoined:=by
 refine F.ok scJoined (fun vs H Q E h => ?_) (fun cdv A outer s H vs Q E hr h => ?_)
 ·obtain ⟨n, k, l, P, F, vr, vj, rfl, _⟩:=h
  rfl
 ·obtain ⟨n, k, l, PJ, F, vr, vj, rfl, h1, h4, hk, s0, hvr, ⟨ja, xs, rfl, hja, relJ⟩, ok, lenP, kk⟩:=h
  have nd:=scJoined.nd
  have hu:=hu_of hr
  obtain ⟨ra, ys, rfl, hra, relR⟩:=hvr
  refine ⟨_, pss_cons (ps_set (i:=2) nd rfl (Or.inl rfl) (pe_lst pa_nil))
   (pss_cons (ps_for PassesOwn.never rfl (pi_list (pv 1)) (pg_pair K (i:=3) (j:=4) rfl nd rfl rfl (Or.inl rfl) (Or.inr rfl))
    (pss_cons (ps_set (i:=5) nd rfl (Or.inl rfl) (pe_call GL hr rfl mL kL bL .nil pass0 (pa_cons (pe_callB call_len_seq rfl hlen PySem.boot_len (pa_cons (pv 0) pa_nil)) (pa_cons (pe_ix ix_tup (pv 3) pe_int (fun _ _ => rfl)) (pa_cons (pv 4) pa_nil)))))
    (pss_one (ps_if (pt_cmpR op_eq (pe_call GG hr rfl mG kG bG .nil pass0 (pa_cons (pe_callTy (call_listView rfl) rfl hlist PyProof.Rows.boot_list (pa_cons (pe_valsT (pv 5)) pa_nil)) pa_nil)) pe_int (nomark _))
     (pss_cons (ps_setLc (i:=6) rfl nd rfl rfl (sw_true rfl rfl rfl rfl) (pi_list (pv 0)) (blkOk_by (own:=[("row", 7)]) (by kernel_rfl)) (fun _ _ _ _ _ => pg_name (i:=7) nd rfl (Or.inl rfl)) (fun _ _ _ _ _ => pts_nil)
      (fun _ _ _ _ _ => pe_call GP hr rfl mP kP bP .nil pass0 (pa_cons (pv 4) (pa_cons (pv 7) pa_nil))))
     (pss_one (ps_expr (pe_bm PySem.F.plainAttrs_list PySem.F.slot_list_append PySem.F.type_list_append mt_append (pv 2)
      (pa_cons (pe_tup (pa_cons (pe_op op_cat (pe_ix ix_tup (pv 3) pe_int (fun _ _ => rfl)) (pe_lst (pa_cons (pv 6) pa_nil))) (pa_cons (pv 5) pa_nil))) pa_nil))))) pss_nil))))
   (pss_one (ps_ret (pv 2)))), ?_⟩
  have lenR : ys.length = n:=by rw [Paired.length relR]; exact mat_len _ _
  refine ⟨Nat.zero_le _, fun g hg => ?_⟩
  have acc0 : Acc (IsSt n l) F H g (joined n k (PJ.take 0)) F (upd H g (.lst [])) []:=Acc.start (Ext.refl s0) hg
  generalize upd H g (.lst []) = H1 at acc0
  have lenX : xs.length = PJ.length:=Paired.length relJ
  refine ⟨_, rfl, ja, rfl, ⟨_, row_seq (acc0.ext.ff _ _ hja) acc0.same⟩, ?_⟩
  refine for_list (K:=K) (a:=ja) (xs:=xs) (fun i σ H' => ∃ (F' : Hp) (us : List V) (o3 o4 o5 o6 o7 : Option V), σ = [some (.ref ra), some (.ref ja), some (.ref g), o3, o4, o5, o6, o7] /\ Acc (IsSt n l) F H g (joined n k (PJ.take i)) F' H' us)
   ⟨F, [], none, none, none, none, none, rfl, acc0⟩ (fun i σ H' _ ⟨F', us, o3, o4, o5, o6, o7, _, a⟩ => row_seq (a.ext.ff _ _ hja) a.same) ?_ ?_
  ·intro i v σ H2 hv hI
   obtain ⟨F2, us, o3, o4, o5, o6, o7, rfl, a⟩:=hI
   obtain ⟨p, hp, hpj⟩:=pget relJ hv
   have okp:=ok p (List.mem_of_getElem? hp)
   obtain ⟨ta, v1, v2, rfl, hta, hst, hline⟩:=(mono_join n l).up a.ext.ff hpj
   obtain ⟨sa, w1, w2, rfl, hsa, ⟨ia, is, rfl, hia, relI⟩, hmin⟩:=hst
   have jt:=joined_take (n:=n) (k:=k) hp
   refine ⟨ta, _, rfl, SqT.of (a.same _ _ hta), rfl, _, _, rfl, _, _, rfl, rfl, ?_⟩
   have hrow : IsRow F2 v2 (vec n (xv p.2)):=by rw [<- vec_xv okp.row]; exact hline
   refine ⟨_, rfl, ra, ys, rfl, .inl (row_seq (a.ext.ff _ _ hra) a.same), _, rfl, sa, _, 1, _, rfl, rfl, SqT.of (a.same _ _ hsa), at_of (j:=1) rfl rfl, _, rfl, n, _, xv p.2, F2, w2, v2, (by rw [lenR]; rfl), by omega, a.same, hmin, hrow, mset_ok h4 (by rw [okp.len]; omega) _, okp.low, fun F3 H3 vm e3 hm3 => ?_⟩
   rw [long_is h4 hk okp] at hm3
   have a3:=a.pass (mono_st n l) e3
   obtain ⟨dm, om, rfl, hdm⟩:=hm3
   refine ⟨_, rfl, dm, _, rfl, .inr ⟨om, e3.inn _ _ hdm⟩, fun pw hpw => ?_⟩
   have e4 : Ext F3 H3 F3 (upd H3 pw (ViewO pw dm)):=(Ext.refl a3.same).loc hpw (a3.same.free hpw)
   have hpw' : (upd H3 pw (ViewO pw dm)) pw = some (ViewO pw dm):=upd_same
   have a4:=a3.pass (mono_st n l) e4
   generalize upd H3 pw (ViewO pw dm) = H4 at e4 hpw' a4
   refine ⟨pw, dm, _, rfl, hpw', .inr ⟨om, e4.inn _ _ hdm⟩, fun pl hpl => ?_⟩
   have evals : ((encM (mset n (k + 1) (Ql78.at_ (p.1 ++ [p.2])))).map (·.2)) = ((mset n (k + 1) (Ql78.at_ (p.1 ++ [p.2]))).map (·.2)).map V.int:=by
    unfold encM
    rw [List.map_map, List.map_map]
    rfl
   rw [evals]
   have e5 : Ext F3 H4 _ _:=(Ext.refl a4.same).put (o:=.lst (((mset n (k + 1) (Ql78.at_ (p.1 ++ [p.2]))).map (·.2)).map V.int)) hpl
   have hpl' : IsRow (upd F3 pl (.lst (((mset n (k + 1) (Ql78.at_ (p.1 ++ [p.2]))).map (·.2)).map V.int))) (.ref pl) ((mset n (k + 1) (Ql78.at_ (p.1 ++ [p.2]))).map (·.2)):=⟨pl, rfl, upd_same⟩
   have a5:=a4.pass (mono_st n l) e5
   have e35:=e3.trans (e4.trans e5)
   have hdm5:=e5.ff _ _ hdm
   generalize upd F3 pl (.lst (((mset n (k + 1) (Ql78.at_ (p.1 ++ [p.2]))).map (·.2)).map V.int)) = F5 at e5 hpl' a5 e35 hdm5
   generalize upd H4 pl (.lst (((mset n (k + 1) (Ql78.at_ (p.1 ++ [p.2]))).map (·.2)).map V.int)) = H5 at e5 a5 e35
   refine ⟨.ref pl, _, F5, rfl, a5.same, hpl', ?_⟩
   refine ⟨rfl, _, rfl, ite2 (fun hc => ?_) (fun hc => ?_)⟩
   ·have hcop : copB n (k + 1) (Ql78.at_ (p.1 ++ [p.2])) = true:=by
     unfold copB
     have : ((gcdl ((mset n (k + 1) (Ql78.at_ (p.1 ++ [p.2]))).map (·.2)) : Nat) : Int) = 1:=by simpa [eqV] using hc
     exact decide_eq_true (by omega)
    rw [if_pos hcop] at jt
    refine ⟨_, rfl, ra, rfl, ⟨_, row_seq (a5.ext.ff _ _ hra) a5.same⟩, fun D hD => ?_⟩
    refine lc_list (K:=K) (a:=ra) (xs:=ys) (AccP IsI F5 H5 D (img n l p.2)) (Acc.p0 (Ext.refl a5.same) hD) (fun j H' _ ⟨F6, us6, a6⟩ => row_seq (a6.ext.ff _ _ (a5.ext.ff _ _ hra)) a6.same) ?_ ?_
    ·intro j y H6 hy hI
     obtain ⟨F6, us6, a6⟩:=hI
     have hj : j < n:=by
      have:=(List.getElem?_eq_some_iff.mp hy).1
      omega
     obtain ⟨r, hr1, hrow2⟩:=pget relR hy
     rw [mat_rows, rowsL_at hj] at hr1
     cases hr1
     refine ⟨rfl, ?_⟩
     refine ⟨_, rfl, _, rfl, v2, y, n, xv p.2, gm n l j, F6, rfl, a6.same, mono_row.up (e35.ff.trans a6.ext.ff) hrow, mono_row.up (a5.ext.ff.trans a6.ext.ff) hrow2, by omega, .inl okp.low, fun F7 H7 e7 => ?_⟩
     exact a6.next mono_i (Fm.vec_get hj) (by unfold img; rw [Fm.vec_length]; omega) e7 rfl
    ·rintro H6 a6
     obtain ⟨F7, e7, h7⟩:=a6.done mono_i (by unfold img; rw [Fm.vec_length, lenR])
     have hD7:=row_of h7
     have a7:=a5.pass (mono_st n l) e7
     have e37:=e35.trans e7
     refine ⟨_, rfl, .inl ⟨rfl, _, SqL.of a7.at_⟩, _, rfl, sa, _, 0, _, rfl, rfl, SqT.of (e37.inn _ _ (e37.ff _ _ hsa)), at_of (j:=0) rfl rfl, _, rfl, (by show 1 <= sizeLine; decide), fun p8 hp8 => ?_⟩
     have e8 : Ext F7 H6 F7 (upd H6 p8 (.lst [.ref D])):=(Ext.refl a7.same).loc hp8 (a7.same.free hp8)
     have a8:=a7.pass (mono_st n l) e8
     have hia8:=e8.inn _ _ (e37.ff _ _ hia)
     have hp8' : (upd H6 p8 (.lst [V.ref D])) p8 = some (.lst [V.ref D]):=upd_same
     generalize upd H6 p8 (.lst [V.ref D]) = H8 at e8 a8 hia8 hp8'
     have lenI : is.length = k:=by rw [Paired.length relI, List.length_map, okp.len]
     refine ⟨ia, p8, is, [.ref D], rfl, rfl, hia8, hp8', by show is.length + 1 <= sizeLine; rw [sizeLine_eq]; omega, fun p9 hp9 => ?_⟩
     have e9 : Ext F7 H8 _ _:=(Ext.refl a8.same).put (o:=.lst (is ++ [.ref D])) hp9
     have a9:=a8.pass (mono_st n l) e9
     have hp9' : (upd F7 p9 (.lst (is ++ [V.ref D]))) p9 = some (.lst (is ++ [V.ref D])):=upd_same
     have s79:=e9.ff
     generalize upd F7 p9 (.lst (is ++ [V.ref D])) = F9 at e9 a9 hp9' s79
     generalize upd H8 p9 (.lst (is ++ [V.ref D])) = H9 at e9 a9
     refine ⟨_, rfl, (by show 2 <= sizeLine; decide), fun p10 hp10 => ?_⟩
     have e10 : Ext F9 H9 _ _:=(Ext.refl a9.same).put (o:=.tup [.ref p9, .ref dm]) hp10
     have himg : IsRows F9 (.ref p9) ((p.1 ++ [p.2]).map (img n l)):=⟨p9, _, rfl, hp9', by
      rw [List.map_append]
      exact papp (Paired.up mono_row (e37.ff.trans s79) relI) (.cons (mono_row.up s79 hD7) .nil)⟩
     have hmn : IsMin F9 (.ref dm) (mset n (p.1 ++ [p.2]).length (Ql78.at_ (p.1 ++ [p.2]))):=⟨dm, om, rfl, by
      rw [List.length_append, okp.len]
      exact s79 _ _ (e7.ff _ _ hdm5)⟩
     obtain ⟨g11, a11⟩:=a9.step (mono_st n l) e10 (y:=.ref p10) (x:=p.1 ++ [p.2]) ⟨p10, _, _, rfl, upd_same, mono_rows.up e10.ff himg, mono_min.up e10.ff hmn⟩
     refine ⟨g, _, _, rfl, rfl, g11, ?_, ?_⟩
     ·rw [a9.len]
      have q1:=joined_len (n:=n) (k:=k) (PJ.take i)
      have q2:=(List.getElem?_eq_some_iff.mp hp).1
      rw [List.length_take] at q1
      rw [sizeLine_eq]; omega
     ·exact ⟨_, _, _, _, _, _, _, rfl, by rw [jt]; exact a11⟩
   ·have hcop : ¬ copB n (k + 1) (Ql78.at_ (p.1 ++ [p.2])) = true:=fun z => hc (by
     unfold copB at z
     have:=of_decide_eq_true z
     rw [this]
     rfl)
    rw [if_neg hcop, List.append_nil] at jt
    exact ⟨_, _, _, _, _, _, _, rfl, by rw [jt]; exact a5⟩
  ·intro σ H2 hI
   obtain ⟨F2, us, o3, o4, o5, o6, o7, rfl, a⟩:=hI
   rw [lenX, List.take_length] at a
   obtain ⟨e, h, _⟩:=a.done (mono_st n l)
   exact ⟨_, rfl, kk _ _ _ e h⟩
end
end Pr
namespace Pr
open PySem PySem.Spec PyProof.Rows L2
theorem mtr_imp {X : Cx} {id : String} {r r' : V -> List V -> Hp -> VK -> Prop} (h : MtR X id r) (i : ∀ x xs H Q, r' x xs H Q -> r x xs H Q) : MtR X id r':=fun pins s σ H x xs v us Q I rx rxs q => h pins s σ H x xs v us Q I rx rxs (i _ _ _ _ q)
structure SdTo {α κ : Type} (gs : List (Grp α κ)) (k : κ) (gs' : List (Grp α κ)) (j : Nat) (g : Grp α κ) : Prop where
 at_ : gs'[j]? = some g
 ks : g.ks = k
 how : gs' = gs \/ (k ∉ gs.map (·.ks) /\ g.ys = [] /\ j = gs.length /\ gs' = gs ++ [g])
def rSdefMT : V -> List V -> Hp -> VK -> Prop:=fun x xs H Q => ∃ (α β : Type) (P : Hp -> V -> β -> Prop) (ent : α -> β) (F0 H0 F : Hp) (d b n : Addr) (gs : List (Grp α (List Key))) (k : List Key), x = .ref d /\ xs = [.ref b, .ref n] /\ Many P ent HO.dT F0 H0 d gs F H /\ H b = some (.tup (k.map kV)) /\
 H n = some (.lst []) /\ F n = Option.none /\ H0 n = Option.none /\ (∀ g ∈ gs, g.b ≠ n) /\ gs.length < sizeLine /\ ∀ gs' j g H', SdTo gs k gs' j g -> Many P ent HO.dT F0 H0 d gs' F H' -> Q (.ref g.b) H'
theorem valV_none {κ : Type} [DecidableEq κ] {kvs : List (κ × V)} {k : κ} (h : valV kvs k = none) : k ∉ kvs.map (·.1):=valV_not h
theorem mt_sdefMT {X : Cx} (hu : X.A.units + 1 < cLine) : MtR X "dict.setdefault" rSdefMT:=mtr_imp (mt_sdefT hu) fun x xs H Q h => by
 obtain ⟨α, β, P, ent, F0, H0, F, d, b, n, gs, k, rfl, rfl, mn, hb, hn, hF, h0, ne, hz, q⟩:=h
 refine ⟨d, b, .ref n, _, k, rfl, rfl, mn.hd, hb, by rw [List.length_map]; exact hz, fun u hu' => ?_, fun hno => ?_⟩
 ·obtain ⟨j, hj⟩:=valV_at hu'
  rw [List.getElem?_map] at hj
  obtain ⟨g, hg, e⟩:=Option.map_eq_some_iff.mp hj
  have e1 : g.ks = k:=congrArg Prod.fst e
  have e2 : V.ref g.b = u:=congrArg Prod.snd e
  subst e2
  exact q gs j g H ⟨hg, e1, .inl rfl⟩ mn
 ·have hnot:=valV_none hno
  rw [List.map_map] at hnot
  refine q (gs ++ [⟨k, [], n, []⟩]) gs.length ⟨k, [], n, []⟩ _ ⟨?_, rfl, .inr ⟨hnot, rfl, rfl, rfl⟩⟩ (mn.add hn hF h0 ne)
  rw [List.getElem?_append_right (Nat.le_refl _), Nat.sub_self]
  rfl
def rSdefMK : V -> List V -> Hp -> VK -> Prop:=fun x xs H Q => ∃ (α β : Type) (P : Hp -> V -> β -> Prop) (ent : α -> β) (F0 H0 F : Hp) (d n : Addr) (gs : List (Grp α Key)) (i : Int), x = .ref d /\ xs = [.int i, .ref n] /\ Many P ent HO.dK F0 H0 d gs F H /\
 H n = some (.lst []) /\ F n = Option.none /\ H0 n = Option.none /\ (∀ g ∈ gs, g.b ≠ n) /\ gs.length < sizeLine /\ ∀ gs' j g H', SdTo gs (Sum.inl i) gs' j g -> Many P ent HO.dK F0 H0 d gs' F H' -> Q (.ref g.b) H'
theorem mt_sdefMK {X : Cx} : MtR X "dict.setdefault" rSdefMK:=mtr_imp mt_sdefK fun x xs H Q h => by
 obtain ⟨α, β, P, ent, F0, H0, F, d, n, gs, i, rfl, rfl, mn, hn, hF, h0, ne, hz, q⟩:=h
 refine ⟨d, i, .ref n, _, rfl, rfl, mn.hd, by rw [List.length_map]; exact hz, fun u hu' => ?_, fun hno => ?_⟩
 ·obtain ⟨j, hj⟩:=valV_at hu'
  rw [List.getElem?_map] at hj
  obtain ⟨g, hg, e⟩:=Option.map_eq_some_iff.mp hj
  have e1 : g.ks = Sum.inl i:=congrArg Prod.fst e
  have e2 : V.ref g.b = u:=congrArg Prod.snd e
  subst e2
  exact q gs j g H ⟨hg, e1, .inl rfl⟩ mn
 ·have hnot:=valV_none hno
  rw [List.map_map] at hnot
  refine q (gs ++ [⟨Sum.inl i, [], n, []⟩]) gs.length ⟨Sum.inl i, [], n, []⟩ _ ⟨?_, rfl, .inr ⟨hnot, rfl, rfl, rfl⟩⟩ (mn.add hn hF h0 ne)
  rw [List.getElem?_append_right (Nat.le_refl _), Nat.sub_self]
  rfl
structure GroupsJ {τ α κ : Type} [DecidableEq τ] (enc : τ -> κ) (J : List (τ × α)) (gs : List (Grp α κ)) : Prop where
 ok : ∀ g ∈ gs, ∃ t, g.ks = enc t /\ g.ys = (J.filter fun q => decide (q.1 = t)).map (·.2) /\ g.ys ≠ []
 all : ∀ q ∈ J, enc q.1 ∈ gs.map (·.ks)
 nd : (gs.map (·.ks)).Nodup
section
variable {τ α κ : Type} [DecidableEq τ] {enc : τ -> κ} {J : List (τ × α)} {gs gs' : List (Grp α κ)}
theorem GroupsJ.nil : GroupsJ enc ([] : List (τ × α)) ([] : List (Grp α κ)):=⟨(fun g hg => nomatch hg), (fun q hq => nomatch hq), List.nodup_nil⟩
theorem filter_new {t t' : τ} {p : α} : ((J ++ [(t, p)]).filter fun q => decide (q.1 = t')).map (·.2) = ((J.filter fun q => decide (q.1 = t')).map (·.2)) ++ if t = t' then [p] else []:=by
 rw [List.filter_append, List.map_append]
 congr 1
 by_cases e : t = t'
 ·rw [if_pos e, List.filter_cons, if_pos (decide_eq_true e)]
  rfl
 ·rw [if_neg e, List.filter_cons, if_neg (fun z => e (of_decide_eq_true z))]
  rfl
theorem set_map {β : Type} {gs : List (Grp α κ)} {j : Nat} {g g' : Grp α κ} (f : Grp α κ -> β) (hj : gs[j]? = some g) (e : f g' = f g) : (gs.set j g').map f = gs.map f:=by
 apply List.ext_getElem?
 intro i
 rw [List.getElem?_map, List.getElem?_map, List.getElem?_set]
 by_cases q : j = i
 ·subst q
  rw [if_pos rfl, if_pos (List.getElem?_eq_some_iff.mp hj).1, hj]
  exact congrArg some e
 ·rw [if_neg q]
theorem GroupsJ.step (inj : ∀ a b, enc a = enc b -> a = b) (h : GroupsJ enc J gs) {t : τ} {p : α} {j : Nat} {g g' : Grp α κ} (s : SdTo gs (enc t) gs' j g) (hk : g'.ks = g.ks) (hy : g'.ys = g.ys ++ [p]) : GroupsJ enc (J ++ [(t, p)]) (gs'.set j g'):=by
 obtain ⟨hj, hks, how⟩:=s
 have keys : (gs'.set j g').map (·.ks) = gs'.map (·.ks):=set_map (·.ks) hj hk
 have hjl:=(List.getElem?_eq_some_iff.mp hj).1
 have nd' : (gs'.map (·.ks)).Nodup:=by
  rcases how with rfl | ⟨hno, _, _, rfl⟩
  ·exact h.nd
  ·rw [List.map_append, List.nodup_append]
   refine ⟨h.nd, by simp, fun x hx y hy' e => ?_⟩
   simp only [List.map_cons, List.map_nil, List.mem_singleton] at hy'
   rw [e, hy', hks] at hx
   exact hno hx
 have old : ∀ g0 ∈ gs', g0.ks ≠ enc t -> g0 ∈ gs:=fun g0 hg0 hne => by
  rcases how with rfl | ⟨_, _, _, rfl⟩
  ·exact hg0
  ·rcases List.mem_append.mp hg0 with z | z
   ·exact z
   ·rw [List.mem_singleton.mp z] at hne
    exact absurd hks hne
 refine ⟨fun g0 hg0 => ?_, fun q hq => ?_, by rw [keys]; exact nd'⟩
 ·obtain ⟨i, hi⟩:=mem_ix hg0
  rw [List.getElem?_set] at hi
  by_cases q : j = i
  ·rw [if_pos q, if_pos hjl] at hi
   cases hi
   refine ⟨t, by rw [hk, hks], ?_, by rw [hy]; simp⟩
   rw [filter_new, if_pos rfl, hy]
   congr 1
   rcases how with rfl | ⟨hno, hys, _, _⟩
   ·obtain ⟨t', e1, e2, _⟩:=h.ok g (List.mem_of_getElem? hj)
    rw [e2, inj t' t (e1.symm.trans hks)]
   ·rw [hys]
    symm
    rw [List.map_eq_nil_iff, List.filter_eq_nil_iff]
    intro z hz e
    have:=h.all z hz
    rw [of_decide_eq_true e] at this
    exact hno this
  ·rw [if_neg q] at hi
   have hmem : g0 ∈ gs':=List.mem_of_getElem? hi
   have hne : g0.ks ≠ enc t:=fun e => by
    have h1 : (gs'.map (·.ks))[i]? = some (enc t):=by rw [List.getElem?_map, hi]; exact congrArg some e
    have h2 : (gs'.map (·.ks))[j]? = some (enc t):=by rw [List.getElem?_map, hj]; exact congrArg some hks
    exact q ((List.getElem?_inj (List.getElem?_eq_some_iff.mp h2).1 nd').mp (h2.trans h1.symm))
   obtain ⟨t', e1, e2, e3⟩:=h.ok g0 (old g0 hmem hne)
   refine ⟨t', e1, ?_, e3⟩
   rw [filter_new, if_neg (fun e => hne (by rw [e1, e])), List.append_nil]
   exact e2
 ·rw [keys]
  have sub : ∀ k ∈ gs.map (·.ks), k ∈ gs'.map (·.ks):=fun k hk' => by
   rcases how with rfl | ⟨_, _, _, rfl⟩
   ·exact hk'
   ·rw [List.map_append]; exact List.mem_append_left _ hk'
  rcases List.mem_append.mp hq with z | z
  ·exact sub _ (h.all q z)
  ·rw [List.mem_singleton.mp z]
   exact List.mem_map.mpr ⟨g, List.mem_of_getElem? hj, hks⟩
end
end Pr
namespace Pr
open PySem PySem.Spec PyProof.Rows L2
open Fm (gm vec gr Mat gcdl shortB mset xv sm pr joined copB Join joins grp tl owns)
abbrev sBy : Stmt:=top 21
def encT (t : List Int) : List Key:=t.map Sum.inl
theorem encT_inj (a b : List Int) (h : encT a = encT b) : a = b:=inl_inj h
def inner (n : Nat) (l : List Int) (k : Nat) (c : Ql78.Rows) (X : List (List Int)) : List (List Int × Join):=(X.filter fun x => shortB (tl n l c x) (owns n l k)).map fun x => (tl n l c x, (c, x))
theorem joins_is (n : Nat) (l : List Int) (k : Nat) (S : List Ql78.Rows) (X : List (List Int)) : joins n l k S X = S.flatMap fun c => inner n l k c X:=rfl
theorem inner_take {n : Nat} {l : List Int} {k : Nat} {c : Ql78.Rows} {X : List (List Int)} {j : Nat} {x : List Int} (h : X[j]? = some x) : inner n l k c (X.take (j + 1)) = inner n l k c (X.take j) ++ if shortB (tl n l c x) (owns n l k) = true then [(tl n l c x, (c, x))] else []:=by
 unfold inner
 rw [filter_take h, List.map_append]
 congr 1
 split <;> rfl
theorem joins_pre {n : Nat} {l : List Int} {k : Nat} {S : List Ql78.Rows} {X : List (List Int)} {i : Nat} {c : Ql78.Rows} (h : S[i]? = some c) (j : Nat) : ∃ r, joins n l k S X = (joins n l k (S.take i) X ++ inner n l k c (X.take j)) ++ r:=by
 refine ⟨inner n l k c (X.drop j) ++ joins n l k (S.drop (i + 1)) X, ?_⟩
 have e1 : S = S.take i ++ c :: S.drop (i + 1):=by
  have hi:=(List.getElem?_eq_some_iff.mp h)
  obtain ⟨hi, e⟩:=hi
  rw [<- e, <- List.drop_eq_getElem_cons hi, List.take_append_drop]
 have e2 : inner n l k c X = inner n l k c (X.take j) ++ inner n l k c (X.drop j):=by
  unfold inner
  rw [<- List.map_append, <- List.filter_append, List.take_append_drop]
 conv => lhs; rw [e1, joins_is, List.flatMap_append, List.flatMap_cons, e2]
 rw [joins_is, joins_is]
 simp only [List.append_assoc]
theorem groups_len {τ α κ : Type} [DecidableEq τ] [DecidableEq κ] {enc : τ -> κ} {J : List (τ × α)} {gs : List (Grp α κ)} (h : GroupsJ enc J gs) {B : List τ} (hB : ∀ q ∈ J, q.1 ∈ B) : gs.length <= B.length:=by
 have : (gs.map (·.ks)).length <= (B.map enc).length:=Fm.sub_len h.nd fun k hk => by
  obtain ⟨g, hg, rfl⟩:=List.mem_map.mp hk
  obtain ⟨t, e1, e2, e3⟩:=h.ok g hg
  rw [e1]
  have : (J.filter fun q => decide (q.1 = t)) ≠ []:=fun z => e3 (by rw [e2, z]; rfl)
  obtain ⟨q, hq⟩:=List.exists_mem_of_ne_nil _ this
  obtain ⟨h1, h2⟩:=List.mem_filter.mp hq
  rw [<- of_decide_eq_true h2]
  exact List.mem_map.mpr ⟨q.1, hB q h1, rfl⟩
 simpa using this
structure LineOk (n : Nat) (x : List Int) : Prop where
 row : x.length = n
 low : ∀ i, i < n -> (xv x i).natAbs < 2 ^ 56
def spBy : Sp:=fun vs H Q _ => ∃ (n k : Nat) (l : List Int) (S : List Ql78.Rows) (X : List (List Int)) (F : Hp) (vl vt vo : V), vs = [vl, vt, vo] /\ n <= 4 /\ k < n /\ Same F H /\ IsRows F vl X /\ LOf (IsSt n l) F vt S /\ IsRow F vo (owns n l k) /\
 (∀ c ∈ S, c.length = k /\ ∀ r ∈ c, r.length = n) /\ (∀ x ∈ X, LineOk n x) /\ (∀ t, (grp (joins n l k S X) t).length < 16777216) /\ (∃ B : List (List Int), B.length < 16777216 /\ ∀ q ∈ joins n l k S X, q.1 ∈ B) /\
 ∀ (F' H' : Hp) (d : Addr) (gs : List (Grp Join (List Key))), Ext F H F' H' -> H d = Option.none -> H' d = some (.dT (gs.map fun g => (g.ks, V.ref g.b))) -> F' d = Option.none -> (∀ g ∈ gs, LOf (IsJoin n l) F' (.ref g.b) g.ys) -> GroupsJ encT (joins n l k S X) gs -> Q (.ref d) H'
section
variable {P : Program} {w : World} {K : PySem.W.Frag} {mg : Str -> Option Value} {base : Heap}
theorem scBy : FnScope ["lines", "starts", "owns", "joins", "start", "line", "tail", "image"] ["lines", "starts", "owns"] (defScope sBy):=⟨rfl, rfl, rfl, by decide +kernel, rfl, by decide +kernel, by decide +kernel⟩
theorem ok_by {f fP fS : Addr} {fd fdP fdS : FuncData} (F : Fun K "joins_by_tail" "joins_by_tail" sBy f fd) (hrev : mg "reversed" = none) (htup : mg "tuple" = none)
  (GP : FnOk P w K mg base CX0 1 fP fdP ["left", "right"] spProd) (kP : PySem.W.keepIn K (.ref fP) = true) (bP : Binds K fdP ["left", "right"] []) (mP : mg "product_sum" = some (.ref fP))
  (GS : FnOk P w K mg base CX0 1 fS fdS ["tail", "owns"] spShort) (kS : PySem.W.keepIn K (.ref fS) = true) (bS : Binds K fdS ["tail", "owns"] []) (mS : mg "is_short" = some (.ref fS)) :
  FnOk P w K mg base CX0 2 f fd ["lines", "starts", "owns"] spBy:=by
 refine F.ok scBy (fun vs H Q E h => ?_) (fun cdv A outer s H vs Q E hr h => ?_)
 ·obtain ⟨n, k, l, S, X, F, vl, vt, vo, rfl, _⟩:=h
  rfl
 ·obtain ⟨n, k, l, S, X, F, vl, vt, vo, rfl, h4, hk, s0, ⟨la, xl, rfl, hla, relL⟩, ⟨sa, xs, rfl, hsa, relS⟩, hvo, okS, okX, few, ⟨B, hB1, hB2⟩, kk⟩:=h
  have nd:=scBy.nd
  have hu:=hu_of hr
  refine ⟨_, pss_cons (ps_set (i:=3) nd rfl (Or.inl rfl) pe_dnewT)
   (pss_cons (ps_for PassesOwn.never rfl (pi_list (pv 1)) (pg_name (i:=4) nd rfl (Or.inl rfl))
    (pss_one (ps_for PassesOwn.never rfl (pi_list (pv 0)) (pg_name (i:=5) nd rfl (Or.inr rfl))
     (pss_cons (ps_setLc (i:=6) rfl nd rfl rfl (sw_true rfl rfl rfl rfl) (pi_reversed rfl hrev (pa_cons (pe_ix ix_tup (pv 4) pe_int (fun _ _ => rfl)) pa_nil)) (blkOk_by (own:=[("image", 7)]) (by kernel_rfl)) (fun _ _ _ _ _ => pg_name (i:=7) nd rfl (Or.inl rfl)) (fun _ _ _ _ _ => pts_nil)
      (fun _ _ _ _ _ => pe_call GP hr rfl mP kP bP .nil pass0 (pa_cons (pv 5) (pa_cons (pv 7) pa_nil))))
     (pss_one (ps_if (pt_val (pe_call GS hr rfl mS kS bS .nil pass0 (pa_cons (pv 6) (pa_cons (pv 2) pa_nil))))
      (pss_one (ps_expr (pe_bm PySem.F.plainAttrs_list PySem.F.slot_list_append PySem.F.type_list_append mt_append
       (pe_bm PySem.F.plainAttrs_dict PySem.F.slot_dict_setdefault PySem.F.type_dict_setdefault (mt_sdefMT hu) (pv 3) (pa_cons (pe_callTy call_tuple_of rfl htup PyProof.Rows.boot_tuple (pa_cons (pv 6) pa_nil)) (pa_cons (pe_lst pa_nil) pa_nil)))
       (pa_cons (pe_tup (pa_cons (pv 4) (pa_cons (pv 5) pa_nil))) pa_nil)))) pss_nil))))))
   (pss_one (ps_ret (pv 3)))), ?_⟩
  intro d hd
  have many0 : Many (IsJoin n l) (fun p : Join => p) HO.dT F H d [] F (upd H d (.dT [])):=⟨(Ext.refl s0).loc hd (s0.free hd), upd_same, hd, s0.free hd, (fun g hg => nomatch hg), List.nodup_nil, fun l us e => nomatch e⟩
  generalize upd H d (.dT []) = H1 at many0
  refine ⟨_, rfl, sa, rfl, ⟨_, row_seq hsa many0.ext.inn⟩, ?_⟩
  have lenS : xs.length = S.length:=Paired.length relS
  have lenL : xl.length = X.length:=Paired.length relL
  refine for_list (K:=K) (a:=sa) (xs:=xs) (fun i σ H' => ∃ (F' : Hp) (gs : List (Grp Join (List Key))) (o4 o5 o6 o7 : Option V), σ = [some (.ref la), some (.ref sa), some vo, some (.ref d), o4, o5, o6, o7] /\ Many (IsJoin n l) (fun p : Join => p) HO.dT F H d gs F' H' /\ GroupsJ encT (joins n l k (S.take i) X) gs)
   ⟨F, [], none, none, none, none, rfl, many0, GroupsJ.nil⟩ (fun i σ H' _ ⟨F', gs, o4, o5, o6, o7, _, mn, _⟩ => row_seq (mn.ext.ff _ _ hsa) mn.ext.inn) ?_ ?_
  ·intro i v σ H2 hv hI
   obtain ⟨F2, gs, o4, o5, o6, o7, rfl, mn, gj⟩:=hI
   obtain ⟨c, hc, hst⟩:=pget relS hv
   have okc:=okS c (List.mem_of_getElem? hc)
   refine ⟨_, rfl, la, rfl, ⟨_, row_seq (mn.ext.ff _ _ hla) mn.ext.inn⟩, ?_⟩
   refine for_list (K:=K) (a:=la) (xs:=xl) (fun j σ H' => ∃ (F' : Hp) (gs : List (Grp Join (List Key))) (o5 o6 o7 : Option V), σ = [some (.ref la), some (.ref sa), some vo, some (.ref d), some v, o5, o6, o7] /\ Many (IsJoin n l) (fun p : Join => p) HO.dT F H d gs F' H' /\ GroupsJ encT (joins n l k (S.take i) X ++ inner n l k c (X.take j)) gs)
    ⟨F2, gs, o5, o6, o7, rfl, mn, by rw [show inner n l k c (X.take 0) = [] from rfl, List.append_nil]; exact gj⟩ (fun j σ H' _ ⟨F', gs, o5, o6, o7, _, mn, _⟩ => row_seq (mn.ext.ff _ _ hla) mn.ext.inn) ?_ ?_
   ·intro j vx σ H3 hvx hI
    obtain ⟨F3, gs, o5, o6, o7, rfl, mn, gj⟩:=hI
    obtain ⟨x, hx, hxrow⟩:=pget relL hvx
    have okx:=okX x (List.mem_of_getElem? hx)
    have hxr : IsRow F3 vx x:=mono_row.up mn.ext.ff hxrow
    have hrow : IsRow F3 vx (vec n (xv x)):=by rw [<- vec_xv okx.row]; exact hxr
    have hst3:=(mono_st n l).up mn.ext.ff hst
    have hst3':=hst3
    obtain ⟨ta, w1, w2, rfl, hta, ⟨ia, is, rfl, hia, relI⟩, _⟩:=hst3'
    have lenI : is.length = k:=by rw [Paired.length relI, List.length_map, okc.1]
    have it:=inner_take (n:=n) (l:=l) (k:=k) (c:=c) hx
    refine ⟨_, rfl, ta, _, 0, _, rfl, rfl, SqT.of (mn.ext.inn _ _ hta), at_of (j:=0) rfl rfl, ia, is, rfl, row_seq hia mn.ext.inn, fun D hD => ?_⟩
    refine lc_rev (K:=K) (a:=ia) (xs:=is) (AccP IsI F3 H3 D (tl n l c x)) (Acc.p0 (Ext.refl mn.ext.inn) hD) (fun m H' ⟨F4, us4, a4⟩ => row_seq (a4.ext.ff _ _ hia) a4.same) ?_ ?_
    ·intro m y H4 hm hy hI
     obtain ⟨F4, us4, a4⟩:=hI
     obtain ⟨r0, hr0, hrow2⟩:=pget relI hy
     rw [List.getElem?_map] at hr0
     obtain ⟨r, hr1, rfl⟩:=Option.map_eq_some_iff.mp hr0
     have hrn : r.length = n:=okc.2 r (List.mem_of_getElem? hr1)
     refine ⟨rfl, ?_⟩
     refine ⟨_, rfl, _, rfl, vx, y, n, xv x, _, F4, rfl, a4.same, mono_row.up a4.ext.ff hrow, mono_row.up a4.ext.ff hrow2, by omega, .inl okx.low, fun F5 H5 e5 => ?_⟩
     refine a4.next mono_i (x:=Ql78.pair (Ql78.rows n l) x r) ?_ ?_ e5 ?_
     ·unfold tl
      rw [List.getElem?_map, List.getElem?_reverse (by rw [okc.1]; omega), okc.1]
      rw [lenI] at hr1
      rw [hr1]
      rfl
     ·unfold tl
      rw [List.length_map, List.length_reverse, okc.1]; omega
     ·show V.int _ = V.int _
      rw [Fm.pair_rows okx.row hrn]
      congr 1
      exact Fm.sm_congr n fun a _ => by
       congr 1
       exact Fm.sm_congr n fun b _ => Int.mul_comm _ _
    ·rintro H4 a4
     obtain ⟨F5, e5, h5⟩:=a4.done mono_i (by unfold tl; rw [List.length_map, List.length_reverse, lenI, okc.1])
     have hD5:=row_of h5
     have mn5:=mn.pass (mono_join n l) e5
     refine ⟨_, rfl, _, rfl, .ref D, vo, tl n l c x, owns n l k, F5, rfl, e5.inn, hD5, mono_row.up mn5.ext.ff hvo, fun F6 H6 e6 => ?_⟩
     have mn6:=mn5.pass (mono_join n l) e6
     have hD6:=mono_row.up e6.ff hD5
     refine ⟨_, rfl, ?_⟩
     by_cases hs : shortB (tl n l c x) (owns n l k) = true
     ·rw [if_pos hs] at it
      rw [hs]
      refine iteT ?_
      obtain ⟨dd, hdd, hDD⟩:=hD6
      cases hdd
      refine ⟨_, rfl, .inr (.inr (.inl ⟨rfl, .inr ⟨_, mn6.hd⟩⟩)), _, rfl, D, _, rfl, .inl ⟨row_seq hDD mn6.ext.inn, fun q7 hq7 => ?_⟩⟩
      have e7:=(Ext.refl mn6.ext.inn).put (o:=.tup ((tl n l c x).map V.int)) hq7
      have mn7:=mn6.pass (mono_join n l) e7
      have hq7' : (upd H6 q7 (.tup ((tl n l c x).map V.int))) q7 = some (.tup ((encT (tl n l c x)).map kV)):=by rw [encT, kV_inl]; exact upd_same
      generalize upd F6 q7 (.tup ((tl n l c x).map V.int)) = F7 at e7 mn7
      generalize upd H6 q7 (.tup ((tl n l c x).map V.int)) = H7 at e7 mn7 hq7'
      refine ⟨Nat.zero_le _, fun b8 hb8 => ?_⟩
      have e8 : Ext F7 H7 F7 (upd H7 b8 (.lst [])):=(Ext.refl mn7.ext.inn).loc hb8 (mn7.ext.inn.free hb8)
      have mn8:=mn7.pass (mono_join n l) e8
      have nb8 : ∀ g ∈ gs, g.b ≠ b8:=fun g hg => ne_of_none (mn7.at_ g hg).1 hb8
      have hq8:=e8.hh _ _ hq7'
      obtain ⟨rest, epre⟩:=joins_pre (n:=n) (l:=l) (k:=k) (X:=X) hc (j + 1)
      have hpre : ∀ q ∈ joins n l k (S.take i) X ++ inner n l k c (X.take j), q.1 ∈ B:=fun q hq => hB2 q (by
       rw [epre, it]
       refine List.mem_append_left _ ?_
       rw [<- List.append_assoc]
       exact List.mem_append_left _ hq)
      have lenG:=groups_len gj hpre
      refine ⟨Join, Join, IsJoin n l, fun p => p, F, H, F7, d, q7, b8, gs, encT (tl n l c x), rfl, rfl, mn8, hq8, upd_same, mn7.ext.inn.free hb8, mn7.ext.hh.free hb8, nb8, small24 (by omega), fun gs' jj g H9 sd mn9 => ?_⟩
      have hgm : g ∈ gs':=List.mem_of_getElem? sd.at_
      refine ⟨.inl ⟨rfl, _, SqL.of (mn9.at_ g hgm).1⟩, _, rfl, _, rfl, (by show 2 <= sizeLine; decide), fun r10 hr10 => ?_⟩
      have e10:=(Ext.refl mn9.ext.inn).put (o:=.tup [.ref ta, vx]) hr10
      have mn10:=mn9.pass (mono_join n l) e10
      have s37 : Same F3 F7:=e5.ff.trans (e6.ff.trans e7.ff)
      have ent10 : IsJoin n l (upd F7 r10 (.tup [.ref ta, vx])) (.ref r10) (c, x):=⟨r10, _, _, rfl, upd_same, (mono_st n l).up (s37.trans e10.ff) hst3, mono_row.up (s37.trans e10.ff) hxr⟩
      have gj':=gj.step encT_inj sd (p:=(c, x)) (g':=⟨g.ks, g.ys ++ [(c, x)], g.b, g.us ++ [.ref r10]⟩) rfl rfl
      have len10 : g.us.length < 16777216:=by
       have l2:=Paired.length (mn10.at_ g hgm).2.2.2
       rw [List.length_map] at l2
       rw [l2]
       have hm : (⟨g.ks, g.ys ++ [(c, x)], g.b, g.us ++ [.ref r10]⟩ : Grp Join (List Key)) ∈ gs'.set jj ⟨g.ks, g.ys ++ [(c, x)], g.b, g.us ++ [.ref r10]⟩:=by
        rw [List.mem_iff_getElem?]
        exact ⟨jj, by rw [List.getElem?_set, if_pos rfl, if_pos (List.getElem?_eq_some_iff.mp sd.at_).1]⟩
       obtain ⟨t, _, e2, _⟩:=gj'.ok _ hm
       have e2 : g.ys ++ [(c, x)] = _:=e2
       have z:=congrArg List.length e2
       rw [List.length_append, List.length_map] at z
       have f1:=few t
       unfold grp at f1
       rw [List.length_map, epre, it, <- List.append_assoc, List.filter_append, List.length_append] at f1
       show g.ys.length < 16777216
       omega
      refine ⟨g.b, g.us, _, rfl, rfl, (mn10.at_ g hgm).1, small24 len10, ?_⟩
      refine ⟨_, _, _, _, _, rfl, mn10.push sd.at_ ent10, ?_⟩
      rw [it, <- List.append_assoc]
      exact gj'
     ·rw [if_neg hs, List.append_nil] at it
      rw [Bool.eq_false_iff.mpr hs]
      refine iteF ?_
      exact ⟨_, _, _, _, _, rfl, mn6, by rw [it]; exact gj⟩
   ·intro σ H3 hI
    obtain ⟨F3, gs, o5, o6, o7, rfl, mn, gj⟩:=hI
    refine ⟨F3, gs, _, _, _, _, rfl, mn, ?_⟩
    rw [lenL, List.take_length] at gj
    rw [joins_is, take_flat hc, <- joins_is]
    exact gj
  ·intro σ H2 hI
   obtain ⟨F2, gs, o4, o5, o6, o7, rfl, mn, gj⟩:=hI
   rw [lenS, List.take_length] at gj
   obtain ⟨F3, e3, s3, dF3, hl⟩:=mn.done (mono_join n l)
   exact ⟨_, rfl, kk F3 H2 d gs e3 mn.d0 mn.hd dF3 (fun g hg => by have:=hl g hg; rwa [List.map_id'] at this) gj⟩
end
end Pr
namespace Pr
open PySem PySem.Spec PyProof.Rows L2
open Fm (gm vec gr Mat xv sm pr dt Latt colsL chL chs sp side xc lineL byV mk)
abbrev sLines : Stmt:=Pr.top 19
def spLines (K : PySem.W.Frag) : Sp:=fun vs H Q _ => ∃ (n : Nat) (a : Addr) (ns : List Int) (F : Hp), vs = [.int n, .ref a] /\ SqL K H a (ns.map V.int) /\ (∀ H', Same H H' -> SqL K H' a (ns.map V.int)) /\ 1 <= n /\ n <= 4 /\ ns.length = n * n /\ Ql78.form n ns = true /\ Same F H /\
 ∀ (F' H' : Hp) (d : Addr) (C : Mat) (gs : List (Grp (List Int) Key)), Ext F H F' H' -> Latt n (gm n ns) C -> F' d = some (.dK (gs.map fun g => (g.ks, V.ref g.b))) -> (∀ g ∈ gs, IsRows F' (.ref g.b) g.ys) -> GroupsJ Sum.inl (lineL n C (gr n (gm n ns) C) (Fm.top n ns)) gs -> Q (.ref d) H'
section
variable {P : Program} {w : World} {K : PySem.W.Frag} {mg : Str -> Option Value} {base : Heap}
theorem start_zero' {n : Nat} {M C : Mat} (t : Latt n M C) {m : Int} (h0 : 0 <= m) (h1 : m <= 64) : StartOk n M C m n (fun _ => 0):=by
 have hz : ∀ c, side n (gr n M C) c (fun _ => 0) = 0:=fun c => by unfold side; exact Fm.sm_zero n fun j _ => Int.mul_zero _
 exact ⟨t, h0, h1, by rw [Fm.sp_end]; exact Int.mul_nonneg (Int.le_of_lt (t.dt_small (Nat.le_refl n)).1) h0, fun c hc => by rw [hz c]; have:=(t.dt_small (show c + 1 <= n by omega)).1; omega⟩
theorem chL_zero' (n : Nat) (C G : Mat) : chL n C G n (fun _ => 0) (fun _ => 0) = (0, vec (n + n) fun _ => 0):=by
 unfold chL
 rw [Fm.sp_end]
 congr 1
 exact Fm.vec_congr fun i _ => Fm.mk_zero n C G i
theorem line_is (n : Nat) (C G : Mat) (m : Int) : (chs n G m n (fun _ => 0) (n - 0)).map (chL n C G 0 fun _ => 0) = lineL n C G m:=by
 unfold lineL
 rw [Nat.sub_zero]
 refine List.map_congr_left fun y _ => ?_
 unfold chL
 congr 1
 rw [Nat.add_zero]
 exact Fm.vec_congr fun i hi => by rw [Fm.mk_low hi, Int.zero_add]
theorem top_le {n : Nat} {l : List Int} (h : Ql78.form n l = true) : Fm.top n l <= 32:=by
 unfold Fm.top
 have : ∀ (L : List Int) (s : Int), s <= 32 -> (∀ v ∈ L, v <= 32) -> L.foldl max s <= 32:=by
  intro L
  induction L with
  | nil => exact fun s hs _ => hs
  | cons a L ih => exact fun s hs hL => ih _ (by have:=hL a (List.mem_cons_self ..); omega) fun v hv => hL v (List.mem_cons_of_mem _ hv)
 refine this _ 0 (by omega) fun v hv => ?_
 unfold Ql78.diagonal at hv
 obtain ⟨i, hi, rfl⟩:=List.mem_map.mp hv
 have hi:=List.mem_range.mp hi
 rw [Fm.at_rows hi hi]
 have:=Fm.small_mt (n:=n) (Fm.form_small h) i i
 omega
theorem scLines : FnScope ["n", "a", "most", "i", "lines", "value", "line"] ["n", "a"] (defScope sLines):=⟨rfl, rfl, rfl, by decide +kernel, rfl, by decide +kernel, by decide +kernel⟩
theorem ok_lines {f fG fR fE : Addr} {fd fdG fdR fdE : FuncData} (F : Fun K "lines_by_value" "lines_by_value" sLines f fd) (hrng : mg "range" = none) (hmax : mg "max" = none)
  (GG : FnOk P w K mg base CX0 3 fG fdG ["n", "columns", "start", "to", "most"] spGrowns) (kG : PySem.W.keepIn K (.ref fG) = true) (bG : Binds K fdG ["n", "columns", "start", "to", "most"] []) (mG : mg "grown_choices" = some (.ref fG))
  (GR : FnOk P w K mg base CX0 4 fR fdR ["n", "a"] (spReduced K)) (kR : PySem.W.keepIn K (.ref fR) = true) (bR : Binds K fdR ["n", "a"] []) (mR : mg "reduced_columns" = some (.ref fR))
  (GE : FnOk P w K mg base CX0 1 fE fdE ["n"] spEmpty) (kE : PySem.W.keepIn K (.ref fE) = true) (bE : Binds K fdE ["n"] []) (mE : mg "empty_choice" = some (.ref fE)) :
  FnOk P w K mg base CX0 5 f fd ["n", "a"] (spLines K):=by
 refine F.ok scLines (fun vs H Q E h => ?_) (fun cdv A outer s H vs Q E hr h => ?_)
 ·obtain ⟨n, a, ns, F, rfl, _⟩:=h
  rfl
 ·obtain ⟨n, a, ns, F, rfl, hs, hkeep, h1, h4, hl, hf, s0, kk⟩:=h
  have nd:=scLines.nd
  have hr1 : Room 1 _:=hr.mono (by decide)
  have hr3 : Room 3 _:=hr.mono (by decide)
  refine ⟨_, pss_cons (ps_set (i:=2) nd rfl (Or.inl rfl) (pe_callB (cr_max rfl) rfl hmax PyProof.Rows.boot_max (pa_cons (pe_lc rfl nd (pi_range1 rfl hrng (pa_cons (pv 0) pa_nil)) (blkOk_by (own:=[("i", 3)]) (by kernel_rfl)) (fun _ _ _ _ _ => pg_name (i:=3) nd rfl (Or.inl rfl)) (fun _ _ _ _ _ => pts_nil)
    (fun _ _ _ _ _ => pe_ix (r:=rIxL K) ix_list (pv 1) (pe_op op_add (pe_op op_mul (pv 3) (pv 0)) (pv 3)) (fun _ _ => rfl))) pa_nil)))
   (pss_cons (ps_set (i:=4) nd rfl (Or.inl rfl) pe_dnewK)
   (pss_cons (ps_for PassesOwn.never rfl (pi_list (pe_call GG hr3 rfl mG kG bG .nil pass0 (pa_cons (pv 0) (pa_cons (pe_call GR hr rfl mR kR bR .nil pass0 (pa_cons (pv 0) (pa_cons (pv 1) pa_nil))) (pa_cons (pe_call GE hr1 rfl mE kE bE .nil pass0 (pa_cons (pv 0) pa_nil)) (pa_cons pe_int (pa_cons (pv 2) pa_nil)))))))
     (pg_pair K (i:=5) (j:=6) rfl nd rfl rfl (Or.inl rfl) (Or.inl rfl))
    (pss_one (ps_expr (pe_bm PySem.F.plainAttrs_list PySem.F.slot_list_append PySem.F.type_list_append mt_append
       (pe_bm PySem.F.plainAttrs_dict PySem.F.slot_dict_setdefault PySem.F.type_dict_setdefault mt_sdefMK (pv 4) (pa_cons (pv 5) (pa_cons (pe_lst pa_nil) pa_nil)))
       (pa_cons (pv 6) pa_nil)))))
   (pss_one (ps_ret (pv 4))))), ?_⟩
  refine ⟨_, rfl, (n : Int), rfl, by omega, by omega, ?_⟩
  rw [Int.toNat_natCast]
  intro D hD
  refine lc_range (lo:=0) (n:=n) (AccP IsI F H D ((List.range n).map fun i => gm n ns i i)) (Acc.p0 (Ext.refl s0) hD) ?_ ?_
  ·intro i H1 hi hI
   obtain ⟨F1, us, a1⟩:=hI
   refine ⟨rfl, ?_⟩
   have b1:=Fm.ix_lt (n:=n) (i:=i) (j:=i) hi hi
   refine ⟨_, rfl, _, rfl, _, rfl, (0 + (i : Int)), (n : Int), rfl, rfl, .inl ⟨by omega, by omega⟩, _, rfl, _, _, rfl, rfl, a, _, _, _, rfl, rfl, hkeep _ a1.ext.hh, at_of (j:=n * i + i) ?_ (getV (by rw [hl]; exact b1)), ?_⟩
   ·rw [Int.zero_add, Int.natCast_add, Int.natCast_mul, Int.mul_comm]
   ·exact a1.next mono_i (get_map_range hi) (by rw [List.length_map, List.length_range]; omega) (Ext.refl a1.same) rfl
  rintro H1 a1
  obtain ⟨F1, e1, h1'⟩:=a1.done mono_i (by rw [List.length_map, List.length_range])
  obtain ⟨dd, hdd, hD1⟩:=row_of h1'
  cases hdd
  refine ⟨D, _, rfl, row_seq hD1 e1.inn, by rw [List.length_map, List.length_range]; omega, fun m hm1 hm2 => ?_⟩
  have em:=Fm.top_is hf hm1 hm2
  subst em
  have tp:=Fm.top_pos hf h1
  have tl32:=top_le hf
  intro d hd
  have many0 : Many IsRow (fun x : List Int => x) HO.dK F H d [] F1 (upd H1 d (.dK [])):=⟨e1.loc (e1.hh.free hd) (e1.inn.free hd), upd_same, e1.hh.free hd, e1.inn.free hd, (fun g hg => nomatch hg), List.nodup_nil, fun l us e => nomatch e⟩
  generalize upd H1 d (.dK []) = H2 at many0
  refine ⟨_, rfl, _, rfl, _, rfl, n, a, ns, F1, rfl, hkeep _ many0.ext.hh, h1, by omega, hl, hf, many0.ext.inn, fun F3 H3 vc C e3 latt hvc => ?_⟩
  have mn3:=many0.pass mono_row e3
  refine ⟨_, rfl, n, F3, rfl, by omega, mn3.ext.inn, fun F4 H4 ve e4 hve => ?_⟩
  have mn4:=mn3.pass mono_row e4
  rw [<- chL_zero' n C (gr n (gm n ns) C)] at hve
  refine ⟨_, rfl, n, gm n ns, C, n, n, 0, Fm.top n ns, fun _ => 0, fun _ => 0, F4, vc, ve, rfl, mn4.ext.inn, mono_rows.up e4.ff hvc, hve, start_zero' latt (by omega) (by omega), Nat.le_refl _, Nat.le_refl _, Nat.zero_le _, by omega, fun F5 H5 vg e5 hvg => ?_⟩
  rw [line_is] at hvg
  have mn5:=mn4.pass mono_row e5
  obtain ⟨ga, xs, rfl, hga, relG⟩:=hvg
  have lenX : xs.length = (lineL n C (gr n (gm n ns) C) (Fm.top n ns)).length:=Paired.length relG
  have lenL : (lineL n C (gr n (gm n ns) C) (Fm.top n ns)).length < 16777216:=by
   unfold lineL
   rw [List.length_map]
   exact len44 (start_zero' latt (show 0 <= Fm.top n ns by omega) (by omega)) (Nat.le_refl n) (Nat.le_refl n) h4
  refine ⟨ga, rfl, ⟨_, row_seq hga mn5.ext.inn⟩, ?_⟩
  refine for_list (K:=K) (a:=ga) (xs:=xs) (fun i σ H' => ∃ (F' : Hp) (gs : List (Grp (List Int) Key)) (o5 o6 : Option V), σ = [some (.int n), some (.ref a), some (.int (Fm.top n ns)), none, some (.ref d), o5, o6] /\ Many IsRow (fun x : List Int => x) HO.dK F H d gs F' H' /\ Same F5 F' /\ GroupsJ Sum.inl ((lineL n C (gr n (gm n ns) C) (Fm.top n ns)).take i) gs)
   ⟨F5, [], none, none, rfl, mn5, .refl _, GroupsJ.nil⟩ (fun i σ H' _ ⟨F', gs, o5, o6, _, mn, s5, _⟩ => row_seq (s5 _ _ hga) mn.ext.inn) ?_ ?_
  ·intro i v σ H6 hv hI
   obtain ⟨F6, gs, o5, o6, rfl, mn, s5, gj⟩:=hI
   obtain ⟨q, hq, hch⟩:=pget relG hv
   obtain ⟨ca, v1, v2, rfl, hca, (rfl : v1 = .int _), hline⟩:=mono_ch.up s5 hch
   have hi:=(List.getElem?_eq_some_iff.mp hq).1
   refine ⟨ca, _, rfl, SqT.of (mn.ext.inn _ _ hca), rfl, _, _, rfl, _, _, rfl, rfl, ?_⟩
   refine ⟨_, rfl, .inr (.inr (.inl ⟨rfl, .inl ⟨_, mn.hd⟩⟩)), _, rfl, Nat.zero_le _, fun b8 hb8 => ?_⟩
   have e8 : Ext F6 H6 F6 (upd H6 b8 (.lst [])):=(Ext.refl mn.ext.inn).loc hb8 (mn.ext.inn.free hb8)
   have mn8:=mn.pass mono_row e8
   have nb8 : ∀ g ∈ gs, g.b ≠ b8:=fun g hg => ne_of_none (mn.at_ g hg).1 hb8
   have lenG:=groups_len gj (B:=((lineL n C (gr n (gm n ns) C) (Fm.top n ns)).take i).map (·.1)) fun q hq => List.mem_map.mpr ⟨q, hq, rfl⟩
   rw [List.length_map, List.length_take] at lenG
   refine ⟨List Int, List Int, IsRow, fun x => x, F, H, F6, d, b8, gs, q.1, rfl, rfl, mn8, upd_same, mn.ext.inn.free hb8, mn.ext.hh.free hb8, nb8, small24 (by omega), fun gs' jj g H9 sd mn9 => ?_⟩
   have hgm : g ∈ gs':=List.mem_of_getElem? sd.at_
   have gj':=gj.step (fun a b e => by injection e) sd (p:=q.2) (g':=⟨g.ks, g.ys ++ [q.2], g.b, g.us ++ [v2]⟩) rfl rfl
   refine ⟨.inl ⟨rfl, _, SqL.of (mn9.at_ g hgm).1⟩, _, rfl, g.b, g.us, v2, rfl, rfl, (mn9.at_ g hgm).1, ?_, ?_⟩
   ·have l2:=Paired.length (mn9.at_ g hgm).2.2.2
    rw [List.length_map] at l2
    rw [l2]
    have hm : (⟨g.ks, g.ys ++ [q.2], g.b, g.us ++ [v2]⟩ : Grp (List Int) Key) ∈ gs'.set jj ⟨g.ks, g.ys ++ [q.2], g.b, g.us ++ [v2]⟩:=by
     rw [List.mem_iff_getElem?]
     exact ⟨jj, by rw [List.getElem?_set, if_pos rfl, if_pos (List.getElem?_eq_some_iff.mp sd.at_).1]⟩
    obtain ⟨t, _, e2, _⟩:=gj'.ok _ hm
    have e2 : g.ys ++ [q.2] = _:=e2
    have z:=congrArg List.length e2
    rw [List.length_append, List.length_map] at z
    have z2:=List.length_filter_le (fun q => decide (q.1 = t)) ((lineL n C (gr n (gm n ns) C) (Fm.top n ns)).take i ++ [(q.1, q.2)])
    rw [List.length_append, List.length_take] at z2
    have z3 : [q.2].length = 1:=rfl
    have z4 : [(q.1, q.2)].length = 1:=rfl
    refine small24 ?_
    omega
   ·refine ⟨_, _, _, _, rfl, mn9.push sd.at_ hline, s5, ?_⟩
    rw [List.take_add_one, hq]
    exact gj'
  ·intro σ H6 hI
   obtain ⟨F6, gs, o5, o6, rfl, mn, s5, gj⟩:=hI
   rw [lenX, List.take_length] at gj
   obtain ⟨F7, e7, s7, dF7, hl7⟩:=mn.done mono_row
   refine ⟨_, rfl, kk _ _ d C gs (e7.freeze mn.hd mn.d0 dF7) latt upd_same (fun g hg => ?_) gj⟩
   have:=hl7 g hg
   rw [List.map_id'] at this
   exact mono_rows.up (same_put dF7) this
end
end Pr
namespace Pr
open PySem PySem.Spec PyProof.Rows L2
open Fm (gm vec gr Mat xv sm pr Latt lineL byV joins grp joined tl owns fm fk Starts Lines Join Good)
abbrev sLonger : Stmt:=Pr.top 20
theorem valV_grp {α κ : Type} [DecidableEq κ] : ∀ {gs : List (Grp α κ)}, (gs.map (·.ks)).Nodup -> ∀ g ∈ gs, valV (gs.map fun g => (g.ks, V.ref g.b)) g.ks = some (.ref g.b)
 | [], _, g, h => nomatch h
 | a :: gs, nd, g, h => by
  rw [List.map_cons, List.nodup_cons] at nd
  rw [List.map_cons]
  rcases List.mem_cons.mp h with e | e
  ·subst e; exact valV_pos rfl
  ·rw [valV_neg (fun z => nd.1 (by have z : a.ks = g.ks:=z; rw [z]; exact List.mem_map.mpr ⟨g, e, rfl⟩))]
   exact valV_grp nd.2 g e
theorem group_at {τ α κ : Type} [DecidableEq τ] {enc : τ -> κ} (inj : ∀ a b, enc a = enc b -> a = b) {J : List (τ × α)} {gs : List (Grp α κ)} (h : GroupsJ enc J gs) {t : τ} {p : α} (hm : (t, p) ∈ J) : ∃ g ∈ gs, g.ks = enc t /\ g.ys = (J.filter fun q => decide (q.1 = t)).map (·.2):=by
 obtain ⟨g, hg, e⟩:=List.mem_map.mp (h.all _ hm)
 obtain ⟨t', e1, e2, _⟩:=h.ok g hg
 have : t' = t:=inj _ _ (e1.symm.trans e)
 subst this
 exact ⟨g, hg, e1, e2⟩
theorem group_keys {τ α κ : Type} [DecidableEq τ] {enc : τ -> κ} {J : List (τ × α)} : ∀ {gs : List (Grp α κ)}, (∀ g ∈ gs, ∃ t, g.ks = enc t /\ g.ys = (J.filter fun q => decide (q.1 = t)).map (·.2) /\ g.ys ≠ []) -> ∃ ts : List τ, gs.map (·.ks) = ts.map enc /\ ∀ t ∈ ts, ∃ p, (t, p) ∈ J
 | [], _ => ⟨[], rfl, fun t ht => nomatch ht⟩
 | g :: gs, h => by
  obtain ⟨t, e1, e2, e3⟩:=h g (List.mem_cons_self ..)
  obtain ⟨ts, h1, h2⟩:=group_keys fun g' hg' => h g' (List.mem_cons_of_mem _ hg')
  refine ⟨t :: ts, by rw [List.map_cons, List.map_cons, e1, h1], fun t' ht' => ?_⟩
  rcases List.mem_cons.mp ht' with z | z
  ·subst z
   have : (J.filter fun q => decide (q.1 = t')) ≠ []:=fun z => e3 (by rw [e2, z]; rfl)
   obtain ⟨q, hq⟩:=List.exists_mem_of_ne_nil _ this
   obtain ⟨a, b⟩:=List.mem_filter.mp hq
   have b:=of_decide_eq_true b
   exact ⟨q.2, by rw [<- b]; exact a⟩
  ·exact h2 t' z
theorem box_len : ∀ k, (Ql78.boxes (List.replicate k 16)).length = 33 ^ k
 | 0 => rfl
 | k + 1 => by
  rw [List.replicate_succ]
  unfold Ql78.boxes
  have ih:=box_len k
  simp only [List.length_flatMap, List.length_map, ih]
  rw [Nat.pow_succ]
  have key : ∀ m c, ((List.range m).map fun _ => c).sum = m * c:=by
   intro m c
   induction m with
   | zero => simp
   | succ m ih => rw [List.range_succ, List.map_append, List.sum_append, ih, Nat.succ_mul]; simp
  have e:=key 33 (33 ^ k)
  simp at e ⊢
  omega
def spLonger : Sp:=fun vs H Q _ => ∃ (n k : Nat) (l : List Int) (S : List Ql78.Rows) (C : Mat) (gs : List (Grp (List Int) Key)) (d : Addr) (F : Hp) (vr vt vo : V), vs = [vr, .ref d, vt, vo] /\ Ql78.form n l = true /\ l.length = n * n /\ 1 <= n /\ n <= 4 /\ k < n /\ Same F H /\ IsRows F vr (mat n (gm n l)) /\ Latt n (gm n l) C /\
 F d = some (.dK (gs.map fun g => (g.ks, V.ref g.b))) /\ (∀ g ∈ gs, IsRows F (.ref g.b) g.ys) /\ GroupsJ Sum.inl (lineL n C (gr n (gm n l) C) (Fm.top n l)) gs /\ LOf (IsSt n l) F vt S /\ Starts n l k S /\ IsRow F vo (owns n l k) /\
 ∀ (F' H' : Hp) (v : V) (S' : List Ql78.Rows), Ext F H F' H' -> T2 IsRow (LOf (IsSt n l)) F' v (fm n l k k :: fk n l k, S') -> Starts n l (k + 1) S' -> Q v H'
section
variable {P : Program} {w : World} {K : PySem.W.Frag} {mg : Str -> Option Value} {base : Heap}
theorem scLonger : FnScope ["rows", "lines", "starts", "owns", "value", "joins", "tail", "longer"] ["rows", "lines", "starts", "owns"] (defScope sLonger):=⟨rfl, rfl, rfl, by decide +kernel, rfl, by decide +kernel, by decide +kernel⟩
theorem ok_longer {f fB fJ : Addr} {fd fdB fdJ : FuncData} (F : Fun K "longer_starts" "longer_starts" sLonger f fd) (hsort : mg "sorted" = none) (hlist : mg "list" = none)
  (GB : FnOk P w K mg base CX0 2 fB fdB ["lines", "starts", "owns"] spBy) (kB : PySem.W.keepIn K (.ref fB) = true) (bB : Binds K fdB ["lines", "starts", "owns"] []) (mB : mg "joins_by_tail" = some (.ref fB))
  (GJ : FnOk P w K mg base CX0 2 fJ fdJ ["rows", "joins"] spJoined) (kJ : PySem.W.keepIn K (.ref fJ) = true) (bJ : Binds K fdJ ["rows", "joins"] []) (mJ : mg "joined_starts" = some (.ref fJ)) :
  FnOk P w K mg base CX0 3 f fd ["rows", "lines", "starts", "owns"] spLonger:=by
 refine F.ok scLonger (fun vs H Q E h => ?_) (fun cdv A outer s H vs Q E hr h => ?_)
 ·obtain ⟨n, k, l, S, C, gs, d, F, vr, vt, vo, rfl, _⟩:=h
  rfl
 ·obtain ⟨n, k, l, S, C, gs, d, F, vr, vt, vo, rfl, hf, hl, h1, h4, hk, s0, hvr, latt, hd, hgs, gj, hvt, st, hvo, kk⟩:=h
  have nd:=scLonger.nd
  have hu:=hu_of hr
  have tp:=Fm.top_pos hf h1
  have t32:=top_le hf
  have low:=Fm.first_low hf hl hk
  have lx : Lines n l (byV (lineL n C (gr n (gm n l) C) (Fm.top n l))):=Fm.lines_of latt (by omega)
  generalize hL : lineL n C (gr n (gm n l) C) (Fm.top n l) = L at *
  refine ⟨_, pss_cons (ps_for PassesOwn.never rfl (pi_list (pe_callB (cr_sortedDK rfl) rfl hsort PyProof.Rows.boot_sorted (pa_cons (pv 1) pa_nil))) (pg_name (i:=4) nd rfl (Or.inl rfl))
    (pss_cons (ps_set (i:=5) nd rfl (Or.inl rfl) (pe_call GB hr rfl mB kB bB .nil pass0 (pa_cons (pe_dget hu (pv 1) (pv 4) (fun _ _ => rfl)) (pa_cons (pv 2) (pa_cons (pv 3) pa_nil)))))
    (pss_one (ps_for PassesOwn.never rfl (pi_list (pe_callB (cr_sortedDT rfl) rfl hsort PyProof.Rows.boot_sorted (pa_cons (pv 5) pa_nil))) (pg_name (i:=6) nd rfl (Or.inl rfl))
     (pss_cons (ps_set (i:=7) nd rfl (Or.inl rfl) (pe_call GJ hr rfl mJ kJ bJ .nil pass0 (pa_cons (pv 0) (pa_cons (pe_dget hu (pv 5) (pv 6) (fun _ _ => rfl)) pa_nil))))
     (pss_one (ps_if (pt_truth (pv 7) (fun _ => rfl))
      (pss_one (ps_ret (pe_tup (pa_cons (pe_op op_cat (pe_lst (pa_cons (pv 4) pa_nil)) (pe_callTy call_list_of rfl hlist PyProof.Rows.boot_list (pa_cons (pv 6) pa_nil))) (pa_cons (pv 7) pa_nil))))) pss_nil)))))))
   (pss_one (ps_ret (pe_tup (pa_cons (pe_lst pa_nil) (pa_cons (pe_lst pa_nil) pa_nil))))), ?_⟩
  have okS : ∀ c ∈ S, c.length = k /\ ∀ r ∈ c, r.length = n:=fun c hc => by
   have g:=(st.mem c).mp hc
   refine ⟨g.fit.len, fun r hr => ?_⟩
   obtain ⟨i, hi⟩:=mem_ix hr
   have hil:=(List.getElem?_eq_some_iff.mp hi).1
   have:=g.fit.row i (by rw [<- g.fit.len]; exact hil)
   rw [List.getD_eq_getElem?_getD, hi] at this
   exact this
  obtain ⟨ns, ekeys, hns⟩:=group_keys gj.ok
  have nsnd : ns.Nodup:=by
   have:=gj.nd
   rw [ekeys] at this
   exact this.of_map _ fun a b h e => h (by rw [e])
  have memf : fm n l k k ∈ ns:=by
   obtain ⟨c0, x0, g0, hx0, hv0, _⟩:=Fm.cand_first hf hl h4 hk
   have hin : (fm n l k k, x0) ∈ L:=by rw [<- hL]; exact (Fm.mem_lineL latt (by omega) _ _).mpr ⟨hx0, hv0, low⟩
   obtain ⟨g, hg, e, _⟩:=group_at (fun a b e => by injection e) gj hin
   have : (Sum.inl (fm n l k k) : Key) ∈ ns.map Sum.inl:=by rw [<- ekeys, <- e]; exact List.mem_map.mpr ⟨g, hg, rfl⟩
   obtain ⟨v, hv, e⟩:=List.mem_map.mp this
   injection e with e
   rw [<- e]; exact hv
  refine ⟨_, rfl, d, _, ns, rfl, .inl (s0 _ _ hd), by rw [List.map_map]; exact ekeys, fun ns' p0 hperm hsrt hp0 => ?_⟩
  have e0:=(Ext.refl s0).put (o:=.lst (ns'.map V.int)) hp0
  have hp0' : (upd F p0 (.lst (ns'.map V.int))) p0 = some (.lst (ns'.map V.int)):=upd_same
  generalize upd F p0 (.lst (ns'.map V.int)) = F0 at e0 hp0'
  generalize upd H p0 (.lst (ns'.map V.int)) = H0 at e0
  have memf' : fm n l k k ∈ ns':=hperm.mem_iff.mpr memf
  refine ⟨p0, rfl, ⟨_, row_seq hp0' e0.inn⟩, ?_⟩
  refine for_list (K:=K) (a:=p0) (xs:=ns'.map V.int) (fun i σ H' => ∃ (F' : Hp) (o4 o5 o6 o7 : Option V), σ = [some vr, some (.ref d), some vt, some vo, o4, o5, o6, o7] /\ Ext F0 H0 F' H' /\ ∀ v ∈ ns'.take i, v < fm n l k k)
   ⟨F0, none, none, none, none, rfl, Ext.refl e0.inn, fun v hv => by rw [List.take_zero] at hv; exact nomatch hv⟩ (fun i σ H' _ ⟨F', o4, o5, o6, o7, _, e, _⟩ => row_seq (e.ff _ _ hp0') e.inn) ?_ ?_
  ·intro i vv σ H1 hvv hI
   obtain ⟨F1, o4, o5, o6, o7, rfl, e1, hlt⟩:=hI
   rw [List.getElem?_map] at hvv
   obtain ⟨v, hv, rfl⟩:=Option.map_eq_some_iff.mp hvv
   have hil:=(List.getElem?_eq_some_iff.mp hv).1
   have hvle : v <= fm n l k k:=by
    obtain ⟨j, hj⟩:=mem_ix memf'
    have hjl:=(List.getElem?_eq_some_iff.mp hj).1
    rcases Nat.lt_or_ge j i with q | q
    ·have:=hlt _ (List.mem_of_getElem? (i:=j) (by rw [List.getElem?_take, if_pos q]; exact hj))
     omega
    ·rcases Nat.lt_or_eq_of_le q with q | q
     ·have:=List.pairwise_iff_getElem.mp hsrt i j hil hjl q
      rw [List.getElem?_eq_getElem hil] at hv
      rw [List.getElem?_eq_getElem hjl] at hj
      rw [Option.some.inj hv, Option.some.inj hj] at this
      exact this
     ·subst q
      rw [hv] at hj
      rw [Option.some.inj hj]
      exact Int.le_refl _
   have e01:=e0.trans e1
   have hvns : v ∈ ns:=hperm.mem_iff.mp (List.mem_of_getElem? hv)
   obtain ⟨x1, hx1⟩:=hns v hvns
   obtain ⟨g, hg, eg1, eg2⟩:=group_at (fun a b e => by injection e) gj hx1
   have hval : valV (gs.map fun g => (g.ks, V.ref g.b)) (Sum.inl v) = some (.ref g.b):=by rw [<- eg1]; exact valV_grp gj.nd g hg
   have eX : g.ys = byV L v:=eg2
   have okX : ∀ x ∈ byV L v, LineOk n x:=fun x hx => by
    have:=(lx.mem v (by omega) x).mp hx
    refine ⟨this.1, fun i hi => ?_⟩
    have hp : pr n (gm n l) (xv x) (xv x) <= 88:=by rw [<- Fm.value_rows this.1, this.2]; omega
    have:=Fm.small_of_value latt.frm hp hi
    exact Nat.lt_of_lt_of_le this (by decide)
   have few : ∀ t, (grp (joins n l k S (byV L v)) t).length < 16777216:=fun t => by
    have q1:=Fm.grp_len hf hl h4 hk st lx hvle t
    have q2 : 33 ^ k <= 33 ^ 3:=Nat.pow_le_pow_right (by decide) (by omega)
    have q3 : (33 : Nat) ^ 3 = 35937:=by decide
    omega
   refine ⟨_, rfl, _, rfl, d, .ref g.b, rfl, hval ▸ DGet.k (k:=Sum.inl v) (e01.inn _ _ (e01.ff _ _ hd)), _, rfl, _, rfl, n, k, l, S, byV L v, F1, .ref g.b, vt, vo, rfl, h4, hk, e1.inn, eX ▸ mono_rows.up e01.ff (hgs g hg), (mono_l (mono_st n l)).up e01.ff hvt, mono_row.up e01.ff hvo, okS, okX, few,
    ⟨Ql78.boxes (List.replicate k 16), by
     rw [box_len]
     have q2 : 33 ^ k <= 33 ^ 3:=Nat.pow_le_pow_right (by decide) (by omega)
     have q3 : (33 : Nat) ^ 3 = 35937:=by decide
     omega, fun q hq => Fm.joins_key hf hl h4 hk st hq⟩, fun F2 H2 d2 gs2 e2 hd20 hd2 dF2 hgs2 gj2 => ?_⟩
   have e2':=e2.freeze hd2 hd20 dF2
   have hd2' : (upd F2 d2 (.dT (gs2.map fun g => (g.ks, V.ref g.b)))) d2 = some (.dT (gs2.map fun g => (g.ks, V.ref g.b))):=upd_same
   have hgs2' : ∀ g ∈ gs2, LOf (IsJoin n l) (upd F2 d2 (.dT (gs2.map fun g => (g.ks, V.ref g.b)))) (.ref g.b) g.ys:=fun g hg => (mono_l (mono_join n l)).up (same_put dF2) (hgs2 g hg)
   have e12:=e1.trans e2'
   generalize upd F2 d2 (.dT (gs2.map fun g => (g.ks, V.ref g.b))) = F2' at e2' hd2' hgs2' e12
   generalize hJ : joins n l k S (byV L v) = J at *
   obtain ⟨ts, etails, hts⟩:=group_keys gj2.ok
   have tsnd : ts.Nodup:=by
    have:=gj2.nd
    rw [etails] at this
    exact this.of_map _ fun a b h e => h (by rw [e])
   have tlen : ∀ t ∈ ts, t.length = k:=fun t ht => by
    obtain ⟨⟨c, x⟩, hp⟩:=hts t ht
    rw [<- hJ] at hp
    obtain ⟨hc, _, _, e⟩:=Fm.mem_joins.mp hp
    rw [<- e]
    unfold tl
    rw [List.length_map, List.length_reverse]
    exact (okS c hc).1
   have fklen : (fk n l k).length = k:=by unfold fk; simp
   refine ⟨_, rfl, d2, _, ts, rfl, .inl (e12.inn _ _ hd2'), by rw [List.map_map]; exact etails, fun h2 t ht e => ?_, fun ps p3 hps hpt hpsrt hp3 => ?_⟩
   ·have k0 : k = 0:=by rw [<- tlen t ht, e]; rfl
    match ts, h2, tsnd, tlen with
    | a :: b :: _, _, tsnd, tlen =>
     have ha:=List.eq_nil_of_length_eq_zero ((tlen a (by simp)).trans k0)
     have hb:=List.eq_nil_of_length_eq_zero ((tlen b (by simp)).trans k0)
     exact (List.nodup_cons.mp tsnd).1 (by rw [ha, hb]; simp)
   have e3:=(Ext.refl e12.inn).put (o:=.lst (ps.map fun x => V.ref x.1)) hp3
   have hp3' : (upd F2' p3 (.lst (ps.map fun x => V.ref x.1))) p3 = some (.lst (ps.map fun x => V.ref x.1)):=upd_same
   have hpt3 : ∀ x ∈ ps, (upd H2 p3 (.lst (ps.map fun x => V.ref x.1))) x.1 = some (.tup (x.2.map V.int)):=fun x hx => e3.hh _ _ (hpt x hx)
   have e13:=e12.trans e3
   have hd3:=e3.ff _ _ hd2'
   generalize upd F2' p3 (.lst (ps.map fun x => V.ref x.1)) = F3 at e3 hp3' e13 hd3
   generalize upd H2 p3 (.lst (ps.map fun x => V.ref x.1)) = H3 at e3 hpt3 e13
   have fkin : v = fm n l k k -> fk n l k ∈ ts:=fun ev => by
    obtain ⟨c0, x0, g0, hx0, hv0, ht0, _⟩:=Fm.cand_first hf hl h4 hk
    have hin : (fk n l k, (c0, x0)) ∈ J:=by
     rw [<- hJ]
     exact Fm.mem_joins.mpr ⟨(st.mem c0).mpr g0, (lx.mem v (by omega) x0).mpr ⟨hx0, by rw [hv0, ev]⟩, Fm.fk_short hf hl h4 hk, ht0⟩
    obtain ⟨g, hg, e, _⟩:=group_at encT_inj gj2 hin
    have : encT (fk n l k) ∈ ts.map encT:=by rw [<- etails, <- e]; exact List.mem_map.mpr ⟨g, hg, rfl⟩
    obtain ⟨t, ht, e⟩:=List.mem_map.mp this
    rw [<- encT_inj _ _ e]; exact ht
   have fkfull : v = fm n l k k -> joined n k (grp J (fk n l k)) ≠ []:=fun ev => by
    have:=(Fm.joined_some hf hl h4 hk st lx).2
    rw [<- ev, hJ] at this
    exact this
   refine ⟨p3, rfl, ⟨_, row_seq hp3' e3.inn⟩, ?_⟩
   refine for_list (K:=K) (a:=p3) (xs:=ps.map fun x => V.ref x.1) (fun m σ H' => ∃ (F' : Hp) (o6 o7 : Option V), σ = [some vr, some (.ref d), some vt, some vo, some (.int v), some (.ref d2), o6, o7] /\ Ext F3 H3 F' H' /\ ∀ x ∈ ps.take m, joined n k (grp J x.2) = [])
    ⟨F3, o6, o7, rfl, Ext.refl e3.inn, fun x hx => by rw [List.take_zero] at hx; exact nomatch hx⟩ (fun m σ H' _ ⟨F', o6, o7, _, e, _⟩ => row_seq (e.ff _ _ hp3') e.inn) ?_ ?_
   ·intro m vt' σ H4 hvt' hI
    obtain ⟨F4, o6, o7, rfl, e4, hnone⟩:=hI
    rw [List.getElem?_map] at hvt'
    obtain ⟨x, hx, rfl⟩:=Option.map_eq_some_iff.mp hvt'
    have hxm : x ∈ ps:=List.mem_of_getElem? hx
    have hml:=(List.getElem?_eq_some_iff.mp hx).1
    have hxts : x.2 ∈ ts:=hps.mem_iff.mp (List.mem_map.mpr ⟨x, hxm, rfl⟩)
    obtain ⟨pj, hpj⟩:=hts _ hxts
    obtain ⟨g', hg', eg1', eg2'⟩:=group_at encT_inj gj2 hpj
    have hval' : valV (gs2.map fun g => (g.ks, V.ref g.b)) (encT x.2) = some (.ref g'.b):=by rw [<- eg1']; exact valV_grp gj2.nd g' hg'
    have e14:=e13.trans e4
    have hx4:=e4.hh _ _ (hpt3 x hxm)
    have egrp : g'.ys = grp J x.2:=eg2'
    have okJ : ∀ p ∈ grp J x.2, JoinOk n k p:=fun p hp => by
     have:=Fm.mem_grp.mp hp
     rw [<- hJ] at this
     obtain ⟨c, y⟩:=p
     obtain ⟨hc, hy, _, _⟩:=Fm.mem_joins.mp this
     exact ⟨(okS c hc).1, (okX y hy).row, (okX y hy).low⟩
    refine ⟨_, rfl, _, rfl, _, rfl, d2, .ref g'.b, rfl, hval' ▸ DGet.t (k:=encT x.2) (e4.inn _ _ (e4.ff _ _ hd3)) (by rw [encT, kV_inl]; exact hx4), n, k, l, grp J x.2, F4, vr, .ref g'.b, rfl, h1, h4, hk, e4.inn, mono_rows.up ((e0.trans e14).ff) hvr, egrp ▸ (mono_l (mono_join n l)).up (e3.ff.trans e4.ff) (hgs2' g' hg'), okJ, few x.2, fun F5 H5 v5 e5 hv5 => ?_⟩
    obtain ⟨ga, us, rfl, hga, relG⟩:=hv5
    have lenU : us.length = (joined n k (grp J x.2)).length:=Paired.length relG
    refine ⟨_, rfl, !us.isEmpty, .inl ⟨us, row_seq hga e5.inn, rfl⟩, ?_⟩
    have e15:=e14.trans e5
    by_cases hemp : joined n k (grp J x.2) = []
    ·have hus : us = []:=List.eq_nil_of_length_eq_zero (by rw [lenU, hemp]; rfl)
     rw [hus]
     refine iteF ?_
     refine ⟨F5, _, _, rfl, e4.trans e5, fun y hy => ?_⟩
     rw [List.take_add_one, hx] at hy
     rcases List.mem_append.mp hy with z | z
     ·exact hnone y z
     ·have z : y ∈ [x]:=z
      rw [List.mem_singleton.mp z]; exact hemp
    ·have hus : us ≠ []:=fun z => hemp (List.eq_nil_of_length_eq_zero (by rw [<- lenU, z]; rfl))
     have hus2 : us.isEmpty = false:=by cases us with | nil => exact absurd rfl hus | cons _ _ => rfl
     rw [hus2]
     refine iteT ?_
     have nb : Ql78.before (v :: x.2) (fm n l k k :: fk n l k) = false:=by
      cases q : Ql78.before (v :: x.2) (fm n l k k :: fk n l k) with
      | false => rfl
      | true =>
       have:=Fm.joined_none hf hl h4 hk st lx (by omega) q
       rw [hJ] at this
       exact absurd this hemp
     have ev : v = fm n l k k:=by
      simp only [Ql78.before, Bool.or_eq_false_iff, decide_eq_false_iff_not] at nb
      omega
     have nb2 : Ql78.before x.2 (fk n l k) = false:=by
      rw [ev] at nb
      simpa [Ql78.before] using nb
     have et : x.2 = fk n l k:=by
      apply Classical.byContradiction
      intro hne
      have hb : Ql78.before (fk n l k) x.2 = true:=by
       cases q : Ql78.before (fk n l k) x.2 with
       | true => rfl
       | false => exact absurd (Fm.before_total _ _ (by rw [tlen _ hxts, fklen]) nb2 q) hne
      have hfk:=hps.mem_iff.mpr (fkin ev)
      obtain ⟨y, hy, ey⟩:=List.mem_map.mp hfk
      obtain ⟨j2, hj2⟩:=mem_ix hy
      have hj2l:=(List.getElem?_eq_some_iff.mp hj2).1
      rcases Nat.lt_trichotomy j2 m with q | q | q
      ·have:=hnone y (List.mem_of_getElem? (i:=j2) (by rw [List.getElem?_take, if_pos q]; exact hj2))
       rw [ey] at this
       exact fkfull ev this
      ·subst q
       rw [hx] at hj2
       cases hj2
       exact hne ey
      ·have z:=List.pairwise_iff_getElem.mp hpsrt m j2 hml hj2l q
       rw [List.getElem?_eq_getElem hml] at hx
       rw [List.getElem?_eq_getElem hj2l] at hj2
       cases hx; cases hj2
       rw [ey, lex_before _ _ (by rw [fklen, tlen _ hxts]), hb] at z
       cases z
     refine ⟨_, rfl, (by show 1 <= sizeLine; decide), fun p6 hp6 => ?_⟩
     have e6 : Ext F5 H5 F5 (upd H5 p6 (.lst [.int v])):=(Ext.refl e5.inn).loc hp6 (e5.inn.free hp6)
     have hp6' : (upd H5 p6 (.lst [V.int v])) p6 = some (.lst [V.int v]):=upd_same
     have hx6:=e6.hh _ _ (e5.hh _ _ hx4)
     generalize upd H5 p6 (.lst [V.int v]) = H6 at e6 hp6' hx6
     refine ⟨_, rfl, x.1, _, rfl, .inr (SqT.of hx6), fun p7 hp7 => ?_⟩
     have e7 : Ext F5 H6 F5 (upd H6 p7 (.lst (x.2.map V.int))):=(Ext.refl e6.inn).loc hp7 (e6.inn.free hp7)
     have hp7' : (upd H6 p7 (.lst (x.2.map V.int))) p7 = some (.lst (x.2.map V.int)):=upd_same
     have hp67:=e7.hh _ _ hp6'
     generalize upd H6 p7 (.lst (x.2.map V.int)) = H7 at e7 hp7' hp67
     refine ⟨p6, p7, _, _, rfl, rfl, hp67, hp7', ?_, fun p8 hp8 => ?_⟩
     ·show 1 + (x.2.map V.int).length <= sizeLine
      rw [List.length_map, tlen _ hxts, sizeLine_eq]; omega
     have e8:=(Ext.refl e7.inn).put (o:=.lst ([V.int v] ++ x.2.map V.int)) hp8
     refine ⟨_, rfl, (by show 2 <= sizeLine; decide), fun p9 hp9 => ?_⟩
     have e9:=e8.put (o:=.tup [.ref p8, .ref ga]) hp9
     have n89 : p8 ≠ p9:=fun z => by rw [z, upd_same] at hp9; cases hp9
     have js:=Fm.joined_some hf hl h4 hk st lx
     rw [<- ev, hJ, <- et] at js
     refine kk _ _ _ (joined n k (grp J x.2)) (e0.trans (e15.trans (e6.trans (e7.trans e9)))) ⟨p9, _, _, rfl, upd_same, ⟨p8, rfl, ?_⟩, (mono_l (mono_st n l)).up e9.ff ⟨ga, us, rfl, hga, relG⟩⟩ js.1
     rw [upd_ne n89, upd_same, <- ev, <- et]
     rfl
   ·intro σ H4 hI
    obtain ⟨F4, o6, o7, rfl, e4, hnone⟩:=hI
    refine ⟨F4, _, _, _, _, rfl, e13.trans e4, fun u hu' => ?_⟩
    rw [List.take_add_one, hv] at hu'
    rcases List.mem_append.mp hu' with z | z
    ·exact hlt u z
    ·have z : u ∈ [v]:=z
     rw [List.mem_singleton.mp z]
     rcases Int.lt_or_eq_of_le hvle with q | q
     ·exact q
     ·exfalso
      obtain ⟨y, hy, ey⟩:=List.mem_map.mp (hps.mem_iff.mpr (fkin q))
      have:=hnone y (by rw [List.length_map, List.take_length]; exact hy)
      rw [ey] at this
      exact fkfull q this
  ·intro σ H1 hI
   obtain ⟨F1, o4, o5, o6, o7, rfl, e1, hlt⟩:=hI
   exfalso
   have:=hlt _ (by rw [List.length_map, List.take_length]; exact memf')
   omega
end
end Pr
namespace Pr
open PySem PySem.Spec PyProof.Rows L2
theorem pe_start1 {X : Cx} (hu : X.A.units + 1 < cLine) {k v : Expr} {tk tv : TE} {p4 : Pos} (h1 : PE X k tk) (h2 : PE X v tv) : PE X (.Dict [some k] [v] p4) (tKeep (tDisp1T tk tv)):=@pe_keep X _ _ (@pe_disp1T X k v tk tv p4 hu h1 h2)
theorem se_plain {env : Env} {e : Expr} {es : List Expr} (h : ∀ (e' : Expr) (pos : Pos), e = .Starred e' pos -> False) : starEach (e :: es) env = (false, eval e env) :: starEach es env:=by
 rw [starEach]
 exact h
theorem pa_dict {X : Cx} {ks : List (Option Expr)} {vs : List Expr} {p : Pos} {es : List Expr} {te : TE} {t : TA} (ha : PE X (.Dict ks vs p) te) (hr : PA X es t) : PA X (.Dict ks vs p :: es) (tCons te t):=@pa_cons X _ _ _ _ ha hr (se_plain fun _ _ e => nomatch e)
theorem pa_list {X : Cx} {vs : List Expr} {p : Pos} {es : List Expr} {te : TE} {t : TA} (ha : PE X (.List vs p) te) (hr : PA X es t) : PA X (.List vs p :: es) (tCons te t):=@pa_cons X _ _ _ _ ha hr (se_plain fun _ _ e => nomatch e)
theorem pa_tuple {X : Cx} {vs : List Expr} {k : Nat} {p : Pos} {es : List Expr} {te : TE} {t : TA} (ha : PE X (.Tuple vs k p) te) (hr : PA X es t) : PA X (.Tuple vs k p :: es) (tCons te t):=@pa_cons X _ _ _ _ ha hr (se_plain fun _ _ e => nomatch e)
end Pr
namespace Pr
open PySem PySem.Spec PyProof.Rows L2
theorem pe_start {X : Cx} (hu : X.A.units + 1 < cLine) {k0 k1 j : Nat} {p1 p2 p4 p5 p6 : Pos} {p3 : Pos} : PE X (.List [.Tuple [.List [] p1, .Dict [some (.Tuple [] k0 p2)] [.Constant (.int 1) j p3] p4] k1 p5] p6)
  (tLst (tCons (tTup (tCons (tLst tNil) (tCons (tKeep (tDisp1T (tTup tNil) (tC (.int 1)))) tNil))) tNil)) :=
 @pe_lst X _ _ _ (@pa_tuple X _ _ _ _ _ _ (@pe_tup X _ _ _ _ (@pa_list X _ _ _ _ _ (@pe_lst X _ _ _ pa_nil) (@pa_dict X _ _ _ _ _ _ (@pe_start1 X hu _ _ _ _ _ (@pe_tup X _ _ _ _ pa_nil) pe_int) pa_nil))) pa_nil)
end Pr
namespace Pr
open PySem PySem.Spec PyProof.Rows L2
open Fm (gm vec gr Mat xv sm pr Latt lineL byV joins grp joined tl owns fm fk fo Starts Lines Join Good mset)
abbrev sMirT : Stmt:=Pr.top 26
abbrev sFirst : Stmt:=Pr.top 18
def tailL (n : Nat) (l : List Int) (k : Nat) : List (List Int):=(List.range k).map fun i => fm n l i i :: fk n l i
theorem tail_at {n : Nat} {l : List Int} {i m : Nat} (h : m <= i) : (fm n l i i :: fk n l i)[m]? = some (fm n l i (i - m)):=by
 have e : fm n l i i :: fk n l i = (List.range (i + 1)).map fun j => fm n l i (i - j):=(Fm.kr_is i (fm n l)).symm
 rw [e]
 exact get_map_range (f:=fun j => fm n l i (i - j)) (by omega)
def formL (n : Nat) (l : List Int) (k : Nat) : List Int:=(List.range k).flatMap fun i => (List.range n).map fun j => fm n l i j
theorem formL_next (n : Nat) (l : List Int) (k : Nat) : formL n l (k + 1) = formL n l k ++ (List.range n).map fun j => fm n l k j:=by
 unfold formL
 rw [List.range_succ, List.flatMap_append]
 simp
theorem formL_len (n : Nat) (l : List Int) : ∀ k, (formL n l k).length = k * n
 | 0 => by simp [formL]
 | k + 1 => by rw [formL_next, List.length_append, formL_len n l k, List.length_map, List.length_range, Nat.succ_mul]
def spMirT : Sp:=fun vs H Q _ => ∃ (n : Nat) (l : List Int) (F : Hp) (vt : V), vs = [.int n, vt] /\ n <= 4 /\ Same F H /\ IsRows F vt (tailL n l n) /\ (∀ i j, i < n -> j < n -> fm n l i j = fm n l j i) /\
 ∀ (F' H' : Hp) (v : V), Ext F H F' H' -> IsRow F' v (formL n l n) -> Q v H'
def spFirst (K : PySem.W.Frag) : Sp:=fun vs H Q _ => ∃ (n : Nat) (a : Addr) (ns : List Int) (F : Hp), vs = [.int n, .ref a] /\ SqL K H a (ns.map V.int) /\ (∀ H', Same H H' -> SqL K H' a (ns.map V.int)) /\ 1 <= n /\ n <= 4 /\ ns.length = n * n /\ Ql78.form n ns = true /\ Same F H /\
 ∀ (F' H' : Hp) (v : V), Ext F H F' H' -> T2 IsRow IsI F' v ((fo n ns).flatten, (((Ql78.changes n (Ql78.rows n ns) (Ql78.rows n ns)).length : Nat) : Int)) -> Q v H'
section
variable {P : Program} {w : World} {K : PySem.W.Frag} {mg : Str -> Option Value} {base : Heap}
theorem scMirT : FnScope ["n", "tails", "form", "i", "j"] ["n", "tails"] (defScope sMirT):=⟨rfl, rfl, rfl, by decide +kernel, rfl, by decide +kernel, by decide +kernel⟩
theorem ok_mirT {f : Addr} {fd : FuncData} (F : Fun K "mirrored" "mirrored" sMirT f fd) (hrng : mg "range" = none) (hmax : mg "max" = none) (habs : mg "abs" = none) : FnOk P w K mg base CX0 1 f fd ["n", "tails"] spMirT:=by
 refine F.ok scMirT (fun vs H Q E h => ?_) (fun cdv A outer s H vs Q E hr h => ?_)
 ·obtain ⟨n, l, F, vt, rfl, _⟩:=h
  rfl
 ·obtain ⟨n, l, F, vt, rfl, h4, s0, ⟨ta, xs, rfl, hta, relT⟩, hsym, kk⟩:=h
  have nd:=scMirT.nd
  refine ⟨_, pss_cons (ps_set (i:=2) nd rfl (Or.inl rfl) (pe_lst pa_nil))
   (pss_cons (ps_for PassesOwn.never rfl (pi_range1 rfl hrng (pa_cons (pv 0) pa_nil)) (pg_name (i:=3) nd rfl (Or.inr rfl))
    (pss_one (ps_expr (pe_bm PySem.F.plainAttrs_list PySem.F.slot_list_extend PySem.F.type_list_extend mt_extend (pv 2)
     (pa_cons (pe_lc rfl nd (pi_range1 rfl hrng (pa_cons (pv 0) pa_nil)) (blkOk_by (own:=[("j", 4)]) (by kernel_rfl)) (fun _ _ _ _ _ => pg_name (i:=4) nd rfl (Or.inl rfl)) (fun _ _ _ _ _ => pts_nil)
      (fun _ _ _ _ _ => pe_ix (r:=rIxL K) ix_list (pe_ix (r:=rIxL K) ix_list (pv 1) (pe_callB (call_max2 rfl) rfl hmax PyProof.Rows.boot_max (pa_cons (pv 3) (pa_cons (pv 4) pa_nil))) (fun _ _ => rfl)) (pe_callB call_abs rfl habs PyProof.Rows.boot_abs (pa_cons (pe_op op_sub (pv 3) (pv 4)) pa_nil)) (fun _ _ => rfl))) pa_nil)))))
   (pss_one (ps_ret (pv 2)))), ?_⟩
  refine ⟨Nat.zero_le _, fun g hg => ?_⟩
  have acc0 : Acc IsI F H g (formL n l 0) F (upd H g (.lst [])) []:=Acc.start (Ext.refl s0) hg
  generalize upd H g (.lst []) = H1 at acc0
  refine ⟨_, rfl, (n : Int), rfl, by omega, by omega, ?_⟩
  rw [Int.toNat_natCast]
  refine for_range (lo:=0) (n:=n) (fun i σ H' => ∃ (F' : Hp) (us : List V) (o3 o4 : Option V), σ = [some (.int n), some (.ref ta), some (.ref g), o3, o4] /\ Acc IsI F H g (formL n l i) F' H' us) ⟨F, [], none, none, rfl, acc0⟩ ?_ ?_
  ·intro i σ H2 hi hI
   obtain ⟨F2, us, o3, o4, rfl, a⟩:=hI
   refine ⟨_, rfl, .inl ⟨rfl, _, SqL.of a.at_⟩, _, rfl, (n : Int), rfl, by omega, by omega, ?_⟩
   rw [Int.toNat_natCast, Int.zero_add]
   intro D hD
   refine lc_range (lo:=0) (n:=n) (AccP IsI F2 H2 D ((List.range n).map fun j => fm n l i j)) (Acc.p0 (Ext.refl a.same) hD) ?_ ?_
   ·intro j H3 hj hI
    obtain ⟨F3, us3, a3⟩:=hI
    refine ⟨rfl, ?_⟩
    have hM : (tailL n l n)[max i j]? = some (fm n l (max i j) (max i j) :: fk n l (max i j)):=get_map_range (f:=fun i => fm n l i i :: fk n l i) (by omega)
    obtain ⟨w', hw, ra, rfl, hra⟩:=pget' relT hM
    have hra3:=(a.ext.ff.trans a3.ext.ff) _ _ hra
    refine ⟨_, rfl, _, rfl, _, rfl, (i : Int), (0 + (j : Int)), rfl, ?_⟩
    refine ⟨ta, xs, _, .ref ra, rfl, rfl, row_seq ((a.ext.ff.trans a3.ext.ff) _ _ hta) a3.same, at_of (j:=max i j) (by rw [Int.zero_add]; split <;> omega) hw, ?_⟩
    refine ⟨_, rfl, _, rfl, (i : Int), (0 + (j : Int)), rfl, rfl, ?_⟩
    refine ⟨_, rfl, ?_⟩
    rw [abs_if]
    refine ⟨ra, _, _, .int (fm n l i j), rfl, rfl, row_seq hra3 a3.same, at_of (j:=max i j - min i j) (by omega) ?_, ?_⟩
    ·rw [List.getElem?_map, tail_at (by omega)]
     show some (V.int _) = _
     rcases Nat.le_total i j with q | q
     ·rw [show max i j - (max i j - min i j) = i by omega, show max i j = j by omega, hsym j i hj hi]
     ·rw [show max i j - (max i j - min i j) = j by omega, show max i j = i by omega]
    ·exact a3.next mono_i (get_map_range hj) (by rw [List.length_map, List.length_range]; omega) (Ext.refl a3.same) rfl
   ·rintro H3 a3
    obtain ⟨F4, e4, ⟨dd, ws, hdd, hD4, rel4⟩⟩:=a3.done mono_i (by rw [List.length_map, List.length_range])
    cases hdd
    have a4:=a.pass mono_i e4
    refine ⟨g, D, us, ws, rfl, rfl, a4.at_, e4.inn _ _ hD4, ?_, ?_⟩
    ·rw [a4.len, formL_len, Paired.length rel4, List.length_map, List.length_range, sizeLine_eq]
     have : i * n <= 4 * 4:=Nat.mul_le_mul (by omega) h4
     omega
    ·refine ⟨F4, _, _, _, rfl, ⟨a4.ext.loc a4.h0 a4.out, a4.h0, upd_same, a4.out, ?_⟩⟩
     rw [formL_next]
     exact papp a4.rel rel4
  ·intro σ H2 hI
   obtain ⟨F2, us, o3, o4, rfl, a⟩:=hI
   obtain ⟨e, h, _⟩:=a.done mono_i
   exact ⟨_, rfl, kk _ _ _ e (row_of h)⟩
end
end Pr
namespace Pr
open PySem PySem.Spec PyProof.Rows L2
open Fm (gm vec gr Mat xv sm pr Latt lineL byV joins grp joined tl owns fm fk fo Starts Lines Join Good mset)
theorem mset_zero (n : Nat) (C : Mat) : mset n 0 C = [([], 1)]:=by
 unfold mset Fm.subs
 simp [Fm.subl, Fm.sub, Fm.dt]
theorem first_start {n : Nat} {l : List Int} {σ : L2.St} {F2 H2 : Hp} {Q : V -> Hp -> Prop} (s2 : Same F2 H2) (k : ∀ (F H : Hp) (v : V), Ext F2 H2 F H -> LOf (IsSt n l) F v [[]] -> Q v H) :
  tLst (tCons (tTup (tCons (tLst tNil) (tCons (tKeep (tDisp1T (tTup tNil) (tC (.int 1)))) tNil))) tNil) σ H2 Q:=by
 refine ⟨Nat.zero_le _, fun p1 hp1 p2 hp2 => ⟨Nat.zero_le _, fun p3 hp3 => ?_⟩⟩
 have x1:=(Ext.refl s2).put (o:=.lst []) hp1
 have f1 : (upd F2 p1 (.lst [])) p1 = some (.lst []):=upd_same
 generalize upd F2 p1 (.lst []) = F3 at x1 f1
 generalize upd H2 p1 (.lst []) = H3 at x1 hp2 hp3 ⊢
 have h20 : H2 p2 = Option.none:=x1.hh.free hp2
 have x2:=x1.loc (o:=.dT []) h20 (x1.inn.free hp2)
 have F3p2 : F3 p2 = Option.none:=x1.inn.free hp2
 have H4p2 : (upd H3 p2 (.dT [])) p2 = some (.dT []):=upd_same
 generalize upd H3 p2 (.dT []) = H4 at x2 hp3 H4p2 ⊢
 have n23 : p2 ≠ p3:=fun e => by rw [e, hp3] at H4p2; cases H4p2
 have x3:=x2.put (o:=.tup []) hp3
 have f3:=(same_put (o:=.tup []) (x2.inn.free hp3)) _ _ f1
 have F5p2 : (upd F3 p3 (.tup [])) p2 = Option.none:=by rw [upd_ne n23]; exact F3p2
 have H5p2 : (upd H4 p3 (.tup [])) p2 = some (.dT []):=by rw [upd_ne n23]; exact H4p2
 have H5p3 : (upd H4 p3 (.tup [])) p3 = some (.tup []):=upd_same
 generalize upd F3 p3 (.tup []) = F5 at x3 f3 F5p2
 generalize upd H4 p3 (.tup []) = H5 at x3 H5p2 H5p3 ⊢
 refine ⟨p3, [], rfl, H5p2, H5p3, p2, _, rfl, upd_same, trivial, fun o => ?_⟩
 have x4:=x3.loc (o:=.dT [([], .int 1)]) h20 F5p2
 generalize upd H5 p2 (.dT [([], V.int 1)]) = H6 at x4 ⊢
 have x5:=x4.loc (o:=.frz o (.dT [([], .int 1)])) h20 F5p2
 have H7p2 : (upd H6 p2 (.frz o (.dT [([], V.int 1)]))) p2 = some (.frz o (.dT [([], V.int 1)])):=upd_same
 generalize upd H6 p2 (.frz o (.dT [([], V.int 1)])) = H7 at x5 H7p2 ⊢
 have x6:=x5.freeze H7p2 h20 F5p2
 have f6:=(same_put (o:=.frz o (.dT [([], V.int 1)])) F5p2) _ _ f3
 have g6 : (upd F5 p2 (.frz o (.dT [([], V.int 1)]))) p2 = some (.frz o (.dT [([], V.int 1)])):=upd_same
 generalize upd F5 p2 (.frz o (.dT [([], V.int 1)])) = F7 at x6 f6 g6
 refine ⟨(by show 2 <= sizeLine; decide), fun p4 hp4 => ?_⟩
 have x7:=x6.put (o:=.tup [.ref p1, .ref p2]) hp4
 have s7:=same_put (o:=.tup [.ref p1, .ref p2]) (x6.inn.free hp4)
 have f7:=s7 _ _ f6
 have g7:=s7 _ _ g6
 have t7 : (upd F7 p4 (.tup [.ref p1, .ref p2])) p4 = some (.tup [.ref p1, .ref p2]):=upd_same
 generalize upd F7 p4 (.tup [.ref p1, .ref p2]) = F8 at x7 f7 g7 t7
 generalize upd H7 p4 (.tup [.ref p1, .ref p2]) = H8 at x7 ⊢
 refine ⟨(by show 1 <= sizeLine; decide), fun p5 hp5 => ?_⟩
 have x8:=x7.put (o:=.lst [.ref p4]) hp5
 have s8:=same_put (o:=.lst [.ref p4]) (x7.inn.free hp5)
 have m0 : mset n (([] : Ql78.Rows).length) (Ql78.at_ []) = [([], 1)]:=mset_zero n _
 refine k _ _ _ x8 ⟨p5, _, rfl, upd_same, .cons ⟨p4, _, _, rfl, s8 _ _ t7, ⟨p1, [], rfl, s8 _ _ f7, .nil⟩, ⟨p2, o, rfl, ?_⟩⟩ .nil⟩
 show _ = some (HO.frz o (.dT (encM (mset n (([] : Ql78.Rows).length) (Ql78.at_ [])))))
 rw [m0]
 exact s8 _ _ g7
end Pr
namespace Pr
open PySem PySem.Spec PyProof.Rows L2
open Fm (gm vec gr Mat xv sm pr Latt lineL byV joins grp joined tl owns fm fk fo Starts Lines Join Good mset)
section
variable {P : Program} {w : World} {K : PySem.W.Frag} {mg : Str -> Option Value} {base : Heap}
theorem scFirst : FnScope ["n", "a", "rows", "lines", "starts", "tails", "at", "found", "tail"] ["n", "a"] (defScope sFirst):=⟨rfl, rfl, rfl, by decide +kernel, rfl, by decide +kernel, by decide +kernel⟩
theorem ok_first {f fS fL fG fM : Addr} {fd fdS fdL fdG fdM : FuncData} (F : Fun K "first_of_same" "first_of_same" sFirst f fd) (hrng : mg "range" = none) (hrev : mg "reversed" = none) (hlen : mg "len" = none)
  (GS : FnOk P w K mg base CX0 1 fS fdS ["n", "a"] (spSplit K)) (kS : PySem.W.keepIn K (.ref fS) = true) (bS : Binds K fdS ["n", "a"] []) (mS : mg "split_rows" = some (.ref fS))
  (GL : FnOk P w K mg base CX0 5 fL fdL ["n", "a"] (spLines K)) (kL : PySem.W.keepIn K (.ref fL) = true) (bL : Binds K fdL ["n", "a"] []) (mL : mg "lines_by_value" = some (.ref fL))
  (GG : FnOk P w K mg base CX0 3 fG fdG ["rows", "lines", "starts", "owns"] spLonger) (kG : PySem.W.keepIn K (.ref fG) = true) (bG : Binds K fdG ["rows", "lines", "starts", "owns"] []) (mG : mg "longer_starts" = some (.ref fG))
  (GM : FnOk P w K mg base CX0 1 fM fdM ["n", "tails"] spMirT) (kM : PySem.W.keepIn K (.ref fM) = true) (bM : Binds K fdM ["n", "tails"] []) (mM : mg "mirrored" = some (.ref fM)) :
  FnOk P w K mg base CX0 6 f fd ["n", "a"] (spFirst K):=by
 refine F.ok scFirst (fun vs H Q E h => ?_) (fun cdv A outer s H vs Q E hr h => ?_)
 ·obtain ⟨n, a, ns, F, rfl, _⟩:=h
  rfl
 ·obtain ⟨n, a, ns, F, rfl, hs, hkeep, h1, h4, hl, hf, s0, kk⟩:=h
  have nd:=scFirst.nd
  have hu:=hu_of hr
  have hr1 : Room 1 _:=hr.mono (by decide)
  have hr3 : Room 3 _:=hr.mono (by decide)
  refine ⟨_, pss_cons (ps_set (i:=2) nd rfl (Or.inl rfl) (pe_call GS hr1 rfl mS kS bS .nil pass0 (pa_cons (pv 0) (pa_cons (pv 1) pa_nil))))
   (pss_cons (ps_set (i:=3) nd rfl (Or.inl rfl) (pe_call GL hr rfl mL kL bL .nil pass0 (pa_cons (pv 0) (pa_cons (pv 1) pa_nil))))
   (@pss_cons _ _ _ _ _ (@ps_set _ _ 4 _ _ _ _ nd rfl (Or.inl rfl) (@pe_start _ hu _ _ _ _ _ _ _ _ _) rfl (.inr rfl))
   (pss_cons (ps_set (i:=5) nd rfl (Or.inl rfl) (pe_lst pa_nil))
   (pss_cons (ps_for PassesOwn.never rfl (pi_range1 rfl hrng (pa_cons (pv 0) pa_nil)) (pg_name (i:=6) nd rfl (Or.inl rfl))
    (pss_cons (ps_set (i:=7) nd rfl (Or.inl rfl) (pe_call GG hr3 rfl mG kG bG .nil pass0 (pa_cons (pv 2) (pa_cons (pv 3) (pa_cons (pv 4) (pa_cons (pe_lc rfl nd (pi_reversed rfl hrev (pa_cons (pv 5) pa_nil)) (blkOk_by (own:=[("tail", 8)]) (by kernel_rfl)) (fun _ _ _ _ _ => pg_name (i:=8) nd rfl (Or.inl rfl)) (fun _ _ _ _ _ => pts_nil)
     (fun _ _ _ _ _ => pe_ix (r:=rIxL K) ix_list (pv 8) pe_int (fun _ _ => rfl))) pa_nil))))))
    (pss_cons (ps_expr (pe_bm PySem.F.plainAttrs_list PySem.F.slot_list_append PySem.F.type_list_append mt_append (pv 5) (pa_cons (pe_ix ix_tup (pv 7) pe_int (fun _ _ => rfl)) pa_nil)))
    (pss_one (ps_set (i:=4) nd rfl (Or.inl rfl) (pe_ix ix_tup (pv 7) pe_int (fun _ _ => rfl)))))))
   (pss_one (ps_ret (pe_tup (pa_cons (pe_call GM hr1 rfl mM kM bM .nil pass0 (pa_cons (pv 0) (pa_cons (pv 5) pa_nil))) (pa_cons (pe_callB call_len_seq rfl hlen PySem.boot_len (pa_cons (pv 4) pa_nil)) pa_nil))))))))), ?_⟩
  have hn8 : n <= 8:=by omega
  refine ⟨_, rfl, _, rfl, n, a, ns, F, rfl, hs, hn8, hl, s0, fun F1 H1 vr e1 hvr => ?_⟩
  refine ⟨_, rfl, _, rfl, n, a, ns, F1, rfl, hkeep _ e1.hh, fun H' s => hkeep H' (e1.hh.trans s), h1, h4, hl, hf, e1.inn, fun F2 H2 d C gs e2 latt hd hgs gj => ?_⟩
  have e12:=e1.trans e2
  have hvr2:=mono_rows.up e2.ff hvr
  dsimp only [gName, tSeq, tAsg]
  refine first_start (n:=n) (l:=ns) e2.inn fun F3 H3 vt e3 hvt => ?_
  have e13:=e12.trans e3
  refine ⟨Nat.zero_le _, fun g hg => ?_⟩
  have acc0 : Acc IsRow F H g (tailL n ns 0) F3 (upd H3 g (.lst [])) []:=Acc.start e13 hg
  generalize upd H3 g (.lst []) = H4 at acc0
  have hvr3:=mono_rows.up e3.ff hvr2
  have hd3:=e3.ff _ _ hd
  have hgs3 : ∀ g ∈ gs, IsRows F3 (.ref g.b) g.ys:=fun g hg => mono_rows.up e3.ff (hgs g hg)
  refine ⟨_, rfl, (n : Int), rfl, by omega, by omega, ?_⟩
  rw [Int.toNat_natCast]
  refine for_range (lo:=0) (n:=n) (fun i σ H' => ∃ (F' : Hp) (us : List V) (vt : V) (S : List Ql78.Rows) (o6 o7 o8 : Option V), σ = [some (.int n), some (.ref a), some vr, some (.ref d), some vt, some (.ref g), o6, o7, o8] /\ Acc IsRow F H g (tailL n ns i) F' H' us /\ LOf (IsSt n ns) F' vt S /\ Starts n ns i S /\ Same F3 F')
   ⟨F3, [], vt, [[]], none, none, none, rfl, acc0, hvt, Starts.zero n ns, .refl _⟩ ?_ ?_
  ·intro k σ H5 hk hI
   obtain ⟨F5, us, vt, S, o6, o7, o8, rfl, a5, hvt, st, s35⟩:=hI
   have lenU : us.length = k:=by rw [a5.len, tailL, List.length_map, List.length_range]
   refine ⟨_, rfl, _, rfl, _, rfl, _, rfl, g, us, rfl, SqL.of a5.at_, fun D hD => ?_⟩
   have lenO : (owns n ns k).length = k:=by unfold owns; simp
   refine lc_rev (K:=K) (a:=g) (xs:=us) (AccP IsI F5 H5 D (owns n ns k)) (Acc.p0 (Ext.refl a5.same) hD) (fun m H' ⟨F6, us6, a6⟩ => SqL.of (a6.ext.hh _ _ a5.at_)) ?_ ?_
   ·intro m y H6 hm hy hI
    obtain ⟨F6, us6, a6⟩:=hI
    obtain ⟨r, hr1, hrow⟩:=pget a5.rel hy
    rw [lenU] at hr1 hm
    have er : r = fm n ns (k - 1 - m) (k - 1 - m) :: fk n ns (k - 1 - m):=by
     have:=get_map_range (f:=fun i => fm n ns i i :: fk n ns i) (n:=k) (i:=k - 1 - m) (by omega)
     unfold tailL at hr1
     rw [this] at hr1
     exact (Option.some.inj hr1).symm
    subst er
    obtain ⟨ra, rfl, hra⟩:=hrow
    refine ⟨rfl, ?_⟩
    refine ⟨_, rfl, ra, _, 0, .int (fm n ns (k - 1 - m) (k - 1 - m)), rfl, rfl, row_seq (a6.ext.ff _ _ hra) a6.same, at_of (j:=0) rfl rfl, ?_⟩
    refine a6.next mono_i (x:=fm n ns (k - 1 - m) (k - 1 - m)) ?_ (by rw [lenO]; omega) (Ext.refl a6.same) rfl
    unfold owns
    rw [List.getElem?_map, List.getElem?_reverse (by rw [List.length_range]; omega), List.length_range, List.getElem?_range (by omega)]
    rfl
   ·rintro H6 a6
    obtain ⟨F7, e7, h7⟩:=a6.done mono_i (by rw [lenO, lenU])
    have hD7:=row_of h7
    have s37:=s35.trans e7.ff
    have a7:=a5.pass mono_row e7
    refine ⟨n, k, ns, S, C, gs, d, F7, vr, vt, .ref D, rfl, hf, hl, h1, h4, hk, e7.inn, mono_rows.up s37 hvr3, latt, s37 _ _ hd3, fun g hg => mono_rows.up s37 (hgs3 g hg), gj, (mono_l (mono_st n ns)).up e7.ff hvt, st, hD7, fun F8 H8 v8 S' e8 hv8 st' => ?_⟩
    have a8:=a7.pass mono_row e8
    obtain ⟨ta, w1, w2, rfl, hta, hw1, hw2⟩:=hv8
    refine ⟨_, rfl, .inl ⟨rfl, _, SqL.of a8.at_⟩, _, rfl, ta, _, 0, _, rfl, rfl, SqT.of (a8.same _ _ hta), at_of (j:=0) rfl rfl, g, us, w1, rfl, rfl, a8.at_, small24 (by omega), ?_⟩
    obtain ⟨_, a9⟩:=a8.step mono_row (Ext.refl a8.same) hw1
    refine ⟨_, rfl, ta, _, 1, _, rfl, rfl, SqT.of (a9.same _ _ hta), at_of (j:=1) rfl rfl, ?_⟩
    refine ⟨F8, us ++ [w1], w2, S', _, _, _, rfl, ?_, hw2, st', s37.trans e8.ff⟩
    have et : tailL n ns (k + 1) = tailL n ns k ++ [fm n ns k k :: fk n ns k]:=by
     unfold tailL
     rw [List.range_succ, List.map_append]
     rfl
    rw [et]
    exact a9
  ·intro σ H5 hI
   obtain ⟨F5, us, vt, S, o6, o7, o8, rfl, a5, ⟨sa, xs, rfl, hsa, relS⟩, st, s35⟩:=hI
   obtain ⟨e6, h6, s6⟩:=a5.done mono_row
   refine ⟨_, rfl, _, rfl, n, ns, _, .ref g, rfl, h4, e6.inn, h6, Fm.first_sym hf hl, fun F7 H7 vm e7 hm => ?_⟩
   have lenS : xs.length = S.length:=Paired.length relS
   have s57:=s6.trans e7.ff
   refine ⟨_, rfl, sa, xs, rfl, .inl (row_seq (s57 _ _ hsa) e7.inn), (by show 2 <= sizeLine; decide), fun p hp => ?_⟩
   have e8:=(e6.trans e7).put (o:=.tup [vm, .int xs.length]) hp
   refine kk _ _ _ e8 ⟨p, _, _, rfl, upd_same, ?_, ?_⟩
   ·have e9 : formL n ns n = (fo n ns).flatten:=Fm.fo_flat hf hl
    rw [<- e9]
    exact mono_row.up (same_put (e7.inn.free hp)) hm
   ·show V.int _ = V.int _
    rw [lenS, Fm.turns_len hf hl st]
end
end Pr
namespace Pr
open PySem PySem.Spec PyProof.Rows L2
open Fm (gm vec gr Mat fo Latt)
abbrev sTSame : Stmt:=top 32
def spTSame (K : PySem.W.Frag) : Sp:=fun vs H Q _ => ∃ (n : Int) (a b : Addr) (ns ms : List Int), vs = [.int n, .ref a, .ref b] /\ SqL K H a (ns.map V.int) /\ SqL K H b (ms.map V.int) /\ AskN n ns /\ AskN n ms /\
 ∀ (H' : Hp) (p : Addr), H' p = some (.lst ((Ql78.answer (.same n ns ms)).map V.int)) -> Q (.ref p) H'
theorem answer_same (n : Int) (l b : List Int) : Ql78.answer (.same n l b) = if Ql78.between n 1 4 = false then [-2] else if (Ql78.form n.toNat l && Ql78.form n.toNat b) = false then [-1] else if (Ql78.changes n.toNat (Ql78.rows n.toNat l) (Ql78.rows n.toNat b)).isEmpty = true then [0] else [1]:=rfl
theorem asked_nn {n : Int} {l b : List Int} (h : (Ql78Neutral.whole32 n && (Ql78Neutral.square l n && Ql78Neutral.square b n)) = true) : AskN n l /\ AskN n b:=by
 obtain ⟨h1, h2⟩:=Bool.and_eq_true_iff.mp h
 obtain ⟨h3, h4⟩:=Bool.and_eq_true_iff.mp h2
 exact ⟨asked_n (by rw [h1, h3]; rfl), asked_n (by rw [h1, h4]; rfl)⟩
theorem dp_ints {K : PySem.W.Frag} {H : Hp} : ∀ ns : List Int, DpAll K H (ns.map V.int) (ns.map PyData.int)
 | [] => .nil
 | i :: ns => .cons (.int i) (dp_ints ns)
theorem shaped_ints (ns : List Int) : SeqAt.shaped (.list (ns.map PyData.int)) = true:=by
 have h1 : ∀ ns : List Int, PyData.canLayAll0 (ns.map PyData.int) = true:=fun ns => by
  induction ns with
  | nil => rfl
  | cons i ns ih => show (true && PyData.canLayAll0 (ns.map PyData.int)) = true; rw [ih]; rfl
 have h2 : ∀ ns : List Int, PyData.depthAll (ns.map PyData.int) = 0:=fun ns => by
  induction ns with
  | nil => rfl
  | cons i ns ih => show max 0 (PyData.depthAll (ns.map PyData.int)) = 0; rw [ih]; rfl
 unfold SeqAt.shaped
 rw [Bool.and_eq_true_iff]
 refine ⟨h1 ns, decide_eq_true ?_⟩
 show PyData.depthAll (ns.map PyData.int) + 1 <= 64
 rw [h2]
 omega
theorem eqv_ints (ns ms : List Int) : PyData.eqv (.list (ns.map PyData.int)) (.list (ms.map PyData.int)) = decide (ns = ms):=by
 have key : ∀ ns ms : List Int, PyData.eqvAll (ns.map PyData.int) (ms.map PyData.int) = decide (ns = ms):=fun ns => by
  induction ns with
  | nil => intro ms; cases ms with
   | nil => rfl
   | cons j ms => rfl
  | cons i ns ih => intro ms; cases ms with
   | nil => rfl
   | cons j ms =>
    show ((i == j) && PyData.eqvAll (ns.map PyData.int) (ms.map PyData.int)) = _
    rw [ih, Bool.eq_iff_iff]
    simp
 exact key ns ms
section
variable {P : Program} {w : World} {K : PySem.W.Frag} {mg : Str -> Option Value} {base : Heap}
theorem scTSame : FnScope ["n", "a", "b"] ["n", "a", "b"] (defScope sTSame):=⟨rfl, rfl, rfl, by decide +kernel, rfl, by decide +kernel, by decide +kernel⟩
theorem ok_top_same {f fS fF fV : Addr} {fd fdS fdF fdV : FuncData} (F : Fun K "fm_same" "fm_same" sTSame f fd) (hwrong : ∃ t, mg "OUT_OF_RANGE" = some (.int (-2) t)) (hnf : ∃ t, mg "NOT_A_FORM" = some (.int (-1) t))
  (GS : FnOk P w K mg base CX0 1 fS fdS ["n"] spSize) (kS : PySem.W.keepIn K (.ref fS) = true) (bS : Binds K fdS ["n"] []) (mS : mg "is_size_changed" = some (.ref fS))
  (GF : FnOk P w K mg base CX0 5 fF fdF ["n", "a"] (spForm K)) (kF : PySem.W.keepIn K (.ref fF) = true) (bF : Binds K fdF ["n", "a"] []) (mF : mg "is_form" = some (.ref fF))
  (GV : FnOk P w K mg base CX0 6 fV fdV ["n", "a"] (spFirst K)) (kV' : PySem.W.keepIn K (.ref fV) = true) (bV : Binds K fdV ["n", "a"] []) (mV : mg "first_of_same" = some (.ref fV)) : FnOk P w K mg base CX0 7 f fd ["n", "a", "b"] (spTSame K):=by
 obtain ⟨t, ht⟩:=hwrong
 obtain ⟨t', ht'⟩:=hnf
 refine F.ok scTSame (fun vs H Q E h => ?_) (fun cdv A outer s H vs Q E hr h => ?_)
 ·obtain ⟨n, a, b, ns, ms, rfl, _⟩:=h
  rfl
 ·obtain ⟨n, a, b, ns, ms, rfl, hs, hs', hask, hask', k⟩:=h
  have hr1 : Room 1 _:=hr.mono (by decide)
  have hr5 : Room 5 _:=hr.mono (by decide)
  refine ⟨_, pss_cons (ps_if (pt_not (pt_val (pe_call GS hr1 rfl mS kS bS .nil pass0 (pa_cons (pv 0) pa_nil)))) (pss_one (ps_ret (pe_lst (pa_cons (pe_glob (v:=.int (-2)) rfl ht ⟨t, rfl⟩) pa_nil)))) pss_nil)
   (pss_cons (ps_if (PW.pt (pw_or (pt_not (pt_val (pe_call GF hr5 rfl mF kF bF .nil pass0 (pa_cons (pv 0) (pa_cons (pv 1) pa_nil))))) (pw_or1 (pt_not (pt_val (pe_call GF hr5 rfl mF kF bF .nil pass0 (pa_cons (pv 0) (pa_cons (pv 2) pa_nil)))))))) (pss_one (ps_ret (pe_lst (pa_cons (pe_glob (v:=.int (-1)) rfl ht' ⟨t', rfl⟩) pa_nil)))) pss_nil)
   (pss_cons (ps_if (pt_cmpR (op_eqD hr.units) (pe_ix ix_tup (pe_call GV hr rfl mV kV' bV .nil pass0 (pa_cons (pv 0) (pa_cons (pv 1) pa_nil))) pe_int (fun _ _ => rfl)) (pe_ix ix_tup (pe_call GV hr rfl mV kV' bV .nil pass0 (pa_cons (pv 0) (pa_cons (pv 2) pa_nil))) pe_int (fun _ _ => rfl)) (nomark _)) (pss_one (ps_ret (pe_lst (pa_cons pe_int pa_nil)))) pss_nil)
   (pss_one (ps_ret (pe_lst (pa_cons pe_int pa_nil)))))), ?_⟩
  refine ⟨_, rfl, n, rfl, _, rfl, ite2 (fun h1 => ?_) (fun h1 => ?_)⟩
  ·have e : Ql78.answer (.same n ns ms) = [-2]:=by
    rw [answer_same, between_iff, if_pos]
    cases q : decide (1 <= n /\ n <= 4) with
    | false => rfl
    | true => rw [q] at h1; cases h1
   rw [e] at k
   exact ⟨(by show 1 <= sizeLine; decide), fun p hp => k _ p upd_same⟩
  ·have hsz : decide (1 <= n /\ n <= 4) = true:=by
    cases q : decide (1 <= n /\ n <= 4) with
    | true => rfl
    | false => rw [q] at h1; exact absurd rfl h1
   obtain ⟨h1, h4⟩:=of_decide_eq_true hsz
   have e0:=answer_same n ns ms
   rw [between_iff, hsz, if_neg (by decide)] at e0
   obtain ⟨q', hq', _, _, _, hl'⟩:=askN_nat hask' h1 (by omega)
   obtain ⟨q, rfl, em, m1, m8, hl⟩:=askN_nat hask h1 (by omega)
   have hqq : q' = q:=by omega
   subst hqq
   have m4 : q' <= 4:=by omega
   rw [em] at e0
   refine ⟨_, rfl, _, rfl, q', a, ns, rfl, hs, m1, m8, hl, fun H1 s1 => ⟨_, rfl, ?_⟩⟩
   cases hf : Ql78.form q' ns with
   | false =>
    rw [hf, Bool.false_and, if_pos rfl] at e0
    rw [e0] at k
    exact iteT (iteT ⟨(by show 1 <= sizeLine; decide), fun p hp => k _ p upd_same⟩)
   | true =>
    refine iteF ?_
    refine ⟨_, rfl, _, rfl, q', b, ms, rfl, s1.seq hs', m1, m8, hl', fun H2 s2 => ⟨_, rfl, ?_⟩⟩
    cases hf' : Ql78.form q' ms with
    | false =>
     rw [hf, hf', Bool.true_and, if_pos rfl] at e0
     rw [e0] at k
     exact iteT ⟨(by show 1 <= sizeLine; decide), fun p hp => k _ p upd_same⟩
    | true =>
     rw [hf, hf', Bool.true_and, if_neg (by decide)] at e0
     refine iteF ?_
     have s12:=s1.trans s2
     refine ⟨_, rfl, _, rfl, q', a, ns, H2, rfl, s12.seq hs, fun H' s' => (s12.trans s').seq hs, m1, m4, hl, hf, .refl H2, fun F3 H3 v3 e3 hv3 => ?_⟩
     obtain ⟨ta, v1, v2, rfl, hta, ⟨ra, rfl, hra⟩, _⟩:=hv3
     have s13:=s12.trans e3.hh
     refine ⟨ta, _, 0, _, rfl, rfl, SqT.of (e3.inn _ _ hta), at_of (j:=0) rfl rfl, ?_⟩
     refine ⟨_, rfl, _, rfl, q', b, ms, F3, rfl, s13.seq hs', fun H' s' => (s13.trans s').seq hs', m1, m4, hl', hf', e3.inn, fun F4 H4 v4 e4 hv4 => ?_⟩
     obtain ⟨tb, w1, w2, rfl, htb, ⟨rb, rfl, hrb⟩, _⟩:=hv4
     refine ⟨tb, _, 0, _, rfl, rfl, SqT.of (e4.inn _ _ htb), at_of (j:=0) rfl rfl, ?_⟩
     refine ⟨_, _, .lst (row_seq (e4.ff _ _ hra) e4.inn) (dp_ints _), .lst (row_seq hrb e4.inn) (dp_ints _), shaped_ints _, shaped_ints _, _, rfl, ?_⟩
     rw [eqv_ints]
     have iff:=Fm.same_iff hf hl m4 hf' hl'
     refine ite2 (fun hc => ?_) (fun hc => ?_)
     ·have hc:=iff.mp (of_decide_eq_true hc)
      have hne : (Ql78.changes q' (Ql78.rows q' ns) (Ql78.rows q' ms)).isEmpty = false:=by
       cases z : Ql78.changes q' (Ql78.rows q' ns) (Ql78.rows q' ms) with
       | nil => exact absurd z hc
       | cons _ _ => rfl
      rw [hne, if_neg (by decide)] at e0
      rw [e0] at k
      exact ⟨(by show 1 <= sizeLine; decide), fun p hp => k _ p upd_same⟩
     ·have hc : Ql78.changes q' (Ql78.rows q' ns) (Ql78.rows q' ms) = []:=Classical.byContradiction fun z => hc (decide_eq_true (iff.mpr z))
      rw [hc] at e0
      have e0 : Ql78.answer (.same (q' : Int) ns ms) = [0]:=e0
      rw [e0] at k
      exact ⟨(by show 1 <= sizeLine; decide), fun p hp => k _ p upd_same⟩
end
theorem len1 {us : List Value} (h : us.length = 1) : ∃ a, us = [a]:=match us, h with | [a], _ => ⟨a, rfl⟩
theorem len2 {us : List Value} (h : us.length = 2) : ∃ a b, us = [a, b]:=match us, h with | [a, b], _ => ⟨a, b, rfl⟩
theorem len3 {us : List Value} (h : us.length = 3) : ∃ a b c, us = [a, b, c]:=match us, h with | [a, b, c], _ => ⟨a, b, c, rfl⟩
theorem len4 {us : List Value} (h : us.length = 4) : ∃ a b c d, us = [a, b, c, d]:=match us, h with | [a, b, c, d], _ => ⟨a, b, c, d, rfl⟩
theorem len5 {us : List Value} (h : us.length = 5) : ∃ a b c d e, us = [a, b, c, d, e]:=match us, h with | [a, b, c, d, e], _ => ⟨a, b, c, d, e, rfl⟩
theorem all_mk {P : Program} {w : World} {K : PySem.W.Frag} {h : Heap} {mg : Str -> Option Value} {fa : Addr} (X : K.In h) (G : h.Ns mainGlobals mg) (hfa : mg "fm_same" = some (.ref fa))
  {f_0 : Addr} {od_0 an_0 : Option Addr} {sl_0 : Array (Option Value)} {oc_0 kV_0 dc_0 pm_0 cd_0 ct_0 : Value}
  (a_0 : PySem.W.nsIn K mainGlobals "split_rows" = some (some (.ref f_0)))
  (l_0 : K.lookup f_0 = some ⟨oc_0, od_0, .func (PySem.W.fnOf "split_rows" "split_rows" (defArgs sSplit) (defBody sSplit) (defScope sSplit) .none kV_0 dc_0 pm_0 an_0 cd_0 ct_0), sl_0⟩)
  (c_0 : PySem.W.codeIn K cd_0 "split_rows" = true) (k_0 : PySem.W.keepIn K (.ref f_0) = true)
  {f_1 : Addr} {od_1 an_1 : Option Addr} {sl_1 : Array (Option Value)} {oc_1 kV_1 dc_1 pm_1 cd_1 ct_1 : Value}
  (a_1 : PySem.W.nsIn K mainGlobals "top_rows" = some (some (.ref f_1)))
  (l_1 : K.lookup f_1 = some ⟨oc_1, od_1, .func (PySem.W.fnOf "top_rows" "top_rows" (defArgs sTop) (defBody sTop) (defScope sTop) .none kV_1 dc_1 pm_1 an_1 cd_1 ct_1), sl_1⟩)
  (c_1 : PySem.W.codeIn K cd_1 "top_rows" = true) (k_1 : PySem.W.keepIn K (.ref f_1) = true)
  {f_2 : Addr} {od_2 an_2 : Option Addr} {sl_2 : Array (Option Value)} {oc_2 kV_2 dc_2 pm_2 cd_2 ct_2 : Value}
  (a_2 : PySem.W.nsIn K mainGlobals "reduced_row" = some (some (.ref f_2)))
  (l_2 : K.lookup f_2 = some ⟨oc_2, od_2, .func (PySem.W.fnOf "reduced_row" "reduced_row" (defArgs sRed) (defBody sRed) (defScope sRed) .none kV_2 dc_2 pm_2 an_2 cd_2 ct_2), sl_2⟩)
  (c_2 : PySem.W.codeIn K cd_2 "reduced_row" = true) (k_2 : PySem.W.keepIn K (.ref f_2) = true)
  {f_3 : Addr} {od_3 an_3 : Option Addr} {sl_3 : Array (Option Value)} {oc_3 kV_3 dc_3 pm_3 cd_3 ct_3 : Value}
  (a_3 : PySem.W.nsIn K mainGlobals "empty_choice" = some (some (.ref f_3)))
  (l_3 : K.lookup f_3 = some ⟨oc_3, od_3, .func (PySem.W.fnOf "empty_choice" "empty_choice" (defArgs sEmpty) (defBody sEmpty) (defScope sEmpty) .none kV_3 dc_3 pm_3 an_3 cd_3 ct_3), sl_3⟩)
  (c_3 : PySem.W.codeIn K cd_3 "empty_choice" = true) (k_3 : PySem.W.keepIn K (.ref f_3) = true)
  {f_4 : Addr} {od_4 an_4 : Option Addr} {sl_4 : Array (Option Value)} {oc_4 kV_4 dc_4 pm_4 cd_4 ct_4 : Value}
  (a_4 : PySem.W.nsIn K mainGlobals "grown_choices" = some (some (.ref f_4)))
  (l_4 : K.lookup f_4 = some ⟨oc_4, od_4, .func (PySem.W.fnOf "grown_choices" "grown_choices" (defArgs sGrowns) (defBody sGrowns) (defScope sGrowns) .none kV_4 dc_4 pm_4 an_4 cd_4 ct_4), sl_4⟩)
  (c_4 : PySem.W.codeIn K cd_4 "grown_choices" = true) (k_4 : PySem.W.keepIn K (.ref f_4) = true)
  {f_5 : Addr} {od_5 an_5 : Option Addr} {sl_5 : Array (Option Value)} {oc_5 kV_5 dc_5 pm_5 cd_5 ct_5 : Value}
  (a_5 : PySem.W.nsIn K mainGlobals "grow" = some (some (.ref f_5)))
  (l_5 : K.lookup f_5 = some ⟨oc_5, od_5, .func (PySem.W.fnOf "grow" "grow" (defArgs sGrow) (defBody sGrow) (defScope sGrow) .none kV_5 dc_5 pm_5 an_5 cd_5 ct_5), sl_5⟩)
  (c_5 : PySem.W.codeIn K cd_5 "grow" = true) (k_5 : PySem.W.keepIn K (.ref f_5) = true)
  {f_6 : Addr} {od_6 an_6 : Option Addr} {sl_6 : Array (Option Value)} {oc_6 kV_6 dc_6 pm_6 cd_6 ct_6 : Value}
  (a_6 : PySem.W.nsIn K mainGlobals "whole_root" = some (some (.ref f_6)))
  (l_6 : K.lookup f_6 = some ⟨oc_6, od_6, .func (PySem.W.fnOf "whole_root" "whole_root" (defArgs sRoot) (defBody sRoot) (defScope sRoot) .none kV_6 dc_6 pm_6 an_6 cd_6 ct_6), sl_6⟩)
  (c_6 : PySem.W.codeIn K cd_6 "whole_root" = true) (k_6 : PySem.W.keepIn K (.ref f_6) = true)
  {f_7 : Addr} {od_7 an_7 : Option Addr} {sl_7 : Array (Option Value)} {oc_7 kV_7 dc_7 pm_7 cd_7 ct_7 : Value}
  (a_7 : PySem.W.nsIn K mainGlobals "reduced_columns" = some (some (.ref f_7)))
  (l_7 : K.lookup f_7 = some ⟨oc_7, od_7, .func (PySem.W.fnOf "reduced_columns" "reduced_columns" (defArgs sReduced) (defBody sReduced) (defScope sReduced) .none kV_7 dc_7 pm_7 an_7 cd_7 ct_7), sl_7⟩)
  (c_7 : PySem.W.codeIn K cd_7 "reduced_columns" = true) (k_7 : PySem.W.keepIn K (.ref f_7) = true)
  {f_8 : Addr} {od_8 an_8 : Option Addr} {sl_8 : Array (Option Value)} {oc_8 kV_8 dc_8 pm_8 cd_8 ct_8 : Value}
  (a_8 : PySem.W.nsIn K mainGlobals "unit_rows" = some (some (.ref f_8)))
  (l_8 : K.lookup f_8 = some ⟨oc_8, od_8, .func (PySem.W.fnOf "unit_rows" "unit_rows" (defArgs sUnit) (defBody sUnit) (defScope sUnit) .none kV_8 dc_8 pm_8 an_8 cd_8 ct_8), sl_8⟩)
  (c_8 : PySem.W.codeIn K cd_8 "unit_rows" = true) (k_8 : PySem.W.keepIn K (.ref f_8) = true)
  {f_9 : Addr} {od_9 an_9 : Option Addr} {sl_9 : Array (Option Value)} {oc_9 kV_9 dc_9 pm_9 cd_9 ct_9 : Value}
  (a_9 : PySem.W.nsIn K mainGlobals "columns_of" = some (some (.ref f_9)))
  (l_9 : K.lookup f_9 = some ⟨oc_9, od_9, .func (PySem.W.fnOf "columns_of" "columns_of" (defArgs sCols) (defBody sCols) (defScope sCols) .none kV_9 dc_9 pm_9 an_9 cd_9 ct_9), sl_9⟩)
  (c_9 : PySem.W.codeIn K cd_9 "columns_of" = true) (k_9 : PySem.W.keepIn K (.ref f_9) = true)
  {f_10 : Addr} {od_10 an_10 : Option Addr} {sl_10 : Array (Option Value)} {oc_10 kV_10 dc_10 pm_10 cd_10 ct_10 : Value}
  (a_10 : PySem.W.nsIn K mainGlobals "changed_rows" = some (some (.ref f_10)))
  (l_10 : K.lookup f_10 = some ⟨oc_10, od_10, .func (PySem.W.fnOf "changed_rows" "changed_rows" (defArgs sChg) (defBody sChg) (defScope sChg) .none kV_10 dc_10 pm_10 an_10 cd_10 ct_10), sl_10⟩)
  (c_10 : PySem.W.codeIn K cd_10 "changed_rows" = true) (k_10 : PySem.W.keepIn K (.ref f_10) = true)
  {f_11 : Addr} {od_11 an_11 : Option Addr} {sl_11 : Array (Option Value)} {oc_11 kV_11 dc_11 pm_11 cd_11 ct_11 : Value}
  (a_11 : PySem.W.nsIn K mainGlobals "product_sum" = some (some (.ref f_11)))
  (l_11 : K.lookup f_11 = some ⟨oc_11, od_11, .func (PySem.W.fnOf "product_sum" "product_sum" (defArgs sProd) (defBody sProd) (defScope sProd) .none kV_11 dc_11 pm_11 an_11 cd_11 ct_11), sl_11⟩)
  (c_11 : PySem.W.codeIn K cd_11 "product_sum" = true) (k_11 : PySem.W.keepIn K (.ref f_11) = true)
  {f_12 : Addr} {od_12 an_12 : Option Addr} {sl_12 : Array (Option Value)} {oc_12 kV_12 dc_12 pm_12 cd_12 ct_12 : Value}
  (a_12 : PySem.W.nsIn K mainGlobals "settle" = some (some (.ref f_12)))
  (l_12 : K.lookup f_12 = some ⟨oc_12, od_12, .func (PySem.W.fnOf "settle" "settle" (defArgs sSettle) (defBody sSettle) (defScope sSettle) .none kV_12 dc_12 pm_12 an_12 cd_12 ct_12), sl_12⟩)
  (c_12 : PySem.W.codeIn K cd_12 "settle" = true) (k_12 : PySem.W.keepIn K (.ref f_12) = true)
  {f_13 : Addr} {od_13 an_13 : Option Addr} {sl_13 : Array (Option Value)} {oc_13 kV_13 dc_13 pm_13 cd_13 ct_13 : Value}
  (a_13 : PySem.W.nsIn K mainGlobals "is_less_swapped" = some (some (.ref f_13)))
  (l_13 : K.lookup f_13 = some ⟨oc_13, od_13, .func (PySem.W.fnOf "is_less_swapped" "is_less_swapped" (defArgs sLess) (defBody sLess) (defScope sLess) .none kV_13 dc_13 pm_13 an_13 cd_13 ct_13), sl_13⟩)
  (c_13 : PySem.W.codeIn K cd_13 "is_less_swapped" = true) (k_13 : PySem.W.keepIn K (.ref f_13) = true)
  {f_14 : Addr} {od_14 an_14 : Option Addr} {sl_14 : Array (Option Value)} {oc_14 kV_14 dc_14 pm_14 cd_14 ct_14 : Value}
  (a_14 : PySem.W.nsIn K mainGlobals "first_of_same" = some (some (.ref f_14)))
  (l_14 : K.lookup f_14 = some ⟨oc_14, od_14, .func (PySem.W.fnOf "first_of_same" "first_of_same" (defArgs sFirst) (defBody sFirst) (defScope sFirst) .none kV_14 dc_14 pm_14 an_14 cd_14 ct_14), sl_14⟩)
  (c_14 : PySem.W.codeIn K cd_14 "first_of_same" = true) (k_14 : PySem.W.keepIn K (.ref f_14) = true)
  {f_15 : Addr} {od_15 an_15 : Option Addr} {sl_15 : Array (Option Value)} {oc_15 kV_15 dc_15 pm_15 cd_15 ct_15 : Value}
  (a_15 : PySem.W.nsIn K mainGlobals "lines_by_value" = some (some (.ref f_15)))
  (l_15 : K.lookup f_15 = some ⟨oc_15, od_15, .func (PySem.W.fnOf "lines_by_value" "lines_by_value" (defArgs sLines) (defBody sLines) (defScope sLines) .none kV_15 dc_15 pm_15 an_15 cd_15 ct_15), sl_15⟩)
  (c_15 : PySem.W.codeIn K cd_15 "lines_by_value" = true) (k_15 : PySem.W.keepIn K (.ref f_15) = true)
  {f_16 : Addr} {od_16 an_16 : Option Addr} {sl_16 : Array (Option Value)} {oc_16 kV_16 dc_16 pm_16 cd_16 ct_16 : Value}
  (a_16 : PySem.W.nsIn K mainGlobals "longer_starts" = some (some (.ref f_16)))
  (l_16 : K.lookup f_16 = some ⟨oc_16, od_16, .func (PySem.W.fnOf "longer_starts" "longer_starts" (defArgs sLonger) (defBody sLonger) (defScope sLonger) .none kV_16 dc_16 pm_16 an_16 cd_16 ct_16), sl_16⟩)
  (c_16 : PySem.W.codeIn K cd_16 "longer_starts" = true) (k_16 : PySem.W.keepIn K (.ref f_16) = true)
  {f_17 : Addr} {od_17 an_17 : Option Addr} {sl_17 : Array (Option Value)} {oc_17 kV_17 dc_17 pm_17 cd_17 ct_17 : Value}
  (a_17 : PySem.W.nsIn K mainGlobals "joins_by_tail" = some (some (.ref f_17)))
  (l_17 : K.lookup f_17 = some ⟨oc_17, od_17, .func (PySem.W.fnOf "joins_by_tail" "joins_by_tail" (defArgs sBy) (defBody sBy) (defScope sBy) .none kV_17 dc_17 pm_17 an_17 cd_17 ct_17), sl_17⟩)
  (c_17 : PySem.W.codeIn K cd_17 "joins_by_tail" = true) (k_17 : PySem.W.keepIn K (.ref f_17) = true)
  {f_18 : Addr} {od_18 an_18 : Option Addr} {sl_18 : Array (Option Value)} {oc_18 kV_18 dc_18 pm_18 cd_18 ct_18 : Value}
  (a_18 : PySem.W.nsIn K mainGlobals "is_short" = some (some (.ref f_18)))
  (l_18 : K.lookup f_18 = some ⟨oc_18, od_18, .func (PySem.W.fnOf "is_short" "is_short" (defArgs sShort) (defBody sShort) (defScope sShort) .none kV_18 dc_18 pm_18 an_18 cd_18 ct_18), sl_18⟩)
  (c_18 : PySem.W.codeIn K cd_18 "is_short" = true) (k_18 : PySem.W.keepIn K (.ref f_18) = true)
  {f_19 : Addr} {od_19 an_19 : Option Addr} {sl_19 : Array (Option Value)} {oc_19 kV_19 dc_19 pm_19 cd_19 ct_19 : Value}
  (a_19 : PySem.W.nsIn K mainGlobals "joined_starts" = some (some (.ref f_19)))
  (l_19 : K.lookup f_19 = some ⟨oc_19, od_19, .func (PySem.W.fnOf "joined_starts" "joined_starts" (defArgs sJoined) (defBody sJoined) (defScope sJoined) .none kV_19 dc_19 pm_19 an_19 cd_19 ct_19), sl_19⟩)
  (c_19 : PySem.W.codeIn K cd_19 "joined_starts" = true) (k_19 : PySem.W.keepIn K (.ref f_19) = true)
  {f_20 : Addr} {od_20 an_20 : Option Addr} {sl_20 : Array (Option Value)} {oc_20 kV_20 dc_20 pm_20 cd_20 ct_20 : Value}
  (a_20 : PySem.W.nsIn K mainGlobals "longer_minors" = some (some (.ref f_20)))
  (l_20 : K.lookup f_20 = some ⟨oc_20, od_20, .func (PySem.W.fnOf "longer_minors" "longer_minors" (defArgs sLong) (defBody sLong) (defScope sLong) .none kV_20 dc_20 pm_20 an_20 cd_20 ct_20), sl_20⟩)
  (c_20 : PySem.W.codeIn K cd_20 "longer_minors" = true) (k_20 : PySem.W.keepIn K (.ref f_20) = true)
  {f_21 : Addr} {od_21 an_21 : Option Addr} {sl_21 : Array (Option Value)} {oc_21 kV_21 dc_21 pm_21 cd_21 ct_21 : Value}
  (a_21 : PySem.W.nsIn K mainGlobals "common_divisor" = some (some (.ref f_21)))
  (l_21 : K.lookup f_21 = some ⟨oc_21, od_21, .func (PySem.W.fnOf "common_divisor" "common_divisor" (defArgs sGcd) (defBody sGcd) (defScope sGcd) .none kV_21 dc_21 pm_21 an_21 cd_21 ct_21), sl_21⟩)
  (c_21 : PySem.W.codeIn K cd_21 "common_divisor" = true) (k_21 : PySem.W.keepIn K (.ref f_21) = true)
  {f_22 : Addr} {od_22 an_22 : Option Addr} {sl_22 : Array (Option Value)} {oc_22 kV_22 dc_22 pm_22 cd_22 ct_22 : Value}
  (a_22 : PySem.W.nsIn K mainGlobals "mirrored" = some (some (.ref f_22)))
  (l_22 : K.lookup f_22 = some ⟨oc_22, od_22, .func (PySem.W.fnOf "mirrored" "mirrored" (defArgs sMirT) (defBody sMirT) (defScope sMirT) .none kV_22 dc_22 pm_22 an_22 cd_22 ct_22), sl_22⟩)
  (c_22 : PySem.W.codeIn K cd_22 "mirrored" = true) (k_22 : PySem.W.keepIn K (.ref f_22) = true)
  {f_23 : Addr} {od_23 an_23 : Option Addr} {sl_23 : Array (Option Value)} {oc_23 kV_23 dc_23 pm_23 cd_23 ct_23 : Value}
  (a_23 : PySem.W.nsIn K mainGlobals "fm_same" = some (some (.ref f_23)))
  (l_23 : K.lookup f_23 = some ⟨oc_23, od_23, .func (PySem.W.fnOf "fm_same" "fm_same" (defArgs sTSame) (defBody sTSame) (defScope sTSame) .none kV_23 dc_23 pm_23 an_23 cd_23 ct_23), sl_23⟩)
  (c_23 : PySem.W.codeIn K cd_23 "fm_same" = true) (k_23 : PySem.W.keepIn K (.ref f_23) = true)
  {f_24 : Addr} {od_24 an_24 : Option Addr} {sl_24 : Array (Option Value)} {oc_24 kV_24 dc_24 pm_24 cd_24 ct_24 : Value}
  (a_24 : PySem.W.nsIn K mainGlobals "is_size_changed" = some (some (.ref f_24)))
  (l_24 : K.lookup f_24 = some ⟨oc_24, od_24, .func (PySem.W.fnOf "is_size_changed" "is_size_changed" (defArgs sSize) (defBody sSize) (defScope sSize) .none kV_24 dc_24 pm_24 an_24 cd_24 ct_24), sl_24⟩)
  (c_24 : PySem.W.codeIn K cd_24 "is_size_changed" = true) (k_24 : PySem.W.keepIn K (.ref f_24) = true)
  {f_25 : Addr} {od_25 an_25 : Option Addr} {sl_25 : Array (Option Value)} {oc_25 kV_25 dc_25 pm_25 cd_25 ct_25 : Value}
  (a_25 : PySem.W.nsIn K mainGlobals "is_form" = some (some (.ref f_25)))
  (l_25 : K.lookup f_25 = some ⟨oc_25, od_25, .func (PySem.W.fnOf "is_form" "is_form" (defArgs sForm) (defBody sForm) (defScope sForm) .none kV_25 dc_25 pm_25 an_25 cd_25 ct_25), sl_25⟩)
  (c_25 : PySem.W.codeIn K cd_25 "is_form" = true) (k_25 : PySem.W.keepIn K (.ref f_25) = true)
  {f_26 : Addr} {od_26 an_26 : Option Addr} {sl_26 : Array (Option Value)} {oc_26 kV_26 dc_26 pm_26 cd_26 ct_26 : Value}
  (a_26 : PySem.W.nsIn K mainGlobals "is_in_bounds" = some (some (.ref f_26)))
  (l_26 : K.lookup f_26 = some ⟨oc_26, od_26, .func (PySem.W.fnOf "is_in_bounds" "is_in_bounds" (defArgs sBounds) (defBody sBounds) (defScope sBounds) .none kV_26 dc_26 pm_26 an_26 cd_26 ct_26), sl_26⟩)
  (c_26 : PySem.W.codeIn K cd_26 "is_in_bounds" = true) (k_26 : PySem.W.keepIn K (.ref f_26) = true)
  {f_27 : Addr} {od_27 an_27 : Option Addr} {sl_27 : Array (Option Value)} {oc_27 kV_27 dc_27 pm_27 cd_27 ct_27 : Value}
  (a_27 : PySem.W.nsIn K mainGlobals "is_mirrored" = some (some (.ref f_27)))
  (l_27 : K.lookup f_27 = some ⟨oc_27, od_27, .func (PySem.W.fnOf "is_mirrored" "is_mirrored" (defArgs sMirror) (defBody sMirror) (defScope sMirror) .none kV_27 dc_27 pm_27 an_27 cd_27 ct_27), sl_27⟩)
  (c_27 : PySem.W.codeIn K cd_27 "is_mirrored" = true) (k_27 : PySem.W.keepIn K (.ref f_27) = true)
  {f_28 : Addr} {od_28 an_28 : Option Addr} {sl_28 : Array (Option Value)} {oc_28 kV_28 dc_28 pm_28 cd_28 ct_28 : Value}
  (a_28 : PySem.W.nsIn K mainGlobals "is_above_zero" = some (some (.ref f_28)))
  (l_28 : K.lookup f_28 = some ⟨oc_28, od_28, .func (PySem.W.fnOf "is_above_zero" "is_above_zero" (defArgs sAbove) (defBody sAbove) (defScope sAbove) .none kV_28 dc_28 pm_28 an_28 cd_28 ct_28), sl_28⟩)
  (c_28 : PySem.W.codeIn K cd_28 "is_above_zero" = true) (k_28 : PySem.W.keepIn K (.ref f_28) = true)
  {f_29 : Addr} {od_29 an_29 : Option Addr} {sl_29 : Array (Option Value)} {oc_29 kV_29 dc_29 pm_29 cd_29 ct_29 : Value}
  (a_29 : PySem.W.nsIn K mainGlobals "last_corner" = some (some (.ref f_29)))
  (l_29 : K.lookup f_29 = some ⟨oc_29, od_29, .func (PySem.W.fnOf "last_corner" "last_corner" (defArgs sCorner) (defBody sCorner) (defScope sCorner) .none kV_29 dc_29 pm_29 an_29 cd_29 ct_29), sl_29⟩)
  (c_29 : PySem.W.codeIn K cd_29 "last_corner" = true) (k_29 : PySem.W.keepIn K (.ref f_29) = true)
  {t_OUT_OF_RANGE : Tok} (g_OUT_OF_RANGE : PySem.W.nsIn K mainGlobals "OUT_OF_RANGE" = some (some (.int (-2) t_OUT_OF_RANGE)))
  {t_NOT_A_FORM : Tok} (g_NOT_A_FORM : PySem.W.nsIn K mainGlobals "NOT_A_FORM" = some (some (.int (-1) t_NOT_A_FORM)))
  {t_MOST_UNKNOWNS_CHANGED : Tok} (g_MOST_UNKNOWNS_CHANGED : PySem.W.nsIn K mainGlobals "MOST_UNKNOWNS_CHANGED" = some (some (.int (4) t_MOST_UNKNOWNS_CHANGED)))
  {t_GREATEST_NUMBER : Tok} (g_GREATEST_NUMBER : PySem.W.nsIn K mainGlobals "GREATEST_NUMBER" = some (some (.int (32) t_GREATEST_NUMBER)))
  (n_zip : PySem.W.nsIn K mainGlobals "zip" = some none)
  (n_abs : PySem.W.nsIn K mainGlobals "abs" = some none)
  (n_range : PySem.W.nsIn K mainGlobals "range" = some none)
  (n_len : PySem.W.nsIn K mainGlobals "len" = some none)
  (n_sorted : PySem.W.nsIn K mainGlobals "sorted" = some none)
  (n_tuple : PySem.W.nsIn K mainGlobals "tuple" = some none)
  (n_list : PySem.W.nsIn K mainGlobals "list" = some none)
  (n_max : PySem.W.nsIn K mainGlobals "max" = some none)
  (n_reversed : PySem.W.nsIn K mainGlobals "reversed" = some none)
  (n_min : PySem.W.nsIn K mainGlobals "min" = some none)
  (n_sum : PySem.W.nsIn K mainGlobals "sum" = some none) :
  ∃ fd : FuncData, (∀ (s : Shared) (us : List Value), us.length = (["n", "a", "b"] : List Str).length -> BindsTo s fd ⟨us, []⟩ ((["n", "a", "b"] : List Str).zip us)) /\ ∀ base : Heap, K.In base -> base.Ns mainGlobals mg -> FnOk P w K mg base CX0 7 fa fd ["n", "a", "b"] (spTSame K):=by
 have e:=hfa.symm.trans (PySem.W.mg_of X G a_23)
 cases e
 have F_0:=fun_mk (st:=sSplit) l_0 c_0 k_0
 have b_0:=F_0.binds (ps:=["n", "a"]) fun _ _ _ _ _ _ us hl => by obtain ⟨_, _, rfl⟩:=len2 hl; rfl
 have m_0:=PySem.W.mg_of X G a_0
 have F_1:=fun_mk (st:=sTop) l_1 c_1 k_1
 have b_1:=F_1.binds (ps:=["rows"]) fun _ _ _ _ _ _ us hl => by obtain ⟨_, rfl⟩:=len1 hl; rfl
 have m_1:=PySem.W.mg_of X G a_1
 have F_2:=fun_mk (st:=sRed) l_2 c_2 k_2
 have b_2:=F_2.binds (ps:=["top", "row", "divisor"]) fun _ _ _ _ _ _ us hl => by obtain ⟨_, _, _, rfl⟩:=len3 hl; rfl
 have m_2:=PySem.W.mg_of X G a_2
 have F_3:=fun_mk (st:=sEmpty) l_3 c_3 k_3
 have b_3:=F_3.binds (ps:=["n"]) fun _ _ _ _ _ _ us hl => by obtain ⟨_, rfl⟩:=len1 hl; rfl
 have m_3:=PySem.W.mg_of X G a_3
 have F_4:=fun_mk (st:=sGrowns) l_4 c_4 k_4
 have b_4:=F_4.binds (ps:=["n", "columns", "start", "to", "most"]) fun _ _ _ _ _ _ us hl => by obtain ⟨_, _, _, _, _, rfl⟩:=len5 hl; rfl
 have m_4:=PySem.W.mg_of X G a_4
 have F_5:=fun_mk (st:=sGrow) l_5 c_5 k_5
 have b_5:=F_5.binds (ps:=["choice", "column", "before", "most", "grown"]) fun _ _ _ _ _ _ us hl => by obtain ⟨_, _, _, _, _, rfl⟩:=len5 hl; rfl
 have m_5:=PySem.W.mg_of X G a_5
 have F_6:=fun_mk (st:=sRoot) l_6 c_6 k_6
 have b_6:=F_6.binds (ps:=["number"]) fun _ _ _ _ _ _ us hl => by obtain ⟨_, rfl⟩:=len1 hl; rfl
 have m_6:=PySem.W.mg_of X G a_6
 have F_7:=fun_mk (st:=sReduced) l_7 c_7 k_7
 have b_7:=F_7.binds (ps:=["n", "a"]) fun _ _ _ _ _ _ us hl => by obtain ⟨_, _, rfl⟩:=len2 hl; rfl
 have m_7:=PySem.W.mg_of X G a_7
 have F_8:=fun_mk (st:=sUnit) l_8 c_8 k_8
 have b_8:=F_8.binds (ps:=["n"]) fun _ _ _ _ _ _ us hl => by obtain ⟨_, rfl⟩:=len1 hl; rfl
 have m_8:=PySem.W.mg_of X G a_8
 have F_9:=fun_mk (st:=sCols) l_9 c_9 k_9
 have b_9:=F_9.binds (ps:=["rows", "basis"]) fun _ _ _ _ _ _ us hl => by obtain ⟨_, _, rfl⟩:=len2 hl; rfl
 have m_9:=PySem.W.mg_of X G a_9
 have F_10:=fun_mk (st:=sChg) l_10 c_10 k_10
 have b_10:=F_10.binds (ps:=["rows", "basis"]) fun _ _ _ _ _ _ us hl => by obtain ⟨_, _, rfl⟩:=len2 hl; rfl
 have m_10:=PySem.W.mg_of X G a_10
 have F_11:=fun_mk (st:=sProd) l_11 c_11 k_11
 have b_11:=F_11.binds (ps:=["left", "right"]) fun _ _ _ _ _ _ us hl => by obtain ⟨_, _, rfl⟩:=len2 hl; rfl
 have m_11:=PySem.W.mg_of X G a_11
 have F_12:=fun_mk (st:=sSettle) l_12 c_12 k_12
 have b_12:=F_12.binds (ps:=["columns", "marks"]) fun _ _ _ _ _ _ us hl => by obtain ⟨_, _, rfl⟩:=len2 hl; rfl
 have m_12:=PySem.W.mg_of X G a_12
 have F_13:=fun_mk (st:=sLess) l_13 c_13 k_13
 have b_13:=F_13.binds (ps:=["columns", "beside"]) fun _ _ _ _ _ _ us hl => by obtain ⟨_, _, rfl⟩:=len2 hl; rfl
 have m_13:=PySem.W.mg_of X G a_13
 have F_14:=fun_mk (st:=sFirst) l_14 c_14 k_14
 have b_14:=F_14.binds (ps:=["n", "a"]) fun _ _ _ _ _ _ us hl => by obtain ⟨_, _, rfl⟩:=len2 hl; rfl
 have m_14:=PySem.W.mg_of X G a_14
 have F_15:=fun_mk (st:=sLines) l_15 c_15 k_15
 have b_15:=F_15.binds (ps:=["n", "a"]) fun _ _ _ _ _ _ us hl => by obtain ⟨_, _, rfl⟩:=len2 hl; rfl
 have m_15:=PySem.W.mg_of X G a_15
 have F_16:=fun_mk (st:=sLonger) l_16 c_16 k_16
 have b_16:=F_16.binds (ps:=["rows", "lines", "starts", "owns"]) fun _ _ _ _ _ _ us hl => by obtain ⟨_, _, _, _, rfl⟩:=len4 hl; rfl
 have m_16:=PySem.W.mg_of X G a_16
 have F_17:=fun_mk (st:=sBy) l_17 c_17 k_17
 have b_17:=F_17.binds (ps:=["lines", "starts", "owns"]) fun _ _ _ _ _ _ us hl => by obtain ⟨_, _, _, rfl⟩:=len3 hl; rfl
 have m_17:=PySem.W.mg_of X G a_17
 have F_18:=fun_mk (st:=sShort) l_18 c_18 k_18
 have b_18:=F_18.binds (ps:=["tail", "owns"]) fun _ _ _ _ _ _ us hl => by obtain ⟨_, _, rfl⟩:=len2 hl; rfl
 have m_18:=PySem.W.mg_of X G a_18
 have F_19:=fun_mk (st:=sJoined) l_19 c_19 k_19
 have b_19:=F_19.binds (ps:=["rows", "joins"]) fun _ _ _ _ _ _ us hl => by obtain ⟨_, _, rfl⟩:=len2 hl; rfl
 have m_19:=PySem.W.mg_of X G a_19
 have F_20:=fun_mk (st:=sLong) l_20 c_20 k_20
 have b_20:=F_20.binds (ps:=["n", "minors", "line"]) fun _ _ _ _ _ _ us hl => by obtain ⟨_, _, _, rfl⟩:=len3 hl; rfl
 have m_20:=PySem.W.mg_of X G a_20
 have F_21:=fun_mk (st:=sGcd) l_21 c_21 k_21
 have b_21:=F_21.binds (ps:=["numbers"]) fun _ _ _ _ _ _ us hl => by obtain ⟨_, rfl⟩:=len1 hl; rfl
 have m_21:=PySem.W.mg_of X G a_21
 have F_22:=fun_mk (st:=sMirT) l_22 c_22 k_22
 have b_22:=F_22.binds (ps:=["n", "tails"]) fun _ _ _ _ _ _ us hl => by obtain ⟨_, _, rfl⟩:=len2 hl; rfl
 have m_22:=PySem.W.mg_of X G a_22
 have F_23:=fun_mk (st:=sTSame) l_23 c_23 k_23
 have b_23:=F_23.binds (ps:=["n", "a", "b"]) fun _ _ _ _ _ _ us hl => by obtain ⟨_, _, _, rfl⟩:=len3 hl; rfl
 have m_23:=PySem.W.mg_of X G a_23
 have F_24:=fun_mk (st:=sSize) l_24 c_24 k_24
 have b_24:=F_24.binds (ps:=["n"]) fun _ _ _ _ _ _ us hl => by obtain ⟨_, rfl⟩:=len1 hl; rfl
 have m_24:=PySem.W.mg_of X G a_24
 have F_25:=fun_mk (st:=sForm) l_25 c_25 k_25
 have b_25:=F_25.binds (ps:=["n", "a"]) fun _ _ _ _ _ _ us hl => by obtain ⟨_, _, rfl⟩:=len2 hl; rfl
 have m_25:=PySem.W.mg_of X G a_25
 have F_26:=fun_mk (st:=sBounds) l_26 c_26 k_26
 have b_26:=F_26.binds (ps:=["a"]) fun _ _ _ _ _ _ us hl => by obtain ⟨_, rfl⟩:=len1 hl; rfl
 have m_26:=PySem.W.mg_of X G a_26
 have F_27:=fun_mk (st:=sMirror) l_27 c_27 k_27
 have b_27:=F_27.binds (ps:=["n", "a"]) fun _ _ _ _ _ _ us hl => by obtain ⟨_, _, rfl⟩:=len2 hl; rfl
 have m_27:=PySem.W.mg_of X G a_27
 have F_28:=fun_mk (st:=sAbove) l_28 c_28 k_28
 have b_28:=F_28.binds (ps:=["n", "a"]) fun _ _ _ _ _ _ us hl => by obtain ⟨_, _, rfl⟩:=len2 hl; rfl
 have m_28:=PySem.W.mg_of X G a_28
 have F_29:=fun_mk (st:=sCorner) l_29 c_29 k_29
 have b_29:=F_29.binds (ps:=["n", "a"]) fun _ _ _ _ _ _ us hl => by obtain ⟨_, _, rfl⟩:=len2 hl; rfl
 have m_29:=PySem.W.mg_of X G a_29
 have c_OUT_OF_RANGE:=PySem.W.mg_of X G g_OUT_OF_RANGE
 have c_NOT_A_FORM:=PySem.W.mg_of X G g_NOT_A_FORM
 have c_MOST_UNKNOWNS_CHANGED:=PySem.W.mg_of X G g_MOST_UNKNOWNS_CHANGED
 have c_GREATEST_NUMBER:=PySem.W.mg_of X G g_GREATEST_NUMBER
 have u_zip:=PySem.W.mg_none_of X G n_zip
 have u_abs:=PySem.W.mg_none_of X G n_abs
 have u_range:=PySem.W.mg_none_of X G n_range
 have u_len:=PySem.W.mg_none_of X G n_len
 have u_sorted:=PySem.W.mg_none_of X G n_sorted
 have u_tuple:=PySem.W.mg_none_of X G n_tuple
 have u_list:=PySem.W.mg_none_of X G n_list
 have u_max:=PySem.W.mg_none_of X G n_max
 have u_reversed:=PySem.W.mg_none_of X G n_reversed
 have u_min:=PySem.W.mg_none_of X G n_min
 have u_sum:=PySem.W.mg_none_of X G n_sum
 refine ⟨PySem.W.fnOf "fm_same" "fm_same" (defArgs sTSame) (defBody sTSame) (defScope sTSame) .none kV_23 dc_23 pm_23 an_23 cd_23 ct_23, fun s us hu => match us, hu with | [_, _, _], _ => .of_eq rfl, fun base _ _ => ?_⟩
 have GS:=ok_split (P:=P) (w:=w) (base:=base) F_0 u_range
 have GT:=ok_top (P:=P) (w:=w) (base:=base) F_1 u_range u_len F_2 b_2 m_2
 have GC:=ok_corner F_29 GS k_0 b_0 m_0 GT k_1 b_1 m_1
 have GA:=ok_above F_28 GC k_29 b_29 m_29
 have GF:=ok_form F_25 (ok_bounds F_26 ⟨_, c_GREATEST_NUMBER⟩ u_min u_max) k_26 b_26 m_26 (ok_mirror F_27 u_range) k_27 b_27 m_27 GA k_28 b_28 m_28
 have GRt:=ok_root (P:=P) (w:=w) (mg:=mg) (base:=base) F_6
 have GGr:=ok_grow F_5 u_range u_zip GRt k_6 b_6 m_6
 have GGs:=ok_growns F_4 u_range u_len GGr k_5 b_5 m_5
 have GPr:=ok_prod (P:=P) (w:=w) (base:=base) F_11 u_zip u_sum
 have GU:=ok_unit (P:=P) (w:=w) (base:=base) F_8 u_range
 have GCh:=ok_chg F_10 GPr k_11 b_11 m_11
 have GCo:=ok_cols F_9 u_range u_len GCh k_10 b_10 m_10 GT k_1 b_1 m_1
 have GSt:=ok_settle (P:=P) (w:=w) (base:=base) F_12 u_len u_zip u_reversed
 have GLs:=ok_less (P:=P) (w:=w) (base:=base) F_13 u_len
 have GRd:=ok_reduced F_7 u_max GS k_0 b_0 m_0 GU k_8 b_8 m_8 GCo k_9 b_9 m_9 GSt k_12 b_12 m_12 GLs k_13 b_13 m_13
 have GEm:=ok_empty (P:=P) (w:=w) (mg:=mg) (base:=base) F_3
 have GDv:=ok_gcd (P:=P) (w:=w) (base:=base) F_21 u_abs
 have GSh:=ok_short (P:=P) (w:=w) (base:=base) F_18 u_zip u_abs
 have GLo:=ok_long (P:=P) (w:=w) (base:=base) F_20 u_range u_len u_sorted u_tuple
 have GJo:=ok_joined F_19 u_len u_list GPr k_11 b_11 m_11 GDv k_21 b_21 m_21 GLo k_20 b_20 m_20
 have GBy:=ok_by F_17 u_reversed u_tuple GPr k_11 b_11 m_11 GSh k_18 b_18 m_18
 have GLi:=ok_lines F_15 u_range u_max GGs k_4 b_4 m_4 GRd k_7 b_7 m_7 GEm k_3 b_3 m_3
 have GLg:=ok_longer F_16 u_sorted u_list GBy k_17 b_17 m_17 GJo k_19 b_19 m_19
 have GMi:=ok_mirT (P:=P) (w:=w) (base:=base) F_22 u_range u_max u_abs
 have GFi:=ok_first F_14 u_range u_reversed u_len GS k_0 b_0 m_0 GLi k_15 b_15 m_15 GLg k_16 b_16 m_16 GMi k_22 b_22 m_22
 exact ok_top_same F_23 ⟨_, c_OUT_OF_RANGE⟩ ⟨_, c_NOT_A_FORM⟩ (ok_size F_24 ⟨_, c_MOST_UNKNOWNS_CHANGED⟩) k_24 b_24 m_24 GF k_25 b_25 m_25 GFi k_14 b_14 m_14
end Pr
open PySem PySem.W PyProof.Rows
set_option maxHeartbeats 0 in
theorem PySem.Challenge.cw_formkeepdesk_s06_fm_same_holds : PySem.Challenge.rw_formkeepdesk_s06_fm_same.Holds := by
 w_on; k_headS; (case hw => exact ⟨[.int 0, .list [], .list []], by decide +kernel, by decide +kernel⟩)
 k_fillS
 refine L2.walk_specK (r:=PySem.Challenge.rw_formkeepdesk_s06_fm_same) (k:=7) (CX:=L2.CX0) (ps:=["n", "a", "b"]) (sp:=Pr.spTSame) (by decide +kernel) rfl rfl ⟨rfl, by decide, by decide⟩ (fun w h Y => PySem.W.kIn_of Y) ?F ?S (fun _ _ _ _ z => z)
 case F =>
  intro w mg fa h Y KX G hmg
  refine' Pr.all_mk KX G hmg ?a_0 ?l_0 ?c_0 ?k_0 ?a_1 ?l_1 ?c_1 ?k_1 ?a_2 ?l_2 ?c_2 ?k_2 ?a_3 ?l_3 ?c_3 ?k_3 ?a_4 ?l_4 ?c_4 ?k_4 ?a_5 ?l_5 ?c_5 ?k_5 ?a_6 ?l_6 ?c_6 ?k_6 ?a_7 ?l_7 ?c_7 ?k_7 ?a_8 ?l_8 ?c_8 ?k_8 ?a_9 ?l_9 ?c_9 ?k_9 ?a_10 ?l_10 ?c_10 ?k_10 ?a_11 ?l_11 ?c_11 ?k_11 ?a_12 ?l_12 ?c_12 ?k_12 ?a_13 ?l_13 ?c_13 ?k_13 ?a_14 ?l_14 ?c_14 ?k_14 ?a_15 ?l_15 ?c_15 ?k_15 ?a_16 ?l_16 ?c_16 ?k_16 ?a_17 ?l_17 ?c_17 ?k_17 ?a_18 ?l_18 ?c_18 ?k_18 ?a_19 ?l_19 ?c_19 ?k_19 ?a_20 ?l_20 ?c_20 ?k_20 ?a_21 ?l_21 ?c_21 ?k_21 ?a_22 ?l_22 ?c_22 ?k_22 ?a_23 ?l_23 ?c_23 ?k_23 ?a_24 ?l_24 ?c_24 ?k_24 ?a_25 ?l_25 ?c_25 ?k_25 ?a_26 ?l_26 ?c_26 ?k_26 ?a_27 ?l_27 ?c_27 ?k_27 ?a_28 ?l_28 ?c_28 ?k_28 ?a_29 ?l_29 ?c_29 ?k_29 ?g_OUT_OF_RANGE ?g_NOT_A_FORM ?g_MOST_UNKNOWNS_CHANGED ?g_GREATEST_NUMBER ?n_zip ?n_abs ?n_range ?n_len ?n_sorted ?n_tuple ?n_list ?n_max ?n_reversed ?n_min ?n_sum
  (case a_0 => k_is)
  (case l_0 => k_is)
  (case c_0 => k_is)
  (case k_0 => k_is)
  (case a_1 => k_is)
  (case l_1 => k_is)
  (case c_1 => k_is)
  (case k_1 => k_is)
  (case a_2 => k_is)
  (case l_2 => k_is)
  (case c_2 => k_is)
  (case k_2 => k_is)
  (case a_3 => k_is)
  (case l_3 => k_is)
  (case c_3 => k_is)
  (case k_3 => k_is)
  (case a_4 => k_is)
  (case l_4 => k_is)
  (case c_4 => k_is)
  (case k_4 => k_is)
  (case a_5 => k_is)
  (case l_5 => k_is)
  (case c_5 => k_is)
  (case k_5 => k_is)
  (case a_6 => k_is)
  (case l_6 => k_is)
  (case c_6 => k_is)
  (case k_6 => k_is)
  (case a_7 => k_is)
  (case l_7 => k_is)
  (case c_7 => k_is)
  (case k_7 => k_is)
  (case a_8 => k_is)
  (case l_8 => k_is)
  (case c_8 => k_is)
  (case k_8 => k_is)
  (case a_9 => k_is)
  (case l_9 => k_is)
  (case c_9 => k_is)
  (case k_9 => k_is)
  (case a_10 => k_is)
  (case l_10 => k_is)
  (case c_10 => k_is)
  (case k_10 => k_is)
  (case a_11 => k_is)
  (case l_11 => k_is)
  (case c_11 => k_is)
  (case k_11 => k_is)
  (case a_12 => k_is)
  (case l_12 => k_is)
  (case c_12 => k_is)
  (case k_12 => k_is)
  (case a_13 => k_is)
  (case l_13 => k_is)
  (case c_13 => k_is)
  (case k_13 => k_is)
  (case a_14 => k_is)
  (case l_14 => k_is)
  (case c_14 => k_is)
  (case k_14 => k_is)
  (case a_15 => k_is)
  (case l_15 => k_is)
  (case c_15 => k_is)
  (case k_15 => k_is)
  (case a_16 => k_is)
  (case l_16 => k_is)
  (case c_16 => k_is)
  (case k_16 => k_is)
  (case a_17 => k_is)
  (case l_17 => k_is)
  (case c_17 => k_is)
  (case k_17 => k_is)
  (case a_18 => k_is)
  (case l_18 => k_is)
  (case c_18 => k_is)
  (case k_18 => k_is)
  (case a_19 => k_is)
  (case l_19 => k_is)
  (case c_19 => k_is)
  (case k_19 => k_is)
  (case a_20 => k_is)
  (case l_20 => k_is)
  (case c_20 => k_is)
  (case k_20 => k_is)
  (case a_21 => k_is)
  (case l_21 => k_is)
  (case c_21 => k_is)
  (case k_21 => k_is)
  (case a_22 => k_is)
  (case l_22 => k_is)
  (case c_22 => k_is)
  (case k_22 => k_is)
  (case a_23 => k_is)
  (case l_23 => k_is)
  (case c_23 => k_is)
  (case k_23 => k_is)
  (case a_24 => k_is)
  (case l_24 => k_is)
  (case c_24 => k_is)
  (case k_24 => k_is)
  (case a_25 => k_is)
  (case l_25 => k_is)
  (case c_25 => k_is)
  (case k_25 => k_is)
  (case a_26 => k_is)
  (case l_26 => k_is)
  (case c_26 => k_is)
  (case k_26 => k_is)
  (case a_27 => k_is)
  (case l_27 => k_is)
  (case c_27 => k_is)
  (case k_27 => k_is)
  (case a_28 => k_is)
  (case l_28 => k_is)
  (case c_28 => k_is)
  (case k_28 => k_is)
  (case a_29 => k_is)
  (case l_29 => k_is)
  (case c_29 => k_is)
  (case k_29 => k_is)
  (case g_OUT_OF_RANGE => k_is)
  (case g_NOT_A_FORM => k_is)
  (case g_MOST_UNKNOWNS_CHANGED => k_is)
  (case g_GREATEST_NUMBER => k_is)
  (case n_zip => k_is)
  (case n_abs => k_is)
  (case n_range => k_is)
  (case n_len => k_is)
  (case n_sorted => k_is)
  (case n_tuple => k_is)
  (case n_list => k_is)
  (case n_max => k_is)
  (case n_reversed => k_is)
  (case n_min => k_is)
  (case n_sum => k_is)
 case S =>
  intro K H xs a hO hwi hask hx
  cases hx with
  | cons h1 h2 =>
   cases h2 with
   | cons h3 h4 =>
    cases h4 with
    | cons h5 h6 =>
     cases h6
     cases h1
     cases h3 with
     | lst hs ha =>
      cases h5 with
      | lst hs' hb =>
       have e:=L2.ints_dw a.2.1 _ ha
       subst e
       have e:=L2.ints_dw a.2.2.1 _ hb
       subst e
       exact ⟨a.1, _, _, a.2.1, a.2.2.1, rfl, hs, hs', (Pr.asked_nn hask).1, (Pr.asked_nn hask).2, fun H' p hp => .lst (L2.SqL.of hp) (L2.dw_ints _)⟩
